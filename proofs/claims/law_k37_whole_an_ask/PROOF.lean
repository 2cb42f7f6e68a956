import PyProof.Rows.All
import PySem.Challenge.RW_staywalk_k37_whole_an_ask
import KE.KFromBytes
import KE.KPairComp
import KE.KSortTup
import KE.KIsAll
import KE.KDictSum
import KE.KRevIter
import KE.KRevSl
import KE.KEqDict
import KE.LcSums
import KE.KDictOf
set_option Elab.async false
set_option linter.all false
set_option maxRecDepth 100000
set_option maxHeartbeats 0
local macro_rules | `(tactic| omega) => `(tactic| lia)
abbrev Q0:=@List.length_map
abbrev Q1:=@List.mem_of_getElem?
abbrev Q2:=@List.getElem?_eq_some_iff
abbrev Q3:=@List.getElem?_eq_getElem
abbrev Q4:=@List.mem_append
abbrev Q5:=@Nat.le_refl
abbrev Q6:=@Array.length_toList
abbrev Q7:=@List.length_take
abbrev Q8:=@List.length_append
abbrev Q9:=@List.map_append
abbrev Qa:=@PySem.W.mg_of
abbrev Qb:=@List.mem_singleton
abbrev Qc:=@Int.emod_lt_of_pos
abbrev Qd:=@Int.emod_nonneg
abbrev Qe:=@Bool.false_ne_true
abbrev Qf:=@Nat.zero_le
abbrev Qg:=@List.mem_map
abbrev Qh:=@List.mem_cons_of_mem
abbrev Qi:=@List.size_toArray
abbrev Qj:=@List.mem_cons_self
abbrev Qk:=@List.pairwise_append
abbrev Ql:=@List.getD_eq_getElem?_getD
abbrev Qm:=@List.mem_cons
abbrev Qn:=@List.length_filter_le
abbrev Qo:=@List.append_assoc
abbrev Qp:=@List.length_cons
abbrev Qq:=@PySem.F.plainAttrs_list
abbrev Qr:=@List.take_add_one
abbrev Qs:=@List.map_cons
abbrev Qt:=@List.mem_append_right
abbrev Qu:=@Array.getElem?_toList
abbrev Qv:=@List.getElem?_set
abbrev Qw:=@Nat.lt_of_lt_of_le
abbrev Qx:=@List.filter_append
abbrev Qy:=@List.getElem_of_mem
abbrev Qz:=@List.take_of_length_le
abbrev QA:=@List.getElem?_map
abbrev QB:=@List.mem_filter
abbrev QC:=@Bool.and_eq_true_iff
abbrev QD:=@List.pairwise_map
abbrev QE:=@Nat.ne_of_lt
abbrev QF:=@Array.toList_append
abbrev QG:=@List.length_drop
abbrev QH:=@List.length_set
abbrev QI:=@Bool.and_eq_true
abbrev QJ:=@List.take_length
abbrev QK:=@Nat.le_trans
abbrev QL:=@List.map_map
abbrev QM:=@PySem.W.mg_none_of
abbrev QN:=@List.take_append_drop
abbrev QO:=@Nat.max_eq_right
abbrev QP:=@List.nodup_cons
abbrev QQ:=@Int.toNat_natCast
abbrev QR:=@Bool.eq_false_iff
abbrev QS:=@Int.ne_of_gt
abbrev QT:=@List.pairwise_iff_getElem
abbrev QU:=@List.extract_eq_take_drop
abbrev QV:=@PySem.W.kia_one
abbrev QW:=@List.length_pos_iff
abbrev QX:=@List.length_reverse
abbrev QY:=@List.drop_eq_getElem_cons
abbrev QZ:=@List.not_mem_nil
abbrev Z0:=@List.mem_of_mem_eraseIdx
abbrev Z1:=@PySem.F.slot_list_append
abbrev Z2:=@PySem.F.type_list_append
abbrev Z3:=@Array.toList_extract
abbrev Z4:=@List.mem_of_mem_take
abbrev Z5:=@Int.eq_ofNat_of_zero_le
abbrev Z6:=@List.pairwise_singleton
abbrev Z7:=@List.flatten_cons
abbrev Z8:=@List.flatten_append
abbrev Z9:=@List.drop_eq_nil_of_le
abbrev Za:=@List.getElem_mem
abbrev Zb:=@List.getElem?_append_right
abbrev Zc:=@List.nodup_nil
abbrev Zd:=@Bool.false_eq_true
abbrev Ze:=@List.length_replicate
abbrev Zf:=@List.length_singleton
abbrev Zg:=@List.getElem?_append_left
abbrev Zh:=@List.getElem?_eq_none_iff
abbrev Zi:=@List.ne_nil_of_length_pos
abbrev Zj:=@Nat.le_of_lt
abbrev Zk:=@Nat.le_of_eq
abbrev Zl:=@List.getElem_take
abbrev Zm:=@List.eq_of_mem_replicate
abbrev Zn:=@List.map_take
abbrev Zo:=@List.map_congr_left
abbrev Zp:=@List.drop_zero
abbrev Zq:=@List.all_eq_true
abbrev Zr:=@PySem.F.plainAttrs_dict
abbrev Zs:=@Nat.le_succ
abbrev Zt:=@Nat.lt_irrefl
abbrev Zu:=@PySem.W.methodCall_KW
abbrev Zv:=@List.getElem_drop
abbrev Zw:=@Bool.false_and
abbrev Zx:=@List.mem_iff_getElem
abbrev Zy:=@Int.le_refl
abbrev Zz:=@Nat.lt_succ_self
abbrev ZA:=@List.lookup_cons
abbrev ZB:=@List.mem_flatMap
abbrev ZC:=@List.mem_map_of_mem
abbrev ZD:=@PySem.F.slot_list_extend
abbrev ZE:=@PySem.F.type_list_extend
abbrev ZF:=@List.append_nil
abbrev ZG:=@List.find?_cons
abbrev ZH:=@PySem.W.callWith_K
abbrev ZI:=@Nat.eq_zero_or_pos
abbrev ZJ:=@Nat.pow_succ
abbrev ZL:=@Nat.add_zero
abbrev ZM:=@List.filter_eq_nil_iff
abbrev ZN:=@List.perm_append_comm
abbrev ZO:=@List.filter_cons
abbrev ZP:=@List.mem_reverse
abbrev ZQ:=@List.any_cons
abbrev ZR:=@Bool.true_and
abbrev ZS:=@Array.toArray_toList
abbrev ZT:=@List.mem_append_left
abbrev ZU:=@Array.push_eq_append
abbrev ZV:=@List.mem_of_mem_drop
abbrev ZW:=@Int.lt_ediv_add_one_mul_self
abbrev ZX:=@Nat.mul_comm
abbrev ZY:=@Nat.lt_of_le_of_lt
abbrev ZZ:=@List.getElem?_drop
abbrev X0:=@Array.perm_iff_toList_perm
abbrev X1:=@List.pairwise_cons
abbrev X2:=@Int.mul_nonneg
abbrev X3:=@List.take_sublist
abbrev X4:=@Option.isSome_iff_exists
abbrev X5:=@List.getElem?_take_of_lt
abbrev X6:=@PySem.F.slot_dict_items
abbrev X7:=@List.getElem?_cons_succ
abbrev X8:=@List.getElem?_set_self
abbrev X9:=@Nat.div_div_eq_div_mul
abbrev Xa:=@Int.mul_comm
abbrev Xb:=@Bool.eq_iff_iff
abbrev Xc:=@Option.map_some
abbrev Xd:=@Nat.min_eq_left
abbrev Xe:=@PySem.F.slot_dict_pop
abbrev Xf:=@Int.mul_ediv_add_emod
abbrev Xg:=@Array.getElem_push_lt
abbrev Xh:=@List.pairwise_reverse
abbrev Xi:=@List.getElem?_append
abbrev Xj:=@List.length_eraseIdx
abbrev Xk:=@List.filterMap_cons
abbrev Xl:=@PySem.W.plainGet_of
abbrev Xm:=@Int.toNat_of_nonneg
abbrev Xn:=@List.take_succ_cons
abbrev Xo:=@List.map_drop
abbrev Xp:=@List.take_nil
abbrev Xq:=@Int.natCast_nonneg
abbrev Xr:=@Nat.lt_or_eq_of_le
abbrev Xs:=@List.eraseIdx_append_of_length_le
abbrev Xu:=@Option.isSome_map
abbrev Xv:=@Int.le_of_lt
abbrev Xw:=@Nat.zero_add
abbrev Xx:=@Array.toList_push
abbrev Xy:=@List.map_id'
abbrev Xz:=@List.filter_congr
abbrev XA:=@List.nodup_append
abbrev XB:=@List.eraseIdxIfInBounds_toArray
abbrev XC:=@PySem.W.kat_cons
abbrev XD:=@List.mem_flatten
abbrev XE:=@Int.mul_le_mul_of_nonneg_right
abbrev XF:=@Int.mul_le_mul_of_nonneg_left
abbrev XG:=@List.take_append_of_le_length
abbrev XH:=@List.of_mem_zip
abbrev XI:=@List.length_nil
abbrev XJ:=@Nat.not_lt_zero
abbrev XM:=@PySem.F.slot_dict_setdefault
abbrev XN:=@Int.ediv_nonneg
abbrev XO:=@PySem.W.kat_yes
abbrev XQ:=@List.mem_range
abbrev XR:=@Int.fdiv_eq_ediv_of_nonneg
abbrev XS:=@List.drop_drop
abbrev XT:=@Array.toList_setIfInBounds
abbrev XU:=@PySem.W.kat_go
abbrev XV:=@PySem.W.kat_no
abbrev XW:=@List.perm_ext_iff_of_nodup
namespace L2
open PySem PySem.Spec PyProof.Rows
noncomputable def aK (s:Stmt) (j:Nat):Stmt:=match s with
 | .ClassDef _ _ _ body _ _ _ _ _ _ _=>body.getD j (.Pass ⟨0,0,0,0⟩)
 |_=> .Pass ⟨0,0,0,0⟩
noncomputable def fc (s:Stmt):Arguments:=match s with
 | .FunctionDef _ a _ _ _ _ _ _ _ _=>a
 |_=>{posonlyargs:=[],args:=[],vararg:=none,kwonlyargs:=[],kw_defaults:=[],kwarg:=none,defaults:=[]}
noncomputable def dA (s:Stmt):List Stmt:=match s with
 | .FunctionDef _ _ b _ _ _ _ _ _ _=>b
 |_=> []
noncomputable def ak (s:Stmt):Scope:=match s with
 | .FunctionDef _ _ _ _ _ _ sc _ _ _=>sc
 |_=>{kind:= .function,names:=[],isGenerator:=false,isCoroutine:=false}
end L2
namespace HD
open PySem PySem.W
noncomputable def Cn (p:Program) (w:World) (n₀:Nat) (ann:Option Value):Nat→SharedT→Thread→Option SharedT
 |0,_,_=>none
 |n+1,s,t=>match through t with
  |true=>some s
  |false=>match Fast.tw6613529449190102663 n₀ ann t with
   |false=>none
   |true=>match Fast.tw10156331382660048174 (Fast.tw11892475500146522536 Fast.tw14364793385576792824) p w s t with
    |some (s',t')=>Cn p w n₀ ann n s' t'
    |none=>none
theorem xV {p:Program} {w:World} {n₀:Nat} {ann:Option Value}:∀{n:Nat} {s s':SharedT} {t:Thread},Cn p w n₀ ann n s t=some s'→topRun treeTable p w n₀ ann n s.abs t=some s'.abs
 |0,_,_,_,h=>by cases h
 |n+1,s,s',t,h=>by
  unfold Cn at h
  rw[←Fast.te6613529449190102663,←Fast.te10156331382660048174,←Fast.te11892475500146522536,←Fast.te14364793385576792824]at h
  unfold topRun
  cases ht:through t with
  |true=>rw[ht]at h;cases h;rfl
  |false=>
   rw[ht]at h
   cases hk:stepOk n₀ ann t with
   |false=>rw[hk]at h;cases h
   |true=>
    rw[hk]at h
    cases hs:stepT (denote treeTable) p w s t with
    |none=>rw[hs]at h;cases h
    |some x=>
     obtain⟨s2,t2⟩:=x
     rw[hs]at h
     show(match step (denote treeTable) p w s.abs t with| .go s' t'=>topRun treeTable p w n₀ ann n s' t'| .halt _ _=>none)=_
     rw[stepT_spec hs]
     exact xV h
noncomputable def AL:List Obj→BT→Nat→Option (BT×Nat)
 | [],t,n=>some (t,n)
 |o::r,t,n=>match ((t.ins n o).get n).isSome with
  |true=>AL r (t.ins n o) (n+1)
  |false=>none
theorem yi {life:Life}:∀{l:List Obj} {t t':BT} {n n':Nat},AL l t n=some (t',n')→absHeap t' n' life=⟨(absHeap t n life).objs++l.toArray,life⟩
 | [],t,t',n,n',h=>by
  cases h
  rw[Array.append_empty]
  rfl
 |o::r,t,t',n,n',h=>by
  unfold AL at h
  cases g:((t.ins n o).get n).isSome with
  |false=>rw[g]at h;cases h
  |true=>
   rw[g]at h
   rw[yi h,absHeap_ins g]
   show Heap.mk _ _=Heap.mk _ _
   congr 1
   show(absHeap t n life).objs.push o++r.toArray=_
   rw[←Array.append_singleton,Array.append_assoc]
   congr 1
   simp
noncomputable def toT (s:Shared):Option SharedT:=match AL s.heap.objs.toList .nil 0 with
 |some (t,n)=>some ⟨t,n,s.heap.life,s.gens,s.drawn,s.toks,s.os⟩
 |none=>none
theorem D4 {s:Shared} {S:SharedT} (h:toT s=some S):S.abs=s:=by
 unfold toT at h
 cases e:AL s.heap.objs.toList .nil 0 with
 |none=>rw[e]at h;cases h
 |some x=>
  obtain⟨t,n⟩:=x
  rw[e]at h
  cases h
  obtain⟨⟨objs,life⟩,gens,drawn,toks,os⟩:=s
  show Shared.mk (absHeap t n life) _ _ _ _=_
  rw[yi e]
  show Shared.mk (Heap.mk (#[]++objs.toList.toArray) life) _ _ _ _=_
  rw[ZS,Array.empty_append]
noncomputable def ET (p:Program) (w:World) (N:Nat) (s₀:Shared):Option Shared:=match toT s₀ with
 |some S=>(Cn p w S.n (s₀.heap.nsMap mainGlobals "__annotations__") N S (topStub p)).map SharedT.abs
 |none=>none
theorem C4 {p:Program} {w:World} {N:Nat} {s₀ s₁:Shared} (h:ET p w N s₀=some s₁):topRun treeTable p w s₀.heap.objs.size (s₀.heap.nsMap mainGlobals "__annotations__") N s₀ (topStub p)=some s₁:=by
 unfold ET at h
 cases e:toT s₀ with
 |none=>rw[e]at h;cases h
 |some S=>
  rw[e]at h
  obtain⟨S1,h1,rfl⟩:=Option.map_eq_some_iff.mp h
  have ea:=D4 e
  have en:S.n=s₀.heap.objs.size:=by
   rw[←ea]
   exact(absHeap_size _ _ _).symm
  rw[en]at h1
  have:=xV h1
  rw[ea]at this
  exact this
theorem left_of {p q:Program} {loose:List Str} {Xt:Shared→Bool} {α:Type} {Yf:Shared→α} {Ya:World→α} {N:Nat}
  (h:∀w,((Fast.tw10274390034422433532 Fast.tw14364793385576792824 (opening p) w N (start (opening p)).1 (start (opening p)).2).bind (Fast.tw14289696077712309145 p)).bind (λs₀=>match s₀.heap.isNs mainGlobals&&s₀.gens.size==0 with
   |true=>(ET p w N s₀).bind λs₁=>match staticsOk (importedModules p.main.body) s₀.heap s₁.heap&&namesBound p s₁.heap&&gensDone s₁&&laidKept s₀.heap s₁.heap with
    |true=>some (Fast.tw4187177175401517315 q loose (importedModules p.main.body) Xt true s₁,Yf s₁)
    |false=>none
   |false=>none)=some (openGood q loose,Ya w)):LeftO p q loose Xt Yf Ya N:=λw=>by
 have h:=h w
 rw[←Fast.te10274390034422433532,←Fast.te14364793385576792824,←Fast.te14289696077712309145,←Fast.te4187177175401517315]at h
 obtain⟨s₀,h0,h⟩:=Option.bind_eq_some_iff.mp h
 unfold openEnds fencedOpening
 rw[h0]
 show(topFrom treeTable p w N s₀).map _=_
 unfold topFrom
 cases hg:(s₀.heap.isNs mainGlobals&&s₀.gens.size==0)with
 |false=>rw[hg]at h;cases h
 |true=>
  rw[hg]at h
  obtain⟨s₁,h1,h⟩:=Option.bind_eq_some_iff.mp h
  show Option.map _ ((topRun treeTable p w s₀.heap.objs.size (s₀.heap.nsMap mainGlobals "__annotations__") N s₀ (topStub p)).bind _)=_
  rw[C4 h1]
  cases hs:(staticsOk (importedModules p.main.body) s₀.heap s₁.heap&&namesBound p s₁.heap&&gensDone s₁&&laidKept s₀.heap s₁.heap)with
  |false=>rw[hs]at h;cases h
  |true=>
   rw[hs]at h
   show Option.map _ (match (staticsOk (importedModules p.main.body) s₀.heap s₁.heap&&namesBound p s₁.heap&&gensDone s₁&&laidKept s₀.heap s₁.heap)with|true=>some s₁|false=>none)=_
   rw[hs]
   exact h
end HD
namespace SW
open PySem L2
set_option maxHeartbeats 0
noncomputable def top (i:Nat):Stmt:=PySem.Challenge.pw_staywalk_k37_whole_an_ask.main.body.getD i (.Pass ⟨0,0,0,0⟩)
noncomputable abbrev kx:Stmt:=aK (top 4) 0
noncomputable abbrev ku:Stmt:=aK (top 5) 0
noncomputable abbrev jr:Stmt:=aK (top 6) 0
noncomputable abbrev g7:Stmt:=aK (top 7) 0
noncomputable abbrev qd:Stmt:=top 11
noncomputable abbrev nB:Stmt:=top 12
noncomputable abbrev lg:Stmt:=top 13
noncomputable abbrev ni:Stmt:=top 14
noncomputable abbrev ir:Stmt:=top 15
noncomputable abbrev nu:Stmt:=top 16
noncomputable abbrev lh:Stmt:=top 18
noncomputable abbrev nC:Stmt:=top 20
noncomputable abbrev gs:Stmt:=aK (top 21) 0
noncomputable abbrev eF:Stmt:=aK (top 22) 0
noncomputable abbrev dL:Stmt:=aK (top 22) 1
noncomputable abbrev lq:Stmt:=aK (top 23) 0
noncomputable abbrev jq:Stmt:=aK (top 23) 1
noncomputable abbrev iG:Stmt:=aK (top 24) 0
noncomputable abbrev gG:Stmt:=aK (top 24) 1
noncomputable abbrev Ac:Stmt:=top 27
noncomputable abbrev eE:Stmt:=top 28
noncomputable abbrev de:Stmt:=top 29
noncomputable abbrev dg:Stmt:=top 30
noncomputable abbrev jn:Stmt:=top 31
noncomputable abbrev fu:Stmt:=top 32
noncomputable abbrev fA:Stmt:=aK (top 36) 0
noncomputable abbrev dY:Stmt:=aK (top 36) 1
noncomputable abbrev dn:Stmt:=aK (top 36) 2
noncomputable abbrev gA:Stmt:=aK (top 36) 3
noncomputable abbrev jt:Stmt:=aK (top 36) 4
noncomputable abbrev b7:Stmt:=aK (top 36) 6
noncomputable abbrev bR:Stmt:=aK (top 36) 7
noncomputable abbrev dj:Stmt:=aK (top 36) 8
noncomputable abbrev cx:Stmt:=aK (top 36) 9
noncomputable abbrev cp:Stmt:=aK (top 36) 10
noncomputable abbrev gy:Stmt:=aK (top 38) 0
noncomputable abbrev gx:Stmt:=aK (top 38) 1
noncomputable abbrev f8:Stmt:=top 42
noncomputable abbrev gv:Stmt:=aK (top 43) 0
noncomputable abbrev iB:Stmt:=aK (top 43) 1
noncomputable abbrev gw:Stmt:=aK (top 43) 2
noncomputable abbrev iD:Stmt:=aK (top 43) 3
noncomputable abbrev iC:Stmt:=aK (top 43) 4
noncomputable abbrev dX:Stmt:=aK (top 43) 6
noncomputable abbrev js:Stmt:=aK (top 43) 7
noncomputable abbrev cN:Stmt:=aK (top 43) 9
noncomputable abbrev gu:Stmt:=aK (top 43) 10
noncomputable abbrev dJ:Stmt:=aK (top 43) 11
noncomputable abbrev dh:Stmt:=aK (top 43) 12
noncomputable abbrev cV:Stmt:=aK (top 43) 13
noncomputable abbrev cW:Stmt:=aK (top 43) 14
noncomputable abbrev gB:Stmt:=aK (top 45) 0
noncomputable abbrev iE:Stmt:=aK (top 45) 1
noncomputable abbrev gE:Stmt:=aK (top 45) 2
noncomputable abbrev iF:Stmt:=aK (top 45) 3
noncomputable abbrev l5:Stmt:=aK (top 45) 4
noncomputable abbrev gF:Stmt:=aK (top 45) 15
noncomputable abbrev fz:Stmt:=top 47
noncomputable abbrev iy:Stmt:=top 48
noncomputable abbrev iw:Stmt:=top 49
noncomputable abbrev fv:Stmt:=top 50
noncomputable abbrev jp:Stmt:=top 51
noncomputable abbrev iz:Stmt:=top 52
noncomputable abbrev cw:Stmt:=top 53
noncomputable abbrev fw:Stmt:=top 54
noncomputable abbrev iu:Stmt:=top 55
noncomputable abbrev iA:Stmt:=top 56
noncomputable abbrev jo:Stmt:=top 57
noncomputable abbrev vz:Stmt:=top 58
set_option genSizeOf false in
set_option genInjectivity false in
structure Adr where
 BU:Addr
 kJ:FuncData
 BS:Addr
 kI:FuncData
 BA:Addr
 jN:FuncData
 zE:Addr
 ie:FuncData
 wy:Addr
 qR:FuncData
 t7:Addr
 nZ:FuncData
 qX:Addr
 lK:FuncData
 tY:Addr
 nW:FuncData
 mM:Addr
 iQ:FuncData
 tZ:Addr
 nY:FuncData
 qY:Addr
 lL:FuncData
 t9:Addr
 n8:FuncData
 gZ:Addr
 gL:FuncData
 jc:Addr
 b3:FuncData
 ip:Addr
 dS:FuncData
 q9:Addr
 fS:FuncData
 oK:Addr
 jM:FuncData
 mX:Addr
 dF:FuncData
 kY:Addr
 gY:FuncData
 DS:Addr
 wm:FuncData
 i9:Addr
 eJ:FuncData
 jT:Addr
 fO:FuncData
 jU:Addr
 fP:FuncData
 oG:Addr
 jI:FuncData
 jS:Addr
 fN:FuncData
 jX:Addr
 fV:FuncData
 kT:Addr
 gU:FuncData
 gp:Addr
 dE:FuncData
 kS:Addr
 gT:FuncData
 re:Addr
 jP:FuncData
 gl:Addr
 dD:FuncData
 eT:Addr
 cJ:FuncData
 gk:Addr
 dC:FuncData
 eS:Addr
 cI:FuncData
 eD:Addr
 cu:FuncData
 kR:Addr
 gS:FuncData
 kQ:Addr
 gR:FuncData
 oH:Addr
 jJ:FuncData
 kO:Addr
 gP:FuncData
 mS:Addr
 iW:FuncData
 kP:Addr
 gQ:FuncData
 mU:Addr
 iY:FuncData
 mT:Addr
 iX:FuncData
 kN:Addr
 gO:FuncData
 rc:Addr
 jO:FuncData
 kM:Addr
 gN:FuncData
 kL:Addr
 gM:FuncData
 io:Addr
 dR:FuncData
 gj:Addr
 dB:FuncData
 fW:Addr
 cY:FuncData
 fX:Addr
 cZ:FuncData
 kU:Addr
 gV:FuncData
 mV:Addr
 iZ:FuncData
 kW:Addr
 gW:FuncData
 mW:Addr
 i4:FuncData
 uZ:Addr
 mJ:FuncData
 kX:Addr
 gX:FuncData
 jW:Addr
 fR:FuncData
 mP:Addr
 iT:FuncData
 mO:Addr
 iS:FuncData
 qZ:Addr
 lM:FuncData
 oJ:Addr
 jL:FuncData
 mQ:Addr
 iU:FuncData
 eQ:Addr
 cH:FuncData
 jV:Addr
 fQ:FuncData
 mN:Addr
 iR:FuncData
 mR:Addr
 iV:FuncData
 oI:Addr
 jK:FuncData
 DR:Addr
 yz:FuncData
 bp:Addr
 kj:Addr
 yB:Addr
 yA:Addr
 wv:Addr
 qU:Addr
 fe:Addr
 aO:Addr
 cK:Addr
 bW:Addr
 bn:Addr
 d8:Addr
 aT:Addr
 aH:Addr
end SW
namespace ZK
open PySem PySem.W SW L2
noncomputable abbrev N:Value:= .none
noncomputable abbrev B (b:Bool):Value:= .bool b
noncomputable abbrev I (i:Int):Value:= .int i 0
noncomputable abbrev S (x:Str) (t:Nat):Value:= .str x t
noncomputable abbrev F (t:Nat):Value:= .str "/claim/cut.py" t
noncomputable abbrev R (a:Addr):Value:= .ref a
noncomputable abbrev T (n:String):Value:= .type n
noncomputable abbrev E (P:Params) (x:Str) (t:Nat) (v:Value):DictEntry:=⟨PyData.keyHash P x,.str x t,v⟩
noncomputable abbrev c (vs:List Value):Obj:=⟨.type "code",none,.fields vs.toArray, #[]⟩
noncomputable abbrev D (nm qn:Str) (s:Stmt) (df kV dc pm:Value) (an:Option Addr) (cd ct:Value):FuncData:=fnOf nm qn (fc s) (dA s) (ak s) df kV dc pm an cd ct
noncomputable abbrev f (d:FuncData):Obj:=⟨.type "function",none,.func d, #[]⟩
noncomputable def t:Adr:=⟨60,D "__init__" "NoKey.__init__" kx N N N (S "staywalk.errors" 194) none (R 59) N,79,D "__init__" "Twice.__init__" ku N N N (S "staywalk.errors" 194) none (R 78) N,98,D "__init__" "TooOld.__init__" jr N N N (S "staywalk.errors" 194) none (R 97) N,117,D "__init__" "NoMoment.__init__" g7 N N N (S "staywalk.errors" 194) none (R 116) N,129,D "turned" "turned" qd N N N (S "staywalk.bits" 330) none (R 128) N,136,D "mark_of" "mark_of" nB N N N (S "staywalk.bits" 330) none (R 135) N,143,D "place_of" "place_of" lg N N N (S "staywalk.bits" 330) none (R 142) N,150,D "slot_of" "slot_of" ni N N N (S "staywalk.bits" 330) none (R 149) N,157,D "stretch_of" "stretch_of" ir N N N (S "staywalk.bits" 330) none (R 156) N,164,D "slot_at" "slot_at" nu N N N (S "staywalk.bits" 330) none (R 163) N,171,D "is_whole" "is_whole" lh N N N (S "staywalk.wholes" 385) none (R 170) N,178,D "is_from" "is_from" nC N N N (S "staywalk.tokens" 394) none (R 177) N,192,D "__init__" "Token.__init__" gs N N N (S "staywalk.tokens" 394) none (R 191) N,221,D "__init__" "BySlots.__init__" eF (R 214) N N (S "staywalk.tokens" 394) none (R 220) N,228,D "holds" "BySlots.holds" dL N N N (S "staywalk.tokens" 394) none (R 227) N,248,D "__init__" "Up.__init__" lq (R 241) N N (S "staywalk.tokens" 394) none (R 247) N,255,D "holds" "Up.holds" jq N N N (S "staywalk.tokens" 394) none (R 254) N,275,D "__init__" "Down.__init__" iG (R 268) N N (S "staywalk.tokens" 394) none (R 274) N,282,D "holds" "Down.holds" gG N N N (S "staywalk.tokens" 394) none (R 281) N,293,D "ask" "ask" Ac (R 288) N N (S "staywalk.asks" 547) none (R 292) N,300,D "page_by_slots" "page_by_slots" eE N N N (S "staywalk.asks" 547) none (R 299) N,305,D "page_by_keys" "page_by_keys" de N N N (S "staywalk.asks" 547) none (R 304) N,310,D "keys_of_page" "keys_of_page" dg N N N (S "staywalk.asks" 547) none (R 309) N,317,D "keys_near" "keys_near" jn N N N (S "staywalk.asks" 547) none (R 316) N,324,D "token_behind" "token_behind" fu N N N (S "staywalk.asks" 547) none (R 323) N,338,D "__init__" "Leaves.__init__" fA N N N (S "staywalk.leaves" 600) none (R 337) N,343,D "add" "Leaves.add" dY N N N (S "staywalk.leaves" 600) none (R 342) N,350,D "discard" "Leaves.discard" dn N N N (S "staywalk.leaves" 600) none (R 349) N,357,D "has" "Leaves.has" gA N N N (S "staywalk.leaves" 600) none (R 356) N,362,D "many" "Leaves.many" jt N N N (S "staywalk.leaves" 600) none (R 361) N,374,D "from_on" "Leaves.from_on" b7 N N N (S "staywalk.leaves" 600) none (R 373) N,379,D "down_from" "Leaves.down_from" bR N N N (S "staywalk.leaves" 600) none (R 378) N,386,D "leaf_of" "Leaves.leaf_of" dj N N N (S "staywalk.leaves" 600) none (R 385) N,393,D "part_leaf" "Leaves.part_leaf" cx N N N (S "staywalk.leaves" 600) none (R 392) N,400,D "join_small" "Leaves.join_small" cp N N N (S "staywalk.leaves" 600) none (R 399) N,421,D "__init__" "Makes.__init__" gy N N N (S "staywalk.makes" 713) none (R 420) N,428,D "note" "Makes.note" gx N N N (S "staywalk.makes" 713) none (R 427) N,461,D "empty_row" "empty_row" f8 N N N (S "staywalk.slots" 776) none (R 460) N,475,D "__init__" "Slots.__init__" gv N N N (S "staywalk.slots" 776) none (R 474) N,482,D "put" "Slots.put" iB N N N (S "staywalk.slots" 776) none (R 481) N,489,D "drop" "Slots.drop" gw N N N (S "staywalk.slots" 776) none (R 488) N,496,D "get" "Slots.get" iD N N N (S "staywalk.slots" 776) none (R 495) N,503,D "has" "Slots.has" iC N N N (S "staywalk.slots" 776) none (R 502) N,515,D "rows" "Slots.rows" dX N N N (S "staywalk.slots" 776) none (R 514) N,522,D "moved" "Slots.moved" js N N N (S "staywalk.slots" 776) none (R 521) N,534,D "span" "Slots.span" cN N N N (S "staywalk.slots" 776) none (R 533) N,541,D "stop" "Slots.stop" gu N N N (S "staywalk.slots" 776) none (R 540) N,548,D "cell_of" "Slots.cell_of" dJ N N N (S "staywalk.slots" 776) none (R 547) N,555,D "lying_at" "Slots.lying_at" dh N N N (S "staywalk.slots" 776) none (R 554) N,562,D "move_slot" "Slots.move_slot" cV N N N (S "staywalk.slots" 776) none (R 561) N,569,D "begin_row" "Slots.begin_row" cW N N N (S "staywalk.slots" 776) none (R 568) N,590,D "__init__" "House.__init__" gB N N N (S "staywalk.house" 939) none (R 589) N,597,D "put" "House.put" iE N N N (S "staywalk.house" 939) none (R 596) N,604,D "drop" "House.drop" gE N N N (S "staywalk.house" 939) none (R 603) N,611,D "get" "House.get" iF N N N (S "staywalk.house" 939) none (R 610) N,618,D "has" "House.has" l5 N N N (S "staywalk.house" 939) none (R 617) N,697,D "done" "House.done" gF N N N (S "staywalk.house" 939) none (R 696) N,725,D "_law_cell_at" "_law_cell_at" fz N N N (S "law_staywalk_k37_whole_an_ask" 1116) none (R 724) N,732,D "_law_mixed" "_law_mixed" iy N N N (S "law_staywalk_k37_whole_an_ask" 1116) none (R 731) N,739,D "_law_place" "_law_place" iw N N N (S "law_staywalk_k37_whole_an_ask" 1116) none (R 738) N,744,D "_law_run" "_law_run" fv N N N (S "law_staywalk_k37_whole_an_ask" 1116) none (R 743) N,751,D "_law_deed" "_law_deed" jp N N N (S "law_staywalk_k37_whole_an_ask" 1116) none (R 750) N,758,D "_law_house" "_law_house" iz N N N (S "law_staywalk_k37_whole_an_ask" 1116) none (R 757) N,765,D "_law_numbers_told" "_law_numbers_told" cw N N N (S "law_staywalk_k37_whole_an_ask" 1116) none (R 764) N,772,D "_law_numbers" "_law_numbers" fw N N N (S "law_staywalk_k37_whole_an_ask" 1116) none (R 771) N,779,D "_law_token" "_law_token" iu N N N (S "law_staywalk_k37_whole_an_ask" 1116) none (R 778) N,786,D "_law_holds" "_law_holds" iA N N N (S "law_staywalk_k37_whole_an_ask" 1116) none (R 785) N,793,D "_law_less" "_law_less" jo N N N (S "law_staywalk_k37_whole_an_ask" 1116) none (R 792) N,798,D "law" "law" vz N N N (S "law_staywalk_k37_whole_an_ask" 1116) none (R 797) N,31,44,63,82,101,120,202,231,258,285,403,452,572,714⟩
noncomputable def K:Params→Frag:=λP=>(nat_lit 2,⟨N,none,.dict #[] 0, #[]⟩)::
(nat_lit 3,⟨(T "dict"),none,.dict #[E P "__name__" 165 (S "law_staywalk_k37_whole_an_ask" 1116),E P "__doc__" 166 N,E P "__package__" 167 N,E P "__loader__" 168 (.builtin "__main__.__loader__#opaque"),E P "__spec__" 169 N,E P "__annotations__" 170 (R 6),E P "__builtins__" 171 (R 4),E P "__file__" 173 (S "/claim/cut.py" 172),E P "__cached__" 174 N,E P "_wall" 193 (R 21),E P "WalkError" 213 (R 31),E P "NoToken" 229 (R 44),E P "NoKey" 254 (R 63),E P "Twice" 279 (R 82),E P "TooOld" 304 (R 101),E P "NoMoment" 329 (R 120),E P "BITS" 333 (.int 16 332),E P "PLACES" 335 (.int 65536 334),E P "turned" 345 (R 129),E P "mark_of" 352 (R 136),E P "place_of" 359 (R 143),E P "slot_of" 367 (R 150),E P "stretch_of" 376 (R 157),E P "slot_at" 384 (R 164),E P "is_whole" 393 (R 171),E P "is_from" 403 (R 178),E P "Token" 443 (R 202),E P "BySlots" 478 (R 231),E P "Up" 512 (R 258),E P "Down" 546 (R 285),E P "STRETCHES_A_KEY" 550 (.int 4 549),E P "ask" 557 (R 293),E P "page_by_slots" 570 (R 300),E P "page_by_keys" 576 (R 305),E P "keys_of_page" 582 (R 310),E P "keys_near" 591 (R 317),E P "token_behind" 599 (R 324),E P "MOST_IN_LEAF" 603 (.int 8 602),E P "LEAST_IN_TWO" 605 (.int 5 604),E P "Leaves" 712 (R 403),E P "Makes" 775 (R 452),E P "LEAST_SIZE" 779 (.int 4 778),E P "GREATEST_SIZE" 781 (.int 256 780),E P "empty_row" 787 (R 461),E P "Slots" 938 (R 572),E P "House" 1115 (R 714),E P "_law_cell_at" 1125 (R 725),E P "_law_mixed" 1134 (R 732),E P "_law_place" 1144 (R 739),E P "_law_run" 1150 (R 744),E P "_law_deed" 1162 (R 751),E P "_law_house" 1172 (R 758),E P "_law_numbers_told" 1182 (R 765),E P "_law_numbers" 1194 (R 772),E P "_law_token" 1201 (R 779),E P "_law_holds" 1212 (R 786),E P "_law_less" 1223 (R 793),E P "law" 1229 (R 798)] 58, #[]⟩)::
(nat_lit 30,⟨(T "dict"),none,.dict #[E P "__module__" 203 (S "staywalk.errors" 194),E P "__firstlineno__" 207 (.int 5 206),E P "__static_attributes__" 208 (R 29),E P "__weakref__" 210 (R 32),E P "__doc__" 211 N] 3, #[]⟩)::
(nat_lit 31,⟨(T "type"),none,.cls ⟨"WalkError",[(T "ValueError")],[(R 31),(T "ValueError"),(T "Exception"),(T "BaseException"),(T "object")],30,"WalkError",true,[],[(R 44),(R 63),(R 82),(R 101),(R 120)],false,none,false⟩, #[some (R 22),none,some (S "WalkError" 196),some (S "WalkError" 204),some (.builtin "ValueError.__new__"),some (B true)]⟩)::
(nat_lit 43,⟨(T "dict"),none,.dict #[E P "__module__" 221 (S "staywalk.errors" 194),E P "__firstlineno__" 225 (.int 7 224),E P "__static_attributes__" 226 (R 42),E P "__doc__" 227 N] 2, #[]⟩)::
(nat_lit 44,⟨(T "type"),none,.cls ⟨"NoToken",[(R 31)],[(R 44),(R 31),(T "ValueError"),(T "Exception"),(T "BaseException"),(T "object")],43,"NoToken",true,[],[],false,none,false⟩, #[some (R 35),none,some (S "NoToken" 214),some (S "NoToken" 222),some (.builtin "ValueError.__new__"),some (B true)]⟩)::
(nat_lit 59,c [(S "__init__" 242),(S "NoKey.__init__" 243),(F 244),(I 11),(I 2),(I 0),(I 0),(I 3),(R 54),(B true),(I 181),(R 55),N,(R 56),(R 57),(R 58),(I 247),(I 11),(F 248)])::
(nat_lit 60,f t.kJ)::
(nat_lit 62,⟨(T "dict"),none,.dict #[E P "__module__" 237 (S "staywalk.errors" 194),E P "__firstlineno__" 241 (.int 9 240),E P "__init__" 249 (R 60),E P "__static_attributes__" 251 (R 61),E P "__doc__" 252 N] 2, #[]⟩)::
(nat_lit 63,⟨(T "type"),none,.cls ⟨"NoKey",[(R 31)],[(R 63),(R 31),(T "ValueError"),(T "Exception"),(T "BaseException"),(T "object")],62,"NoKey",true,[],[],false,none,false⟩, #[some (R 47),none,some (S "NoKey" 230),some (S "NoKey" 238),some (.builtin "ValueError.__new__"),some (B true)]⟩)::
(nat_lit 78,c [(S "__init__" 267),(S "Twice.__init__" 268),(F 269),(I 16),(I 2),(I 0),(I 0),(I 3),(R 73),(B true),(I 181),(R 74),N,(R 75),(R 76),(R 77),(I 272),(I 16),(F 273)])::
(nat_lit 79,f t.kI)::
(nat_lit 81,⟨(T "dict"),none,.dict #[E P "__module__" 262 (S "staywalk.errors" 194),E P "__firstlineno__" 266 (.int 14 265),E P "__init__" 274 (R 79),E P "__static_attributes__" 276 (R 80),E P "__doc__" 277 N] 2, #[]⟩)::
(nat_lit 82,⟨(T "type"),none,.cls ⟨"Twice",[(R 31)],[(R 82),(R 31),(T "ValueError"),(T "Exception"),(T "BaseException"),(T "object")],81,"Twice",true,[],[],false,none,false⟩, #[some (R 66),none,some (S "Twice" 255),some (S "Twice" 263),some (.builtin "ValueError.__new__"),some (B true)]⟩)::
(nat_lit 97,c [(S "__init__" 292),(S "TooOld.__init__" 293),(F 294),(I 21),(I 2),(I 0),(I 0),(I 3),(R 92),(B true),(I 181),(R 93),N,(R 94),(R 95),(R 96),(I 297),(I 21),(F 298)])::
(nat_lit 98,f t.jN)::
(nat_lit 100,⟨(T "dict"),none,.dict #[E P "__module__" 287 (S "staywalk.errors" 194),E P "__firstlineno__" 291 (.int 19 290),E P "__init__" 299 (R 98),E P "__static_attributes__" 301 (R 99),E P "__doc__" 302 N] 2, #[]⟩)::
(nat_lit 101,⟨(T "type"),none,.cls ⟨"TooOld",[(R 31)],[(R 101),(R 31),(T "ValueError"),(T "Exception"),(T "BaseException"),(T "object")],100,"TooOld",true,[],[],false,none,false⟩, #[some (R 85),none,some (S "TooOld" 280),some (S "TooOld" 288),some (.builtin "ValueError.__new__"),some (B true)]⟩)::
(nat_lit 116,c [(S "__init__" 317),(S "NoMoment.__init__" 318),(F 319),(I 26),(I 2),(I 0),(I 0),(I 3),(R 111),(B true),(I 181),(R 112),N,(R 113),(R 114),(R 115),(I 322),(I 26),(F 323)])::
(nat_lit 117,f t.ie)::
(nat_lit 119,⟨(T "dict"),none,.dict #[E P "__module__" 312 (S "staywalk.errors" 194),E P "__firstlineno__" 316 (.int 24 315),E P "__init__" 324 (R 117),E P "__static_attributes__" 326 (R 118),E P "__doc__" 327 N] 2, #[]⟩)::
(nat_lit 120,⟨(T "type"),none,.cls ⟨"NoMoment",[(R 31)],[(R 120),(R 31),(T "ValueError"),(T "Exception"),(T "BaseException"),(T "object")],119,"NoMoment",true,[],[],false,none,false⟩, #[some (R 104),none,some (S "NoMoment" 305),some (S "NoMoment" 313),some (.builtin "ValueError.__new__"),some (B true)]⟩)::
(nat_lit 128,c [(S "turned" 336),(S "turned" 337),(F 338),(I 32),(I 1),(I 0),(I 0),(I 3),(R 123),(B true),(I 181),(R 124),N,(R 125),(R 126),(R 127),(I 343),(I 32),(F 344)])::
(nat_lit 129,f t.qR)::
(nat_lit 135,c [(S "mark_of" 346),(S "mark_of" 347),(F 348),(I 39),(I 1),(I 0),(I 0),(I 3),(R 130),(B true),(I 181),(R 131),N,(R 132),(R 133),(R 134),(I 350),(I 39),(F 351)])::
(nat_lit 136,f t.nZ)::
(nat_lit 142,c [(S "place_of" 353),(S "place_of" 354),(F 355),(I 41),(I 1),(I 0),(I 0),(I 3),(R 137),(B true),(I 181),(R 138),N,(R 139),(R 140),(R 141),(I 357),(I 41),(F 358)])::
(nat_lit 143,f t.lK)::
(nat_lit 149,c [(S "slot_of" 360),(S "slot_of" 361),(F 362),(I 43),(I 2),(I 0),(I 0),(I 3),(R 144),(B true),(I 181),(R 145),N,(R 146),(R 147),(R 148),(I 365),(I 43),(F 366)])::
(nat_lit 150,f t.nW)::
(nat_lit 156,c [(S "stretch_of" 368),(S "stretch_of" 369),(F 370),(I 45),(I 2),(I 0),(I 0),(I 3),(R 151),(B true),(I 181),(R 152),N,(R 153),(R 154),(R 155),(I 374),(I 45),(F 375)])::
(nat_lit 157,f t.iQ)::
(nat_lit 163,c [(S "slot_at" 377),(S "slot_at" 378),(F 379),(I 48),(I 2),(I 0),(I 0),(I 3),(R 158),(B true),(I 181),(R 159),N,(R 160),(R 161),(R 162),(I 382),(I 48),(F 383)])::
(nat_lit 164,f t.nY)::
(nat_lit 170,c [(S "is_whole" 387),(S "is_whole" 388),(F 389),(I 51),(I 1),(I 0),(I 0),(I 3),(R 165),(B true),(I 181),(R 166),N,(R 167),(R 168),(R 169),(I 391),(I 51),(F 392)])::
(nat_lit 171,f t.lL)::
(nat_lit 177,c [(S "is_from" 396),(S "is_from" 397),(F 398),(I 54),(I 2),(I 0),(I 0),(I 3),(R 172),(B true),(I 181),(R 173),N,(R 174),(R 175),(R 176),(I 401),(I 54),(F 402)])::
(nat_lit 178,f t.n8)::
(nat_lit 191,c [(S "__init__" 416),(S "Token.__init__" 417),(F 418),(I 58),(I 4),(I 0),(I 0),(I 3),(R 186),(B true),(I 181),(R 187),N,(R 188),(R 189),(R 190),(I 423),(I 58),(F 424)])::
(nat_lit 192,f t.gL)::
(nat_lit 201,⟨(T "dict"),none,.dict #[E P "__module__" 411 (S "staywalk.tokens" 394),E P "__firstlineno__" 415 (.int 56 414),E P "__init__" 425 (R 192),E P "words" 432 (R 199),E P "__static_attributes__" 436 (R 200),E P "__dict__" 438 (R 203),E P "__weakref__" 440 (R 204),E P "__doc__" 441 N] 4, #[]⟩)::
(nat_lit 202,⟨(T "type"),none,.cls ⟨"Token",[(T "object")],[(R 202),(T "object")],201,"Token",true,[],[(R 231),(R 258),(R 285)],false,none,false⟩, #[none,none,some (S "Token" 404),some (S "Token" 412),some (.builtin "object.__new__"),some (B true)]⟩)::
(nat_lit 214,⟨(T "tuple"),none,.seq #[(.int 0 456),(.int 65536 457)] 0, #[]⟩)::
(nat_lit 220,c [(S "__init__" 458),(S "BySlots.__init__" 459),(F 460),(I 67),(I 3),(I 0),(I 0),(I 3),(R 215),(B true),(I 181),(R 216),N,(R 217),(R 218),(R 219),(I 464),(I 67),(F 465)])::
(nat_lit 221,f t.b3)::
(nat_lit 227,c [(S "holds" 467),(S "BySlots.holds" 468),(F 469),(I 72),(I 2),(I 0),(I 0),(I 3),(R 222),(B true),(I 181),(R 223),N,(R 224),(R 225),(R 226),(I 472),(I 72),(F 473)])::
(nat_lit 228,f t.dS)::
(nat_lit 230,⟨(T "dict"),none,.dict #[E P "__module__" 451 (S "staywalk.tokens" 394),E P "__firstlineno__" 455 (.int 65 454),E P "__init__" 466 (R 221),E P "holds" 474 (R 228),E P "__static_attributes__" 475 (R 229),E P "__doc__" 476 N] 2, #[]⟩)::
(nat_lit 231,⟨(T "type"),none,.cls ⟨"BySlots",[(R 202)],[(R 231),(R 202),(T "object")],230,"BySlots",true,[],[],false,none,false⟩, #[some (R 207),none,some (S "BySlots" 444),some (S "BySlots" 452),some (.builtin "object.__new__"),some (B true)]⟩)::
(nat_lit 241,⟨(T "tuple"),none,.seq #[(.int 0 491),N] 0, #[]⟩)::
(nat_lit 247,c [(S "__init__" 492),(S "Up.__init__" 493),(F 494),(I 76),(I 3),(I 0),(I 0),(I 3),(R 242),(B true),(I 181),(R 243),N,(R 244),(R 245),(R 246),(I 498),(I 76),(F 499)])::
(nat_lit 248,f t.fS)::
(nat_lit 254,c [(S "holds" 501),(S "Up.holds" 502),(F 503),(I 81),(I 2),(I 0),(I 0),(I 3),(R 249),(B true),(I 181),(R 250),N,(R 251),(R 252),(R 253),(I 506),(I 81),(F 507)])::
(nat_lit 255,f t.jM)::
(nat_lit 257,⟨(T "dict"),none,.dict #[E P "__module__" 486 (S "staywalk.tokens" 394),E P "__firstlineno__" 490 (.int 74 489),E P "__init__" 500 (R 248),E P "holds" 508 (R 255),E P "__static_attributes__" 509 (R 256),E P "__doc__" 510 N] 2, #[]⟩)::
(nat_lit 258,⟨(T "type"),none,.cls ⟨"Up",[(R 202)],[(R 258),(R 202),(T "object")],257,"Up",true,[],[],false,none,false⟩, #[some (R 234),none,some (S "Up" 479),some (S "Up" 487),some (.builtin "object.__new__"),some (B true)]⟩)::
(nat_lit 268,⟨(T "tuple"),none,.seq #[N,(.int 0 525)] 0, #[]⟩)::
(nat_lit 274,c [(S "__init__" 526),(S "Down.__init__" 527),(F 528),(I 85),(I 3),(I 0),(I 0),(I 3),(R 269),(B true),(I 181),(R 270),N,(R 271),(R 272),(R 273),(I 532),(I 85),(F 533)])::
(nat_lit 275,f t.dF)::
(nat_lit 281,c [(S "holds" 535),(S "Down.holds" 536),(F 537),(I 90),(I 2),(I 0),(I 0),(I 3),(R 276),(B true),(I 181),(R 277),N,(R 278),(R 279),(R 280),(I 540),(I 90),(F 541)])::
(nat_lit 282,f t.gY)::
(nat_lit 284,⟨(T "dict"),none,.dict #[E P "__module__" 520 (S "staywalk.tokens" 394),E P "__firstlineno__" 524 (.int 83 523),E P "__init__" 534 (R 275),E P "holds" 542 (R 282),E P "__static_attributes__" 543 (R 283),E P "__doc__" 544 N] 2, #[]⟩)::
(nat_lit 285,⟨(T "type"),none,.cls ⟨"Down",[(R 202)],[(R 285),(R 202),(T "object")],284,"Down",true,[],[],false,none,false⟩, #[some (R 261),none,some (S "Down" 513),some (S "Down" 521),some (.builtin "object.__new__"),some (B true)]⟩)::
(nat_lit 288,⟨(T "tuple"),none,.seq #[(.int 10 551),N] 0, #[]⟩)::
(nat_lit 292,c [(S "ask" 552),(S "ask" 553),(F 554),(I 94),(I 4),(I 0),(I 0),(I 3),(R 289),(B true),(I 181),(R 290),N,N,N,(R 291),(I 555),(I 94),(F 556)])::
(nat_lit 293,f t.wm)::
(nat_lit 299,c [(S "page_by_slots" 558),(S "page_by_slots" 559),(F 560),(I 102),(I 3),(I 0),(I 0),(I 3),(R 294),(B true),(I 181),(R 295),N,(R 296),(R 297),(R 298),(I 568),(I 102),(F 569)])::
(nat_lit 300,f t.eJ)::
(nat_lit 304,c [(S "page_by_keys" 571),(S "page_by_keys" 572),(F 573),(I 116),(I 3),(I 0),(I 0),(I 3),(R 301),(B true),(I 181),(R 302),N,N,N,(R 303),(I 574),(I 116),(F 575)])::
(nat_lit 305,f t.fO)::
(nat_lit 309,c [(S "keys_of_page" 577),(S "keys_of_page" 578),(F 579),(I 119),(I 3),(I 0),(I 0),(I 3),(R 306),(B true),(I 181),(R 307),N,N,N,(R 308),(I 580),(I 119),(F 581)])::
(nat_lit 310,f t.fP)::
(nat_lit 316,c [(S "keys_near" 583),(S "keys_near" 584),(F 585),(I 128),(I 3),(I 0),(I 0),(I 3),(R 311),(B true),(I 181),(R 312),N,(R 313),(R 314),(R 315),(I 589),(I 128),(F 590)])::
(nat_lit 317,f t.jI)::
(nat_lit 323,c [(S "token_behind" 592),(S "token_behind" 593),(F 594),(I 132),(I 2),(I 0),(I 0),(I 3),(R 318),(B true),(I 181),(R 319),N,(R 320),(R 321),(R 322),(I 597),(I 132),(F 598)])::
(nat_lit 324,f t.fN)::
(nat_lit 337,c [(S "__init__" 618),(S "Leaves.__init__" 619),(F 620),(I 141),(I 1),(I 0),(I 0),(I 3),(R 332),(B true),(I 181),(R 333),N,(R 334),(R 335),(R 336),(I 622),(I 141),(F 623)])::
(nat_lit 338,f t.fV)::
(nat_lit 342,c [(S "add" 625),(S "Leaves.add" 626),(F 627),(I 144),(I 2),(I 0),(I 0),(I 3),(R 339),(B true),(I 181),(R 340),N,N,N,(R 341),(I 628),(I 144),(F 629)])::
(nat_lit 343,f t.gU)::
(nat_lit 349,c [(S "discard" 631),(S "Leaves.discard" 632),(F 633),(I 156),(I 2),(I 0),(I 0),(I 3),(R 344),(B true),(I 181),(R 345),N,(R 346),(R 347),(R 348),(I 637),(I 156),(F 638)])::
(nat_lit 350,f t.dE)::
(nat_lit 356,c [(S "has" 640),(S "Leaves.has" 641),(F 642),(I 167),(I 2),(I 0),(I 0),(I 3),(R 351),(B true),(I 181),(R 352),N,(R 353),(R 354),(R 355),(I 646),(I 167),(F 647)])::
(nat_lit 357,f t.gT)::
(nat_lit 361,c [(S "many" 649),(S "Leaves.many" 650),(F 651),(I 171),(I 1),(I 0),(I 0),(I 3),(R 358),(B true),(I 181),(R 359),N,N,N,(R 360),(I 652),(I 171),(F 653)])::
(nat_lit 362,f t.jP)::
(nat_lit 373,c [(S "from_on" 662),(S "Leaves.from_on" 663),(F 664),(I 177),(I 3),(I 0),(I 0),(I 3),(R 370),(B true),(I 181),(R 371),N,N,N,(R 372),(I 665),(I 177),(F 666)])::
(nat_lit 374,f t.dD)::
(nat_lit 378,c [(S "down_from" 668),(S "Leaves.down_from" 669),(F 670),(I 185),(I 3),(I 0),(I 0),(I 3),(R 375),(B true),(I 181),(R 376),N,N,N,(R 377),(I 671),(I 185),(F 672)])::
(nat_lit 379,f t.cJ)::
(nat_lit 385,c [(S "leaf_of" 674),(S "Leaves.leaf_of" 675),(F 676),(I 195),(I 2),(I 0),(I 0),(I 3),(R 380),(B true),(I 181),(R 381),N,(R 382),(R 383),(R 384),(I 682),(I 195),(F 683)])::
(nat_lit 386,f t.dC)::
(nat_lit 392,c [(S "part_leaf" 685),(S "Leaves.part_leaf" 686),(F 687),(I 206),(I 2),(I 0),(I 0),(I 3),(R 387),(B true),(I 181),(R 388),N,(R 389),(R 390),(R 391),(I 692),(I 206),(F 693)])::
(nat_lit 393,f t.cI)::
(nat_lit 399,c [(S "join_small" 695),(S "Leaves.join_small" 696),(F 697),(I 212),(I 2),(I 0),(I 0),(I 3),(R 394),(B true),(I 181),(R 395),N,(R 396),(R 397),(R 398),(I 701),(I 212),(F 702)])::
(nat_lit 400,f t.cu)::
(nat_lit 402,⟨(T "dict"),none,.dict #[E P "__module__" 613 (S "staywalk.leaves" 600),E P "__firstlineno__" 617 (.int 139 616),E P "__init__" 624 (R 338),E P "add" 630 (R 343),E P "discard" 639 (R 350),E P "has" 648 (R 357),E P "many" 654 (R 362),E P "all_of" 661 (R 369),E P "from_on" 667 (R 374),E P "down_from" 673 (R 379),E P "leaf_of" 684 (R 386),E P "part_leaf" 694 (R 393),E P "join_small" 703 (R 400),E P "__static_attributes__" 705 (R 401),E P "__dict__" 707 (R 404),E P "__weakref__" 709 (R 405),E P "__doc__" 710 N] 4, #[]⟩)::
(nat_lit 403,⟨(T "type"),none,.cls ⟨"Leaves",[(T "object")],[(R 403),(T "object")],402,"Leaves",true,[],[],false,none,false⟩, #[none,none,some (S "Leaves" 606),some (S "Leaves" 614),some (.builtin "object.__new__"),some (B true)]⟩)::
(nat_lit 420,c [(S "__init__" 727),(S "Makes.__init__" 728),(F 729),(I 222),(I 1),(I 0),(I 0),(I 3),(R 415),(B true),(I 181),(R 416),N,(R 417),(R 418),(R 419),(I 731),(I 222),(F 732)])::
(nat_lit 421,f t.gS)::
(nat_lit 427,c [(S "note" 734),(S "Makes.note" 735),(F 736),(I 225),(I 3),(I 0),(I 0),(I 3),(R 422),(B true),(I 181),(R 423),N,(R 424),(R 425),(R 426),(I 740),(I 225),(F 741)])::
(nat_lit 428,f t.gR)::
(nat_lit 451,⟨(T "dict"),none,.dict #[E P "__module__" 722 (S "staywalk.makes" 713),E P "__firstlineno__" 726 (.int 220 725),E P "__init__" 733 (R 421),E P "note" 742 (R 428),E P "all_told" 749 (R 435),E P "value_at" 758 (R 442),E P "sweep" 766 (R 449),E P "__static_attributes__" 768 (R 450),E P "__dict__" 770 (R 453),E P "__weakref__" 772 (R 454),E P "__doc__" 773 N] 4, #[]⟩)::
(nat_lit 452,⟨(T "type"),none,.cls ⟨"Makes",[(T "object")],[(R 452),(T "object")],451,"Makes",true,[],[],false,none,false⟩, #[none,none,some (S "Makes" 715),some (S "Makes" 723),some (.builtin "object.__new__"),some (B true)]⟩)::
(nat_lit 460,c [(S "empty_row" 782),(S "empty_row" 783),(F 784),(I 242),(I 1),(I 0),(I 0),(I 3),(R 457),(B true),(I 181),(R 458),N,N,N,(R 459),(I 785),(I 242),(F 786)])::
(nat_lit 461,f t.jJ)::
(nat_lit 474,c [(S "__init__" 800),(S "Slots.__init__" 801),(F 802),(I 246),(I 1),(I 0),(I 0),(I 3),(R 469),(B true),(I 181),(R 470),N,(R 471),(R 472),(R 473),(I 804),(I 246),(F 805)])::
(nat_lit 475,f t.gP)::
(nat_lit 481,c [(S "put" 807),(S "Slots.put" 808),(F 809),(I 251),(I 3),(I 0),(I 0),(I 3),(R 476),(B true),(I 181),(R 477),N,(R 478),(R 479),(R 480),(I 814),(I 251),(F 815)])::
(nat_lit 482,f t.iW)::
(nat_lit 488,c [(S "drop" 817),(S "Slots.drop" 818),(F 819),(I 259),(I 2),(I 0),(I 0),(I 3),(R 483),(B true),(I 181),(R 484),N,(R 485),(R 486),(R 487),(I 822),(I 259),(F 823)])::
(nat_lit 489,f t.gQ)::
(nat_lit 495,c [(S "get" 825),(S "Slots.get" 826),(F 827),(I 267),(I 2),(I 0),(I 0),(I 3),(R 490),(B true),(I 181),(R 491),N,(R 492),(R 493),(R 494),(I 831),(I 267),(F 832)])::
(nat_lit 496,f t.iY)::
(nat_lit 502,c [(S "has" 834),(S "Slots.has" 835),(F 836),(I 273),(I 2),(I 0),(I 0),(I 3),(R 497),(B true),(I 181),(R 498),N,(R 499),(R 500),(R 501),(I 839),(I 273),(F 840)])::
(nat_lit 503,f t.iX)::
(nat_lit 514,c [(S "rows" 849),(S "Slots.rows" 850),(F 851),(I 279),(I 1),(I 0),(I 0),(I 3),(R 511),(B true),(I 181),(R 512),N,N,N,(R 513),(I 852),(I 279),(F 853)])::
(nat_lit 515,f t.gO)::
(nat_lit 521,c [(S "moved" 855),(S "Slots.moved" 856),(F 857),(I 282),(I 1),(I 0),(I 0),(I 3),(R 516),(B true),(I 181),(R 517),N,(R 518),(R 519),(R 520),(I 859),(I 282),(F 860)])::
(nat_lit 522,f t.jO)::
(nat_lit 533,c [(S "span" 869),(S "Slots.span" 870),(F 871),(I 288),(I 3),(I 0),(I 0),(I 3),(R 530),(B true),(I 181),(R 531),N,N,N,(R 532),(I 872),(I 288),(F 873)])::
(nat_lit 534,f t.gN)::
(nat_lit 540,c [(S "stop" 875),(S "Slots.stop" 876),(F 877),(I 298),(I 2),(I 0),(I 0),(I 3),(R 535),(B true),(I 181),(R 536),N,(R 537),(R 538),(R 539),(I 881),(I 298),(F 882)])::
(nat_lit 541,f t.gM)::
(nat_lit 547,c [(S "cell_of" 884),(S "Slots.cell_of" 885),(F 886),(I 302),(I 2),(I 0),(I 0),(I 3),(R 542),(B true),(I 181),(R 543),N,(R 544),(R 545),(R 546),(I 892),(I 302),(F 893)])::
(nat_lit 548,f t.dR)::
(nat_lit 554,c [(S "lying_at" 895),(S "Slots.lying_at" 896),(F 897),(I 310),(I 2),(I 0),(I 0),(I 3),(R 549),(B true),(I 181),(R 550),N,(R 551),(R 552),(R 553),(I 906),(I 310),(F 907)])::
(nat_lit 555,f t.dB)::
(nat_lit 561,c [(S "move_slot" 909),(S "Slots.move_slot" 910),(F 911),(I 319),(I 1),(I 0),(I 0),(I 3),(R 556),(B true),(I 181),(R 557),N,(R 558),(R 559),(R 560),(I 917),(I 319),(F 918)])::
(nat_lit 562,f t.cY)::
(nat_lit 568,c [(S "begin_row" 920),(S "Slots.begin_row" 921),(F 922),(I 332),(I 1),(I 0),(I 0),(I 3),(R 563),(B true),(I 181),(R 564),N,(R 565),(R 566),(R 567),(I 925),(I 332),(F 926)])::
(nat_lit 569,f t.cZ)::
(nat_lit 571,⟨(T "dict"),none,.dict #[E P "__module__" 795 (S "staywalk.slots" 776),E P "__firstlineno__" 799 (.int 244 798),E P "__init__" 806 (R 475),E P "put" 816 (R 482),E P "drop" 824 (R 489),E P "get" 833 (R 496),E P "has" 841 (R 503),E P "many" 848 (R 510),E P "rows" 854 (R 515),E P "moved" 861 (R 522),E P "cells" 868 (R 529),E P "span" 874 (R 534),E P "stop" 883 (R 541),E P "cell_of" 894 (R 548),E P "lying_at" 908 (R 555),E P "move_slot" 919 (R 562),E P "begin_row" 927 (R 569),E P "__static_attributes__" 931 (R 570),E P "__dict__" 933 (R 573),E P "__weakref__" 935 (R 574),E P "__doc__" 936 N] 4, #[]⟩)::
(nat_lit 572,⟨(T "type"),none,.cls ⟨"Slots",[(T "object")],[(R 572),(T "object")],571,"Slots",true,[],[],false,none,false⟩, #[none,none,some (S "Slots" 788),some (S "Slots" 796),some (.builtin "object.__new__"),some (B true)]⟩)::
(nat_lit 589,c [(S "__init__" 953),(S "House.__init__" 954),(F 955),(I 343),(I 1),(I 0),(I 0),(I 3),(R 584),(B true),(I 181),(R 585),N,(R 586),(R 587),(R 588),(I 957),(I 343),(F 958)])::
(nat_lit 590,f t.gV)::
(nat_lit 596,c [(S "put" 960),(S "House.put" 961),(F 962),(I 353),(I 3),(I 0),(I 0),(I 3),(R 591),(B true),(I 181),(R 592),N,(R 593),(R 594),(R 595),(I 966),(I 353),(F 967)])::
(nat_lit 597,f t.iZ)::
(nat_lit 603,c [(S "drop" 969),(S "House.drop" 970),(F 971),(I 359),(I 2),(I 0),(I 0),(I 3),(R 598),(B true),(I 181),(R 599),N,(R 600),(R 601),(R 602),(I 974),(I 359),(F 975)])::
(nat_lit 604,f t.gW)::
(nat_lit 610,c [(S "get" 977),(S "House.get" 978),(F 979),(I 364),(I 2),(I 0),(I 0),(I 3),(R 605),(B true),(I 181),(R 606),N,(R 607),(R 608),(R 609),(I 982),(I 364),(F 983)])::
(nat_lit 611,f t.i4)::
(nat_lit 617,c [(S "has" 985),(S "House.has" 986),(F 987),(I 367),(I 2),(I 0),(I 0),(I 3),(R 612),(B true),(I 181),(R 613),N,(R 614),(R 615),(R 616),(I 990),(I 367),(F 991)])::
(nat_lit 618,f t.mJ)::
(nat_lit 696,c [(S "done" 1073),(S "House.done" 1074),(F 1075),(I 401),(I 3),(I 0),(I 0),(I 3),(R 691),(B true),(I 181),(R 692),N,(R 693),(R 694),(R 695),(I 1080),(I 401),(F 1081)])::
(nat_lit 697,f t.gX)::
(nat_lit 713,⟨(T "dict"),none,.dict #[E P "__module__" 948 (S "staywalk.house" 939),E P "__firstlineno__" 952 (.int 341 951),E P "__init__" 959 (R 590),E P "put" 968 (R 597),E P "drop" 976 (R 604),E P "get" 984 (R 611),E P "has" 992 (R 618),E P "many" 999 (R 625),E P "lay_mark" 1006 (R 632),E P "diary" 1015 (R 640),E P "makes" 1023 (R 647),E P "hold" 1030 (R 654),E P "let_go" 1038 (R 661),E P "held" 1045 (R 668),E P "sweep" 1052 (R 675),E P "was" 1061 (R 682),E P "page_at" 1072 (R 690),E P "done" 1082 (R 697),E P "refuse_outside" 1090 (R 704),E P "value_then" 1099 (R 711),E P "__static_attributes__" 1108 (R 712),E P "__dict__" 1110 (R 715),E P "__weakref__" 1112 (R 716),E P "__doc__" 1113 N] 4, #[]⟩)::
(nat_lit 714,⟨(T "type"),none,.cls ⟨"House",[(T "object")],[(R 714),(T "object")],713,"House",true,[],[],false,none,false⟩, #[none,none,some (S "House" 941),some (S "House" 949),some (.builtin "object.__new__"),some (B true)]⟩)::
(nat_lit 724,c [(S "_law_cell_at" 1118),(S "_law_cell_at" 1119),(F 1120),(I 417),(I 2),(I 0),(I 0),(I 3),(R 719),(B true),(I 181),(R 720),N,(R 721),(R 722),(R 723),(I 1123),(I 417),(F 1124)])::
(nat_lit 725,f t.fR)::
(nat_lit 731,c [(S "_law_mixed" 1126),(S "_law_mixed" 1127),(F 1128),(I 421),(I 2),(I 0),(I 0),(I 3),(R 726),(B true),(I 181),(R 727),N,(R 728),(R 729),(R 730),(I 1132),(I 421),(F 1133)])::
(nat_lit 732,f t.iT)::
(nat_lit 738,c [(S "_law_place" 1135),(S "_law_place" 1136),(F 1137),(I 424),(I 1),(I 0),(I 0),(I 3),(R 733),(B true),(I 181),(R 734),N,(R 735),(R 736),(R 737),(I 1142),(I 424),(F 1143)])::
(nat_lit 739,f t.iS)::
(nat_lit 743,c [(S "_law_run" 1145),(S "_law_run" 1146),(F 1147),(I 431),(I 1),(I 0),(I 0),(I 3),(R 740),(B true),(I 181),(R 741),N,N,N,(R 742),(I 1148),(I 431),(F 1149)])::
(nat_lit 744,f t.lM)::
(nat_lit 750,c [(S "_law_deed" 1151),(S "_law_deed" 1152),(F 1153),(I 448),(I 3),(I 0),(I 0),(I 3),(R 745),(B true),(I 181),(R 746),N,(R 747),(R 748),(R 749),(I 1160),(I 448),(F 1161)])::
(nat_lit 751,f t.jL)::
(nat_lit 757,c [(S "_law_house" 1163),(S "_law_house" 1164),(F 1165),(I 461),(I 1),(I 0),(I 0),(I 3),(R 752),(B true),(I 181),(R 753),N,(R 754),(R 755),(R 756),(I 1170),(I 461),(F 1171)])::
(nat_lit 758,f t.iU)::
(nat_lit 764,c [(S "_law_numbers_told" 1173),(S "_law_numbers_told" 1174),(F 1175),(I 467),(I 2),(I 0),(I 0),(I 3),(R 759),(B true),(I 181),(R 760),N,(R 761),(R 762),(R 763),(I 1180),(I 467),(F 1181)])::
(nat_lit 765,f t.cH)::
(nat_lit 771,c [(S "_law_numbers" 1183),(S "_law_numbers" 1184),(F 1185),(I 478),(I 2),(I 0),(I 0),(I 3),(R 766),(B true),(I 181),(R 767),N,(R 768),(R 769),(R 770),(I 1192),(I 478),(F 1193)])::
(nat_lit 772,f t.fQ)::
(nat_lit 778,c [(S "_law_token" 1195),(S "_law_token" 1196),(F 1197),(I 496),(I 1),(I 0),(I 0),(I 3),(R 773),(B true),(I 181),(R 774),N,(R 775),(R 776),(R 777),(I 1199),(I 496),(F 1200)])::
(nat_lit 779,f t.iR)::
(nat_lit 785,c [(S "_law_holds" 1202),(S "_law_holds" 1203),(F 1204),(I 502),(I 2),(I 0),(I 0),(I 3),(R 780),(B true),(I 181),(R 781),N,(R 782),(R 783),(R 784),(I 1210),(I 502),(F 1211)])::
(nat_lit 786,f t.iV)::
(nat_lit 792,c [(S "_law_less" 1213),(S "_law_less" 1214),(F 1215),(I 509),(I 4),(I 0),(I 0),(I 3),(R 787),(B true),(I 181),(R 788),N,(R 789),(R 790),(R 791),(I 1221),(I 509),(F 1222)])::
(nat_lit 793,f t.jK)::
(nat_lit 797,c [(S "law" 1224),(S "law" 1225),(F 1226),(I 522),(I 1),(I 0),(I 0),(I 3),(R 794),(B true),(I 181),(R 795),N,N,N,(R 796),(I 1227),(I 522),(F 1228)])::
(nat_lit 798,f t.yz)::[]
noncomputable abbrev as:List Addr:=[2,3,30,31,43,44,59,60,62,63,78,79,81,82,97,98,100,101,116,117,119,120,128,129,135,136,142,143,149,150,156,157,163,164,170,171,177,178,191,192,201,202,214,220,221,227,228,230,231,241,247,248,254,255,257,258,268,274,275,281,282,284,285,288,292,293,299,300,304,305,309,310,316,317,323,324,337,338,342,343,349,350,356,357,361,362,373,374,378,379,385,386,392,393,399,400,402,403,420,421,427,428,451,452,460,461,474,475,481,482,488,489,495,496,502,503,514,515,521,522,533,534,540,541,547,548,554,555,561,562,568,569,571,572,589,590,596,597,603,604,610,611,617,618,696,697,713,714,724,725,731,732,738,739,743,744,750,751,757,758,764,765,771,772,778,779,785,786,792,793,797,798]
noncomputable abbrev p:Program:=PySem.Challenge.pw_staywalk_k37_whole_an_ask
noncomputable abbrev q:Program:=view p [0,2,3,4,5,6,7,9,10,11,12,13,14,15,16,18,20,21,22,23,24,26,28,29,30,31,32,34,35,36,38,40,41,42,43,45,47,48,49,50,51,52,53,54,55,56,57,58]
noncomputable abbrev H:Hook:=kHook K as λ_=>rfl
theorem said:OpenLaw.wellSaid PySem.Challenge.rw_staywalk_k37_whole_an_ask=true:=by
 rw[Fast.te9446332074065402090]
 kernel_rfl
theorem left:LeftO p q ["BySlots","Up","Down","ask"] (λs=>xlAt q [] s&&recOk [] s) (Hook.obs H) (Hook.val H) 11738:=HD.left_of λw=>by kernel_rfl
end ZK
namespace L2
open PySem PySem.Spec PyProof.Rows
abbrev Key:=Sum Int Str
def jH:Key→Value→Bool
 | .inl k,v=>Value.isInt k v
 | .inr x,v=>Value.isStrOf x v
def keyH (w:World):Key→Int
 | .inl k=>hashInt k
 | .inr x=>hashStr w x
theorem bO:∀{k:Key} {v:Value},jH k v=true→(∃i t,k=Sum.inl i∧v=Value.int i t)∨(∃x t,k=Sum.inr x∧v=Value.str x t)
 | .inl i,v,h=>by
  obtain⟨t,e⟩:=Value.isInt_shape (k:=i) (v:=v) h
  exact .inl ⟨i,t,rfl,e⟩
 | .inr x,v,h=>by
  obtain⟨t,e⟩:=Value.isStrOf_shape (x:=x) (v:=v) h
  exact .inr ⟨x,t,rfl,e⟩
theorem zi (i:Int) (t:Tok):jH (.inl i) (.int i t)=true:=by simp[jH,Value.isInt]
theorem zh (x:Str) (t:Tok):jH (.inr x) (.str x t)=true:=by simp[jH,Value.isStrOf]
theorem EH (a b:Int):decide ((Sum.inl a:Key)=Sum.inl b)=(a==b):=by
 by_cases e:a=b
 ·subst e;simp
 ·have h:¬(Sum.inl a:Key)=Sum.inl b:=λq=>e (Sum.inl.inj q)
  rw[decide_eq_false h]
  exact(beq_eq_false_iff_ne.mpr e).symm
theorem EE (a b:Str):decide ((Sum.inr a:Key)=Sum.inr b)=decide (a=b):=by
 by_cases e:a=b
 ·subst e;simp
 ·have h:¬(Sum.inr a:Key)=Sum.inr b:=λq=>e (Sum.inr.inj q)
  rw[decide_eq_false h,decide_eq_false e]
theorem EG (a:Int) (b:Str):decide ((Sum.inl a:Key)=Sum.inr b)=false:=decide_eq_false (λq=>nomatch q)
theorem EF (a:Str) (b:Int):decide ((Sum.inr a:Key)=Sum.inl b)=false:=decide_eq_false (λq=>nomatch q)
def a9 (prog:Program) (w:World):PySem.KeyKind prog w Key where
 is:=jH
 hash:=keyH w
 inj:=λv a b ha hb=>by
  rcases bO ha with⟨i,t,rfl,rfl⟩|⟨x,t,rfl,rfl⟩
  ·rcases bO hb with⟨j,u,rfl,e⟩|⟨y,u,rfl,e⟩
   ·injection e with e1 _;rw[e1]
   ·exact nomatch e
  ·rcases bO hb with⟨j,u,rfl,e⟩|⟨y,u,rfl,e⟩
   ·exact nomatch e
   ·injection e with e1 _;rw[e1]
 byValue:=λk v h=>by
  rcases bO h with⟨i,t,rfl,rfl⟩|⟨x,t,rfl,rfl⟩<;>rfl
 pyHash:=λhv h=>by
  rcases bO hv with⟨i,t,rfl,rfl⟩|⟨x,t,rfl,rfl⟩
  ·exact wpAny_pyHash_int h
  ·exact wpAny_pyHash_str h
 eqBool:=λhu hv h=>by
  rcases bO hu with⟨i,t,rfl,rfl⟩|⟨x,t,rfl,rfl⟩
  ·rcases bO hv with⟨j,u,rfl,rfl⟩|⟨y,u,rfl,rfl⟩
   ·rw[EH]at h;exact wpAny_eqBool_int h
   ·rw[EG]at h;exact SeqAt.EqAt.int_str i t y u _ _ _ _ h
  ·rcases bO hv with⟨j,u,rfl,rfl⟩|⟨y,u,rfl,rfl⟩
   ·rw[EF]at h;exact SeqAt.EqAt.str_int x t j u _ _ _ _ h
   ·rw[EE]at h;exact wpAny_eqBool_str h
 «strs»:=λk x t v h=>by
  rcases bO h with⟨i,u,rfl,e⟩|⟨y,u,rfl,e⟩
  ·exact nomatch e
  ·injection e with e1 _
   subst e1
   cases v<;>rfl
theorem xo (prog:Program) (w:World) (k:Key) (v:Value):(a9 prog w).is k v=jH k v:=rfl
theorem vQ (prog:Program) (w:World) (i:Int) (t:Tok):(a9 prog w).is (.inl i) (.int i t)=true:=zi i t
theorem vP (prog:Program) (w:World) (x:Str) (t:Tok):(a9 prog w).is (.inr x) (.str x t)=true:=zh x t
end L2
namespace L2
open PySem PySem.Spec PyProof.Rows
inductive V where
 |non|bl (b:Bool)|int (i:Int)|str (x:Str)|byt (b:Array UInt8)|flt (b:UInt64)|ref (a:Addr)|ty (n:String)
 deriving DecidableEq
def RelV:V→Value→Prop
 | .non,u=>u=Value.none
 | .bl b,u=>u=Value.bool b
 | .int i,u=>∃t,u=Value.int i t
 | .str x,u=>∃t,u=Value.str x t
 | .byt b,u=>∃t,u=Value.bytes b t
 | .flt b,u=>∃t,u=Value.float b t
 | .ref a,u=>u=Value.ref a
 | .ty n,u=>u=Value.type n
abbrev Vals:List V→List Value→Prop:=Paired RelV
theorem Vals.length {xs:List V} {us:List Value} (r:Vals xs us):xs.length=us.length:=Paired.length r
theorem Vals.get:∀{xs:List V} {us:List Value} {i:Nat} {x:V},Vals xs us→xs[i]?=some x→∃u,us[i]?=some u∧RelV x u
 |_,_,_,_,.nil,e=>by simp at e
 |_,_,0,_,.cons r _,e=>by simp at e;subst e;exact⟨_,rfl,r⟩
 |_,_,i+1,x,.cons _ t,e=>by
  obtain⟨u,h1,h2⟩:=Vals.get (i:=i) (x:=x) t (by simpa using e)
  exact⟨u,by simpa using h1,h2⟩
theorem Vals.set {x:V} {u:Value} (r:RelV x u):∀{xs:List V} {us:List Value} (i:Nat),Vals xs us→Vals (xs.set i x) (us.set i u)
 |_,_,_,.nil=> .nil
 |_,_,0,.cons _ t=> .cons r t
 |_,_,i+1,.cons q t=> .cons q (Vals.set r i t)
theorem Vals.append:∀{xs ys:List V} {us ws:List Value},Vals xs us→Vals ys ws→Vals (xs++ys) (us++ws)
 |_,_,_,_,.nil,s=>s
 |_,_,_,_,.cons r t,s=> .cons r (Vals.append t s)
theorem Vals.take:∀{xs:List V} {us:List Value} (n:Nat),Vals xs us→Vals (xs.take n) (us.take n)
 |_,_,0,_=> .nil
 |_,_,_+1,.nil=> .nil
 |_,_,n+1,.cons r t=> .cons r (Vals.take n t)
theorem Vals.drop:∀{xs:List V} {us:List Value} (n:Nat),Vals xs us→Vals (xs.drop n) (us.drop n)
 |_,_,0,r=>r
 |_,_,_+1,.nil=> .nil
 |_,_,n+1,.cons _ t=>Vals.drop n t
def RelO:Option V→Option Value→Prop
 |some v,some u=>RelV v u
 |none,none=>True
 |_,_=>False
def KV {κ:Type}:List (κ×V)→List (κ×Value)→Prop:=Paired λ(p:κ×V) (q:κ×Value)=>p.1=q.1∧RelV p.2 q.2
def kV:Key→V
 | .inl i=> .int i
 | .inr x=> .str x
inductive HO where
 |lst (xs:List V)
 |tup (xs:List V)
 |dK (kvs:List (Key×V))|dT (kvs:List (List Key×V))
 |set (S:Int→Bool) (n:Nat)
 |ins (C dx:Addr) (fs:List (Str×V))
 |own (x:Addr)
 |xd (fs:List (Str×V))
 |met (f x:Addr)
 |rng (lo hi:Int)
 |frz (o:Obj) (u:HO)
 |tbl (ps:Array Value)
 |ext (φ:Heap→Prop)
abbrev Hp:=Addr→Option HO
def upd (H:Hp) (a:Addr) (o:HO):Hp:=λb=>if b=a then some o else H b
theorem ag {H:Hp} {a:Addr} {o:HO}:upd H a o a=some o:=by unfold upd;rw[if_pos rfl]
theorem ae {H:Hp} {a b:Addr} {o:HO} (h:b≠a):upd H a o b=H b:=by unfold upd;rw[if_neg h]
theorem da {H:Hp} {a:Addr} {o u:HO}:upd (upd H a o) a u=upd H a u:=by
 funext b;unfold upd;split<;>rfl
theorem bZ {H:Hp} {a b:Addr} {o u:HO} (h:H a=some o) (h':H b=some u) (d:o≠u):a≠b:=by
 intro e;subst e;rw[h]at h';exact d (Option.some.inj h')
theorem al {H:Hp} {a b:Addr} {o:HO} (h:H a=some o) (h':H b=none):a≠b:=by
 intro e;subst e;rw[h]at h';cases h'
section
variable (P:Program) (w:World)
def ObjOk (H:Hp) (h:Heap) (a:Addr):HO→Prop
 | .lst xs=>xs.length≤sizeLine∧∃(its:List Value) (n:Nat),Vals xs its∧h.get? a=some {cls:= .type "list",data:= .seq its.toArray n}
 | .tup xs=>xs.length≤sizeLine∧∃its:List Value,Vals xs its∧IsTup h a its.toArray
 | .dK kvs=>kvs.length≤sizeLine∧(a==sysModules)=false∧∃vs,KV kvs vs∧h.DictOf (a9 P w) a vs
 | .dT kvs=>kvs.length≤sizeLine∧(a==sysModules)=false∧∃xs:List (List Key×Addr×Value),
   Paired (λ(p:List Key×V) (q:List Key×Addr×Value)=>p.1=q.1∧H q.2.1=some (.tup (p.1.map kV))∧RelV p.2 q.2.2) kvs xs∧
   ∃o es ep,h.get? a=some o∧o.ExactDict∧o.data= .dict es ep∧es.toList=xs.map (entryOfKey (tupleKind (a9 P w)))∧(xs.map (·.1)).Nodup
 | .set S n=>h.SetOf (intKind P w) a S n
 | .ins C dx fs=>H dx=some (.own a)∧fs.length≤1000∧dx≠a∧h.get? a=some (PySem.W.instObj C dx)∧
   ∃mA,h.Ns1 dx mA∧(∀f,RelO (fs.lookup f) (mA f))∧PySem.Within mA (fs.map (·.1))
 | .own _=>∃o,h.get? a=some o
 | .xd fs=>∃mA,h.Ns1 a mA∧∀f,RelO (fs.lookup f) (mA f)
 | .rng lo hi=>∃t u v,h.get? a=some {cls:= .type "range",data:= .fields #[.int lo t,.int hi u,.int 1 v]}
 | .frz o u=>h.get? a=some o∧ObjOk H h a u
 | .tbl ps=>h.get? a=some {cls:= .none,data:= .fields ps}
 | .met f x=>h.get? a=some (PySem.W.methodObj (.ref f) (.ref x))
 | .ext φ=>φ h∧(∃o,h.get? a=some o)∧∀h1 h2:Heap,φ h1→(∀o,h1.get? a=some o→h2.get? a=some o)→φ h2
def HOk (H:Hp) (h:Heap):Prop:=∀a o,H a=some o→ObjOk P w H h a o
end
section
variable {P:Program} {w:World} {H H':Hp} {h h':Heap} {a:Addr} {o:HO}
theorem ObjOk.lt (x:ObjOk P w H h a o):a<h.objs.size:=by
 cases o with
 |lst xs=>obtain⟨_,_,_,_,e⟩:=x;exact Heap.lt_size e
 |tup xs=>obtain⟨_,_,_,p⟩:=x;exact p.lt
 |dK kvs=>obtain⟨_,_,_,_,o,_,_,e,_⟩:=x;exact Heap.lt_size e
 |dT kvs=>obtain⟨_,_,_,_,o,_,_,e,_⟩:=x;exact Heap.lt_size e
 |set S n=>obtain⟨o,_,_,_,e,_⟩:=x;exact Heap.lt_size e
 |ins C dx fs=>obtain⟨_,_,_,e,_⟩:=x;exact Heap.lt_size e
 |own y=>obtain⟨_,e⟩:=x;exact Heap.lt_size e
 |xd fs=>obtain⟨_,⟨_,_,_,e,_⟩,_⟩:=x;exact Heap.lt_size e
 |rng lo hi=>obtain⟨_,_,_,e⟩:=x;exact Heap.lt_size e
 |frz ob u=>obtain⟨e,_⟩:=x;exact Heap.lt_size e
 |tbl ps=>exact Heap.lt_size (show h.get? a=some _ from x)
 |met f y=>exact Heap.lt_size (show h.get? a=some _ from x)
 |ext φ=>obtain⟨_,⟨_,e⟩,_⟩:=x;exact Heap.lt_size e
theorem Paired.mapP {α β:Type} {F G:α→β→Prop}:∀{l₁:List α} {l₂:List β},Paired F l₁ l₂→(∀a b,F a b→G a b)→Paired G l₁ l₂
 |_,_,.nil,_=> .nil
 |_,_,.cons r t,f=> .cons (f _ _ r) (Paired.mapP t f)
theorem ObjOk.stay (x:ObjOk P w H h a o) (k:∀b u,(b=a∨H b=some (.own a))→h.get? b=some u→h'.get? b=some u)
  (ho:∀b,H b=some (.own a)→H' b=some (.own a)) (ht:∀b xs,H b=some (.tup xs)→H' b=some (.tup xs)):ObjOk P w H' h' a o:=by
 induction o with
 |lst xs=>obtain⟨z,its,n,r,e⟩:=x;exact⟨z,its,n,r,k _ _ (.inl rfl) e⟩
 |tup xs=>obtain⟨z,its,r,ob,e,c⟩:=x;exact⟨z,its,r,ob,k _ _ (.inl rfl) e,c⟩
 |dK kvs=>obtain⟨z,y,vs,r,ob,es,ep,e,c⟩:=x;exact⟨z,y,vs,r,ob,es,ep,k _ _ (.inl rfl) e,c⟩
 |dT kvs=>
  obtain⟨z,y,xs,r,ob,es,ep,e,c⟩:=x
  exact⟨z,y,xs,Paired.mapP r λp q z=>⟨z.1,ht _ _ z.2.1,z.2.2⟩,ob,es,ep,k _ _ (.inl rfl) e,c⟩
 |set S n=>obtain⟨ob,es,ep,t,e,c⟩:=x;exact⟨ob,es,ep,t,k _ _ (.inl rfl) e,c⟩
 |ins C dx fs=>
  obtain⟨d,z,ne,e,mA,⟨od,es,ep,e2,c⟩,r⟩:=x
  exact⟨ho _ d,z,ne,k _ _ (.inl rfl) e,mA,⟨od,es,ep,k _ _ (.inr d) e2,c⟩,r⟩
 |own y=>obtain⟨ob,e⟩:=x;exact⟨ob,k _ _ (.inl rfl) e⟩
 |xd fs=>obtain⟨mA,⟨od,es,ep,e,c⟩,r⟩:=x;exact⟨mA,⟨od,es,ep,k _ _ (.inl rfl) e,c⟩,r⟩
 |rng lo hi=>obtain⟨t,u,v,e⟩:=x;exact⟨t,u,v,k _ _ (.inl rfl) e⟩
 |frz ob u ih=>obtain⟨e,q⟩:=x;exact⟨k _ _ (.inl rfl) e,ih q⟩
 |tbl ps=>
  have e:h.get? a=some {cls:= .none,data:= .fields ps}:=x
  show h'.get? a=some {cls:= .none,data:= .fields ps}
  exact k a _ (.inl rfl) e
 |met f y=>
  have e:h.get? a=some (PySem.W.methodObj (.ref f) (.ref y)):=x
  show h'.get? a=some (PySem.W.methodObj (.ref f) (.ref y))
  exact k a _ (.inl rfl) e
 |ext φ=>obtain⟨p,⟨o,e⟩,st⟩:=x;exact⟨st _ _ p λo q=>k _ _ (.inl rfl) q,⟨o,k _ _ (.inl rfl) e⟩,st⟩
theorem HOk.lt (x:HOk P w H h) (e:H a=some o):a<h.objs.size:=(x a o e).lt
theorem HOk.fresh (x:HOk P w H h) (e:h.objs.size≤a):H a=none:=by
 cases q:H a with
 |none=>rfl
 |some u=>exact absurd (Qw (x.lt q) e) (Zt _)
theorem HOk.kept (x:HOk P w H h) (k:∀b u,h.get? b=some u→h'.get? b=some u):HOk P w H h':=λa o e=>
 (x a o e).stay (λb u _ q=>k b u q) (λ_ q=>q) λ_ _ q=>q
theorem HOk.laid (x:HOk P w H h) (k:∀b u,h.get? b=some u→h'.get? b=some u) (hp:h.objs.size≤a) (new:ObjOk P w (upd H a o) h' a o):HOk P w (upd H a o) h':=λb u e=>by
 have hn:=x.fresh hp
 by_cases hb:b=a
 ·subst hb;rw[ag]at e;cases e;exact new
 ·rw[ae hb]at e
  exact(x b u e).stay (λc v _ q=>k c v q) (λc q=>by rw[ae (al q hn)];exact q) λc xs q=>by rw[ae (al q hn)];exact q
end
def Rd (H:Hp) (a:Addr) (u:HO):Prop:=H a=some u∨∃o,H a=some (.frz o u)
theorem Rd.ok {P:Program} {w:World} {H:Hp} {h:Heap} {a:Addr} {u:HO} (r:Rd H a u) (x:HOk P w H h):ObjOk P w H h a u:=by
 rcases r with r|⟨o,r⟩
 ·exact x a u r
 ·obtain⟨_,q⟩:=x a _ r
  exact q
def Mut:Option HO→Prop
 |some (.lst _)=>True
 |some (.dK _)=>True
 |some (.dT _)=>True
 |some (.set _ _)=>True
 |some (.ins _ _ _)=>True
 |some (.ext _)=>True
 |_=>False
section
variable {P:Program} {w:World} {H:Hp} {h h':Heap} {x e:Addr} {o':HO}
theorem HOk.write (ok:HOk P w H h) (mu:Mut (H x)) (he:e=x∨H e=some (.own x)) (k:∀b u,b≠e→h.get? b=some u→h'.get? b=some u) (heo:∃u,h'.get? e=some u)
  (new:ObjOk P w (upd H x o') h' x o'):HOk P w (upd H x o') h':=λb u q=>by
 have nown:∀c y,H c=some (.own y)→c≠x:=λc y r z=>by subst z;rw[r]at mu;exact mu
 have ntup:∀c xs,H c=some (.tup xs)→c≠x:=λc xs r z=>by subst z;rw[r]at mu;exact mu
 by_cases hb:b=x
 ·subst hb;rw[ag]at q;cases q;exact new
 ·rw[ae hb]at q
  by_cases hbe:b=e
  ·have q':H b=some (.own x):=by
    rcases he with z|z
    ·exact absurd (hbe.trans z) hb
    ·rw[hbe];exact z
   rw[q]at q';cases q'
   obtain⟨v,hv⟩:=heo
   exact⟨v,by rw[hbe];exact hv⟩
  ·refine(ok b u q).stay (λc v hc r=>k c v ?_ r) (λc r=>by rw[ae (nown c b r)];exact r) λc xs r=>by rw[ae (ntup c xs r)];exact r
   rcases hc with rfl|hc
   ·exact hbe
   ·rintro rfl
    rcases he with z|z
    ·exact nown c b hc z
    ·rw[hc]at z;cases z;exact hb rfl
end
structure Un (fs ex:List Addr) (H H':Hp) (h h':Heap):Prop where
 keep:∀b o,h.get? b=some o→H b=none→b∉fs→b∉ex→h'.get? b=some o
 slot:∀b o,h.get? b=some o→H b=none→b∈fs→b∉ex→∃sl,h'.get? b=some {o with slots:=sl}
 free:∀b o,h.get? b=some o→H b=none→b∉ex→H' b=none
 there:∀b o,h.get? b=some o→b∉ex→∃o',h'.get? b=some o'
 tups:∀b xs,H b=some (.tup xs)→H' b=some (.tup xs)
 frzs:∀b o u,H b=some (.frz o u)→H' b=some (.frz o u)
 tbls:∀b ps,H b=some (.tbl ps)→∃more,H' b=some (.tbl (ps++more))
section
variable {fs fs' ex ex':List Addr} {H H1 H2:Hp} {h h1 h2 h':Heap} {a x e:Addr} {o:HO}
theorem Un.any (u:Un fs ex H H1 h h1) {b:Addr} {ob:Obj} (q:h.get? b=some ob) (n:H b=none) (hx:b∉ex):∃sl,h1.get? b=some {ob with slots:=sl}:=by
 by_cases hb:b∈fs
 ·exact u.slot b ob q n hb hx
 ·exact⟨ob.slots,u.keep b ob q n hb hx⟩
theorem Un.kept (k:∀b u,h.get? b=some u→h'.get? b=some u):Un fs ex H H h h':=
 ⟨λb ob q _ _ _=>k b ob q,λb ob q _ _ _=>⟨ob.slots,k b ob q⟩,λ_ _ _ n _=>n,λb ob q _=>⟨ob,k b ob q⟩,λ_ _ q=>q,λ_ _ _ q=>q,λ_ ps q=>⟨#[],by rw[q];simp⟩⟩
theorem Un.refl:Un fs ex H H h h:=Un.kept λ_ _ q=>q
theorem Un.laid (k:∀b u,h.get? b=some u→h'.get? b=some u) (hp:h.objs.size≤a) (hn:H a=none):Un fs ex H (upd H a o) h h' where
 keep:=λb u q _ _ _=>k b u q
 slot:=λb u q _ _ _=>⟨u.slots,k b u q⟩
 free:=λb u q n _=>by rw[ae (QE (Qw (Heap.lt_size q) hp))];exact n
 there:=λb u q _=>⟨u,k b u q⟩
 tups:=λb xs q=>by rw[ae (al q hn)];exact q
 frzs:=λb u xs q=>by rw[ae (al q hn)];exact q
 tbls:=λb ps q=>⟨#[],by rw[ae (al q hn),q];simp⟩
theorem Un.write (mu:Mut (H x)) (he:e=x∨H e=some (.own x)) (k:∀b u,b≠e→h.get? b=some u→h'.get? b=some u) (heo:∃u,h'.get? e=some u):Un fs ex H (upd H x o) h h':=by
 have hx:∀b,H b=none→b≠x:=λb n z=>by subst z;rw[n]at mu;exact mu
 have hb:∀b,H b=none→b≠e:=λb n z=>by
  subst z
  rcases he with r|r
  ·exact hx b n r
  ·rw[n]at r;cases r
 have hm:∀b u,H b=some u→¬Mut (some u)→b≠x:=λb u q nm z=>by subst z;rw[q]at mu;exact nm mu
 refine⟨λb u q n _ _=>k b u (hb b n) q,λb u q n _ _=>⟨u.slots,k b u (hb b n) q⟩,λb u q n _=>by rw[ae (hx b n)];exact n,λb u q _=>?_,
  λb xs q=>by rw[ae (hm b _ q λz=>z)];exact q,λb u xs q=>by rw[ae (hm b _ q λz=>z)];exact q,λb ps q=>⟨#[],by rw[ae (hm b _ q λz=>z),q];simp⟩⟩
 by_cases hbe:b=e
 ·subst hbe;exact heo
 ·exact⟨u,k b u hbe q⟩
end
def trk (h:Heap) (H:Hp):List Addr:=(List.range h.objs.size).filter λa=>(H a).isSome
def uN (h:Heap) (H:Hp):Heap:=PySem.W.hideAll h (trk h H)
theorem zn (h:Heap) (H:Hp):(uN h H).objs.size=h.objs.size:=PySem.W.hideAll_size _ _
theorem AU {h:Heap} {H:Hp} {b:Addr} {o:Obj} (e:h.get? b=some o) (n:H b=none):(uN h H).get? b=some o:=
 PySem.W.hideAll_get _ e λhm=>by
  have q:(H b).isSome=true:=(QB.mp hm).2
  rw[n]at q;simp at q
theorem CF {h:Heap} {H:Hp} {b:Addr} {o:Obj} (e:(uN h H).get? b=some o):h.get? b=some o∧H b=none:=by
 have e':h.get? b=some o:=PySem.W.of_hideAll (trk h H) e
 refine⟨e',?_⟩
 cases q:H b with
 |none=>rfl
 |some x=>
  have hm:b∈trk h H:=QB.mpr ⟨XQ.mpr (Heap.lt_size e'),by simp[q]⟩
  have z:(uN h H).get? b=none:=PySem.W.hideAll_none (trk h H) hm
  rw[z]at e;cases e
end L2
namespace L2
open PySem PySem.Spec PyProof.Rows
structure Mod (K:PySem.W.Frag) (mg:Str→Option Value) (base:Heap):Prop where
 kin:K.In base
 glob:base.Ns mainGlobals mg
 blt:∃mb,base.Ns builtinsNs mb∧∀x:Str,x≠"__name__"→mb x=bootBuiltins x
 nolimit:base.NoLimit
/-- the context: a def's body (or a comprehension's block) running. base: fixed through the whole law; s₀, H₀: the entry; outer: the frames whose slots others may change (a def's callers); stack: all frames that run;
  ex:iterators that were made ahead of the entry and are walked here (a comprehension's);fn:the names whose cells were made at the entry (a def:all;a comprehension's block:its own);calm:not within an except suite;pn:pins that every state bears;xe:what is wanted of an exception that leaves the code-/
structure Cx where
 prog:Program
 w:World
 K:PySem.W.Frag
 mg:Str→Option Value
 base:Heap
 A:Around
 N:List Str
 s₀:Shared
 H₀:Hp
 env:Env
 outer:List Env
 stack:List Env
 ex:List Addr
 fn:Str→Bool
 calm:Bool
 pn:List (Addr×Obj)
 xe:Value→Shared→Prop
def frs (l:List Env):List Addr:=l.filterMap (·.frame)
abbrev Cx.fs (X:Cx):List Addr:=frs X.outer
def Vis (sc:Scope) (x:Str):Prop:=sc.names.lookup x=some .local∨sc.names.lookup x=some .cell∨sc.names.lookup x=some .free
def Loc (sc:Scope) (x:Str):Prop:=sc.names.lookup x=some .local∨sc.names.lookup x=some .cell
def Look (env:Env) (h:Heap) (m:Str→Option Value) (x:Str) (u:Value):Prop:=
 (env.kindOf x=some .local∧m x=some u)∨((env.kindOf x=some .cell∨env.kindOf x=some .free)∧∃c,env.cells.lookup x=some c∧h.IsCell c (some u))
structure Cx.Ok (X:Cx):Prop where
 mod:Mod X.K X.mg X.base
 kind:X.env.scope.kind= .function
 glob:X.env.globals=mainGlobals
 blt:X.env.builtins=builtinsNs
 above:X.s₀.heap.objs.size≤X.env.locals
 inj:∀x y c,X.env.cells.lookup x=some c→X.env.cells.lookup y=some c→x=y
 has:∀x,(X.env.kindOf x=some .cell∨X.env.kindOf x=some .free)→∃c,X.env.cells.lookup x=some c
 cab:∀x c,X.fn x=true→X.env.cells.lookup x=some c→X.s₀.heap.objs.size≤c
 hd:X.calm=true→X.A.handled=none
 frames:X.A.frames=some X.stack
 stk:X.stack=X.outer∨(X.stack=X.env::X.outer∧X.env.frame=some X.env.locals)
 exf:∀b∈X.ex,b≠X.env.locals∧∀x c,X.env.cells.lookup x=some c→c≠b
 bs:∀b o,X.base.get? b=some o→X.s₀.heap.get? b=some o∧X.H₀ b=none
 bsz:X.base.objs.size≤X.s₀.heap.objs.size
 noex:∀b o,X.base.get? b=some o→b∉X.ex
 exfs:∀b∈X.ex,b∉X.fs
 funs:X.s₀.heap.FunFrames X.base X.outer
 frf:∀b∈X.fs,X.H₀ b=none
structure Inv (X:Cx) (pins:List (Addr×Obj)) (σ:List (Option V)) (H:Hp) (s:Shared):Prop where
 ok:X.Ok
 os:s.os=X.s₀.os
 bare:AllBare s.gens
 base:Un X.fs X.ex X.H₀ H X.s₀.heap s.heap
 loc:∃m,s.heap.Ns X.env.locals m∧∀(i:Nat) (x:Str) (v:V),X.N[i]?=some x→σ[i]?=some (some v)→Vis X.env.scope x→∃u,RelV v u∧Look X.env s.heap m x u
 cell:∀x c,X.env.cells.lookup x=some c→∃v,s.heap.IsCell c v
 free:H X.env.locals=none
 freeC:∀x c,X.env.cells.lookup x=some c→H c=none
 pin:∀p∈X.pn++pins,s.heap.get? p.1=some p.2∧H p.1=none∧p.1≠X.env.locals∧p.1∉X.fs∧∀v,p.2.data≠ .cell v
 hok:HOk X.prog X.w H s.heap
 len:σ.length=X.N.length
section
variable {X:Cx} {pins:List (Addr×Obj)} {σ:List (Option V)} {H H':Hp} {s:Shared} {h':Heap}
theorem Cx.Ok.nofr (ok:X.Ok) {b:Addr} {o:Obj} (e:X.base.get? b=some o):b∉X.fs:=λhb=>by
 have:=(ok.funs.mem hb).1
 rw[e]at this;cases this
theorem Inv.bs (I:Inv X pins σ H s):∀b o,X.base.get? b=some o→s.heap.get? b=some o∧H b=none:=λb o e=>
 ⟨I.base.keep b o (I.ok.bs b o e).1 (I.ok.bs b o e).2 (I.ok.nofr e) (I.ok.noex b o e),I.base.free b o (I.ok.bs b o e).1 (I.ok.bs b o e).2 (I.ok.noex b o e)⟩
theorem Inv.bk (I:Inv X pins σ H s):∀b o,X.base.get? b=some o→s.heap.get? b=some o:=λb o e=>(I.bs b o e).1
theorem Inv.mod (I:Inv X pins σ H s):Mod X.K X.mg X.base:=I.ok.mod
theorem Inv.kIn (I:Inv X pins σ H s):X.K.In s.heap:=I.ok.mod.kin.keeps I.bk
theorem Inv.lt (I:Inv X pins σ H s):X.env.locals<s.heap.objs.size:=let⟨_,hn,_⟩:=I.loc;hn.lt
theorem Inv.sz (I:Inv X pins σ H s):X.s₀.heap.objs.size≤s.heap.objs.size:=QK I.ok.above (Zj I.lt)
theorem Inv.nofs (I:Inv X pins σ H s) {a:Addr} (h:s.heap.objs.size≤a):a∉X.fs:=λhb=>by
 obtain⟨_,o,ho,_⟩:=I.ok.funs.mem hb
 exact absurd (Qw (Heap.lt_size ho) (QK I.sz h)) (Zt _)
theorem Inv.cne (I:Inv X pins σ H s):∀x c,X.env.cells.lookup x=some c→c≠X.env.locals:=λx c e z=>by
 obtain⟨v,o,ho,hd⟩:=I.cell x c e
 obtain⟨m,⟨o',es,ep,ho',hd',_⟩,_⟩:=I.loc
 rw[z,ho']at ho;cases ho;rw[hd']at hd;cases hd
theorem Inv.funs (I:Inv X pins σ H s):s.heap.FunFrames X.base X.outer:=by
 have all:∀(l:List Env),(∀b∈frs l,b∈X.fs)→X.s₀.heap.FunFrames X.base l→s.heap.FunFrames X.base l:=by
  intro l
  induction l with
  |nil=>intro _ _;trivial
  |cons env r ih=>
   intro hs hl
   obtain⟨hk,⟨L,o,hf,hn,ho,hd⟩,hr⟩:=hl
   have hL:L∈X.fs:=hs L (by unfold frs;rw[Xk,hf];exact Qj)
   obtain⟨sl,e⟩:=I.base.slot L o ho (I.ok.frf L hL) hL λz=>I.ok.exfs L z hL
   exact⟨hk,⟨L,_,hf,hn,e,hd⟩,ih (λb hb=>hs b (by unfold frs;rw[Xk,hf];exact Qh _ hb)) hr⟩
 exact all X.outer (λ_ hb=>hb) I.ok.funs
theorem Inv.stack (I:Inv X pins σ H s):s.heap.FunFrames X.base X.stack:=by
 rcases I.ok.stk with e|⟨e,hf⟩
 ·rw[e];exact I.funs
 ·rw[e]
  obtain⟨m,hn,_⟩:=I.loc
  refine .cons (by rw[I.ok.kind];decide) hf hn ?_ I.funs
  exact Heap.get?_none_of_le (QK I.ok.bsz I.ok.above)
theorem Inv.stkSub (I:Inv X pins σ H s):∀b∈frs X.stack,b∈X.env.locals::X.fs:=λb hb=>by
 rcases I.ok.stk with e|⟨e,hf⟩
 ·rw[e]at hb;exact Qh _ hb
 ·rw[e]at hb
  unfold frs at hb
  rw[Xk,hf]at hb
  exact hb
theorem Inv.stkFree (I:Inv X pins σ H s):∀b∈frs X.stack,H b=none:=λb hb=>by
 rcases Qm.mp (I.stkSub b hb)with e|hb
 ·rw[e];exact I.free
 ·obtain⟨_,o,ho,_⟩:=I.ok.funs.mem hb
  exact I.base.free b o ho (I.ok.frf b hb) λz=>I.ok.exfs b z hb
theorem Inv.step {g':Array GenState} {t':Nat} {d':Drawn} {ch:List Addr} (I:Inv X pins σ H s)
  (hch:∀b∈ch,(b∈X.ex∨X.s₀.heap.objs.size≤b)∧b≠X.env.locals∧(∀x c,X.env.cells.lookup x=some c→c≠b)∧∀p∈X.pn++pins,p.1≠b)
  (keep:∀b o,b≠X.env.locals→b∉X.fs→b∉ch→s.heap.get? b=some o→H b=none→h'.get? b=some o)
  (slot:∀b o,b≠X.env.locals→b∈X.fs→b∉ch→s.heap.get? b=some o→H b=none→∃sl,h'.get? b=some {o with slots:=sl}) (free:∀b o,b∉ch→s.heap.get? b=some o→H b=none→H' b=none)
  (there:∀b o,b∉ch→s.heap.get? b=some o→∃o',h'.get? b=some o')
  (tups:∀b xs,H b=some (.tup xs)→H' b=some (.tup xs)) (frzs:∀b o u,H b=some (.frz o u)→H' b=some (.frz o u)) (tbls:∀b ps,H b=some (.tbl ps)→∃more,H' b=some (.tbl (ps++more)))
  (ns:∀m,s.heap.Ns X.env.locals m→h'.Ns X.env.locals m) (hok:HOk X.prog X.w H' h') (hg:AllBare g'):
  Inv X pins σ H' {s with heap:=h',gens:=g',drawn:=d',toks:=t'}:=by
 have neL:∀b o,X.s₀.heap.get? b=some o→b≠X.env.locals:=λb o e=>QE (Qw (Heap.lt_size e) I.ok.above)
 have neC:∀b o,X.s₀.heap.get? b=some o→b∉X.ex→b∉ch:=λb o e hx hb=>by
  rcases(hch b hb).1 with z|z
  ·exact hx z
  ·exact absurd (Qw (Heap.lt_size e) z) (Zt _)
 have cellK:∀x c,X.env.cells.lookup x=some c→∀v,s.heap.IsCell c v→h'.IsCell c v:=λx c e v ⟨o,ho,hd⟩=>by
  have nch:c∉ch:=λz=>(hch c z).2.2.1 x c e rfl
  by_cases hc:c∈X.fs
  ·obtain⟨sl,q⟩:=slot c o (I.cne x c e) hc nch ho (I.freeC x c e)
   exact⟨_,q,hd⟩
  ·exact⟨o,keep c o (I.cne x c e) hc nch ho (I.freeC x c e),hd⟩
 refine⟨I.ok,I.os,hg,⟨λb o e n hb hx=>?_,λb o e n hb hx=>?_,λb o e n hx=>?_,λb o e hx=>?_,λb xs e=>tups b xs (I.base.tups b xs e),λb o xs e=>frzs b o xs (I.base.frzs b o xs e),λb ps e=>?_⟩,?_,λx c e=>?_,?_,λx c e=>?_,λp hp=>?_,hok,I.len⟩
 ·exact keep b o (neL b o e) hb (neC b o e hx) (I.base.keep b o e n hb hx) (I.base.free b o e n hx)
 ·obtain⟨sl,e1⟩:=I.base.slot b o e n hb hx
  obtain⟨sl',e2⟩:=slot b _ (neL b o e) hb (neC b o e hx) e1 (I.base.free b o e n hx)
  exact⟨sl',e2⟩
 ·obtain⟨o',e1⟩:=I.base.there b o e hx
  exact free b o' (neC b o e hx) e1 (I.base.free b o e n hx)
 ·obtain⟨o',e1⟩:=I.base.there b o e hx
  exact there b o' (neC b o e hx) e1
 ·obtain⟨m1,e1⟩:=I.base.tbls b ps e
  obtain⟨m2,e2⟩:=tbls b _ e1
  exact⟨m1++m2,by rw[e2,Array.append_assoc]⟩
 ·obtain⟨m,hn,hl⟩:=I.loc
  refine⟨m,ns m hn,λi x v e1 e2 e3=>?_⟩
  obtain⟨u,r,l⟩:=hl i x v e1 e2 e3
  refine⟨u,r,?_⟩
  rcases l with l|⟨k,c,e,z⟩
  ·exact .inl l
  ·exact .inr ⟨k,c,e,cellK x c e _ z⟩
 ·obtain⟨v,z⟩:=I.cell x c e
  exact⟨v,cellK x c e v z⟩
 ·obtain⟨m,⟨o,_,_,ho,_⟩,_⟩:=I.loc
  exact free _ o (λz=>(hch _ z).2.1 rfl) ho I.free
 ·obtain⟨v,o,ho,hd⟩:=I.cell x c e
  exact free c o (λz=>(hch c z).2.2.1 x c e rfl) ho (I.freeC x c e)
 ·obtain⟨e,n,ne,nf,d⟩:=I.pin p hp
  have nch:p.1∉ch:=λz=>(hch p.1 z).2.2.2 p hp rfl
  exact⟨keep p.1 p.2 ne nf nch e n,free p.1 p.2 nch e n,ne,nf,d⟩
theorem Inv.un {t':Nat} (I:Inv X pins σ H s) (u:Un X.fs [] H H' s.heap h') (hok:HOk X.prog X.w H' h'):Inv X pins σ H' {s with heap:=h',toks:=t'}:=by
 obtain⟨m,⟨o,es,ep,ho,r⟩,_⟩:=id I.loc
 obtain⟨sl,hL⟩:=u.any ho I.free (by simp)
 exact I.step (g':=s.gens) (d':=s.drawn) (ch:=[]) (λ_ z=>nomatch z) (λb o _ hb _ e n=>u.keep b o e n hb (by simp)) (λb o _ hb _ e n=>u.slot b o e n hb (by simp)) (λb o _ e n=>u.free b o e n (by simp)) (λb o _ e=>u.there b o e (by simp)) u.tups u.frzs u.tbls (λm' hm=>by
  obtain⟨o',es',ep',ho',r'⟩:=hm
  rw[ho]at ho';cases ho'
  exact⟨_,es',ep',hL,r'⟩) hok I.bare
theorem Inv.call {g':Array GenState} {t':Nat} {d':Drawn} {ch:List Addr} (I:Inv X pins σ H s) (u:Un (frs X.stack) ch H H' s.heap h') (hok:HOk X.prog X.w H' h') (hg:AllBare g')
  (hch:∀b∈ch,(b∈X.ex∨X.s₀.heap.objs.size≤b)∧b≠X.env.locals∧(∀x c,X.env.cells.lookup x=some c→c≠b)∧∀p∈X.pn++pins,p.1≠b):
  Inv X pins σ H' {s with heap:=h',gens:=g',drawn:=d',toks:=t'}:=by
 obtain⟨m,⟨o,es,ep,ho,r⟩,_⟩:=id I.loc
 obtain⟨sl,hL⟩:=u.any ho I.free λz=>(hch _ z).2.1 rfl
 exact I.step (ch:=ch) hch (λb o hL hb hc e n=>u.keep b o e n (λz=>(Qm.mp (I.stkSub b z)).elim hL hb) hc) (λb o _ _ hc e n=>u.any e n hc) (λb o hc e n=>u.free b o e n hc) (λb o hc e=>u.there b o e hc) u.tups u.frzs u.tbls (λm' hm=>by
  obtain⟨o',es',ep',ho',r'⟩:=hm
  rw[ho]at ho';cases ho'
  exact⟨_,es',ep',hL,r'⟩) hok hg
theorem Inv.turned {t':Nat} {it:Addr} (I:Inv X pins σ H s) (k:∀b o,b≠it→s.heap.get? b=some o→h'.get? b=some o) (hn:H it=none) (hL:it≠X.env.locals)
  (h1:it∈X.ex∨X.s₀.heap.objs.size≤it) (h2:∀x c,X.env.cells.lookup x=some c→c≠it) (h3:∀p∈X.pn++pins,p.1≠it):Inv X pins σ H {s with heap:=h',toks:=t'}:=by
 have nit:∀b u,H b=some u→b≠it:=λb u e z=>by rw[z,hn]at e;cases e
 refine I.step (g':=s.gens) (d':=s.drawn) (ch:=[it]) (λb hb=>?_) (λb o _ _ hc e _=>k b o (λz=>hc (by simp[z])) e) (λb o _ _ hc e _=>⟨o.slots,k b o (λz=>hc (by simp[z])) e⟩) (λ_ _ _ _ n=>n)
  (λb o hc e=>⟨o,k b o (λz=>hc (by simp[z])) e⟩) (λ_ _ e=>e) (λ_ _ _ e=>e) (λb ps e=>⟨#[],by rw[e];simp⟩) (λm hm=>?_) (λb u e=>?_) I.bare
 ·have e:b=it:=by simpa using hb
  subst e
  exact⟨h1,hL,h2,h3⟩
 ·obtain⟨o,es,ep,ho,r⟩:=hm
  exact⟨o,es,ep,k _ o (Ne.symm hL) ho,r⟩
 ·refine(I.hok b u e).stay (λc v hc q=>k c v ?_ q) (λ_ q=>q) λ_ _ q=>q
  rcases hc with z|z
  ·rw[z];exact nit b u e
  ·exact nit c _ z
theorem Inv.tok (I:Inv X pins σ H s) (t:Nat):Inv X pins σ H {s with toks:=t}:=I.un (h':=s.heap) (t':=t) Un.refl I.hok
theorem Inv.kept {t':Nat} (I:Inv X pins σ H s) (k:∀b u,s.heap.get? b=some u→h'.get? b=some u):Inv X pins σ H {s with heap:=h',toks:=t'}:=I.un (Un.kept k) (I.hok.kept k)
theorem Inv.laid {a:Addr} {o:HO} {t':Nat} (I:Inv X pins σ H s) (k:∀b u,s.heap.get? b=some u→h'.get? b=some u) (hp:s.heap.objs.size≤a) (new:ObjOk X.prog X.w (upd H a o) h' a o):
  Inv X pins σ (upd H a o) {s with heap:=h',toks:=t'}:=I.un (Un.laid k hp (I.hok.fresh hp)) (I.hok.laid k hp new)
theorem Inv.write {x e:Addr} {o:HO} {t':Nat} (I:Inv X pins σ H s) (mu:Mut (H x)) (he:e=x∨H e=some (.own x)) (k:∀b u,b≠e→s.heap.get? b=some u→h'.get? b=some u) (heo:∃u,h'.get? e=some u)
  (new:ObjOk X.prog X.w (upd H x o) h' x o):Inv X pins σ (upd H x o) {s with heap:=h',toks:=t'}:=I.un (Un.write mu he k heo) (I.hok.write mu he k heo new)
theorem Inv.pins_of {pins':List (Addr×Obj)} (I:Inv X pins σ H s) (h:∀p∈pins',s.heap.get? p.1=some p.2∧H p.1=none∧p.1≠X.env.locals∧p.1∉X.fs∧∀v,p.2.data≠ .cell v):Inv X pins' σ H s:=
 ⟨I.ok,I.os,I.bare,I.base,I.loc,I.cell,I.free,I.freeC,λp hp=>(Q4.mp hp).elim (λz=>I.pin p (ZT _ z)) (h p),I.hok,I.len⟩
theorem vI {N:List Str} (hN:N.Nodup) {i j:Nat} {x:Str} (a:N[i]?=some x) (b:N[j]?=some x):i=j:=by
 obtain⟨h1,e1⟩:=Q2.mp a
 obtain⟨h2,e2⟩:=Q2.mp b
 exact(List.getElem_inj hN).mp (e1.trans e2.symm)
theorem sR {M:Model} {A:Around} {E:Value→Shared→Prop} {i:Nat} {x:Str} {v:V} {u:Value} {Q:Unit→Shared→Prop} (I:Inv X pins σ H s) (hN:X.N.Nodup) (hi:X.N[i]?=some x) (hx:Loc X.env.scope x) (r:RelV v u)
  (h:∀s',Inv X pins (σ.set i (some v)) H s'→(∃a,Heap.SameBut a s.heap s'.heap∧(a=X.env.locals∨X.env.cells.lookup x=some a))→Q () s') (hf:X.fn x=true∨X.env.scope.names.lookup x=some .local:=by first|exact .inl rfl|exact .inr rfl|assumption):wpAny M A (storeName X.env x u) Q E s:=by
 obtain⟨m,hn,hl⟩:=id I.loc
 have hcls:(X.env.scope.kind== .class||(X.env.scope.kind== .module&&X.env.locals !=X.env.globals))=false:=by rw[I.ok.kind];rfl
 have hiσ:i<σ.length:=by rw[I.len];exact(Q2.mp hi).1
 have cne:=I.cne
 have tracked:∀{a:Addr} {h':Heap},(∃o,s.heap.get? a=some o∧H a=none)→Heap.SameBut a s.heap h'→HOk X.prog X.w H h':=λ{a h'} ha hs b ob e=>by
  obtain⟨_,_,hfree⟩:=ha
  refine(I.hok b ob e).stay (λc w' hc q=>(hs.2 c ?_).trans q) (λ_ q=>q) λ_ _ q=>q
  rintro rfl
  rcases hc with rfl|hc
  ·rw[hfree]at e;cases e
  ·rw[hfree]at hc;cases hc
 rcases hx with hk|hk
 ·refine wpAny_storeName_local hk hn (λh' hn' hs=>?_) hcls
  obtain⟨oL,_,_,hoL,_⟩:=id hn
  refine h _ ⟨I.ok,I.os,I.bare,⟨λb o e n hb hx=>?_,λb o e n hb hx=>?_,I.base.free,λb o e hx=>?_,I.base.tups,I.base.frzs,I.base.tbls⟩,⟨_,hn',λj y v' e1 e2 e3=>?_⟩,λy c e=>?_,I.free,I.freeC,λp hp=>?_,tracked ⟨oL,hoL,I.free⟩ hs,by simpa using I.len⟩ ⟨_,hs,.inl rfl⟩
  ·exact(hs.2 b (QE (Qw (Heap.lt_size e) I.ok.above))).trans (I.base.keep b o e n hb hx)
  ·obtain⟨sl,e1⟩:=I.base.slot b o e n hb hx
   exact⟨sl,(hs.2 b (QE (Qw (Heap.lt_size e) I.ok.above))).trans e1⟩
  ·obtain⟨o',e1⟩:=I.base.there b o e hx
   exact⟨o',(hs.2 b (QE (Qw (Heap.lt_size e) I.ok.above))).trans e1⟩
  ·by_cases hj:j=i
   ·subst hj
    rw[hi]at e1;cases e1
    rw[X8 hiσ]at e2
    cases e2
    exact⟨u,r,.inl ⟨hk,by simp⟩⟩
   ·rw[List.getElem?_set_ne (Ne.symm hj)]at e2
    obtain⟨u',r',q⟩:=hl j y v' e1 e2 e3
    refine⟨u',r',?_⟩
    rcases q with⟨k,e⟩|⟨k,c,e,z⟩
    ·refine .inl ⟨k,?_⟩
     have:y≠x:=λe=>hj (vI hN e1 (e▸hi))
     simp[this,e]
    ·exact .inr ⟨k,c,e,z.sameBut hs (cne y c e)⟩
  ·obtain⟨w',z⟩:=I.cell y c e
   exact⟨w',z.sameBut hs (cne y c e)⟩
  ·obtain⟨e,n,ne,nf,d⟩:=I.pin p hp
   exact⟨(hs.2 p.1 ne).trans e,n,ne,nf,d⟩
 ·have hfn:X.fn x=true:=by
   rcases hf with z|z
   ·exact z
   ·rw[z]at hk;cases hk
  obtain⟨c,hc⟩:=I.ok.has x (.inl hk)
  obtain⟨w',z⟩:=I.cell x c hc
  refine wpAny_storeName_cell I.ok.kind hk hc z (λh' hc' hs=>?_)
  obtain⟨oc,hoc,hocd⟩:=id z
  refine h {s with heap:=h'} ⟨I.ok,I.os,I.bare,⟨λb o e n hb hx=>?_,λb o e n hb hx=>?_,I.base.free,λb o e hx=>?_,I.base.tups,I.base.frzs,I.base.tbls⟩,⟨m,hn.sameBut hs (Ne.symm (cne x c hc)),λj y v' e1 e2 e3=>?_⟩,λy c' e=>?_,I.free,I.freeC,λp hp=>?_,tracked ⟨oc,hoc,I.freeC x c hc⟩ hs,by simpa using I.len⟩ ⟨c,hs,.inr hc⟩
  ·exact(hs.2 b (QE (Qw (Heap.lt_size e) (I.ok.cab x c hfn hc)))).trans (I.base.keep b o e n hb hx)
  ·obtain⟨sl,e1⟩:=I.base.slot b o e n hb hx
   exact⟨sl,(hs.2 b (QE (Qw (Heap.lt_size e) (I.ok.cab x c hfn hc)))).trans e1⟩
  ·obtain⟨o',e1⟩:=I.base.there b o e hx
   exact⟨o',(hs.2 b (QE (Qw (Heap.lt_size e) (I.ok.cab x c hfn hc)))).trans e1⟩
  ·by_cases hj:j=i
   ·subst hj
    rw[hi]at e1;cases e1
    rw[X8 hiσ]at e2
    cases e2
    exact⟨u,r,.inr ⟨.inl hk,c,hc,hc'⟩⟩
   ·rw[List.getElem?_set_ne (Ne.symm hj)]at e2
    obtain⟨u',r',q⟩:=hl j y v' e1 e2 e3
    refine⟨u',r',?_⟩
    rcases q with q|⟨k,c',e,z'⟩
    ·exact .inl q
    ·refine .inr ⟨k,c',e,z'.sameBut hs ?_⟩
     rintro rfl
     exact hj (vI hN e1 (I.ok.inj _ _ _ e hc▸hi))
  ·by_cases hcc:c'=c
   ·subst hcc;exact⟨_,hc'⟩
   ·obtain⟨w2,z2⟩:=I.cell y c' e
    exact⟨w2,z2.sameBut hs hcc⟩
  ·obtain⟨e,n,ne,nf,d⟩:=I.pin p hp
   refine⟨(hs.2 p.1 ?_).trans e,n,ne,nf,d⟩
   intro q
   rw[q,hoc]at e
   have q':oc=p.2:=Option.some.inj e
   exact d w' (by rw[←q'];exact hocd)
theorem pK {M:Model} {A:Around} {E:Value→Shared→Prop} {i:Nat} {x:Str} {v:V} {u:Value} {Q:Unit→Shared→Prop} (I:Inv X pins σ H s) (hN:X.N.Nodup) (hi:X.N[i]?=some x) (hx:Loc X.env.scope x) (r:RelV v u)
  (h:∀s',Inv X pins (σ.set i (some v)) H s'→Q () s') (hf:X.fn x=true∨X.env.scope.names.lookup x=some .local:=by first|exact .inl rfl|exact .inr rfl|assumption):wpAny M A (storeName X.env x u) Q E s:=
 sR I hN hi hx r (λs' I' _=>h s' I') hf
theorem Inv.call' {s':Shared} {ch:List Addr} (I:Inv X pins σ H s) (ho:s'.os=s.os) (u:Un (frs X.stack) ch H H' s.heap s'.heap) (hok:HOk X.prog X.w H' s'.heap) (hg:AllBare s'.gens)
  (hch:∀b∈ch,(b∈X.ex∨X.s₀.heap.objs.size≤b)∧b≠X.env.locals∧(∀x c,X.env.cells.lookup x=some c→c≠b)∧∀p∈X.pn++pins,p.1≠b):Inv X pins σ H' s':=by
 obtain⟨h',g',d',t',o'⟩:=s'
 have e:o'=s.os:=ho
 subst e
 exact I.call (g':=g') (t':=t') (d':=d') u hok hg hch
end
abbrev XK:=Value→Option Addr→Hp→Prop
abbrev St:=List (Option V)
abbrev VK:=V→Hp→Prop
abbrev TE:=St→Hp→VK→Prop
abbrev TT:=St→Hp→(Bool→Hp→Prop)→Prop
abbrev TA:=St→Hp→(List V→Hp→Prop)→Prop
structure vc where
 nx:St→Hp→Prop
 rt:VK
 bk:St→Hp→Prop:=λ_ _=>False
 ct:St→Hp→Prop:=λ_ _=>False
abbrev TS:=vc→St→Hp→Prop
def EP (X:Cx) (pins:List (Addr×Obj)) (σ:St) (Q:VK) (u:Value) (s':Shared):Prop:=∃v H',Inv X pins σ H' s'∧RelV v u∧Q v H'
def TP (X:Cx) (pins:List (Addr×Obj)) (σ:St) (Q:Bool→Hp→Prop) (b:Bool) (s':Shared):Prop:=∃H',Inv X pins σ H' s'∧Q b H'
def AP (X:Cx) (pins:List (Addr×Obj)) (σ:St) (Q:List V→Hp→Prop) (us:List Value) (s':Shared):Prop:=∃vs H',Inv X pins σ H' s'∧Vals vs us∧Q vs H'
def SP (X:Cx) (pins:List (Addr×Obj)) (D:vc) (f:Flow) (s':Shared):Prop:=
 match f with
 | .next=>∃σ' H',Inv X pins σ' H' s'∧D.nx σ' H'
 | .brk=>∃σ' H',Inv X pins σ' H' s'∧D.bk σ' H'
 | .cont=>∃σ' H',Inv X pins σ' H' s'∧D.ct σ' H'
 | .ret u=>∃v σ' H',Inv X pins σ' H' s'∧RelV v u∧D.rt v H'
def PE (X:Cx) (e:Expr) (t:TE):Prop:=
 ∀(pins:List (Addr×Obj)) (s:Shared) (σ:St) (H:Hp) (Q:VK),Inv X pins σ H s→t σ H Q→wpAny (model X.prog X.w) X.A (eval e X.env) (EP X pins σ Q) X.xe s
def PT (X:Cx) (e:Expr) (t:TT):Prop:=
 ∀(pins:List (Addr×Obj)) (s:Shared) (σ:St) (H:Hp) (Q:Bool→Hp→Prop),Inv X pins σ H s→t σ H Q→wpAny (model X.prog X.w) X.A (isTrue e X.env (eval e X.env)) (TP X pins σ Q) X.xe s
def PW (X:Cx) (e:Expr) (t:TT):Prop:=
 ∀(whole:Sem Value) (pins:List (Addr×Obj)) (s:Shared) (σ:St) (H:Hp) (Q:Bool→Hp→Prop),Inv X pins σ H s→t σ H Q→wpAny (model X.prog X.w) X.A (isTrue e X.env whole) (TP X pins σ Q) X.xe s
theorem PW.pt {X:Cx} {e:Expr} {t:TT} (h:PW X e t):PT X e t:=h _
def PA (X:Cx) (es:List Expr) (t:TA):Prop:=
 ∀(pos:Pos) (pins:List (Addr×Obj)) (s:Shared) (σ:St) (H:Hp) (Q:List V→Hp→Prop),Inv X pins σ H s→t σ H Q→wpAny (model X.prog X.w) X.A (spliced (backTo pos (starEach es X.env))) (AP X pins σ Q) X.xe s
def PS (X:Cx) (st:Stmt) (t:TS):Prop:=
 ∀(pins:List (Addr×Obj)) (s:Shared) (σ:St) (H:Hp) (D:vc),Inv X pins σ H s→t D σ H→wpAny (model X.prog X.w) X.A (exec st X.env) (SP X pins D) X.xe s
def PSs (X:Cx) (st:List Stmt) (t:TS):Prop:=
 ∀(pins:List (Addr×Obj)) (s:Shared) (σ:St) (H:Hp) (D:vc),Inv X pins σ H s→t D σ H→wpAny (model X.prog X.w) X.A (execs st X.env) (SP X pins D) X.xe s
theorem thn {α:Type} {t:Sem α} {Q Q':α→Shared→Prop} {M:Model} {A:Around} {E:Value→Shared→Prop} {s:Shared} (h:wpAny M A t Q E s) (hQ:∀a s,Q a s→Q' a s):wpAny M A t Q' E s:=wpAny_mono h hQ λ_ _ x=>x
end L2
namespace L2
open PySem PySem.Spec PyProof.Rows
section
variable {X:Cx}
def D7 (i:Nat):TE:=λσ H Q=>∃v,σ[i]?=some (some v)∧Q v H
def tC (v:V):TE:=λ_ H Q=>Q v H
theorem Em {i:Nat} {x:Str} {pos:Pos} (hN:X.N[i]?=some x) (hv:Vis X.env.scope x) (hd:(x==("__debug__":Str))=false:=by decide) (hcd:(x==("__classdict__":Str))=false:=by decide):PE X (.Name x pos) (D7 i):=by
 intro pins s σ H Q I h
 obtain⟨v,e,h⟩:=h
 obtain⟨m,hn,hl⟩:=I.loc
 obtain⟨u,r,l⟩:=hl i x v hN e hv
 have fin:EP X pins σ Q u s:=⟨v,H,I,r,h⟩
 rcases l with⟨hk,hm⟩|⟨hk,c,hc,hcell⟩
 ·exact wpAny_Name (wpAny_loadName_local I.ok.kind hk hn hm fin) hd
 ·rcases hk with hk|hk
  ·exact wpAny_Name (wpAny_loadName_cell I.ok.kind hk hc hcell fin) hd
  ·exact wpAny_Name (wpAny_loadName_free I.ok.kind hk hc hcell fin hcd) hd
theorem af {i j pos}:PE X (.Constant (.int i) j pos) (tC (.int i)):=λ_ _ _ H _ I h=>wpAny_Constant_int ⟨.int i,H,I.tok _,⟨_,rfl⟩,h⟩
theorem vE {b j pos}:PE X (.Constant (.bool b) j pos) (tC (.bl b)):=λ_ _ _ H _ I h=>Constant_bool ⟨.bl b,H,I,rfl,h⟩
theorem b6 {j pos}:PE X (.Constant .none j pos) (tC .non):=λ_ _ _ H _ I h=>Constant_none ⟨.non,H,I,rfl,h⟩
theorem ql {x j pos}:PE X (.Constant (.str x) j pos) (tC (.str x)):=λ_ _ _ H _ I h=>Calls.Constant_str ⟨.str x,H,I.tok _,⟨_,rfl⟩,h⟩
def Gl (X:Cx) (x:Str):Prop:=X.env.kindOf x=some .globalImplicit
theorem mC {E:Value→Shared→Prop} {pins:List (Addr×Obj)} {s:Shared} {σ:St} {H:Hp} {x:Str} {u:Value} {pos:Pos} {Q:Value→Shared→Prop} (I:Inv X pins σ H s) (hg:Gl X x) (hm:X.mg x=some u) (h:Q u s)
  (hd:(x==("__debug__":Str))=false:=by decide):wpAny (model X.prog X.w) X.A (eval (.Name x pos) X.env) Q E s:=
 Calls.Name_function_global I.ok.kind hg (Calls.loadGlobal_global (by rw[I.ok.glob];exact I.mod.glob.keeps I.bk) hm h) hd
theorem nQ {E:Value→Shared→Prop} {pins:List (Addr×Obj)} {s:Shared} {σ:St} {H:Hp} {x:Str} {u:Value} {pos:Pos} {Q:Value→Shared→Prop} (I:Inv X pins σ H s) (hg:Gl X x) (hm:X.mg x=none) (hv:bootBuiltins x=some u) (h:Q u s)
  (hn:x≠"__name__":=by decide) (hd:(x==("__debug__":Str))=false:=by decide):wpAny (model X.prog X.w) X.A (eval (.Name x pos) X.env) Q E s:=by
 obtain⟨mb,h1,h2⟩:=I.mod.blt
 exact Calls.Name_function_global I.ok.kind hg (Calls.loadGlobal_builtin (by rw[I.ok.glob];exact I.mod.glob.keeps I.bk) hm (by rw[I.ok.blt];exact h1.keeps I.bk) ((h2 x hn).trans hv) h) hd
theorem bE {x:Str} {v:V} {u:Value} {pos:Pos} (hg:Gl X x) (hm:X.mg x=some u) (r:RelV v u) (hd:(x==("__debug__":Str))=false:=by decide):PE X (.Name x pos) (tC v):=
 λ_ _ _ H _ I h=>mC I hg hm ⟨v,H,I,r,h⟩ hd
theorem x5 {x:Str} {v:V} {u:Value} {pos:Pos} (hg:Gl X x) (hm:X.mg x=none) (hv:bootBuiltins x=some u) (r:RelV v u) (hn:x≠"__name__":=by decide) (hd:(x==("__debug__":Str))=false:=by decide):PE X (.Name x pos) (tC v):=
 λ_ _ _ H _ I h=>nQ I hg hm hv ⟨v,H,I,r,h⟩ hn hd
variable {a b:Expr} {ta tb:TE} {pos:Pos}
def PC (X:Cx) (op:CmpOp) (a b:Expr) (t:TE):Prop:=
 ∀(pins:List (Addr×Obj)) (s:Shared) (σ:St) (H:Hp) (Q:VK),Inv X pins σ H s→t σ H Q→
  wpAny (model X.prog X.w) X.A (eval a X.env) (λv s₁=>wpAny (model X.prog X.w) X.A (eval b X.env) (λu s₂=>wpAny (model X.prog X.w) X.A (compareOp op v u) (EP X pins σ Q) X.xe s₂) X.xe s₁) X.xe s
def tB (t:TE):TT:=λσ H Q=>t σ H λx H1=>∃c,x= .bl c∧Q c H1
theorem En {op:CmpOp} {t:TE} (h:PC X op a b t) (h1:behindInMarks op b=false:=by first|exact nobehind _ (by decide) (by decide)|rfl):PE X (.Compare a [op] [b] pos) t:=λpins s σ H Q I hw=>wpAny_Compare1 (h pins s σ H Q I hw) h1
theorem xb {op:CmpOp} {t:TE} (h:PC X op a b t) (h1:behindInMarks op b=false:=by first|exact nobehind _ (by decide) (by decide)|rfl):PT X (.Compare a [op] [b] pos) (tB t):=by
 intro pins s σ H Q I hw
 refine wpAny_isTrue_Compare1 (thn (h pins s σ H _ I hw) λv s1 h1=>thn h1 λu s2 h2=>thn h2 λc s3 hzz=>?_) h1
 obtain⟨x,H1,I1,r1,q1⟩:=hzz
 obtain⟨d,rfl,q⟩:=q1
 cases r1
 exact wpAny_truthy_bool ⟨H1,I1,q⟩
theorem bY {e:Expr} {t:TE} (h:PE X e t) (he:∀whole,isTrue e X.env whole=(do let v←whole;standAt e.pos;holding [v] (truthy v)):=by intro _;rfl):PT X e (tB t):=by
 intro pins s σ H Q I hw
 refine isTrue_plain (thn (h pins s σ H _ I hw) λv s1 hzz=>?_) (he _)
 obtain⟨x,H1,I1,r1,q1⟩:=hzz
 obtain⟨d,rfl,q⟩:=q1
 cases r1
 exact wpAny_truthy_bool ⟨H1,I1,q⟩
variable {tA tB':TT} {rest:List Expr}
def tAnd (t u:TT):TT:=λσ H Q=>t σ H λc H1=>if c=true then u σ H1 Q else Q false H1
def tOr (t u:TT):TT:=λσ H Q=>t σ H λc H1=>if c=true then Q true H1 else u σ H1 Q
def tNot (t:TT):TT:=λσ H Q=>t σ H λc H1=>Q (!c) H1
theorem cT (ha:PT X a tA):PW X (.BoolOp .And [a] pos) tA:=by
 intro wh pins s σ H Q I h
 refine isTrue_and (thn (ha pins s σ H Q I h) λc s1 e=>?_)
 cases c with
 |true=>exact isTrue_and_nil e
 |false=>exact e
theorem lw (ha:PT X a tA):PW X (.BoolOp .Or [a] pos) tA:=by
 intro wh pins s σ H Q I h
 refine isTrue_or (thn (ha pins s σ H Q I h) λc s1 e=>?_)
 cases c with
 |false=>exact isTrue_or_nil e
 |true=>exact e
theorem dM (ha:PT X a tA) (hb:PW X (.BoolOp .And (b::rest) pos) tB'):PW X (.BoolOp .And (a::b::rest) pos) (tAnd tA tB'):=by
 intro wh pins s σ H Q I h
 refine isTrue_and (thn (ha pins s σ H _ I h) λc s1 ⟨H1,I1,q1⟩=>?_)
 cases c with
 |true=>exact hb wh pins s1 σ H1 Q I1 q1
 |false=>exact⟨H1,I1,q1⟩
theorem qh (ha:PT X a tA) (hb:PW X (.BoolOp .Or (b::rest) pos) tB'):PW X (.BoolOp .Or (a::b::rest) pos) (tOr tA tB'):=by
 intro wh pins s σ H Q I h
 refine isTrue_or (thn (ha pins s σ H _ I h) λc s1 ⟨H1,I1,q1⟩=>?_)
 cases c with
 |true=>exact⟨H1,I1,q1⟩
 |false=>exact hb wh pins s1 σ H1 Q I1 q1
theorem iI (ha:PT X a tA):PT X (.UnaryOp .Not a pos) (tNot tA):=by
 intro pins s σ H Q I h
 exact isTrue_not (ha pins s σ H (λc H1=>Q (!c) H1) I h)
def Fo (ta tb:TE):TE:=λσ H Q=>ta σ H λx H1=>∃c,x= .bl c∧if c=true then tb σ H1 Q else Q (.bl false) H1
def tOrV (ta tb:TE):TE:=λσ H Q=>ta σ H λx H1=>∃c,x= .bl c∧if c=true then Q (.bl true) H1 else tb σ H1 Q
def Fi (ta:TE):TE:=λσ H Q=>ta σ H λx H1=>∃c,x= .bl c∧Q (.bl (!c)) H1
theorem dt {op} {t:TE} (h:PE X a t):PE X (.BoolOp op [a] pos) t:=λpins s σ H Q I hw=>BoolOp_one (h pins s σ H Q I hw)
theorem gI (ha:PE X a ta) (hb:PE X (.BoolOp .And (b::rest) pos) tb):PE X (.BoolOp .And (a::b::rest) pos) (Fo ta tb):=by
 intro pins s σ H Q I h
 refine BoolOp_and (thn (ha pins s σ H _ I h) λv s1 hzz=>?_)
 obtain⟨x,H1,I1,r1,q1⟩:=hzz
 obtain⟨c,rfl,q1⟩:=q1
 cases r1
 refine wpAny_truthy_bool ?_
 cases c with
 |true=>exact hb pins s1 σ H1 Q I1 q1
 |false=>exact⟨.bl false,H1,I1,rfl,q1⟩
theorem xY (ha:PE X a ta) (hb:PE X (.BoolOp .Or (b::rest) pos) tb):PE X (.BoolOp .Or (a::b::rest) pos) (tOrV ta tb):=by
 intro pins s σ H Q I h
 refine BoolOp_or (thn (ha pins s σ H _ I h) λv s1 hzz=>?_)
 obtain⟨x,H1,I1,r1,q1⟩:=hzz
 obtain⟨c,rfl,q1⟩:=q1
 cases r1
 refine wpAny_truthy_bool ?_
 cases c with
 |false=>exact hb pins s1 σ H1 Q I1 q1
 |true=>exact⟨.bl true,H1,I1,rfl,q1⟩
theorem Al (ha:PE X a ta):PE X (.UnaryOp .Not a pos) (Fi ta):=by
 intro pins s σ H Q I h
 refine UnaryOp_ (thn (ha pins s σ H _ I h) λv s1 hzz=>?_)
 obtain⟨x,H1,I1,r1,q1⟩:=hzz
 obtain⟨c,rfl,q1⟩:=q1
 cases r1
 exact not_of (wpAny_truthy_bool ⟨.bl (!c),H1,I1,rfl,q1⟩)
end
end L2
namespace L2
open PySem PySem.Spec PyProof.Rows
def SqL (K:PySem.W.Frag) (H:Hp) (a:Addr) (xs:List V):Prop:=
 Rd H a (.lst xs)∨
  ∃(o:Obj) (its:Array Value) (n:Nat),K.lookup a=some o∧o.cls= .type "list"∧o.dict=none∧o.data= .seq its n∧its.size≤sizeLine∧Vals xs its.toList
def SqT (K:PySem.W.Frag) (H:Hp) (a:Addr) (xs:List V):Prop:=
 Rd H a (.tup xs)∨
  ∃(o:Obj) (its:Array Value) (n:Nat),K.lookup a=some o∧o.cls= .type "tuple"∧o.data= .seq its n∧its.size≤sizeLine∧Vals xs its.toList
def absV:Value→Option V
 | .none=>some .non
 | .bool b=>some (.bl b)
 | .int i _=>some (.int i)
 | .str x _=>some (.str x)
 | .bytes b _=>some (.byt b)
 | .float b _=>some (.flt b)
 | .ref a=>some (.ref a)
 | .type n=>some (.ty n)
 |_=>none
theorem RelV.abs {x:V} {u:Value} (r:RelV x u):absV u=some x:=by
 cases x with
 |non=>cases r;rfl
 |bl _=>cases r;rfl
 |int _=>obtain⟨t,rfl⟩:=r;rfl
 |str _=>obtain⟨t,rfl⟩:=r;rfl
 |byt _=>obtain⟨t,rfl⟩:=r;rfl
 |flt _=>obtain⟨t,rfl⟩:=r;rfl
 |ref _=>cases r;rfl
 |ty _=>cases r;rfl
theorem RelV.inj {x y:V} {u:Value} (r:RelV x u) (q:RelV y u):x=y:=Option.some.inj (r.abs.symm.trans q.abs)
theorem Vals.inj:∀{xs ys:List V} {us:List Value},Vals xs us→Vals ys us→xs=ys
 |_,_,_,.nil,.nil=>rfl
 |_,_,_,.cons r t,.cons r' t'=>by rw[r.inj r',Vals.inj t t']
section
variable {X:Cx} {pins:List (Addr×Obj)} {σ:St} {H:Hp} {s:Shared} {a:Addr} {xs ys:List V}
theorem SqL.of {K:PySem.W.Frag} (h:H a=some (.lst xs)):SqL K H a xs:= .inl (.inl h)
theorem SqT.of {K:PySem.W.Frag} (h:H a=some (.tup xs)):SqT K H a xs:= .inl (.inl h)
theorem Inv.list (I:Inv X pins σ H s) (h:SqL X.K H a xs):∃its:List Value,Vals xs its∧PlainL s.heap a its.toArray∧xs.length≤sizeLine:=by
 rcases h with h|⟨o,its,n,hk,hc,hd,hs,hz,r⟩
 ·obtain⟨z,its,n,r,e⟩:=h.ok I.hok
  exact⟨its,r,⟨_,n,e,rfl,rfl,rfl⟩,z⟩
 ·refine⟨its.toList,r,⟨o,n,I.kIn a o hk,hc,hd,by simpa using hs⟩,?_⟩
  have e:=r.length
  simp only[Q6]at e
  omega
theorem Inv.tuple (I:Inv X pins σ H s) (h:SqT X.K H a xs):∃its:List Value,Vals xs its∧IsTup s.heap a its.toArray∧xs.length≤sizeLine:=by
 rcases h with h|⟨o,its,n,hk,hc,hs,hz,r⟩
 ·obtain⟨z,its,r,p⟩:=h.ok I.hok
  exact⟨its,r,p,z⟩
 ·refine⟨its.toList,r,⟨o,I.kIn a o hk,hc,n,by simpa using hs⟩,?_⟩
  have e:=r.length
  simp only[Q6]at e
  omega
theorem Inv.list_inj (I:Inv X pins σ H s) (h:SqL X.K H a xs) (h':SqL X.K H a ys):xs=ys:=by
 obtain⟨its,r,⟨o,n,e,_,_,d⟩,_⟩:=I.list h
 obtain⟨its',r',⟨o',n',e',_,_,d'⟩,_⟩:=I.list h'
 rw[e]at e';cases e'
 rw[d]at d'
 injection d' with d1 _
 have:its=its':=by simpa using congrArg Array.toList d1
 subst this
 exact r.inj r'
end
abbrev Cx.wish (X:Cx) (E:Value→Shared→Prop):Cx:={X with xe:=E}
abbrev Cx.nox (X:Cx):Cx:=X.wish λ_ _=>False
theorem Cx.Ok.wish {X:Cx} (ok:X.Ok) (E:Value→Shared→Prop):(X.wish E).Ok:=
 ⟨ok.mod,ok.kind,ok.glob,ok.blt,ok.above,ok.inj,ok.has,ok.cab,ok.hd,ok.frames,ok.stk,ok.exf,ok.bs,ok.bsz,ok.noex,ok.exfs,ok.funs,ok.frf⟩
theorem Cx.Ok.unwish {X:Cx} {E:Value→Shared→Prop} (ok:(X.wish E).Ok):X.Ok:=
 ⟨ok.mod,ok.kind,ok.glob,ok.blt,ok.above,ok.inj,ok.has,ok.cab,ok.hd,ok.frames,ok.stk,ok.exf,ok.bs,ok.bsz,ok.noex,ok.exfs,ok.funs,ok.frf⟩
section
variable {X:Cx} {pins:List (Addr×Obj)} {σ:St} {H:Hp} {s:Shared} {E:Value→Shared→Prop}
theorem Inv.wish (I:Inv X pins σ H s) (E:Value→Shared→Prop):Inv (X.wish E) pins σ H s:=⟨I.ok.wish E,I.os,I.bare,I.base,I.loc,I.cell,I.free,I.freeC,I.pin,I.hok,I.len⟩
theorem Inv.unwish (I:Inv (X.wish E) pins σ H s):Inv X pins σ H s:=⟨I.ok.unwish,I.os,I.bare,I.base,I.loc,I.cell,I.free,I.freeC,I.pin,I.hok,I.len⟩
theorem SP.unwish {D:vc} {f:Flow} {s':Shared} (h:SP (X.wish E) pins D f s'):SP X pins D f s':=by
 cases f with
 |next=>obtain⟨σ',H',I,q⟩:=h;exact⟨σ',H',I.unwish,q⟩
 |brk=>obtain⟨σ',H',I,q⟩:=h;exact⟨σ',H',I.unwish,q⟩
 |cont=>obtain⟨σ',H',I,q⟩:=h;exact⟨σ',H',I.unwish,q⟩
 |ret u=>obtain⟨v,σ',H',I,r,q⟩:=h;exact⟨v,σ',H',I.unwish,r,q⟩
theorem PSs.nox {st:List Stmt} {t:TS} (h:PSs X.nox st t):PSs X st t:=λpins s σ H D I hw=>
 wpAny_mono (h pins s σ H D (I.wish _) hw) (λ_ _ q=>q.unwish) λ_ _ z=>False.elim z
end
section
variable {X:Cx} {st:Stmt} {rest:List Stmt} {t u:TS} {e:Expr} {te:TE} {pos:Pos}
def xR:TS:=λD σ H=>D.nx σ H
def Cf (t u:TS):TS:=λD σ H=>t {D with nx:=u D} σ H
theorem aE:PSs X [] xR:=λ_ _ σ H _ I h=>wpAny_execs_nil ⟨σ,H,I,h⟩
theorem ac (h1:PS X st t) (h2:PSs X rest u):PSs X (st::rest) (Cf t u):=by
 intro pins s σ H D I h
 refine wpAny_execs_cons (thn (h1 pins s σ H {D with nx:=u D} I h) λf s1 q=>?_)
 cases f with
 |next=>
  obtain⟨σ',H',I',q⟩:=q
  exact h2 pins s1 σ' H' D I' q
 |ret v=>exact q
 |brk=>exact q
 |cont=>exact q
theorem ai (h1:PS X st t):PSs X [st] t:=by
 intro pins s σ H D I h
 refine wpAny_execs_cons (thn (h1 pins s σ H D I h) λf s1 q=>?_)
 cases f with
 |next=>exact wpAny_execs_nil q
 |ret v=>exact q
 |brk=>exact q
 |cont=>exact q
def Eb:TS:=λD σ H=>D.bk σ H
theorem Ak:PS X (.Break pos) Eb:=λ_ _ σ H _ I h=>wpAny_Break ⟨σ,H,I,h⟩
theorem Inv.quiet {pins:List (Addr×Obj)} {σ:St} {H:Hp} {s:Shared} (I:Inv X pins σ H s):interactive X.env=false:=by simp[interactive,I.ok.kind]
def Fj (te:TE):TS:=λD σ H=>te σ H λ_ H1=>D.nx σ H1
theorem aS (he:PE X e te) (hs:swapsWith e none pos.line X.env=pure false:=by rfl):PS X (.Expr e pos) (Fj te):=by
 intro pins s σ H D I h
 exact wpAny_Expr_any (thn (he pins s σ H _ I h) λv s1 ⟨x,H1,I1,r1,q1⟩=>⟨σ,H1,I1,q1⟩) I.quiet hs
def tRet (te:TE):TS:=λD σ H=>te σ H D.rt
theorem aF (he:PE X e te):PS X (.Return (some e) pos) (tRet te):=by
 intro pins s σ H D I h
 exact wpAny_Return_some (thn (he pins s σ H _ I h) λv s1 ⟨x,H1,I1,r1,q1⟩=>⟨x,σ,H1,I1,r1,q1⟩)
def Fg:TS:=λD _ H=>D.rt .non H
theorem mi:PS X (.Return none pos) Fg:=λ_ _ σ H _ I h=>wpAny_Return_none ⟨.non,σ,H,I,rfl,h⟩
def tIfS (c:TT) (t u:TS):TS:=λD σ H=>c σ H λb H1=>if b=true then t D σ H1 else u D σ H1
theorem aR {c:Expr} {a b:List Stmt} {tc:TT} (hc:PT X c tc) (ha:PSs X a t) (hb:PSs X b u):PS X (.If c a b pos) (tIfS tc t u):=by
 intro pins s σ H D I h
 refine wpAny_If (thn (hc pins s σ H _ I h) λd s1 ⟨H1,I1,q1⟩=>?_)
 cases d with
 |true=>exact ha pins s1 σ H1 D I1 q1
 |false=>exact hb pins s1 σ H1 D I1 q1
end
abbrev TG:=V→St→Hp→(St→Hp→Prop)→Prop
abbrev TGs:=List V→St→Hp→(St→Hp→Prop)→Prop
def PG (X:Cx) (target:Expr) (t:TG):Prop:=
 ∀(pins:List (Addr×Obj)) (s:Shared) (σ:St) (H:Hp) (v:V) (u:Value) (Q:St→Hp→Prop),Inv X pins σ H s→RelV v u→t v σ H Q→
  wpAny (model X.prog X.w) X.A (assign target X.env u) (λ_ s'=>∃σ' H',Inv X pins σ' H' s'∧Q σ' H') X.xe s
def PGs (X:Cx) (ts:List Expr) (t:TGs):Prop:=
 ∀(pins:List (Addr×Obj)) (s:Shared) (σ:St) (H:Hp) (vs:List V) (us:List Value) (Q:St→Hp→Prop),Inv X pins σ H s→Vals vs us→t vs σ H Q→
  wpAny (model X.prog X.w) X.A (assignInOrder ((assignEach ts X.env).map (·.2)) us) (λ_ s'=>∃σ' H',Inv X pins σ' H' s'∧Q σ' H') X.xe s
abbrev E1:=V→V→V→Hp→(Hp→Prop)→Prop
def PSet (X:Cx) (t:E1):Prop:=
 ∀(pins:List (Addr×Obj)) (s:Shared) (σ:St) (H:Hp) (o i v:V) (ov iv u:Value) (Q:Hp→Prop),Inv X pins σ H s→RelV o ov→RelV i iv→RelV v u→t o i v H Q→
  wpAny (model X.prog X.w) X.A (setItem ov iv u) (λ_ s'=>∃H',Inv X pins σ H' s'∧Q H') X.xe s
abbrev TIp:=V→V→Hp→VK→Prop
def PIp (X:Cx) (op:Operator) (t:TIp):Prop:=
 ∀(pins:List (Addr×Obj)) (s:Shared) (σ:St) (H:Hp) (x y:V) (v u:Value) (Q:VK),Inv X pins σ H s→RelV x v→RelV y u→t x y H Q→
  wpAny (model X.prog X.w) X.A (inplaceOp op v u) (EP X pins σ Q) X.xe s
section
variable {X:Cx} {pos:Pos}
def oz (i:Nat):TG:=λv σ H Q=>Q (σ.set i (some v)) H
theorem bx {i:Nat} {x:Str} (hN:X.N.Nodup) (hi:X.N[i]?=some x) (hx:Loc X.env.scope x) (hf:X.fn x=true∨X.env.scope.names.lookup x=some .local:=by first|exact .inl rfl|exact .inr rfl|assumption):PG X (.Name x pos) (oz i):=by
 intro pins s σ H v u Q I r h
 exact wpAny_assign_Name (pK I hN hi hx r (λs' I'=>⟨_,H,I',h⟩) hf)
def gNil:TGs:=λvs σ H Q=>vs=[]∧Q σ H
def FM (t:TG) (u:TGs):TGs:=λvs σ H Q=>∃v r,vs=v::r∧t v σ H λσ' H'=>u r σ' H' Q
theorem mj:PGs X [] gNil:=by
 intro pins s σ H vs us Q I r h
 obtain⟨e,h⟩:=h
 subst e
 cases r
 exact assignInOrder_nil ⟨σ,H,I,h⟩
theorem cq {e:Expr} {es:List Expr} {t:TG} {u:TGs} (h1:PG X e t) (h2:PGs X es u)
  (hs:(assignEach (e::es) X.env).map (·.2)=assign e X.env::(assignEach es X.env).map (·.2):=by rfl):PGs X (e::es) (FM t u):=by
 intro pins s σ H vs us Q I r h
 obtain⟨v,vr,e1,h⟩:=h
 subst e1
 cases r with
 |cons r rr=>
  rw[hs]
  refine assignInOrder_cons (thn (h1 pins s σ H _ _ _ I r h) λ_ s1 hzz=>?_)
  obtain⟨σ1,H1,I1,q1⟩:=hzz
  exact h2 pins s1 σ1 H1 _ _ Q I1 rr q1
def gTup (K:PySem.W.Frag) (n:Nat) (t:TGs):TG:=λv σ H Q=>∃a xs,v= .ref a∧SqT K H a xs∧xs.length=n∧t xs σ H Q
theorem qk {es:List Expr} {k:Nat} {t:TGs} {n:Nat} (hc:X.calm=true) (h:PGs X es t)
  (hn:(assignEach es X.env).length=n:=by rfl) (hst:(assignEach es X.env).findIdx? (·.1)=none:=by rfl):PG X (.Tuple es k pos) (gTup X.K n t):=by
 intro pins s σ H v u Q I r hw
 obtain⟨a,xs,e1,hq,hl,hw⟩:=hw
 subst e1
 cases r
 obtain⟨its,rv,ht,hz⟩:=I.tuple hq
 refine assign_Tuple_tuple (I.ok.hd hc) ht (by simp[hn,←hl,rv.length]) hst λh' hx=>?_
 have I1:Inv X pins σ H {s with heap:=h'}:=I.kept (t':=s.toks) λb o e=>hx b o (QE (Heap.lt_size e)) e
 exact h pins _ σ H xs _ Q I1 (by simpa using rv) hw
def gSub (to ti:TE) (t:E1):TG:=λv σ H Q=>to σ H λo H1=>ti σ H1 λi H2=>t o i v H2 λH3=>Q σ H3
theorem xg {o i:Expr} {to ti:TE} {t:E1} (ho:PE X o to) (hi:PE X i ti) (hs:PSet X t)
  (ha:∀v,assign (.Subscript o i pos) X.env v=(do
   let ov←holding [v] (eval o X.env)
   let iv←holding [v,ov] (eval i X.env)
   standAt pos
   holding [v,ov,iv] (setItem ov iv v)
   release [v,ov,iv] []):=by intro _;rfl):PG X (.Subscript o i pos) (gSub to ti t):=by
 intro pins s σ H v u Q I r h
 rw[ha]
 refine wpAny_bind (wpAny_holding (thn (ho pins s σ H _ I h) λov s1 hzz=>?_))
 obtain⟨x,H1,I1,r1,q1⟩:=hzz
 refine wpAny_bind (wpAny_holding (thn (hi pins s1 σ H1 _ I1 q1) λiv s2 hzz=>?_))
 obtain⟨y,H2,I2,r2,q2⟩:=hzz
 refine wpAny_bind (wpAny_standAt (wpAny_bind (wpAny_holding (thn (hs pins s2 σ H2 x y v ov iv u _ I2 r1 r2 r q2) λ_ s3 hzz=>?_))))
 obtain⟨H3,I3,q3⟩:=hzz
 exact wpAny_release ⟨σ,H3,I3,q3⟩
def Ci (te:TE) (g:TG):TS:=λD σ H=>te σ H λx H1=>g x σ H1 D.nx
theorem nG {tg e:Expr} {te:TE} {g:TG} (he:PE X e te) (hg:PG X tg g) (hs:swapsWithSole [tg] e pos.line X.env=pure false:=by rfl) (hw:swappedStores [tg] e X.env=pure none:=by rfl)
  (h1:(assignEach [tg] X.env).map (·.2)=[assign tg X.env]:=by rfl):PS X (.Assign [tg] e pos) (Ci te g):=by
 intro pins s σ H D I h
 refine wpAny_Assign_stores (thn (he pins s σ H _ I h) λv s1 hzz=>?_) hs hw
 obtain⟨x,H1,I1,r1,q1⟩:=hzz
 rw[h1]
 exact thn (hg pins s1 σ H1 x v _ I1 r1 q1) λ_ s2 q=>q
theorem ar {i:Nat} {x:Str} {e:Expr} {te:TE} {pos':Pos} (hN:X.N.Nodup) (hi:X.N[i]?=some x) (hx:Loc X.env.scope x) (he:PE X e te) (hs:swapsWith e (some (.Name x pos')) pos.line X.env=pure false:=by rfl) (hf:X.fn x=true∨X.env.scope.names.lookup x=some .local:=by first|exact .inl rfl|exact .inr rfl|assumption):
  PS X (.Assign [.Name x pos'] e pos) (Ci te (oz i)):=by
 intro pins s σ H D I h
 refine wpAny_Assign_Name (thn (he pins s σ H _ I h) λv s1 hzz=>?_) hs
 obtain⟨y,H1,I1,r1,q1⟩:=hzz
 exact pK I1 hN hi hx r1 (λs2 I2=>⟨_,H1,I2,q1⟩) hf
def tAug (i:Nat) (te:TE) (ti:TIp):TS:=λD σ H=>∃x,σ[i]?=some (some x)∧te σ H λy H1=>ti x y H1 λz H2=>D.nx (σ.set i (some z)) H2
theorem xc {i:Nat} {x:Str} {e:Expr} {te:TE} {op:Operator} {ti:TIp} {pos':Pos} (hN:X.N.Nodup) (hi:X.N[i]?=some x) (hx:Loc X.env.scope x) (he:PE X e te) (ho:PIp X op ti) (hf:X.fn x=true∨X.env.scope.names.lookup x=some .local:=by first|exact .inl rfl|exact .inr rfl|assumption):
  PS X (.AugAssign (.Name x pos') op e pos) (tAug i te ti):=by
 intro pins s σ H D I h
 obtain⟨v,e1,h⟩:=h
 obtain⟨m,hn,hl⟩:=I.loc
 have vis:Vis X.env.scope x:=by rcases hx with k|k;exact .inl k;exact .inr (.inl k)
 obtain⟨u,r,l⟩:=hl i x v hi e1 vis
 refine wpAny_AugAssign_Name ?_
 have go:wpAny (model X.prog X.w) X.A (eval e X.env) (λw s₂=>wpAny (model X.prog X.w) X.A (inplaceOp op u w) (λr s₃=>wpAny (model X.prog X.w) X.A (storeName X.env x r) (λ_=>SP X pins D .next) X.xe s₃) X.xe s₂) X.xe s:=by
  refine thn (he pins s σ H _ I h) λw s1 hzz=>?_
  obtain⟨y,H1,I1,r1,q1⟩:=hzz
  refine thn (ho pins s1 σ H1 v y u w _ I1 r r1 q1) λz s2 hzz=>?_
  obtain⟨zv,H2,I2,r2,q2⟩:=hzz
  exact pK I2 hN hi hx r2 (λs3 I3=>⟨_,H2,I3,q2⟩) hf
 rcases l with⟨hk,hm⟩|⟨hk,c,hc,hcell⟩
 ·exact wpAny_loadName_local I.ok.kind hk hn hm go
 ·rcases hk with hk|hk
  ·exact wpAny_loadName_cell I.ok.kind hk hc hcell go
  ·rcases hx with k|k
   ·have:X.env.scope.names.lookup x=some .free:=hk
    rw[k]at this;cases this
   ·have:X.env.scope.names.lookup x=some .free:=hk
    rw[k]at this;cases this
def ipI (f:Int→Int→Int):TIp:=λx y H Q=>∃i j,x= .int i∧y= .int j∧Q (.int (f i j)) H
theorem AR:PIp X .Add (ipI λi j=>i+j):=by
 intro pins s σ H x y v u Q I r1 r2 h
 obtain⟨i,j,e1,e2,q⟩:=h
 subst e1;subst e2
 obtain⟨t,rfl⟩:=r1
 obtain⟨t',rfl⟩:=r2
 exact iadd_int ⟨.int _,H,I.tok _,⟨_,rfl⟩,q⟩
theorem EJ:PIp X .Sub (ipI λi j=>i-j):=by
 intro pins s σ H x y v u Q I r1 r2 h
 obtain⟨i,j,e1,e2,q⟩:=h
 subst e1;subst e2
 obtain⟨t,rfl⟩:=r1
 obtain⟨t',rfl⟩:=r2
 exact isub_int ⟨.int _,H,I.tok _,⟨_,rfl⟩,q⟩
end
section
variable {X:Cx} {pos:Pos}
def zZ (c:TT) (tb:TS):TS:=λD σ H=>∃W:Nat→St→Hp→Prop,(∃m,W m σ H)∧∀m σ H,W m σ H→
 c σ H λb H1=>if b=true then ∃N:St→Hp→Prop,(∀σ' H',N σ' H'→∃m',m'<m∧W m' σ' H')∧tb {D with nx:=N,ct:=N,bk:=D.nx} σ H1 else D.nx σ H1
theorem jw {c:Expr} {body:List Stmt} {tc:TT} {tb:TS} (hp:PassesOwn (model X.prog X.w) X.A X.env X.xe) (hc:PT X c tc) (hb:PSs X body tb):PS X (.While c body [] pos) (zZ tc tb):=by
 intro pins s σ H D I h
 obtain⟨W,⟨m0,w0⟩,turn⟩:=h
 refine wpAny_While (codeAny_whileLoop (λn s'=>∃σ' H',Inv X pins σ' H' s'∧W n σ' H') ?_ m0 ⟨σ,H,I,w0⟩)
 rintro n s1 ⟨σ1,H1,I1,w1⟩
 refine wpAny_passesOwn hp (thn (hc pins s1 σ1 H1 _ I1 (turn n σ1 H1 w1)) λb s2 ⟨H2,I2,q2⟩=>?_)
 cases b with
 |true=>
  obtain⟨N,hN,q2⟩:=q2
  rw[if_pos rfl]
  refine wpAny_passesOwn hp (thn (hb pins s2 σ1 H2 _ I2 q2) λf s3 q3=>?_)
  cases f with
  |next=>
   obtain⟨σ3,H3,I3,n3⟩:=q3
   obtain⟨m',hm,w3⟩:=hN σ3 H3 n3
   exact⟨m',hm,σ3,H3,I3,w3⟩
  |cont=>
   obtain⟨σ3,H3,I3,n3⟩:=q3
   obtain⟨m',hm,w3⟩:=hN σ3 H3 n3
   exact⟨m',hm,σ3,H3,I3,w3⟩
  |brk=>exact q3
  |ret v=>exact q3
 |false=>
  rw[if_neg Qe]
  exact wpAny_execs_nil ⟨σ1,H2,I2,q2⟩
end
structure It where
 go:Nat→Hp→Prop
 yld:Nat→Hp→V→Hp→Prop
 stop:Nat→Hp→Prop
def wz (X:Cx) (pins:List (Addr×Obj)) (H:Hp) (b:Addr):Prop:=
 H b=none∧b≠X.env.locals∧b∉X.fs∧(b∈X.ex∨X.s₀.heap.objs.size≤b)∧(∀x c,X.env.cells.lookup x=some c→c≠b)∧∀p∈X.pn++pins,p.1≠b
theorem Inv.fpOk {X:Cx} {pins:List (Addr×Obj)} {σ:St} {H H':Hp} {s:Shared} {b:Addr} (I:Inv X pins σ H s) (hb:s.heap.objs.size≤b) (hn:H' b=none):wz X pins H' b:=by
 refine⟨hn,Nat.ne_of_gt (Qw I.lt hb),I.nofs hb,.inr (QK I.sz hb),λx c e z=>?_,λp hp z=>?_⟩
 ·obtain⟨v,q⟩:=I.cell x c e
  exact absurd (Qw q.lt (by rw[z];exact hb)) (Zt _)
 ·exact absurd (Qw (Heap.lt_size (I.pin p hp).1) (by rw[z];exact hb)) (Zt _)
structure xJ (P:Program) (w:World) (K:PySem.W.Frag) (tg:Expr) (J:It) (fp:List Addr) (it:Addr) (tn:Nat→Heap→Prop):Prop where
 mem:it∈fp
 obj:∀i h,tn i h→∀b∈fp,∃o,h.get? b=some o∧∀v,o.data≠ .cell v
 keep:∀i h h',tn i h→(∀b∈fp,∀o,h.get? b=some o→h'.get? b=some o)→tn i h'
 item:∀(X:Cx),X.prog=P→X.w=w→X.K=K→X.calm=true→∀(i:Nat) (pins:List (Addr×Obj)) (s:Shared) (σ:St) (H:Hp) (E:Value→Shared→Prop),Inv X pins σ H s→(∀b∈fp,wz X pins H b)→tn i s.heap→J.go i H→
  wpAny (model P w) X.A (pyNext (.ref it)) (λr s1=>∃u,r=some u∧
   wpAny (model P w) X.A (letOwnedTupleGo tg (.ref it) u) (λ_ s2=>∃x H',Inv X pins σ H' s2∧RelV x u∧J.yld i H x H'∧tn (i+1) s2.heap∧∀b∈fp,H' b=none) E s1) E s
 done:∀(X:Cx),X.prog=P→X.w=w→X.K=K→X.calm=true→∀(i:Nat) (pins:List (Addr×Obj)) (s:Shared) (σ:St) (H:Hp) (E:Value→Shared→Prop),Inv X pins σ H s→(∀b∈fp,wz X pins H b)→tn i s.heap→J.stop i H→
  wpAny (model P w) X.A (pyNext (.ref it)) (λr s1=>r=none∧Inv X pins σ H s1) E s
 self:∀(A:Around) (i:Nat) (s:Shared) (Q:Value→Shared→Prop) (E:Value→Shared→Prop),tn i s.heap→Q (.ref it) s→wpAny (model P w) A (pyIter (.ref it)) Q E s
abbrev TI:=St→Hp→(It→Hp→Prop)→Prop
def PIE (X:Cx) (pins:List (Addr×Obj)) (σ:St) (tg:Expr) (R:It→Hp→Prop) (itv:Value) (s2:Shared):Prop:=
 ∃(it:Addr) (fp:List Addr) (tn:Nat→Heap→Prop) (J:It) (H':Hp),itv= .ref it∧Inv X pins σ H' s2∧xJ X.prog X.w X.K tg J fp it tn∧tn 0 s2.heap∧(∀b∈fp,wz X pins H' b)∧R J H'
def PI (X:Cx) (tg iter:Expr) (wi:TI):Prop:=
 ∀(pins:List (Addr×Obj)) (s:Shared) (σ:St) (H:Hp) (R:It→Hp→Prop),Inv X pins σ H s→wi σ H R→
  wpAny (model X.prog X.w) X.A (eval iter X.env) (λv s1=>wpAny (model X.prog X.w) X.A (pyIter v) (PIE X pins σ tg R) X.xe s1) X.xe s
theorem vZ {M:Model} {A:Around} {E:Value→Shared→Prop} {s:Shared} {tg:Expr} {it:Addr} {u:Value} {o:Obj} {n:String} {vs:Array Value} {Q:Unit→Shared→Prop} (ho:s.heap.get? it=some o) (hc:o.cls= .type n) (hd:o.data= .fields vs)
  (hn:["enumerate","zip","dict_itemiterator","dict_reverseitemiterator","odict_iterator","itertools.zip_longest","itertools.pairwise"].contains n=false) (hQ:Q () s):wpAny M A (letOwnedTupleGo tg (.ref it) u) Q E s:=by
 unfold letOwnedTupleGo
 cases tg<;>first
  |exact wpAny_pure hQ
  |(cases u<;>first
    |exact wpAny_pure hQ
    |(refine wpAny_bind (wpAny_load ho ?_)
      rw[hc,hd]
      show wpAny M A (if(["enumerate","zip","dict_itemiterator","dict_reverseitemiterator","odict_iterator","itertools.zip_longest","itertools.pairwise"].contains n&&vs[0]?==some (rawInt _))=true then _ else _) Q E s
      rw[if_neg (by intro h;rw[hn,Zw]at h;cases h)]
      exact wpAny_pure hQ))
def Itl (K:PySem.W.Frag) (a:Addr):It:=
 ⟨λi H=>∃xs x,SqL K H a xs∧xs[i]?=some x,λi H x H'=>H'=H∧∀xs,SqL K H a xs→xs[i]?=some x,λi H=>∃xs,SqL K H a xs∧xs.length≤i⟩
def Itr (lo:Int) (n:Nat):It:=⟨λi _=>i<n,λi H x H'=>H'=H∧x= .int (lo+i),λi _=>n≤i⟩
theorem yN {P:Program} {w:World} {K:PySem.W.Frag} {tg:Expr} (a it:Addr):xJ P w K tg (Itl K a) [it] it (λi h=>h.IsListIter it a i) where
 mem:=by simp
 obj:=λi h st b hb=>by
  have e:b=it:=by simpa using hb
  subst e
  obtain⟨o,e,c,d⟩:=st
  exact⟨o,e,λv z=>by rw[d]at z;cases z⟩
 keep:=λi h h' st k=>st.at λo e=>k it (by simp) o e
 item:=by
  intro X hP hw hK hc i pins s σ H E I hf st hg
  subst hP hw hK
  obtain⟨xs,x,hq,hx⟩:=hg
  obtain⟨its,rv,p,hz⟩:=I.list hq
  obtain⟨u,hu,ru⟩:=rv.get hx
  obtain⟨f0,f1,f2,f3,f4,f5⟩:=hf it (by simp)
  refine wpAny_pyNext_list_item st p.isList (x:=u) (by simpa using hu) λh' st' sb=>?_
  have I1:Inv X pins σ H {s with heap:=h'}:=I.turned (t':=s.toks) (λb o hb e=>(sb.2 b hb).trans e) f0 f1 f3 f4 f5
  obtain⟨o,e,c,d⟩:=id st'
  exact⟨u,rfl,vZ (s:={s with heap:=h'}) e c d (by decide) ⟨x,H,I1,ru,⟨rfl,λys hy=>by rw[I.list_inj hy hq];exact hx⟩,st',λb hb=>(hf b hb).1⟩⟩
 done:=by
  intro X hP hw hK hc i pins s σ H E I hf st hg
  subst hP hw hK
  obtain⟨xs,hq,hx⟩:=hg
  obtain⟨its,rv,p,hz⟩:=I.list hq
  obtain⟨f0,f1,f2,f3,f4,f5⟩:=hf it (by simp)
  have hl:=rv.length
  exact wpAny_pyNext_list_end (I.ok.hd hc) st p.isList (by simp;omega) λh' eb=>⟨rfl,I.turned (t':=s.toks) (λb o hb e=>eb b o hb e) f0 f1 f3 f4 f5⟩
 self:=λ_ _ _ _ _ st h=>wpAny_pyIter_listiter st h
theorem wP {P:Program} {w:World} {K:PySem.W.Frag} {tg:Expr} (it:Addr) (lo:Int) (n:Nat):xJ P w K tg (Itr lo n) [it] it (λi h=>IsRangeIter h it (lo+(i:Nat)*1) ((n:Int)-(i:Nat)) 1) where
 mem:=by simp
 obj:=λi h st b hb=>by
  have e:b=it:=by simpa using hb
  subst e
  exact⟨_,st,λv z=>by
   have z':Data.fields _=Data.cell v:=z
   cases z'⟩
 keep:=λi h h' st k=>k it (by simp) _ st
 item:=by
  intro X hP hw hK hc i pins s σ H E I hf st hg
  subst hP hw hK
  obtain⟨f0,f1,f2,f3,f4,f5⟩:=hf it (by simp)
  have W:=Walks.range (prog:=X.prog) (w:=X.w) (I.ok.hd hc) it lo 1 n
  refine W.item i s _ _ hg st λv h' tk hv st' kk=>?_
  obtain⟨t,rfl⟩:=hv
  have I1:Inv X pins σ H {s with heap:=h',toks:=tk}:=I.turned (λb o hb e=>kk b o (by simpa using hb) e) f0 f1 f3 f4 f5
  refine⟨_,rfl,vZ (s:={s with heap:=h',toks:=tk}) (n:="range_iterator") st' rfl rfl (by decide) ⟨.int (lo+i),H,I1,⟨t,?_⟩,⟨rfl,rfl⟩,st',λb hb=>(hf b hb).1⟩⟩
  rw[Int.mul_one]
 done:=by
  intro X hP hw hK hc i pins s σ H E I hf st hg
  subst hP hw hK
  obtain⟨f0,f1,f2,f3,f4,f5⟩:=hf it (by simp)
  exact wpAny_pyNext_range_end (I.ok.hd hc) st (by have:n≤i:=hg;omega) λh' eb=>⟨rfl,I.turned (t':=s.toks) (λb o hb e=>eb b o hb e) f0 f1 f3 f4 f5⟩
 self:=λ_ _ _ _ _ st h=>wpAny_pyIter_rangeiter st h
end L2
namespace L2
open PySem PySem.Spec PyProof.Rows
section
variable {X:Cx} {tg:Expr}
def FJ (K:PySem.W.Frag) (tl:TE):TI:=λσ H R=>tl σ H λx H1=>∃a,x= .ref a∧(∃xs,SqL K H1 a xs)∧R (Itl K a) H1
theorem cU {l:Expr} {tl:TE} (hl:PE X l tl):PI X tg l (FJ X.K tl):=by
 intro pins s σ H R I h
 refine thn (hl pins s σ H _ I h) λv s1 hzz=>?_
 obtain⟨x,H1,I1,r1,q1⟩:=hzz
 obtain⟨a,e,⟨xs,hq⟩,q⟩:=q1
 subst e
 cases r1
 obtain⟨its,rv,p,hz⟩:=I1.list hq
 refine wpAny_pyIter_list p.isList ?_
 refine⟨s1.heap.objs.size,[s1.heap.objs.size],_,_,H1,rfl,I1.kept (t':=s1.toks) λb o e=>Heap.get?_push_of_some _ e,yN a _,⟨_,Heap.get?_push_size _ rfl,rfl,rfl⟩,λb hb=>?_,q⟩
 have e:b=s1.heap.objs.size:=by simpa using hb
 subst e
 exact I1.fpOk (Q5 _) (I1.hok.fresh (Q5 _))
theorem Ag {pins:List (Addr×Obj)} {σ:St} {H:Hp} {s:Shared} {R:It→Hp→Prop} {E:Value→Shared→Prop} {lo hi:Int} {t u v:Tok} {tk:Nat} (I:Inv X pins σ H s) (h1: -(2^62)≤lo) (h2:lo<2^62) (h3: -(2^62)≤hi) (h4:hi<2^62)
  (q:R (Itr lo (hi-lo).toNat) H):wpAny (model X.prog X.w) X.A (pyIter (.ref s.heap.objs.size)) (PIE X pins σ tg R) E {s with heap:=s.heap.push {cls:= .type "range",data:= .fields #[.int lo t,.int hi u,.int 1 v]},toks:=tk}:=by
 refine wpAny_pyIter_range (IsRange.new ..) (small_one h1 h2 h3 h4) ?_
 have I1:Inv X pins σ H {s with heap:=s.heap.push {cls:= .type "range",data:= .fields #[.int lo t,.int hi u,.int 1 v]},toks:=tk}:=I.kept λb o e=>Heap.get?_push_of_some _ e
 refine⟨(s.heap.push {cls:= .type "range",data:= .fields #[.int lo t,.int hi u,.int 1 v]}).objs.size,[(s.heap.push {cls:= .type "range",data:= .fields #[.int lo t,.int hi u,.int 1 v]}).objs.size],_,_,H,rfl,
  I1.kept (t':=tk) λb o e=>Heap.get?_push_of_some _ e,wP _ lo (hi-lo).toNat,?_,λb hb=>?_,q⟩
 ·have e1:lo+((0:Nat):Int)*1=lo:=by simp
  have e2:(((hi-lo).toNat:Nat):Int)-((0:Nat):Int)=Builtin.Range.rangeSize lo hi 1:=by rw[rangeSize_one];split<;>omega
  show IsRangeIter _ _ (lo+((0:Nat):Int)*1) ((((hi-lo).toNat:Nat):Int)-((0:Nat):Int)) 1
  rw[e1,e2]
  exact Heap.get?_push_size _ rfl
 ·have e:b=(s.heap.push {cls:= .type "range",data:= .fields #[.int lo t,.int hi u,.int 1 v]}).objs.size:=by simpa using hb
  subst e
  exact I1.fpOk (Q5 _) (I1.hok.fresh (Q5 _))
def FI (ta:TA):TI:=λσ H R=>ta σ H λvs H1=>∃j:Int,vs=[.int j]∧-(2^62)≤j∧j<2^62∧R (Itr 0 j.toNat) H1
theorem fj {a:Expr} {ta:TA} {p pos:Pos} (hg:Gl X "range") (hm:X.mg "range"=none) (ha:PA X [a] ta) (hs:starEach [a] X.env=[(false,eval a X.env)]:=by rfl):PI X tg (.Call (.Name "range" p) [a] [] pos) (FI ta):=by
 intro pins s σ H R I h
 refine Call_ (nQ I hg hm boot_range (PyProof.Rows.callWith_type1 (thn (ha pos pins s σ H _ I h) λus s1 hzz=>?_) hs rfl))
 obtain⟨vs,H1,I1,r1,q1⟩:=hzz
 obtain⟨j,e,q1,q2,q⟩:=q1
 subst e
 cases r1 with
 |cons r rr=>
  cases rr
  obtain⟨t,rfl⟩:=r
  exact call_range_1 (Ag I1 (by omega) (by omega) q1 q2 (by simpa using q))
def tFor (wi:TI) (g:TG) (tb:TS):TS:=λD σ H=>wi σ H λJ H1=>∃W:Nat→Nat→St→Hp→Prop,(∃m,W 0 m σ H1)∧∀i m σ H,W i m σ H→
 (J.stop i H∧D.nx σ H)∨(J.go i H∧∃N:St→Hp→Prop,(∀σ' H',N σ' H'→∃m',m'<m∧W (i+1) m' σ' H')∧∀x H',J.yld i H x H'→g x σ H' λσ2 H2=>tb {D with nx:=N,ct:=N,bk:=D.nx} σ2 H2)
def qj (fp:List Addr) (h:Heap):List (Addr×Obj):=fp.filterMap λb=>(h.get? b).map λo=>(b,o)
theorem iN {fp:List Addr} {h:Heap} {b:Addr} {o:Obj} (hb:b∈fp) (e:h.get? b=some o):(b,o)∈qj fp h:=List.mem_filterMap.mpr ⟨b,hb,by rw[e];rfl⟩
theorem y6 {fp:List Addr} {h:Heap} {p:Addr×Obj} (hp:p∈qj fp h):p.1∈fp∧h.get? p.1=some p.2:=by
 obtain⟨b,hb,e⟩:=List.mem_filterMap.mp hp
 cases q:h.get? b with
 |none=>rw[q]at e;cases e
 |some o=>
  rw[q]at e
  have e':(b,o)=p:=Option.some.inj e
  subst e'
  exact⟨hb,q⟩
theorem Inv.pinned {pins:List (Addr×Obj)} {σ:St} {H:Hp} {s:Shared} {fp:List Addr} (I:Inv X pins σ H s) (hf:∀b∈fp,wz X pins H b) (ho:∀b∈fp,∃o,s.heap.get? b=some o∧∀v,o.data≠ .cell v):Inv X (pins++qj fp s.heap) σ H s:=
 I.pins_of λp hp=>(Q4.mp hp).elim (λz=>I.pin p (Qt _ z)) λz=>by
  obtain⟨hb,e⟩:=y6 z
  obtain⟨f0,f1,f2,_⟩:=hf p.1 hb
  obtain⟨o,e',d⟩:=ho p.1 hb
  rw[e]at e';cases e'
  exact⟨e,f0,f1,f2,d⟩
theorem Inv.unpinned {pins pl:List (Addr×Obj)} {σ:St} {H:Hp} {s:Shared} (I:Inv X (pins++pl) σ H s):Inv X pins σ H s:=I.pins_of λp hp=>I.pin p (Qt _ (ZT _ hp))
theorem gH {iter:Expr} {body:List Stmt} {wi:TI} {g:TG} {tb:TS} {pos:Pos} (hp:PassesOwn (model X.prog X.w) X.A X.env X.xe) (hc:X.calm=true) (hi:PI X tg iter wi) (hg:PG X tg g) (hb:PSs X body tb)
  (hs:∀x,foldedSetIterable iter X.env x=pure x:=by intro _;rfl):PS X (.For tg iter body [] pos) (tFor wi g tb):=by
 intro pins s σ H D I h
 refine wpAny_For (thn (hi pins s σ H _ I h) λv s1 h1=>thn h1 λitv s2 h2=>?_) hs
 obtain⟨it,fp,tn,J,H2,e,I2,T,st2,f2,W,⟨m0,w0⟩,turn⟩:=h2
 subst e
 have stat:∀{H':Hp},(∀b∈fp,H' b=none)→∀b∈fp,wz X pins H' b:=λhn b hb=>⟨hn b hb,(f2 b hb).2⟩
 refine codeAny_forLoop_any (λn s'=>∃i σ' H',Inv X pins σ' H' s'∧tn i s'.heap∧(∀b∈fp,H' b=none)∧W i n σ' H') ?_ m0 ⟨0,σ,H2,I2,st2,λb hb=>(f2 b hb).1,w0⟩
 rintro n s3 ⟨i,σ3,H3,I3,st3,fr3,w3⟩
 rcases turn i n σ3 H3 w3 with⟨stop,qn⟩|⟨go,N,hN,step⟩
 ·refine wpAny_passesOwn hp (thn (T.done X rfl rfl rfl hc i pins s3 σ3 H3 X.xe I3 (stat fr3) st3 stop) λr s4 ⟨hr,I4⟩=>?_)
  subst hr
  exact wpAny_execs_nil ⟨σ3,H3,I4,qn⟩
 ·refine wpAny_passesOwn hp (thn (T.item X rfl rfl rfl hc i pins s3 σ3 H3 X.xe I3 (stat fr3) st3 go) λr s4 ⟨u,hr,h4⟩=>?_)
  subst hr
  refine wpAny_passesOwn hp (thn h4 λ_ s5 hzz=>?_)
  obtain⟨x,H5,I5,r5,y5,st5,fr5⟩:=hzz
  have I5':=I5.pinned (stat fr5) (T.obj _ _ st5)
  refine wpAny_passesOwn hp (thn (hg _ s5 σ3 H5 x u _ I5' r5 (step x H5 y5)) λ_ s6 hzz=>?_)
  obtain⟨σ6,H6,I6,q6⟩:=hzz
  refine wpAny_passesOwn hp (thn (hb _ s6 σ6 H6 _ I6 q6) λf s7 q7=>?_)
  have again:∀{σ7:St} {H7:Hp},Inv X (pins++qj fp s5.heap) σ7 H7 s7→N σ7 H7→∃m,m<n∧∃i σ' H',Inv X pins σ' H' s7∧tn i s7.heap∧(∀b∈fp,H' b=none)∧W i m σ' H':=λ{σ7 H7} I7 n7=>by
   obtain⟨m',hm,w7⟩:=hN σ7 H7 n7
   refine⟨m',hm,i+1,σ7,H7,I7.unpinned,T.keep _ _ _ st5 λb hb o e=>(I7.pin (b,o) (Qt _ (Qt _ (iN hb e)))).1,λb hb=>?_,w7⟩
   obtain⟨o,e,d⟩:=T.obj _ _ st5 b hb
   exact(I7.pin (b,o) (Qt _ (Qt _ (iN hb e)))).2.1
  cases f with
  |next=>obtain⟨σ7,H7,I7,n7⟩:=q7;exact again I7 n7
  |cont=>obtain⟨σ7,H7,I7,n7⟩:=q7;exact again I7 n7
  |brk=>obtain⟨σ7,H7,I7,q7⟩:=q7;exact⟨σ7,H7,I7.unpinned,q7⟩
  |ret v=>obtain⟨x7,σ7,H7,I7,r7,q7⟩:=q7;exact⟨x7,σ7,H7,I7.unpinned,r7,q7⟩
end
theorem Bc {K:PySem.W.Frag} {a:Addr} {xs:List V} {g:TG} {tb:TS} {D:vc} {σ:St} {H:Hp} (Pv:Nat→St→Hp→Prop) (h0:Pv 0 σ H) (hl:∀i σ H,i≤xs.length→Pv i σ H→SqL K H a xs)
  (hs:∀i x σ H,xs[i]?=some x→Pv i σ H→g x σ H λσ2 H2=>tb {D with nx:=Pv (i+1),ct:=Pv (i+1),bk:=D.nx} σ2 H2) (hd:∀σ H,Pv xs.length σ H→D.nx σ H):
  ∃W:Nat→Nat→St→Hp→Prop,(∃m,W 0 m σ H)∧∀i m σ H,W i m σ H→
   ((Itl K a).stop i H∧D.nx σ H)∨((Itl K a).go i H∧∃N:St→Hp→Prop,(∀σ' H',N σ' H'→∃m',m'<m∧W (i+1) m' σ' H')∧∀x H',(Itl K a).yld i H x H'→g x σ H' λσ2 H2=>tb {D with nx:=N,ct:=N,bk:=D.nx} σ2 H2):=by
 refine⟨λi m σ H=>m=xs.length-i∧i≤xs.length∧Pv i σ H,⟨xs.length,by simp,Qf _,h0⟩,?_⟩
 rintro i m σ H ⟨rfl,hi,p⟩
 have q:=hl i σ H hi p
 by_cases hlt:i<xs.length
 ·refine .inr ⟨⟨xs,xs[i],q,by simp[hlt]⟩,Pv (i+1),λσ' H' p'=>⟨xs.length-(i+1),by omega,rfl,hlt,p'⟩,λx H' y=>?_⟩
  obtain⟨e,y⟩:=y
  subst e
  exact hs i x σ _ (y xs q) p
 ·have e:i=xs.length:=by omega
  subst e
  exact .inl ⟨⟨xs,q,Q5 _⟩,hd σ H p⟩
theorem nS {lo:Int} {n:Nat} {g:TG} {tb:TS} {D:vc} {σ:St} {H:Hp} (Pv:Nat→St→Hp→Prop) (h0:Pv 0 σ H)
  (hs:∀i σ H,i<n→Pv i σ H→g (.int (lo+i)) σ H λσ2 H2=>tb {D with nx:=Pv (i+1),ct:=Pv (i+1),bk:=D.nx} σ2 H2) (hd:∀σ H,Pv n σ H→D.nx σ H):
  ∃W:Nat→Nat→St→Hp→Prop,(∃m,W 0 m σ H)∧∀i m σ H,W i m σ H→
   ((Itr lo n).stop i H∧D.nx σ H)∨((Itr lo n).go i H∧∃N:St→Hp→Prop,(∀σ' H',N σ' H'→∃m',m'<m∧W (i+1) m' σ' H')∧∀x H',(Itr lo n).yld i H x H'→g x σ H' λσ2 H2=>tb {D with nx:=N,ct:=N,bk:=D.nx} σ2 H2):=by
 refine⟨λi m σ H=>m=n-i∧i≤n∧Pv i σ H,⟨n,by simp,Qf _,h0⟩,?_⟩
 rintro i m σ H ⟨rfl,hi,p⟩
 by_cases hlt:i<n
 ·refine .inr ⟨hlt,Pv (i+1),λσ' H' p'=>⟨n-(i+1),by omega,rfl,hlt,p'⟩,λx H' y=>?_⟩
  obtain⟨e,y⟩:=y
  subst e y
  exact hs i σ _ hlt p
 ·have e:i=n:=by omega
  subst e
  exact .inl ⟨Q5 _,hd σ H p⟩
end L2
namespace L2
open PySem PySem.Spec PyProof.Rows
abbrev R2:=V→V→Hp→VK→Prop
def OpR (X:Cx) (f:Value→Value→Sem Value) (r:R2):Prop:=
 ∀(pins:List (Addr×Obj)) (s:Shared) (σ:St) (H:Hp) (x y:V) (v u:Value) (Q:VK),Inv X pins σ H s→RelV x v→RelV y u→r x y H Q→
  wpAny (model X.prog X.w) X.A (f v u) (EP X pins σ Q) X.xe s
def UnR (X:Cx) (f:Value→Sem Value) (r:V→Hp→VK→Prop):Prop:=
 ∀(pins:List (Addr×Obj)) (s:Shared) (σ:St) (H:Hp) (x:V) (v:Value) (Q:VK),Inv X pins σ H s→RelV x v→r x H Q→
  wpAny (model X.prog X.w) X.A (f v) (EP X pins σ Q) X.xe s
def gr (X:Cx) (f:Value) (r:List V→Hp→VK→Prop):Prop:=
 ∀(pins:List (Addr×Obj)) (s:Shared) (σ:St) (H:Hp) (xs:List V) (us:List Value) (Q:VK),Inv X pins σ H s→Vals xs us→r xs H Q→
  wpAny (model X.prog X.w) X.A (call f us) (EP X pins σ Q) X.xe s
def tOp (r:R2) (ta tb:TE):TE:=λσ H Q=>ta σ H λx H1=>tb σ H1 λy H2=>r x y H2 Q
def tUn (r:V→Hp→VK→Prop) (ta:TE):TE:=λσ H Q=>ta σ H λx H1=>r x H1 Q
def rI (C:Int→Int→Prop) (g:Int→Int→V):R2:=λx y H Q=>∃i j,x= .int i∧y= .int j∧C i j∧Q (g i j) H
def rI0 (g:Int→Int→V):R2:=λx y H Q=>∃i j,x= .int i∧y= .int j∧Q (g i j) H
def rU (g:Int→V):V→Hp→VK→Prop:=λx H Q=>∃i,x= .int i∧Q (g i) H
section
variable {X:Cx} {a b c:Expr} {ta tb tc:TE} {pos:Pos}
theorem EW (ha:PE X a ta) (hb:PE X b tb) {pins:List (Addr×Obj)} {s:Shared} {σ:St} {H:Hp} {R:V→V→Hp→Prop} (I:Inv X pins σ H s)
  (h:ta σ H λx H1=>tb σ H1 λy H2=>R x y H2) {Q:Value→Shared→Prop} {f:Value→Value→Sem Value}
  (hf:∀v u s2 x y H2,Inv X pins σ H2 s2→RelV x v→RelV y u→R x y H2→wpAny (model X.prog X.w) X.A (f v u) Q X.xe s2):
  wpAny (model X.prog X.w) X.A (eval a X.env) (λv s₁=>wpAny (model X.prog X.w) X.A (eval b X.env) (λu s₂=>wpAny (model X.prog X.w) X.A (f v u) Q X.xe s₂) X.xe s₁) X.xe s:=by
 refine thn (ha pins s σ H _ I h) λv s1 hzz=>?_
 obtain⟨x,H1,I1,r1,q1⟩:=hzz
 refine thn (hb pins s1 σ H1 _ I1 q1) λu s2 hzz=>?_
 obtain⟨y,H2,I2,r2,q2⟩:=hzz
 exact hf v u s2 x y H2 I2 r1 r2 q2
theorem am {op:Operator} {r:R2} (ho:OpR X (binaryOp op) r) (ha:PE X a ta) (hb:PE X b tb):PE X (.BinOp a op b pos) (tOp r ta tb):=by
 intro pins s σ H Q I h
 exact wpAny_BinOp (EW ha hb I h λv u s2 x y H2 I2 rx ry q=>ho pins s2 σ H2 x y v u Q I2 rx ry q)
theorem xX {op:UnaryOp} {r:V→Hp→VK→Prop} (ho:UnR X (unaryOp op) r) (ha:PE X a ta):PE X (.UnaryOp op a pos) (tUn r ta):=by
 intro pins s σ H Q I h
 exact UnaryOp_ (thn (ha pins s σ H _ I h) λv s1 ⟨x,H1,I1,r1,q1⟩=>ho pins s1 σ H1 x v Q I1 r1 q1)
theorem opI {f:Value→Value→Sem Value} {C:Int→Int→Prop} {g:Int→Int→Int}
  (rule:∀(i j:Int) (t u:Tok) (s:Shared) (Q:Value→Shared→Prop) (E:Value→Shared→Prop),C i j→Q (.int (g i j) s.toks) {s with toks:=s.toks+1}→wpAny (model X.prog X.w) X.A (f (.int i t) (.int j u)) Q E s):
  OpR X f (rI C λi j=> .int (g i j)):=by
 intro pins s σ H x y v u Q I rx ry h
 obtain⟨i,j,rfl,rfl,hc,q⟩:=h
 obtain⟨t,rfl⟩:=rx
 obtain⟨t',rfl⟩:=ry
 exact rule i j t t' s _ _ hc ⟨.int (g i j),H,I.tok _,⟨_,rfl⟩,q⟩
theorem opI0 {f:Value→Value→Sem Value} {g:Int→Int→Int}
  (rule:∀(i j:Int) (t u:Tok) (s:Shared) (Q:Value→Shared→Prop) (E:Value→Shared→Prop),Q (.int (g i j) s.toks) {s with toks:=s.toks+1}→wpAny (model X.prog X.w) X.A (f (.int i t) (.int j u)) Q E s):
  OpR X f (rI0 λi j=> .int (g i j)):=by
 intro pins s σ H x y v u Q I rx ry h
 obtain⟨i,j,rfl,rfl,q⟩:=h
 obtain⟨t,rfl⟩:=rx
 obtain⟨t',rfl⟩:=ry
 exact rule i j t t' s _ _ ⟨.int (g i j),H,I.tok _,⟨_,rfl⟩,q⟩
theorem CC {f:Value→Value→Sem Value} {g:Int→Int→Bool}
  (rule:∀(i j:Int) (t u:Tok) (s:Shared) (Q:Value→Shared→Prop) (E:Value→Shared→Prop),Q (.bool (g i j)) s→wpAny (model X.prog X.w) X.A (f (.int i t) (.int j u)) Q E s):
  OpR X f (rI0 λi j=> .bl (g i j)):=by
 intro pins s σ H x y v u Q I rx ry h
 obtain⟨i,j,rfl,rfl,q⟩:=h
 obtain⟨t,rfl⟩:=rx
 obtain⟨t',rfl⟩:=ry
 exact rule i j t t' s _ _ ⟨.bl (g i j),H,I,rfl,q⟩
def CDiv (i j:Int):Prop:=0<j∧j<1073741824
def CPow (i j:Int):Prop:=0≤j∧j≤1000000∧i.natAbs<2^64
def CMul (i j:Int):Prop:=(-(2^64)<i∧i<2^64)∨(-(2^64)<j∧j<2^64)
theorem CMul.ok {i j:Int} (h:CMul i j):IntMulOk i j:=by
 rcases h with⟨h1,h2⟩|⟨h1,h2⟩
 ·exact .of_left (intBits_le_64 h1 h2)
 ·exact .of_right (intBits_le_64 h1 h2)
theorem bq:OpR X (binaryOp .Add) (rI0 λi j=> .int (i+j)):=opI0 λ_ _ _ _ _ _ _ q=>add_int q
theorem fE:OpR X (binaryOp .Sub) (rI0 λi j=> .int (i-j)):=opI0 λ_ _ _ _ _ _ _ q=>sub_int q
theorem cy:OpR X (binaryOp .Mult) (rI CMul λi j=> .int (i*j)):=opI λ_ _ _ _ _ _ _ hc q=>mul_int q hc.ok
theorem aP:OpR X (binaryOp .FloorDiv) (rI CDiv λi j=> .int (i/j)):=opI λi j _ _ _ _ _ hc q=>by
 have h1:(0:Int)<j:=hc.1
 have h2:j<1073741824:=hc.2
 exact floordiv_int (by omega) (by rw[XR i (by omega)];exact q) (.inl (PyProof.noPylong_small (by omega)))
theorem aM:OpR X (binaryOp .Mod) (rI (λ_ j=>0<j) λi j=> .int (i%j)):=opI λi j _ _ _ _ _ hc q=>by
 have h1:(0:Int)<j:=hc
 exact mod_int' (by omega) (by rw[Int.fmod_eq_emod_of_nonneg i (by omega)];exact q)
theorem fF:OpR X (binaryOp .Pow) (rI CPow λi j=> .int (i^j.toNat)):=opI λ_ _ _ _ _ _ _ hc q=>pow_int_small hc.1 hc.2.1 hc.2.2 q
theorem unI {f:Value→Sem Value} {g:Int→Int}
  (rule:∀(i:Int) (t:Tok) (s:Shared) (Q:Value→Shared→Prop) (E:Value→Shared→Prop),Q (.int (g i) s.toks) {s with toks:=s.toks+1}→wpAny (model X.prog X.w) X.A (f (.int i t)) Q E s):
  UnR X f (rU λi=> .int (g i)):=by
 intro pins s σ H x v Q I rx h
 obtain⟨i,rfl,q⟩:=h
 obtain⟨t,rfl⟩:=rx
 exact rule i t s _ _ ⟨.int (g i),H,I.tok _,⟨_,rfl⟩,q⟩
theorem uf:UnR X (unaryOp .USub) (rU λi=> .int (-i)):=unI λ_ _ _ _ _ q=>neg_int q
end
def Ef:V→V→Bool
 | .non,.non=>true| .non,.int _=>true| .int _,.non=>true| .non,.bl _=>true| .bl _,.non=>true| .non,.str _=>true| .str _,.non=>true
 | .int _,.int _=>true| .bl _,.bl _=>true| .str _,.str _=>true| .byt _,.byt _=>true
 | .int _,.str _=>true| .str _,.int _=>true| .bl _,.str _=>true| .str _,.bl _=>true
 |_,_=>false
def rEq:R2:=λx y H Q=>Ef x y=true∧Q (.bl (decide (x=y))) H
def rNe:R2:=λx y H Q=>Ef x y=true∧Q (.bl (!decide (x=y))) H
theorem yv {i j:Int}:decide (V.int i=V.int j)=(i==j):=by
 rw[Xb]
 simp
theorem Bp {i j:Bool}:decide (V.bl i=V.bl j)=(i==j):=by
 rw[Xb]
 simp
theorem yu {i j:Str}:decide (V.str i=V.str j)=(i==j):=by
 rw[Xb]
 simp
theorem yw {i j:Array UInt8}:decide (V.byt i=V.byt j)=(i.toList==j.toList):=by
 rw[Xb]
 cases i
 cases j
 simp
section
variable {X:Cx} {a b c:Expr} {ta tb tc:TE} {pos:Pos}
theorem a8 {pins:List (Addr×Obj)} {σ:St} {H:Hp} {s:Shared} {Q:VK} {k k':Bool} (I:Inv X pins σ H s) (q:Q (.bl k) H) (e:k=k'):EP X pins σ Q (.bool k') s:=by
 subst e
 exact⟨.bl k,H,I,rfl,q⟩
theorem bL:OpR X (compareOp .Eq) rEq:=by
 intro pins s σ H x y v u Q I rx ry h
 obtain⟨hs,q⟩:=h
 cases x with
 |non=>
  cases rx
  cases y with
  |non=>cases ry;exact PySem.EqNone.eq_none_none (a8 I q (by simp))
  |bl j=>cases ry;exact PySem.EqNone.eq_none_bool (a8 I q (by simp))
  |int j=>obtain⟨t',rfl⟩:=ry;exact PySem.EqNone.eq_none_int (a8 I q (by simp))
  |str j=>obtain⟨t',rfl⟩:=ry;exact PySem.EqNone.eq_none_str (a8 I q (by simp))
  |_=>exact absurd (show false=true from hs) Qe
 |bl i=>
  cases rx
  cases y with
  |non=>cases ry;exact PySem.EqNone.eq_bool_none (a8 I q (by simp))
  |bl j=>cases ry;exact eq_bool (a8 I q Bp)
  |str j=>obtain⟨t',rfl⟩:=ry;exact PySem.EqMixed.eq_bool_str (a8 I q (by simp))
  |_=>exact absurd (show false=true from hs) Qe
 |int i=>
  obtain⟨t,rfl⟩:=rx
  cases y with
  |non=>cases ry;exact PySem.EqNone.eq_int_none (a8 I q (by simp))
  |int j=>obtain⟨t',rfl⟩:=ry;exact eq_int (a8 I q yv)
  |str j=>obtain⟨t',rfl⟩:=ry;exact PySem.EqMixed.eq_int_str (a8 I q (by simp))
  |_=>exact absurd (show false=true from hs) Qe
 |str i=>
  obtain⟨t,rfl⟩:=rx
  cases y with
  |non=>cases ry;exact PySem.EqNone.eq_str_none (a8 I q (by simp))
  |bl j=>cases ry;exact PySem.EqMixed.eq_str_bool (a8 I q (by simp))
  |int j=>obtain⟨t',rfl⟩:=ry;exact PySem.EqMixed.eq_str_int (a8 I q (by simp))
  |str j=>obtain⟨t',rfl⟩:=ry;exact eq_str (a8 I q yu)
  |_=>exact absurd (show false=true from hs) Qe
 |byt i=>
  obtain⟨t,rfl⟩:=rx
  cases y with
  |byt j=>obtain⟨t',rfl⟩:=ry;exact PySem.W.eq_bytes (a8 I q yw)
  |_=>exact absurd (show false=true from hs) Qe
 |_=>cases y<;>exact absurd (show false=true from hs) Qe
theorem Ap:OpR X (compareOp .NotEq) rNe:=by
 intro pins s σ H x y v u Q I rx ry h
 obtain⟨hs,q⟩:=h
 cases x with
 |non=>
  cases rx
  cases y with
  |non=>cases ry;exact PySem.EqNone.ne_none_none (a8 I q (by simp))
  |bl j=>cases ry;exact PySem.EqNone.ne_none_bool (a8 I q (by simp))
  |int j=>obtain⟨t',rfl⟩:=ry;exact PySem.EqNone.ne_none_int (a8 I q (by simp))
  |str j=>obtain⟨t',rfl⟩:=ry;exact PySem.EqNone.ne_none_str (a8 I q (by simp))
  |_=>exact absurd (show false=true from hs) Qe
 |bl i=>
  cases rx
  cases y with
  |non=>cases ry;exact PySem.EqNone.ne_bool_none (a8 I q (by simp))
  |bl j=>cases ry;exact ne_bool (a8 I q (congrArg not Bp))
  |str j=>obtain⟨t',rfl⟩:=ry;exact PySem.EqMixed.ne_bool_str (a8 I q (by simp))
  |_=>exact absurd (show false=true from hs) Qe
 |int i=>
  obtain⟨t,rfl⟩:=rx
  cases y with
  |non=>cases ry;exact PySem.EqNone.ne_int_none (a8 I q (by simp))
  |int j=>obtain⟨t',rfl⟩:=ry;exact ne_int (a8 I q (congrArg not yv))
  |str j=>obtain⟨t',rfl⟩:=ry;exact PySem.EqMixed.ne_int_str (a8 I q (by simp))
  |_=>exact absurd (show false=true from hs) Qe
 |str i=>
  obtain⟨t,rfl⟩:=rx
  cases y with
  |non=>cases ry;exact PySem.EqNone.ne_str_none (a8 I q (by simp))
  |bl j=>cases ry;exact PySem.EqMixed.ne_str_bool (a8 I q (by simp))
  |int j=>obtain⟨t',rfl⟩:=ry;exact PySem.EqMixed.ne_str_int (a8 I q (by simp))
  |str j=>obtain⟨t',rfl⟩:=ry;exact ne_str (a8 I q (congrArg not yu))
  |_=>exact absurd (show false=true from hs) Qe
 |byt i=>
  obtain⟨t,rfl⟩:=rx
  cases y with
  |byt j=>obtain⟨t',rfl⟩:=ry;exact PySem.W.ne_bytes (a8 I q (congrArg not yw))
  |_=>exact absurd (show false=true from hs) Qe
 |_=>cases y<;>exact absurd (show false=true from hs) Qe
theorem c6:OpR X (compareOp .Lt) (rI0 λi j=> .bl (decide (i<j))):=CC λ_ _ _ _ _ _ _ q=>lt_int q
theorem jy:OpR X (compareOp .LtE) (rI0 λi j=> .bl (decide (i≤j))):=CC λ_ _ _ _ _ _ _ q=>le_int q
theorem sZ:OpR X (compareOp .Gt) (rI0 λi j=> .bl (decide (j<i))):=CC λ_ _ _ _ _ _ _ q=>gt_int q
theorem tj:OpR X (compareOp .GtE) (rI0 λi j=> .bl (decide (j≤i))):=CC λ_ _ _ _ _ _ _ q=>ge_int q
theorem gJ:OpR X (compareOp .Is) (λx y H Q=>y= .non∧Q (.bl (decide (x= .non))) H):=by
 intro pins s σ H x y v u Q I rx ry h
 obtain⟨rfl,q⟩:=h
 cases ry
 refine is_none_gen (a8 I q ?_)
 cases x<;>first
  |(cases rx;rfl)
  |(obtain⟨t,rfl⟩:=rx;rfl)
theorem CA:OpR X (compareOp .IsNot) (λx y H Q=>y= .non∧Q (.bl (!decide (x= .non))) H):=by
 intro pins s σ H x y v u Q I rx ry h
 obtain⟨rfl,q⟩:=h
 cases ry
 refine isnot_none_gen (a8 I q ?_)
 cases x<;>first
  |(cases rx;rfl)
  |(obtain⟨t,rfl⟩:=rx;rfl)
theorem aq (b:Expr) {op:CmpOp} (h:op≠ .In:=by decide) (h2:op≠ .NotIn:=by decide):behindInMarks op b=false:=by
 have e1:(op==CmpOp.In)=false:=by cases op<;>first|rfl|exact absurd rfl h
 have e2:(op==CmpOp.NotIn)=false:=by cases op<;>first|rfl|exact absurd rfl h2
 cases b<;>simp[behindInMarks,e1,e2]
theorem bz {op:CmpOp} {r:R2} (ho:OpR X (compareOp op) r) (ha:PE X a ta) (hb:PE X b tb) (hm:behindInMarks op b=false):PE X (.Compare a [op] [b] pos) (tOp r ta tb):=by
 intro pins s σ H Q I h
 exact wpAny_Compare1 (EW ha hb I h λv u s2 x y H2 I2 rx ry q=>ho pins s2 σ H2 x y v u Q I2 rx ry q) hm
def Dt (t:TE):TT:=λσ H Q=>t σ H λx H'=>∃k,x= .bl k∧Q k H'
theorem au {op:CmpOp} {r:R2} (ho:OpR X (compareOp op) r) (ha:PE X a ta) (hb:PE X b tb) (hm:behindInMarks op b=false):PT X (.Compare a [op] [b] pos) (Dt (tOp r ta tb)):=by
 intro pins s σ H Q I h
 refine wpAny_isTrue_Compare1 (thn (ha pins s σ H _ I h) λv s1 ⟨x,H1,I1,r1,q1⟩=>thn (hb pins s1 σ H1 _ I1 q1) λu s2 ⟨y,H2,I2,r2,q2⟩=>
  thn (ho pins s2 σ H2 x y v u _ I2 r1 r2 q2) λc s3 ⟨z,H3,I3,r3,k,e,q3⟩=>?_) hm
 subst e
 cases r3
 exact wpAny_truthy_bool ⟨H3,I3,q3⟩
def z7 (r r':R2) (ta tb tc:TE):TE:=λσ H Q=>ta σ H λx H1=>tb σ H1 λy H2=>r x y H2 λz H3=>∃k,z= .bl k∧
 (if k=true then tc σ H3 λw' H4=>r' y w' H4 Q else Q (.bl false) H3)
theorem Am {op op':CmpOp} {r r':R2} (ho:OpR X (compareOp op) r) (ho':OpR X (compareOp op') r') (ha:PE X a ta) (hb:PE X b tb) (hc:PE X c tc)
  (hm:lastMarks [op,op'] [b,c]=false:=by with_unfolding_all rfl):PE X (.Compare a [op,op'] [b,c] pos) (z7 r r' ta tb tc):=by
 intro pins s σ H Q I h
 refine Compare_chain (thn (ha pins s σ H _ I h) λv s1 ⟨x,H1,I1,r1,q1⟩=>chain_link (thn (hb pins s1 σ H1 _ I1 q1) λu s2 ⟨y,H2,I2,r2,q2⟩=>
  thn (ho pins s2 σ H2 x y v u _ I2 r1 r2 q2) λd s3 ⟨z,H3,I3,r3,k,e,q3⟩=>?_)) hm
 subst e
 cases r3
 refine wpAny_truthy_bool ?_
 cases k with
 |false=>exact ite_ff ⟨.bl false,H3,I3,rfl,q3⟩
 |true=>exact ite_tt (chain_last (thn (hc pins s3 σ H3 _ I3 q3) λw' s4 ⟨z',H4,I4,r4,q4⟩=>ho' pins s4 σ H4 y z' u w' Q I4 r2 r4 q4))
theorem Ah {op op':CmpOp} {r r':R2} (ho:OpR X (compareOp op) r) (ho':OpR X (compareOp op') r') (ha:PE X a ta) (hb:PE X b tb) (hc:PE X c tc)
  (hm:lastMarks [op,op'] [b,c]=false:=by with_unfolding_all rfl):PT X (.Compare a [op,op'] [b,c] pos) (Dt (z7 r r' ta tb tc)):=by
 intro pins s σ H Q I h
 refine isTrue_chain (thn (ha pins s σ H _ I h) λv s1 ⟨x,H1,I1,r1,q1⟩=>test_link (thn (hb pins s1 σ H1 _ I1 q1) λu s2 ⟨y,H2,I2,r2,q2⟩=>
  thn (ho pins s2 σ H2 x y v u _ I2 r1 r2 q2) λd s3 ⟨z,H3,I3,r3,k,e,q3⟩=>?_)) hm
 subst e
 cases r3
 refine wpAny_truthy_bool ?_
 cases k with
 |false=>
  obtain⟨k',e',q'⟩:=q3
  cases e'
  exact ite_ff ⟨H3,I3,q'⟩
 |true=>
  refine ite_tt (test_last (thn (hc pins s3 σ H3 _ I3 q3) λw' s4 ⟨z',H4,I4,r4,q4⟩=>thn (ho' pins s4 σ H4 y z' u w' _ I4 r2 r4 q4) λd' s5 hzz=>?_))
  obtain⟨z2,H5,I5,r5,k2,e2,q5⟩:=hzz
  subst e2
  cases r5
  exact wpAny_truthy_bool ⟨H5,I5,q5⟩
theorem qF:(sizeLine:Nat)<2^63:=by rw[sizeLine_eq];decide
theorem pF {x:V} {us:List Value} (r:Vals [x] us):∃u,us=[u]∧RelV x u:=by
 cases r with
 |cons r1 r2=>cases r2;exact⟨_,rfl,r1⟩
theorem pE {x y:V} {us:List Value} (r:Vals [x,y] us):∃u w',us=[u,w']∧RelV x u∧RelV y w':=by
 cases r with
 |cons r1 r2=>
  cases r2 with
  |cons r3 r4=>cases r4;exact⟨_,_,rfl,r1,r3⟩
theorem tQ (hc:X.calm=true):gr X (.builtin "max") (λxs H Q=>∃i j,xs=[.int i,.int j]∧Q (.int (if j>i then j else i)) H):=by
 intro pins s σ H xs us Q I r h
 obtain⟨i,j,rfl,q⟩:=h
 obtain⟨u,w',rfl,⟨t,rfl⟩,⟨t',rfl⟩⟩:=pE r
 refine max_two_ints (I.ok.hd hc) λh' tk k=>⟨_,H,I.kept k,?_,q⟩
 by_cases hj:j>i
 ·rw[if_pos hj,if_pos hj];exact⟨_,rfl⟩
 ·rw[if_neg hj,if_neg hj];exact⟨_,rfl⟩
theorem kh (hc:X.calm=true):gr X (.builtin "min") (λxs H Q=>∃i j,xs=[.int i,.int j]∧Q (.int (if j<i then j else i)) H):=by
 intro pins s σ H xs us Q I r h
 obtain⟨i,j,rfl,q⟩:=h
 obtain⟨u,w',rfl,⟨t,rfl⟩,⟨t',rfl⟩⟩:=pE r
 refine min_two_ints (I.ok.hd hc) λh' tk k=>⟨_,H,I.kept k,?_,q⟩
 by_cases hj:j<i
 ·rw[if_pos hj,if_pos hj];exact⟨_,rfl⟩
 ·rw[if_neg hj,if_neg hj];exact⟨_,rfl⟩
end
end L2
namespace L2
open PySem PySem.Spec PyProof.Rows
structure ObjM (h:Heap) (x dx C:Addr) (mA:Str→Option Value):Prop where
 obj:h.get? x=some (PySem.W.instObj C dx)
 ns:h.Ns1 dx mA
 ne:dx≠x
theorem zf {h:Heap} {dx:Addr} {mA:Str→Option Value} (n:h.Ns1 dx mA):∃od,h.get? dx=some od∧∀name,PySem.W.lookIn name od=some (mA name):=by
 obtain⟨o,es,ep,ho,hd,hk,_,hm⟩:=n
 refine⟨o,ho,λname=>?_⟩
 have e:=hm name
 unfold nsFind findBy at e
 rw[←Array.find?_toList]at e
 unfold PySem.W.lookIn
 rw[hd]
 dsimp only
 split
 ·rename_i y q
  rw[q]at e
  exact congrArg some e
 ·rename_i q
  rw[q]at e
  have a:es.toList.any (·.refKey)=false:=by
   rw[List.any_eq_false]
   intro y hy
   obtain⟨z,t,hkey⟩:=hk y (Array.mem_toList_iff.mp hy)
   simp[DictEntry.refKey,hkey]
  have a':¬es.toList.any (·.refKey)=true:=by rw[a];exact Qe
  rw[if_neg a']
  exact congrArg some e
theorem ObjM.look {h:Heap} {x dx C:Addr} {mA:Str→Option Value} (I:ObjM h x dx C mA):∃od,PySem.W.InstAt h x (PySem.W.instObj C dx) C (some od)∧∀name,PySem.W.lookIn name od=some (mA name):=
 let⟨od,ho,hl⟩:=zf I.ns
 ⟨od,⟨I.obj,rfl,rfl,ho⟩,hl⟩
section
variable {prog:Program} {w:World} {A:Around} {E:Value→Shared→Prop} {s:Shared} {K:PySem.W.Frag} {x dx C f:Addr} {mA:Str→Option Value} {name:Str} {v:Value}
theorem CZ {expr:Bool} {Q:Value→Shared→Prop} (X:K.In s.heap) (I:ObjM s.heap x dx C mA) (hg:PySem.W.plainGet K C name=true) (hh:PySem.W.hasDictIn K C=true)
  (ha:PySem.W.findIn K (.ref C) name=some none) (hv:mA name=some v) (hv':PySem.W.handedIn v=true) (h:Q v {s with toks:=s.toks+1}):
  wpAny (model prog w) A (getAttr (.ref x) name expr) Q E s:=by
 obtain⟨od,J,hl⟩:=I.look
 exact PySem.W.get_value X J (Xl hg).1 (PySem.W.findObj_own hh ha rfl (by rw[hl,hv])) hv' h
theorem AY {pl:Sem Bool} {Q:Value×List Value→Shared→Prop} (X:K.In s.heap) (I:ObjM s.heap x dx C mA) (hg:PySem.W.plainGet K C name=true)
  (hf:PySem.W.findIn K (.ref C) name=some (some (.ref f))) (ht:PySem.W.isFn K (.ref f)=true) (hv:mA name=none) (h:Q (.ref f,[.ref x]) s):
  wpAny (model prog w) A (getMethod (.ref x) name pl) Q E s:=by
 obtain⟨od,J,hl⟩:=I.look
 exact PySem.W.method_fn X J (Xl hg).1 (Xl hg).2 hf (beq_iff_eq.mp ht) (by show(PySem.W.lookIn name od).map (·.isSome)=some false;rw[hl,hv];rfl) h
theorem Ck {ns:List Str} {Q:Unit→Shared→Prop} (X:K.In s.heap) (I:ObjM s.heap x dx C mA)
  (hs:PySem.W.findIn K (.ref C) "__setattr__"=some (some (.builtin "object.__setattr__"))) (hp:PySem.W.plainOver K C=true) (ht:PySem.W.takerIn K C name=some none) (hh:PySem.W.hasDictIn K C=true)
  (hw:PySem.Within mA ns) (hsz:ns.length≤sizeLine)
  (h:∀h',ObjM h' x dx C (λy=>if y=name then some v else mA y)→Heap.SameBut dx s.heap h'→Q () {s with heap:=h',toks:=s.toks+2}):
  wpAny (model prog w) A (setAttr (.ref x) name v) Q E s:=by
 obtain⟨od,J,hl⟩:=I.look
 refine PySem.W.set_plain X J hs (PySem.W.osa_open (s:={s with toks:=s.toks+1}) (r:=none) X J hp ht λb=>?_)
 obtain⟨cd,hc,hd'⟩:=PySem.W.any_some hh
 have hx:s.heap.get? x=some ⟨.ref C,some dx,.plain, #[]⟩:=I.obj
 refine wpAny_bind (wpAny_pure (wpAny_bind (wpAny_bind (wpAny_loadPart hx (wpAny_bind (PySem.W.Looks.here (s:={s with toks:=s.toks+1}) (PySem.W.looks_clsIn X hc) ?_))))))
 rw[hd']
 refine wpAny_pure (a:=some dx) (wpAny_bind (wpAny_pure (wpAny_bind ?_)))
 refine wpAny_nsSet1 (s:={s with toks:=s.toks+1}) I.ns λh' hn2 hs2=>?_
 obtain⟨oD,esD,epD,hoD,hdD,hcD⟩:=hn2.count (PySem.Within.cons name v hw)
 refine wpAny_bind (wpAny_lookBehind hoD (by rw[hdD];exact pastItsLine_dict (QK hcD (by rw[Qp];omega))) ?_)
 exact wpAny_pure (h _ ⟨(hs2.2 _ (Ne.symm I.ne)).trans I.obj,hn2,I.ne⟩ hs2)
theorem AC {R:Result→Shared→Prop} {vs:List Value} {kw:List (Str×Value)} (X:K.In s.heap) (hm:PySem.W.makesIn K C=true)
  (hi:PySem.W.findIn K (.ref C) "__init__"=some (some (.ref f))) (hf:PySem.W.typeIn K (.ref f)=some (.type "function"))
  (h:codeAny (model prog w) (A.under (.builtin "type.__call__" ⟨.ref C::vs,kw⟩)) (.call (.ref f) ⟨.ref (s.heap.objs.size+1)::vs,kw⟩) (PySem.W.InitBack (s.heap.objs.size+1) R)
   {s with heap:=(s.heap.push PySem.W.emptyDict).push (PySem.W.instObj C s.heap.objs.size)}):
  codeAny (model prog w) A (.call (.ref C) ⟨vs,kw⟩) R s:=by
 obtain⟨hh,g,d,t,os⟩:=s
 exact PySem.W.make_core (PySem.W.makes_of X hm) (PySem.W.looks_findIn X hi) (λself=>PySem.W.bind_fn X self hf) (.inl rfl) h
end
def bc (f:Str) (v:V):List (Str×V)→List (Str×V)
 | []=> [(f,v)]
 |(g,x)::r=>if g=f then(g,v)::r else(g,x)::bc f v r
theorem a6 (f g:Str) (v:V):∀fs:List (Str×V),(bc f v fs).lookup g=if g=f then some v else fs.lookup g
 | []=>by
  show List.lookup g [(f,v)]=_
  by_cases h:g=f
  ·have hb:(g==f)=true:=beq_iff_eq.mpr h
   simp only[List.lookup,hb,if_pos h]
  ·have hb:(g==f)=false:=beq_eq_false_iff_ne.mpr h
   simp only[List.lookup,hb,if_neg h]
 |(k,x)::r=>by
  have ih:=a6 f g v r
  rw[show bc f v ((k,x)::r)=(if k=f then(k,v)::r else(k,x)::bc f v r) from rfl]
  by_cases hk:k=f
  ·rw[if_pos hk]
   by_cases h:g=k
   ·have hb:(g==k)=true:=beq_iff_eq.mpr h
    simp only[List.lookup,hb,if_pos (h.trans hk)]
   ·have hb:(g==k)=false:=beq_eq_false_iff_ne.mpr h
    simp only[List.lookup,hb,if_neg (λe:g=f=>h (e.trans hk.symm))]
  ·rw[if_neg hk]
   by_cases h:g=k
   ·have hb:(g==k)=true:=beq_iff_eq.mpr h
    simp only[List.lookup,hb,if_neg (λe:g=f=>hk (h.symm.trans e))]
   ·have hb:(g==k)=false:=beq_eq_false_iff_ne.mpr h
    simp only[List.lookup,hb]
    exact ih
theorem nR (f:Str) (v:V):∀fs:List (Str×V),f∈(bc f v fs).map (·.1)∧∀g,g∈fs.map (·.1)→g∈(bc f v fs).map (·.1)
 | []=>⟨by simp[bc],λg h=>by simp at h⟩
 |(k,x)::r=>by
  obtain⟨i1,i2⟩:=nR f v r
  rw[show bc f v ((k,x)::r)=(if k=f then(k,v)::r else(k,x)::bc f v r) from rfl]
  by_cases hk:k=f
  ·rw[if_pos hk]
   subst hk
   exact⟨by simp,λg h=>by simpa using h⟩
  ·rw[if_neg hk]
   refine⟨?_,λg h=>?_⟩
   ·rw[Qs]
    exact Qh _ i1
   ·rw[Qs]at h⊢
    rcases Qm.mp h with e|e
    ·exact Qm.mpr (.inl e)
    ·exact Qh _ (i2 g e)
theorem ox (f:Str) (v:V):∀fs:List (Str×V),(bc f v fs).length≤fs.length+1
 | []=>by simp[bc]
 |(k,x)::r=>by
  have ih:=ox f v r
  rw[show bc f v ((k,x)::r)=(if k=f then(k,v)::r else(k,x)::bc f v r) from rfl]
  by_cases hk:k=f
  ·rw[if_pos hk,Qp,Qp];omega
  ·rw[if_neg hk,Qp,Qp];omega
theorem RelO.some_of {v:V} {o:Option Value} (r:RelO (some v) o):∃u,o=some u∧RelV v u:=by
 cases o with
 |none=>exact(show False from r).elim
 |some u=>exact⟨u,rfl,r⟩
theorem RelO.none_of {o:Option Value} (r:RelO none o):o=none:=by
 cases o with
 |none=>rfl
 |some u=>exact(show False from r).elim
theorem zo {v:V} {u:Value} (r:RelV v u):PySem.W.handedIn u=true:=by
 cases v with
 |non=>cases (show u=Value.none from r);rfl
 |bl b=>cases (show u=Value.bool b from r);rfl
 |int i=>obtain⟨t,e⟩:=(show ∃t,u=Value.int i t from r);cases e;rfl
 |str x=>obtain⟨t,e⟩:=(show ∃t,u=Value.str x t from r);cases e;rfl
 |byt b=>obtain⟨t,e⟩:=(show ∃t,u=Value.bytes b t from r);cases e;rfl
 |flt b=>obtain⟨t,e⟩:=(show ∃t,u=Value.float b t from r);cases e;rfl
 |ref a=>cases (show u=Value.ref a from r);rfl
 |ty n=>cases (show u=Value.type n from r);rfl
section
variable {P:Program} {w:World} {H H':Hp} {h h':Heap} {a C dx:Addr} {fs fs':List (Str×V)}
theorem ins_get (hok:HOk P w H h) (e:H a=some (.ins C dx fs)):∃mA,ObjM h a dx C mA∧(∀f,RelO (fs.lookup f) (mA f))∧PySem.Within mA (fs.map (·.1))∧fs.length≤1000∧H dx=some (.own a):=by
 obtain⟨d,z,ne,ob,mA,n,r,q⟩:=(show ObjOk P w H h a (.ins C dx fs) from hok a _ e)
 exact⟨mA,⟨ob,n,ne⟩,r,q,z,d⟩
end
structure Cls (K:PySem.W.Frag) (C:Addr):Prop where
 pg:PySem.W.plainGet K C Str.empty=true
 hd:PySem.W.hasDictIn K C=true
 po:PySem.W.plainOver K C=true
 sa:PySem.W.findIn K (.ref C) "__setattr__"=some (some (.builtin "object.__setattr__"))
theorem Cls.get {K:PySem.W.Frag} {C:Addr} (c:Cls K C) (f:Str):PySem.W.plainGet K C f=true:=c.pg
def NoAttr (K:PySem.W.Frag) (C:Addr) (f:Str):Prop:=PySem.W.findIn K (.ref C) f=some none
theorem NoAttr.taker {K:PySem.W.Frag} {C:Addr} {f:Str} (n:NoAttr K C f):PySem.W.takerIn K C f=some none:=by
 unfold PySem.W.takerIn
 rw[show PySem.W.findIn K (.ref C) f=some none from n]
 rfl
structure cm (K:PySem.W.Frag) (C:Addr) (m:Str) (f:Addr):Prop where
 at_:PySem.W.findIn K (.ref C) m=some (some (.ref f))
 fn:PySem.W.isFn K (.ref f)=true
 kp:PySem.W.keepIn K (.ref f)=true
section
variable {X:Cx} {pins:List (Addr×Obj)} {σ:St} {H:Hp} {s:Shared} {a C dx:Addr} {fs:List (Str×V)} {f:Str} {v:V} {A:Around} {E:Value→Shared→Prop}
theorem qN {b:Bool} {Q:Value→Shared→Prop} (I:Inv X pins σ H s) (e:H a=some (.ins C dx fs)) (c:Cls X.K C) (n:NoAttr X.K C f) (l:fs.lookup f=some v)
  (h:∀u s',Inv X pins σ H s'→RelV v u→Q u s'):wpAny (model X.prog X.w) A (getAttr (.ref a) f b) Q E s:=by
 obtain⟨mA,O,r,_,_,_⟩:=ins_get I.hok e
 obtain⟨u,hu,ru⟩:=RelO.some_of (v:=v) (o:=mA f) (by rw[←l];exact r f)
 exact CZ I.kIn O (c.get f) c.hd n hu (zo ru) (h u _ (I.tok _) ru)
theorem iP {m:Str} {g:Addr} {pl:Sem Bool} {Q:Value×List Value→Shared→Prop} (I:Inv X pins σ H s) (e:H a=some (.ins C dx fs)) (c:Cls X.K C) (k:cm X.K C m g) (l:fs.lookup m=none)
  (h:Q (.ref g,[.ref a]) s):wpAny (model X.prog X.w) A (getMethod (.ref a) m pl) Q E s:=by
 obtain⟨mA,O,r,_,_,_⟩:=ins_get I.hok e
 have hn:mA m=none:=RelO.none_of (by rw[←l];exact r m)
 exact AY I.kIn O (c.get m) k.at_ k.fn hn h
theorem pY {y:V} {u:Value} {Q:Unit→Shared→Prop} (I:Inv X pins σ H s) (e:H a=some (.ins C dx fs)) (c:Cls X.K C) (n:NoAttr X.K C f) (hl:fs.length<1000) (ry:RelV y u)
  (h:∀s',Inv X pins σ (upd H a (.ins C dx (bc f y fs))) s'→Q () s'):wpAny (model X.prog X.w) A (setAttr (.ref a) f u) Q E s:=by
 obtain⟨mA,O,r,wi,_,ho⟩:=ins_get I.hok e
 have hz:(fs.map (·.1)).length≤sizeLine:=by rw[Q0,sizeLine_eq];omega
 refine Ck I.kIn O c.sa c.po n.taker c.hd wi hz λh' O' sb=>h _ ?_
 have hd:∃o,h'.get? dx=some o:=let⟨o,_,_,e',_⟩:=O'.ns;⟨o,e'⟩
 refine I.write (x:=a) (e:=dx) (by rw[e];exact True.intro) (.inr ho) (λb q hb z=>(sb.2 b hb).trans z) hd ?_
 refine⟨by rw[ae O.ne];exact ho,?_,O.ne,O'.obj,_,O'.ns,λg=>?_,λg hg=>?_⟩
 ·have:=ox f y fs;omega
 ·show RelO ((bc f y fs).lookup g) (if g=f then some u else mA g)
  rw[a6]
  by_cases q:g=f
  ·rw[if_pos q,if_pos q];exact ry
  ·rw[if_neg q,if_neg q];exact r g
 ·by_cases q:g=f
  ·rw[q];exact(nR f y fs).1
  ·refine(nR f y fs).2 g (wi g λz=>hg ?_)
   show(if g=f then some u else mA g)=none
   rw[if_neg q];exact z
theorem Inv.made (I:Inv X pins σ H s):Inv X pins σ (upd (upd H s.heap.objs.size (.own (s.heap.objs.size+1))) (s.heap.objs.size+1) (.ins C s.heap.objs.size []))
  {s with heap:=(s.heap.push PySem.W.emptyDict).push (PySem.W.instObj C s.heap.objs.size)}:=by
 have e1:(s.heap.push PySem.W.emptyDict).get? s.heap.objs.size=some PySem.W.emptyDict:=Heap.get?_push_size s.heap rfl
 have e2:((s.heap.push PySem.W.emptyDict).push (PySem.W.instObj C s.heap.objs.size)).get? (s.heap.objs.size+1)=some (PySem.W.instObj C s.heap.objs.size):=by
  have:=Heap.get?_push_size (s.heap.push PySem.W.emptyDict) (o:=PySem.W.instObj C s.heap.objs.size) rfl
  rwa [Heap.size_push]at this
 have e3:(s.heap.push PySem.W.emptyDict).Ns s.heap.objs.size (λ_=>none):=⟨PySem.W.emptyDict, #[],_,e1,rfl,(λe he=>absurd he (by simp)),λ_=>rfl⟩
 have I1:=I.laid (a:=s.heap.objs.size) (o:= .own (s.heap.objs.size+1)) (h':=s.heap.push PySem.W.emptyDict) (t':=s.toks) (λb u q=>Heap.get?_push_of_some _ q) (Q5 _) ⟨_,e1⟩
 refine I1.laid (a:=s.heap.objs.size+1) (o:= .ins C s.heap.objs.size []) (t':=s.toks) (λb u q=>Heap.get?_push_of_some _ q) (Zk (Heap.size_push _ _)) ?_
 have ne:s.heap.objs.size≠s.heap.objs.size+1:=QE (Zz _)
 refine⟨by rw[ae ne,ag],Qf _,ne,e2,λ_=>none,(Heap.Ns1.of_empty e3).at λo q=>Heap.get?_push_of_some _ q,λ_=>True.intro,λy hy=>absurd rfl hy⟩
theorem Dj {prog:Program} {w:World} {env:Env} {e:Expr} {f:Str} {pos:Pos} {s:Shared} {Q:Value→Shared→Prop} (hb:attributeBase e f env (eval e env)=eval e env)
  (h:wpAny (model prog w) A (eval e env) (λo s₁=>wpAny (model prog w) A (getAttr o f true) Q E s₁) E s):wpAny (model prog w) A (eval (.Attribute e f pos) env) Q E s:=
 Attribute_any_ h (by rw[arm_eval_Attribute,hb])
end
def tFld (K:PySem.W.Frag) (ta:TE) (f:Str):TE:=λσ H Q=>ta σ H λx H1=>∃a C dx fs v,x= .ref a∧H1 a=some (.ins C dx fs)∧Cls K C∧NoAttr K C f∧fs.lookup f=some v∧Q v H1
def sFld (K:PySem.W.Frag) (ta tv:TE) (f:Str):TS:=λD σ H=>tv σ H λy H1=>ta σ H1 λx H2=>∃a C dx fs,x= .ref a∧H2 a=some (.ins C dx fs)∧Cls K C∧NoAttr K C f∧fs.length<1000∧
 D.nx σ (upd H2 a (.ins C dx (bc f y fs)))
def E7 (X:Cx) (op:Operator) (rd:V→V→Hp→VK→Prop):Prop:=
 ∀(pins:List (Addr×Obj)) (s:Shared) (σ:St) (H:Hp) (x y:V) (u v:Value) (Q:VK),Inv X pins σ H s→RelV x u→RelV y v→rd x y H Q→wpAny (model X.prog X.w) X.A (inplaceOp op u v) (EP X pins σ Q) X.xe s
def Cl (K:PySem.W.Frag) (ta tv:TE) (rd:V→V→Hp→VK→Prop) (f:Str):TS:=λD σ H=>ta σ H λx H1=>∃a C dx fs v,x= .ref a∧H1 a=some (.ins C dx fs)∧Cls K C∧NoAttr K C f∧fs.lookup f=some v∧
 tv σ H1 λy H2=>rd v y H2 λz H3=>∃dx' fs',H3 a=some (.ins C dx' fs')∧fs'.length<1000∧D.nx σ (upd H3 a (.ins C dx' (bc f z fs')))
section
variable {X:Cx} {o e value:Expr} {f:Str} {pos pos' tpos:Pos} {ta tv:TE}
theorem aC (he:PE X e ta) (hb:attributeBase e f X.env (eval e X.env)=eval e X.env):PE X (.Attribute e f pos) (tFld X.K ta f):=by
 intro pins s σ H Q I h
 refine Dj hb (thn (he pins s σ H _ I h) λu s1 hzz=>?_)
 obtain⟨x,H1,I1,rx,a,C,dx,fs,v,ex,ea,c,n,l,q⟩:=hzz
 subst ex
 obtain rfl:u=Value.ref a:=rx
 exact qN I1 ea c n l λu' s2 I2 ru=>⟨v,H1,I2,ru,q⟩
theorem b5 (ha:PE X o ta) (hv:PE X value tv) (hs:swapsWith value (some (.Attribute o f pos')) pos.line X.env=pure false):PS X (.Assign [.Attribute o f pos'] value pos) (sFld X.K ta tv f):=by
 intro pins s σ H D I h
 refine plainObj_wpAny_Assign_Attribute (thn (hv pins s σ H _ I h) λu s1 ⟨y,H1,I1,ry,q⟩=>thn (ha pins s1 σ H1 _ I1 q) λov s2 hzz=>?_) hs
 obtain⟨x,H2,I2,rx,a,C,dx,fs,ex,ea,c,n,l,q2⟩:=hzz
 subst ex
 obtain rfl:ov=Value.ref a:=rx
 exact pY I2 ea c n l ry λs3 I3=>⟨σ,_,I3,q2⟩
theorem j5 {op:Operator} {rd:V→V→Hp→VK→Prop} (ha:PE X o ta) (hv:PE X value tv) (hop:E7 X op rd):PS X (.AugAssign (.Attribute o f tpos) op value pos) (Cl X.K ta tv rd f):=by
 intro pins s σ H D I h
 refine wpAny_AugAssign_AttributeAny (thn (ha pins s σ H _ I h) λov s1 hzz=>?_)
 obtain⟨x,H1,I1,rx,a,C,dx,fs,v,ex,ea,c,n,l,q⟩:=hzz
 subst ex
 obtain rfl:ov=Value.ref a:=rx
 refine qN I1 ea c n l λu s2 I2 ru=>thn (hv pins s2 σ H1 _ I2 q) λw3 s3 ⟨y,H2,I3,ry,q3⟩=>thn (hop pins s3 σ H2 v y u w3 _ I3 ru ry q3) λw4 s4 hzz=>?_
 obtain⟨z,H3,I4,rz,dx',fs',ea',l',q4⟩:=hzz
 exact pY I4 ea' c n l' rz λs5 I5=>⟨σ,_,I5,q4⟩
def rAdd:V→V→Hp→VK→Prop:=λx y H Q=>∃i j,x= .int i∧y= .int j∧Q (.int (i+j)) H
def rSub:V→V→Hp→VK→Prop:=λx y H Q=>∃i j,x= .int i∧y= .int j∧Q (.int (i-j)) H
theorem xw:E7 X .Add rAdd:=by
 rintro pins s σ H x y u v Q I rx ry ⟨i,j,rfl,rfl,q⟩
 obtain⟨t,rfl⟩:=(show ∃t,u=Value.int i t from rx)
 obtain⟨t',rfl⟩:=(show ∃t',v=Value.int j t' from ry)
 exact PyProof.Rows.iadd_int ⟨.int (i+j),H,I.tok _,⟨_,rfl⟩,q⟩
theorem EK:E7 X .Sub rSub:=by
 rintro pins s σ H x y u v Q I rx ry ⟨i,j,rfl,rfl,q⟩
 obtain⟨t,rfl⟩:=(show ∃t,u=Value.int i t from rx)
 obtain⟨t',rfl⟩:=(show ∃t',v=Value.int j t' from ry)
 exact PyProof.Rows.isub_int ⟨.int (i-j),H,I.tok _,⟨_,rfl⟩,q⟩
theorem DG {pl:Sem Bool} {m:Str} {apos:Pos} {args:List Expr} {pins:List (Addr×Obj)} {s:Shared} {σ:St} {H:Hp} {Q:Value→Shared→Prop} {te:TE} (he:PE X e te) (I:Inv X pins σ H s)
  (h:te σ H λx H1=>∃a C dx fs g,x= .ref a∧H1 a=some (.ins C dx fs)∧Cls X.K C∧cm X.K C m g∧fs.lookup m=none∧
   ∀s1,Inv X pins σ H1 s1→wpAny (model X.prog X.w) X.A (callWith pos (.ref g) [.ref a] (backTo pos (starEach args X.env)) (backToKw pos (keywordEach [] X.env))) Q X.xe s1)
  (ht:eval (.Call (.Attribute e m apos) args [] pos) X.env=(do
   let ov←eval e X.env
   standAt apos.atName
   let(f,first)←holding [ov] (getMethod ov m pl)
   callWith pos f first (backTo pos (starEach args X.env)) (backToKw pos (keywordEach [] X.env)))):
  wpAny (model X.prog X.w) X.A (eval (.Call (.Attribute e m apos) args [] pos) X.env) Q X.xe s:=by
 refine Zu (pl:=pl) (thn (he pins s σ H _ I h) λu s1 hzz=>?_) ht
 obtain⟨x,H1,I1,rx,a,C,dx,fs,g,ex,ea,c,k,l,q⟩:=hzz
 subst ex
 obtain rfl:u=Value.ref a:=rx
 exact iP I1 ea c k l (q s1 I1)
end
section
variable {X:Cx} {pins:List (Addr×Obj)} {σ:St} {H:Hp} {s:Shared} {A:Around} {E:Value→Shared→Prop} {Q:Value→Shared→Prop} {c:Value} {b:Bool}
inductive TyOf (K:PySem.W.Frag) (H:Hp):V→Value→Prop where
 |non:TyOf K H .non (.type "NoneType")
 |bl (x:Bool):TyOf K H (.bl x) (.type "bool")
 |int (i:Int):TyOf K H (.int i) (.type "int")
 |str (x:Str):TyOf K H (.str x) (.type "str")
 |flt (x:UInt64):TyOf K H (.flt x) (.type "float")
 |lst {a:Addr} {xs:List V} (e:H a=some (.lst xs)):TyOf K H (.ref a) (.type "list")
 |frz {a:Addr} {o:Obj} {xs:List V} (e:H a=some (.frz o (.lst xs))):TyOf K H (.ref a) (.type "list")
 |tup {a:Addr} {xs:List V} (e:H a=some (.tup xs)):TyOf K H (.ref a) (.type "tuple")
 |dK {a:Addr} {kvs:List (Key×V)} (e:H a=some (.dK kvs)):TyOf K H (.ref a) (.type "dict")
 |dT {a:Addr} {kvs:List (List Key×V)} (e:H a=some (.dT kvs)):TyOf K H (.ref a) (.type "dict")
 |ins {a C dx:Addr} {fs:List (Str×V)} (e:H a=some (.ins C dx fs)) (cl:Cls K C) (ha:PySem.W.findIn K (.ref C) "__class__"=some (some (.builtin "object.__class__")))
   (hn:PySem.W.specialIn K (.builtin "object.__class__") "__get__"=some (some (.builtin "getset_descriptor.__get__"))) (htk:PySem.W.takesIn K (.builtin "object.__class__")=some true)
   (hm:PySem.W.mroIn K C (.type "object")=some true):TyOf K H (.ref a) (.ref C)
theorem tG {x:V} {u t:Value} (I:Inv X pins σ H s) (rx:RelV x u) (ty:TyOf X.K H x t) (e:PySem.W.kitOne X.K t c=some b) (h:∀tk,Q (.bool b) {s with toks:=tk}):
  wpAny (model X.prog X.w) A (call (.builtin "isinstance") [u,c]) Q E s:=by
 cases ty with
 |non=>cases (show u=Value.none from rx);exact QV PySem.W.kitx_none I.kIn True.intro e (λz=>nomatch z) h
 |bl y=>cases (show u=Value.bool y from rx);exact QV PySem.W.kitx_bool I.kIn True.intro e (λz=>nomatch z) h
 |int i=>obtain⟨t,q⟩:=(show ∃t,u=Value.int i t from rx);cases q;exact QV PySem.W.kitx_int I.kIn True.intro e (λz=>nomatch z) h
 |str y=>obtain⟨t,q⟩:=(show ∃t,u=Value.str y t from rx);cases q;exact QV PySem.W.kitx_str I.kIn True.intro e (λz=>nomatch z) h
 |flt y=>obtain⟨t,q⟩:=(show ∃t,u=Value.float y t from rx);cases q;exact QV PySem.W.kitx_float I.kIn True.intro e (λz=>nomatch z) h
 | @lst a xs ea=>
  cases (show u=Value.ref a from rx)
  obtain⟨_,_,n,_,h1⟩:=(show ObjOk X.prog X.w H s.heap a (.lst xs) from I.hok a _ ea)
  exact QV PySem.W.kitx_list I.kIn ⟨_,h1,rfl⟩ e (λz=>nomatch z) h
 | @frz a ob xs ea=>
  cases (show u=Value.ref a from rx)
  obtain⟨_,_,_,n,_,h1⟩:=(show ObjOk X.prog X.w H s.heap a (.frz ob (.lst xs)) from I.hok a _ ea)
  exact QV PySem.W.kitx_list I.kIn ⟨_,h1,rfl⟩ e (λz=>nomatch z) h
 | @tup a xs ea=>
  cases (show u=Value.ref a from rx)
  obtain⟨_,_,_,p⟩:=(show ObjOk X.prog X.w H s.heap a (.tup xs) from I.hok a _ ea)
  obtain⟨o,h1,h2,_⟩:=p
  exact QV PySem.W.kitx_tuple I.kIn ⟨o,h1,h2⟩ e (λz=>nomatch z) h
 | @dK a kvs ea=>
  cases (show u=Value.ref a from rx)
  obtain⟨_,_,vs,_,p⟩:=(show ObjOk X.prog X.w H s.heap a (.dK kvs) from I.hok a _ ea)
  obtain⟨o,es,ep,h1,h2,_⟩:=p
  exact QV PySem.W.kitx_dict I.kIn ⟨o,h1,h2.1⟩ e (λz=>nomatch z) h
 | @dT a kvs ea=>
  cases (show u=Value.ref a from rx)
  obtain⟨_,_,xs,_,o,es,ep,h1,h2,_⟩:=(show ObjOk X.prog X.w H s.heap a (.dT kvs) from I.hok a _ ea)
  exact QV PySem.W.kitx_dict I.kIn ⟨o,h1,h2.1⟩ e (λz=>nomatch z) h
 | @ins a C dx fs ea cl ha hn htk hm=>
  cases (show u=Value.ref a from rx)
  obtain⟨mA,O,_⟩:=ins_get I.hok ea
  obtain⟨od,J,_⟩:=O.look
  exact QV (PySem.W.kitx_own (cl.get _) cl.hd ha hn htk hm) I.kIn J e (λz=>nomatch z) h
end
end L2
namespace L2
open PySem PySem.Spec PyProof.Rows
structure Room (k:Nat) (A:Around):Prop where
 hd:A.handled=none
 dp:A.depth+3*k+5<recursionLimit
 un:A.units+16*k+200<cLine
theorem Room.mono {j k:Nat} {A:Around} (r:Room k A) (h:j≤k):Room j A:=⟨r.hd,by have:=r.dp;omega,by have:=r.un;omega⟩
theorem Room.deeper {k:Nat} {A:Around} (r:Room (k+1) A) (env:Env):Room k (A.deeper env):=
 ⟨r.hd,by have:=r.dp;show A.depth+1+3*k+5<_;omega,by have:=r.un;show A.units+3+16*k+200<_;omega⟩
theorem xt {A:Around} {C:Addr} {us:List Value} {kw:List (Str×Value)}:(A.under (.builtin "type.__call__" ⟨.ref C::us,kw⟩)).depth=A.depth+1:=by
 first|rfl|simp[Around.under,Code.weight,Code.isCreation,Code.isGuard,Code.isCaller,Code.frames,Code.isFrame,guardIds]
theorem xq {A:Around} {C:Addr} {us:List Value} {kw:List (Str×Value)}:(A.under (.builtin "type.__call__" ⟨.ref C::us,kw⟩)).units=A.units+1:=by
 first|rfl|simp[Around.under,Code.cUnits,Code.frames,Code.isFrame]
theorem Room.make {k:Nat} {A:Around} (r:Room (k+1) A) (C:Addr) (us:List Value) (kw:List (Str×Value)):Room k (A.under (.builtin "type.__call__" ⟨.ref C::us,kw⟩)):=
 ⟨r.hd,by have:=r.dp;rw[xt];omega,by have:=r.un;rw[xq];omega⟩
theorem Room.depth {k:Nat} {A:Around} (r:Room k A):A.depth<recursionLimit:=by have:=r.dp;omega
theorem Room.units {k:Nat} {A:Around} (r:Room k A):A.units+64<cLine:=by have:=r.un;omega
def D8:TA:=λ_ H Q=>Q [] H
def Fm (ta:TE) (tr:TA):TA:=λσ H Q=>ta σ H λx H1=>tr σ H1 λxs H2=>Q (x::xs) H2
section
variable {X:Cx} {e:Expr} {es:List Expr} {te:TE} {t:TA} {pos:Pos}
theorem ah:PA X [] D8:=λ_ _ _ _ H Q I h=>Calls.spliced_nil ⟨[],H,I,.nil,h⟩
theorem aa (ha:PE X e te) (hr:PA X es t) (hs:starEach (e::es) X.env=(false,eval e X.env)::starEach es X.env:=by rfl):PA X (e::es) (Fm te t):=by
 intro pos pins s σ H Q I h
 rw[hs]
 show wpAny _ _ (spliced ((false,eval e X.env)::backTo pos (starEach es X.env))) _ _ s
 refine Calls.spliced_cons (thn (ha pins s σ H _ I h) λu s1 hzz=>?_)
 obtain⟨x,H1,I1,r1,q1⟩:=hzz
 exact thn (hr pos pins s1 σ H1 _ I1 q1) λus s2 ⟨xs,H2,I2,r2,q2⟩=>⟨x::xs,H2,I2,.cons r1 r2,q2⟩
def tTup (t:TA):TE:=λσ H Q=>t σ H λxs H1=>xs.length≤sizeLine∧∀p,H1 p=none→Q (.ref p) (upd H1 p (.tup xs))
def tLst (t:TA):TE:=λσ H Q=>t σ H λxs H1=>xs.length≤sizeLine∧∀p,H1 p=none→Q (.ref p) (upd H1 p (.lst xs))
theorem bM {x1} (h:PA X es t):PE X (.Tuple es x1 pos) (tTup t):=by
 intro pins s σ H Q I hq
 refine wpAny_Tuple_spliced (thn (h pos pins s σ H _ I hq) λus s1 ⟨xs,H1,I1,r,z,q⟩=>⟨by rw[←r.length];exact z,?_⟩)
 have hf:H1 s1.heap.objs.size=none:=I1.hok.fresh (Q5 _)
 refine⟨.ref s1.heap.objs.size,upd H1 s1.heap.objs.size (.tup xs),I1.laid (t':=s1.toks) (λb u e=>Heap.get?_push_of_some _ e) (Q5 _) ?_,rfl,q _ hf⟩
 exact⟨z,us,r,⟨_,Heap.get?_push_size _ rfl,rfl,_,rfl⟩⟩
theorem bN (h:PA X es t):PE X (.List es pos) (tLst t):=by
 intro pins s σ H Q I hq
 refine wpAny_List_spliced (thn (h pos pins s σ H _ I hq) λus s1 ⟨xs,H1,I1,r,z,q⟩=>⟨by rw[←r.length];exact z,?_⟩)
 have hf:H1 s1.heap.objs.size=none:=I1.hok.fresh (Q5 _)
 refine⟨.ref s1.heap.objs.size,upd H1 s1.heap.objs.size (.lst xs),I1.laid (t':=s1.toks) (λb u e=>Heap.get?_push_of_some _ e) (Q5 _) ?_,rfl,q _ hf⟩
 exact⟨z,us,0,r,Heap.get?_push_size _ rfl⟩
end
abbrev Sp:=List V→Hp→VK→XK→Prop
abbrev CXT:=List Env→Hp→Shared→XK→Value→Shared→Prop
structure Env0 (P:Program) (w:World) (K:PySem.W.Frag) (mg:Str→Option Value) (base:Heap) (A:Around) (outer:List Env) (s:Shared) (H:Hp):Prop where
 frames:A.frames=some outer
 mod:Mod K mg base
 bs:∀b o,base.get? b=some o→s.heap.get? b=some o∧H b=none
 bsz:base.objs.size≤s.heap.objs.size
 funs:s.heap.FunFrames base outer
 frf:∀b∈frs outer,H b=none
 hok:HOk P w H s.heap
 bare:AllBare s.gens
def CE (outer:List Env) (P:Program) (w:World) (H:Hp) (s:Shared) (Q:VK) (u:Value) (s':Shared):Prop:=
 ∃v H',s'.os=s.os∧AllBare s'.gens∧Un (frs outer) [] H H' s.heap s'.heap∧HOk P w H' s'.heap∧RelV v u∧Q v H'
def CR (CX:CXT) (outer:List Env) (P:Program) (w:World) (H:Hp) (s:Shared) (Q:VK) (E:XK) (r:Result) (s':Shared):Prop:=
 match r with
 | .ok (.ret u)=>CE outer P w H s Q u s'
 | .ok _=>False
 | .error e=>CX outer H s E e s'
structure FnOk (P:Program) (w:World) (K:PySem.W.Frag) (mg:Str→Option Value) (base:Heap) (CX:CXT) (k:Nat) (f:Addr) (fd:FuncData) (ps:List Str) (sp:Sp):Prop where
 len:∀vs H Q E,sp vs H Q E→vs.length=ps.length
 run:∀(A:Around) (outer:List Env) (s:Shared) (H:Hp) (args:Args) (us:List Value) (vs:List V) (Q:VK) (E:XK),Room k A→Env0 P w K mg base A outer s H→BindsTo s fd args (ps.zip us)→Vals vs us→sp vs H Q E→
  codeAny (model P w) A (.call (.ref f) args) (CR CX outer P w H s Q E) s
theorem FnOk.mono {P:Program} {w:World} {K:PySem.W.Frag} {mg:Str→Option Value} {base:Heap} {CX:CXT} {j k:Nat} {f:Addr} {fd:FuncData} {ps:List Str} {sp:Sp} (F:FnOk P w K mg base CX j f fd ps sp) (h:j≤k):
  FnOk P w K mg base CX k f fd ps sp:=⟨F.len,λA outer s H args us vs Q E hr=>F.run A outer s H args us vs Q E (hr.mono h)⟩
theorem Env0.make {P:Program} {w:World} {K:PySem.W.Frag} {mg:Str→Option Value} {base:Heap} {A:Around} {outer:List Env} {s:Shared} {H:Hp} (e:Env0 P w K mg base A outer s H) (C:Addr) (us:List Value) (kw:List (Str×Value)):
  Env0 P w K mg base (A.under (.builtin "type.__call__" ⟨.ref C::us,kw⟩)) outer s H:=⟨by first|exact e.frames|(simpa[Around.under,Code.envs,Code.isFrame,pushEnvs]using e.frames),e.mod,e.bs,e.bsz,e.funs,e.frf,e.hok,e.bare⟩
section
variable {X:Cx} {pins:List (Addr×Obj)} {σ:St} {H:Hp} {s s':Shared}
theorem Inv.env0 (I:Inv X pins σ H s):Env0 X.prog X.w X.K X.mg X.base X.A X.stack s H:=
 ⟨I.ok.frames,I.ok.mod,I.bs,QK I.ok.bsz I.sz,I.stack,I.stkFree,I.hok,I.bare⟩
theorem Inv.after {Q:VK} {u:Value} (I:Inv X pins σ H s) (h:CE X.stack X.prog X.w H s Q u s'):EP X pins σ Q u s':=by
 obtain⟨v,H',os,bare,un,hok,r,q⟩:=h
 obtain⟨hh,g,d,t,os'⟩:=s'
 obtain rfl:os'=s.os:=os
 exact⟨v,H',I.call (h':=hh) (g':=g) (d':=d) (t':=t) (ch:=[]) un hok bare (λb z=>absurd z (by simp)),r,q⟩
end
def Dw (sp:Sp) (dvs:List V) (E:XK) (t:TA):TE:=λσ H Q=>t σ H λvs H1=>sp (vs++dvs) H1 Q E
def Du (C:Addr) (m:Str) (sp:Sp) (dvs:List V) (E:XK) (ta:TE) (t:TA):TE:=λσ H Q=>ta σ H λx H1=>∃a dx fs,x= .ref a∧H1 a=some (.ins C dx fs)∧fs.lookup m=none∧
 t σ H1 λvs H2=>sp (x::(vs++dvs)) H2 Q E
def Dv (C:Addr) (sp:Sp) (dvs:List V) (E:XK) (t:TA):TE:=λσ H Q=>t σ H λvs H1=>∀x dx,H1 x=none→H1 dx=none→dx≠x→
 sp (.ref x::(vs++dvs)) (upd (upd H1 dx (.own x)) x (.ins C dx [])) (λv H2=>v= .non∧Q (.ref x) H2) E
def Binds (K:PySem.W.Frag) (fd:FuncData) (ps:List Str) (ds:List Value):Prop:=
 ∀(s:Shared) (us:List Value),K.In s.heap→(us++ds).length=ps.length→BindsTo s fd ⟨us,[]⟩ (ps.zip (us++ds))
theorem Binds.all {K:PySem.W.Frag} {fd:FuncData} {ps:List Str} (h:∀us:List Value,us.length=ps.length→bindArgs fd ⟨us,[]⟩=pure (ps.zip us)):Binds K fd ps []:=λs us _ hl=>by
 rw[ZF]at hl⊢
 exact .of_eq (h us hl)
def i6 (CX:CXT) (X:Cx) (E:XK):Prop:=∀(pins:List (Addr×Obj)) (σ:St) (H:Hp) (s:Shared) (e:Value) (s':Shared),Inv X pins σ H s→CX X.stack H s E e s'→X.xe e s'
section
variable {X:Cx} {CX:CXT} {k:Nat} {f C:Addr} {fd:FuncData} {ps:List Str} {sp:Sp} {dvs:List V} {ds:List Value} {E:XK} {x m:Str} {p pos apos:Pos} {e o:Expr} {es:List Expr} {ta:TE} {t:TA}
theorem qf {pins:List (Addr×Obj)} {σ:St} {H:Hp} {s:Shared} {Q:VK} {us:List Value} {vs:List V} (F:FnOk X.prog X.w X.K X.mg X.base CX k f fd ps sp) (hr:Room k X.A) (hb:Binds X.K fd ps ds) (hd:Vals dvs ds) (hx:i6 CX X E)
  (I:Inv X pins σ H s) (r:Vals vs us) (h:sp (vs++dvs) H Q E):wpAny (model X.prog X.w) X.A (call (.ref f) us) (EP X pins σ Q) X.xe s:=by
 have r2:Vals (vs++dvs) (us++ds):=r.append hd
 have hl:(us++ds).length=ps.length:=by rw[←r2.length];exact F.len _ _ _ _ h
 refine wpAny_call (codeAny_mono (F.run X.A X.stack s H ⟨us,[]⟩ (us++ds) (vs++dvs) Q E hr I.env0 (hb s us I.kIn hl) r2 h) λr s' hq=>?_)
 cases r with
 |error e=>exact hx pins σ H s e s' I hq
 |ok fl=>
  cases fl with
  |ret u=>exact I.after hq
  |next=>exact False.elim hq
  |brk=>exact False.elim hq
  |cont=>exact False.elim hq
theorem aJ (F:FnOk X.prog X.w X.K X.mg X.base CX k f fd ps sp) (hr:Room k X.A) (hg:Gl X x) (hm:X.mg x=some (.ref f)) (hk:PySem.W.keepIn X.K (.ref f)=true) (hb:Binds X.K fd ps ds) (hd:Vals dvs ds) (hx:i6 CX X E)
  (ha:PA X (e::es) t) (hdb:(x==("__debug__":Str))=false:=by decide) (he:starEach (e::es) X.env=(false,eval e X.env)::starEach es X.env:=by rfl) (hpl:(backTo pos (starEach es X.env)).any (·.1)=false:=by rfl):
  PE X (.Call (.Name x p) (e::es) [] pos) (Dw sp dvs E t):=by
 intro pins s σ H Q I h
 refine wpAny_Call_Name_kw (mC I hg hm ?_ hdb)
 refine ZH (h₀:=X.base) I.ok.mod.kin hk (thn (ha pos pins s σ H _ I h) λus s1 ⟨vs,H1,I1,r,q⟩=>⟨I1.kIn,?_⟩) he hpl
 exact qf F hr hb hd hx I1 r q
theorem aV {pl:Sem Bool} (he:PE X o ta) (c:Cls X.K C) (hm:cm X.K C m f) (F:FnOk X.prog X.w X.K X.mg X.base CX k f fd ps sp) (hr:Room k X.A) (hb:Binds X.K fd ps ds) (hd:Vals dvs ds) (hx:i6 CX X E) (ha:PA X (e::es) t)
  (hst:starEach (e::es) X.env=(false,eval e X.env)::starEach es X.env:=by rfl) (hpl:(backTo pos (starEach es X.env)).any (·.1)=false:=by rfl)
  (ht:eval (.Call (.Attribute o m apos) (e::es) [] pos) X.env=(do
   let ov←eval o X.env
   standAt apos.atName
   let(f,first)←holding [ov] (getMethod ov m pl)
   callWith pos f first (backTo pos (starEach (e::es) X.env)) (backToKw pos (keywordEach [] X.env))):=by rfl):
  PE X (.Call (.Attribute o m apos) (e::es) [] pos) (Du C m sp dvs E ta t):=by
 intro pins s σ H Q I h
 refine Zu (pl:=pl) (thn (he pins s σ H _ I h) λu s1 hzz=>?_) ht
 obtain⟨x,H1,I1,rx,a,dx,fs,ex,ea,l,q⟩:=hzz
 subst ex
 obtain rfl:u=Value.ref a:=rx
 refine iP I1 ea c hm l ?_
 refine ZH (first:=[.ref a]) (h₀:=X.base) I.ok.mod.kin hm.kp (thn (ha pos pins s1 σ H1 _ I1 q) λus s2 ⟨vs,H2,I2,r,q2⟩=>⟨I2.kIn,?_⟩) hst hpl
 exact qf (us:= .ref a::us) (vs:= .ref a::vs) F hr hb hd hx I2 (.cons rfl r) q2
theorem g8 {pl:Sem Bool} (he:PE X o ta) (c:Cls X.K C) (hm:cm X.K C m f) (F:FnOk X.prog X.w X.K X.mg X.base CX k f fd ps sp) (hr:Room k X.A) (hb:Binds X.K fd ps ds) (hd:Vals dvs ds) (hx:i6 CX X E)
  (ht:eval (.Call (.Attribute o m apos) [] [] pos) X.env=(do
   let ov←eval o X.env
   standAt apos.atName
   let(f,first)←holding [ov] (getMethod ov m pl)
   callWith pos f first (backTo pos (starEach [] X.env)) (backToKw pos (keywordEach [] X.env))):=by rfl):
  PE X (.Call (.Attribute o m apos) [] [] pos) (Du C m sp dvs E ta D8):=by
 intro pins s σ H Q I h
 refine Zu (pl:=pl) (thn (he pins s σ H _ I h) λu s1 hzz=>?_) ht
 obtain⟨x,H1,I1,rx,a,dx,fs,ex,ea,l,q⟩:=hzz
 subst ex
 obtain rfl:u=Value.ref a:=rx
 refine iP I1 ea c hm l ?_
 exact PySem.W.callWith_K0 (first:=[.ref a]) I1.kIn hm.kp (qf (us:=[.ref a]) (vs:=[.ref a]) F hr hb hd hx I1 (.cons rfl .nil) q)
structure Mk (K:PySem.W.Frag) (C f:Addr):Prop where
 makes:PySem.W.makesIn K C=true
 init:PySem.W.findIn K (.ref C) "__init__"=some (some (.ref f))
 fn:PySem.W.isFn K (.ref f)=true
 kp:PySem.W.keepIn K (.ref C)=true
theorem vA {pins:List (Addr×Obj)} {σ:St} {H:Hp} {s:Shared} {Q:VK} {us:List Value} {vs:List V} (M:Mk X.K C f) (F:FnOk X.prog X.w X.K X.mg X.base CX k f fd ps sp) (hr:Room (k+1) X.A) (hb:Binds X.K fd ps ds) (hd:Vals dvs ds)
  (hx:i6 CX X E) (I:Inv X pins σ H s) (r:Vals vs us)
  (h:∀x dx,H x=none→H dx=none→dx≠x→sp (.ref x::(vs++dvs)) (upd (upd H dx (.own x)) x (.ins C dx [])) (λv H2=>v= .non∧Q (.ref x) H2) E):
  wpAny (model X.prog X.w) X.A (call (.ref C) us) (EP X pins σ Q) X.xe s:=by
 have hq:=h (s.heap.objs.size+1) s.heap.objs.size (I.hok.fresh (Zs _)) (I.hok.fresh (Q5 _)) (QE (Zz _))
 have I2:=Inv.made (C:=C) I
 have r2:Vals (V.ref (s.heap.objs.size+1)::(vs++dvs)) (Value.ref (s.heap.objs.size+1)::(us++ds)):= .cons rfl (r.append hd)
 have hl:(Value.ref (s.heap.objs.size+1)::us++ds).length=ps.length:=by
  have e:=r2.length
  rw[F.len _ _ _ _ hq]at e
  exact e.symm
 refine wpAny_call (AC (f:=f) I.kIn M.makes M.init (beq_iff_eq.mp M.fn) (codeAny_mono (F.run _ X.stack _ _ ⟨Value.ref (s.heap.objs.size+1)::us,[]⟩ (Value.ref (s.heap.objs.size+1)::(us++ds)) _ _ E (hr.make C us [])
  (I2.env0.make C us []) (hb _ (Value.ref (s.heap.objs.size+1)::us) I2.kIn hl) r2 hq) λr s' hq'=>?_))
 cases r with
 |error e=>exact hx pins σ _ _ e s' I2 hq'
 |ok fl=>
  cases fl with
  |ret u=>
   obtain⟨v,H',I3,rv,ev,q3⟩:=I2.after hq'
   subst ev
   exact⟨rv,⟨V.ref (s.heap.objs.size+1),H',I3,rfl,q3⟩⟩
  |next=>exact False.elim hq'
  |brk=>exact False.elim hq'
  |cont=>exact False.elim hq'
theorem j6 (M:Mk X.K C f) (F:FnOk X.prog X.w X.K X.mg X.base CX k f fd ps sp) (hr:Room (k+1) X.A) (hg:Gl X x) (hm:X.mg x=some (.ref C)) (hb:Binds X.K fd ps ds) (hd:Vals dvs ds) (hx:i6 CX X E)
  (ha:PA X (e::es) t) (hdb:(x==("__debug__":Str))=false:=by decide) (he:starEach (e::es) X.env=(false,eval e X.env)::starEach es X.env:=by rfl) (hpl:(backTo pos (starEach es X.env)).any (·.1)=false:=by rfl):
  PE X (.Call (.Name x p) (e::es) [] pos) (Dv C sp dvs E t):=by
 intro pins s σ H Q I h
 refine wpAny_Call_Name_kw (mC I hg hm ?_ hdb)
 refine ZH (h₀:=X.base) I.ok.mod.kin M.kp (thn (ha pos pins s σ H _ I h) λus s1 ⟨vs,H1,I1,r,q⟩=>⟨I1.kIn,?_⟩) he hpl
 exact vA M F hr hb hd hx I1 r q
theorem mn (M:Mk X.K C f) (F:FnOk X.prog X.w X.K X.mg X.base CX k f fd ps sp) (hr:Room (k+1) X.A) (hg:Gl X x) (hm:X.mg x=some (.ref C)) (hb:Binds X.K fd ps ds) (hd:Vals dvs ds) (hx:i6 CX X E)
  (hdb:(x==("__debug__":Str))=false:=by decide):PE X (.Call (.Name x p) [] [] pos) (Dv C sp dvs E D8):=by
 intro pins s σ H Q I h
 refine wpAny_Call_Name_kw (mC I hg hm ?_ hdb)
 exact PySem.W.callWith_K0 I.kIn M.kp (vA (us:=[]) M F hr hb hd hx I .nil h)
end
structure ay (N P:List Str) (sc:Scope):Prop where
 kind:sc.kind= .function
 co:sc.isCoroutine=false
 gen:sc.isGenerator=false
 nd:N.Nodup
 pre:N.take P.length=P
 par:∀x∈P,sc.names.lookup x=some .local∨sc.names.lookup x=some .cell
 nofree:∀y∈sc.names,y.2≠ .free
theorem tT {kindOf:Str→Option NameKind} {x:Str}:∀{binds:List (Str×Value)} {m:Str→Option Value},(∀v,(x,v)∉binds)→bindL kindOf binds m x=m x
 | [],_,_=>rfl
 |(n,v)::r,m,h=>by
  unfold bindL
  rw[tT λw hw=>h w (Qh _ hw)]
  split
  ·have:x≠n:=by rintro rfl;exact h v Qj
   simp[this]
  ·rfl
theorem tV {kindOf:Str→Option NameKind} {x:Str}:∀{binds:List (Str×Value)} {m:Str→Option Value},(∀v,(x,v)∉binds)→bindC kindOf binds m x=m x
 | [],_,_=>rfl
 |(n,v)::r,m,h=>by
  unfold bindC
  rw[tV λw hw=>h w (Qh _ hw)]
  split
  ·rfl
  ·have:x≠n:=by rintro rfl;exact h v Qj
   simp[this]
theorem tU {kindOf:Str→Option NameKind} {x:Str} {v:Value}:∀{P:List Str} {vs:List Value} {i:Nat} {m:Str→Option Value},P.Nodup→P[i]?=some x→vs[i]?=some v→kindOf x=some .local→
  bindL kindOf (P.zip vs) m x=some v
 | [],_,_,_,_,h,_,_=>by simp at h
 |_::_,[],_,_,_,_,h,_=>by simp at h
 |p::P,w::vs,0,m,nd,h1,h2,hk=>by
  simp at h1 h2;subst h1;subst h2
  show bindL kindOf ((p,w)::P.zip vs) m p=_
  unfold bindL
  rw[tT λv hv=>(QP.mp nd).1 (XH hv).1,if_pos hk]
  simp
 |p::P,w::vs,i+1,m,nd,h1,h2,hk=>by
  show bindL kindOf ((p,w)::P.zip vs) m x=_
  unfold bindL
  exact tU (i:=i) (QP.mp nd).2 (by simpa using h1) (by simpa using h2) hk
theorem tW {kindOf:Str→Option NameKind} {x:Str} {v:Value}:∀{P:List Str} {vs:List Value} {i:Nat} {m:Str→Option Value},P.Nodup→P[i]?=some x→vs[i]?=some v→kindOf x≠some .local→
  bindC kindOf (P.zip vs) m x=some v
 | [],_,_,_,_,h,_,_=>by simp at h
 |_::_,[],_,_,_,_,h,_=>by simp at h
 |p::P,w::vs,0,m,nd,h1,h2,hk=>by
  simp at h1 h2;subst h1;subst h2
  show bindC kindOf ((p,w)::P.zip vs) m p=_
  unfold bindC
  rw[tV λv hv=>(QP.mp nd).1 (XH hv).1,if_neg hk]
  simp
 |p::P,w::vs,i+1,m,nd,h1,h2,hk=>by
  show bindC kindOf ((p,w)::P.zip vs) m x=_
  unfold bindC
  exact tW (i:=i) (QP.mp nd).2 (by simpa using h1) (by simpa using h2) hk
def start (N:List Str) (vs:List V):St:=vs.map some++List.replicate (N.length-vs.length) none
def xC (CX:CXT) (P:Program) (w:World) (K:PySem.W.Frag) (mg:Str→Option Value) (base:Heap) (N:List Str) (qual:Str) (scope:Scope) (f:Addr) (cd:Value) (A:Around) (outer:List Env) (s:Shared) (H:Hp) (E:XK):Cx where
 prog:=P
 w:=w
 K:=K
 mg:=mg
 base:=base
 A:=A.deeper (envOfC qual scope s.heap.objs.size f cd)
 N:=N
 s₀:=s
 H₀:=H
 env:=envOfC qual scope s.heap.objs.size f cd
 outer:=outer
 stack:=envOfC qual scope s.heap.objs.size f cd::outer
 ex:=[]
 calm:=true
 fn:=λ_=>true
 pn:=[]
 xe:=λe s'=>wpAny (model P w) (A.deeper (envOfC qual scope s.heap.objs.size f cd)) (leaving (envOfC qual scope s.heap.objs.size f cd) e) (λ_ s''=>CX outer H s E e s'') (λe' s''=>CX outer H s E e' s'') s'
theorem wu {sc:Scope} {n:Nat} {x:Str} (h:sc.names.lookup x=some .cell):∃c,(cellsFrom n sc.names []).lookup x=some c:=by
 have q:=PySem.W.cellsFrom_some sc.names n [] (.inl h)
 exact X4.mp q
theorem zl {CX:CXT} {P:Program} {w:World} {K:PySem.W.Frag} {mg:Str→Option Value} {base:Heap} {N ps:List Str} {qual:Str} {scope:Scope} {f:Addr} {cd:Value} {A:Around} {outer:List Env} {s s1:Shared} {H:Hp} {E:XK} {us:List Value} {vs:List V}
  (S:ay N ps scope) (hd:A.handled=none) (e0:Env0 P w K mg base A outer s H) (hl:vs.length=ps.length) (r:Vals vs us)
  (x:InCallC s s.heap.objs.size (bindL (envOfC qual scope s.heap.objs.size f cd).kindOf (ps.zip us) λ_=>none) (cellsFrom (s.heap.objs.size+1) scope.names []) (bindC (envOfC qual scope s.heap.objs.size f cd).kindOf (ps.zip us) λ_=>none) s1):
  Inv (xC CX P w K mg base N qual scope f cd A outer s H E) [] (start N vs) H s1:=by
 have hpl:ps.length≤N.length:=by have:=congrArg List.length S.pre;rw[Q7]at this;omega
 obtain⟨h1,tk,rfl,hk⟩:=x.done
 have noA:∀b:Addr,b∉(xC CX P w K mg base N qual scope f cd A outer s H E).ex:=λb z=>absurd (show b∈([]:List Addr) from z) (by simp)
 refine⟨⟨e0.mod,S.kind,rfl,rfl,Q5 _,λy z c h1 h2=>?_,λy hy=>?_,λy c _ h=>?_,λ_=>hd,Around.frames_deeper e0.frames,.inr ⟨rfl,rfl⟩,λb z=>absurd z (noA b),e0.bs,e0.bsz,λb _ _=>noA b,λb z=>absurd z (noA b),e0.funs,e0.frf⟩,
  rfl,e0.bare,Un.kept hk,⟨_,x.toInCall.ns,λi y v h1 h2 h3=>?_⟩,λy c h=>⟨_,x.cell y c h⟩,e0.hok.fresh (Q5 _),λy c h=>?_,λp hp=>absurd (show p∈([]:List (Addr×Obj)) from hp) (by simp),e0.hok.kept hk,?_⟩
 ·exact name_of_addr x.apart (PySem.mem_of_lookup h1) (PySem.mem_of_lookup h2)
 ·have hy:scope.names.lookup y=some .cell∨scope.names.lookup y=some .free:=hy
  rcases hy with hy|hy
  ·exact wu hy
  ·exact absurd rfl (S.nofree _ (PySem.mem_of_lookup hy))
 ·exact Zj (x.above y c (PySem.mem_of_lookup h))
 ·have hi:i<vs.length:=by
   unfold start at h2
   by_cases hi:i<vs.length
   ·exact hi
   ·rw[Zb (by simpa using hi)]at h2
    rw[List.getElem?_replicate]at h2
    split at h2<;>cases h2
  have ha:vs[i]?=some v:=by
   unfold start at h2
   rw[Zg (by simpa using hi),QA]at h2
   cases e:vs[i]? with
   |none=>rw[e]at h2;cases h2
   |some a=>rw[e]at h2;cases h2;rfl
  obtain⟨u,hu,rv⟩:=r.get ha
  have hp:ps[i]?=some y:=by
   rw[←S.pre,X5 (by omega)];exact h1
  have ndP:ps.Nodup:=by rw[←S.pre];exact S.nd.sublist (X3 _ _)
  refine⟨u,rv,?_⟩
  rcases S.par y (Q1 hp)with k|k
  ·exact .inl ⟨k,tU ndP hp hu k⟩
  ·obtain⟨c,e⟩:=wu (n:=s.heap.objs.size+1) k
   refine .inr ⟨.inl k,c,e,?_⟩
   have q:=x.cell y c e
   rw[tW ndP hp hu (by show scope.names.lookup y≠_;rw[k];decide)]at q
   exact q
 ·exact e0.hok.fresh (Zj (x.above y c (PySem.mem_of_lookup h)))
 ·unfold start
  show _=N.length
  rw[Q8,Q0,Ze]
  omega
theorem DL {CX:CXT} {P:Program} {w:World} {K:PySem.W.Frag} {mg:Str→Option Value} {base:Heap} {k:Nat} {f:Addr} {name qual:Str} {params:Arguments} {body:List Stmt} {scope:Scope} {dV kV doc pm cdv ct oc:Value} {an od:Option Addr}
  {osl:Array (Option Value)} {N ps:List Str} {sp:Sp} (lk:K.lookup f=some ⟨oc,od,.func (PySem.W.fnOf name qual params body scope dV kV doc pm an cdv ct),osl⟩) (hcd:PySem.W.codeIn K cdv qual=true) (S:ay N ps scope)
  (len:∀vs H Q E,sp vs H Q E→vs.length=ps.length)
  (hbody:∀(A:Around) (outer:List Env) (s:Shared) (H:Hp) (vs:List V) (Q:VK) (E:XK),Room k (A.deeper (envOfC qual scope s.heap.objs.size f cdv))→sp vs H Q E→
   ∃t,PSs (xC CX P w K mg base N qual scope f cdv A outer s H E) body t∧t {nx:=λ_ H'=>Q .non H',rt:=Q} (start N vs) H):
  FnOk P w K mg base CX (k+1) f (PySem.W.fnOf name qual params body scope dV kV doc pm an cdv ct) ps sp:=by
 refine⟨len,λA outer s H args us vs Q E hr e0 hb r hsp=>?_⟩
 have hl:=len _ _ _ _ hsp
 have KX:K.In s.heap:=e0.mod.kin.keeps λb o e=>(e0.bs b o e).1
 have lim:s.heap.NoLimit:=e0.mod.nolimit.keeps λb o e=>(e0.bs b o e).1
 have hkind:∀y∈ps.zip us,scope.names.lookup y.1=some .local∨(scope.names.lookup y.1=some .cell∧((cellsFrom (s.heap.objs.size+1) scope.names []).lookup y.1).isSome=true):=λ⟨n,v⟩ hy=>by
  rcases S.par n (XH hy).1 with q|q
  ·exact .inl q
  ·exact .inr ⟨q,PySem.W.cellsFrom_some _ _ _ (.inl q)⟩
 refine codeAny_call_function hr.depth (KX _ _ lk) rfl S.co S.gen rfl (PySem.W.codeRec_of KX hcd) (hb _ _ _ _ ?_)
 refine wpAny_newFunctionEnv_cells S.kind hkind λenv he s1 x=>?_
 subst he
 refine⟨lim.keeps x.toInCall.keep,codeAny_func ?_⟩
 obtain⟨t,ht,hq⟩:=hbody A outer s H vs Q E (hr.deeper _) hsp
 have I:Inv (xC CX P w K mg base N qual scope f cdv A outer s H E) [] (start N vs) H s1:=zl S hr.hd e0 hl r x
 refine wpAny_mono (ht [] s1 (start N vs) H _ I hq) (λfl s' hs=>?_) λe s' hs=>hs
 have fin:∀{σ':St} {H':Hp} {v:V} {u:Value},Inv (xC CX P w K mg base N qual scope f cdv A outer s H E) [] σ' H' s'→RelV v u→Q v H'→CE outer P w H s Q u s':=
  λ{σ' H' v u} J rv q=>⟨v,H',J.os,J.bare,J.base,J.hok,rv,q⟩
 cases fl with
 |ret u=>
  obtain⟨v,σ',H',J,rv,q⟩:=hs
  exact fin J rv q
 |next=>
  obtain⟨σ',H',J,q⟩:=hs
  exact fin (v:=V.non) (u:=Value.none) J rfl q
 |brk=>
  obtain⟨_,_,_,q⟩:=hs
  exact False.elim q
 |cont=>
  obtain⟨_,_,_,q⟩:=hs
  exact False.elim q
end L2
namespace L2
open PySem PySem.Spec PyProof.Rows
section
variable {X:Cx} {x:Str} {p pos:Pos} {e:Expr} {es:List Expr} {t:TA} {id T:String} {r:List V→Hp→VK→Prop}
def tCB (r:List V→Hp→VK→Prop) (t:TA):TE:=λσ H Q=>t σ H λvs H1=>r vs H1 Q
theorem az (hc:gr X (.builtin id) r) (hg:Gl X x) (hm:X.mg x=none) (hv:bootBuiltins x=some (.builtin id)) (ha:PA X (e::es) t) (hn:x≠"__name__":=by decide) (hdb:(x==("__debug__":Str))=false:=by decide)
  (he:starEach (e::es) X.env=(false,eval e X.env)::starEach es X.env:=by rfl) (hpl:(backTo pos (starEach es X.env)).any (·.1)=false:=by rfl):PE X (.Call (.Name x p) (e::es) [] pos) (tCB r t):=by
 intro pins s σ H Q I h
 refine wpAny_Call_Name_kw (nQ I hg hm hv ?_ hn hdb)
 exact PyProof.Rows.callWith_builtin1 (thn (ha pos pins s σ H _ I h) λus s1 ⟨vs,H1,I1,r1,q1⟩=>hc pins s1 σ H1 vs us Q I1 r1 q1) he hpl
theorem sW (hc:gr X (.type T) r) (hg:Gl X x) (hm:X.mg x=none) (hv:bootBuiltins x=some (.type T)) (ha:PA X (e::es) t) (hn:x≠"__name__":=by decide) (hdb:(x==("__debug__":Str))=false:=by decide)
  (he:starEach (e::es) X.env=(false,eval e X.env)::starEach es X.env:=by rfl) (hpl:(backTo pos (starEach es X.env)).any (·.1)=false:=by rfl):PE X (.Call (.Name x p) (e::es) [] pos) (tCB r t):=by
 intro pins s σ H Q I h
 refine wpAny_Call_Name_kw (nQ I hg hm hv ?_ hn hdb)
 exact PyProof.Rows.callWith_type1 (thn (ha pos pins s σ H _ I h) λus s1 ⟨vs,H1,I1,r1,q1⟩=>hc pins s1 σ H1 vs us Q I1 r1 q1) he hpl
end
end L2
namespace HT
open PySem PyProof.Rows
def lexLt:List Int→List Int→Bool
 | [],[]=>false
 | [],_::_=>true
 |_::_,[]=>false
 |x::xs,y::ys=>if x=y then lexLt xs ys else decide (x<y)
theorem lexLt_cons (x y:Int) (xs ys:List Int):lexLt (x::xs) (y::ys)=if x=y then lexLt xs ys else decide (x<y):=rfl
theorem lexLt_nil_nil:lexLt [] []=false:=rfl
theorem lexLt_nil_cons (y:Int) (ys:List Int):lexLt [] (y::ys)=true:=rfl
theorem lexLt_cons_nil (x:Int) (xs:List Int):lexLt (x::xs) []=false:=rfl
section
variable {prog:Program} {w:World} {A:Around} {E:Value→Shared→Prop} {s:Shared}
def sIx (n d:Nat):Option Int→Nat
 |none=>d
 |some v=>if v<0 then(v+(n:Int)).toNat else min v.toNat n
end
end HT
namespace L2
open PySem PySem.Spec PyProof.Rows
abbrev TO:=St→Hp→(Option Int→Hp→Prop)→Prop
def PO (X:Cx) (e:Option Expr) (t:TO):Prop:=
 ∀(pins:List (Addr×Obj)) (s:Shared) (σ:St) (H:Hp) (Q:Option Int→Hp→Prop),Inv X pins σ H s→t σ H Q→
  wpAny (model X.prog X.w) X.A (evalPart e X.env) (λu s'=>∃o H',Inv X pins σ H' s'∧IsPart u o∧Q o H') X.xe s
def Cg:TO:=λ_ H Q=>Q none H
def Fh (t:TE):TO:=λσ H Q=>t σ H λx H1=>∃i,x= .int i∧Q (some i) H1
theorem qL {ns:List Int}:∀{us:List Value},Vals (ns.map V.int) us→IntsAre us ns:=by
 induction ns with
 |nil=>intro us r;rw[List.map_nil]at r;cases r;exact .nil
 |cons n ns ih=>
  intro us r
  rw[Qs]at r
  cases r with
  |cons r1 r2=>
   obtain⟨t,e⟩:=r1
   subst e
   exact .cons n t (ih r2)
section
variable {X:Cx} {e:Expr} {te:TE} {lo hi:Option Expr} {tl th:TO} {pos p2:Pos}
theorem iJ:PO X none Cg:=by
 intro pins s σ H Q I h
 rw[evalPart_none]
 exact wpAny_pure ⟨none,H,I,.none,h⟩
theorem eV (h:PE X e te):PO X (some e) (Fh te):=by
 intro pins s σ H Q I hw
 rw[evalPart_some]
 refine thn (h pins s σ H _ I hw) λu s1 hzz=>?_
 obtain⟨x,H1,I1,r1,q1⟩:=hzz
 obtain⟨i,rfl,q⟩:=q1
 obtain⟨t,rfl⟩:=r1
 exact⟨some i,H1,I1,.int i t,q⟩
def SlR (X:Cx) (r:V→Option Int→Option Int→Hp→VK→Prop):Prop:=
 ∀(pins:List (Addr×Obj)) (s:Shared) (σ:St) (H:Hp) (x:V) (v vl vu:Value) (lo hi:Option Int) (sl:Addr) (Q:VK),Inv X pins σ H s→RelV x v→s.heap.IsSliceOf sl vl vu .none→IsPart vl lo→IsPart vu hi→r x lo hi H Q→
  ∃T id,typeLookup (.type T) "__getitem__"=pure (some (.builtin id))∧s.TypeIs v T∧wpAny (model X.prog X.w) X.A (getItem v (.ref sl)) (EP X pins σ Q) X.xe s
def tSl (r:V→Option Int→Option Int→Hp→VK→Prop) (te:TE) (tl th:TO):TE:=λσ H Q=>te σ H λx H1=>tl σ H1 λl H2=>th σ H2 λu H3=>r x l u H3 Q
theorem eh {r:V→Option Int→Option Int→Hp→VK→Prop} (hr:SlR X r) (he:PE X e te) (hl:PO X lo tl) (hu:PO X hi th):PE X (.Subscript e (.Slice lo hi none p2) pos) (tSl r te tl th):=by
 intro pins s σ H Q I h
 refine Subscript_ (thn (he pins s σ H _ I h) λv s1 hzz=>?_)
 obtain⟨x,H1,I1,r1,q1⟩:=hzz
 refine wpAny_Slice (thn (hl pins s1 σ H1 _ I1 q1) λvl s2 ⟨l,H2,I2,pl,q2⟩=>thn (hu pins s2 σ H2 _ I2 q2) λvu s3 hzz=>?_)
 obtain⟨u,H3,I3,pu,q3⟩:=hzz
 rw[evalPart_none]
 refine wpAny_pure ?_
 have I4:Inv X pins σ H3 {s3 with heap:=s3.heap.push {cls:= .type "slice",data:= .fields #[vl,vu,.none]}}:=I3.kept (t':=s3.toks) λb ob q=>Heap.get?_push_of_some _ q
 obtain⟨T,id,hT,ht,hg⟩:=hr pins {s3 with heap:=s3.heap.push {cls:= .type "slice",data:= .fields #[vl,vu,.none]}} σ H3 x v vl vu l u s3.heap.objs.size Q I4 r1 (Heap.IsSliceOf.new ..) pl pu q3
 show wpAny (model X.prog X.w) X.A (subscriptTail e (.Slice lo hi none p2) v (.ref s3.heap.objs.size)) (EP X pins σ Q) X.xe {s3 with heap:=s3.heap.push {cls:= .type "slice",data:= .fields #[vl,vu,.none]}}
 exact tail_any (ops:=[.ref s3.heap.objs.size,v]) ht hT hg (by with_unfolding_all rfl)
def mL (xs:List V) (lo hi:Option Int):List V:=(xs.drop (HT.sIx xs.length 0 lo)).take (HT.sIx xs.length xs.length hi-HT.sIx xs.length 0 lo)
theorem wq (xs:List V) (lo hi:Option Int):(mL xs lo hi).length≤xs.length:=by
 unfold mL
 rw[Q7,QG]
 omega
end
end L2
namespace L2
open PySem PySem.Spec PyProof.Rows
def ixN (n:Nat) (i:Int):Option Nat:=if 0≤i then(if i<n then some i.toNat else none)else if-(n:Int)≤i then some (i+n).toNat else none
def atI {α:Type} (xs:List α) (i:Int):Option α:=(ixN xs.length i).bind λj=>xs[j]?
theorem yk {n:Nat} {i:Int} {j:Nat} (h:ixN n i=some j):seqIndex? i n=some j∧j<n∧-(n:Int)≤i∧i<n:=by
 unfold ixN at h
 by_cases h0:0≤i
 ·rw[if_pos h0]at h
  by_cases h1:i<n
  ·rw[if_pos h1]at h
   have e:i.toNat=j:=Option.some.inj h
   exact⟨by rw[seqIndex_of h0 h1,e],by omega,by omega,h1⟩
  ·rw[if_neg h1]at h;cases h
 ·rw[if_neg h0]at h
  by_cases h1: -(n:Int)≤i
  ·rw[if_pos h1]at h
   have e:(i+n).toNat=j:=Option.some.inj h
   exact⟨by rw[seqIndex_neg (by omega) h1,e],by omega,h1,by omega⟩
  ·rw[if_neg h1]at h;cases h
theorem yG {α:Type} {xs:List α} {i:Int} {v:α} (h:atI xs i=some v):∃j,seqIndex? i xs.length=some j∧xs[j]?=some v∧j<xs.length∧-(xs.length:Int)≤i∧i<xs.length:=by
 unfold atI at h
 cases e:ixN xs.length i with
 |none=>rw[e]at h;cases h
 |some j=>
  rw[e]at h
  obtain⟨h1,h2,h3,h4⟩:=yk e
  exact⟨j,h1,h,h2,h3,h4⟩
theorem pC {α:Type} {xs:List α} {j:Nat} {v:α} (h:xs[j]?=some v):atI xs (j:Int)=some v:=by
 have hj:j<xs.length:=(Q2.mp h).1
 have e:ixN xs.length (j:Int)=some j:=by
  unfold ixN
  rw[if_pos (by omega),if_pos (by omega)];simp
 unfold atI;rw[e];exact h
theorem By {α:Type} (xs:List α) (v:α):atI (xs++ [v]) (-1)=some v:=by
 have hl:(xs++ [v]).length=xs.length+1:=by simp
 have e:ixN (xs++ [v]).length (-1)=some xs.length:=by
  unfold ixN
  rw[hl,if_neg (by decide),if_pos (by omega)]
  congr 1
  omega
 unfold atI
 rw[e]
 show(xs++ [v])[xs.length]?=some v
 simp
def Dk (b:Expr):Prop:=∀o i,subscripted b false o i=operate [o,i] (getItem o i)
def IxR (X:Cx) (r:R2):Prop:=
 ∀(value slice:Expr) (pins:List (Addr×Obj)) (s:Shared) (σ:St) (H:Hp) (x y:V) (v u:Value) (Q:VK),Inv X pins σ H s→RelV x v→RelV y u→r x y H Q→
  subscripted slice false v u=operate [v,u] (getItem v u)→wpAny (model X.prog X.w) X.A (subscriptTail value slice v u) (EP X pins σ Q) X.xe s
def MtR (X:Cx) (id:String) (r:V→List V→Hp→VK→Prop):Prop:=
 ∀(pins:List (Addr×Obj)) (s:Shared) (σ:St) (H:Hp) (x:V) (xs:List V) (v:Value) (us:List Value) (Q:VK),Inv X pins σ H s→RelV x v→Vals xs us→r x xs H Q→
  wpAny (model X.prog X.w) X.A (call (.builtin id) (v::us)) (EP X pins σ Q) X.xe s
section
variable {X:Cx} {a b:Expr} {ta tb:TE} {pos:Pos}
theorem aU {r:R2} (hr:IxR X r) (ha:PE X a ta) (hb:PE X b tb) (hs:Dk b):PE X (.Subscript a b pos) (tOp r ta tb):=by
 intro pins s σ H Q I h
 exact Subscript_ (EW ha hb I h λv u s2 x y H2 I2 rx ry q=>hr a b pins s2 σ H2 x y v u Q I2 rx ry q (hs _ _))
def rIxL (K:PySem.W.Frag):R2:=λx y H Q=>∃p xs i v,x= .ref p∧y= .int i∧SqL K H p xs∧atI xs i=some v∧Q v H
def rIxT (K:PySem.W.Frag):R2:=λx y H Q=>∃p xs i v,x= .ref p∧y= .int i∧SqT K H p xs∧atI xs i=some v∧Q v H
theorem aN:IxR X (rIxL X.K):=by
 intro value slice pins s σ H x y v u Q I rx ry h hs
 obtain⟨p,xs,i,z,rfl,rfl,hq,he,q⟩:=h
 cases rx
 obtain⟨t,rfl⟩:=ry
 obtain⟨its,r,pl,hz⟩:=I.list hq
 obtain⟨j,h1,h2,h3,h4,h5⟩:=yG he
 obtain⟨w,ew,rw'⟩:=r.get h2
 have hl:=r.length
 have hn:=qF
 have fin:EP X pins σ Q w s:=⟨z,H,I,rw',q⟩
 by_cases h0:0≤i
 ·have hj:i.toNat=j:=by
   rw[seqIndex_of h0 h5]at h1
   exact Option.some.inj h1
  exact item_listR pl.isList h0 (by omega) (by rw[hj];simpa using ew) fin hs
 ·have hj:(i+(its.toArray.size:Int)).toNat=j:=by
   rw[seqIndex_neg (by omega) h4]at h1
   rw[Qi,←hl]
   exact Option.some.inj h1
  exact subscriptTail_builtinR (x:=w) pl.isList.typeIs slot_list_getitem.lookup
   (wpAny_getItem_list_neg (Q:=λr s'=>r=w∧EP X pins σ Q r s') pl.isList (by omega) (by rw[Qi]<;>omega) (by omega) (by rw[hj];simpa using ew) ⟨rfl,fin⟩) hs
theorem dw:IxR X (rIxT X.K):=by
 intro value slice pins s σ H x y v u Q I rx ry h hs
 obtain⟨p,xs,i,z,rfl,rfl,hq,he,q⟩:=h
 cases rx
 obtain⟨t,rfl⟩:=ry
 obtain⟨its,r,pl,hz⟩:=I.tuple hq
 obtain⟨j,h1,h2,h3,h4,h5⟩:=yG he
 obtain⟨w,ew,rw'⟩:=r.get h2
 have hl:=r.length
 have hn:=qF
 have fin:EP X pins σ Q w s:=⟨z,H,I,rw',q⟩
 exact subscriptTail_builtinR (x:=w) pl.typeIs slot_tuple_getitem.lookup
  (getItem_tuple (j:=j) (Q:=λr s'=>r=w∧EP X pins σ Q r s') pl (by omega) (by omega) (by rw[Qi,←hl];exact h1) (by simpa using ew) ⟨rfl,fin⟩) hs
theorem xp (its:List Value) (n j:Nat) (u:Value):Obj.mapSeq (·.setIfInBounds j u) {cls:= .type "list",data:= .seq its.toArray n}={cls:= .type "list",data:= .seq (its.set j u).toArray n}:=by
 simp[Obj.mapSeq]
theorem Inv.lst {pins:List (Addr×Obj)} {σ:St} {H:Hp} {s:Shared} {p:Addr} {xs:List V} (I:Inv X pins σ H s) (h:H p=some (.lst xs)):
  ∃(its:List Value) (n:Nat),Vals xs its∧s.heap.get? p=some {cls:= .type "list",data:= .seq its.toArray n}∧xs.length≤sizeLine:=by
 obtain⟨z,its,n,r,e⟩:=I.hok p _ h
 exact⟨its,n,r,e,z⟩
theorem Inv.lstUpd {pins:List (Addr×Obj)} {σ:St} {H:Hp} {s:Shared} {p:Addr} {xs ys:List V} {its its':List Value} {n n':Nat} {f:Obj→Obj} (I:Inv X pins σ H s) (h:H p=some (.lst xs))
  (ho:s.heap.get? p=some {cls:= .type "list",data:= .seq its.toArray n}) (hf:f {cls:= .type "list",data:= .seq its.toArray n}={cls:= .type "list",data:= .seq its'.toArray n'}) (r:Vals ys its') (hz:ys.length≤sizeLine) (t:Nat):
  Inv X pins σ (upd H p (.lst ys)) {s with heap:=s.heap.update p f,toks:=t}:=by
 have e:(s.heap.update p f).get? p=some {cls:= .type "list",data:= .seq its'.toArray n'}:=by
  rw[Heap.get?_update_self f ho (by rw[hf]<;>rfl),hf]
 refine I.write (x:=p) (e:=p) (by rw[h];trivial) (.inl rfl) (λb u hb q=>(Heap.get?_update_other _ _ (Ne.symm hb)).trans q) ⟨_,e⟩ ?_
 exact⟨hz,its',n',r,e⟩
def Fv:V→V→V→Hp→(Hp→Prop)→Prop:=λo i v H Q=>∃p xs k j,o= .ref p∧i= .int k∧H p=some (.lst xs)∧ixN xs.length k=some j∧Q (upd H p (.lst (xs.set j v)))
theorem pZ:PSet X Fv:=by
 intro pins s σ H o i v ov iv u Q I ro ri rv h
 obtain⟨p,xs,k,j,rfl,rfl,hp,hj,q⟩:=h
 cases ro
 obtain⟨t,rfl⟩:=ri
 obtain⟨its,n,r,ho,hz⟩:=I.lst hp
 obtain⟨h1,h2,h3,h4⟩:=yk hj
 have hl:=r.length
 have hn:=qF
 have I':Inv X pins σ (upd H p (.lst (xs.set j v))) {s with heap:=s.heap.update p (Obj.mapSeq (·.setIfInBounds j u))}:=
  I.lstUpd hp ho (xp its n j u) (r.set rv j) (by rw[QH];exact hz) s.toks
 by_cases h0:0≤k
 ·have hk:k.toNat=j:=by
   rw[seqIndex_of h0 h4]at h1
   exact Option.some.inj h1
  exact PySem.W.ki_setAt ho h0 (by omega) (by rw[Qi,←hl];exact h4) (by rw[hk];exact⟨_,I',q⟩)
 ·have hk:(k+(its.toArray.size:Int)).toNat=j:=by
   rw[seqIndex_neg (by omega) h3]at h1
   rw[Qi,←hl]
   exact Option.some.inj h1
  exact PySem.W.ki_setBack ho (by omega) (by rw[Qi,←hl];exact h3) (by omega) (by rw[hk];exact⟨_,I',q⟩)
theorem uo (lo hi:Option Int) (n:Nat):(sliceBounds lo hi none n).1=((HT.sIx n 0 lo:Nat):Int)∧(sliceBounds lo hi none n).2.1=((HT.sIx n n hi:Nat):Int)∧(sliceBounds lo hi none n).2.2=1:=by
 refine⟨?_,?_,rfl⟩
 ·cases lo with
  |none=>simp[sliceBounds,HT.sIx]
  |some i=>
   simp only[sliceBounds,HT.sIx,Option.getD_none,show(1:Int)>0 by decide,if_true]
   by_cases h:i<0
   ·simp only[h,if_true]<;>omega
   ·simp only[h,if_false]<;>omega
 ·cases hi with
  |none=>simp[sliceBounds,HT.sIx]
  |some i=>
   simp only[sliceBounds,HT.sIx,Option.getD_none,show(1:Int)>0 by decide,if_true]
   by_cases h:i<0
   ·simp only[h,if_true]<;>omega
   ·simp only[h,if_false]<;>omega
theorem rO (its:List Value) (lo hi:Option Int):slicePick its.toArray lo hi none=((its.drop (HT.sIx its.length 0 lo)).take (HT.sIx its.length its.length hi-HT.sIx its.length 0 lo)).toArray:=by
 obtain⟨h1,h2,h3⟩:=uo lo hi its.toArray.size
 unfold slicePick
 rw[h1,h2,h3]
 simp only[sliceRange_one,pick_run,Qi]<;>rfl
def rSlL (K:PySem.W.Frag):V→Option Int→Option Int→Hp→VK→Prop:=λx lo hi H Q=>∃a xs,x= .ref a∧SqL K H a xs∧∀p,H p=none→Q (.ref p) (upd H p (.lst (mL xs lo hi)))
theorem fZ:SlR X (rSlL X.K):=by
 intro pins s σ H x v vl vu lo hi sl Q I rx hs pl pu h
 obtain⟨a,xs,rfl,hx,q⟩:=h
 cases rx
 obtain⟨its,r,ht,hz⟩:=I.list hx
 have hlen:=r.length
 refine⟨"list",_,slot_list_getitem.lookup,ht.isList.typeIs,?_⟩
 refine wpAny_getItem_list_slice ht.isList hs pl pu .none (by simp) ?_ (by rw[Qi]<;>omega)
 rw[rO,←hlen]
 refine⟨.ref s.heap.objs.size,_,I.laid (t':=s.toks) (o:= .lst (mL xs lo hi)) (λb ob q=>Heap.get?_push_of_some _ q) (Q5 _) ?_,rfl,q _ (I.hok.fresh (Q5 _))⟩
 exact⟨QK (wq xs lo hi) hz,_,0,(r.drop (HT.sIx xs.length 0 lo)).take (HT.sIx xs.length xs.length hi-HT.sIx xs.length 0 lo),Heap.get?_push_size _ rfl⟩
def mI:V→Bool
 | .non=>true
 | .bl _=>true
 | .int _=>true
 | .str _=>true
 |_=>false
def eqV:V→V→Bool
 | .non,.non=>true
 | .bl a,.bl b=>a==b
 | .bl a,.int b=>(if a then 1 else 0)==b
 | .int a,.bl b=>a==(if b then 1 else 0)
 | .int a,.int b=>a==b
 | .str a,.str b=>a==b
 |_,_=>false
theorem ES {A:Around} {s:Shared} {y x:V} {u v:Value} (ry:RelV y u) (rx:RelV x v) (fy:mI y=true) (fx:mI x=true):SeqAt.EqAt A s u v (eqV y x):=by
 cases y with
 |non=>
  cases ry
  cases x with
  |non=>cases rx;exact SeqAt.EqAt.same _
  |bl b=>cases rx;exact SeqAt.EqAt.none_bool b
  |int b=>obtain⟨t,rfl⟩:=rx;exact SeqAt.EqAt.none_int b t
  |str b=>obtain⟨t,rfl⟩:=rx;exact SeqAt.EqAt.none_str b t
  |_=>exact absurd (show false=true from fx) Qe
 |bl a=>
  cases ry
  cases x with
  |non=>cases rx;exact SeqAt.EqAt.bool_none a
  |bl b=>cases rx;exact SeqAt.EqAt.bool_bool a b
  |int b=>obtain⟨t,rfl⟩:=rx;exact SeqAt.EqAt.bool_int a b t
  |str b=>obtain⟨t,rfl⟩:=rx;exact SeqAt.EqAt.bool_str a b t
  |_=>exact absurd (show false=true from fx) Qe
 |int a=>
  obtain⟨t',rfl⟩:=ry
  cases x with
  |non=>cases rx;exact SeqAt.EqAt.int_none a t'
  |bl b=>cases rx;exact SeqAt.EqAt.int_bool a t' b
  |int b=>obtain⟨t,rfl⟩:=rx;exact SeqAt.EqAt.int_int a t' b t
  |str b=>obtain⟨t,rfl⟩:=rx;exact SeqAt.EqAt.int_str a t' b t
  |_=>exact absurd (show false=true from fx) Qe
 |str a=>
  obtain⟨t',rfl⟩:=ry
  cases x with
  |non=>cases rx;exact SeqAt.EqAt.str_none a t'
  |bl b=>cases rx;exact SeqAt.EqAt.str_bool a t' b
  |int b=>obtain⟨t,rfl⟩:=rx;exact SeqAt.EqAt.str_int a t' b t
  |str b=>obtain⟨t,rfl⟩:=rx;exact SeqAt.EqAt.str_str a t' b t
  |_=>exact absurd (show false=true from fx) Qe
 |_=>exact absurd (show false=true from fy) Qe
def eqU (x:V) (u:Value):Bool:=match u with
 | .none=>eqV .non x
 | .bool b=>eqV (.bl b) x
 | .int i _=>eqV (.int i) x
 | .str z _=>eqV (.str z) x
 |_=>false
theorem Bg {x y:V} {u:Value} (r:RelV y u) (f:mI y=true):eqU x u=eqV y x:=by
 cases y with
 |non=>cases r;rfl
 |bl b=>cases r;rfl
 |int i=>obtain⟨t,rfl⟩:=r;rfl
 |str z=>obtain⟨t,rfl⟩:=r;rfl
 |_=>exact absurd (show false=true from f) Qe
theorem uY {x:V}:∀{xs:List V} {us:List Value},Vals xs us→xs.all mI=true→us.any (eqU x)=xs.any λy=>eqV y x
 |_,_,.nil,_=>rfl
 |y::xs,u::us,.cons r t,f=>by
  rw[List.all_cons,QI]at f
  rw[ZQ,ZQ,Bg r f.1,uY t f.2]
theorem qC {A:Around} {s:Shared} {x:V} {v:Value} (rx:RelV x v) (fx:mI x=true):∀{xs:List V} {us:List Value},Vals xs us→xs.all mI=true→∀u∈us,SeqAt.EqAt A s u v (eqU x u)
 |_,_,.nil,_=>λu hu=>by cases hu
 |y::xs,u::us,.cons r t,f=>λu' hu=>by
  rw[List.all_cons,QI]at f
  rcases Qm.mp hu with rfl|hu
  ·rw[Bg r f.1];exact ES r rx f.1 fx
  ·exact qC rx fx t f.2 u' hu
def inV (x:V) (xs:List V):Bool:=xs.any λy=>eqV y x
def rIn (K:PySem.W.Frag) (neg:Bool):R2:=λx y H Q=>∃p xs,y= .ref p∧(SqL K H p xs∨SqT K H p xs)∧mI x=true∧xs.all mI=true∧Q (.bl (if neg then !inV x xs else inV x xs)) H
theorem y3:OpR X (compareOp .In) (rIn X.K false):=by
 intro pins s σ H x y v u Q I rx ry h
 obtain⟨p,xs,rfl,hq,fx,fs,q⟩:=h
 cases ry
 rcases hq with hq|hq
 ·obtain⟨its,r,pl,hz⟩:=I.list hq
  refine SeqAt.in_listAt (eqU x) pl.isList (λw hw=>qC rx fx r fs w (by simpa using hw)) ⟨.bl _,H,I,rfl,?_⟩
  rw[show its.toArray.any (eqU x)=its.any (eqU x) by simp,uY r fs]
  exact q
 ·obtain⟨its,r,pl,hz⟩:=I.tuple hq
  refine SeqAt.in_tupleAt (eqU x) pl (λw hw=>qC rx fx r fs w (by simpa using hw)) ⟨.bl _,H,I,rfl,?_⟩
  rw[show its.toArray.any (eqU x)=its.any (eqU x) by simp,uY r fs]
  exact q
theorem aA:gr X (.builtin "len") (λxs H Q=>∃p ys,xs=[.ref p]∧(SqL X.K H p ys∨SqT X.K H p ys)∧Q (.int ys.length) H):=by
 intro pins s σ H xs us Q I r h
 obtain⟨p,ys,rfl,hq,q⟩:=h
 obtain⟨u,rfl,rx⟩:=pF r
 cases rx
 have hn:=qF
 rcases hq with hq|hq
 ·obtain⟨its,r',pl,hz⟩:=I.list hq
  have hlen:=r'.length
  exact Calls.call_len_list pl.isList (by simp only[Qi]<;>omega) ⟨.int ys.length,H,I.tok _,⟨s.toks+1,by rw[Qi,hlen]⟩,q⟩
 ·obtain⟨its,r',pl,hz⟩:=I.tuple hq
  have hlen:=r'.length
  exact len_tuple pl (by simp only[Qi]<;>omega) ⟨.int ys.length,H,I.tok _,⟨s.toks+1,by rw[Qi,hlen]⟩,q⟩
def tyV (K:PySem.W.Frag) (T:String) (x:V) (H:Hp):Prop:=match x with
 | .str _=>T="str"
 | .int _=>T="int"
 | .ref p=>(T="list"∧∃xs,SqL K H p xs)∨(T="tuple"∧∃o,K.lookup p=some o∧o.cls= .type "tuple"∧o.dict=none)∨
   (T="dict"∧((∃kvs,H p=some (.dK kvs))∨∃kvs,H p=some (.dT kvs)))∨(T="set"∧∃S n,H p=some (.set S n))
 |_=>False
theorem zU {pins:List (Addr×Obj)} {σ:St} {H:Hp} {s:Shared} {T:String} {x:V} {v:Value} (I:Inv X pins σ H s) (r:RelV x v) (ty:tyV X.K T x H):
  s.TypeIs v T∧∀a,v= .ref a→∃ob,s.heap.get? a=some ob∧ob.dict=none:=by
 cases x with
 |str z=>
  obtain⟨t,rfl⟩:=r
  cases (show T="str" from ty)
  exact⟨typeIs_str s z t,λ_ e=>nomatch e⟩
 |int i=>
  obtain⟨t,rfl⟩:=r
  cases (show T="int" from ty)
  exact⟨typeIs_int s i t,λ_ e=>nomatch e⟩
 |ref p=>
  cases r
  rcases ty with⟨rfl,xs,hq⟩|⟨rfl,o,hk,hc,hd⟩|⟨rfl,hk⟩|⟨rfl,S,n,hk⟩
  ·obtain⟨its,_,pl,_⟩:=I.list hq
   refine⟨pl.isList.typeIs,λa e=>?_⟩
   cases e
   obtain⟨o,n,e,c,hd,_⟩:=pl
   exact⟨o,e,hd⟩
  ·refine⟨⟨o,I.kIn p o hk,hc⟩,λa e=>?_⟩
   cases e
   exact⟨o,I.kIn _ o hk,hd⟩
  ·have z:∃o,s.heap.get? p=some o∧o.ExactDict:=by
    rcases hk with⟨kvs,hk⟩|⟨kvs,hk⟩
    ·obtain⟨_,_,_,_,o,_,_,e,ex,_⟩:=I.hok p _ hk
     exact⟨o,e,ex⟩
    ·obtain⟨_,_,_,_,o,_,_,e,ex,_⟩:=I.hok p _ hk
     exact⟨o,e,ex⟩
   obtain⟨o,e,ex⟩:=z
   refine⟨⟨o,e,ex.1⟩,λa e2=>?_⟩
   cases e2
   exact⟨o,e,ex.2.1⟩
  ·obtain⟨o,_,_,_,e,ex,_⟩:=I.hok p _ hk
   refine⟨⟨o,e,ex.1⟩,λa e2=>?_⟩
   cases e2
   exact⟨o,e,ex.2.1⟩
 |_=>exact False.elim ty
def tBM0 (K:PySem.W.Frag) (T:String) (r:V→List V→Hp→VK→Prop) (to:TE):TE:=λσ H Q=>to σ H λx H1=>tyV K T x H1∧r x [] H1 Q
def tBM (K:PySem.W.Frag) (T:String) (r:V→List V→Hp→VK→Prop) (to:TE) (t:TA):TE:=λσ H Q=>to σ H λx H1=>tyV K T x H1∧t σ H1 λxs H2=>r x xs H2 Q
variable {o e:Expr} {es:List Expr} {to:TE} {t:TA} {name:Str} {apos cpos:Pos} {T id:String} {r:V→List V→Hp→VK→Prop}
theorem An (pa:PlainAttrs T) (slot:Slot T name id) (hty:typeOf (.builtin id)=pure (.type "method_descriptor")) (hm:MtR X id r) (ho:PE X o to)
  (hbase:attributeBase o name X.env (eval o X.env)=eval o X.env:=by rfl) (hline:(apos.endLine==cpos.line)=true:=by rfl):PE X (.Call (.Attribute o name apos) [] [] cpos) (tBM0 X.K T r to):=by
 intro pins s σ H Q I h
 refine wpAny_Call_method0_late hbase hline (thn (ho pins s σ H _ I h) λv s1 hzz=>?_)
 obtain⟨x,H1,I1,r1,ty,q1⟩:=hzz
 obtain⟨h1,h2⟩:=zU I1 r1 ty
 exact⟨T,id,pa,slot,hty,h1,h2,Calls.callWith_builtin rfl (PySem.evalArgs_none (hm pins s1 σ H1 x [] v [] Q I1 r1 .nil q1))⟩
theorem dH (pa:PlainAttrs T) (slot:Slot T name id) (hty:typeOf (.builtin id)=pure (.type "method_descriptor")) (hm:MtR X id r) (ho:PE X o to) (ha:PA X (e::es) t)
  (hbase:attributeBase o name X.env (eval o X.env)=eval o X.env:=by rfl)
  (hfew:((backTo cpos (starEach (e::es) X.env)).all (λx=>!x.1)&&(backToKw cpos (keywordEach [] X.env)).all (λx=>x.1.isSome)
   &&decide ((e::es).length+([]:List Keyword).length+(if([]:List Keyword).isEmpty then 0 else 1)<30))=true:=by rfl)
  (hline:(apos.endLine==cpos.line)=true:=by rfl) (hs:starEach (e::es) X.env=(false,eval e X.env)::starEach es X.env:=by rfl) (hplain:(backTo cpos (starEach es X.env)).any (·.1)=false:=by rfl):
  PE X (.Call (.Attribute o name apos) (e::es) [] cpos) (tBM X.K T r to t):=by
 intro pins s σ H Q I h
 refine wpAny_Call_method_late hbase hfew hline rfl (thn (ho pins s σ H _ I h) λv s1 hzz=>?_)
 obtain⟨x,H1,I1,r1,ty,q1⟩:=hzz
 obtain⟨h1,h2⟩:=zU I1 r1 ty
 refine⟨T,id,pa,slot,hty,h1,h2,?_⟩
 have hA:=ha cpos pins s1 σ H1 _ I1 q1
 rw[hs]at hA⊢
 refine Calls.callWith_builtin (by show(false||(backTo cpos (starEach es X.env)).any (·.1))=false;rw[hplain]<;>rfl) (Calls.evalArgs_plain ?_)
 exact thn hA λus s2 ⟨vs,H2,I2,r2,q2⟩=>hm pins s2 σ H2 x vs v us Q I2 r1 r2 q2
end
end L2
namespace L2
open PySem PySem.Spec PyProof.Rows
def MtM (X:Cx) (id:String) (r:V→List V→Hp→VK→Prop):Prop:=
 ∀(pins:List (Addr×Obj)) (s:Shared) (σ:St) (H:Hp) (x:V) (xs:List V) (v:Value) (us:List Value) (Q:VK),Inv X pins σ H s→RelV x v→Vals xs us→r x xs H Q→
  wpAny (model X.prog X.w) X.A (call (.builtin id) (v::us)) (EP X pins σ Q) X.xe s
theorem Vals.one:∀{x:V} {us:List Value},Vals [x] us→∃u,us=[u]∧RelV x u
 |_,_,.cons r .nil=>⟨_,rfl,r⟩
theorem Vals.two:∀{x y:V} {us:List Value},Vals [x,y] us→∃u v,us=[u,v]∧RelV x u∧RelV y v
 |_,_,_,.cons r (.cons q .nil)=>⟨_,_,rfl,r,q⟩
theorem Vals.eraseIdx:∀{xs:List V} {us:List Value} (i:Nat),Vals xs us→Vals (xs.eraseIdx i) (us.eraseIdx i)
 |_,_,_,.nil=> .nil
 |_,_,0,.cons _ t=>t
 |_,_,i+1,.cons r t=> .cons r (Vals.eraseIdx i t)
theorem nP {α:Type}:∀(l:List α) (i:Nat),(l.eraseIdx i).length≤l.length
 | [],_=>Q5 _
 |_::_,0=>Zs _
 |_::r,i+1=>Nat.succ_le_succ (nP r i)
section
variable {X:Cx} {pins:List (Addr×Obj)} {σ:St} {H:Hp} {s:Shared} {l b:Addr} {xs ys zs:List V}
theorem Inv.lset {its its':List Value} {n:Nat} {f:Array Value→Array Value} {t':Nat} (I:Inv X pins σ H s) (hH:H l=some (.lst xs))
  (e:s.heap.get? l=some {cls:= .type "list",data:= .seq its.toArray n}) (hf:f its.toArray=its'.toArray) (hv:Vals ys its') (hz:ys.length≤sizeLine):
  Inv X pins σ (upd H l (.lst ys)) {s with heap:=s.heap.update l (Obj.mapSeq f),toks:=t'}:=by
 have q:=PySem.IsL.update e f
 rw[hf]at q
 refine I.write (x:=l) (e:=l) (by rw[hH];exact trivial) (.inl rfl) (λb' u hb hu=>(Heap.get?_update_other s.heap (Obj.mapSeq f) (Ne.symm hb)).trans hu) ⟨_,q⟩ ?_
 exact⟨hz,its',_,hv,q⟩
theorem Inv.lnew {its:List Value} {t':Nat} (I:Inv X pins σ H s) (hv:Vals ys its) (hz:ys.length≤sizeLine):
  Inv X pins σ (upd H s.heap.objs.size (.lst ys)) {s with heap:=s.heap.push {cls:= .type "list",data:= .seq its.toArray},toks:=t'}:=
 I.laid (λ_ _ q=>Heap.get?_push_of_some _ q) (Q5 _) ⟨hz,its,0,hv,Heap.get?_push_size _ rfl⟩
theorem Inv.fresh (I:Inv X pins σ H s):H s.heap.objs.size=none:=I.hok.fresh (Q5 _)
theorem Inv.lstM (I:Inv X pins σ H s) (hH:H l=some (.lst xs)):xs.length≤sizeLine∧∃(its:List Value) (n:Nat),Vals xs its∧xs.length=its.length∧s.heap.get? l=some {cls:= .type "list",data:= .seq its.toArray n}:=by
 obtain⟨z,its,n,r,e⟩:=I.hok l _ hH
 exact⟨z,its,n,r,r.length,e⟩
theorem Ar {n:Nat} (h:n≤sizeLine):Builtin.List.listTooLong n=false:=by
 unfold Builtin.List.listTooLong
 exact decide_eq_false (by omega)
end
section
variable {X:Cx}
def Cv:V→List V→Hp→VK→Prop:=λx vs H Q=>∃l xs y,x= .ref l∧vs=[y]∧H l=some (.lst xs)∧xs.length<sizeLine∧Q .non (upd H l (.lst (xs++ [y])))
theorem dN:MtM X "list.append" Cv:=by
 intro pins s σ H x vs v us Q I rx rv h
 obtain⟨l,xs,y,rfl,rfl,hH,hz,q⟩:=h
 cases rx
 obtain⟨u,rfl,ru⟩:=rv.one
 obtain⟨z,its,n,r,hl,e⟩:=I.lstM hH
 refine call_meets F.slot_list_append ⟨_,e,rfl⟩ F.entry_list_append (F.args_list_append_2 _ _) (PySem.list_append l its.toArray n u (by rw[Qi];omega)) ⟨e,?_⟩
 refine⟨.non,_,I.lset (its':=its++ [u]) hH e (by simp) (r.append (.cons ru .nil)) ?_,rfl,q⟩
 rw[Q8,Zf]
 omega
def Cu:V→List V→Hp→VK→Prop:=λx vs H Q=>∃l b xs zs,x= .ref l∧vs=[.ref b]∧H l=some (.lst xs)∧H b=some (.lst zs)∧xs.length+zs.length≤sizeLine∧Q .non (upd H l (.lst (xs++zs)))
theorem j7:MtM X "list.extend" Cu:=by
 intro pins s σ H x vs v us Q I rx rv h
 obtain⟨l,b,xs,zs,rfl,rfl,hH,hB,hz,q⟩:=h
 cases rx
 obtain⟨u,rfl,ru⟩:=rv.one
 cases ru
 obtain⟨z,its,n,r,hl,e⟩:=I.lstM hH
 obtain⟨z2,its2,n2,r2,hl2,e2⟩:=I.lstM hB
 have hsz:its.toArray.size+its2.toArray.size≤sizeLine:=by rw[Qi,Qi];omega
 have hlong:¬(!its.toArray.isEmpty&&Builtin.List.listTooLong (its.toArray.size+its2.toArray.size))=true:=by
  rw[Ar hsz,Bool.and_false]
  exact Qe
 refine call_meets F.slot_list_extend ⟨_,e,rfl⟩ F.entry_list_extend (F.args_list_extend_2 _ _)
  (AutoSeq1.list_extend_list_list_0 l its.toArray n b its2.toArray n2 hlong (by rw[Qi];omega) (by omega)) ⟨e,e2,?_⟩
 refine⟨.non,_,I.lset (its':=its++its2) hH e (by simp) (r.append r2) ?_,rfl,q⟩
 rw[Q8]
 omega
def Eh:V→List V→Hp→VK→Prop:=λx vs H Q=>∃l xs i k y,x= .ref l∧vs=[.int i]∧H l=some (.lst xs)∧-(2^63)≤i∧i<2^63∧seqIndex? i xs.length=some k∧xs[k]?=some y∧Q y (upd H l (.lst (xs.eraseIdx k)))
theorem vJ:MtM X "list.pop" Eh:=by
 intro pins s σ H x vs v us Q I rx rv h
 obtain⟨l,xs,i,k,y,rfl,rfl,hH,h1,h2,hk,hy,q⟩:=h
 cases rx
 obtain⟨u,rfl,ru⟩:=rv.one
 obtain⟨t,rfl⟩:=ru
 obtain⟨z,its,n,r,hl,e⟩:=I.lstM hH
 obtain⟨w,hw,rw'⟩:=r.get hy
 refine call_meets F.slot_list_pop ⟨_,e,rfl⟩ F.entry_list_pop (F.args_list_pop_2 _ _)
  (MeetsSeq.list_pop_at l its.toArray n i t k w (fitsIndex_both h1 h2) (by rw[Qi,←hl];exact hk) (by rw[←Qu];exact hw) (by rw[Qi];omega)) ⟨e,?_⟩
 refine⟨y,_,I.lset (its':=its.eraseIdx k) hH e ?_ (r.eraseIdx k) ?_,rw',q⟩
 ·show its.toArray.eraseIdxIfInBounds k=(its.eraseIdx k).toArray
  rw[XB]
 ·have:=nP xs k
  omega
def rCat:R2:=λx y H Q=>∃l b xs zs,x= .ref l∧y= .ref b∧H l=some (.lst xs)∧H b=some (.lst zs)∧xs.length+zs.length≤sizeLine∧∀p,H p=none→Q (.ref p) (upd H p (.lst (xs++zs)))
theorem xh:OpR X (binaryOp .Add) rCat:=by
 intro pins s σ H x y v u Q I rx ry h
 obtain⟨l,b,xs,zs,rfl,rfl,hH,hB,hz,q⟩:=h
 cases rx
 cases ry
 obtain⟨z,its,n,r,hl,e⟩:=I.lstM hH
 obtain⟨z2,its2,n2,r2,hl2,e2⟩:=I.lstM hB
 refine PySem.P.add_list e e2 ?_ (by rw[Qi,Qi];omega)
 have ea:its.toArray++its2.toArray=(its++its2).toArray:=by simp
 rw[ea]
 exact⟨.ref _,_,I.lnew (t':=s.toks) (r.append r2) (by rw[Q8];omega),rfl,q _ I.fresh⟩
end
end L2
namespace L2
open PySem PySem.Spec PyProof.Rows
section
variable {κ:Type} [DecidableEq κ]
def aL (kvs:List (κ×V)) (k:κ):Option V:=(kvs.find? λkv=>decide (kv.1=k)).map (·.2)
def bj (kvs:List (κ×V)) (k:κ) (v:V):List (κ×V):=
 if(kvs.any λkv=>decide (kv.1=k))=true then kvs.map (λkv=>if kv.1=k then(kv.1,v)else kv)else kvs++ [(k,v)]
def bK (kvs:List (κ×V)) (k:κ):List (κ×V):=kvs.filter λkv=>decide (kv.1≠k)
theorem jh {k:κ}:aL ([]:List (κ×V)) k=none:=rfl
theorem bf {p:κ×V} {r:List (κ×V)} {k:κ} (e:p.1=k):aL (p::r) k=some p.2:=by simp[aL,ZG,e]
theorem a7 {p:κ×V} {r:List (κ×V)} {k:κ} (e:¬p.1=k):aL (p::r) k=aL r k:=by simp[aL,ZG,e]
theorem cn (k:κ):∀kvs:List (κ×V),(kvs.any λkv=>decide (kv.1=k))=(aL kvs k).isSome
 | []=>rfl
 |p::r=>by
  rw[ZQ]
  by_cases e:p.1=k
  ·simp only[bf e,decide_eq_true e,Bool.true_or,Option.isSome_some]
  ·rw[a7 e,decide_eq_false e,Bool.false_or];exact cn k r
theorem vg (k j:κ) (y:V):∀kvs:List (κ×V),aL (kvs.map λkv=>if kv.1=k then(kv.1,y)else kv) j=(aL kvs j).map λx=>if j=k then y else x
 | []=>rfl
 |p::r=>by
  have ih:=vg k j y r
  rw[Qs]
  by_cases h:p.1=k
  ·rw[if_pos h]
   by_cases e:p.1=j
   ·rw[bf (p:=(p.1,y)) e,bf e,Xc,if_pos (e.symm.trans h)]
   ·rw[a7 (p:=(p.1,y)) e,a7 e,ih]
  ·rw[if_neg h]
   by_cases e:p.1=j
   ·rw[bf (p:=p) e,bf e,Xc,if_neg (λz=>h (e.trans z))]
   ·rw[a7 (p:=p) e,a7 e,ih]
theorem sM (k j:κ) (y:V):∀kvs:List (κ×V),aL kvs k=none→aL (kvs++ [(k,y)]) j=if j=k then some y else aL kvs j
 | [],_=>by
  by_cases e:k=j
  ·rw[if_pos e.symm];exact bf (p:=(k,y)) e
  ·rw[if_neg (λz=>e z.symm)];exact a7 (p:=(k,y)) e
 |p::r,hn=>by
  rw[List.cons_append]
  have hk:¬p.1=k:=λz=>by rw[bf z]at hn;cases hn
  rw[a7 hk]at hn
  have ih:=sM k j y r hn
  by_cases e:p.1=j
  ·rw[bf e,bf e,if_neg (λz=>hk (e.trans z))]
  ·rw[a7 e,a7 e,ih]
theorem fq (kvs:List (κ×V)) (k j:κ) (y:V):aL (bj kvs k y) j=if j=k then some y else aL kvs j:=by
 unfold bj
 by_cases a:(kvs.any λkv=>decide (kv.1=k))=true
 ·rw[if_pos a,vg]
  rw[cn]at a
  by_cases e:j=k
  ·obtain⟨x,hx⟩:=X4.mp a
   rw[if_pos e,e,hx,Xc,if_pos rfl]
  ·rw[if_neg e]
   cases aL kvs j with
   |none=>rfl
   |some x=>rw[Xc,if_neg e]
 ·rw[if_neg a]
  refine sM k j y kvs ?_
  rw[cn]at a
  cases q:aL kvs k with
  |none=>rfl
  |some x=>rw[q]at a;exact(a rfl).elim
theorem bX (kvs:List (κ×V)) (k:κ) (v:V):(bj kvs k v).length≤kvs.length+1:=by
 unfold bj
 split
 ·rw[Q0];omega
 ·rw[Q8,Qp,XI];omega
theorem qi {kvs:List (κ×V)} {k:κ} (v:V) (h:aL kvs k=none):bj kvs k v=kvs++ [(k,v)]:=by
 unfold bj
 rw[cn,h]
 exact if_neg (by decide)
theorem RelO.isSome_eq {o:Option V} {u:Option Value} (r:RelO o u):o.isSome=u.isSome:=by
 cases o with
 |none=>cases u with
  |none=>rfl
  |some _=>exact(show False from r).elim
 |some _=>cases u with
  |none=>exact(show False from r).elim
  |some _=>rfl
theorem KV.val {kvs:List (κ×V)} {vs:List (κ×Value)} (r:KV kvs vs) (k:κ):RelO (aL kvs k) (valueAt vs k):=by
 unfold KV at r
 induction r with
 |nil=>exact True.intro
 | @cons p q ps qs h t ih=>
  obtain⟨h1,h2⟩:=h
  by_cases e:p.1=k
  ·have e':q.1=k:=h1.symm.trans e
   have b:valueAt (q::qs) k=some q.2:=by simp[valueAt,ZG,e']
   rw[bf e,b];exact h2
  ·have e':¬q.1=k:=λz=>e (h1.trans z)
   have b:valueAt (q::qs) k=valueAt qs k:=by simp[valueAt,ZG,e']
   rw[a7 e,b];exact ih
theorem KV.any {kvs:List (κ×V)} {vs:List (κ×Value)} (r:KV kvs vs) (k:κ):(kvs.any λkv=>decide (kv.1=k))=vs.any λkv=>decide (kv.1=k):=by
 unfold KV at r
 induction r with
 |nil=>rfl
 |cons h t ih=>rw[ZQ,ZQ,ih,h.1]
theorem KV.repl {kvs:List (κ×V)} {vs:List (κ×Value)} (r:KV kvs vs) (k:κ) {y:V} {u:Value} (ry:RelV y u):
  KV (kvs.map λkv=>if kv.1=k then(kv.1,y)else kv) (vs.map λkv=>if kv.1=k then(kv.1,u)else kv):=by
 unfold KV at r⊢
 induction r with
 |nil=>exact .nil
 | @cons p q ps qs h t ih=>
  rw[Qs,Qs]
  refine .cons ?_ ih
  obtain⟨h1,h2⟩:=h
  by_cases e:p.1=k
  ·rw[if_pos e,if_pos (h1.symm.trans e)];exact⟨h1,ry⟩
  ·rw[if_neg e,if_neg (λz=>e (h1.trans z))];exact⟨h1,h2⟩
theorem KV.put {kvs:List (κ×V)} {vs:List (κ×Value)} (r:KV kvs vs) (k:κ) {y:V} {u:Value} (ry:RelV y u):KV (bj kvs k y) (stored vs k u):=by
 unfold bj stored
 rw[r.any k]
 by_cases e:(vs.any λkv=>decide (kv.1=k))=true
 ·rw[if_pos e,if_pos e];exact r.repl k ry
 ·rw[if_neg e,if_neg e];exact Paired.snoc r ⟨rfl,ry⟩
theorem KV.drop {kvs:List (κ×V)} {vs:List (κ×Value)} (r:KV kvs vs) (k:κ):KV (bK kvs k) (without vs k):=by
 unfold KV at r⊢
 unfold bK without
 induction r with
 |nil=>exact .nil
 | @cons p q ps qs h t ih=>
  obtain⟨h1,h2⟩:=h
  rw[ZO,ZO]
  by_cases e:p.1=k
  ·have a:¬decide (p.1≠k)=true:=by simp[e]
   have b:¬decide (q.1≠k)=true:=by simp[h1.symm.trans e]
   rw[if_neg a,if_neg b];exact ih
  ·have e':¬q.1=k:=λz=>e (h1.trans z)
   have a:decide (p.1≠k)=true:=by simp[e]
   have b:decide (q.1≠k)=true:=by simp[e']
   rw[if_pos a,if_pos b];exact .cons ⟨h1,h2⟩ ih
theorem KV.length {kvs:List (κ×V)} {vs:List (κ×Value)} (r:KV kvs vs):kvs.length=vs.length:=Paired.length r
theorem Bi (kvs:List (κ×V)) (k:κ):(bK kvs k).length≤kvs.length:=Qn _ _
end
theorem oy {P:Program} {w:World} {k:Key} {u:Value} (r:RelV (kV k) u):(a9 P w).is k u=true:=by
 cases k with
 |inl i=>obtain⟨t,e⟩:=(show ∃t,u=Value.int i t from r);subst e;exact vQ P w i t
 |inr x=>obtain⟨t,e⟩:=(show ∃t,u=Value.str x t from r);subst e;exact vP P w x t
theorem tF {P:Program} {w:World}:∀{ks:List Key} {us:List Value},Vals (ks.map kV) us→ItemsAre (a9 P w) ks us
 | [],_,r=>by rw[List.map_nil]at r;cases r;exact .nil
 |k::ks,_,r=>by
  rw[Qs]at r
  cases r with
  |cons h t=>exact .cons (oy h) (tF t)
abbrev KT (H:Hp):List (List Key×V)→List (List Key×Addr×Value)→Prop:=Paired λp q=>p.1=q.1∧H q.2.1=some (.tup (p.1.map kV))∧RelV p.2 q.2.2
theorem KT.val {H:Hp} {kvs:List (List Key×V)} {xs:List (List Key×Addr×Value)} (r:KT H kvs xs) (k:List Key):RelO (aL kvs k) ((atKey xs k).map (·.2)):=by
 induction r with
 |nil=>exact True.intro
 | @cons p q ps qs h t ih=>
  obtain⟨h1,_,h2⟩:=h
  by_cases e:p.1=k
  ·have e':q.1=k:=h1.symm.trans e
   have b:atKey (q::qs) k=some q.2:=by simp[atKey,ZG,e']
   rw[bf e,b];exact h2
  ·have e':¬q.1=k:=λz=>e (h1.trans z)
   have b:atKey (q::qs) k=atKey qs k:=by simp[atKey,ZG,e']
   rw[a7 e,b];exact ih
theorem KT.repl {H:Hp} {kvs:List (List Key×V)} {xs:List (List Key×Addr×Value)} (r:KT H kvs xs) (k:List Key) {y:V} {u:Value} (ry:RelV y u):
  KT H (kvs.map λkv=>if kv.1=k then(kv.1,y)else kv) (xs.map (putAt k u)):=by
 induction r with
 |nil=>exact .nil
 | @cons p q ps qs h t ih=>
  rw[Qs,Qs]
  refine .cons ?_ ih
  obtain⟨h1,h2,h3⟩:=h
  unfold putAt
  by_cases e:p.1=k
  ·rw[if_pos e,if_pos (h1.symm.trans e)];exact⟨h1,h2,ry⟩
  ·rw[if_neg e,if_neg (λz=>e (h1.trans z))];exact⟨h1,h2,h3⟩
theorem KT.put {H:Hp} {kvs:List (List Key×V)} {xs:List (List Key×Addr×Value)} (r:KT H kvs xs) (k:List Key) {b:Addr} {y:V} {u:Value} (hb:H b=some (.tup (k.map kV))) (ry:RelV y u):
  KT H (bj kvs k y) (storedH xs k b u):=by
 have e:(kvs.any λkv=>decide (kv.1=k))=(atKey xs k).isSome:=by
  rw[cn,(r.val k).isSome_eq,Xu]
 unfold bj storedH
 rw[e]
 by_cases q:(atKey xs k).isSome=true
 ·rw[if_pos q,if_pos q];exact r.repl k ry
 ·rw[if_neg q,if_neg q];exact Paired.snoc r ⟨rfl,hb,ry⟩
theorem KT.keeps {H H':Hp} {kvs:List (List Key×V)} {xs:List (List Key×Addr×Value)} (r:KT H kvs xs) (ht:∀b ys,H b=some (.tup ys)→H' b=some (.tup ys)):KT H' kvs xs:=
 Paired.mapP r λ_ _ z=>⟨z.1,ht _ _ z.2.1,z.2.2⟩
section
variable {P:Program} {w:World} {H:Hp} {h:Heap} {a:Addr}
theorem Dz {u:HO} (ok:HOk P w H h) (e:Rd H a u):ObjOk P w H h a u:=e.ok ok
theorem oA {kvs:List (Key×V)} (ok:HOk P w H h) (e:Rd H a (.dK kvs)):kvs.length≤sizeLine∧(a==sysModules)=false∧∃vs,KV kvs vs∧h.DictOf (a9 P w) a vs:=
 show ObjOk P w H h a (.dK kvs) from Dz ok e
theorem oB {kvs:List (Key×V)} (ok:HOk P w H h) (e:H a=some (.dK kvs)):kvs.length≤sizeLine∧(a==sysModules)=false∧∃vs,KV kvs vs∧h.DictOf (a9 P w) a vs:=oA ok (.inl e)
theorem qI {ks:List Key} (ok:HOk P w H h) (e:H a=some (.tup (ks.map kV))):(tupleKind (a9 P w)).is h ks a:=by
 obtain⟨_,its,r,o,h1,h2,n,h3⟩:=(show ObjOk P w H h a (.tup (ks.map kV)) from ok a _ e)
 exact⟨o,its.toArray,n,h1,h2,h3,by simpa using tF r⟩
theorem wc {kvs:List (List Key×V)} (ok:HOk P w H h) (e:Rd H a (.dT kvs)):kvs.length≤sizeLine∧(a==sysModules)=false∧
  ∃xs,KT H kvs xs∧h.DictOfH (tupleKind (a9 P w)) a xs:=by
 obtain⟨z,y,xs,r,o,es,ep,h1,h2,h3,h4,h5⟩:=(show ObjOk P w H h a (.dT kvs) from Dz ok e)
 refine⟨z,y,xs,r,o,es,ep,h1,h2,h3,h4,λx hx=>?_,h5⟩
 have all:∀{l:List (List Key×V)} {m:List (List Key×Addr×Value)},KT H l m→∀x∈m,(tupleKind (a9 P w)).is h x.1 x.2.1:=by
  intro l m q
  induction q with
  |nil=>intro x hx;exact nomatch hx
  | @cons p q ps qs hq t ih=>
   intro x hx
   rcases Qm.mp hx with e|hx
   ·subst e
    exact qI ok (by rw[←hq.1];exact hq.2.1)
   ·exact ih x hx
 exact all r x hx
theorem FN {kvs:List (List Key×V)} (ok:HOk P w H h) (e:H a=some (.dT kvs)):kvs.length≤sizeLine∧(a==sysModules)=false∧
  ∃xs,KT H kvs xs∧h.DictOfH (tupleKind (a9 P w)) a xs:=wc ok (.inl e)
end
def DGet (H:Hp) (a:Addr) (y:V) (r:Option V):Prop:=
 (∃kvs k,Rd H a (.dK kvs)∧y=kV k∧r=aL kvs k)∨∃kvs k b,Rd H a (.dT kvs)∧y= .ref b∧H b=some (.tup (k.map kV))∧r=aL kvs k
def DPut (H:Hp) (a:Addr) (y v:V) (H':Hp):Prop:=
 (∃kvs k,H a=some (.dK kvs)∧y=kV k∧kvs.length<sizeLine∧H'=upd H a (.dK (bj kvs k v)))∨
 ∃kvs k b,H a=some (.dT kvs)∧y= .ref b∧H b=some (.tup (k.map kV))∧kvs.length<sizeLine∧H'=upd H a (.dT (bj kvs k v))
theorem DGet.k {H:Hp} {a:Addr} {kvs:List (Key×V)} {k:Key} (e:H a=some (.dK kvs)):DGet H a (kV k) (aL kvs k):= .inl ⟨kvs,k,.inl e,rfl,rfl⟩
theorem DPut.k {H:Hp} {a:Addr} {kvs:List (Key×V)} {k:Key} {v:V} (e:H a=some (.dK kvs)) (hl:kvs.length<sizeLine):DPut H a (kV k) v (upd H a (.dK (bj kvs k v))):= .inl ⟨kvs,k,e,rfl,hl,rfl⟩
section
variable {X:Cx} {pins:List (Addr×Obj)} {σ:St} {H:Hp} {s:Shared} {a:Addr} {y v:V} {u r:Value} {o:Option V} {A:Around} {E:Value→Shared→Prop}
theorem Inv.big (I:Inv X pins σ H s):sysModules<s.heap.objs.size:=by
 have h:mainGlobals<s.heap.objs.size:=(I.mod.glob.keeps I.bk).lt
 exact Nat.lt_trans (by decide) h
theorem zy {Q:Value→Shared→Prop} (hu:A.units+1<cLine) (I:Inv X pins σ H s) (g:DGet H a y (some v)) (ry:RelV y u) (h:∀w' s',Inv X pins σ H s'→RelV v w'→Q w' s'):
  wpAny (model X.prog X.w) A (getItem (.ref a) u) Q E s:=by
 rcases g with⟨kvs,k,e,ey,l⟩|⟨kvs,k,b,e,ey,eb,l⟩
 ·subst ey
  obtain⟨z,hd,vs,rel,dd⟩:=oA I.hok e
  obtain⟨w',hw,rw'⟩:=RelO.some_of (v:=v) (o:=valueAt vs k) (by rw[l];exact rel.val k)
  exact wpAny_getItem_of (oy ry) dd.mapOf hw (h w' _ (I.tok _) rw')
 ·subst ey
  cases (show u=Value.ref b from ry)
  obtain⟨z,hd,xs,rel,dd⟩:=wc I.hok e
  obtain⟨w',hw,rw'⟩:=RelO.some_of (v:=v) (o:=(atKey xs k).map (·.2)) (by rw[l];exact rel.val k)
  obtain⟨p,hp,hp2⟩:=Option.map_eq_some_iff.mp hw
  refine wpAny_getItem_heap (tupleKind_room_in1 hu) (qI I.hok eb) dd hp ?_
  rw[hp2]
  exact h w' _ (I.tok _) rw'
theorem d_in {Q:Value→Shared→Prop} (hu:A.units+1<cLine) (I:Inv X pins σ H s) (g:DGet H a y o) (ry:RelV y u) (h:∀s',Inv X pins σ H s'→Q (.bool o.isSome) s'):
  wpAny (model X.prog X.w) A (compareOp .In u (.ref a)) Q E s:=by
 rcases g with⟨kvs,k,e,ey,l⟩|⟨kvs,k,b,e,ey,eb,l⟩
 ·subst ey
  obtain⟨z,hd,vs,rel,dd⟩:=oA I.hok e
  refine wpAny_in_of (oy ry) hd dd.mapOf ?_
  rw[←(rel.val k).isSome_eq,←l]
  exact h _ (I.tok _)
 ·subst ey
  cases (show u=Value.ref b from ry)
  obtain⟨z,hd,xs,rel,dd⟩:=wc I.hok e
  refine wpAny_in_heap (tupleKind_room_in1 hu) (qI I.hok eb) hd dd ?_
  have q:=(rel.val k).isSome_eq
  rw[Xu]at q
  rw[←q,←l]
  exact h _ (I.tok _)
theorem C6 {Q:Value→Shared→Prop} (hu:A.units+1<cLine) (I:Inv X pins σ H s) (g:DGet H a y o) (ry:RelV y u) (h:∀s',Inv X pins σ H s'→Q (.bool (!o.isSome)) s'):
  wpAny (model X.prog X.w) A (compareOp .NotIn u (.ref a)) Q E s:=by
 rcases g with⟨kvs,k,e,ey,l⟩|⟨kvs,k,b,e,ey,eb,l⟩
 ·subst ey
  obtain⟨z,hd,vs,rel,dd⟩:=oA I.hok e
  refine wpAny_notIn_of (oy ry) hd dd.mapOf ?_
  rw[←(rel.val k).isSome_eq,←l]
  exact h _ (I.tok _)
 ·subst ey
  cases (show u=Value.ref b from ry)
  obtain⟨z,hd,xs,rel,dd⟩:=wc I.hok e
  refine wpAny_notIn_heap (tupleKind_room_in1 hu) (qI I.hok eb) hd dd ?_
  have q:=(rel.val k).isSome_eq
  rw[Xu]at q
  rw[←q,←l]
  exact h _ (I.tok _)
theorem pA {h':Heap} {t':Nat} {ob:HO} (I:Inv X pins σ H s) (mu:Mut (H a)) (hs:Heap.SameBut a s.heap h') (he:∃q,h'.get? a=some q) (new:ObjOk X.prog X.w (upd H a ob) h' a ob):
  Inv X pins σ (upd H a ob) {s with heap:=h',toks:=t'}:=
 I.write (x:=a) (e:=a) mu (.inl rfl) (λb q hb z=>(hs.2 b hb).trans z) he new
theorem xB {P:Program} {w:World} {H':Hp} {h':Heap} {kvs:List (Key×V)} {vs:List (Key×Value)} (z:kvs.length≤sizeLine) (hd:(a==sysModules)=false) (rel:KV kvs vs) (dd:h'.DictOf (a9 P w) a vs):
  ObjOk P w H' h' a (.dK kvs):=⟨z,hd,vs,rel,dd⟩
theorem zx {H':Hp} {Q:Unit→Shared→Prop} (hu:A.units+1<cLine) (I:Inv X pins σ H s) (g:DPut H a y v H') (ry:RelV y u) (rv:RelV v r) (h:∀s',Inv X pins σ H' s'→Q () s'):
  wpAny (model X.prog X.w) A (setItem (.ref a) u r) Q E s:=by
 rcases g with⟨kvs,k,e,ey,l,eH⟩|⟨kvs,k,b,e,ey,eb,l,eH⟩
 ·subst ey eH
  obtain⟨z,hd,vs,rel,dd⟩:=oB I.hok e
  have hz:vs.length≤sizeLine:=by rw[←rel.length];exact z
  have hl:(bj kvs k v).length≤sizeLine:=by have:=bX kvs k v;omega
  refine wpAny_setItem_pairs (hsz:=hz) (oy ry) dd λh' dd' hs=>h _ ?_
  have he:∃q,h'.get? a=some q:=let⟨q,_,_,hq,_⟩:=dd';⟨q,hq⟩
  exact pA I (by rw[e];exact True.intro) hs he (xB hl hd (rel.put k rv) dd')
 ·subst ey eH
  cases (show u=Value.ref b from ry)
  obtain⟨z,hd,xs,rel,dd⟩:=FN I.hok e
  have hz:xs.length≤sizeLine:=by rw[←Paired.length rel];exact z
  have hl:(bj kvs k v).length≤sizeLine:=by have:=bX kvs k v;omega
  refine wpAny_setItem_heap (hsz:=hz) (tupleKind_room_in1 hu) (qI I.hok eb) dd λh' dd' hs=>h _ ?_
  obtain⟨q,es,ep,hq,h2,h3,h4,_,h5⟩:=dd'
  refine pA I (by rw[e];exact True.intro) hs ⟨q,hq⟩ ⟨hl,hd,_,(rel.put k eb rv).keeps λc ys ec=>?_,q,es,ep,hq,h2,h3,h4,h5⟩
  rw[ae (bZ ec e (λz=>nomatch z))]
  exact ec
end
section
variable {X:Cx} {pins:List (Addr×Obj)} {σ:St} {H:Hp} {s:Shared} {a:Addr} {kvs:List (Key×V)} {k:Key} {u:Value} {A:Around} {E:Value→Shared→Prop}
theorem FO {v:V} {more:List Value} {Q:Value→Shared→Prop} (I:Inv X pins σ H s) (e:H a=some (.dK kvs)) (ry:RelV (kV k) u) (l:aL kvs k=some v) (hm:more=[]∨∃x,more=[x])
  (h:∀w' s',Inv X pins σ (upd H a (.dK (bK kvs k))) s'→RelV v w'→Q w' s'):wpAny (model X.prog X.w) A (call (.builtin "dict.pop") (.ref a::u::more)) Q E s:=by
 obtain⟨z,hd,vs,rel,dd⟩:=oB I.hok e
 obtain⟨w',hw,rw'⟩:=RelO.some_of (v:=v) (o:=valueAt vs k) (by rw[←l];exact rel.val k)
 have hp:(keyPart u).isSome=true:=by
  cases k with
  |inl i=>obtain⟨t,q⟩:=(show ∃t,u=Value.int i t from ry);subst q;rfl
  |inr x=>obtain⟨t,q⟩:=(show ∃t,u=Value.str x t from ry);subst q;rfl
 have ha:argsOk "dict.pop" ⟨.ref a::u::more,[]⟩:=by
  rcases hm with q|⟨x,q⟩
  ·subst q;exact PySem.F.args_dict_pop_2 _ _
  ·subst q;exact PySem.F.args_dict_pop_3 _ _ _
 refine call_meetsIn Xe dd.typeIs PySem.F.entry_dict_pop ha (meets_dict_pop_there (a9 X.prog X.w) a (oy ry) more hm hp)
  ⟨vs,w',dd,by rw[←rel.length];exact z,hw,λh' dd' hs=>h w' _ ?_ rw'⟩
 have he:∃q,h'.get? a=some q:=let⟨q,_,_,hq,_⟩:=dd';⟨q,hq⟩
 exact pA I (by rw[e];exact True.intro) hs he (xB (QK (Bi kvs k) z) hd (rel.drop k) dd')
theorem FP {Q:Value→Shared→Prop} (I:Inv X pins σ H s) (e:Rd H a (.dK kvs)) (h:∀t s',Inv X pins σ H s'→Q (.int kvs.length t) s'):wpAny (model X.prog X.w) A (call (.builtin "len") [.ref a]) Q E s:=by
 obtain⟨z,hd,vs,rel,dd⟩:=oA I.hok e
 refine call_len_dict hd dd (by rw[←rel.length];rw[sizeLine_eq]at z;omega) ?_
 rw[←rel.length]
 exact h _ _ (I.tok _)
end
def NoSl (i:Expr):Prop:=∀ov iv,subscripted i false ov iv=operate [ov,iv] (getItem ov iv)
theorem Cj {prog:Program} {w:World} {A:Around} {E:Value→Shared→Prop} {s:Shared} {env:Env} {value slice:Expr} {pos:Pos} {T id:String} {Q:Value→Shared→Prop}
  (hl:typeLookup (.type T) "__getitem__"=pure (some (.builtin id))) (hs:NoSl slice)
  (h:wpAny (model prog w) A (eval value env) (λo s₁=>wpAny (model prog w) A (eval slice env) (λi s₂=>s₂.TypeIs o T∧wpAny (model prog w) A (getItem o i) Q E s₂) E s₁) E s):
  wpAny (model prog w) A (eval (.Subscript value slice pos) env) Q E s:=by
 refine Subscript_ (wpAny_mono h (λo s₁ h₁=>wpAny_mono h₁ (λi s₂ h₂=>?_) λ_ _ x=>x) λ_ _ x=>x)
 obtain⟨hT,h₂⟩:=h₂
 unfold subscriptTail
 refine wpAny_bind ?_
 rw[getitemInPython_of_ne hT.not_modules]
 refine wpAny_bind (wpAny_specialOf hT hl ?_)
 have fin:wpAny (model prog w) A (subscripted slice false o i) (λr s₃=>wpAny (model prog w) A (letTemporaryGo value o r>>=λ_=>pure r) Q E s₃) E s₂:=by
  rw[hs o i]
  exact wpAny_operating (wpAny_mono h₂ (λr s₃ h₃=>wpAny_bind (wpAny_letTemporaryGo (wpAny_pure h₃))) λ_ _ x=>x)
 first
  |exact wpAny_pure (wpAny_bind fin)
  |exact wpAny_bind (wpAny_pure (wpAny_bind fin))
  |exact wpAny_bind fin
theorem wk {X:Cx} {pins:List (Addr×Obj)} {σ:St} {H:Hp} {s:Shared} {a:Addr} {y:V} {o:Option V} (I:Inv X pins σ H s) (g:DGet H a y o):s.TypeIs (.ref a) "dict":=by
 rcases g with⟨kvs,k,e,_,_⟩|⟨kvs,k,b,e,_,_,_⟩
 ·obtain⟨_,_,vs,_,dd⟩:=oA I.hok e
  exact dd.typeIs
 ·obtain⟨_,_,xs,_,dd⟩:=wc I.hok e
  exact dd.typeIs
def Fk (td ty:TE):TE:=λσ H Q=>td σ H λx H1=>ty σ H1 λy H2=>∃a v,x= .ref a∧DGet H2 a y (some v)∧Q v H2
def tDIn (ty td:TE):TE:=λσ H Q=>ty σ H λy H1=>td σ H1 λx H2=>∃a o,x= .ref a∧DGet H2 a y o∧Q (.bl o.isSome) H2
def Ch (ty td:TE):TE:=λσ H Q=>ty σ H λy H1=>td σ H1 λx H2=>∃a o,x= .ref a∧DGet H2 a y o∧Q (.bl (!o.isSome)) H2
def Fq (td ty tv:TE):TS:=λD σ H=>tv σ H λv H1=>td σ H1 λx H2=>ty σ H2 λy H3=>∃a H4,x= .ref a∧DPut H3 a y v H4∧D.nx σ H4
section
variable {X:Cx} {o i e value:Expr} {pos pos' tpos:Pos} {td ty tv:TE}
theorem xZ (hu:X.A.units+1<cLine) (ho:PE X o td) (hi:PE X i ty) (hs:NoSl i):PE X (.Subscript o i pos) (Fk td ty):=by
 intro pins s σ H Q I h
 refine Cj PySem.F.slot_dict_getitem.lookup hs (thn (ho pins s σ H _ I h) λu s1 ⟨x,H1,I1,rx,q1⟩=>thn (hi pins s1 σ H1 _ I1 q1) λiv s2 hzz=>?_)
 obtain⟨y,H2,I2,ry,a,v,ex,g,q2⟩:=hzz
 subst ex
 obtain rfl:u=Value.ref a:=rx
 exact⟨wk I2 g,zy hu I2 g ry λw' s3 I3 rw'=>⟨v,H2,I3,rw',q2⟩⟩
theorem Ao (hu:X.A.units+1<cLine) (hi:PE X i ty) (ho:PE X o td):PC X .In i o (tDIn ty td):=by
 intro pins s σ H Q I h
 refine thn (hi pins s σ H _ I h) λiv s1 ⟨y,H1,I1,ry,q1⟩=>thn (ho pins s1 σ H1 _ I1 q1) λu s2 hzz=>?_
 obtain⟨x,H2,I2,rx,a,ov,ex,g,q2⟩:=hzz
 subst ex
 obtain rfl:u=Value.ref a:=rx
 exact d_in hu I2 g ry λs3 I3=>⟨.bl ov.isSome,H2,I3,rfl,q2⟩
theorem sX (hu:X.A.units+1<cLine) (hi:PE X i ty) (ho:PE X o td):PC X .NotIn i o (Ch ty td):=by
 intro pins s σ H Q I h
 refine thn (hi pins s σ H _ I h) λiv s1 ⟨y,H1,I1,ry,q1⟩=>thn (ho pins s1 σ H1 _ I1 q1) λu s2 hzz=>?_
 obtain⟨x,H2,I2,rx,a,ov,ex,g,q2⟩:=hzz
 subst ex
 obtain rfl:u=Value.ref a:=rx
 exact C6 hu I2 g ry λs3 I3=>⟨.bl (!ov.isSome),H2,I3,rfl,q2⟩
theorem pf (hu:X.A.units+1<cLine) (ho:PE X o td) (hi:PE X i ty) (hv:PE X value tv) (hs:swapsWith value (some (.Subscript o i pos')) pos.line X.env=pure false):
  PS X (.Assign [.Subscript o i pos'] value pos) (Fq td ty tv):=by
 intro pins s σ H D I h
 refine wpAny_Assign_Subscript (thn (hv pins s σ H _ I h) λr s1 ⟨v,H1,I1,rv,q1⟩=>thn (ho pins s1 σ H1 _ I1 q1) λu s2 ⟨x,H2,I2,rx,q2⟩=>thn (hi pins s2 σ H2 _ I2 q2) λiv s3 hzz=>?_) hs
 obtain⟨y,H3,I3,ry,a,H4,ex,g,q3⟩:=hzz
 subst ex
 obtain rfl:u=Value.ref a:=rx
 exact zx hu I3 g ry rv λs4 I4=>⟨σ,H4,I4,q3⟩
end
theorem wj {P:Program} {w:World} {H:Hp} (h:Heap) (hb:sysModules<h.objs.size):ObjOk P w H (h.push {cls:= .type "dict",data:= .dict #[]}) h.objs.size (.dK []):=
 ⟨Qf _,beq_eq_false_iff_ne.mpr (Ne.symm (QE hb)),[],.nil,Heap.DictOf.new h⟩
def Ea:TE:=λ_ H Q=>∀p,H p=none→Q (.ref p) (upd H p (.dK []))
section
variable {X:Cx} {pos:Pos}
theorem g9:PE X (.Dict [] [] pos) Ea:=λpins s σ H Q I h=>
 wpAny_Dict_empty ⟨.ref s.heap.objs.size,_,I.laid (a:=s.heap.objs.size) (o:= .dK []) (t':=s.toks) (λ_ _ q=>Heap.get?_push_of_some _ q) (Q5 _) (wj s.heap I.big),rfl,h _ (I.hok.fresh (Q5 _))⟩
end
end L2
namespace Att
open PySem PySem.W PySem.Calls PyProof.Rows
theorem o7 {P:Params} {h:Heap}:∀(ns:List Int) (vs:List Value),WellAll P h vs (ns.map WData.int)→IntsAre vs ns:=by
 intro ns
 induction ns with
 |nil=>
  intro vs w
  rw[List.map_nil]at w
  cases w
  exact .nil
 |cons n ns ih=>
  intro vs w
  rw[Qs]at w
  cases w with
  |cons a b=>
   cases a
   exact .cons _ _ (ih _ b)
theorem yT {l:OpenLaw} {n:Nat} (hn:l.most=some n) {P:Params} {h:Heap} {args:List WData} {vals:List Value}
  (hpre:l.row.toRowW.claim.pre args=true) (hwl:WellAll P h vals args):
  ∃a vs ns,vals=[Value.ref a]∧args=[WData.list (ns.map WData.int)]∧h.get? a=some {cls:= .type "list",data:= .seq vs.toArray}∧IntsAre vs ns∧ns.length≤n:=by
 have hsh:WShape.hasAll [] args [.list .int]=true:=(pre_splitW hpre).1
 have hc:l.pre.holds [] {args:=args}=true:=(pre_splitW hpre).2
 obtain⟨d,r,rfl,h1,h2⟩:=hasAllW_cons hsh
 obtain rfl:=hasAllW_nil h2
 obtain⟨xs,rfl,h3⟩:=hasW_list h1
 obtain⟨ns,rfl⟩:=items_int h3
 have hlen:ns.length≤n:=by
  unfold OpenLaw.pre at hc
  have h4:(WTm.not (.lt (.lit (.int (n:Int))) (.len (.arg 0)))).holds [] {args:=[.list (ns.map .int)]}=true:=by
   have h4:=(holds_andW hc).1
   rw[hn]at h4
   exact h4
  have h5:=condW_of h4 (w_not (w_lt w_lit (w_len_list (w_arg rfl))))
  rw[Q0]at h5
  refine Nat.le_of_not_lt λq=>?_
  have q':(n:Int)<((ns.length:Nat):Int):=by omega
  first
   |(rw[decide_eq_true q']at h5;exact absurd h5 (by decide))
   |(simp at h5;omega)
 cases hwl with
 |cons w1 w2=>
  cases w2
  cases w1 with
  |list ho hall=>exact⟨_,_,ns,rfl,rfl,ho,o7 ns _ hall,hlen⟩
theorem yW (l:OpenLaw) (args:List WData):l.row.toRowW.claim.post args (.bool true) args=true:=
 postW_of (r:=l.row.toRowW) (X:=(true==true))
  (show WShape.has [] (.bool true) .bool=true by first|rfl|decide|simp[WShape.has,WShape.arms,WShape.armsAll])
  (show(WTm.eq .res (.lit (.bool true))).value [] {args:=args,res:=some (.bool true),after:=args}=some (.bool (true==true)) from w_eq_bool (w_res rfl) w_lit) rfl
theorem attach_call {l:OpenLaw} {n:Nat} {q:Program} {loose:List Str} {XP:(Str→Option Value)→Heap→Prop} {YP:World→Heap→Prop} {d:DefRec}
  (hn:l.most=some n) (hdf:d.params.defaults=[])
  (call:∀(w:World) (s₀ s₁:Shared) (mg mb:Str→Option Value) (fa:Addr) (o:Obj) (pm cd doc:Value) (a:Addr) (vs:List Value) (ns:List Int),
   Ground q loose [] XP w s₀ mg mb s₁.heap→YP w s₁.heap→
   s₁.heap.get? fa=some o→o.data= .func (docDef d.name d.params d.body d.scope pm cd doc)→s₁.heap.CodeRec cd d.name→mg d.name=some (.ref fa)→
   s₁.heap.get? a=some {cls:= .type "list",data:= .seq vs.toArray}→IntsAre vs ns→ns.length≤n→s₁.gens= #[]→
   codeAny (model l.prog w) callerA (.call (.ref fa) ⟨[.ref a],[]⟩) (λr s'=>r= .ok (.ret (.bool true))∧OldK s₁.heap s'.heap∧s'.os=s₁.os∧AllBare s'.gens) s₁):
  WalkO q loose XP YP l.row.toRowW d [] (λf vs=>PySem.call f vs):=by
 intro w s₀ s₁ mg mb G Y fa o pm cd doc dV kV ho hd hcd hD hmg hg args vals as hpre hlay hrd hwl hlo
 obtain rfl:dV= .none:=Dflts.none hD hdf
 obtain rfl:kV= .none:=Dflts.noKw hD
 obtain⟨a,vs,ns,rfl,rfl,hobj,hints,hlen⟩:=yT hn hpre hwl
 refine enter_call (codeAny_mono (call w s₀ s₁ mg mb fa o pm cd doc a vs ns G Y ho (fd_plain hd) hcd hmg hobj hints hlen hg) λr s' hq=>?_)
 obtain⟨rfl,h2,h3,h4⟩:=hq
 exact⟨.inl ⟨.bool true,.bool true,[],rfl,λ_=>rfl,.bool true,yW l _,λ_=>⟨List.Pairwise.nil,λ_ hm=>(nomatch hm)⟩⟩,h2,h3,h4⟩
end Att
namespace L2
open PySem PySem.Spec PyProof.Rows
theorem sL:∀{vs:List Value} {ns:List Int},IntsAre vs ns→Vals (ns.map V.int) vs
 |_,_,.nil=> .nil
 |_,_,.cons n t h=> .cons ⟨t,rfl⟩ (sL h)
def E6 (H:Hp):Prop:=∀b,H b=none∨∃o xs,H b=some (.frz o (.lst xs))
theorem AM {P:Program} {w:World} {K:PySem.W.Frag} {mg mb:Str→Option Value} {CX:CXT} {k:Nat} {fa a:Addr} {fd:FuncData} {x:Str} {sp:Sp} {s₁:Shared} {vs:List Value} {ns:List Int}
  (KX:K.In s₁.heap) (hns:s₁.heap.Ns mainGlobals mg) (hb:s₁.heap.Ns builtinsNs mb) (hbb:∀x:Str,x≠"__name__"→mb x=bootBuiltins x) (hlim:s₁.heap.NoLimit) (hg:s₁.gens= #[])
  (ha:s₁.heap.get? a=some {cls:= .type "list",data:= .seq vs.toArray}) (hi:IntsAre vs ns) (hl:ns.length≤sizeLine) (hr:Room k callerA)
  (F:∀base:Heap,K.In base→base.Ns mainGlobals mg→FnOk P w K mg base CX k fa fd [x] sp) (hbind:∀(s:Shared) (u:Value),BindsTo s fd ⟨[u],[]⟩ [(x,u)])
  (hsp:∀H:Hp,E6 H→SqL K H a (ns.map V.int)→sp [.ref a] H (λv _=>v= .bl true) λ_ _ _=>False)
  (hCX:∀H e s',CX [] H s₁ (λ_ _ _=>False) e s'→False):
  codeAny (model P w) callerA (.call (.ref fa) ⟨[.ref a],[]⟩) (λr s'=>r= .ok (.ret (.bool true))∧OldK s₁.heap s'.heap∧s'.os=s₁.os∧AllBare s'.gens) s₁:=by
 have rv:=sL hi
 have lenV:=hi.length
 have core:∀H:Hp,E6 H→SqL K H a (ns.map V.int)→HOk P w H s₁.heap→(∀b,H b≠none→b=a)→(H a≠none→K.lookup a=none)→
   codeAny (model P w) callerA (.call (.ref fa) ⟨[.ref a],[]⟩) (λr s'=>r= .ok (.ret (.bool true))∧OldK s₁.heap s'.heap∧s'.os=s₁.os∧AllBare s'.gens) s₁:=by
  intro H hO hS hok hA hK
  have base_of:∀{b:Addr} {o:Obj},s₁.heap.get? b=some o→H b=none→(uN s₁.heap H).get? b=some o:=λe n=>AU e n
  have noA:∀{b:Addr} {o:Obj} {es:Array DictEntry} {ep:Nat},s₁.heap.get? b=some o→o.data= .dict es ep→H b=none:=λ{b o es ep} e d=>by
   cases q:H b with
   |none=>rfl
   |some u=>
    have e':b=a:=hA b (by rw[q];simp)
    subst e'
    rw[ha]at e;cases e
    have d':Data.seq vs.toArray _=Data.dict es ep:=d
    cases d'
  have nsK:∀{b:Addr} {m:Str→Option Value},s₁.heap.Ns b m→(uN s₁.heap H).Ns b m:=λ{b m} ⟨o,es,ep,e,d,r⟩=>⟨o,es,ep,base_of e (noA e d),d,r⟩
  have hKb:K.In (uN s₁.heap H):=λb o e=>base_of (KX b o e) (by
   cases q:H b with
   |none=>rfl
   |some u=>
    have e':b=a:=hA b (by rw[q];simp)
    subst e'
    rw[hK (by rw[q];simp)]at e;cases e)
  have hM:Mod K mg (uN s₁.heap H):=⟨hKb,nsK hns,⟨mb,nsK hb,hbb⟩,let⟨mc,h1,h2⟩:=hlim;⟨mc,nsK h1,h2⟩⟩
  have e0:Env0 P w K mg (uN s₁.heap H) callerA [] s₁ H:=⟨rfl,hM,λb o e=>CF e,Zk (zn _ _),trivial,λb hb=>absurd (show b∈([]:List Addr) from hb) (by simp),hok,.of_eq hg⟩
  refine codeAny_mono ((F _ hKb (nsK hns)).run callerA [] s₁ H ⟨[.ref a],[]⟩ [.ref a] [.ref a] _ _ hr e0 (hbind s₁ (.ref a)) (.cons rfl .nil) (hsp H hO hS)) λr s' h=>?_
  cases r with
  |error e=>exact(hCX H e s' h).elim
  |ok fl=>
   cases fl with
   |next=>exact False.elim h
   |brk=>exact False.elim h
   |cont=>exact False.elim h
   |ret u=>
    obtain⟨v,H',os,bare,un,hok',r',q⟩:=h
    have q':v= .bl true:=q
    subst q'
    obtain rfl:u=Value.bool true:=r'
    refine⟨rfl,OldK.of_keep λb o e=>?_,os,bare⟩
    cases q:H b with
    |none=>exact un.keep b o e q (by intro z;exact absurd (show b∈([]:List Addr) from z) (by simp)) (by simp)
    |some u=>
     rcases hO b with z|⟨ob,xs,z⟩
     ·rw[q]at z;cases z
     ·have z2:=un.frzs b ob _ z
      obtain⟨e1,_⟩:=hok b _ z
      obtain⟨e2,_⟩:=hok' b _ z2
      rw[e]at e1;cases e1
      exact e2
 cases hk:K.lookup a with
 |some o=>
  have e:=KX a o hk
  rw[ha]at e
  cases e
  refine core (λ_=>none) (λ_=> .inl rfl) (.inr ⟨_,vs.toArray,_,hk,rfl,rfl,rfl,by rw[Qi,lenV];exact hl,by simpa using rv⟩) (λb u z=>by have z':(none:Option HO)=some u:=z;cases z') (λb z=>absurd rfl z) λz=>absurd rfl z
 |none=>
  refine core (λb=>if b=a then some (.frz {cls:= .type "list",data:= .seq vs.toArray} (.lst (ns.map V.int)))else none) (λb=>?_) (.inl (.inr ⟨{cls:= .type "list",data:= .seq vs.toArray},if_pos rfl⟩)) (λb u z=>?_) (λb z=>?_) λ_=>hk
  ·by_cases hb:b=a
   ·exact .inr ⟨_,_,if_pos hb⟩
   ·exact .inl (if_neg hb)
  ·by_cases hb:b=a
   ·have z':=(if_pos hb).symm.trans z
    cases z'
    subst hb
    exact⟨ha,by rw[Q0];exact hl,vs,_,rv,ha⟩
   ·have z':=(if_neg hb).symm.trans z
    cases z'
  ·by_cases hb:b=a
   ·exact hb
   ·exact absurd (if_neg hb) z
end L2
namespace L2
open PySem PySem.Spec PyProof.Rows
theorem walk_of {l:PySem.W.OpenLaw} {n k:Nat} {q:Program} {loose:List Str} {XP:(Str→Option Value)→Heap→Prop} {YP:World→Heap→Prop} {d:DefRec} {K:Params→PySem.W.Frag} {CX:World→CXT} {sp:World→Sp} {x:Str}
  (hn:l.most=some n) (hn2:n≤sizeLine) (hdf:d.params.defaults=[]) (hr:Room k callerA)
  (hY:∀(w:World) (h:Heap),YP w h→(K w.params).In h)
  (F:∀(w:World) (mg:Str→Option Value) (fa:Addr) (h:Heap),(K w.params).In h→h.Ns mainGlobals mg→mg d.name=some (.ref fa)→
   ∃fd:FuncData,(∀(s:Shared) (u:Value),BindsTo s fd ⟨[u],[]⟩ [(x,u)])∧
    ∀base:Heap,(K w.params).In base→base.Ns mainGlobals mg→FnOk l.prog w (K w.params) mg base (CX w) k fa fd [x] (sp w))
  (hsp:∀(w:World) (H:Hp) (a:Addr) (ns:List Int),ns.length≤n→E6 H→SqL (K w.params) H a (ns.map V.int)→sp w [.ref a] H (λv _=>v= .bl true) λ_ _ _=>False)
  (hCX:∀(w:World) (H:Hp) (s:Shared) (e:Value) (s':Shared),CX w [] H s (λ_ _ _=>False) e s'→False):
  PySem.W.WalkO q loose XP YP l.row.toRowW d [] (λf vs=>PySem.call f vs):=by
 refine Att.attach_call hn hdf λw s₀ s₁ mg mb fa o pm cd doc a vs ns G Y ho hd hcd hmg hobj hints hlen hg=>?_
 have KX:=hY w _ Y
 obtain⟨fd,hb,hF⟩:=F w mg fa _ KX G.T.g hmg
 exact AM KX G.T.g G.T.b G.T.builtins G.T.nolimit hg hobj hints (QK hlen hn2) hr hF hb (λH hO hS=>hsp w H a ns hlen hO hS) λH e s'=>hCX w H s₁ e s'
end L2
namespace L2
open PySem PySem.Spec PyProof.Rows
abbrev CX0:CXT:=λ_ _ _ _ _ _=>False
abbrev E0:XK:=λ_ _ _=>False
theorem aD {X:Cx}:i6 CX0 X E0:=λ_ _ _ _ _ _ _ h=>h.elim
structure Fun (K:PySem.W.Frag) (x qual:Str) (st:Stmt) (f:Addr) (fd:FuncData):Prop where
 ex:∃(oc:Value) (od:Option Addr) (kV doc pm:Value) (an:Option Addr) (cdv ct:Value) (osl:Array (Option Value)),
  fd=PySem.W.fnOf x qual (fc st) (dA st) (ak st) .none kV doc pm an cdv ct∧K.lookup f=some ⟨oc,od,.func fd,osl⟩∧PySem.W.codeIn K cdv qual=true
 kp:PySem.W.keepIn K (.ref f)=true
section
variable {P:Program} {w:World} {K:PySem.W.Frag} {mg:Str→Option Value} {base:Heap}
theorem Fun.ok {x qual:Str} {st:Stmt} {f:Addr} {fd:FuncData} {N ps:List Str} {k:Nat} {sp:Sp} (F:Fun K x qual st f fd) (S:ay N ps (ak st)) (len:∀vs H Q E,sp vs H Q E→vs.length=ps.length)
  (hbody:∀(cdv:Value) (A:Around) (outer:List Env) (s:Shared) (H:Hp) (vs:List V) (Q:VK) (E:XK),Room k (A.deeper (envOfC qual (ak st) s.heap.objs.size f cdv))→sp vs H Q E→
   ∃t,PSs (xC CX0 P w K mg base N qual (ak st) f cdv A outer s H E).nox (dA st) t∧t {nx:=λ_ H'=>Q .non H',rt:=Q} (start N vs) H):FnOk P w K mg base CX0 (k+1) f fd ps sp:=by
 obtain⟨oc,od,kV,doc,pm,an,cdv,ct,osl,rfl,lk,hcd⟩:=F.ex
 refine DL lk hcd S len λA outer s H vs Q E hr hsp=>?_
 obtain⟨t,h,q⟩:=hbody cdv A outer s H vs Q E hr hsp
 exact⟨t,h.nox,q⟩
theorem ER {x qual:Str} {st:Stmt} {f:Addr} {oc:Value} {od an:Option Addr} {osl:Array (Option Value)} {kV doc pm cdv ct:Value} (l:K.lookup f=some ⟨oc,od,.func (PySem.W.fnOf x qual (fc st) (dA st) (ak st) .none kV doc pm an cdv ct),osl⟩)
  (c:PySem.W.codeIn K cdv qual=true) (k:PySem.W.keepIn K (.ref f)=true):Fun K x qual st f (PySem.W.fnOf x qual (fc st) (dA st) (ak st) .none kV doc pm an cdv ct):=⟨⟨oc,od,kV,doc,pm,an,cdv,ct,osl,rfl,l,c⟩,k⟩
end
theorem kG {A:Around} {k:Nat} (hr:Room k A):A.units+1<cLine:=ZY (Nat.add_le_add_left (by decide:1≤64) _) hr.units
theorem b4 {n:Nat} (h:n≤1000):n<sizeLine:=ZY h (by decide)
section
variable {X:Cx}
theorem pv (i:Nat) {x:Str} {pos:Pos} (hN:X.N[i]?=some x:=by rfl) (hv:Vis X.env.scope x:=by first|exact Or.inl rfl|exact Or.inr (Or.inl rfl)|exact Or.inr (Or.inr rfl)) (hd:(x==("__debug__":Str))=false:=by decide)
  (hcd:(x==("__classdict__":Str))=false:=by decide):PE X (.Name x pos) (D7 i):=Em hN hv hd hcd
end
theorem cX {A B:Prop} (h:B):if false=true then A else B:=by
 rw[if_neg Qe]
 exact h
theorem cC {A B:Prop} (h:A):if true=true then A else B:=by
 rw[if_pos rfl]
 exact h
theorem bB {c A B:Prop} [Decidable c] (h1:c→A) (h2:¬c→B):if c then A else B:=by
 by_cases h:c
 ·rw[if_pos h]
  exact h1 h
 ·rw[if_neg h]
  exact h2 h
theorem AQ {c A B:Prop} [Decidable c] (hc:c) (h:B):if(!decide c)=true then A else B:=by
 rw[decide_eq_true hc]
 exact cX h
def Same (H H':Hp):Prop:=∀b o,H b=some o→H' b=some o
theorem Same.refl (H:Hp):Same H H:=λ_ _ h=>h
theorem Same.trans {H H1 H2:Hp} (a:Same H H1) (b:Same H1 H2):Same H H2:=λc o h=>b c o (a c o h)
end L2
namespace L2
open PySem PySem.Spec PyProof.Rows
section
variable {X:Cx}
theorem tR:gr X (.builtin "len") (λxs H Q=>∃a kvs,xs=[V.ref a]∧H a=some (.dK kvs)∧Q (.int kvs.length) H):=by
 intro pins s σ H xs us Q I r h
 obtain⟨a,kvs,rfl,ha,q⟩:=h
 obtain⟨u,rfl,ru⟩:=pF r
 cases ru
 exact FP I (.inl ha) λt s' I'=>⟨.int kvs.length,H,I',⟨t,rfl⟩,q⟩
end
section
variable {κ:Type} [DecidableEq κ]
theorem zT {kvs:List (κ×V)} {k:κ} (h:aL kvs k=none):¬k∈kvs.map (·.1):=by
 intro m
 obtain⟨p,hp,e⟩:=Qg.mp m
 have q:(kvs.any λkv=>decide (kv.1=k))=true:=List.any_eq_true.mpr ⟨p,hp,decide_eq_true e⟩
 rw[cn,h]at q
 exact absurd q (by simp)
theorem pc {kvs:List (κ×V)} {k:κ} {v:V} (h:aL kvs k=some v):k∈kvs.map (·.1):=by
 have q:(kvs.any λkv=>decide (kv.1=k))=true:=by
  rw[cn,h]
  all_goals rfl
 obtain⟨p,hp,e⟩:=List.any_eq_true.mp q
 exact Qg.mpr ⟨p,hp,of_decide_eq_true e⟩
theorem x9:∀{l:List κ} {k:κ},l.Nodup→¬k∈l→(l++ [k]).Nodup
 | [],k,_,_=>by simp
 |a::r,k,h,hk=>by
  obtain⟨h1,h2⟩:=QP.mp h
  show(a::(r++ [k])).Nodup
  refine QP.mpr ⟨λm=>?_,x9 h2 λm=>hk (Qm.mpr (Or.inr m))⟩
  rcases Q4.mp m with q|q
  ·exact h1 q
  ·exact hk (Qm.mpr (Or.inl (Qb.mp q).symm))
theorem CG {kvs:List (κ×V)} {k:κ} (v:V) (hn:(kvs.map (·.1)).Nodup) (h:aL kvs k=none):((bj kvs k v).map (·.1)).Nodup:=by
 rw[qi v h,Q9]
 exact x9 hn (zT h)
theorem nV {p:κ×V} {r:List (κ×V)} {k:κ} (e:p.1=k):bK (p::r) k=bK r k:=by
 unfold bK
 rw[ZO,if_neg (by simp[e])]
theorem kg {p:κ×V} {r:List (κ×V)} {k:κ} (e:¬p.1=k):bK (p::r) k=p::bK r k:=by
 unfold bK
 rw[ZO,if_pos (by simp[e])]
theorem wf:∀{kvs:List (κ×V)} {k:κ},¬k∈kvs.map (·.1)→bK kvs k=kvs
 | [],_,_=>rfl
 |p::r,k,h=>by
  have h':¬k∈r.map (·.1):=λm=>by
   obtain⟨q,hq,e⟩:=Qg.mp m
   exact h (Qg.mpr ⟨q,Qm.mpr (Or.inr hq),e⟩)
  rw[kg λe=>h (Qg.mpr ⟨p,Qm.mpr (Or.inl rfl),e⟩),wf h']
theorem tL {kvs:List (κ×V)} {k:κ} {p:κ×V} (h:p∈bK kvs k):p∈kvs:=(QB.mp h).1
theorem mt:∀{kvs:List (κ×V)} {k:κ},(kvs.map (·.1)).Nodup→((bK kvs k).map (·.1)).Nodup
 | [],_,_=>Zc
 |p::r,k,h=>by
  have h:(p.1::r.map (·.1)).Nodup:=h
  obtain⟨h1,h2⟩:=QP.mp h
  by_cases e:p.1=k
  ·rw[nV e]
   exact mt h2
  ·rw[kg e]
   show(p.1::(bK r k).map (·.1)).Nodup
   refine QP.mpr ⟨λm=>h1 ?_,mt h2⟩
   obtain⟨q,hq,eq⟩:=Qg.mp m
   exact Qg.mpr ⟨q,tL hq,eq⟩
theorem tM:∀{kvs:List (κ×V)} {k:κ},(kvs.map (·.1)).Nodup→k∈kvs.map (·.1)→(bK kvs k).length+1=kvs.length
 | [],_,_,m=>by simp at m
 |p::r,k,h,m=>by
  have h:(p.1::r.map (·.1)).Nodup:=h
  have m:k=p.1∨k∈r.map (·.1):=Qm.mp m
  obtain⟨h1,h2⟩:=QP.mp h
  by_cases e:p.1=k
  ·subst e
   rw[nV rfl,wf h1]
   all_goals rfl
  ·have m':k∈r.map (·.1):=m.resolve_left λz=>e z.symm
   have q:=tM h2 m'
   rw[kg e,Qp,Qp]
   omega
end
end L2
namespace L2
open PySem PySem.Spec PyProof.Rows
theorem aZ:bootBuiltins "len"=some (.builtin "len"):=by decide+kernel
theorem bh:bootBuiltins "isinstance"=some (.builtin "isinstance"):=by decide+kernel
theorem oe:bootBuiltins "min"=some (.builtin "min"):=by decide+kernel
theorem tS:bootBuiltins "sorted"=some (.builtin "sorted"):=by decide+kernel
theorem EV:bootBuiltins "int"=some (.type "int"):=by decide+kernel
theorem Da:bootBuiltins "bool"=some (.type "bool"):=by decide+kernel
theorem Bs:bootBuiltins "max"=some (.builtin "max"):=by decide+kernel
theorem C8:bootBuiltins "list"=some (.type "list"):=by decide+kernel
theorem C9:bootBuiltins "dict"=some (.type "dict"):=by decide+kernel
theorem EA {K:PySem.W.Frag}:PySem.W.kitOne K (.type "int") (.type "int")=some true:=by kernel_rfl
theorem EB {K:PySem.W.Frag}:PySem.W.kitOne K (.type "int") (.type "bool")=some false:=by kernel_rfl
theorem EC {K:PySem.W.Frag}:PySem.W.kitOne K (.type "bool") (.type "int")=some true:=by kernel_rfl
theorem ED {K:PySem.W.Frag}:PySem.W.kitOne K (.type "bool") (.type "bool")=some true:=by kernel_rfl
theorem Ez {K:PySem.W.Frag}:PySem.W.kitOne K (.type "NoneType") (.type "int")=some false:=by kernel_rfl
theorem Ey {K:PySem.W.Frag}:PySem.W.kitOne K (.type "str") (.type "int")=some false:=by kernel_rfl
theorem jf {c A B:Prop} [Decidable c] (hc:c) (h:A):if decide c=true then A else B:=by
 rw[decide_eq_true hc]
 exact cC h
theorem bg {c A B:Prop} [Decidable c] (hc:¬c) (h:B):if decide c=true then A else B:=by
 rw[decide_eq_false hc]
 exact cX h
theorem nT {K:PySem.W.Frag} {a:Addr} {xs:List V} {g:TG} {tb:TS} {nx:St→Hp→Prop} {rt:VK} {σ:St} {H:Hp} (Pv:Nat→St→Hp→Prop) (h0:Pv 0 σ H) (hl:∀i σ H,i≤xs.length→Pv i σ H→SqL K H a xs)
  (hs:∀i x σ H,xs[i]?=some x→Pv i σ H→g x σ H λσ2 H2=>tb ⟨Pv (i+1),rt,nx,Pv (i+1)⟩ σ2 H2) (hd:∀σ H,Pv xs.length σ H→nx σ H):
  ∃W:Nat→Nat→St→Hp→Prop,(∃m,W 0 m σ H)∧∀i m σ H,W i m σ H→
   ((Itl K a).stop i H∧nx σ H)∨((Itl K a).go i H∧∃N:St→Hp→Prop,(∀σ' H',N σ' H'→∃m',m'<m∧W (i+1) m' σ' H')∧∀x H',(Itl K a).yld i H x H'→g x σ H' λσ2 H2=>tb ⟨N,rt,nx,N⟩ σ2 H2):=
 Bc (D:=⟨nx,rt,λ_ _=>False,λ_ _=>False⟩) Pv h0 hl hs hd
theorem xz {lo:Int} {n:Nat} {g:TG} {tb:TS} {nx:St→Hp→Prop} {rt:VK} {σ:St} {H:Hp} (Pv:Nat→St→Hp→Prop) (h0:Pv 0 σ H)
  (hs:∀i σ H,i<n→Pv i σ H→g (.int (lo+i)) σ H λσ2 H2=>tb ⟨Pv (i+1),rt,nx,Pv (i+1)⟩ σ2 H2) (hd:∀σ H,Pv n σ H→nx σ H):
  ∃W:Nat→Nat→St→Hp→Prop,(∃m,W 0 m σ H)∧∀i m σ H,W i m σ H→
   ((Itr lo n).stop i H∧nx σ H)∨((Itr lo n).go i H∧∃N:St→Hp→Prop,(∀σ' H',N σ' H'→∃m',m'<m∧W (i+1) m' σ' H')∧∀x H',(Itr lo n).yld i H x H'→g x σ H' λσ2 H2=>tb ⟨N,rt,nx,N⟩ σ2 H2):=
 nS (D:=⟨nx,rt,λ_ _=>False,λ_ _=>False⟩) Pv h0 hs hd
theorem qT {ns:List Int} {k:Int} (h0:0≤k) (h:k<(ns.length:Int)):atI (ns.map V.int) k=some (.int (ns.getD k.toNat 0)):=by
 obtain⟨j,rfl⟩:=Z5 h0
 refine pC ?_
 have hj:j<ns.length:=by omega
 rw[QA,Q3 hj,QQ,Ql,Q3 hj]
 rfl
theorem Br {ns:List Int} {k:Int} (h:¬k<(ns.length:Int)):ns.getD k.toNat 0=0:=by
 rw[Ql,List.getElem?_eq_none (by omega)]
 rfl
section
variable {X:Cx}
theorem oC:gr X (.builtin "isinstance") (λxs H Q=>∃x n t b,xs=[x,.ty n]∧TyOf X.K H x t∧PySem.W.kitOne X.K t (.type n)=some b∧Q (.bl b) H):=by
 intro pins s σ H xs us Q I r h
 obtain⟨x,n,t,b,rfl,ty,e,q⟩:=h
 obtain⟨u,w',rfl,ru,rw'⟩:=pE r
 cases (show w'=Value.type n from rw')
 exact tG I ru ty e λtk=>⟨.bl b,H,I.tok _,rfl,q⟩
end
end L2
namespace SW
def rv:Nat→Nat→Nat
 |0,_=>0
 |k+1,n=>(n%2)*2^k+rv k (n/2)
theorem xU:∀(k n:Nat),rv k n<2^k
 |0,_=>by simp[rv]
 |k+1,n=>by
  have h:=xU k (n/2)
  have m:n%2<2:=Nat.mod_lt _ (by decide)
  have e:rv (k+1) n=(n%2)*2^k+rv k (n/2):=rfl
  have p:2^(k+1)=2*2^k:=by rw[ZJ,ZX]
  rw[e,p]
  rcases Nat.mod_two_eq_zero_or_one n with z|z<;>rw[z]<;>omega
theorem uw:∀(k n:Nat),rv (k+1) n=rv k n*2+(n/2^k)%2
 |0,n=>by simp[rv]
 |k+1,n=>by
  have h:=uw k (n/2)
  have e1:rv (k+2) n=(n%2)*2^(k+1)+rv (k+1) (n/2):=rfl
  have e2:rv (k+1) n=(n%2)*2^k+rv k (n/2):=rfl
  have d:n/2/2^k=n/2^(k+1):=by
   rw[X9,ZJ,ZX]
  rw[e1,e2,h,d,ZJ]
  rw[Nat.add_mul,Nat.mul_assoc]
  omega
theorem Ae:∀(k n:Nat),rv k (n%2^k)=rv k n
 |0,_=>rfl
 |k+1,n=>by
  have p:2^(k+1)=2*2^k:=by rw[ZJ,ZX]
  have e1:n%2^(k+1)%2=n%2:=by
   rw[p];exact Nat.mod_mul_right_mod n 2 (2^k)
  have e2:n%2^(k+1)/2=n/2%2^k:=by
   rw[p];exact Nat.mod_mul_right_div_self n 2 (2^k)
  show(n%2^(k+1)%2)*2^k+rv k (n%2^(k+1)/2)=(n%2)*2^k+rv k (n/2)
  rw[e1,e2,Ae k (n/2)]
theorem xT:∀k,rv k 0=0
 |0=>rfl
 |k+1=>by show(0%2)*2^k+rv k (0/2)=0;rw[Nat.zero_div,xT k];simp
theorem qe:∀(a b n:Nat),rv (a+b) n=rv a n*2^b+rv b (n/2^a)
 |0,b,n=>by simp[rv]
 |a+1,b,n=>by
  have h:=qe a b (n/2)
  have e:a+1+b=(a+b)+1:=by omega
  have d:n/2/2^a=n/2^(a+1):=by
   rw[X9,ZJ,ZX]
  rw[e]
  show(n%2)*2^(a+b)+rv (a+b) (n/2)=((n%2)*2^a+rv a (n/2))*2^b+_
  rw[h,d,Nat.add_mul,Nat.mul_assoc,←Nat.pow_add]
  omega
theorem Ad:∀(k n:Nat),rv k (rv k n)=n%2^k
 |0,n=>by simp[rv,Nat.mod_one]
 |k+1,n=>by
  have e:rv (k+1) n=rv k n*2+(n/2^k)%2:=uw k n
  have e1:(rv k n*2+(n/2^k)%2)%2=(n/2^k)%2:=by omega
  have e2:(rv k n*2+(n/2^k)%2)/2=rv k n:=by omega
  rw[e]
  show(rv k n*2+(n/2^k)%2)%2*2^k+rv k ((rv k n*2+(n/2^k)%2)/2)=n%2^(k+1)
  rw[e1,e2,Ad k n,ZJ,Nat.mod_mul,ZX (2^k)]
  omega
theorem Eg {a b n:Nat}:rv (a+b) n/2^b=rv a n:=by
 have l:=xU b (n/2^a)
 rw[qe a b n,ZX,Nat.mul_add_div (Nat.two_pow_pos b),Nat.div_eq_of_lt l,ZL]
theorem Cm {a b s:Nat} (h:s<2^a):rv (a+b) s=rv a s*2^b:=by
 rw[qe a b s,Nat.div_eq_of_lt h,xT,ZL]
@[irreducible] def tz (n:Int):Int:=((rv 16 n.toNat:Nat):Int)
@[irreducible] def rz (a:Nat) (n:Int):Int:=((rv a n.toNat:Nat):Int)
theorem m5 (n:Int):0≤tz n:=by unfold tz;exact Xq _
theorem Dr (n:Int):tz n<65536:=by
 have h:=xU 16 n.toNat
 have e:(2:Nat)^16=65536:=by decide
 unfold tz;omega
theorem xQ {n:Int} (h0:0≤n) (h1:n<65536):tz (tz n)=n:=by
 have h:=Ad 16 n.toNat
 have e:(2:Nat)^16=65536:=by decide
 unfold tz
 rw[QQ,h,e]
 omega
theorem D0 {n m:Int} (h0:0≤n) (h1:n<65536) (k0:0≤m) (k1:m<65536) (e:tz n=tz m):n=m:=by
 rw[←xQ h0 h1,←xQ k0 k1,e]
theorem sN (i:Nat) (m:Nat):((rv i m:Nat):Int)*2+((m/2^i:Nat):Int)%2=((rv (i+1) m:Nat):Int):=by
 rw[uw];omega
theorem sO (i:Nat) (m:Nat):((m/2^i:Nat):Int)/2=((m/2^(i+1):Nat):Int):=by
 have d:m/2^i/2=m/2^(i+1):=by rw[X9,ZJ]
 rw[←d];omega
theorem yU (a:Nat) (n:Int):0≤rz a n:=by unfold rz;exact Xq _
theorem Fu (a:Nat) (n:Int):rz a n<2^a:=by
 have h:=xU a n.toNat
 unfold rz
 have c:((rv a n.toNat:Nat):Int)<((2^a:Nat):Int):=by exact_mod_cast h
 simpa using c
theorem Ft (a:Nat) {n:Int} (h0:0≤n) (h1:n<2^a):rz a (rz a n)=n:=by
 obtain⟨m,rfl⟩:=Z5 h0
 have h:=Ad a m
 have h1':m<2^a:=by exact_mod_cast h1
 unfold rz
 rw[QQ,QQ,h,Nat.mod_eq_of_lt h1']
theorem Ce {a b:Nat} (hab:a+b=16) {s:Int} (h0:0≤s) (h1:s<2^a):tz s=rz a s*2^b:=by
 obtain⟨m,rfl⟩:=Z5 h0
 have h1':m<2^a:=by exact_mod_cast h1
 have h:=Cm (b:=b) h1'
 rw[hab]at h
 unfold tz rz
 rw[QQ,h]
 simp
theorem DZ {a b:Nat} (hab:a+b=16) {m:Int} (h0:0≤m):tz m/2^b=rz a (m%2^a):=by
 obtain⟨n,rfl⟩:=Z5 h0
 have h:=Eg (a:=a) (b:=b) (n:=n)
 rw[hab]at h
 have e:((n:Int)%2^a).toNat=n%2^a:=by
  have c:((n:Int)%2^a)=((n%2^a:Nat):Int):=by simp
  rw[c,QQ]
 unfold tz rz
 rw[QQ,e,Ae,←h]
 simp
structure Row (S:Int) (a b:Nat):Prop where
 ab:a+b=16
 lo:2≤a
 hi:a≤9
 eq:S=2^a
section
variable {S:Int} {a b:Nat} (R:Row S a b)
include R
theorem Row.mul:S*2^b=65536:=by
 rw[R.eq,←Int.pow_add,R.ab];decide
theorem Row.wpos:(0:Int)<2^b:=Int.pow_pos (by decide)
theorem Row.pos:0<S:=by rw[R.eq];exact Int.pow_pos (by decide)
theorem Row.width:65536/S=2^b:=by
 rw[←R.mul,Int.mul_ediv_cancel_left _ (QS R.pos)]
theorem Row.wpos':0<65536/S:=by rw[R.width];exact R.wpos
theorem Row.slot {s:Int} (h0:0≤s) (h1:s<S):tz s=2^b*rz a s∧0≤rz a s∧rz a s<S∧rz a (rz a s)=s:=by
 have h1':s<2^a:=by rw[←R.eq];exact h1
 refine⟨by rw[Ce R.ab h0 h1',Xa],yU _ _,by rw[R.eq];exact Fu _ _,Ft _ h0 h1'⟩
theorem Row.top {m:Int} (h0:0≤m):2^b*rz a (m%S)≤tz m∧tz m<2^b*rz a (m%S)+2^b:=by
 have d:=DZ R.ab h0
 rw[←R.eq]at d
 have e:=Xf (tz m) (2^b)
 have p:=Qd (tz m) (QS R.wpos)
 have q:=Qc (tz m) R.wpos
 rw[d]at e
 omega
theorem Row.mod0 (m:Int):0≤m%S:=Qd _ (QS R.pos)
theorem Row.mod1 (m:Int):m%S<S:=Qc _ R.pos
theorem Row.between {W x y p:Int} (hW:0<W) (h0:W*x≤p) (h1:p<W*x+W) (k0:W*y≤p) (k1:p<W*y+W):x=y:=by
 rcases Int.lt_trichotomy x y with h|h|h
 ·have:W*(x+1)≤W*y:=XF (by omega) (Xv hW)
  rw[Int.mul_add]at this;omega
 ·exact h
 ·have:W*(y+1)≤W*x:=XF (by omega) (Xv hW)
  rw[Int.mul_add]at this;omega
theorem Row.st_has {m:Int} (h0:0≤m):tz (m%S)≤tz m∧tz m<tz (m%S)+65536/S:=by
 obtain⟨e,_⟩:=R.slot (R.mod0 m) (R.mod1 m)
 have t:=R.top h0
 rw[R.width,e]
 exact t
end
theorem lu {k:Nat} (h:k≤6):Row (4*2^k) (k+2) (14-k):=by
 refine⟨by omega,by omega,by omega,?_⟩
 rw[Int.pow_add]
 omega
end SW
namespace L2
open PySem PySem.Spec PyProof.Rows
end L2
namespace L2
open PySem PySem.Spec PyProof.Rows
end L2
namespace L2
open PySem PySem.Spec PyProof.Rows
end L2
namespace L2
open PySem PySem.Spec PyProof.Rows
abbrev pG:List Value:=[.type "ValueError",.type "Exception",.type "BaseException",.type "object"]
def Fa (bm:List Value):Prop:=∃ups:List Addr,bm=ups.map Value.ref++pG
structure zF (K:PySem.W.Frag) (C:Addr) (bm:List Value):Prop where
 ob:∃nm q N bs sn sub ab col dd k0 k1 k2 k3 k5,K.lookup C=some (excClassObj nm q C N bs bm true sn sub ab col dd k0 k1 k2 k3 k5 "ValueError.__new__")
 mro:Fa bm
 kp:PySem.W.keepIn K (.ref C)=true
 ga:PySem.W.findIn K (.ref C) "__getattribute__"=some (some (.builtin "BaseException.__getattribute__"))
 gn:PySem.W.findIn K (.ref C) "__getattr__"=some none
 sa:PySem.W.findIn K (.ref C) "__setattr__"=some (some (.builtin "object.__setattr__"))
end L2
namespace L2
open PySem PySem.Spec PyProof.Rows
end L2
namespace L2
open PySem PySem.Spec PyProof.Rows PySem.W
end L2
namespace L2
open PySem PySem.Spec PyProof.Rows PySem.W
section
variable {prog:Program} {w:World} {A:Around} {E:Value→Shared→Prop} {s:Shared} {K:PySem.W.Frag} {e C:Addr} {bm:List Value}
structure XIs (K:PySem.W.Frag) (C:Addr):Prop where
 ha:findIn K (.ref C) "__class__"=some (some (.builtin "object.__class__"))
 hn:specialIn K (.builtin "object.__class__") "__get__"=some (some (.builtin "getset_descriptor.__get__"))
 tk:takesIn K (.builtin "object.__class__")=some true
 hm:mroIn K C (.type "object")=some true
end
end L2
namespace L2
open PySem PySem.Spec PyProof.Rows PySem.W
section
variable {X:Cx} {pins:List (Addr×Obj)} {σ:St} {H:Hp} {s:Shared}
theorem bQ (K:PySem.W.Frag) (hK:X.K=K):gr X (.builtin "isinstance") (λxs H Q=>∃x D t b,xs=[x,.ref D]∧TyOf K H x t∧kitOne K t (.ref D)=some b∧Q (.bl b) H):=by
 subst hK
 intro pins s σ H xs us Q I r h
 obtain⟨x,D,t,b,rfl,ty,e,q⟩:=h
 obtain⟨u,w',rfl,ru,rw'⟩:=pE r
 cases (show w'=Value.ref D from rw')
 exact tG I ru ty e λtk=>⟨.bl b,H,I.tok _,rfl,q⟩
end
end L2
namespace L2
open PySem PySem.Spec PyProof.Rows PySem.W
end L2
namespace L2
open PySem PySem.Spec PyProof.Rows PySem.W
structure BB (K:PySem.W.Frag) (C:Addr) (m:Str) (v:Value):Prop where
 sp:specialIn K (.ref C) "__getattribute__"=some (some (.builtin "type.__getattribute__"))
 rd:readsIn K C (.type "type")=true
 at_:findCls K (.ref C) (.type "type") m=some (.val v)
section
variable {X:Cx} {pins:List (Addr×Obj)} {σ:St} {H:Hp} {s:Shared}
variable {CX:CXT} {k:Nat} {f C:Addr} {fd:FuncData} {ps:List Str} {sp:Sp} {dvs:List V} {ds:List Value} {E:XK} {x m:Str} {p pos apos:Pos} {e o:Expr} {es:List Expr} {ta:TE} {t:TA} {bm:List Value}
theorem uA {pl:Sem Bool} (hg:Gl X x) (hm:X.mg x=some (.ref C)) (hc:BB X.K C m (.ref f)) (hk:PySem.W.keepIn X.K (.ref f)=true) (F:FnOk X.prog X.w X.K X.mg X.base CX k f fd ps sp) (hr:Room k X.A) (hb:Binds X.K fd ps ds) (hd:Vals dvs ds) (hx:i6 CX X E) (ha:PA X (e::es) t)
  (hdb:(x==("__debug__":Str))=false:=by decide)
  (hst:starEach (e::es) X.env=(false,eval e X.env)::starEach es X.env:=by rfl) (hpl:(backTo pos (starEach es X.env)).any (·.1)=false:=by rfl)
  (ht:eval (.Call (.Attribute (.Name x p) m apos) (e::es) [] pos) X.env=(do
   let ov←eval (.Name x p) X.env
   standAt apos.atName
   let(f,first)←holding [ov] (getMethod ov m pl)
   callWith pos f first (backTo pos (starEach (e::es) X.env)) (backToKw pos (keywordEach [] X.env))):=by rfl):
  PE X (.Call (.Attribute (.Name x p) m apos) (e::es) [] pos) (Dw sp dvs E t):=by
 intro pins s σ H Q I h
 refine Zu (pl:=pl) (mC I hg hm ?_ hdb) ht
 refine method_cls I.kIn hc.sp (cls_value I.kIn hc.rd hc.at_ rfl ?_)
 refine ZH (first:=[]) (h₀:=X.base) I.ok.mod.kin hk (thn (ha pos pins _ σ H _ (I.tok _) h) λus s2 ⟨vs,H2,I2,r,q2⟩=>⟨I2.kIn,?_⟩) hst hpl
 exact qf F hr hb hd hx I2 r q2
end
end L2
namespace L2
open PySem PySem.Spec PyProof.Rows PySem.W
end L2
namespace L2
open PySem PySem.Spec PyProof.Rows PySem.W
end L2
namespace L2
open PySem PySem.Spec PyProof.Rows PySem.W
end L2
namespace L2
open PySem PySem.Spec PyProof.Rows PySem.W
def j2 (K:PySem.W.Frag) (fd:FuncData) (ps:List Str) (dvs:List V):Prop:=∃ds,Binds K fd ps ds∧Vals dvs ds
structure FunD (K:PySem.W.Frag) (x qual:Str) (st:Stmt) (f:Addr) (fd:FuncData):Prop where
 ex:∃(oc:Value) (od:Option Addr) (dV kV doc pm:Value) (an:Option Addr) (cdv ct:Value) (osl:Array (Option Value)),
  fd=fnOf x qual (fc st) (dA st) (ak st) dV kV doc pm an cdv ct∧K.lookup f=some ⟨oc,od,.func fd,osl⟩∧codeIn K cdv qual=true
 kp:keepIn K (.ref f)=true
section
variable {P:Program} {w:World} {K:PySem.W.Frag} {mg:Str→Option Value} {base:Heap} {x qual:Str} {st:Stmt} {f:Addr} {fd:FuncData} {N ps:List Str} {k:Nat} {sp:Sp}
theorem FunD.ok (F:FunD K x qual st f fd) (S:ay N ps (ak st)) (len:∀vs H Q E,sp vs H Q E→vs.length=ps.length)
  (hbody:∀(cdv:Value) (A:Around) (outer:List Env) (s:Shared) (H:Hp) (vs:List V) (Q:VK) (E:XK),Room k (A.deeper (envOfC qual (ak st) s.heap.objs.size f cdv))→sp vs H Q E→
   ∃t,PSs (xC CX0 P w K mg base N qual (ak st) f cdv A outer s H E).nox (dA st) t∧t {nx:=λ_ H'=>Q .non H',rt:=Q} (start N vs) H):FnOk P w K mg base CX0 (k+1) f fd ps sp:=by
 obtain⟨oc,od,dV,kV,doc,pm,an,cdv,ct,osl,rfl,lk,hcd⟩:=F.ex
 refine DL lk hcd S len λA outer s H vs Q E hr hsp=>?_
 obtain⟨t,h,q⟩:=hbody cdv A outer s H vs Q E hr hsp
 exact⟨t,h.nox,q⟩
structure E8 (K:PySem.W.Frag) (x qual:Str) (st:Stmt) (T f:Addr) (fd:FuncData):Prop where
 toD:FunD K x qual st f fd
 ex:∃(kV doc pm:Value) (an:Option Addr) (cdv ct:Value),fd=fnOf x qual (fc st) (dA st) (ak st) (.ref T) kV doc pm an cdv ct
theorem yq {oc:Value} {od an:Option Addr} {osl:Array (Option Value)} {T:Addr} {kV doc pm cdv ct:Value} (l:K.lookup f=some ⟨oc,od,.func (fnOf x qual (fc st) (dA st) (ak st) (.ref T) kV doc pm an cdv ct),osl⟩)
  (c:codeIn K cdv qual=true) (k:keepIn K (.ref f)=true):E8 K x qual st T f (fnOf x qual (fc st) (dA st) (ak st) (.ref T) kV doc pm an cdv ct):=⟨⟨⟨oc,od,_,kV,doc,pm,an,cdv,ct,osl,rfl,l,c⟩,k⟩,⟨kV,doc,pm,an,cdv,ct,rfl⟩⟩
theorem eK {T:Addr} {dd:Option Addr} {items:Array Value} {n:Nat} {sl:Array (Option Value)} {ds:List Value} (g:Nat) (hg:g+ds.length=ps.length) (F:E8 K x qual st T f fd) (hT:K.lookup T=some ⟨.type "tuple",dd,.seq items n,sl⟩)
  (h:∀(kV doc pm:Value) (an:Option Addr) (cdv ct:Value) (us:List Value),us.length=g→∃k,bindArgs (fnOf x qual (fc st) (dA st) (ak st) (.ref T) kV doc pm an cdv ct) ⟨us,[]⟩=seqItems? (.ref T)>>=k∧k (some items)=pure (ps.zip (us++ds))):
  Binds K fd ps ds:=by
 obtain⟨kV,doc,pm,an,cdv,ct,rfl⟩:=F.ex
 intro s us X hl
 obtain⟨k,h1,h2⟩:=h kV doc pm an cdv ct us (by rw[Q8]at hl;omega)
 exact BindsTo.of_defaults rfl (X _ _ hT) rfl h1 h2
end
end L2
namespace L2
open PySem PySem.Spec PyProof.Rows
inductive DV where
 |non|bl (b:Bool)|int (i:Int)|str (x:Str)|lst (xs:List DV)|tup (xs:List DV)
end L2
namespace L2
open PySem PySem.Spec PyProof.Rows
end L2
namespace L2
open PySem PySem.Spec PyProof.Rows SeqAt
section
variable {X:Cx}
theorem gb {st:Stmt}:PS X st (λ_ _ _=>False):=λ_ _ _ _ _ _ h=>h.elim
theorem PlainL.isL {h:Heap} {a:Addr} {xs:Array Value} (p:PlainL h a xs):h.IsList a xs:=by
 obtain⟨o,n,e,c,_,d⟩:=p
 exact⟨o,e,c,n,d⟩
def rEqN (K:PySem.W.Frag) (f:Bool):R2:=λx y H Q=>∃a b xs,x= .ref a∧y= .ref b∧SqL K H a xs∧SqL K H b []∧Q (.bl (xs.isEmpty !=f)) H
theorem Ep (K:PySem.W.Frag) (hK:X.K=K) (hu:X.A.units+20<cLine):OpR X (compareOp .Eq) (rEqN K false):=by
 subst hK
 intro pins s σ H x y v u Q I rx ry h
 obtain⟨a,b,xs,rfl,rfl,h1,h2,q⟩:=h
 cases rx
 cases ry
 obtain⟨i1,r1,p1,z1⟩:=I.list h1
 obtain⟨i2,r2,p2,z2⟩:=I.list h2
 have hu0:X.A.units<cLine:=by omega
 cases r2
 cases r1 with
 |nil=>exact RcAt.lists (A:=X.A) (e:=λ_=>true) (PlainL.isL p1) (PlainL.isL p2) rfl hu0 (λj h1=>absurd h1 (XJ _)) _ _ _ _ ⟨.bl _,H,I,rfl,q⟩
 |cons r t=>exact RcAt.lists_lengths (PlainL.isL p1) (PlainL.isL p2) (by simp) hu0 _ _ _ _ ⟨.bl _,H,I,rfl,q⟩
end
end L2
namespace L2
open PySem PySem.Spec PyProof.Rows SeqAt
def Fl:V→Prop
 | .int _=>True| .str _=>True| .non=>True|_=>False
section
variable {X:Cx} {pins:List (Addr×Obj)} {σ:St} {H:Hp} {s:Shared}
theorem C3 {A:Around} {x:V} {u v:Value} (h:Fl x) (r1:RelV x u) (r2:RelV x v):EqAt A s u v true:=by
 cases x with
 |int n=>
  obtain⟨t1,rfl⟩:=r1
  obtain⟨t2,rfl⟩:=r2
  have:=EqAt.int_int (A:=A) (s:=s) n t1 n t2
  rwa [beq_self_eq_true]at this
 |str n=>
  obtain⟨t1,rfl⟩:=r1
  obtain⟨t2,rfl⟩:=r2
  have:=EqAt.str_str (A:=A) (s:=s) n t1 n t2
  rwa [beq_self_eq_true]at this
 |non=>
  cases (show u=Value.none from r1)
  cases (show v=Value.none from r2)
  exact EqAt.same _
 |_=>exact h.elim
end
end L2
namespace L2
open PySem PySem.Spec PyProof.Rows
theorem eY {x y:V} {A B:Prop} (e:x=y) (h:A):if decide (x=y)=true then A else B:=by
 rw[decide_eq_true e]
 exact cC h
theorem aj {H:Hp} {p:Addr} {o:HO} (h:H p=none):Same H (upd H p o):=λb u e=>by
 rw[ae (al e h)]
 exact e
def AllI (P:Int→Prop):List V→Prop
 | []=>True
 | .int m::r=>P m∧AllI P r
 |_::_=>False
theorem AllI.ints {P:Int→Prop}:∀{L:List V},AllI P L→∃ns:List Int,L=ns.map V.int∧∀m∈ns,P m
 | [],_=>⟨[],rfl,λ_ z=>nomatch z⟩
 | .int m::r,h=>by
  obtain⟨ns,e,q⟩:=AllI.ints h.2
  refine⟨m::ns,by rw[e];rfl,λx hx=>?_⟩
  rcases Qm.mp hx with rfl|hx
  ·exact h.1
  ·exact q x hx
theorem sV {P:Int→Prop} {L:List V} {c n:Int} (h:AllI P L) (hn:(L.length:Int)=n) (hp:0<n):∃m,atI L (c%n)=some (.int m)∧P m:=by
 obtain⟨ns,e,q⟩:=h.ints
 subst e
 have a:=Qd c (QS hp)
 have b:=Qc c hp
 rw[Q0]at hn
 have hlt:(c%n).toNat<ns.length:=by omega
 refine⟨_,qT a (by omega),q _ ?_⟩
 rw[Ql,Q3 hlt]
 exact Za hlt
theorem bU {H H':Hp} {l:Addr} {o:HO} (s:Same H H') (n:H l=none):Same H (upd H' l o):=λb u e=>by
 rw[ae (al e n)]
 exact s b u e
theorem cz {K:PySem.W.Frag} {C D:Addr} {b:Bool} (h1:PySem.W.typeIn K (.ref D)=some (.type "type")) (h2:PySem.W.isClsIn K D=true) (h3:PySem.W.subIn K (.ref C) (.ref D)=some b) (hne:C=D→b=true):
  PySem.W.kitOne K (.ref C) (.ref D)=some b:=by
 unfold PySem.W.kitOne
 by_cases z:((Value.ref C:Value)== .ref D)=true
 ·rw[if_pos z,hne (Value.ref.inj (beq_iff_eq.mp z))]
 ·rw[if_neg z]
  show(if((PySem.W.clsIn K D).isSome&&PySem.W.typeIn K (.ref D)==some (.type "type"))=true then PySem.W.subIn K (.ref C) (.ref D)else none)=some b
  have:(PySem.W.clsIn K D).isSome=true:=h2
  rw[if_pos (by rw[this,h1];simp),h3]
def FT (_ j:Int):Prop:=0<j∧j.natAbs.log2<9000
theorem vF {X:Cx}:OpR X (binaryOp .FloorDiv) (rI FT λi j=> .int (i/j)):=opI λi j _ _ _ _ _ hc q=>by
 have h1:(0:Int)<j:=hc.1
 exact floordiv_int (by omega) (by rw[XR i (by omega)];exact q) (.inl (PyProof.noPylong_of_log2 hc.2))
theorem Room.u20 {k:Nat} {A:Around} (r:Room k A):A.units+20<cLine:=by have:=r.un;omega
section
variable {X:Cx} {k:Nat} {f C:Addr} {fd:FuncData} {ps:List Str} {sp:Sp} {dvs:List V} {ds:List Value} {E:XK} {x m:Str} {p pos apos:Pos} {e o:Expr} {es:List Expr} {ta:TE} {t:TA}
def BD (X:Cx) (kk:Nat) (m:Str) (C:Addr) (sp:Sp):Prop:=Cls X.K C∧∃f fd ps,cm X.K C m f∧FnOk X.prog X.w X.K X.mg X.base CX0 kk f fd ps sp∧Binds X.K fd ps []
def D1 (C:Addr) (sp:Sp):Addr→Sp→Prop:=λC' sp'=>C'=C∧sp'=sp
def DOr (D D':Addr→Sp→Prop):Addr→Sp→Prop:=λC sp=>D C sp∨D' C sp
theorem bP {kk:Nat} (c:Cls X.K C) (hm:cm X.K C m f) (F:FnOk X.prog X.w X.K X.mg X.base CX0 k f fd ps sp) (hb:Binds X.K fd ps []) (hk:k≤kk):∀C' sp',D1 C sp C' sp'→BD X kk m C' sp':=λC' sp' h=>by
 obtain⟨rfl,rfl⟩:=h
 exact⟨c,f,fd,ps,hm,F.mono hk,hb⟩
theorem e7 {kk:Nat} {D D':Addr→Sp→Prop} (h:∀C sp,D C sp→BD X kk m C sp) (h':∀C sp,D' C sp→BD X kk m C sp):∀C sp,DOr D D' C sp→BD X kk m C sp:=λC sp z=>z.elim (h C sp) (h' C sp)
def D9 (D:Addr→Sp→Prop) (m:Str) (ta:TE) (t:TA):TE:=λσ H Q=>ta σ H λx H1=>∃a C dx fs sp,x= .ref a∧H1 a=some (.ins C dx fs)∧fs.lookup m=none∧D C sp∧
 t σ H1 λvs H2=>sp (x::vs) H2 Q E0
theorem jx {kk:Nat} {D:Addr→Sp→Prop} {pl:Sem Bool} (hD:∀C sp,D C sp→BD X kk m C sp) (hr:Room kk X.A) (he:PE X o ta) (ha:PA X (e::es) t)
  (hst:starEach (e::es) X.env=(false,eval e X.env)::starEach es X.env:=by rfl) (hpl:(backTo pos (starEach es X.env)).any (·.1)=false:=by rfl)
  (ht:eval (.Call (.Attribute o m apos) (e::es) [] pos) X.env=(do
   let ov←eval o X.env
   standAt apos.atName
   let(f,first)←holding [ov] (getMethod ov m pl)
   callWith pos f first (backTo pos (starEach (e::es) X.env)) (backToKw pos (keywordEach [] X.env))):=by rfl):
  PE X (.Call (.Attribute o m apos) (e::es) [] pos) (D9 D m ta t):=by
 intro pins s σ H Q I h
 refine Zu (pl:=pl) (thn (he pins s σ H _ I h) λu s1 hzz=>?_) ht
 obtain⟨x,H1,I1,rx,a,C,dx,fs,sp,ex,ea,l,d,q⟩:=hzz
 subst ex
 obtain rfl:u=Value.ref a:=rx
 obtain⟨c,f,fd,ps,hm,F,hb⟩:=hD C sp d
 refine iP I1 ea c hm l ?_
 refine ZH (first:=[.ref a]) (h₀:=X.base) I.ok.mod.kin hm.kp (thn (ha pos pins s1 σ H1 _ I1 q) λus s2 ⟨vs,H2,I2,r,q2⟩=>⟨I2.kIn,?_⟩) hst hpl
 exact qf (us:= .ref a::us) (vs:= .ref a::vs) (dvs:=[]) F hr hb .nil aD I2 (.cons rfl r) (by rw[ZF];exact q2)
end
end L2
namespace Srt
open PySem PyProof.Rows
abbrev dk:Keyed:=(Value.none,Value.none)
def g (xs:Array Keyed) (i:Nat):Keyed:=xs[i]?.getD dk
theorem cG {xs:Array Keyed} {i:Nat} (h:i<xs.size):xs[i]?=some (g xs i):=by
 unfold g;rw[getElem?_pos xs i h];rfl
theorem mF {xs ys:Array Keyed} {i j:Nat} (h:xs[i]?=ys[j]?):g xs i=g ys j:=by unfold g;rw[h]
theorem tH {xs:Array Keyed} {i:Nat} (h:i<xs.size):g xs i∈xs:=by
 have e:=cG h
 exact Array.mem_of_getElem? e
structure Cmp (blt:Keyed→Keyed→Bool):Prop where
 asym:∀x y,blt x y=true→blt y x=false
 tr:∀x y z,blt y x=false→blt z y=false→blt z x=false
section
variable {blt:Keyed→Keyed→Bool} (C:Cmp blt)
abbrev le (blt:Keyed→Keyed→Bool) (x y:Keyed):Prop:=blt y x=false
include C
theorem Cmp.trans {x y z:Keyed} (h1:le blt x y) (h2:le blt y z):le blt x z:=C.tr x y z h1 h2
theorem Cmp.of_lt {x y:Keyed} (h:blt x y=true):le blt x y:=C.asym _ _ h
end
def On (blt:Keyed→Keyed→Bool) (xs:Array Keyed) (lo hi:Nat):Prop:=∀i j,lo≤i→i<j→j<hi→le blt (g xs i) (g xs j)
def Off (blt:Keyed→Keyed→Bool) (xs:Array Keyed) (lo hi:Nat):Prop:=∀i j,lo≤i→i<j→j<hi→le blt (g xs j) (g xs i)
theorem On.one {blt:Keyed→Keyed→Bool} {xs:Array Keyed} {lo:Nat}:On blt xs lo (lo+1):=λi j h1 h2 h3=>by omega
theorem Off.one {blt:Keyed→Keyed→Bool} {xs:Array Keyed} {lo:Nat}:Off blt xs lo (lo+1):=λi j h1 h2 h3=>by omega
theorem On.congr {blt:Keyed→Keyed→Bool} {xs ys:Array Keyed} {lo hi:Nat} (h:On blt xs lo hi) (e:∀k,lo≤k→k<hi→g ys k=g xs k):On blt ys lo hi:=λi j h1 h2 h3=>by
 rw[e i h1 (by omega),e j (by omega) h3];exact h i j h1 h2 h3
theorem On.sub {blt:Keyed→Keyed→Bool} {xs:Array Keyed} {lo hi lo' hi':Nat} (h:On blt xs lo hi) (h1:lo≤lo') (h2:hi'≤hi):On blt xs lo' hi':=λi j a b c=>h i j (by omega) b (by omega)
section
variable {blt:Keyed→Keyed→Bool} (C:Cmp blt)
include C
theorem On.snoc {xs:Array Keyed} {lo n:Nat} (h:On blt xs lo (lo+n)) (hn:1≤n) (e:le blt (g xs (lo+n-1)) (g xs (lo+n))):On blt xs lo (lo+(n+1)):=λi j h1 h2 h3=>by
 by_cases z:j<lo+n
 ·exact h i j h1 h2 z
 ·have ej:j=lo+n:=by omega
  subst ej
  by_cases y:i=lo+n-1
  ·subst y;exact e
  ·exact C.trans (h i (lo+n-1) h1 (by omega) (by omega)) e
theorem Off.snoc {xs:Array Keyed} {lo n:Nat} (h:Off blt xs lo (lo+n)) (hn:1≤n) (e:le blt (g xs (lo+n)) (g xs (lo+n-1))):Off blt xs lo (lo+(n+1)):=λi j h1 h2 h3=>by
 by_cases z:j<lo+n
 ·exact h i j h1 h2 z
 ·have ej:j=lo+n:=by omega
  subst ej
  by_cases y:i=lo+n-1
  ·subst y;exact e
  ·exact C.trans e (h i (lo+n-1) h1 (by omega) (by omega))
end
theorem A7 {xs:Array Keyed} {i j:Nat} (hj:j≤xs.size) (k:Nat):g (mirror xs i j ((j-i)/2)) k=if i≤k∧k<j then g xs (i+j-1-k)else g xs k:=by
 have e:=getElem?_mirror_all (i:=i) hj k
 by_cases h1:i≤k∧k<j
 ·rw[if_pos h1]at e⊢;exact mF e
 ·rw[if_neg h1]at e⊢;exact mF e
theorem A8 {xs:Array Keyed} {src d:Nat} (hs:src<xs.size) (hd:d≤src) (k:Nat):g (bubble xs src d) k=if k=src-d then g xs src else if src-d<k∧k≤src then g xs (k-1)else g xs k:=by
 have e:=getElem?_bubble hs d hd k
 by_cases h1:k=src-d
 ·rw[if_pos h1]at e⊢;exact mF e
 ·rw[if_neg h1]at e⊢
  by_cases h2:src-d<k∧k≤src
  ·rw[if_pos h2]at e⊢;exact mF e
  ·rw[if_neg h2]at e⊢;exact mF e
section
variable {prog:Program} {w:World} {A:Around} {E:Value→Shared→Prop} {s:Shared} {a₀:Array Keyed} {κ:SortKind} {blt:Keyed→Keyed→Bool}
def u7 (prog:Program) (w:World) (A:Around) (E:Value→Shared→Prop) (s:Shared) (a₀:Array Keyed) (κ:SortKind) (blt:Keyed→Keyed→Bool):Prop:=
 ∀(x y:Keyed) (st:SortSt) (Q:Option Bool→SortSt→Prop),x∈a₀→y∈a₀→kindOf st=κ→Q (some (blt x y)) st→wpS (model prog w) A E s (lt' x y) Q st
structure Base (a₀:Array Keyed) (κ:SortKind) (st:SortSt):Prop where
 kind:kindOf st=κ
 fine:failedOf st=none
 perm:(arrOf st).Perm a₀
theorem Base.size {st:SortSt} (B:Base a₀ κ st):(arrOf st).size=a₀.size:=B.perm.size_eq
theorem Base.mem {st:SortSt} (B:Base a₀ κ st) {i:Nat} (h:i<a₀.size):g (arrOf st) i∈a₀:=(B.perm.mem_iff).mp (tH (by rw[B.size];exact h))
variable (L:u7 prog w A E s a₀ κ blt)
include L
theorem lU {st:SortSt} {i j:Nat} {Q:Option Bool→SortSt→Prop} (B:Base a₀ κ st) (hi:i<a₀.size) (hj:j<a₀.size) (h:Q (some (blt (g (arrOf st) i) (g (arrOf st) j))) st):
  wpS (model prog w) A E s (ltAt' i j) Q st:=by
 rw[ltAt'_eq]
 refine wpS_bind (wpS_get ?_)
 show wpS _ _ _ _ (do let x←elem' (arrOf st) i;let y←elem' (arrOf st) j;lt' x y) Q st
 rw[elem'_eq,elem'_eq,cG (by rw[B.size];exact hi),cG (by rw[B.size];exact hj)]
 refine wpS_bind (wpS_pure (wpS_bind (wpS_pure ?_)))
 exact L _ _ st Q (B.mem hi) (B.mem hj) B.kind h
omit L in
theorem zS {α:Type} {m m':StateT SortSt Sem α} {Q:α→SortSt→Prop} {st:SortSt} (e:m=m') (h:wpS (model prog w) A E s m' Q st):wpS (model prog w) A E s m Q st:=by rw[e];exact h
abbrev Keep (lo:Nat) (xs ys:Array Keyed):Prop:=∀k,k<lo→g ys k=g xs k
theorem fo {st:SortSt} {i j:Nat} {Q:Unit→SortSt→Prop} (B:Base a₀ κ st) (hj:j≤a₀.size)
  (h:∀st',Base a₀ κ st'→pendingOf st'=pendingOf st→(∀k,g (arrOf st') k=if i≤k∧k<j then g (arrOf st) (i+j-1-k)else g (arrOf st) k)→Q () st'):
  wpS (model prog w) A E s (reverseSlice' i j) Q st:=by
 rw[reverseSlice'_eq]
 refine wpS_modify (h _ ⟨B.kind,B.fine,(mirror_perm _ _ _ _).trans B.perm⟩ rfl λk=>?_)
 exact A7 (by rw[B.size];exact hj) k
theorem zR {st:SortSt} {lo a nrem:Nat} {γ:Type} {f:Nat→Option γ×Nat→StateT SortSt Sem (ForInStep (Option γ×Nat))} {Q:Option γ×Nat→SortSt→Prop} (C:Cmp blt) (B:Base a₀ κ st) (ha:1≤a) (han:a≤nrem) (hz:lo+nrem≤a₀.size) (hs:On blt (arrOf st) lo (lo+a))
  (hf:∀(i n:Nat) (R:ForInStep (Option γ×Nat)→SortSt→Prop),n<nrem→1≤n→(blt (g (arrOf st) (lo+n)) (g (arrOf st) (lo+n-1))=true→R (.done (none,n)) st)→(blt (g (arrOf st) (lo+n)) (g (arrOf st) (lo+n-1))=false→R (.yield (none,n+1)) st)→wpS (model prog w) A E s (f i (none,n)) R st)
  (h:∀n,a≤n→n≤nrem→On blt (arrOf st) lo (lo+n)→(n<nrem→blt (g (arrOf st) (lo+n)) (g (arrOf st) (lo+n-1))=true)→Q (none,n) st):
  wpS (model prog w) A E s (forIn [a:nrem] (none,a) f) Q st:=by
 refine wpS_forRange (I:=λi c st'=>st'=st∧c=(none,i)∧a≤i∧i≤nrem∧On blt (arrOf st) lo (lo+i)) ?_ ?_ ⟨rfl,rfl,Q5 _,han,hs⟩
 ·rintro i c st' h1 h2 ⟨rfl,rfl,h3,h4,h5⟩
  refine hf i i _ h2 (by omega) (λe=>?_) (λe=>?_)
  ·exact h i h3 h4 h5 λ_=>e
  ·exact⟨rfl,rfl,by omega,by omega,h5.snoc C (by omega) e⟩
 ·rintro c st' ⟨rfl,rfl,h3,h4,h5⟩
  have e:max a nrem=nrem:=QO han
  rw[e]at h5⊢
  exact h nrem han (Q5 _) h5 λz=>absurd z (Zt _)
omit L in
theorem nK {xs ys:Array Keyed} {lo b e:Nat} (hb:lo≤b) (h:Off blt xs lo e) (o:On blt xs b e) (hy:∀k,g ys k=if b≤k∧k<e then g xs (b+e-1-k)else g xs k):Off blt ys lo e:=λi j h1 h2 h3=>by
 rw[hy i,hy j]
 by_cases jb:b≤j
 ·rw[if_pos ⟨jb,h3⟩]
  by_cases ib:b≤i
  ·rw[if_pos ⟨ib,by omega⟩]
   exact o _ _ (by omega) (by omega) (by omega)
  ·rw[if_neg (by omega)]
   exact h _ _ h1 (by omega) (by omega)
 ·rw[if_neg (by omega),if_neg (by omega)]
  exact h i j h1 h2 h3
omit L in
theorem Er {xs ys:Array Keyed} {lo e:Nat} (h:Off blt xs lo e) (hy:∀k,g ys k=if lo≤k∧k<e then g xs (lo+e-1-k)else g xs k):On blt ys lo e:=λi j h1 h2 h3=>by
 rw[hy i,hy j,if_pos ⟨h1,by omega⟩,if_pos ⟨by omega,h3⟩]
 exact h _ _ (by omega) (by omega) (by omega)
omit L in
theorem CD {xs ys:Array Keyed} {lo e:Nat} (h:On blt xs lo e) (hy:∀k,g ys k=if lo≤k∧k<e then g xs (lo+e-1-k)else g xs k):Off blt ys lo e:=λi j h1 h2 h3=>by
 rw[hy i,hy j,if_pos (show lo≤j∧j<e by omega),if_pos (show lo≤i∧i<e by omega)]
 exact h _ _ (by omega) (by omega) (by omega)
def Bz (lo:Nat):Nat→Option (Option Nat)×Nat→StateT SortSt Sem (ForInStep (Option (Option Nat)×Nat)):=λ_ __s=>do
 let __x←ltAt' (lo+__s.snd) (lo+__s.snd-1)
 match __x with
 |some smaller=>if smaller=true then pure (ForInStep.done (none,__s.snd))else pure (ForInStep.yield (none,__s.snd+1))
 |_=>pure (ForInStep.done (some none,__s.snd))
def sQ (lo n nrem:Nat):StateT SortSt Sem (Option Nat):=do
 reverseSlice' lo (lo+n)
 let __s←forIn [n:nrem] (none,n) (Bz lo)
 match __s.fst with
 |some r=>pure r
 |none=>pure (some __s.snd)
def yt (lo:Nat):Nat→Option (Option Nat)×Nat×Nat→StateT SortSt Sem (ForInStep (Option (Option Nat)×Nat×Nat)):=λ_ __s=>do
 let __x←ltAt' (lo+__s.snd.fst) (lo+__s.snd.fst-1)
 match __x with
 |some smaller=>
  if smaller=true then
   if __s.snd.snd>0 then do
    reverseSlice' (lo+__s.snd.fst-(__s.snd.snd+1)) (lo+__s.snd.fst)
    pure (ForInStep.yield (none,__s.snd.fst+1,0))
   else pure (ForInStep.yield (none,__s.snd.fst+1,0))
  else do
   let __x←ltAt' (lo+__s.snd.fst-1) (lo+__s.snd.fst)
   match __x with
   |some larger=>
    if larger=true then pure (ForInStep.done (none,__s.snd.fst,__s.snd.snd))
    else pure (ForInStep.yield (none,__s.snd.fst+1,__s.snd.snd+1))
   |_=>pure (ForInStep.done (some none,__s.snd.fst,__s.snd.snd))
 |_=>pure (ForInStep.done (some none,__s.snd.fst,__s.snd.snd))
def tN (lo n nrem:Nat):StateT SortSt Sem (Option Nat):=do
 liftM (rule "list.sort.descending-run")
 let __s←forIn [n+1:nrem] (none,n+1,0) (yt lo)
 match __s.fst with
 |some r=>pure r
 |none=>
  if __s.snd.snd>0 then do
   reverseSlice' (lo+__s.snd.fst-(__s.snd.snd+1)) (lo+__s.snd.fst)
   sQ lo __s.snd.fst nrem
  else sQ lo __s.snd.fst nrem
theorem xP {st:SortSt} {lo nrem i n:Nat} {R:ForInStep (Option (Option Nat)×Nat)→SortSt→Prop} (B:Base a₀ κ st) (hz:lo+nrem≤a₀.size) (hn:n<nrem) (h1:1≤n)
  (ht:blt (g (arrOf st) (lo+n)) (g (arrOf st) (lo+n-1))=true→R (.done (none,n)) st) (hf:blt (g (arrOf st) (lo+n)) (g (arrOf st) (lo+n-1))=false→R (.yield (none,n+1)) st):wpS (model prog w) A E s (Bz lo i (none,n)) R st:=by
 unfold Bz
 refine wpS_bind (lU L B (by dsimp only;omega) (by dsimp only;omega) ?_)
 dsimp only
 cases e:blt (g (arrOf st) (lo+n)) (g (arrOf st) (lo+n-1))with
 |true=>exact wpS_pure (ht e)
 |false=>exact wpS_pure (hf e)
theorem lT {st:SortSt} {lo n nrem:Nat} {Q:Option Nat→SortSt→Prop} (C:Cmp blt) (B:Base a₀ κ st) (h1:1≤n) (hn:n≤nrem) (hz:lo+nrem≤a₀.size) (ho:Off blt (arrOf st) lo (lo+n))
  (h:∀m st',Base a₀ κ st'→pendingOf st'=pendingOf st→1≤m→m≤nrem→On blt (arrOf st') lo (lo+m)→Keep lo (arrOf st) (arrOf st')→Q (some m) st'):wpS (model prog w) A E s (sQ lo n nrem) Q st:=by
 unfold sQ
 refine wpS_bind (fo L B (by omega) λst' B' hp hy=>?_)
 refine wpS_bind (zR L C B' h1 hn hz (Er ho hy) (λi n R hn h1 ht hf=>xP L B' (i:=i) hz hn h1 ht hf) (λm ha hm hs _=>?_))
 exact wpS_pure (h m st' B' hp (by omega) hm hs λk hk=>by rw[hy k,if_neg (by omega)])
theorem vf {st:SortSt} {lo n nrem:Nat} {Q:Option Nat→SortSt→Prop} (C:Cmp blt) (B:Base a₀ κ st) (h1:1≤n) (hn:n+1≤nrem) (hz:lo+nrem≤a₀.size) (ho:Off blt (arrOf st) lo (lo+(n+1)))
  (h:∀m st',Base a₀ κ st'→pendingOf st'=pendingOf st→1≤m→m≤nrem→On blt (arrOf st') lo (lo+m)→Keep lo (arrOf st) (arrOf st')→Q (some m) st'):wpS (model prog w) A E s (tN lo n nrem) Q st:=by
 unfold tN
 refine wpS_bind (wpS_lift (wpAny_rule ⟨rfl,?_⟩))
 refine wpS_bind (wpS_forRange (I:=λi c st'=>∃q,c=(none,i,q)∧Base a₀ κ st'∧pendingOf st'=pendingOf st∧Keep lo (arrOf st) (arrOf st')∧n+1≤i∧i≤nrem∧q+1≤i∧Off blt (arrOf st') lo (lo+i)∧On blt (arrOf st') (lo+i-(q+1)) (lo+i)) ?_ ?_
  ⟨0,rfl,B,rfl,λ_ _=>rfl,Q5 _,hn,by omega,ho,λi j a b c=>by omega⟩)
 ·rintro i c st' hi1 hi2 ⟨q,rfl,B',hp,hk,h2,h3,h4,off,on⟩
  unfold yt
  refine wpS_bind (lU L B' (by dsimp only;omega) (by dsimp only;omega) ?_)
  dsimp only
  cases e:blt (g (arrOf st') (lo+i)) (g (arrOf st') (lo+i-1))with
  |true=>
   by_cases q0:q>0
   ·rw[if_pos rfl,if_pos q0]
    refine wpS_bind (fo L B' (by omega) λst2 B2 hp2 hy=>?_)
    refine wpS_pure ⟨0,rfl,B2,hp2.trans hp,λk hk2=>by rw[hy k,if_neg (by omega)];exact hk k hk2,by omega,by omega,by omega,?_,λi j a b c=>by omega⟩
    refine(nK (by omega) off on hy).snoc C (by omega) ?_
    rw[hy,hy,if_neg (by omega),if_pos (by omega)]
    have z:lo+i-(q+1)+(lo+i)-1-(lo+i-1)=lo+i-(q+1):=by omega
    rw[z]
    exact C.trans (C.of_lt e) (off _ _ (by omega) (by omega) (by omega))
   ·rw[if_pos rfl,if_neg q0]
    exact wpS_pure ⟨0,rfl,B',hp,hk,by omega,by omega,by omega,off.snoc C (by omega) (C.of_lt e),λi j a b c=>by omega⟩
  |false=>
   simp only[Zd,if_false]
   refine wpS_bind (lU L B' (by omega) (by omega) ?_)
   dsimp only
   cases e2:blt (g (arrOf st') (lo+i-1)) (g (arrOf st') (lo+i))with
   |true=>
    simp only[if_true]
    refine wpS_pure ?_
    dsimp only
    by_cases q0:q>0
    ·rw[if_pos q0]
     refine wpS_bind (fo L B' (by omega) λst2 B2 hp2 hy=>?_)
     refine lT L C B2 (by omega) h3 hz (nK (by omega) off on hy) λm st3 B3 hp3 a b c d=>h m st3 B3 (hp3.trans (hp2.trans hp)) a b c λk hk2=>?_
     rw[d k hk2,hy k,if_neg (by omega)]
     exact hk k hk2
    ·rw[if_neg q0]
     exact lT L C B' (by omega) h3 hz off λm st3 B3 hp3 a b c d=>h m st3 B3 (hp3.trans hp) a b c λk hk2=>(d k hk2).trans (hk k hk2)
   |false=>
    simp only[Zd,if_false]
    refine wpS_pure ⟨q+1,rfl,B',hp,hk,by omega,by omega,by omega,off.snoc C (by omega) e2,?_⟩
    have z:lo+(i+1)-(q+1+1)=lo+i-(q+1):=by omega
    rw[z]
    intro x y hx hy hz'
    by_cases hyi:y<lo+i
    ·exact on x y hx hy hyi
    ·have ey:y=lo+i:=by omega
     subst ey
     by_cases hxi:x=lo+i-1
     ·subst hxi;exact e
     ·exact C.trans (on x (lo+i-1) hx (by omega) (by omega)) e
 ·rintro c st' ⟨q,rfl,B',hp,hk,h2,h3,h4,off,on⟩
  have em:max (n+1) nrem=nrem:=QO hn
  rw[em]at h3 h4 off on⊢
  dsimp only
  by_cases q0:q>0
  ·rw[if_pos q0]
   refine wpS_bind (fo L B' (by omega) λst2 B2 hp2 hy=>?_)
   refine lT L C B2 (by omega) h3 hz (nK (by omega) off on hy) λm st3 B3 hp3 a b c d=>h m st3 B3 (hp3.trans (hp2.trans hp)) a b c λk hk2=>?_
   rw[d k hk2,hy k,if_neg (by omega)]
   exact hk k hk2
  ·rw[if_neg q0]
   exact lT L C B' (by omega) h3 hz off λm st3 B3 hp3 a b c d=>h m st3 B3 (hp3.trans hp) a b c λk hk2=>(d k hk2).trans (hk k hk2)
theorem zQ {st:SortSt} {lo nrem:Nat} {Q:Option Nat→SortSt→Prop} (C:Cmp blt) (B:Base a₀ κ st) (h1:1≤nrem) (hz:lo+nrem≤a₀.size)
  (h:∀n st',Base a₀ κ st'→pendingOf st'=pendingOf st→1≤n→n≤nrem→On blt (arrOf st') lo (lo+n)→Keep lo (arrOf st) (arrOf st')→Q (some n) st'):wpS (model prog w) A E s (countRun' lo nrem) Q st:=by
 rw[countRun'_eq]
 dsimp only
 refine wpS_bind (zR L C B (Q5 1) h1 hz On.one (λi n R hn h1 ht hf=>xP L B (i:=i) hz hn h1 ht hf) (λn ha hn hs hlt=>?_))
 dsimp only
 by_cases en:n=nrem
 ·subst en
  simp only[beq_self_eq_true,if_true]
  exact wpS_pure (h n st B rfl ha hn hs λ_ _=>rfl)
 ·have eb:(n==nrem)=false:=beq_eq_false_iff_ne.mpr en
  simp only[eb,Zd,if_false]
  have fall:=hlt (by omega)
  by_cases n1:n>1
  ·rw[if_pos n1]
   refine wpS_bind (lU L B (by omega) (by omega) ?_)
   dsimp only
   cases e:blt (g (arrOf st) lo) (g (arrOf st) (lo+n-1))with
   |true=>
    simp only[if_true]
    exact wpS_pure (h n st B rfl ha hn hs λ_ _=>rfl)
   |false=>
    simp only[Zd,if_false]
    refine wpS_bind (fo L B (by omega) λst2 B2 hp2 hy=>?_)
    have off:Off blt (arrOf st2) lo (lo+(n+1)):=by
     refine(CD hs hy).snoc C ha ?_
     rw[hy,hy,if_neg (by omega),if_pos (by omega)]
     have z:lo+(lo+n)-1-(lo+n-1)=lo:=by omega
     rw[z]
     exact C.trans (C.of_lt fall) e
    refine zS (m':=tN lo n nrem) (by
      unfold tN sQ Bz yt
      congr 1;funext _u;congr 1;funext s2;obtain⟨r2,n2,q2⟩:=s2
      cases r2 with
      |some r2=>rfl
      |none=>
       dsimp only
       split
       ·congr 1;funext _v;congr 1;funext _w;congr 1;funext s3;obtain⟨r3,n3⟩:=s3;cases r3<;>rfl
       ·congr 1;funext _w;congr 1;funext s3;obtain⟨r3,n3⟩:=s3;cases r3<;>rfl) (vf L C B2 ha (by omega) hz off λm st3 B3 hp3 a b c d=>h m st3 B3 (hp3.trans hp2) a b c λk hk=>by rw[d k hk,hy k,if_neg (by omega)])
  ·rw[if_neg n1]
   have e1:n=1:=by omega
   subst e1
   refine zS (m':=tN lo 1 nrem) (by
      unfold tN sQ Bz yt
      congr 1;funext _u;congr 1;funext s2;obtain⟨r2,n2,q2⟩:=s2
      cases r2 with
      |some r2=>rfl
      |none=>
       dsimp only
       split
       ·congr 1;funext _v;congr 1;funext _w;congr 1;funext s3;obtain⟨r3,n3⟩:=s3;cases r3<;>rfl
       ·congr 1;funext _w;congr 1;funext s3;obtain⟨r3,n3⟩:=s3;cases r3<;>rfl) (vf L C B ha (by omega) hz (Off.one.snoc C (Q5 1) (C.of_lt fall)) h)
omit L in
theorem xO {st:SortSt} {k l:Nat} {Q:Unit→SortSt→Prop} (B:Base a₀ κ st) (hk:k<a₀.size) (hl:l≤k)
  (h:∀st',Base a₀ κ st'→pendingOf st'=pendingOf st→(∀j,g (arrOf st') j=if j=l then g (arrOf st) k else if l<j∧j≤k then g (arrOf st) (j-1)else g (arrOf st) j)→Q () st'):
  wpS (model prog w) A E s (moveDown' k l) Q st:=by
 rw[moveDown'_eq]
 refine wpS_modify (h _ ⟨B.kind,B.fine,(bubble_perm _ _ _).trans B.perm⟩ rfl λj=>?_)
 have e:=A8 (xs:=arrOf st) (src:=k) (d:=k-l) (by rw[B.size];exact hk) (by omega) j
 have z:k-(k-l)=l:=by omega
 rw[z]at e
 exact e
theorem yM {st:SortSt} {lo n ok:Nat} {Q:Bool→SortSt→Prop} (C:Cmp blt) (B:Base a₀ κ st) (h1:1≤ok) (hok:ok≤n) (hz:lo+n≤a₀.size) (hs:On blt (arrOf st) lo (lo+ok))
  (h:∀st',Base a₀ κ st'→pendingOf st'=pendingOf st→On blt (arrOf st') lo (lo+n)→Keep lo (arrOf st) (arrOf st')→Q true st'):wpS (model prog w) A E s (binarySort' lo n ok) Q st:=by
 rw[binarySort'_eq]
 dsimp only
 have em:max ok 1=ok:=Nat.max_eq_left h1
 rw[em]
 refine wpS_bind (wpS_forRange (I:=λi c st'=>c=(none,())∧Base a₀ κ st'∧pendingOf st'=pendingOf st∧Keep lo (arrOf st) (arrOf st')∧ok≤i∧i≤n∧On blt (arrOf st') lo (lo+i)) ?_ ?_
  ⟨rfl,B,rfl,λ_ _=>rfl,Q5 _,hok,hs⟩)
 ·rintro k c st' hk1 hk2 ⟨rfl,B',hp,hk,h2,h3,on⟩
  refine wpS_bind (wpS_forRange (I:=λi c st2=>st2=st'∧∃l r,c=(none,l,r)∧l≤r∧r≤k∧r-l≤k-i∧(∀j,j<l→le blt (g (arrOf st') (lo+j)) (g (arrOf st') (lo+k)))∧(∀j,r≤j→j<k→le blt (g (arrOf st') (lo+k)) (g (arrOf st') (lo+j)))) ?_ ?_
   ⟨rfl,0,k,rfl,Qf _,Q5 _,Q5 _,λj hj=>absurd hj (XJ _),λj a b=>by omega⟩)
  ·rintro i c st2 hi1 hi2 ⟨rfl,l,r,rfl,hlr,hrk,hm,below,above⟩
   dsimp only
   by_cases hge:l≥r
   ·rw[if_pos hge]
    refine wpS_pure ?_
    dsimp only
    have elr:l=r:=by omega
    refine wpS_bind (xO B' (by omega) (by omega) λst3 B3 hp3 hy=>wpS_pure ⟨rfl,B3,hp3.trans hp,λq hq=>?_,by omega,by omega,?_⟩)
    ·rw[hy q,if_neg (by omega),if_neg (by omega)];exact hk q hq
    ·intro a b ha hab hb
     rw[hy a,hy b]
     by_cases b1:b=lo+l
     ·rw[if_pos b1,if_neg (by omega),if_neg (by omega)]
      have:=below (a-lo) (by omega)
      rwa [show lo+(a-lo)=a by omega]at this
     ·rw[if_neg b1]
      by_cases b2:lo+l<b∧b≤lo+k
      ·rw[if_pos b2]
       by_cases a1:a=lo+l
       ·rw[if_pos a1]
        have:=above (b-1-lo) (by omega) (by omega)
        rwa [show lo+(b-1-lo)=b-1 by omega]at this
       ·rw[if_neg a1]
        by_cases a2:lo+l<a∧a≤lo+k
        ·rw[if_pos a2];exact on _ _ (by omega) (by omega) (by omega)
        ·rw[if_neg a2];exact on _ _ (by omega) (by omega) (by omega)
      ·rw[if_neg b2,if_neg (by omega),if_neg (by omega)]
       exact on _ _ ha hab (by omega)
   ·rw[if_neg hge]
    refine wpS_bind (lU L B' (by omega) (by omega) ?_)
    dsimp only
    cases e:blt (g (arrOf st2) (lo+k)) (g (arrOf st2) (lo+(l+r)/2))with
    |true=>
     rw[if_pos rfl]
     refine wpS_pure ⟨rfl,l,(l+r)/2,rfl,by omega,by omega,by omega,below,λj a b=>?_⟩
     by_cases ej:j=(l+r)/2
     ·subst ej;exact C.of_lt e
     ·exact C.trans (C.of_lt e) (on _ _ (by omega) (by omega) (by omega))
    |false=>
     rw[if_neg (by decide)]
     refine wpS_pure ⟨rfl,(l+r)/2+1,r,rfl,by omega,by omega,by omega,λj a=>?_,above⟩
     by_cases ej:j=(l+r)/2
     ·subst ej;exact e
     ·exact C.trans (on _ _ (by omega) (by omega) (by omega)) e
  ·rintro c st2 ⟨rfl,l,r,rfl,hlr,hrk,hm,below,above⟩
   have ek:max 0 k=k:=QO (Qf _)
   rw[ek]at hm
   have elr:l=r:=by omega
   dsimp only
   refine wpS_bind (xO B' (by omega) (by omega) λst3 B3 hp3 hy=>wpS_pure ⟨rfl,B3,hp3.trans hp,λq hq=>?_,by omega,by omega,?_⟩)
   ·rw[hy q,if_neg (by omega),if_neg (by omega)];exact hk q hq
   ·intro a b ha hab hb
    rw[hy a,hy b]
    by_cases b1:b=lo+l
    ·rw[if_pos b1,if_neg (by omega),if_neg (by omega)]
     have:=below (a-lo) (by omega)
     rwa [show lo+(a-lo)=a by omega]at this
    ·rw[if_neg b1]
     by_cases b2:lo+l<b∧b≤lo+k
     ·rw[if_pos b2]
      by_cases a1:a=lo+l
      ·rw[if_pos a1]
       have:=above (b-1-lo) (by omega) (by omega)
       rwa [show lo+(b-1-lo)=b-1 by omega]at this
      ·rw[if_neg a1]
       by_cases a2:lo+l<a∧a≤lo+k
       ·rw[if_pos a2];exact on _ _ (by omega) (by omega) (by omega)
       ·rw[if_neg a2];exact on _ _ (by omega) (by omega) (by omega)
     ·rw[if_neg b2,if_neg (by omega),if_neg (by omega)]
      exact on _ _ ha hab (by omega)
 ·rintro c st' ⟨rfl,B',hp,hk,h2,h3,on⟩
  have e:max ok n=n:=QO hok
  rw[e]at on
  exact wpS_pure (h st' B' hp on hk)
def C2:Bool→Keyed→Array Keyed→Nat→Nat→Nat→StateT SortSt Sem (Option Nat):=sortPriv%PySem.Builtin.gallop
omit L in
theorem sK {γ:Type} {st:SortSt} {n lo hi:Nat} {f:Nat→Option γ×Nat×Nat→StateT SortSt Sem (ForInStep (Option γ×Nat×Nat))} {Q:Option γ×Nat×Nat→SortSt→Prop} (be:Nat→Bool) (mono:∀i j,i≤j→j<n→be j=true→be i=true)
  (hf:∀(i lo hi:Nat) (R:ForInStep (Option γ×Nat×Nat)→SortSt→Prop),hi≤n→(lo≥hi→R (.done (none,lo,hi)) st)→(lo<hi→be (lo+(hi-lo)/2)=true→R (.yield (none,lo+(hi-lo)/2+1,hi)) st)→(lo<hi→be (lo+(hi-lo)/2)=false→R (.yield (none,lo,lo+(hi-lo)/2)) st)→wpS (model prog w) A E s (f i (none,lo,hi)) R st)
  (h1:lo≤hi) (h2:hi≤n) (ht:∀i,i<lo→be i=true) (hF:∀i,hi≤i→i<n→be i=false)
  (h:∀k,k≤n→(∀i,i<k→be i=true)→(∀i,k≤i→i<n→be i=false)→Q (none,k,k) st):wpS (model prog w) A E s (forIn [0:n] (none,lo,hi) f) Q st:=by
 refine wpS_forRange (I:=λi c st'=>st'=st∧∃lo hi,c=(none,lo,hi)∧lo≤hi∧hi≤n∧hi-lo≤n-i∧(∀i,i<lo→be i=true)∧(∀i,hi≤i→i<n→be i=false)) ?_ ?_
  ⟨rfl,lo,hi,rfl,h1,h2,by omega,ht,hF⟩
 ·rintro i c st' hi1 hi2 ⟨rfl,lo,hi,rfl,g1,g2,g3,g4,g5⟩
  refine hf i lo hi _ g2 (λz=>?_) (λz e=>?_) (λz e=>?_)
  ·have e:lo=hi:=by omega
   subst e
   exact h lo g2 g4 g5
  ·exact⟨rfl,_,_,rfl,by omega,g2,by omega,λj hj=>mono j _ (by omega) (by omega) e,g5⟩
  ·refine⟨rfl,_,_,rfl,by omega,by omega,by omega,g4,λj a b=>?_⟩
   cases q:be j with
   |false=>rfl
   |true=>rw[mono _ j a b q]at e;cases e
 ·rintro c st' ⟨rfl,lo,hi,rfl,g1,g2,g3,g4,g5⟩
  have em:max 0 n=n:=QO (Qf _)
  rw[em]at g3
  have e:lo=hi:=by omega
  subst e
  exact h lo g2 g4 g5
theorem fg {left:Bool} {key:Keyed} {arr:Array Keyed} {base n hint:Nat} {st:SortSt} {Q:Option Nat→SortSt→Prop} (hK:kindOf st=κ) (hk:key∈a₀) (ha:∀i,i<n→base+i<arr.size∧g arr (base+i)∈a₀) (hh:hint<n)
  (be:Nat→Bool) (hbe:∀i,i<n→be i=if left=true then blt (g arr (base+i)) key else !blt key (g arr (base+i))) (mono:∀i j,i≤j→j<n→be j=true→be i=true)
  (h:∀k,k≤n→(∀i,i<k→be i=true)→(∀i,k≤i→i<n→be i=false)→Q (some k) st):wpS (model prog w) A E s (C2 left key arr base n hint) Q st:=by
 have bey:∀(i:Nat) (R:Option Bool→SortSt→Prop),i<n→R (some (be i)) st→wpS (model prog w) A E s (elem' arr (base+i)>>=λx=>if left=true then lt' x key else lt' key x>>=λr=>pure (r.map λx=>!x)) R st:=by
  intro i R hi q
  obtain⟨h1,h2⟩:=ha i hi
  rw[elem'_eq,cG h1]
  refine wpS_bind (wpS_pure ?_)
  have e:=hbe i hi
  cases left with
  |true=>
   rw[if_pos rfl]at e⊢
   exact L _ _ st R h2 hk hK (by rw[←e];exact q)
  |false=>
   rw[if_neg (by decide)]at e⊢
   refine wpS_bind (L _ _ st _ hk h2 hK (wpS_pure ?_))
   show R (some (!blt key (g arr (base+i)))) st
   rw[←e];exact q
 refine wpS_bind ?_
 dsimp only
 refine bey hint _ hh ?_
 dsimp only
 cases e0:be hint with
 |true=>
  rw[if_pos rfl]
  refine wpS_bind (wpS_mono (wpS_forRange (I:=λi c st'=>st'=st∧∃la ofs,c=(none,la,ofs)∧la<ofs∧i+1≤ofs∧hint+la<n∧be (hint+la)=true)
   (Q:=λc st'=>st'=st∧∃la ofs,c=(none,la,ofs)∧la<ofs∧hint+la<n∧be (hint+la)=true∧(n-hint≤ofs∨(hint+ofs<n∧be (hint+ofs)=false))) ?_ ?_ ⟨rfl,0,1,rfl,by omega,by omega,by omega,e0⟩) ?_)
  ·rintro i c st' hi1 hi2 ⟨rfl,la,ofs,rfl,a1,a2,a3,a4⟩
   dsimp only
   by_cases z:ofs≥n-hint
   ·rw[if_pos z]
    exact wpS_pure ⟨rfl,la,ofs,rfl,a1,a3,a4,.inl z⟩
   ·rw[if_neg z]
    refine wpS_bind (bey (hint+ofs) _ (by omega) ?_)
    dsimp only
    cases e:be (hint+ofs)with
    |false=>
     rw[if_pos (by decide)]
     exact wpS_pure ⟨rfl,la,ofs,rfl,a1,a3,a4,.inr ⟨by omega,e⟩⟩
    |true=>
     rw[if_neg (by decide)]
     exact wpS_pure ⟨rfl,ofs,2*ofs+1,rfl,by omega,by omega,by omega,e⟩
  ·rintro c st' ⟨rfl,la,ofs,rfl,a1,a2,a3,a4⟩
   have em:max 0 n=n:=QO (Qf _)
   rw[em]at a2
   exact⟨rfl,la,ofs,rfl,a1,a3,a4,.inl (by omega)⟩
  ·rintro c st' ⟨rfl,la,ofs,rfl,a1,a3,a4,a5⟩
   dsimp only
   refine wpS_bind (sK be mono (λi lo hi R hn c1 c2 c3=>?_) (by omega) (by omega) (λi hi=>mono i (hint+la) (by omega) a3 a4) (λi h1 h2=>?_) λk h1 h2 h3=>?_)
   ·dsimp only
    by_cases z:lo≥hi
    ·rw[if_pos z];exact wpS_pure (c1 z)
    ·rw[if_neg z]
     refine wpS_bind (bey _ _ (by omega) ?_)
     dsimp only
     cases e:be (lo+(hi-lo)/2)with
     |true=>rw[if_pos rfl];exact wpS_pure (c2 (by omega) e)
     |false=>rw[if_neg (by decide)];exact wpS_pure (c3 (by omega) e)
   ·rcases a5 with z|⟨z1,z2⟩
    ·omega
    ·cases q:be i with
     |false=>rfl
     |true=>rw[mono (hint+ofs) i (by omega) h2 q]at z2;cases z2
   ·exact wpS_pure (h k h1 h2 h3)
 |false=>
  rw[if_neg (by decide)]
  refine wpS_bind (wpS_mono (wpS_forRange (I:=λi c st'=>st'=st∧∃la ofs,c=(none,la,ofs)∧la<ofs∧i+1≤ofs∧la≤hint∧be (hint-la)=false)
   (Q:=λc st'=>st'=st∧∃la ofs,c=(none,la,ofs)∧la<ofs∧la≤hint∧be (hint-la)=false∧(hint+1≤ofs∨(ofs≤hint∧be (hint-ofs)=true))) ?_ ?_ ⟨rfl,0,1,rfl,by omega,by omega,by omega,e0⟩) ?_)
  ·rintro i c st' hi1 hi2 ⟨rfl,la,ofs,rfl,a1,a2,a3,a4⟩
   dsimp only
   by_cases z:ofs≥hint+1
   ·rw[if_pos z]
    exact wpS_pure ⟨rfl,la,ofs,rfl,a1,a3,a4,.inl z⟩
   ·rw[if_neg z]
    refine wpS_bind (bey (hint-ofs) _ (by omega) ?_)
    dsimp only
    cases e:be (hint-ofs)with
    |true=>
     rw[if_pos rfl]
     exact wpS_pure ⟨rfl,la,ofs,rfl,a1,a3,a4,.inr ⟨by omega,e⟩⟩
    |false=>
     rw[if_neg (by decide)]
     exact wpS_pure ⟨rfl,ofs,2*ofs+1,rfl,by omega,by omega,by omega,e⟩
  ·rintro c st' ⟨rfl,la,ofs,rfl,a1,a2,a3,a4⟩
   have em:max 0 n=n:=QO (Qf _)
   rw[em]at a2
   exact⟨rfl,la,ofs,rfl,a1,a3,a4,.inl (by omega)⟩
  ·rintro c st' ⟨rfl,la,ofs,rfl,a1,a3,a4,a5⟩
   dsimp only
   refine wpS_bind (sK be mono (λi lo hi R hn c1 c2 c3=>?_) (by omega) (by omega) (λi hi=>?_) (λi h1 h2=>?_) λk h1 h2 h3=>?_)
   ·dsimp only
    by_cases z:lo≥hi
    ·rw[if_pos z];exact wpS_pure (c1 z)
    ·rw[if_neg z]
     refine wpS_bind (bey _ _ (by omega) ?_)
     dsimp only
     cases e:be (lo+(hi-lo)/2)with
     |true=>rw[if_pos rfl];exact wpS_pure (c2 (by omega) e)
     |false=>rw[if_neg (by decide)];exact wpS_pure (c3 (by omega) e)
   ·rcases a5 with z|⟨z1,z2⟩
    ·omega
    ·exact mono i (hint-ofs) (by omega) (by omega) z2
   ·cases q:be i with
    |false=>rfl
    |true=>rw[mono (hint-la) i (by omega) h2 q]at a4;cases a4
   ·exact wpS_pure (h k h1 h2 h3)
end
end Srt
namespace Srt
open PySem PyProof.Rows
def Az:Array Keyed→Array Keyed→StateT SortSt Sem (Array Keyed):=sortPriv%PySem.Builtin.mergeLo
def AA:Array Keyed→Array Keyed→StateT SortSt Sem (Array Keyed):=sortPriv%PySem.Builtin.mergeHi
section
variable {blt:Keyed→Keyed→Bool}
abbrev PW (blt:Keyed→Keyed→Bool) (l:List Keyed):Prop:=l.Pairwise (le blt)
structure Lo (blt:Keyed→Keyed→Bool) (all o ra rb:List Keyed):Prop where
 perm:(o++(ra++rb)).Perm all
 srt:PW blt o
 low:∀x∈o,∀y∈ra++rb,le blt x y
theorem Lo.a {all o ca ra rb:List Keyed} (h:Lo blt all o (ca++ra) rb) (hs:PW blt (ca++ra)) (hc:∀x∈ca,∀y∈rb,le blt x y):Lo blt all (o++ca) ra rb where
 perm:=by
  refine List.Perm.trans ?_ h.perm
  rw[Qo,Qo]
 srt:=Qk.mpr ⟨h.srt,(Qk.mp hs).1,λx hx y hy=>h.low x hx y (by simp[hy])⟩
 low:=λx hx y hy=>by
  rcases Q4.mp hx with q|q
  ·exact h.low x q y (by rcases Q4.mp hy with z|z<;>simp[z])
  ·rcases Q4.mp hy with z|z
   ·exact(Qk.mp hs).2.2 x q y z
   ·exact hc x q y z
theorem Lo.b {all o ra cb rb:List Keyed} (h:Lo blt all o ra (cb++rb)) (hs:PW blt (cb++rb)) (hc:∀x∈cb,∀y∈ra,le blt x y):Lo blt all (o++cb) ra rb where
 perm:=by
  refine List.Perm.trans ?_ h.perm
  rw[Qo]
  refine List.Perm.append_left o ?_
  rw[←Qo,←Qo]
  exact List.Perm.append_right rb ZN
 srt:=Qk.mpr ⟨h.srt,(Qk.mp hs).1,λx hx y hy=>h.low x hx y (by simp[hy])⟩
 low:=λx hx y hy=>by
  rcases Q4.mp hx with q|q
  ·exact h.low x q y (by rcases Q4.mp hy with z|z<;>simp[z])
  ·rcases Q4.mp hy with z|z
   ·exact hc x q y z
   ·exact(Qk.mp hs).2.2 x q y z
theorem Lo.endA {all o ra:List Keyed} (h:Lo blt all o ra []) (hs:PW blt ra):(o++ra).Perm all∧PW blt (o++ra):=
 ⟨by simpa using h.perm,Qk.mpr ⟨h.srt,hs,λx hx y hy=>h.low x hx y (by simp[hy])⟩⟩
theorem Lo.endB {all o rb:List Keyed} {z:Keyed} (h:Lo blt all o [z] rb) (hs:PW blt rb) (hz:∀x∈rb,le blt x z):(o++(rb++ [z])).Perm all∧PW blt (o++(rb++ [z])):=by
 refine⟨List.Perm.trans (List.Perm.append_left o ZN) h.perm,Qk.mpr ⟨h.srt,Qk.mpr ⟨hs,Z6 _ _,λx hx y hy=>?_⟩,λx hx y hy=>h.low x hx y ?_⟩⟩
 ·rw[Qb.mp hy];exact hz x hx
 ·rcases Q4.mp hy with q|q<;>simp_all
theorem qQ {a:Array Keyed} {i:Nat} (h:i<a.size):a.toList.drop i=g a i::a.toList.drop (i+1):=by
 have e:=cG h
 rw[←Qu]at e
 obtain⟨h1,h2⟩:=Q2.mp e
 rw[QY h1,h2]
theorem iO {a:Array Keyed} {i:Nat} {x:Keyed} (h:x∈a.toList.drop i):∃j,i≤j∧j<a.size∧x=g a j:=by
 obtain⟨k,hk,e⟩:=Zx.mp h
 rw[QG]at hk
 have hs:i+k<a.size:=by rw[←Q6];omega
 refine⟨i+k,by omega,hs,?_⟩
 have e2:=cG hs
 rw[←Qu]at e2
 rw[Zv]at e
 rw[Q3 (by rw[Q6];exact hs)]at e2
 rw[←e]
 exact Option.some.inj e2
theorem fB {a:Array Keyed} (h:On blt a 0 a.size) (i:Nat):PW blt (a.toList.drop i):=by
 refine QT.mpr λj k hj hk hjk=>?_
 rw[QG,Q6]at hj hk
 have e1:=cG (xs:=a) (i:=i+j) (by omega)
 have e2:=cG (xs:=a) (i:=i+k) (by omega)
 rw[←Qu,Q3 (by rw[Q6];omega)]at e1 e2
 rw[Zv,Zv,Option.some.inj e1,Option.some.inj e2]
 exact h _ _ (Qf _) (by omega) (by omega)
theorem Aq {a:Array Keyed} (h:PW blt a.toList):On blt a 0 a.size:=λi j _ hij hj=>by
 have e1:=cG (xs:=a) (i:=i) (by omega)
 have e2:=cG (xs:=a) (i:=j) hj
 rw[←Qu,Q3 (by rw[Q6];omega)]at e1 e2
 rw[←Option.some.inj e1,←Option.some.inj e2]
 exact QT.mp h i j _ _ hij
theorem mK (a:Array Keyed) (i k:Nat):(a.extract i (i+k)).toList=(a.toList.drop i).take k:=by
 rw[Z3,QU]
 congr 1
 omega
theorem fh (a:Array Keyed) (i:Nat):(a.extract i).toList=a.toList.drop i:=by
 rw[Z3,QU,Qz]
 rw[QG,Q6]
 exact Q5 _
theorem we (l:List Keyed) (i k:Nat):l.drop i=(l.drop i).take k++l.drop (i+k):=by
 rw[←XS,QN]
end
structure Like (st st':SortSt):Prop where
 kind:kindOf st'=kindOf st
 arr:arrOf st'=arrOf st
 pend:pendingOf st'=pendingOf st
 fail:failedOf st'=failedOf st
theorem Like.refl (st:SortSt):Like st st:=⟨rfl,rfl,rfl,rfl⟩
section
variable {prog:Program} {w:World} {A:Around} {E:Value→Shared→Prop} {s:Shared} {a₀:Array Keyed} {κ:SortKind} {blt:Keyed→Keyed→Bool}
theorem bv {arr:Array Keyed} {i:Nat} {st:SortSt} {R:Keyed→SortSt→Prop} (h:i<arr.size) (q:R (g arr i) st):wpS (model prog w) A E s (elem' arr i) R st:=by
 rw[elem'_eq,cG h]
 exact wpS_pure q
def wY:Nat→StateT SortSt Sem Unit:=sortPriv%PySem.Builtin.setMinGallop
theorem zP {m:Nat} {st:SortSt} {Q:Unit→SortSt→Prop} (h:∀st',Like st st'→Q () st'):wpS (model prog w) A E s (wY m) Q st:=wpS_modify (h _ ⟨rfl,rfl,rfl,rfl⟩)
variable (L:u7 prog w A E s a₀ κ blt)
include L
theorem wM {a b:Array Keyed} {st:SortSt} {Q:Array Keyed→SortSt→Prop} (C:Cmp blt) (hK:kindOf st=κ) (hm:∀x,x∈a.toList++b.toList→x∈a₀) (oa:On blt a 0 a.size) (ob:On blt b 0 b.size) (ha:0<a.size) (hb:0<b.size)
  (hfirst:blt (g b 0) (g a 0)=true) (hlast:∀j,j<b.size→blt (g b j) (g a (a.size-1))=true)
  (h:∀res st',Like st st'→res.toList.Perm (a.toList++b.toList)→PW blt res.toList→Q res st'):wpS (model prog w) A E s (Az a b) Q st:=by
 have ma:∀i,i<a.size→g a i∈a₀:=λi hi=>hm _ (by have:=tH hi;simp[this])
 have mb:∀i,i<b.size→g b i∈a₀:=λi hi=>hm _ (by have:=tH hi;simp[this])
 have doneA:∀(o:List Keyed) (ia:Nat) (st':SortSt) (res:Array Keyed),Like st st'→Lo blt (a.toList++b.toList) o (a.toList.drop ia) []→res.toList=o++a.toList.drop ia→Q res st':=λo ia st' res lk lo e=>by
  obtain⟨p1,p2⟩:=lo.endA (fB oa ia)
  exact h res st' lk (by rw[e];exact p1) (by rw[e];exact p2)
 have doneB:∀(o:List Keyed) (ib:Nat) (st':SortSt) (res:Array Keyed),Like st st'→Lo blt (a.toList++b.toList) o (a.toList.drop (a.size-1)) (b.toList.drop ib)→res.toList=o++(b.toList.drop ib++a.toList.drop (a.size-1))→Q res st':=λo ib st' res lk lo e=>by
  have ez:a.toList.drop (a.size-1)=[g a (a.size-1)]:=by
   rw[qQ (by omega),Z9 (by rw[Q6];omega)]
  rw[ez]at lo e
  obtain⟨p1,p2⟩:=lo.endB (fB ob ib) (λx hx=>by
   obtain⟨j,_,hj,rfl⟩:=iO hx
   exact C.of_lt (hlast j hj))
  exact h res st' lk (by rw[e];exact p1) (by rw[e];exact p2)
 have chunkA:∀(out:Array Keyed) (ia ib k:Nat),ia+k≤a.size→ib<b.size→Lo blt (a.toList++b.toList) out.toList (a.toList.drop ia) (b.toList.drop ib)→(∀i,i<k→blt (g b ib) (g a (ia+i))=false)→
   Lo blt (a.toList++b.toList) (out++a.extract ia (ia+k)).toList (a.toList.drop (ia+k)) (b.toList.drop ib):=λout ia ib k h1 h2 lo hk=>by
  rw[QF,mK]
  have pa:=fB oa ia
  rw[we a.toList ia k]at lo pa
  refine lo.a pa λx hx y hy=>?_
  obtain⟨i,hi,e⟩:=Zx.mp hx
  rw[Q7,QG,Q6]at hi
  have ex:x=g a (ia+i):=by
   have e2:=cG (xs:=a) (i:=ia+i) (by omega)
   rw[←Qu,Q3 (by rw[Q6];omega)]at e2
   rw[Zl,Zv]at e
   rw[←e];exact Option.some.inj e2
  obtain⟨j,hj1,hj2,rfl⟩:=iO hy
  have l1:le blt x (g b ib):=by rw[ex];exact hk i (by omega)
  by_cases ej:j=ib
  ·rw[ej];exact l1
  ·exact C.trans l1 (ob ib j (Qf _) (by omega) hj2)
 have chunkB:∀(out:Array Keyed) (ia ib k:Nat),ib+k≤b.size→ia<a.size→Lo blt (a.toList++b.toList) out.toList (a.toList.drop ia) (b.toList.drop ib)→(∀i,i<k→blt (g b (ib+i)) (g a ia)=true)→
   Lo blt (a.toList++b.toList) (out++b.extract ib (ib+k)).toList (a.toList.drop ia) (b.toList.drop (ib+k)):=λout ia ib k h1 h2 lo hk=>by
  rw[QF,mK]
  have pb:=fB ob ib
  rw[we b.toList ib k]at lo pb
  refine lo.b pb λx hx y hy=>?_
  obtain⟨i,hi,e⟩:=Zx.mp hx
  rw[Q7,QG,Q6]at hi
  have ex:x=g b (ib+i):=by
   have e2:=cG (xs:=b) (i:=ib+i) (by omega)
   rw[←Qu,Q3 (by rw[Q6];omega)]at e2
   rw[Zl,Zv]at e
   rw[←e];exact Option.some.inj e2
  obtain⟨j,hj1,hj2,rfl⟩:=iO hy
  have l1:le blt x (g a ia):=by rw[ex];exact C.of_lt (hk i (by omega))
  by_cases ej:j=ia
  ·rw[ej];exact l1
  ·exact C.trans l1 (oa ia j (Qf _) (by omega) hj2)
 have one:∀(x:Array Keyed) (i:Nat),i<x.size→(x.extract i (i+1))= #[g x i]:=λx i hi=>by
  apply Array.ext'
  rw[mK,qQ hi]
  rfl
 have stepB:∀(out:Array Keyed) (ia ib:Nat),ia<a.size→ib<b.size→Lo blt (a.toList++b.toList) out.toList (a.toList.drop ia) (b.toList.drop ib)→blt (g b ib) (g a ia)=true→
   Lo blt (a.toList++b.toList) (out.push (g b ib)).toList (a.toList.drop ia) (b.toList.drop (ib+1)):=λout ia ib h1 h2 lo hk=>by
  have:=chunkB out ia ib 1 (by omega) h1 lo λi hi=>by rw[show ib+i=ib by omega];exact hk
  rwa [one b ib h2,←ZU]at this
 have stepA:∀(out:Array Keyed) (ia ib:Nat),ia<a.size→ib<b.size→Lo blt (a.toList++b.toList) out.toList (a.toList.drop ia) (b.toList.drop ib)→blt (g b ib) (g a ia)=false→
   Lo blt (a.toList++b.toList) (out.push (g a ia)).toList (a.toList.drop (ia+1)) (b.toList.drop ib):=λout ia ib h1 h2 lo hk=>by
  have:=chunkA out ia ib 1 (by omega) h2 lo λi hi=>by rw[show ia+i=ia by omega];exact hk
  rwa [one a ia h1,←ZU]at this
 have endA:∀(out:Array Keyed) (ia ib:Nat) (st':SortSt),Like st st'→b.size≤ib→Lo blt (a.toList++b.toList) out.toList (a.toList.drop ia) (b.toList.drop ib)→Q (out++a.extract ia++b.extract ib) st':=λout ia ib st' lk hb lo=>by
  have en:b.toList.drop ib=[]:=Z9 (by rw[Q6];omega)
  rw[en]at lo
  refine doneA _ ia st' _ lk lo ?_
  rw[QF,QF,fh,fh,en,ZF]
 have endB:∀(out:Array Keyed) (ia ib:Nat) (st':SortSt),Like st st'→ia+1=a.size→Lo blt (a.toList++b.toList) out.toList (a.toList.drop ia) (b.toList.drop ib)→Q (out++b.extract ib++a.extract ia) st':=λout ia ib st' lk ha lo=>by
  have en:ia=a.size-1:=by omega
  refine doneB out.toList ib st' _ lk (by rw[←en];exact lo) ?_
  rw[QF,QF,fh,fh,←en,Qo]
 have monoA:∀(ka:Nat) (x:Keyed) (i j:Nat),i≤j→ka+j<a.size→(!blt x (g a (ka+j)))=true→(!blt x (g a (ka+i)))=true:=λka x i j h1 h2 h3=>by
  have h3:blt x (g a (ka+j))=false:=by simpa using h3
  by_cases e:i=j
  ·subst e;simpa using h3
  ·have:=C.trans (oa (ka+i) (ka+j) (Qf _) (by omega) h2) h3
   simpa using this
 have monoB:∀(kb:Nat) (x:Keyed) (i j:Nat),i≤j→kb+j<b.size→blt (g b (kb+j)) x=true→blt (g b (kb+i)) x=true:=λkb x i j h1 h2 h3=>by
  by_cases e:i=j
  ·subst e;exact h3
  ·have q:=ob (kb+i) (kb+j) (Qf _) (by omega) h2
   cases z:blt (g b (kb+i)) x with
   |true=>rfl
   |false=>
    have f:blt (g b (kb+j)) x=false:=C.trans z q
    rw[h3]at f
    cases f
 refine wpS_bind ?_
 dsimp only
 refine wpS_lift (wpAny_rule ⟨rfl,?_⟩)
 refine wpS_bind (bv hb ?_)
 have start:Lo blt (a.toList++b.toList) [g b 0] (a.toList.drop 0) (b.toList.drop 1):=by
  have l0:Lo blt (a.toList++b.toList) [] (a.toList.drop 0) ([g b 0]++b.toList.drop 1):=by
   refine⟨?_,List.Pairwise.nil,λx hx=>absurd hx QZ⟩
   have e:=qQ hb
   rw[Zp]at e
   rw[Zp,List.nil_append,List.singleton_append,←e]
  have:=l0.b (by have:=fB ob 0;rw[qQ hb]at this;exact this) (λx hx y hy=>by
   rw[Qb.mp hx]
   obtain⟨j,_,hj,rfl⟩:=iO hy
   by_cases j0:j=0
   ·rw[j0];exact C.of_lt hfirst
   ·exact C.trans (C.of_lt hfirst) (oa 0 j (Q5 _) (by omega) hj))
  simpa using this
 by_cases b1:1=b.size
 ·have eb:(1==b.size)=true:=beq_iff_eq.mpr b1
  rw[if_pos eb]
  refine wpS_pure ?_
  have en:b.toList.drop 1=[]:=Z9 (by rw[Q6];omega)
  rw[en]at start
  refine doneA _ 0 st _ (Like.refl _) start ?_
  simp[b1]
 ·have eb:¬(1==b.size)=true:=by simpa using b1
  rw[if_neg eb]
  by_cases a1:0+1=a.size
  ·have ea:(0+1==a.size)=true:=beq_iff_eq.mpr a1
   rw[if_pos ea]
   refine wpS_pure ?_
   have e0:a.size-1=0:=by omega
   refine doneB [g b 0] 1 st _ (Like.refl _) (by rw[e0];exact start) ?_
   rw[e0,QF,QF,fh,fh,Qo]
  ·have ea:¬(0+1==a.size)=true:=by simpa using a1
   rw[if_neg ea]
   refine wpS_bind (wpS_get ?_)
   refine wpS_bind (wpS_mono (wpS_forRange (I:=λi c st'=>Like st st'∧∃out ia ib mg,c=(none,out,ia,ib,mg)∧ia+1<a.size∧ib<b.size∧i≤ia+ib∧Lo blt (a.toList++b.toList) out.toList (a.toList.drop ia) (b.toList.drop ib))
    (Q:=λc st'=>∃res,c.1=some res∧Q res st') ?_ ?_ ⟨Like.refl _, #[g b 0],0,1,_,rfl,by omega,by omega,by omega,start⟩) ?_)
   ·rintro i c st' hi1 hi2 ⟨lk,out,ia,ib,mg,rfl,ha1,hb1,hi,lo⟩
    have hK':kindOf st'=κ:=lk.kind.trans hK
    refine wpS_bind (wpS_mono (wpS_forRange (I:=λj c st2=>st2=st'∧∃out ja jb p q,c=(none,out,ja,jb,p,q)∧ja+1<a.size∧jb<b.size∧ia+ib≤ja+jb∧Lo blt (a.toList++b.toList) out.toList (a.toList.drop ja) (b.toList.drop jb))
     (Q:=λc st2=>st2=st'∧((∃res,c.1=some res∧Q res st')∨∃out ja jb p q,c=(none,out,ja,jb,p,q)∧ja+1<a.size∧jb<b.size∧ia+ib≤ja+jb∧Lo blt (a.toList++b.toList) out.toList (a.toList.drop ja) (b.toList.drop jb))) ?_ ?_
     ⟨rfl,out,ia,ib,0,0,rfl,ha1,hb1,Q5 _,lo⟩) ?_)
    ·rintro j c st2 hj1 hj2 ⟨rfl,out,ja,jb,p,q,rfl,hja,hjb,hij,lo⟩
     dsimp only
     refine wpS_bind (bv hjb (wpS_bind (bv (by omega) (wpS_bind (L _ _ _ _ (mb jb hjb) (ma ja (by omega)) hK' ?_)))))
     dsimp only
     cases e:blt (g b jb) (g a ja)with
     |true=>
      rw[if_pos rfl]
      have lo':=stepB out ja jb (by omega) hjb lo e
      refine wpS_bind (bv hjb ?_)
      by_cases z:jb+1=b.size
      ·rw[if_pos (beq_iff_eq.mpr z)]
       exact wpS_pure ⟨rfl,.inl ⟨_,rfl,endA _ ja (jb+1) _ lk (by omega) lo'⟩⟩
      ·rw[if_neg (by simpa using z)]
       by_cases y:q+1≥mg
       ·rw[if_pos y]
        exact wpS_pure ⟨rfl,.inr ⟨_,_,_,_,_,rfl,hja,by omega,by omega,lo'⟩⟩
       ·rw[if_neg y]
        exact wpS_pure ⟨rfl,_,_,_,_,_,rfl,hja,by omega,by omega,lo'⟩
     |false=>
      rw[if_neg (by decide)]
      have lo':=stepA out ja jb (by omega) hjb lo e
      refine wpS_bind (bv (by omega) ?_)
      by_cases z:ja+1+1=a.size
      ·rw[if_pos (beq_iff_eq.mpr z)]
       exact wpS_pure ⟨rfl,.inl ⟨_,rfl,endB _ (ja+1) jb _ lk z lo'⟩⟩
      ·rw[if_neg (by simpa using z)]
       by_cases y:p+1≥mg
       ·rw[if_pos y]
        exact wpS_pure ⟨rfl,.inr ⟨_,_,_,_,_,rfl,by omega,hjb,by omega,lo'⟩⟩
       ·rw[if_neg y]
        exact wpS_pure ⟨rfl,_,_,_,_,_,rfl,by omega,hjb,by omega,lo'⟩
    ·rintro c st2 ⟨rfl,out,ja,jb,p,q,rfl,hja,hjb,hij,lo⟩
     exact⟨rfl,.inr ⟨_,_,_,_,_,rfl,hja,hjb,hij,lo⟩⟩
    ·rintro ⟨r,c⟩ st2 ⟨rfl,⟨res,e,q⟩|⟨out,ja,jb,p,q,e,hja,hjb,hij,lo⟩⟩
     ·dsimp only at e
      subst e
      exact wpS_pure ⟨res,rfl,q⟩
     ·obtain⟨rfl,rfl⟩:=Prod.mk.inj e
      dsimp only
      refine wpS_bind (wpS_lift (wpAny_rule ⟨rfl,?_⟩))
      refine wpS_bind (wpS_mono (wpS_forRange (I:=λj c st3=>Like st st3∧∃out ka kb m' p q,c=(none,out,ka,kb,m',p,q)∧ka+1<a.size∧kb<b.size∧ia+ib+j≤ka+kb∧Lo blt (a.toList++b.toList) out.toList (a.toList.drop ka) (b.toList.drop kb))
       (Q:=λc st3=>Like st st3∧((∃res,c.1=some res∧Q res st3)∨∃out ka kb m' p q,c=(none,out,ka,kb,m',p,q)∧ka+1<a.size∧kb<b.size∧ia+ib+1≤ka+kb∧Lo blt (a.toList++b.toList) out.toList (a.toList.drop ka) (b.toList.drop kb))) ?_ ?_
       ⟨lk,out,ja,jb,_,_,_,rfl,hja,hjb,by omega,lo⟩) ?_)
      ·rintro j c st3 hj1 hj2 ⟨lk3',out,ka,kb,m',p,q,rfl,hka,hkb,hij,lo⟩
       dsimp only
       by_cases m1:m'>1
       case' pos=>rw[if_pos m1]
       case' neg=>rw[if_neg m1]
       all_goals
        refine wpS_bind (zP λst4 lk3=>?_)
        have lk4:Like st st4:=⟨lk3.kind.trans lk3'.kind,lk3.arr.trans lk3'.arr,lk3.pend.trans lk3'.pend,lk3.fail.trans lk3'.fail⟩
        have hK4:kindOf st4=κ:=lk4.kind.trans hK
        refine wpS_bind (bv hkb ?_)
        refine wpS_bind (fg L hK4 (mb kb hkb) (λi hi=>⟨by omega,ma _ (by omega)⟩) (by omega) (λi=>!blt (g b kb) (g a (ka+i))) (λi hi=>rfl) (λi j h1 h2 h3=>monoA ka _ i j h1 (by omega) h3) λk hk1 hk2 hk3=>?_)
        dsimp only
        have klt:k<a.size-ka:=by
         rcases Nat.lt_or_ge k (a.size-ka)with z|z
         ·exact z
         ·have f:=hk2 (a.size-1-ka) (by omega)
          rw[show ka+(a.size-1-ka)=a.size-1 by omega,hlast kb hkb]at f
          cases f
        have hk2':∀i,i<k→blt (g b kb) (g a (ka+i))=false:=λi hi=>by have:=hk2 i hi;simpa using this
        have bw:blt (g b kb) (g a (ka+k))=true:=by have:=hk3 k (Q5 _) klt;simpa using this
        have lo1:=lo
        by_cases k0:k>0
        case' pos=>
         rw[if_pos k0]
         replace lo1:=chunkA out ka kb k (by omega) hkb lo hk2'
         by_cases z:ka+k+1=a.size
         case pos=>
          rw[if_pos (beq_iff_eq.mpr z)]
          exact wpS_pure ⟨lk4,.inl ⟨_,rfl,endB _ (ka+k) kb _ lk4 z lo1⟩⟩
         have zz:¬ka+k=a.size:=by omega
         rw[if_neg (by simpa using z),if_neg (by simpa using zz)]
         obtain⟨kc,ek⟩:∃kc,kc=ka+k:=⟨_,rfl⟩
        case' neg=>
         rw[if_neg k0]
         rw[show k=0 by omega,ZL]at bw
         obtain⟨kc,ek⟩:∃kc,kc=ka:=⟨_,rfl⟩
        all_goals
         rw[←ek]at lo1 bw⊢
         refine wpS_bind (bv hkb ?_)
         have lo2:=stepB _ kc kb (by omega) hkb lo1 bw
         by_cases z2:kb+1=b.size
         case pos=>
          rw[if_pos (beq_iff_eq.mpr z2)]
          exact wpS_pure ⟨lk4,.inl ⟨_,rfl,endA _ kc (kb+1) _ lk4 (by omega) lo2⟩⟩
         rw[if_neg (by simpa using z2)]
         refine wpS_bind (bv (by omega) ?_)
         refine wpS_bind (fg L hK4 (ma _ (by omega)) (λi hi=>⟨by omega,mb _ (by omega)⟩) (by omega) (λi=>blt (g b (kb+1+i)) (g a kc)) (λi hi=>rfl) (λi j h1 h2 h3=>monoB (kb+1) _ i j h1 (by omega) h3) λk2 h1 h2 h3=>?_)
         dsimp only
         have lo3:=lo2
         by_cases q0:k2>0
         case' pos=>
          rw[if_pos q0]
          replace lo3:=chunkB _ kc (kb+1) k2 (by omega) (by omega) lo2 h2
          by_cases z3:kb+1+k2=b.size
          case pos=>
           rw[if_pos (beq_iff_eq.mpr z3)]
           exact wpS_pure ⟨lk4,.inl ⟨_,rfl,endA _ kc (kb+1+k2) _ lk4 (by omega) lo3⟩⟩
          rw[if_neg (by simpa using z3)]
          have w3:=h3 k2 (Q5 _) (by omega)
          obtain⟨kd,ed⟩:∃kd,kd=kb+1+k2:=⟨_,rfl⟩
         case' neg=>
          rw[if_neg q0]
          have w3:blt (g b (kb+1)) (g a kc)=false:=h3 0 (by omega) (by omega)
          obtain⟨kd,ed⟩:∃kd,kd=kb+1:=⟨_,rfl⟩
         all_goals
          rw[←ed]at lo3 w3⊢
          refine wpS_bind (bv (by omega) ?_)
          have lo4:=stepA _ kc kd (by omega) (by omega) lo3 w3
          by_cases z4:kc+1+1=a.size
          case pos=>
           rw[if_pos (beq_iff_eq.mpr z4)]
           exact wpS_pure ⟨lk4,.inl ⟨_,rfl,endB _ (kc+1) kd _ lk4 z4 lo4⟩⟩
          rw[if_neg (by simpa using z4)]
          split
          ·exact wpS_pure ⟨lk4,.inr ⟨_,_,_,_,_,_,rfl,by omega,by omega,by omega,lo4⟩⟩
          ·exact wpS_pure ⟨lk4,_,_,_,_,_,_,rfl,by omega,by omega,by omega,lo4⟩
      ·rintro c st3 ⟨lk3,out,ka,kb,m',p,q,rfl,hka,hkb,hij,lo⟩
       have em:max 0 (a.size+b.size)=a.size+b.size:=QO (Qf _)
       rw[em]at hij
       omega
      ·rintro ⟨r,c⟩ st3 ⟨lk3,⟨res,e,q⟩|⟨out,ka,kb,m',p,q,e,hka,hkb,hij,lo⟩⟩
       ·dsimp only at e
        subst e
        exact wpS_pure ⟨res,rfl,q⟩
       ·obtain⟨rfl,rfl⟩:=Prod.mk.inj e
        dsimp only
        refine wpS_bind (wpS_modify (wpS_pure ⟨⟨lk3.kind,lk3.arr,lk3.pend,lk3.fail⟩,_,_,_,_,rfl,hka,hkb,by omega,lo⟩))
   ·rintro c st' ⟨lk,out,ia,ib,mg,rfl,ha1,hb1,hi,lo⟩
    have em:max 0 (a.size+b.size)=a.size+b.size:=QO (Qf _)
    rw[em]at hi
    omega
   ·rintro ⟨r,c⟩ st' ⟨res,e,q⟩
    dsimp only at e
    subst e
    exact wpS_pure q
end
section
variable {blt:Keyed→Keyed→Bool}
structure Hi (blt:Keyed→Keyed→Bool) (all o ra rb:List Keyed):Prop where
 perm:((ra++rb)++o).Perm all
 srt:PW blt o
 high:∀x∈ra++rb,∀y∈o,le blt x y
theorem Hi.a {all o ca ra rb:List Keyed} (h:Hi blt all o (ra++ca) rb) (hs:PW blt (ra++ca)) (hc:∀x∈rb,∀y∈ca,le blt x y):Hi blt all (ca++o) ra rb where
 perm:=by
  refine List.Perm.trans ?_ h.perm
  rw[←Qo]
  refine List.Perm.append_right o ?_
  rw[Qo,Qo]
  exact List.Perm.append_left ra ZN
 srt:=Qk.mpr ⟨(Qk.mp hs).2.1,h.srt,λx hx y hy=>h.high x (by simp[hx]) y hy⟩
 high:=λx hx y hy=>by
  rcases Q4.mp hy with q|q
  ·rcases Q4.mp hx with z|z
   ·exact(Qk.mp hs).2.2 x z y q
   ·exact hc x z y q
  ·exact h.high x (by rcases Q4.mp hx with z|z<;>simp[z]) y q
theorem Hi.b {all o ra cb rb:List Keyed} (h:Hi blt all o ra (rb++cb)) (hs:PW blt (rb++cb)) (hc:∀x∈ra,∀y∈cb,le blt x y):Hi blt all (cb++o) ra rb where
 perm:=by
  refine List.Perm.trans ?_ h.perm
  rw[←Qo]
  refine List.Perm.append_right o ?_
  rw[Qo]
 srt:=Qk.mpr ⟨(Qk.mp hs).2.1,h.srt,λx hx y hy=>h.high x (by simp[hx]) y hy⟩
 high:=λx hx y hy=>by
  rcases Q4.mp hy with q|q
  ·rcases Q4.mp hx with z|z
   ·exact hc x z y q
   ·exact(Qk.mp hs).2.2 x z y q
  ·exact h.high x (by rcases Q4.mp hx with z|z<;>simp[z]) y q
theorem zY {a:Array Keyed} {i:Nat} (h:i<a.size):a.toList.take (i+1)=a.toList.take i++ [g a i]:=by
 have e:=cG h
 rw[←Qu]at e
 rw[Qr,e]
 rfl
theorem fK {a:Array Keyed} {n:Nat} {x:Keyed} (h:x∈a.toList.take n):∃j,j<n∧j<a.size∧x=g a j:=by
 obtain⟨k,hk,e⟩:=Zx.mp h
 rw[Q7,Q6]at hk
 refine⟨k,by omega,by omega,?_⟩
 have e2:=cG (xs:=a) (i:=k) (by omega)
 rw[←Qu,Q3 (by rw[Q6];omega)]at e2
 rw[Zl]at e
 rw[←e]
 exact Option.some.inj e2
theorem c7 {a:Array Keyed} {i n:Nat} {x:Keyed} (h:x∈(a.extract i n).toList):∃j,i≤j∧j<n∧j<a.size∧x=g a j:=by
 rw[Z3,QU]at h
 obtain⟨k,hk,e⟩:=Zx.mp h
 rw[Q7,QG,Q6]at hk
 refine⟨i+k,by omega,by omega,by omega,?_⟩
 have e2:=cG (xs:=a) (i:=i+k) (by omega)
 rw[←Qu,Q3 (by rw[Q6];omega)]at e2
 rw[Zl,Zv]at e
 rw[←e]
 exact Option.some.inj e2
theorem j4 {a:Array Keyed} (h:On blt a 0 a.size) (n:Nat):PW blt (a.toList.take n):=by
 have:=fB h 0
 rw[Zp]at this
 exact List.Pairwise.sublist (X3 _ _) this
theorem vj {a:Array Keyed} {i n:Nat} (h:i≤n):a.toList.take n=a.toList.take i++(a.extract i n).toList:=by
 rw[Z3,QU]
 obtain⟨k,rfl⟩:∃k,n=i+k:=⟨n-i,by omega⟩
 rw[List.take_add,show i+k-i=k by omega]
theorem C7 (a:Array Keyed) (n:Nat):(a.extract 0 n).toList=a.toList.take n:=by
 rw[Z3,QU,Zp,Nat.sub_zero]
end
section
variable {prog:Program} {w:World} {A:Around} {E:Value→Shared→Prop} {s:Shared} {a₀:Array Keyed} {κ:SortKind} {blt:Keyed→Keyed→Bool}
variable (L:u7 prog w A E s a₀ κ blt)
include L
theorem wN {a b:Array Keyed} {st:SortSt} {Q:Array Keyed→SortSt→Prop} (C:Cmp blt) (hK:kindOf st=κ) (hm:∀x,x∈a.toList++b.toList→x∈a₀) (oa:On blt a 0 a.size) (ob:On blt b 0 b.size) (ha:0<a.size) (hb:0<b.size)
  (hfirst:blt (g b 0) (g a 0)=true) (hlast:∀j,j<b.size→blt (g b j) (g a (a.size-1))=true)
  (h:∀res st',Like st st'→res.toList.Perm (a.toList++b.toList)→PW blt res.toList→Q res st'):wpS (model prog w) A E s (AA a b) Q st:=by
 have ma:∀i,i<a.size→g a i∈a₀:=λi hi=>hm _ (by have:=tH hi;simp[this])
 have mb:∀i,i<b.size→g b i∈a₀:=λi hi=>hm _ (by have:=tH hi;simp[this])
 have bfirst:∀i,i<a.size→blt (g b 0) (g a i)=true:=λi hi=>by
  by_cases i0:i=0
  ·rw[i0];exact hfirst
  ·cases z:blt (g b 0) (g a i)with
   |true=>rfl
   |false=>
    have f:blt (g b 0) (g a 0)=false:=C.trans (oa 0 i (Q5 _) (by omega) hi) z
    rw[hfirst]at f
    cases f
 have chunkA:∀(out:Array Keyed) (na nb k:Nat),k≤na→na≤a.size→1≤nb→nb≤b.size→Hi blt (a.toList++b.toList) out.reverse.toList (a.toList.take na) (b.toList.take nb)→(∀i,k≤i→i<na→blt (g b (nb-1)) (g a i)=true)→
   Hi blt (a.toList++b.toList) (out++(a.extract k na).reverse).reverse.toList (a.toList.take k) (b.toList.take nb):=λout na nb k h1 h2 h3 h4 lo hk=>by
  have er:(out++(a.extract k na).reverse).reverse.toList=(a.extract k na).toList++out.reverse.toList:=by simp
  have pa:=j4 oa na
  rw[vj h1]at lo pa
  rw[er]
  refine lo.a pa λx hx y hy=>?_
  obtain⟨i,hi1,hi2,hi3,rfl⟩:=c7 hy
  obtain⟨j,hj1,hj2,rfl⟩:=fK hx
  have l1:=C.of_lt (hk i hi1 hi2)
  by_cases ej:j=nb-1
  ·rw[ej];exact l1
  ·exact C.trans (ob j (nb-1) (Qf _) (by omega) (by omega)) l1
 have chunkB:∀(out:Array Keyed) (na nb k:Nat),k≤nb→nb≤b.size→1≤na→na≤a.size→Hi blt (a.toList++b.toList) out.reverse.toList (a.toList.take na) (b.toList.take nb)→(∀i,k≤i→i<nb→blt (g b i) (g a (na-1))=false)→
   Hi blt (a.toList++b.toList) (out++(b.extract k nb).reverse).reverse.toList (a.toList.take na) (b.toList.take k):=λout na nb k h1 h2 h3 h4 lo hk=>by
  have er:(out++(b.extract k nb).reverse).reverse.toList=(b.extract k nb).toList++out.reverse.toList:=by simp
  have pb:=j4 ob nb
  rw[vj h1]at lo pb
  rw[er]
  refine lo.b pb λx hx y hy=>?_
  obtain⟨i,hi1,hi2,hi3,rfl⟩:=c7 hy
  obtain⟨j,hj1,hj2,rfl⟩:=fK hx
  have l1:le blt (g a (na-1)) (g b i):=hk i hi1 hi2
  by_cases ej:j=na-1
  ·rw[ej];exact l1
  ·exact C.trans (oa j (na-1) (Qf _) (by omega) (by omega)) l1
 have one:∀(x:Array Keyed) (i:Nat),i<x.size→(x.extract i (i+1)).reverse= #[g x i]:=λx i hi=>by
  have:x.extract i (i+1)= #[g x i]:=by
   apply Array.ext'
   rw[mK,qQ hi]
   rfl
  rw[this]
  rfl
 have stepA:∀(out:Array Keyed) (na nb:Nat),1≤na→na≤a.size→1≤nb→nb≤b.size→Hi blt (a.toList++b.toList) out.reverse.toList (a.toList.take na) (b.toList.take nb)→blt (g b (nb-1)) (g a (na-1))=true→
   Hi blt (a.toList++b.toList) (out.push (g a (na-1))).reverse.toList (a.toList.take (na-1)) (b.toList.take nb):=λout na nb h1 h2 h3 h4 lo hk=>by
  have:=chunkA out na nb (na-1) (by omega) h2 h3 h4 lo λi hi hj=>by rw[show i=na-1 by omega];exact hk
  rwa [show a.extract (na-1) na=a.extract (na-1) (na-1+1) by rw[show na-1+1=na by omega],one a (na-1) (by omega),←ZU]at this
 have stepB:∀(out:Array Keyed) (na nb:Nat),1≤na→na≤a.size→1≤nb→nb≤b.size→Hi blt (a.toList++b.toList) out.reverse.toList (a.toList.take na) (b.toList.take nb)→blt (g b (nb-1)) (g a (na-1))=false→
   Hi blt (a.toList++b.toList) (out.push (g b (nb-1))).reverse.toList (a.toList.take na) (b.toList.take (nb-1)):=λout na nb h1 h2 h3 h4 lo hk=>by
  have:=chunkB out na nb (nb-1) (by omega) h4 h1 h2 lo λi hi hj=>by rw[show i=nb-1 by omega];exact hk
  rwa [show b.extract (nb-1) nb=b.extract (nb-1) (nb-1+1) by rw[show nb-1+1=nb by omega],one b (nb-1) (by omega),←ZU]at this
 have endA:∀(out:Array Keyed) (na nb:Nat) (st':SortSt),Like st st'→na=0→nb≤b.size→Hi blt (a.toList++b.toList) out.reverse.toList (a.toList.take na) (b.toList.take nb)→Q (a.extract 0 na++b.extract 0 nb++out.reverse) st':=λout na nb st' lk hn hb2 lo=>by
  subst hn
  have e:(a.extract 0 0++b.extract 0 nb++out.reverse).toList=b.toList.take nb++out.reverse.toList:=by
   rw[QF,QF,C7,C7]
   rfl
  refine h _ st' lk ?_ ?_
  ·rw[e];exact lo.perm
  ·rw[e];exact Qk.mpr ⟨j4 ob nb,lo.srt,λx hx y hy=>lo.high x (by simp[hx]) y hy⟩
 have endB:∀(out:Array Keyed) (na nb:Nat) (st':SortSt),Like st st'→nb=1→na≤a.size→Hi blt (a.toList++b.toList) out.reverse.toList (a.toList.take na) (b.toList.take nb)→Q (b.extract 0 nb++a.extract 0 na++out.reverse) st':=λout na nb st' lk hn ha2 lo=>by
  subst hn
  have e:(b.extract 0 1++a.extract 0 na++out.reverse).toList=(b.toList.take 1++a.toList.take na)++out.reverse.toList:=by
   rw[QF,QF,C7,C7]
  refine h _ st' lk ?_ ?_
  ·rw[e];exact List.Perm.trans (List.Perm.append_right _ ZN) lo.perm
  ·rw[e]
   refine Qk.mpr ⟨Qk.mpr ⟨j4 ob 1,j4 oa na,λx hx y hy=>?_⟩,lo.srt,λx hx y hy=>lo.high x ?_ y hy⟩
   ·obtain⟨i,hi1,hi2,rfl⟩:=fK hx
    obtain⟨j,hj1,hj2,rfl⟩:=fK hy
    rw[show i=0 by omega]
    exact C.of_lt (bfirst j hj2)
   ·rcases Q4.mp hx with z|z
    ·exact Q4.mpr (.inr z)
    ·exact Q4.mpr (.inl z)
 have monoA:∀(ka:Nat) (x:Keyed) (i j:Nat),i≤j→ka+j<a.size→(!blt x (g a (ka+j)))=true→(!blt x (g a (ka+i)))=true:=λka x i j h1 h2 h3=>by
  have h3:blt x (g a (ka+j))=false:=by simpa using h3
  by_cases e:i=j
  ·subst e;simpa using h3
  ·have:=C.trans (oa (ka+i) (ka+j) (Qf _) (by omega) h2) h3
   simpa using this
 have monoB:∀(kb:Nat) (x:Keyed) (i j:Nat),i≤j→kb+j<b.size→blt (g b (kb+j)) x=true→blt (g b (kb+i)) x=true:=λkb x i j h1 h2 h3=>by
  by_cases e:i=j
  ·subst e;exact h3
  ·have q:=ob (kb+i) (kb+j) (Qf _) (by omega) h2
   cases z:blt (g b (kb+i)) x with
   |true=>rfl
   |false=>
    have f:blt (g b (kb+j)) x=false:=C.trans z q
    rw[h3]at f
    cases f
 refine wpS_bind ?_
 dsimp only
 refine wpS_lift (wpAny_rule ⟨rfl,?_⟩)
 refine wpS_bind (bv (by omega) ?_)
 have start:Hi blt (a.toList++b.toList) (#[g a (a.size-1)]:Array Keyed).reverse.toList (a.toList.take (a.size-1)) (b.toList.take b.size):=by
  have l0:Hi blt (a.toList++b.toList) [] (a.toList.take (a.size-1)++ [g a (a.size-1)]) (b.toList.take b.size):=by
   refine⟨?_,List.Pairwise.nil,λx _ y hy=>absurd hy QZ⟩
   rw[←zY (by omega),show a.size-1+1=a.size by omega,ZF]
   have e1:a.toList.take a.size=a.toList:=Qz (by rw[Q6];exact Q5 _)
   have e2:b.toList.take b.size=b.toList:=Qz (by rw[Q6];exact Q5 _)
   rw[e1,e2]
  have:=l0.a (by rw[←zY (by omega)];exact j4 oa _) (λx hx y hy=>by
   rw[Qb.mp hy]
   obtain⟨j,_,hj,rfl⟩:=fK hx
   exact C.of_lt (hlast j hj))
  exact this
 by_cases a1:a.size-1=0
 ·rw[if_pos (beq_iff_eq.mpr a1)]
  exact wpS_pure (endA _ (a.size-1) b.size st (Like.refl _) a1 (Q5 _) start)
 ·rw[if_neg (by simpa using a1)]
  by_cases b1:b.size=1
  ·rw[if_pos (beq_iff_eq.mpr b1)]
   exact wpS_pure (endB _ (a.size-1) b.size st (Like.refl _) b1 (by omega) start)
  ·rw[if_neg (by simpa using b1)]
   refine wpS_bind (wpS_get ?_)
   refine wpS_bind (wpS_mono (wpS_forRange (I:=λi c st'=>Like st st'∧∃na nb out mg,c=(none,na,nb,out,mg)∧1≤na∧na≤a.size∧2≤nb∧nb≤b.size∧na+nb+i≤a.size+b.size∧Hi blt (a.toList++b.toList) out.reverse.toList (a.toList.take na) (b.toList.take nb))
    (Q:=λc st'=>∃res,c.1=some res∧Q res st') ?_ ?_ ⟨Like.refl _,_,_, #[g a (a.size-1)],_,rfl,by omega,by omega,by omega,Q5 _,by omega,start⟩) ?_)
   ·rintro i c st' hi1 hi2 ⟨lk,na,nb,out,mg,rfl,ha1,ha2,hb1,hb2,hi,lo⟩
    have hK':kindOf st'=κ:=lk.kind.trans hK
    refine wpS_bind (wpS_mono (wpS_forRange (I:=λj c st2=>st2=st'∧∃ja jb out p q,c=(none,ja,jb,out,p,q)∧1≤ja∧ja≤a.size∧2≤jb∧jb≤b.size∧ja+jb≤na+nb∧Hi blt (a.toList++b.toList) out.reverse.toList (a.toList.take ja) (b.toList.take jb))
     (Q:=λc st2=>st2=st'∧((∃res,c.1=some res∧Q res st')∨∃ja jb out p q,c=(none,ja,jb,out,p,q)∧1≤ja∧ja≤a.size∧2≤jb∧jb≤b.size∧ja+jb≤na+nb∧Hi blt (a.toList++b.toList) out.reverse.toList (a.toList.take ja) (b.toList.take jb))) ?_ ?_
     ⟨rfl,na,nb,out,0,0,rfl,ha1,ha2,hb1,hb2,Q5 _,lo⟩) ?_)
    ·rintro j c st2 hj1 hj2 ⟨rfl,ja,jb,out,p,q,rfl,hja,hja2,hjb,hjb2,hij,lo⟩
     dsimp only
     refine wpS_bind (bv (by omega) (wpS_bind (bv (by omega) (wpS_bind (L _ _ _ _ (mb (jb-1) (by omega)) (ma (ja-1) (by omega)) hK' ?_)))))
     dsimp only
     cases e:blt (g b (jb-1)) (g a (ja-1))with
     |true=>
      rw[if_pos rfl]
      have lo':=stepA out ja jb (by omega) hja2 (by omega) hjb2 lo e
      refine wpS_bind (bv (by omega) ?_)
      by_cases z:ja-1=0
      ·rw[if_pos (beq_iff_eq.mpr z)]
       exact wpS_pure ⟨rfl,.inl ⟨_,rfl,endA _ (ja-1) jb _ lk z hjb2 lo'⟩⟩
      ·rw[if_neg (by simpa using z)]
       by_cases y:p+1≥mg
       ·rw[if_pos y]
        exact wpS_pure ⟨rfl,.inr ⟨_,_,_,_,_,rfl,by omega,by omega,hjb,hjb2,by omega,lo'⟩⟩
       ·rw[if_neg y]
        exact wpS_pure ⟨rfl,_,_,_,_,_,rfl,by omega,by omega,hjb,hjb2,by omega,lo'⟩
     |false=>
      rw[if_neg (by decide)]
      have lo':=stepB out ja jb (by omega) hja2 (by omega) hjb2 lo e
      refine wpS_bind (bv (by omega) ?_)
      by_cases z:jb-1=1
      ·rw[if_pos (beq_iff_eq.mpr z)]
       exact wpS_pure ⟨rfl,.inl ⟨_,rfl,endB _ ja (jb-1) _ lk z hja2 lo'⟩⟩
      ·rw[if_neg (by simpa using z)]
       by_cases y:q+1≥mg
       ·rw[if_pos y]
        exact wpS_pure ⟨rfl,.inr ⟨_,_,_,_,_,rfl,hja,hja2,by omega,by omega,by omega,lo'⟩⟩
       ·rw[if_neg y]
        exact wpS_pure ⟨rfl,_,_,_,_,_,rfl,hja,hja2,by omega,by omega,by omega,lo'⟩
    ·rintro c st2 ⟨rfl,ja,jb,out,p,q,rfl,hja,hja2,hjb,hjb2,hij,lo⟩
     exact⟨rfl,.inr ⟨_,_,_,_,_,rfl,hja,hja2,hjb,hjb2,hij,lo⟩⟩
    ·rintro ⟨r,c⟩ st2 ⟨rfl,⟨res,e,q⟩|⟨ja,jb,out,p,q,e,hja,hja2,hjb,hjb2,hij,lo⟩⟩
     ·dsimp only at e
      subst e
      exact wpS_pure ⟨res,rfl,q⟩
     ·obtain⟨rfl,rfl⟩:=Prod.mk.inj e
      dsimp only
      refine wpS_bind (wpS_lift (wpAny_rule ⟨rfl,?_⟩))
      refine wpS_bind (wpS_mono (wpS_forRange (I:=λj c st3=>Like st st3∧∃ka kb out m' p q,c=(none,ka,kb,out,m',p,q)∧1≤ka∧ka≤a.size∧2≤kb∧kb≤b.size∧ka+kb+j≤na+nb∧Hi blt (a.toList++b.toList) out.reverse.toList (a.toList.take ka) (b.toList.take kb))
       (Q:=λc st3=>Like st st3∧((∃res,c.1=some res∧Q res st3)∨∃ka kb out m' p q,c=(none,ka,kb,out,m',p,q)∧1≤ka∧ka≤a.size∧2≤kb∧kb≤b.size∧ka+kb+1≤na+nb∧Hi blt (a.toList++b.toList) out.reverse.toList (a.toList.take ka) (b.toList.take kb))) ?_ ?_
       ⟨lk,ja,jb,out,_,_,_,rfl,hja,hja2,hjb,hjb2,by omega,lo⟩) ?_)
      ·rintro j c st3 hj1 hj2 ⟨lk3',ka,kb,out,m',p,q,rfl,hka,hka2,hkb,hkb2,hij,lo⟩
       dsimp only
       by_cases m1:m'>1
       case' pos=>rw[if_pos m1]
       case' neg=>rw[if_neg m1]
       all_goals
        refine wpS_bind (zP λst4 lk3=>?_)
        have lk4:Like st st4:=⟨lk3.kind.trans lk3'.kind,lk3.arr.trans lk3'.arr,lk3.pend.trans lk3'.pend,lk3.fail.trans lk3'.fail⟩
        have hK4:kindOf st4=κ:=lk4.kind.trans hK
        refine wpS_bind (bv (by omega) ?_)
        refine wpS_bind (fg L hK4 (mb (kb-1) (by omega)) (λi hi=>⟨by omega,ma _ (by omega)⟩) (by omega) (λi=>!blt (g b (kb-1)) (g a (0+i))) (λi hi=>rfl) (λi j h1 h2 h3=>monoA 0 _ i j h1 (by omega) h3) λk hk1 hk2 hk3=>?_)
        dsimp only
        have hk2':∀i,i<k→blt (g b (kb-1)) (g a i)=false:=λi hi=>by have f:=hk2 i hi;rw[Xw]at f;simpa using f
        have hk3':∀i,k≤i→i<ka→blt (g b (kb-1)) (g a i)=true:=λi hi hj=>by have f:=hk3 i hi hj;rw[Xw]at f;simpa using f
        have lo1:=lo
        by_cases k0:ka-k>0
        case' pos=>
         rw[if_pos k0]
         replace lo1:=chunkA out ka kb k (by omega) (by omega) (by omega) (by omega) lo hk3'
         by_cases z:k=0
         case pos=>
          rw[if_pos (beq_iff_eq.mpr z)]
          exact wpS_pure ⟨lk4,.inl ⟨_,rfl,endA _ k kb _ lk4 z (by omega) lo1⟩⟩
         rw[if_neg (by simpa using z)]
        case' neg=>
         rw[if_neg k0]
         have e0:k=ka:=by omega
         subst e0
        all_goals
         refine wpS_bind (bv (by omega) ?_)
         have lo2:=stepB _ k kb (by omega) (by omega) (by omega) (by omega) lo1 (hk2' (k-1) (by omega))
         by_cases z2:kb-1=1
         case pos=>
          rw[if_pos (beq_iff_eq.mpr z2)]
          exact wpS_pure ⟨lk4,.inl ⟨_,rfl,endB _ k (kb-1) _ lk4 z2 (by omega) lo2⟩⟩
         rw[if_neg (by simpa using z2)]
         refine wpS_bind (bv (by omega) ?_)
         refine wpS_bind (fg L hK4 (ma _ (by omega)) (λi hi=>⟨by omega,mb _ (by omega)⟩) (by omega) (λi=>blt (g b (0+i)) (g a (k-1))) (λi hi=>rfl) (λi j h1 h2 h3=>monoB 0 _ i j h1 (by omega) h3) λk2 h1 h2 h3=>?_)
         dsimp only
         have k2p:0<k2:=by
          rcases ZI k2 with z|z
          ·have f:blt (g b (0+0)) (g a (k-1))=false:=h3 0 (by omega) (by omega)
           rw[ZL,bfirst (k-1) (by omega)]at f
           cases f
          ·exact z
         have h2':∀i,i<k2→blt (g b i) (g a (k-1))=true:=λi hi=>by have f:=h2 i hi;rwa [Xw]at f
         have h3':∀i,k2≤i→i<kb-1→blt (g b i) (g a (k-1))=false:=λi hi hj=>by have f:=h3 i hi hj;rwa [Xw]at f
         have lo3:=lo2
         by_cases q0:kb-1-k2>0
         case' pos=>
          rw[if_pos q0]
          replace lo3:=chunkB _ k (kb-1) k2 (by omega) (by omega) (by omega) (by omega) lo2 h3'
          by_cases z3:k2=1
          case pos=>
           rw[if_pos (beq_iff_eq.mpr z3)]
           exact wpS_pure ⟨lk4,.inl ⟨_,rfl,endB _ k k2 _ lk4 z3 (by omega) lo3⟩⟩
          have zz:¬k2=0:=by omega
          rw[if_neg (by simpa using z3),if_neg (by simpa using zz)]
         case' neg=>
          rw[if_neg q0]
          have e2:kb-1=k2:=by omega
          rw[e2]at lo3⊢
         all_goals
          refine wpS_bind (bv (by omega) ?_)
          have lo4:=stepA _ k k2 (by omega) (by omega) (by omega) (by omega) lo3 (h2' (k2-1) (by omega))
          by_cases z4:k-1=0
          case pos=>
           rw[if_pos (beq_iff_eq.mpr z4)]
           exact wpS_pure ⟨lk4,.inl ⟨_,rfl,endA _ (k-1) k2 _ lk4 z4 (by omega) lo4⟩⟩
          rw[if_neg (by simpa using z4)]
          split
          ·exact wpS_pure ⟨lk4,.inr ⟨_,_,_,_,_,_,rfl,by omega,by omega,by omega,by omega,by omega,lo4⟩⟩
          ·exact wpS_pure ⟨lk4,_,_,_,_,_,_,rfl,by omega,by omega,by omega,by omega,by omega,lo4⟩
      ·rintro c st3 ⟨lk3,ka,kb,out,m',p,q,rfl,hka,hka2,hkb,hkb2,hij,lo⟩
       have em:max 0 (a.size+b.size)=a.size+b.size:=QO (Qf _)
       rw[em]at hij
       omega
      ·rintro ⟨r,c⟩ st3 ⟨lk3,⟨res,e,q⟩|⟨ka,kb,out,m',p,q,e,hka,hka2,hkb,hkb2,hij,lo⟩⟩
       ·dsimp only at e
        subst e
        exact wpS_pure ⟨res,rfl,q⟩
       ·obtain⟨rfl,rfl⟩:=Prod.mk.inj e
        dsimp only
        refine wpS_bind (wpS_modify (wpS_pure ⟨⟨lk3.kind,lk3.arr,lk3.pend,lk3.fail⟩,_,_,_,_,rfl,hka,hka2,hkb,hkb2,by omega,lo⟩))
   ·rintro c st' ⟨lk,na,nb,out,mg,rfl,ha1,ha2,hb1,hb2,hi,lo⟩
    have em:max 0 (a.size+b.size)=a.size+b.size:=QO (Qf _)
    rw[em]at hi
    omega
   ·rintro ⟨r,c⟩ st' ⟨res,e,q⟩
    dsimp only at e
    subst e
    exact wpS_pure q
end
end Srt
namespace Srt
open PySem PyProof.Rows
section
variable {blt:Keyed→Keyed→Bool}
def lay (arr:Array Keyed) (at_:Nat) (m:Array Keyed):Array Keyed:=m.toList.zipIdx.foldl (λa p=>a.setIfInBounds (at_+p.2) p.1) arr
theorem AK:∀(l:List Keyed) (j:Nat) (arr:Array Keyed) (at_:Nat),at_+j+l.length≤arr.size→
  ((l.zipIdx j).foldl (λa p=>a.setIfInBounds (at_+p.2) p.1) arr).toList=arr.toList.take (at_+j)++l++arr.toList.drop (at_+j+l.length)
 | [],j,arr,at_,h=>by simp
 |x::l,j,arr,at_,h=>by
  rw[List.zipIdx_cons,List.foldl_cons]
  have hl:at_+j<arr.size:=by simp at h;omega
  have ih:=AK l (j+1) (arr.setIfInBounds (at_+j) x) at_ (by simp at h⊢;omega)
  rw[ih,XT]
  have e1:(arr.toList.set (at_+j) x).take (at_+(j+1))=arr.toList.take (at_+j)++ [x]:=by
   rw[show at_+(j+1)=at_+j+1 by omega,Qr,List.take_set_of_le (Q5 _),X8 (by rw[Q6];exact hl)]
   rfl
  have e2:(arr.toList.set (at_+j) x).drop (at_+(j+1)+l.length)=arr.toList.drop (at_+j+(x::l).length):=by
   rw[List.drop_set_of_lt (by omega)]
   congr 1
   simp
   omega
  rw[e1,e2,Qo,Qo,Qo]
  rfl
theorem vV {arr m:Array Keyed} {at_:Nat} (h:at_+m.size≤arr.size):(lay arr at_ m).toList=arr.toList.take at_++m.toList++arr.toList.drop (at_+m.size):=by
 have:=AK m.toList 0 arr at_ (by simpa using h)
 simpa[lay]using this
theorem uP (xs:Array Keyed) (k:Nat):g xs k=(xs.toList[k]?).getD dk:=by unfold g;rw[Qu]
theorem FL {arr m:Array Keyed} {at_:Nat} (h:at_+m.size≤arr.size) (k:Nat):g (lay arr at_ m) k=if at_≤k∧k<at_+m.size then g m (k-at_)else g arr k:=by
 rw[uP,vV h]
 have l1:(arr.toList.take at_).length=at_:=by rw[Q7,Q6];omega
 by_cases a:k<at_
 ·rw[if_neg (by omega),Qo,Zg (by omega),X5 a,←uP]
 ·by_cases b:k<at_+m.size
  ·rw[if_pos ⟨by omega,b⟩,Qo,Zb (by omega),l1,Zg (by rw[Q6];omega),←uP]
  ·rw[if_neg (by omega),Zb (by rw[Q8,l1,Q6];omega),Q8,l1,Q6,ZZ,show at_+m.size+(k-(at_+m.size))=k by omega,←uP]
theorem AJ {arr m:Array Keyed} {at_:Nat} (h:at_+m.size≤arr.size) (p:m.toList.Perm ((arr.toList.drop at_).take m.size)):(lay arr at_ m).Perm arr:=by
 rw[X0,vV h]
 have e:arr.toList=arr.toList.take at_++((arr.toList.drop at_).take m.size++arr.toList.drop (at_+m.size)):=by
  rw[←XS,QN,QN]
 refine List.Perm.trans ?_ (List.Perm.of_eq e.symm)
 rw[Qo]
 exact List.Perm.append_left _ (List.Perm.append_right _ p)
theorem kH {arr:Array Keyed} {i n:Nat} (h:n≤arr.size) {k:Nat} (hk:k<n-i):g (arr.extract i n) k=g arr (i+k):=by
 unfold g
 rw[Array.getElem?_extract,if_pos (by omega)]
theorem pX {arr:Array Keyed} {i n:Nat} (h:n≤arr.size):(arr.extract i n).size=n-i:=by rw[Array.size_extract];omega
theorem uC {arr:Array Keyed} {i n:Nat} (h:n≤arr.size) (o:On blt arr i n):On blt (arr.extract i n) 0 (arr.extract i n).size:=λa b _ hab hb=>by
 rw[pX h]at hb
 rw[kH h (by omega),kH h hb]
 exact o _ _ (by omega) (by omega) (by omega)
end
section
variable {prog:Program} {w:World} {A:Around} {E:Value→Shared→Prop} {s:Shared} {a₀:Array Keyed} {κ:SortKind} {blt:Keyed→Keyed→Bool}
theorem Cd {x st:SortSt} {Q:PUnit→SortSt→Prop} (h:Q ⟨⟩ x):wpS (model prog w) A E s (set x:StateT SortSt Sem PUnit) Q st:=by
 unfold wpS;rw[StateT.run_set];exact wpAny_pure ⟨rfl,h⟩
variable (L:u7 prog w A E s a₀ κ blt)
include L
theorem wO {st:SortSt} {i sa na pa sb nb pb:Nat} {Q:Bool→SortSt→Prop} (C:Cmp blt) (B:Base a₀ κ st) (hi:(pendingOf st)[i]?=some (sa,na,pa)) (hj:(pendingOf st)[i+1]?=some (sb,nb,pb)) (hb:sb=sa+na) (h1:1≤na) (h2:1≤nb) (hz:sb+nb≤a₀.size)
  (oa:On blt (arrOf st) sa (sa+na)) (ob:On blt (arrOf st) sb (sb+nb))
  (h:∀st',Base a₀ κ st'→pendingOf st'=((pendingOf st).setIfInBounds i (sa,na+nb,pa)).eraseIdxIfInBounds (i+1)→On blt (arrOf st') sa (sa+(na+nb))→(∀k,k<sa∨sa+(na+nb)≤k→g (arrOf st') k=g (arrOf st) k)→Q true st'):
  wpS (model prog w) A E s (mergeAt' i) Q st:=by
 subst hb
 have hsz:=B.size
 have hsz':((sortPriv%PySem.Builtin.SortState.a) st).size=a₀.size:=B.size
 refine wpS_bind (wpS_get ?_)
 dsimp only
 rw[hi,hj]
 dsimp only
 refine wpS_bind (Cd ?_)
 have B1:Base a₀ κ (SortSt.mk' (kindOf st) (arrOf st) (((pendingOf st).setIfInBounds i (sa,na+nb,pa)).eraseIdxIfInBounds (i+1)) (gallopOf st) (failedOf st)):=⟨B.kind,B.fine,B.perm⟩
 refine wpS_bind (bv (by omega) ?_)
 refine wpS_bind (fg L B1.kind (B.mem (by omega)) (λj hj=>⟨by omega,B.mem (by omega)⟩) (by omega) (λj=>!blt (g (arrOf st) (sa+na)) (g (arrOf st) (sa+j))) (λj hj=>rfl) (λx y h3 h4 h5=>?_) λk hk1 hk2 hk3=>?_)
 ·have h5:blt (g (arrOf st) (sa+na)) (g (arrOf st) (sa+y))=false:=by simpa using h5
  by_cases e:x=y
  ·subst e;simpa using h5
  ·have:=C.trans (oa (sa+x) (sa+y) (by omega) (by omega) (by omega)) h5
   simpa using this
 ·dsimp only
  have low:∀j,j<k→le blt (g (arrOf st) (sa+j)) (g (arrOf st) (sa+na)):=λj hj=>by have:=hk2 j hj;simpa using this
  have up:∀j,k≤j→j<na→blt (g (arrOf st) (sa+na)) (g (arrOf st) (sa+j))=true:=λj hj hj2=>by have:=hk3 j hj hj2;simpa using this
  have lowB:∀j x,j<k→sa+na≤x→x<sa+na+nb→le blt (g (arrOf st) (sa+j)) (g (arrOf st) x):=λj x hj hx hx2=>by
   by_cases e:x=sa+na
   ·rw[e];exact low j hj
   ·exact C.trans (low j hj) (ob (sa+na) x (Q5 _) (by omega) hx2)
  by_cases n0:na-k=0
  ·rw[if_pos (beq_iff_eq.mpr n0)]
   refine wpS_pure (h _ B1 rfl (λx y hx hxy hy=>?_) λ_ _=>rfl)
   by_cases c:y<sa+na
   ·exact oa x y hx hxy c
   ·by_cases d:x<sa+na
    ·have:=lowB (x-sa) y (by omega) (by omega) (by omega)
     rwa [show sa+(x-sa)=x by omega]at this
    ·exact ob x y (by omega) hxy (by omega)
  ·rw[if_neg (by simpa using n0)]
   refine wpS_bind (bv (by omega) ?_)
   rw[show sa+k+(na-k)-1=sa+na-1 by omega]
   refine wpS_bind (fg L B1.kind (B.mem (by omega)) (λj hj=>⟨by omega,B.mem (by omega)⟩) (by omega) (λj=>blt (g (arrOf st) (sa+na+j)) (g (arrOf st) (sa+na-1))) (λj hj=>rfl) (λx y h3 h4 h5=>?_) λm hm1 hm2 hm3=>?_)
   ·by_cases e:x=y
    ·subst e;exact h5
    ·cases z:blt (g (arrOf st) (sa+na+x)) (g (arrOf st) (sa+na-1))with
     |true=>rfl
     |false=>
      have f:blt (g (arrOf st) (sa+na+y)) (g (arrOf st) (sa+na-1))=false:=C.trans z (ob (sa+na+x) (sa+na+y) (by omega) (by omega) (by omega))
      rw[h5]at f
      cases f
   ·dsimp only
    have hk2':∀j,j<m→blt (g (arrOf st) (sa+na+j)) (g (arrOf st) (sa+na-1))=true:=hm2
    have first:blt (g (arrOf st) (sa+na+0)) (g (arrOf st) (sa+k+0))=true:=by
     rw[ZL,ZL];exact up k (Q5 _) (by omega)
    have mp:0<m:=by
     rcases ZI m with z|z
     ·have f:blt (g (arrOf st) (sa+na+0)) (g (arrOf st) (sa+na-1))=false:=hm3 0 (by omega) (by omega)
      have q:=up (na-1) (by omega) (by omega)
      rw[show sa+(na-1)=sa+na-1 by omega]at q
      rw[ZL,q]at f
      cases f
     ·exact z
    have high:∀x,sa+na+m≤x→x<sa+na+nb→le blt (g (arrOf st) (sa+na-1)) (g (arrOf st) x):=λx hx hx2=>by
     have f:blt (g (arrOf st) (sa+na+(x-(sa+na)))) (g (arrOf st) (sa+na-1))=false:=hm3 (x-(sa+na)) (by omega) (by omega)
     rwa [show sa+na+(x-(sa+na))=x by omega]at f
    have highA:∀y x,sa≤y→y<sa+na→sa+na+m≤x→x<sa+na+nb→le blt (g (arrOf st) y) (g (arrOf st) x):=λy x hy hy2 hx hx2=>by
     by_cases e:y=sa+na-1
     ·rw[e];exact high x hx hx2
     ·exact C.trans (oa y (sa+na-1) hy (by omega) (by omega)) (high x hx hx2)
    rw[if_neg (by have:¬m=0:=by omega
                  simpa using this)]
    have sx:((arrOf st).extract (sa+k) (sa+na)).size=sa+na-(sa+k):=pX (by omega)
    have sy:((arrOf st).extract (sa+na) (sa+na+m)).size=sa+na+m-(sa+na):=pX (by omega)
    have oa':On blt (arrOf st) (sa+k) (sa+na):=oa.sub (by omega) (by omega)
    have ob':On blt (arrOf st) (sa+na) (sa+na+m):=ob.sub (by omega) (by omega)
    have tail:∀(res:Array Keyed) (st2:SortSt),Like (SortSt.mk' (kindOf st) (arrOf st) (((pendingOf st).setIfInBounds i (sa,na+nb,pa)).eraseIdxIfInBounds (i+1)) (gallopOf st) (failedOf st)) st2→res.toList.Perm (((arrOf st).extract (sa+k) (sa+na)).toList++((arrOf st).extract (sa+na) (sa+na+m)).toList)→PW blt res.toList→
      wpS (model prog w) A E s (modify (λs=>SortSt.mk' (kindOf s) (lay (arrOf s) (sa+k) res) (pendingOf s) (gallopOf s) (failedOf s))>>=λ_=>get>>=λx=>pure (failedOf x).isNone) Q st2:=λres st2 lk pm pw=>by
     have rs:res.size=na-k+m:=by
      have:=pm.length_eq
      rw[Q8,Q6,Q6,Q6,sx,sy]at this
      omega
     have rm:∀j,j<res.size→∃x,sa+k≤x∧x<sa+na+m∧g res j=g (arrOf st) x:=λj hj=>by
      have mem:g res j∈res.toList:=by have:=tH hj;simpa using this
      rcases Q4.mp (pm.mem_iff.mp mem)with q|q
      ·obtain⟨x,x1,x2,_,x4⟩:=c7 q
       exact⟨x,by omega,by omega,x4⟩
      ·obtain⟨x,x1,x2,_,x4⟩:=c7 q
       exact⟨x,by omega,by omega,x4⟩
     have fit:sa+k+res.size≤(arrOf st2).size:=by rw[lk.arr];show sa+k+res.size≤(arrOf st).size;omega
     refine wpS_bind (wpS_modify ?_)
     refine wpS_bind (wpS_get (wpS_pure ?_))
     have hg:∀x,g (lay (arrOf st2) (sa+k) res) x=if sa+k≤x∧x<sa+k+res.size then g res (x-(sa+k))else g (arrOf st) x:=λx=>by
      rw[FL fit,lk.arr]
     have ef:(failedOf st2).isNone=true:=by
      rw[lk.fail];show(failedOf st).isNone=true;rw[B.fine];rfl
     show Q (failedOf st2).isNone _
     rw[ef]
     have on:=Aq pw
     refine h _ ⟨lk.kind.trans B.kind,lk.fail.trans B.fine,?_⟩ lk.pend ?_ ?_
     ·refine(AJ fit ?_).trans (by rw[lk.arr];exact B.perm)
      rw[lk.arr]
      show res.toList.Perm (((arrOf st).toList.drop (sa+k)).take res.size)
      refine pm.trans (List.Perm.of_eq ?_)
      rw[Z3,Z3,QU,QU,rs,show sa+na-(sa+k)=na-k by omega,show sa+na+m-(sa+na)=m by omega,List.take_add,XS,show sa+k+(na-k)=sa+na by omega]
     ·intro x y hx hxy hy
      show le blt (g (lay (arrOf st2) (sa+k) res) x) (g (lay (arrOf st2) (sa+k) res) y)
      rw[hg x,hg y]
      by_cases y1:sa+k≤y∧y<sa+k+res.size
      ·rw[if_pos y1]
       by_cases x1:sa+k≤x∧x<sa+k+res.size
       ·rw[if_pos x1]
        exact on _ _ (Qf _) (by omega) (by omega)
       ·rw[if_neg x1]
        obtain⟨z,z1,z2,z3⟩:=rm (y-(sa+k)) (by omega)
        rw[z3]
        by_cases zz:z<sa+na
        ·exact oa x z hx (by omega) zz
        ·have:=lowB (x-sa) z (by omega) (by omega) (by omega)
         rwa [show sa+(x-sa)=x by omega]at this
      ·rw[if_neg y1]
       by_cases x1:sa+k≤x∧x<sa+k+res.size
       ·rw[if_pos x1]
        obtain⟨z,z1,z2,z3⟩:=rm (x-(sa+k)) (by omega)
        rw[z3]
        by_cases zz:z<sa+na
        ·exact highA z y (by omega) zz (by omega) (by omega)
        ·exact ob z y (by omega) (by omega) (by omega)
       ·rw[if_neg x1]
        by_cases yy:y<sa+na
        ·exact oa x y hx hxy yy
        ·by_cases xx:x<sa+na
         ·exact highA x y hx xx (by omega) (by omega)
         ·exact ob x y (by omega) hxy (by omega)
     ·intro x hx
      show g (lay (arrOf st2) (sa+k) res) x=g (arrOf st) x
      rw[hg x,if_neg (by omega)]
    by_cases c:na-k≤m
    ·rw[if_pos c]
     refine wpS_bind (wM L C B1.kind (λx hx=>?_) (uC (by omega) oa') (uC (by omega) ob') (by rw[sx];omega) (by rw[sy];omega) ?_ ?_ λres st2 lk pm pw=>?_)
     ·rcases Q4.mp hx with q|q
      ·obtain⟨j,_,_,hj3,rfl⟩:=c7 q
       exact B.mem (by omega)
      ·obtain⟨j,_,_,hj3,rfl⟩:=c7 q
       exact B.mem (by omega)
     ·rw[kH (by omega) (by omega),kH (by omega) (by omega)]
      exact first
     ·intro j hj
      rw[sy]at hj
      rw[sx,kH (by omega) (by omega),kH (by omega) (by omega),show sa+k+(sa+na-(sa+k)-1)=sa+na-1 by omega]
      exact hk2' j (by omega)
     ·exact tail res st2 lk pm pw
    ·rw[if_neg c]
     refine wpS_bind (wN L C B1.kind (λx hx=>?_) (uC (by omega) oa') (uC (by omega) ob') (by rw[sx];omega) (by rw[sy];omega) ?_ ?_ λres st2 lk pm pw=>?_)
     ·rcases Q4.mp hx with q|q
      ·obtain⟨j,_,_,hj3,rfl⟩:=c7 q
       exact B.mem (by omega)
      ·obtain⟨j,_,_,hj3,rfl⟩:=c7 q
       exact B.mem (by omega)
     ·rw[kH (by omega) (by omega),kH (by omega) (by omega)]
      exact first
     ·intro j hj
      rw[sy]at hj
      rw[sx,kH (by omega) (by omega),kH (by omega) (by omega),show sa+k+(sa+na-(sa+k)-1)=sa+na-1 by omega]
      exact hk2' j (by omega)
     ·exact tail res st2 lk pm pw
end
section
variable {blt:Keyed→Keyed→Bool}
def Stack (blt:Keyed→Keyed→Bool) (xs:Array Keyed):List (Nat×Nat×Nat)→Nat→Nat→Prop
 | [],f,t=>f=t
 |(st,len,_)::r,f,t=>st=f∧1≤len∧On blt xs st (st+len)∧Stack blt xs r (st+len) t
theorem Stack.le {xs:Array Keyed}:∀{l:List (Nat×Nat×Nat)} {f t:Nat},Stack blt xs l f t→f+l.length≤t
 | [],f,t,h=>by cases h;simp
 |(st,len,p)::r,f,t,h=>by
  obtain⟨rfl,h1,_,h3⟩:=h
  have:=Stack.le h3
  simp
  omega
theorem Stack.app {xs:Array Keyed}:∀{l r:List (Nat×Nat×Nat)} {f t:Nat},Stack blt xs (l++r) f t↔∃m,Stack blt xs l f m∧Stack blt xs r m t
 | [],r,f,t=>⟨λh=>⟨f,rfl,h⟩,λ⟨m,e,h⟩=>by cases e;exact h⟩
 |(st,len,p)::l,r,f,t=>by
  constructor
  ·rintro ⟨h1,h2,h3,h4⟩
   obtain⟨m,a,b⟩:=Stack.app.mp h4
   exact⟨m,⟨h1,h2,h3,a⟩,b⟩
  ·rintro ⟨m,⟨h1,h2,h3,a⟩,b⟩
   exact⟨h1,h2,h3,Stack.app.mpr ⟨m,a,b⟩⟩
theorem Stack.congr {xs ys:Array Keyed}:∀{l:List (Nat×Nat×Nat)} {f t:Nat},Stack blt xs l f t→(∀k,f≤k→k<t→g ys k=g xs k)→Stack blt ys l f t
 | [],f,t,h,_=>h
 |(st,len,p)::r,f,t,h,e=>by
  obtain⟨rfl,h1,h2,h3⟩:=h
  have:=h3.le
  exact⟨rfl,h1,h2.congr λk a b=>e k a (by omega),h3.congr λk a b=>e k (by omega) b⟩
theorem Stack.pw {xs:Array Keyed} {l:List (Nat×Nat×Nat)} {a b p q:Nat} {f t:Nat} (h:Stack blt xs (l++ [(a,b,p)]) f t):Stack blt xs (l++ [(a,b,q)]) f t:=by
 obtain⟨m,h1,h2⟩:=Stack.app.mp h
 exact Stack.app.mpr ⟨m,h1,h2⟩
theorem iH {xs:Array Keyed} {p:Array (Nat×Nat×Nat)} {lo n q:Nat} (S:Stack blt xs p.toList 0 lo) (h:1≤n) (o:On blt xs lo (lo+n)):Stack blt xs (p.push (lo,n,q)).toList 0 (lo+n):=by
 rw[Xx]
 exact Stack.app.mpr ⟨lo,S,rfl,h,o,rfl⟩
theorem vO {α:Type} (q:Array α) (x:α) (f:α→α):(q.push x).modify ((q.push x).size-1) f=q.push (f x):=by
 have e:(q.push x).size-1=q.size:=by simp
 rw[e]
 apply Array.ext
 ·simp
 ·intro i h1 h2
  rw[Array.getElem_modify]
  by_cases hi:q.size=i
  ·subst hi;simp
  ·rw[if_neg hi]
   have:i<q.size:=by simp at h2;omega
   rw[Xg this,Xg this]
theorem my {xs:Array Keyed} {p:Array (Nat×Nat×Nat)} {lo pw:Nat} (z:1≤p.size) (S:Stack blt xs p.toList 0 lo):Stack blt xs (p.modify (p.size-1) λx=>(x.1,x.2.1,pw)).toList 0 lo:=by
 obtain⟨q,x,rfl⟩:∃q x,p=q.push x:=⟨p.pop,p[p.size-1],by
  apply Array.ext
  ·simp;omega
  ·intro i h1 h2
   by_cases hi:i<p.pop.size
   ·rw[Xg hi];simp
   ·have:i=p.size-1:=by simp at h2 hi;omega
    subst this
    rw[Array.getElem_push]
    rw[dif_neg (by simp)]⟩
 rw[vO,Xx]
 rw[Xx]at S
 obtain⟨a,b,c⟩:=x
 exact S.pw
theorem Aa {α:Type} {l:List α} {i:Nat} {x y:α} (h1:l[i]?=some x) (h2:l[i+1]?=some y):∃p r,l=p++x::y::r∧p.length=i:=by
 obtain⟨a1,e1⟩:=Q2.mp h1
 obtain⟨a2,e2⟩:=Q2.mp h2
 refine⟨l.take i,l.drop (i+2),?_,by rw[Q7];omega⟩
 have d1:=QY a1
 have d2:=QY a2
 rw[e1]at d1
 rw[e2]at d2
 calc l=l.take i++l.drop i:=(QN _ _).symm
  _=_:=by rw[d1,d2]
theorem Bf {α:Type} {p r:List α} {x y v:α}:((p++x::y::r).set p.length v).eraseIdx (p.length+1)=p++v::r:=by
 rw[List.set_append_right _ _ (Q5 _),Nat.sub_self]
 rw[Xs (by omega),show p.length+1-p.length=1 by omega]
 rfl
end
section
variable {prog:Program} {w:World} {A:Around} {E:Value→Shared→Prop} {s:Shared} {a₀:Array Keyed} {κ:SortKind} {blt:Keyed→Keyed→Bool}
variable (L:u7 prog w A E s a₀ κ blt)
include L
theorem m4 {st:SortSt} {i lo:Nat} {Q:Bool→SortSt→Prop} (C:Cmp blt) (B:Base a₀ κ st) (S:Stack blt (arrOf st) (pendingOf st).toList 0 lo) (hlo:lo≤a₀.size) (hi:i+1<(pendingOf st).size)
  (h:∀st',Base a₀ κ st'→Stack blt (arrOf st') (pendingOf st').toList 0 lo→(pendingOf st').size+1=(pendingOf st).size→(∀k,lo≤k→g (arrOf st') k=g (arrOf st) k)→Q true st'):
  wpS (model prog w) A E s (mergeAt' i) Q st:=by
 have q1:(pendingOf st)[i]?=some ((pendingOf st)[i]'(by omega)):=getElem?_pos _ _ _
 have q2:(pendingOf st)[i+1]?=some ((pendingOf st)[i+1]'hi):=getElem?_pos _ _ _
 obtain⟨⟨sa,na,pa⟩,e1⟩:∃x,x=(pendingOf st)[i]'(by omega):=⟨_,rfl⟩
 obtain⟨⟨sb,nb,pb⟩,e2⟩:∃x,x=(pendingOf st)[i+1]'hi:=⟨_,rfl⟩
 rw[←e1]at q1
 rw[←e2]at q2
 have t1:=q1
 have t2:=q2
 rw[←Qu]at t1 t2
 obtain⟨p,r,el,pl⟩:=Aa t1 t2
 rw[el]at S
 obtain⟨m,S1,S2⟩:=Stack.app.mp S
 obtain⟨rfl,n1,o1,rfl,n2,o2,S3⟩:=S2
 have l3:=S3.le
 have l1:=S1.le
 refine wO L C B q1 q2 rfl n1 n2 (by omega) o1 o2 λst' B' hp on keep=>?_
 have ep:(pendingOf st').toList=p++(sa,na+nb,pa)::r:=by
  rw[hp,Array.toList_eraseIdxIfInBounds,XT,el,←pl,Bf]
 have kz:∀k,k<sa∨sa+na+nb≤k→g (arrOf st') k=g (arrOf st) k:=λk hk=>keep k (by omega)
 refine h st' B' ?_ ?_ λk hk=>kz k (by omega)
 ·rw[ep]
  refine Stack.app.mpr ⟨sa,S1.congr λk a b=>kz k (.inl b),rfl,by omega,on,?_⟩
  rw[show sa+(na+nb)=sa+na+nb by omega]
  exact S3.congr λk a b=>kz k (.inr a)
 ·have a:=congrArg List.length ep
  have b:=congrArg List.length el
  simp at a b
  omega
theorem ve {st:SortSt} {Q:Unit→SortSt→Prop} (C:Cmp blt) (B:Base a₀ κ st) (hp:pendingOf st= #[]) (h2:1≤a₀.size)
  (h:∀st',Base a₀ κ st'→On blt (arrOf st') 0 a₀.size→Q () st'):wpS (model prog w) A E s sortRuns' Q st:=by
 rw[sortRuns'_eq]
 refine wpS_bind (wpS_get ?_)
 dsimp only
 have hsz:=B.size
 rw[hsz]
 refine wpS_bind (wpS_mono (wpS_forRange
  (I:=λi c st'=>∃lo,c=(none,lo)∧i≤lo∧lo≤a₀.size∧Base a₀ κ st'∧Stack blt (arrOf st') (pendingOf st').toList 0 lo)
  (Q:=λc st'=>c=(none,a₀.size)∧Base a₀ κ st'∧Stack blt (arrOf st') (pendingOf st').toList 0 a₀.size) ?step ?fin ⟨0,rfl,Q5 _,Qf _,B,by rw[hp];exact rfl⟩) ?post)
 case fin=>
  rintro c st' ⟨lo,rfl,h1,h3,B',S⟩
  have em:max 0 a₀.size=a₀.size:=QO (Qf _)
  rw[em]at h1
  have e:lo=a₀.size:=by omega
  subst e
  exact⟨rfl,B',S⟩
 case step=>
  rintro i c st' _ hi ⟨lo,rfl,h1,h3,B',S⟩
  dsimp only
  by_cases z:lo≥a₀.size
  ·rw[if_pos z]
   have e:lo=a₀.size:=by omega
   subst e
   exact wpS_pure ⟨rfl,B',S⟩
  ·rw[if_neg z]
   refine wpS_bind (zQ L C B' (by omega) (by omega) λn st2 B2 p2 m1 m2 O2 k2=>?_)
   dsimp only
   have S2:Stack blt (arrOf st2) (pendingOf st2).toList 0 lo:=by
    rw[p2]
    exact S.congr λk _ b=>k2 k b
   by_cases small:n<minRun' a₀.size a₀.size 0
   ·rw[if_pos small]
    refine wpS_bind (wpS_lift (wpAny_rule ⟨rfl,?_⟩))
    refine wpS_bind (yM L C B2 m1 (by omega) (by omega) O2 λst3 B3 p3 O3 k3=>?_)
    rw[if_neg (by decide)]
    have S3:Stack blt (arrOf st3) (pendingOf st3).toList 0 lo:=by
     rw[p3]
     exact S2.congr λk _ b=>k3 k b
    generalize hn:min (a₀.size-lo) (minRun' a₀.size a₀.size 0)=n' at O3
    have n1':1≤n':=by omega
    have n2':lo+n'≤a₀.size:=by omega
    refine wpS_bind (wpS_get ?_)
    cases eb:(pendingOf st3).back? with
    |none=>
     dsimp only
     exact wpS_bind (wpS_modify (wpS_pure ⟨lo+n',rfl,by omega,by omega,⟨B3.kind,B3.fine,B3.perm⟩,iH S3 (by omega) O3⟩))
    |some tt=>
     obtain⟨s1,n1,p1⟩:=tt
     dsimp only
     have hsz3:1≤(pendingOf st3).size:=by
      rcases ZI (pendingOf st3).size with q|q
      ·rw[Array.size_eq_zero_iff.mp q]at eb
       cases eb
      ·exact q
     refine wpS_bind (wpS_mono (wpS_forRange (I:=λ_ c st4=>c=(none,())∧Base a₀ κ st4∧Stack blt (arrOf st4) (pendingOf st4).toList 0 lo∧On blt (arrOf st4) lo (lo+n')∧1≤(pendingOf st4).size)
      (Q:=λc st4=>c=(none,())∧Base a₀ κ st4∧Stack blt (arrOf st4) (pendingOf st4).toList 0 lo∧On blt (arrOf st4) lo (lo+n')∧1≤(pendingOf st4).size) ?_ (λ_ _ q=>q) ⟨rfl,B3,S3,O3,hsz3⟩) ?_)
     ·rintro j c st4 _ _ ⟨rfl,B4,S4,O4,z4⟩
      refine wpS_bind (wpS_get ?_)
      by_cases big:(pendingOf st4).size>1
      ·rw[if_pos big,getElem?_pos (pendingOf st4) ((pendingOf st4).size-2) (by omega)]
       obtain⟨⟨u1,u2,older⟩,eu⟩:∃x,x=(pendingOf st4)[(pendingOf st4).size-2]'(by(clear big hsz3 eb n2' n1' hn p3 small m2 m1 p2 z h3 h1 hi hsz h2 hp;omega (config:={}))):=⟨_,rfl⟩
       rw[←eu]
       dsimp only
       split
       ·exact wpS_pure ⟨rfl,B4,S4,O4,z4⟩
       ·refine wpS_bind (m4 L C B4 S4 (by omega) (by omega) λst5 B5 S5 z5 k5=>?_)
        rw[if_neg (by decide)]
        exact wpS_pure ⟨rfl,B5,S5,O4.congr λk a b=>k5 k a,by omega⟩
      ·rw[if_neg big]
       exact wpS_pure ⟨rfl,B4,S4,O4,z4⟩
     ·rintro c st4 ⟨rfl,B4,S4,O4,z4⟩
      dsimp only
      refine wpS_bind (wpS_modify (wpS_bind (wpS_modify (wpS_pure ⟨lo+n',rfl,by omega,by omega,⟨B4.kind,B4.fine,B4.perm⟩,?_⟩))))
      exact iH (my z4 S4) (by omega) O4
   ·rw[if_neg small]
    have B3:=B2
    have S3:=S2
    have O3:=O2
    obtain⟨st3,e3⟩:∃x,x=st2:=⟨_,rfl⟩
    rw[←e3]at B3 S3 O3⊢
    refine wpS_bind (wpS_get ?_)
    cases eb:(pendingOf st3).back? with
    |none=>
     dsimp only
     exact wpS_bind (wpS_modify (wpS_pure ⟨lo+n,rfl,by omega,by omega,⟨B3.kind,B3.fine,B3.perm⟩,iH S3 (by omega) O3⟩))
    |some tt=>
     obtain⟨s1,n1,p1⟩:=tt
     dsimp only
     have hsz3:1≤(pendingOf st3).size:=by
      rcases ZI (pendingOf st3).size with q|q
      ·rw[Array.size_eq_zero_iff.mp q]at eb
       cases eb
      ·exact q
     refine wpS_bind (wpS_mono (wpS_forRange (I:=λ_ c st4=>c=(none,())∧Base a₀ κ st4∧Stack blt (arrOf st4) (pendingOf st4).toList 0 lo∧On blt (arrOf st4) lo (lo+n)∧1≤(pendingOf st4).size)
      (Q:=λc st4=>c=(none,())∧Base a₀ κ st4∧Stack blt (arrOf st4) (pendingOf st4).toList 0 lo∧On blt (arrOf st4) lo (lo+n)∧1≤(pendingOf st4).size) ?_ (λ_ _ q=>q) ⟨rfl,B3,S3,O3,hsz3⟩) ?_)
     ·rintro j c st4 _ _ ⟨rfl,B4,S4,O4,z4⟩
      refine wpS_bind (wpS_get ?_)
      by_cases big:(pendingOf st4).size>1
      ·rw[if_pos big,getElem?_pos (pendingOf st4) ((pendingOf st4).size-2) (by omega)]
       obtain⟨⟨u1,u2,older⟩,eu⟩:∃x,x=(pendingOf st4)[(pendingOf st4).size-2]'(by omega (config:={})):=⟨_,rfl⟩
       rw[←eu]
       dsimp only
       split
       ·exact wpS_pure ⟨rfl,B4,S4,O4,z4⟩
       ·refine wpS_bind (m4 L C B4 S4 (by omega) (by omega) λst5 B5 S5 z5 k5=>?_)
        rw[if_neg (by decide)]
        exact wpS_pure ⟨rfl,B5,S5,O4.congr λk a b=>k5 k a,by omega⟩
      ·rw[if_neg big]
       exact wpS_pure ⟨rfl,B4,S4,O4,z4⟩
     ·rintro c st4 ⟨rfl,B4,S4,O4,z4⟩
      dsimp only
      refine wpS_bind (wpS_modify (wpS_bind (wpS_modify (wpS_pure ⟨lo+n,rfl,by omega,by omega,⟨B4.kind,B4.fine,B4.perm⟩,?_⟩))))
      exact iH (my z4 S4) (by omega) O4
 case post=>
  rintro c st' ⟨rfl,B',S⟩
  dsimp only
  have lenS:=S.le
  refine wpS_bind (wpS_mono (wpS_forRange (I:=λi c st2=>c=(none,())∧Base a₀ κ st2∧Stack blt (arrOf st2) (pendingOf st2).toList 0 a₀.size∧(pendingOf st2).size+i≤a₀.size+1)
   (Q:=λc st2=>c=(none,())∧Base a₀ κ st2∧Stack blt (arrOf st2) (pendingOf st2).toList 0 a₀.size∧(pendingOf st2).size≤1) ?_ ?_ ⟨rfl,B',S,by rw[Q6]at lenS;omega⟩) ?_)
  ·rintro i c st2 _ hi ⟨rfl,B2,S2,z2⟩
   refine wpS_bind (wpS_get ?_)
   by_cases one:(pendingOf st2).size≤1
   ·rw[if_pos one]
    exact wpS_pure ⟨rfl,B2,S2,one⟩
   ·rw[if_neg one]
    generalize hix:(if Option.any _ _=true then(pendingOf st2).size-2-1 else(pendingOf st2).size-2)=ix
    have gen:∀bb:Bool,(if bb=true then(pendingOf st2).size-2-1 else(pendingOf st2).size-2)+1<(pendingOf st2).size:=λbb=>by
     cases bb with
     |true=>rw[if_pos rfl];omega
     |false=>rw[if_neg (by decide)];omega
    have hx:ix+1<(pendingOf st2).size:=by
     rw[←hix]
     exact gen _
    refine wpS_bind (m4 L C B2 S2 (Q5 _) hx λst3 B3 S3 z3 k3=>?_)
    rw[if_neg (by decide)]
    exact wpS_pure ⟨rfl,B3,S3,by omega⟩
  ·rintro c st2 ⟨rfl,B2,S2,z2⟩
   have em:max 0 a₀.size=a₀.size:=QO (Qf _)
   rw[em]at z2
   exact⟨rfl,B2,S2,by omega⟩
  ·rintro c st2 ⟨rfl,B2,S2,z2⟩
   dsimp only
   refine wpS_pure (h st2 B2 ?_)
   match hl:(pendingOf st2).toList,S2 with
   | [],S2=>
    have e:0=a₀.size:=S2
    omega
   | [(a,b,p)],S2=>
    obtain⟨rfl,_,o,e⟩:=S2
    have e:0+b=a₀.size:=e
    rw[e]at o
    exact o
   |_::_::_,_=>
    have:=congrArg List.length hl
    simp at this
    omega
end
end Srt
namespace Srt
open PySem PyProof.Rows
section
variable {prog:Program} {w:World} {A:Around} {E:Value→Shared→Prop} {s:Shared} {κ:SortKind} {blt:Keyed→Keyed→Bool}
abbrev But (a:Addr) (s s':Shared):Prop:=∀b o,b≠a→s.heap.get? b=some o→s'.heap.get? b=some o
theorem sS {a:Addr} {vs:List Value} {n:Nat} {P:PySem.Fin→Shared→Prop} (ho:s.heap.get? a=some (seqObj "list" vs.toArray n)) (hz:vs.length≤sizeLine) (C:Cmp blt)
  (hkk:∀h':Heap,But a s {s with heap:=h'}→2≤vs.length→∀Q':SortKind→Shared→Prop,Q' κ {s with heap:=h'}→wpAny (model prog w) A (keyKind' vs.toArray) Q' E {s with heap:=h'})
  (L:∀h':Heap,But a s {s with heap:=h'}→u7 prog w A E {s with heap:=h'} (pairsOf vs) κ blt)
  (h:∀out:Array Keyed,out.Perm (pairsOf vs)→PW blt out.toList→P (.done (.ret .none)) {s with heap:=sortedHeap s.heap a vs (out.map (·.2))}):wpAny (model prog w) A (Builtin.«list.sort» ⟨[.ref a],[]⟩) P E s:=by
 have hv:vs.toArray.size=vs.length:=Qi
 have ha:=Heap.lt_size ho
 rw[list_sort_plain]
 refine wpAny_bind (listItems_at ho rfl (wpAny_bind (listUpdate_at ho rfl ?_ (hsz:=by rw[hv];exact hz))))
 obtain⟨e1,ho1⟩:∃k,(s.heap.update a (Obj.mapSeq λ_=> #[])).get? a=some (seqObj "list" #[] k):=⟨_,get?_update_seq ho (λ_=> #[])⟩
 refine wpAny_bind (seqEpoch_at ho1 rfl (wpAny_bind (wpAny_newTuple ?_ (hsz:=hz))))
 refine wpAny_bind (wpAny_newList (wpAny_holding ?_))
 generalize hh:((s.heap.update a (Obj.mapSeq λ_=> #[])).push (seqObj "tuple" vs.toArray 0)).push (seqObj "list" #[] 0)=h6
 have up:∀b o,(s.heap.update a (Obj.mapSeq λ_=> #[])).get? b=some o→h6.get? b=some o:=λb o e=>by
  rw[←hh]
  exact Heap.get?_push_of_some _ (Heap.get?_push_of_some _ e)
 have ho6:=up a _ ho1
 have but:But a s {s with heap:=h6}:=λb o hb e=>up b o (by exact(Heap.get?_update_other _ _ (Ne.symm hb)).trans e)
 have fin:∀out:Array Keyed,out.Perm (pairsOf vs)→PW blt out.toList→P (.done (.ret .none)) {s with heap:=h6.update a (Obj.mapSeq λ_=>out.map (·.2))}:=λout p q=>by
  have:=h out p q
  unfold sortedHeap at this
  rw[hh]at this
  exact this
 have hsz2:∀out:Array Keyed,out.Perm (pairsOf vs)→(out.map (·.2)).size≤sizeLine+1:=λout p=>by
  have:=p.size_eq
  rw[pairsOf_size]at this
  rw[Array.size_map]
  omega
 dsimp only
 by_cases h2:vs.toArray.size<2
 ·rw[if_pos h2,if_pos h2]
  refine wpAny_bind (wpAny_pure ?_)
  rw[StateT.run_pure]
  refine wpAny_bind (wpAny_pure ?_)
  dsimp only
  have pr:(SortSt.mk' general' (vs.toArray.zip vs.toArray) #[] 7 none|>arrOf).Perm (pairsOf vs):=Array.Perm.refl _
  refine wpAny_bind (seqEpoch_at ho6 rfl (wpAny_bind (listUpdate_at ho6 rfl ?_ (hsz:=Qf _) (hsz2:=hsz2 _ pr))))
  simp only[bne_self_eq_false,Zd,if_false]
  refine wpAny_pure (fin _ pr ?_)
  have l1:(vs.toArray.zip vs.toArray).toList.length≤1:=by simp at h2⊢;omega
  show PW blt (vs.toArray.zip vs.toArray).toList;revert l1
  generalize (vs.toArray.zip vs.toArray).toList=l
  rcases l with _|⟨x,_|⟨y,t⟩⟩<;>intro l1<;>first|exact List.Pairwise.nil|exact Z6 _ _|exact absurd l1 (Nat.not_le_of_lt (Nat.succ_lt_succ (Nat.succ_pos _)))
 ·rw[if_neg h2,if_neg h2]
  refine wpAny_bind (hkk h6 but (by omega) _ ?_)
  refine wpAny_bind (wpAny_mono (ve (L h6 but) (st:=SortSt.mk' κ (vs.toArray.zip vs.toArray) #[] 7 none) (Q:=λ_ st'=>Base (pairsOf vs) κ st'∧On blt (arrOf st') 0 (pairsOf vs).size) C
   ⟨rfl,rfl,Array.Perm.refl _⟩ rfl (by rw[pairsOf_size];omega) λst' B O=>⟨B,O⟩) ?_ λ_ _ e=>e)
  rintro ⟨⟨⟩,st'⟩ s' ⟨rfl,B,O⟩
  dsimp only
  refine wpAny_bind (seqEpoch_at ho6 rfl (wpAny_bind (listUpdate_at ho6 rfl ?_ (hsz:=Qf _) (hsz2:=hsz2 _ B.perm))))
  rw[B.fine]
  simp only[bne_self_eq_false,Zd,if_false]
  refine wpAny_pure (fin _ B.perm ?_)
  have:=fB (a:=arrOf st') (blt:=blt) (by rw[B.size];exact O) 0
  rwa [Zp]at this
theorem sorted_any {l:Addr} {vs:List Value} {Q:Value→Shared→Prop} (hl:s.heap.IsList l vs.toArray) (hz:vs.length≤sizeLine) (C:Cmp blt)
  (hkk:∀h':Heap,(∀b o,s.heap.get? b=some o→h'.get? b=some o)→2≤vs.length→∀Q':SortKind→Shared→Prop,Q' κ {s with heap:=h'}→wpAny (model prog w) A.in1.in1 (keyKind' vs.toArray) Q' (λ_ _=>False) {s with heap:=h'})
  (L:∀h':Heap,(∀b o,s.heap.get? b=some o→h'.get? b=some o)→u7 prog w A.in1.in1 (λ_ _=>False) {s with heap:=h'} (pairsOf vs) κ blt)
  (h:∀out:Array Keyed,out.Perm (pairsOf vs)→PW blt out.toList→Q (.ref (s.heap.objs.size+1)) {s with heap:=sortedAll s.heap vs (out.map (·.2))}):wpAny (model prog w) A (call (.builtin "sorted") [.ref l]) Q E s:=by
 refine Calls.call_function_entry kind_sorted plain_sorted entry_sorted (args_sorted1 _) ?_
 unfold Builtin.«sorted»
 refine wpAny_bind (m:=checkCount "sorted" 1 1 _) (wpAny_pure (wpAny_bind (collect_list hl ?_ (hsz:=hz))))
 refine wpAny_bind (wpAny_newList ?_ (hsz:=hz))
 generalize hh:(s.heap.push (seqObj "list" #[] 0)).update s.heap.objs.size (Obj.mapSeq (· ++vs.toArray))=h1
 have hs1:h1.objs.size=s.heap.objs.size+1:=by rw[←hh,Heap.size_update,size_push']
 have old:∀b o,s.heap.get? b=some o→(h1.push (seqObj "list" vs.toArray 0)).get? b=some o:=λb o e=>by
  refine Heap.get?_push_of_some _ ?_
  rw[←hh]
  exact(Heap.get?_update_other _ _ (Ne.symm (QE (Heap.lt_size e)))).trans (Heap.get?_push_of_some _ e)
 have new:(h1.push (seqObj "list" vs.toArray 0)).get? (s.heap.objs.size+1)=some (seqObj "list" vs.toArray 0):=by
  rw[←hs1]
  exact Heap.get?_push_size _ rfl
 have keep:∀h':Heap,But (s.heap.objs.size+1) {s with heap:=h1.push (seqObj "list" vs.toArray 0)} {s with heap:=h'}→∀b o,s.heap.get? b=some o→h'.get? b=some o:=λh' k b o e=>
  k b o (QE (Nat.lt_succ_of_lt (Heap.lt_size e))) (old b o e)
 show wpAny _ _ _ _ _ {s with heap:=h1.push (seqObj "list" vs.toArray 0)}
 rw[hs1]
 refine wpAny_bind (wpAny_holding (wpAny_mono (wpAny_call_entry (E:=λ_ _=>False) slot_list_sort ⟨_,new,rfl⟩ entry_list_sort (sS (κ:=κ) (blt:=blt) new hz C (λh' k=>hkk h' (keep h' k)) (λh' k=>L h' (keep h' k)) λout p q=>⟨_,rfl,?_⟩) (args_list_sort _)) (λ_ _ q=>q) λ_ _ f=>f.elim))
 refine wpAny_pure ⟨_,rfl,?_⟩
 have:=h out p q
 unfold sortedAll at this
 rw[hh]at this
 exact this
end
end Srt
namespace Srt
open PySem PyProof.Rows
theorem vU:∀(a b:List Int),HT.lexLt a b=true→HT.lexLt b a=false
 | [],[],h=>rfl
 | [],_::_,_=>rfl
 |_::_,[],h=>by rw[HT.lexLt_cons_nil]at h;cases h
 |x::xs,y::ys,h=>by
  rw[HT.lexLt_cons]at h⊢
  by_cases e:x=y
  ·rw[if_pos e]at h
   rw[if_pos e.symm]
   exact vU xs ys h
  ·rw[if_neg e]at h
   rw[if_neg (Ne.symm e)]
   have:=of_decide_eq_true h
   exact decide_eq_false (by omega)
theorem AI:∀(a b c:List Int),HT.lexLt b a=false→HT.lexLt c b=false→HT.lexLt c a=false
 | [],b,[],_,_=>rfl
 |x::xs,[],c,h,_=>by rw[HT.lexLt_nil_cons]at h;cases h
 |a,y::ys,[],_,h=>by rw[HT.lexLt_nil_cons]at h;cases h
 | [],_,_::_,_,_=>HT.lexLt_cons_nil _ _
 |x::xs,y::ys,z::zs,h1,h2=>by
  rw[HT.lexLt_cons]at h1 h2⊢
  by_cases e1:y=x
  ·rw[if_pos e1]at h1
   by_cases e2:z=y
   ·rw[if_pos e2]at h2
    rw[if_pos (e2.trans e1)]
    exact AI xs ys zs h1 h2
   ·rw[if_neg e2]at h2
    rw[if_neg (by rw[←e1];exact e2)]
    have:=of_decide_eq_false h2
    exact decide_eq_false (by omega)
  ·rw[if_neg e1]at h1
   have g1:=of_decide_eq_false h1
   by_cases e2:z=y
   ·rw[if_pos e2]at h2
    rw[if_neg (by omega)]
    exact decide_eq_false (by omega)
   ·rw[if_neg e2]at h2
    have g2:=of_decide_eq_false h2
    by_cases e3:z=x
    ·omega
    ·rw[if_neg e3]
     exact decide_eq_false (by omega)
theorem cmp_of (k:Keyed→List Int):Cmp λp q=>HT.lexLt (k p) (k q):=⟨λx y h=>vU _ _ h,λx y z h1 h2=>AI _ _ _ h1 h2⟩
theorem runs_of {prog:Program} {w:World} {A:Around} {E:Value→Shared→Prop} {s:Shared} {a₀:Array Keyed} {κ:SortKind} {blt:Keyed→Keyed→Bool}
  (h:∀(x y:Keyed) (E':Value→Shared→Prop) (Q:Bool→Shared→Prop),x∈a₀→y∈a₀→Q (blt x y) s→wpAny (model prog w) A (keyLt' κ x.1 y.1) Q E' s):u7 prog w A E s a₀ κ blt:=by
 intro x y st Q hx hy hk q
 rw[lt'_eq]
 refine wpS_bind (wpS_get ?_)
 rw[hk]
 refine wpS_bind (wpS_lift (wpAny_attempt (h x y _ _ hx hy ⟨rfl,?_⟩)))
 exact wpS_pure q
end Srt
namespace L2
open PySem PySem.Spec PyProof.Rows
def unV (u:Value):V:=(absV u).getD .non
theorem pH {x:V} {u:Value} (r:RelV x u):unV u=x:=by unfold unV;rw[r.abs];rfl
theorem uc:∀{xs:List V} {us:List Value},Vals xs us→us.map unV=xs
 |_,_,.nil=>rfl
 |_,_,.cons r t=>by rw[Qs,pH r,uc t]
theorem jg {xs:List V} {us:List Value} (h:Vals xs us) {u:Value} (hu:u∈us):∃x∈xs,RelV x u:=by
 induction h with
 |nil=>exact absurd hu QZ
 |cons r t ih=>
  rcases Qm.mp hu with e|e
  ·subst e;exact⟨_,Qj,r⟩
  ·obtain⟨x,h1,h2⟩:=ih e
   exact⟨x,Qh _ h1,h2⟩
theorem ud:∀{us:List Value},(∀u∈us,RelV (unV u) u)→Vals (us.map unV) us
 | [],_=> .nil
 |u::r,h=> .cons (h u Qj) (ud λv hv=>h v (Qh _ hv))
section
variable {X:Cx}
theorem yR {pins:List (Addr×Obj)} {s:Shared} {σ:St} {H:Hp} {Q:VK} {p:Addr} {xs:List V} {its:List Value} {κ:SortKind} {ky:V→List Int} (I:Inv X pins σ H s) (hz:xs.length≤sizeLine) (rv:Vals xs its) (hl:s.heap.IsList p its.toArray)
  (hkk:∀h':Heap,(∀b o,s.heap.get? b=some o→h'.get? b=some o)→2≤its.length→∀Q':SortKind→Shared→Prop,Q' κ {s with heap:=h'}→wpAny (model X.prog X.w) X.A.in1.in1 (keyKind' its.toArray) Q' (λ_ _=>False) {s with heap:=h'})
  (hlt:∀h':Heap,(∀b o,s.heap.get? b=some o→h'.get? b=some o)→∀(x y:V) (u v:Value) (E':Value→Shared→Prop) (Q':Bool→Shared→Prop),x∈xs→y∈xs→RelV x u→RelV y v→Q' (HT.lexLt (ky x) (ky y)) {s with heap:=h'}→wpAny (model X.prog X.w) X.A.in1.in1 (keyLt' κ u v) Q' E' {s with heap:=h'})
  (q:∀l ys,H l=none→ys.Perm xs→ys.Pairwise (λa b=>HT.lexLt (ky b) (ky a)=false)→Q (.ref l) (upd H l (.lst ys))):
  wpAny (model X.prog X.w) X.A (call (.builtin "sorted") [.ref p]) (EP X pins σ Q) X.xe s:=by
 have hi:its.length≤sizeLine:=by rw[←rv.length];exact hz
 have mem:∀z:Keyed,z∈pairsOf its→z.1=z.2∧z.1∈its:=λz hz=>by
  have:z∈(pairsOf its).toList:=by simpa using hz
  rw[pairsOf_toList]at this
  exact mem_zip_self this
 refine Srt.sorted_any (κ:=κ) (blt:=λa b=>HT.lexLt (ky (unV a.1)) (ky (unV b.1))) hl hi (Srt.cmp_of λa=>ky (unV a.1)) hkk (λh' k=>Srt.runs_of λx y E' Q' hx hy q'=>?_) λout pm pw=>?_
 ·obtain⟨x',hx1,hx2⟩:=jg rv (mem x hx).2
  obtain⟨y',hy1,hy2⟩:=jg rv (mem y hy).2
  rw[pH hx2,pH hy2]at q'
  exact hlt h' k x' y' x.1 y.1 E' Q' hx1 hy1 hx2 hy2 q'
 ·have pml:out.toList.Perm (its.zip its):=by
   have:=X0.mp pm
   rwa [pairsOf_toList]at this
  have eqs:∀z∈out.toList,z.1=z.2∧z.1∈its:=λz hz=>mem_zip_self (pml.mem_iff.mp hz)
  have e2:(out.map (·.2)).toList=out.toList.map (·.2):=Array.toList_map
  have pv:((out.map (·.2)).toList).Perm its:=by
   rw[e2]
   refine(pml.map _).trans (List.Perm.of_eq ?_)
   exact List.map_snd_zip (Q5 _)
  have hu:∀u∈(out.map (·.2)).toList,RelV (unV u) u:=λu hu=>by
   obtain⟨x,_,r⟩:=jg rv (pv.mem_iff.mp hu)
   rw[pH r]
   exact r
  have vy:=ud hu
  have fresh:H (s.heap.objs.size+1)=none:=I.hok.fresh (Zs _)
  have py:((out.map (·.2)).toList.map unV).Perm xs:=by
   rw[←uc rv]
   exact pv.map _
  obtain⟨e,at_⟩:=sortedAll_at s.heap its (out.map (·.2))
  refine⟨.ref (s.heap.objs.size+1),upd H (s.heap.objs.size+1) (.lst ((out.map (·.2)).toList.map unV)),I.laid (t':=s.toks) (λb o q=>sortedAll_old q) (Zs _) ⟨?_,_,e,vy,?_⟩,rfl,q _ _ fresh py ?_⟩
  ·rw[py.length_eq];exact hz
  ·rw[at_,ZS]
  ·rw[e2,QL]
   refine QD.mpr (pw.imp_of_mem λ{a b} ha hb h=>?_)
   show HT.lexLt (ky (unV b.2)) (ky (unV a.2))=false
   rw[←(eqs a ha).1,←(eqs b hb).1]
   exact h
def uL:V→List Int
 | .int i=> [i]
 |_=> []
theorem yZ {ns:List Int} {ys:List V} (h:ys.Perm (ns.map V.int)):∃ms:List Int,ys=ms.map V.int∧ms.Perm ns:=by
 have e:ys=(ys.map λy=>match y with| .int i=>i|_=>0).map V.int:=by
  rw[QL]
  refine(Xy ys).symm.trans (Zo λy hy=>?_)
  obtain⟨i,_,rfl⟩:=Qg.mp (h.mem_iff.mp hy)
  rfl
 refine⟨_,e,?_⟩
 refine(h.map λy=>match y with| .int i=>i|_=>0).trans (List.Perm.of_eq ?_)
 rw[QL]
 exact Xy ns
def kRef (ky:Addr→List Int):V→List Int
 | .ref a=>ky a
 |_=> []
theorem yY {as:List Addr} {ys:List V} (h:ys.Perm (as.map V.ref)):∃bs:List Addr,ys=bs.map V.ref∧bs.Perm as:=by
 have e:ys=(ys.map λy=>match y with| .ref i=>i|_=>0).map V.ref:=by
  rw[QL]
  refine(Xy ys).symm.trans (Zo λy hy=>?_)
  obtain⟨i,_,rfl⟩:=Qg.mp (h.mem_iff.mp hy)
  rfl
 refine⟨_,e,?_⟩
 refine(h.map λy=>match y with| .ref i=>i|_=>0).trans (List.Perm.of_eq ?_)
 rw[QL]
 exact Xy as
theorem wR {pins:List (Addr×Obj)} {s:Shared} {σ:St} {H:Hp} {a:Addr} {xs:List V} (I:Inv X pins σ H s) (h:H a=some (.tup xs)) {h':Heap} (k:∀b o,s.heap.get? b=some o→h'.get? b=some o):
  ∃(o:Obj) (its:List Value) (n:Nat),Vals xs its∧h'.get? a=some o∧o.cls= .type "tuple"∧o.data= .seq its.toArray n:=by
 obtain⟨_,its,rv,o,e,c,n,d⟩:=(show ObjOk X.prog X.w H s.heap a (.tup xs) from I.hok a _ h)
 exact⟨o,its,n,rv,k _ _ e,c,d⟩
theorem D3 {x y:V} {its:List Value} (r:Vals [x,y] its):∃u v,its=[u,v]∧RelV x u∧RelV y v:=pE r
end
end L2
namespace Srt
open PySem PyProof.Rows
section
variable {prog:Program} {w:World} {A:Around} {E:Value→Shared→Prop} {s:Shared} {κ:SortKind} {blt:Keyed→Keyed→Bool}
theorem sorted_src {r:Value} {G:List Value→Prop} {Q:Value→Shared→Prop}
  (hc:∀(R:List Value→Shared→Prop) (E':Value→Shared→Prop),(∀(h1:Heap) (tk:Nat) (vs:List Value),(∀b o,s.heap.get? b=some o→h1.get? b=some o)→G vs→R vs {s with heap:=h1,toks:=tk})→wpAny (model prog w) A.in1 (collect r) R E' s)
  (hz:∀vs,G vs→vs.length≤sizeLine) (C:Cmp blt)
  (hkk:∀(vs:List Value) (h':Heap) (tk:Nat),G vs→(∀b o,s.heap.get? b=some o→h'.get? b=some o)→2≤vs.length→∀Q':SortKind→Shared→Prop,Q' κ {s with heap:=h',toks:=tk}→wpAny (model prog w) A.in1.in1 (keyKind' vs.toArray) Q' (λ_ _=>False) {s with heap:=h',toks:=tk})
  (L:∀(vs:List Value) (h':Heap) (tk:Nat),G vs→(∀b o,s.heap.get? b=some o→h'.get? b=some o)→u7 prog w A.in1.in1 (λ_ _=>False) {s with heap:=h',toks:=tk} (pairsOf vs) κ blt)
  (h:∀(vs:List Value) (h1 h2:Heap) (tk e:Nat) (out:Array Keyed),G vs→(∀b o,s.heap.get? b=some o→h1.get? b=some o)→(∀b o,h1.get? b=some o→h2.get? b=some o)→h2.get? h1.objs.size=some (seqObj "list" (out.map (·.2)) e)→out.Perm (pairsOf vs)→PW blt out.toList→Q (.ref h1.objs.size) {s with heap:=h2,toks:=tk}):
  wpAny (model prog w) A (call (.builtin "sorted") [r]) Q E s:=by
 refine Calls.call_function_entry kind_sorted plain_sorted entry_sorted (args_sorted1 _) ?_
 unfold Builtin.«sorted»
 refine wpAny_bind (m:=checkCount "sorted" 1 1 _) (wpAny_pure (wpAny_bind (hc _ _ λh1 tk vs k1 g=>?_)))
 refine wpAny_bind (wpAny_newList ?_ (hsz:=hz vs g))
 have new:(h1.push (seqObj "list" vs.toArray 0)).get? h1.objs.size=some (seqObj "list" vs.toArray 0):=Heap.get?_push_size _ rfl
 have keep:∀h':Heap,But h1.objs.size {s with heap:=h1.push (seqObj "list" vs.toArray 0),toks:=tk} {s with heap:=h',toks:=tk}→∀b o,s.heap.get? b=some o→h'.get? b=some o:=λh' k b o e=>
  k b o (QE (Heap.lt_size (k1 b o e))) (Heap.get?_push_of_some _ (k1 b o e))
 show wpAny _ _ _ _ _ {s with heap:=h1.push (seqObj "list" vs.toArray 0),toks:=tk}
 refine wpAny_bind (wpAny_holding (wpAny_mono (wpAny_call_entry (E:=λ_ _=>False) slot_list_sort ⟨_,new,rfl⟩ entry_list_sort (sS (s:={s with heap:=h1.push (seqObj "list" vs.toArray 0),toks:=tk}) (κ:=κ) (blt:=blt) new (hz vs g) C (λh' k=>hkk vs h' tk g (keep h' k)) (λh' k=>L vs h' tk g (keep h' k)) λout p q=>⟨_,rfl,?_⟩) (args_list_sort _)) (λ_ _ q=>q) λ_ _ f=>f.elim))
 refine wpAny_pure ⟨_,rfl,?_⟩
 obtain⟨e,at_⟩:=sortedHeap_at (out:=out.map (·.2)) new
 refine h vs h1 _ tk e out g k1 (λb o q=>?_) at_ p q
 have lt:=Heap.lt_size q
 rw[sortedHeap_old (QE lt) (by rw[size_push'];exact Nat.lt_succ_of_lt lt)]
 exact Heap.get?_push_of_some _ q
end
end Srt
namespace L2
open PySem PySem.Spec PyProof.Rows
section
variable {X:Cx}
theorem uK {P:Program} {w:World} {k:Key} {v:Value} (h:(a9 P w).is k v=true):RelV (kV k) v:=by
 rw[xo]at h
 cases k with
 |inl i=>
  cases v with
  |int j t=>exact⟨t,by simp[jH,Value.isInt]at h;rw[h]⟩
  |_=>simp[jH,Value.isInt]at h
 |inr x=>
  cases v with
  |str y t=>exact⟨t,by simp[jH,Value.isStrOf]at h;rw[h]⟩
  |_=>simp[jH,Value.isStrOf]at h
def hZ (kvs:List (Key×V)):List V:=kvs.map λp=>kV p.1
theorem pD {kvs:List (Key×V)} {vs:List (Key×Value)} {acc:List Value} {P:Program} {w:World} (rel:KV kvs vs) (hl:acc.length=vs.length)
  (hv:∀(j:Nat) (v:Value),acc[j]?=some v→∃k x,vs[j]?=some (k,x)∧(a9 P w).is k v=true):Vals (hZ kvs) acc:=by
 induction rel generalizing acc with
 |nil=>cases acc with
  |nil=>exact .nil
  |cons a b=>simp at hl
 |cons r t ih=>
  rename_i p q ps qs
  cases acc with
  |nil=>simp at hl
  |cons a b=>
   refine .cons ?_ (ih (by simpa using hl) λj v e=>?_)
   ·obtain⟨k,x,e1,e2⟩:=hv 0 a rfl
    simp at e1
    subst e1
    show RelV (kV p.1) a
    rw[r.1]
    exact uK e2
   ·exact hv (j+1) v (by simpa using e)
theorem xD (hh:X.A.handled=none):gr X (.type "list") (λxs H Q=>∃a kvs,xs=[.ref a]∧Rd H a (.dK kvs)∧∀l,H l=none→Q (.ref l) (upd H l (.lst (hZ kvs)))):=by
 intro pins s σ H xs us Q I r h
 obtain⟨a,kvs,rfl,hd,q⟩:=h
 obtain⟨u,rfl,ru⟩:=pF r
 cases ru
 obtain⟨z,lo,vs,rel,dd⟩:=oA I.hok hd
 obtain⟨ep,hat⟩:=dd.dictAt
 have hlen:kvs.length=vs.length:=rel.length
 refine PySem.W.kdl_call (PySem.W.kdl_dict (knd:=a9 X.prog X.w) (kvs:=vs) (ep:=ep) lo) hh hat (by omega) λh' tk acc' c' hk hS hacc=>?_
 have hv:Vals (hZ kvs) acc'.toList:=pD rel (by rw[Q6];exact hacc.1) λj v e=>hacc.2 j v (by rw[←Qu];exact e)
 refine⟨.ref s.heap.objs.size,_,I.laid (t':=tk) hk (Q5 _) (show ObjOk X.prog X.w _ h' _ (.lst (hZ kvs)) from⟨?_,acc'.toList,c',hv,?_⟩),rfl,q _ (I.hok.fresh (Q5 _))⟩
 ·unfold hZ;rw[Q0];exact z
 ·rw[ZS];exact hS
theorem vp {pins:List (Addr×Obj)} {s:Shared} {σ:St} {H:Hp} {Q:VK} {T:String} {r d:Addr} {OK:Heap→Prop} {kvs:List (Key×V)} {vs:List (Key×Value)} {ns:List Int} (hh:X.A.handled=none) (I:Inv X pins σ H s) (rel:KV kvs vs) (z:kvs.length≤sizeLine)
  (src:PySem.W.KdlSrc X.prog X.w T r d vs.length (λi v=>∃k x,vs[i]?=some (k,x)∧(a9 X.prog X.w).is k v=true) OK) (hok:OK s.heap) (hns:hZ kvs=ns.map V.int)
  (q:∀(l:Addr) (ms:List Int),H l=none→ms.Perm ns→ms.Pairwise (· ≤ ·)→Q (.ref l) (upd H l (.lst (ms.map V.int)))):wpAny (model X.prog X.w) X.A (call (.builtin "sorted") [.ref r]) (EP X pins σ Q) X.xe s:=by
 have hlen:kvs.length=vs.length:=rel.length
 have hlk:(hZ kvs).length=kvs.length:=Q0 _
 have allI:∀its:List Value,Vals (hZ kvs) its→∀v∈its,∃i t,v=Value.int i t:=λits rv v hv=>by
  obtain⟨x,hx,rx⟩:=jg rv hv
  rw[hns]at hx
  obtain⟨i,_,rfl⟩:=Qg.mp hx
  obtain⟨t,e⟩:=rx
  exact⟨i,t,e⟩
 have mem:∀(its:List Value) (z:Keyed),z∈pairsOf its→z.1=z.2∧z.1∈its:=λits z hz=>by
  have:z∈(pairsOf its).toList:=by simpa using hz
  rw[pairsOf_toList]at this
  exact mem_zip_self this
 refine Srt.sorted_src (G:=λits=>Vals (hZ kvs) its) (κ:=oneType') (blt:=λa b=>HT.lexLt (uL (unV a.1)) (uL (unV b.1))) (λR E' k=>?_) (λits rv=>by rw[←rv.length,hlk];exact z) (Srt.cmp_of λa=>uL (unV a.1))
  (λits h' tk rv k h2 Q' hQ=>?_) (λits h' tk rv k=>Srt.runs_of λx y E' Q' hx hy hQ=>?_) (λits h1 h2 tk e out rv k1 k2 at_ pm pw=>?_)
 ·refine PySem.W.kdu_collect src hh hok (by omega) λh' tk acc hk hacc=>k h' tk acc.toList hk ?_
  exact pD rel (by rw[Q6];exact hacc.1) λj v e=>hacc.2 j v (by rw[←Qu];exact e)
 ·refine PySem.W.kas_kind (T:= .type "int") h2 (λv hv=>?_) (by decide+kernel) (by decide+kernel) hQ
  obtain⟨i,t,rfl⟩:=allI its rv v hv
  exact PySem.W.Looks.of_pure rfl
 ·obtain⟨i,t,e1⟩:=allI its rv _ (mem its x hx).2
  obtain⟨j,t',e2⟩:=allI its rv _ (mem its y hy).2
  rw[e1,e2]at hQ⊢
  refine PySem.W.kat_lt_int ?_
  have e:HT.lexLt (uL (unV (.int i t))) (uL (unV (.int j t')))=decide (i<j):=by
   show HT.lexLt [i] [j]=_
   rw[HT.lexLt_cons]
   by_cases z:i=j
   ·rw[if_pos z,HT.lexLt_nil_nil,decide_eq_false (by omega)]
   ·rw[if_neg z]
  rw[e]at hQ
  exact hQ
 ·have pml:out.toList.Perm (its.zip its):=by
   have:=X0.mp pm
   rwa [pairsOf_toList]at this
  have eqs:∀z∈out.toList,z.1=z.2∧z.1∈its:=λz hz=>mem_zip_self (pml.mem_iff.mp hz)
  have e2:(out.map (·.2)).toList=out.toList.map (·.2):=Array.toList_map
  have pv:((out.map (·.2)).toList).Perm its:=by
   rw[e2]
   refine(pml.map _).trans (List.Perm.of_eq ?_)
   exact List.map_snd_zip (Q5 _)
  have hu:∀u∈(out.map (·.2)).toList,RelV (unV u) u:=λu hu=>by
   obtain⟨x,_,r⟩:=jg rv (pv.mem_iff.mp hu)
   rw[pH r]
   exact r
  have vy:=ud hu
  have I1:Inv X pins σ H {s with heap:=h1,toks:=tk}:=I.kept k1
  have py:((out.map (·.2)).toList.map unV).Perm (ns.map V.int):=by
   rw[←hns,←uc rv]
   exact pv.map _
  have pw2:((out.map (·.2)).toList.map unV).Pairwise (λa b=>HT.lexLt (uL b) (uL a)=false):=by
   rw[e2,QL]
   refine QD.mpr (pw.imp_of_mem λ{a b} ha hb h=>?_)
   show HT.lexLt (uL (unV b.2)) (uL (unV a.2))=false
   rw[←(eqs a ha).1,←(eqs b hb).1]
   exact h
  have lz:((out.map (·.2)).toList.map unV).length≤sizeLine:=by
   rw[py.length_eq,←hns,hlk];exact z
  obtain⟨ms,em,pm'⟩:=yZ py
  rw[em]at vy pw2 lz
  refine⟨.ref h1.objs.size,upd H h1.objs.size (.lst (ms.map V.int)),I1.laid (t':=tk) k2 (Q5 _) ⟨lz,_,e,vy,?_⟩,rfl,q _ _ (I1.hok.fresh (Q5 _)) pm' ?_⟩
  ·rw[at_,ZS]
  ·refine(QD.mp pw2).imp λ{a b} h=>?_
   have h:HT.lexLt [b] [a]=false:=h
   rw[HT.lexLt_cons]at h
   by_cases z:b=a
   ·omega
   ·rw[if_neg z]at h
    have:=of_decide_eq_false h
    omega
theorem uR (hh:X.A.handled=none):gr X (.builtin "sorted") (λxs H Q=>∃(a:Addr) (kvs:List (Key×V)) (ns:List Int),xs=[.ref a]∧Rd H a (.dK kvs)∧hZ kvs=ns.map V.int∧
  ∀(l:Addr) (ms:List Int),H l=none→ms.Perm ns→ms.Pairwise (· ≤ ·)→Q (.ref l) (upd H l (.lst (ms.map V.int)))):=by
 intro pins s σ H xs us Q I r h
 obtain⟨a,kvs,ns,rfl,hd,hns,q⟩:=h
 obtain⟨u,rfl,ru⟩:=pF r
 cases ru
 obtain⟨z,lo,vs,rel,dd⟩:=oA I.hok hd
 obtain⟨ep,hat⟩:=dd.dictAt
 exact vp hh I rel z (PySem.W.kdl_dict (knd:=a9 X.prog X.w) (kvs:=vs) (ep:=ep) lo) hat hns q
def Fx:V→List V→Hp→VK→Prop:=λx vs H Q=>∃a kvs k v,x= .ref a∧vs=[kV k]∧H a=some (.dK kvs)∧aL kvs k=some v∧Q v (upd H a (.dK (bK kvs k)))
theorem ya:MtR X "dict.pop" Fx:=by
 intro pins s σ H x vs v us Q I rx rv h
 obtain⟨a,kvs,k,y,rfl,rfl,hH,hl,q⟩:=h
 cases rx
 obtain⟨u,rfl,ru⟩:=rv.one
 exact FO I hH ru hl (.inl rfl) λw' s' I' r'=>⟨y,_,I',r',q⟩
end
end L2
namespace L2
open PySem PySem.Spec PyProof.Rows
theorem lP {env:Env}:∀(l:List (Str×NameKind)) (cs:List (Str×Addr)),(∀p∈l,p.2= .free→∃c,env.cells.lookup p.1=some c)→
  ∃cl,(forIn l cs (λp cs=>if(p.2==NameKind.free)=true then cellOf env p.1>>=λa=>pure (ForInStep.yield ((p.1,a)::cs))else pure (ForInStep.yield cs)):Sem _)=pure cl∧
   (∀y c,cl.lookup y=some c→cs.lookup y=some c∨env.cells.lookup y=some c)∧(∀y c,cs.lookup y=some c→∃c',cl.lookup y=some c')∧(∀y,(y,NameKind.free)∈l→∃c,cl.lookup y=some c)
 | [],cs,_=>⟨cs,by rw[List.forIn_nil],λy c h=> .inl h,λy c h=>⟨c,h⟩,λy h=>nomatch h⟩
 |(n,k)::r,cs,h=>by
  rw[List.forIn_cons]
  by_cases hk:k= .free
  ·subst hk
   obtain⟨c,hc⟩:=h (n,.free) Qj rfl
   have hc:env.cells.lookup n=some c:=hc
   have e:cellOf env n=pure c:=by unfold cellOf;rw[hc]
   obtain⟨cl,h1,h2,h3,h4⟩:=lP r ((n,c)::cs) λp hp=>h p (Qh _ hp)
   refine⟨cl,?_,λy c' hy=>?_,λy c' hy=>?_,λy hy=>?_⟩
   ·simp only[beq_self_eq_true,if_true,e,pure_bind]
    exact h1
   ·rcases h2 y c' hy with q|q
    ·rw[ZA]at q
     split at q
     ·rename_i z
      cases q
      rw[beq_iff_eq]at z
      subst z
      exact .inr hc
     ·exact .inl q
    ·exact .inr q
   ·by_cases z:y=n
    ·exact h3 y c (by rw[ZA,z];simp)
    ·exact h3 y c' (by rw[ZA,beq_eq_false_iff_ne.mpr z];exact hy)
   ·rcases Qm.mp hy with q|q
    ·have e1:y=n:=(Prod.mk.inj q).1
     exact h3 y c (by rw[ZA,e1];simp)
    ·exact h4 y q
  ·have hb:(k==NameKind.free)=false:=by simpa using hk
   obtain⟨cl,h1,h2,h3,h4⟩:=lP r cs λp hp=>h p (Qh _ hp)
   refine⟨cl,?_,h2,h3,λy hy=>?_⟩
   ·simp only[hb,Zd,if_false,pure_bind]
    exact h1
   ·rcases Qm.mp hy with q|q
    ·exact absurd (Prod.mk.inj q).2.symm hk
    ·exact h4 y q
theorem qS {env:Env} {scope:Scope} (h:∀p∈scope.names,p.2= .free→∃c,env.cells.lookup p.1=some c):
  ∃cl,closureFor scope env=pure cl∧(∀y c,cl.lookup y=some c→env.cells.lookup y=some c)∧(∀y,(y,NameKind.free)∈scope.names→∃c,cl.lookup y=some c):=by
 obtain⟨cl,h1,h2,_,h4⟩:=lP scope.names [] h
 refine⟨cl,?_,λy c hy=>(h2 y c hy).resolve_left λz=>by simp at z,h4⟩
 unfold closureFor
 simp only[bind_pure]
 exact h1
def cCx (X:Cx) (M N':List Str) (scope:Scope) (cl:List (Str×Addr)) (C:Addr) (s₂:Shared) (H₂:Hp) (fp:List Addr):Cx:=
 {X with N:=M++N',s₀:=s₂,H₀:=H₂,env:=compEnvC scope cl C X.env,outer:=X.stack,stack:=X.stack,ex:=fp,fn:=λ_=>false,pn:=[],xe:=λ_ _=>False}
structure CScope (X:Cx) (M N':List Str) (scope:Scope):Prop where
 kind:scope.kind= .function
 nd:(M++N').Nodup
 ln:N'.length=X.N.length
 own:∀x∈M,scope.names.lookup x=some .local
 nocell:∀y∈scope.names,y.2≠ .cell
 names:∀y∈scope.names,y.2= .local→scope.names.lookup y.1=some .local
 free:∀y∈scope.names,y.2= .free→X.env.kindOf y.1=some .cell
 vis:∀(j:Nat) (y:Str),N'[j]?=some y→Vis (relabel scope X.env) y→X.N[j]?=some y∧(y,NameKind.free)∈scope.names∧(relabel scope X.env).names.lookup y=some .cell
 cells:∀y,((relabel scope X.env).names.lookup y=some .cell∨(relabel scope X.env).names.lookup y=some .free)→(y,NameKind.free)∈scope.names
def ww (n:Nat) (g:TG) (tc:TT) (te:TE) (σ:St) (Q:VK) (J:It) (H1:Hp):Prop:=∀D,H1 D=none→∃W:Nat→Nat→St→List V→Hp→Prop,(∃m,W 0 m (List.replicate n none++σ) [] (upd H1 D (.lst [])))∧∀i m τ ys H2,W i m τ ys H2→H2 D=some (.lst ys)→
 (J.stop i H2∧Q (.ref D) H2)∨(J.go i H2∧∀x H3,J.yld i H2 x H3→∃G:St→Hp→Prop,(∀τ2 H4,G τ2 H4→∃(Ny:VK) (Ns:Hp→Prop),(∀y H6,Ny y H6→H6 D=some (.lst ys)∧ys.length<sizeLine∧∃m',m'<m∧W (i+1) m' τ2 (ys++ [y]) (upd H6 D (.lst (ys++ [y]))))∧
  (∀H5,Ns H5→H5 D=some (.lst ys)∧∃m',m'<m∧W (i+1) m' τ2 ys H5)∧tc τ2 H4 λb H5=>if b=true then te τ2 H5 Ny else Ns H5)∧g x τ H3 G)
def Ds:TT:=λ_ H Q=>Q true H
def PTs (X:Cx) (ifs:List Expr) (tc:TT):Prop:=∀(pins:List (Addr×Obj)) (s:Shared) (σ:St) (H:Hp) (Q:Bool→Hp→Prop),Inv X pins σ H s→tc σ H Q→
 wpAny (model X.prog X.w) X.A (forIn ifs true λc r=>if r=true then do let ok←isTrue c X.env (eval c X.env);pure (ForInStep.yield ok)else pure (ForInStep.yield r)) (λb s'=>∃H',Inv X pins σ H' s'∧Q b H') X.xe s
section
variable {X:Cx}
theorem Cy:PTs X [] Ds:=λ_ _ _ H _ I h=>wpAny_tests_nil ⟨H,I,h⟩
theorem xW {c:Expr} {tc:TT} (h:PT X c tc):PTs X [c] tc:=λpins s σ H Q I q=>wpAny_tests_one (h pins s σ H Q I q)
theorem CScope.pg {M N':List Str} {scope:Scope} {cl:List (Str×Addr)} {C:Addr} {s₂:Shared} {H₂:Hp} {fp:List Addr} {i:Nat} {x:Str} {px:Pos} (S:CScope X M N' scope) (h:M[i]?=some x):PG (cCx X M N' scope cl C s₂ H₂ fp) (.Name x px) (oz i):=
 bx S.nd (by show(M++N')[i]?=_;rw[Zg (Q2.mp h).1];exact h) (.inl (lookup_relabel_local (S.own x (Q1 h)))) (.inr (lookup_relabel_local (S.own x (Q1 h))))
structure DW (X:Cx) (pins:List (Addr×Obj)) (H:Hp) (C:Addr):Prop where
 no:H C=none
 fr:C≠X.env.locals
 ab:X.s₀.heap.objs.size≤C
 ce:∀x c,X.env.cells.lookup x=some c→c≠C
 pi:∀p∈X.pn++pins,p.1≠C
theorem tO {elt iter tg:Expr} {ifs:List Expr} {M N':List Str} {pos:Pos} {scope:Scope} {wi:TI} {g:TG} {tc:TT} {te:TE} {cl:List (Str×Addr)} {pins:List (Addr×Obj)} {s:Shared} {σ:St} {H:Hp} {Q:VK} {RR:Value→Addr→Result→Shared→Prop} (hc:X.calm=true) (S:CScope X M N' scope) (hi:PI X tg iter wi)
  (hg:∀cl C s₂ H₂ fp,PG (cCx X M N' scope cl C s₂ H₂ fp) tg g) (hcn:∀cl C s₂ H₂ fp,PTs (cCx X M N' scope cl C s₂ H₂ fp) ifs tc) (he:∀cl C s₂ H₂ fp,PE (cCx X M N' scope cl C s₂ H₂ fp) elt te)
  (cl1:∀y c,cl.lookup y=some c→X.env.cells.lookup y=some c) (cl2:∀y,(y,NameKind.free)∈scope.names→∃c,cl.lookup y=some c) (I:Inv X pins σ H s) {R:It→Hp→Prop} (h:wi σ H R) (hB:∀J H,R J H→ww M.length g tc te σ Q J H)
  (hR:∀D C s4 H',Inv X pins σ H' s4→(∃m,s4.heap.Ns C m)→DW X pins H' C→Q (.ref D) H'→RR (.ref D) C (.ok .next) s4):
  wpAny (model X.prog X.w) X.A (eval iter X.env) (λv s1=>wpAny (model X.prog X.w) X.A (pyIter v) (λitv s2=>wpAny (model X.prog X.w) X.A (newList []) (λacc s3=>
   wpAny (model X.prog X.w) X.A (newFunctionEnv scope X.env.globals cl [] X.env.qual none .none (some X.env)) (λcenv s4=>
    codeAny (model X.prog X.w) X.A (.compStart (.ListComp elt [⟨tg,iter,ifs,0⟩] scope pos) 0 itv acc {cenv with scope:=relabel scope X.env}) (RR acc cenv.locals) s4) X.xe s3) X.xe s2) X.xe s1) X.xe s:=by
 refine thn (hi pins s σ H _ I h) λv s1 h1=>thn h1 λitv s2 h2=>?_
 obtain⟨it,fp,tn,J,H2,e,I2,T,st2,f2,h⟩:=h2
 subst e
 refine wpAny_newObj_type (wpAny_newFunctionEnv S.nocell (by intro y hy;simp at hy) (λh₁ hns₁ hsb₁=>?_) S.kind)
 dsimp only at hns₁ hsb₁⊢
 generalize hD:s2.heap.objs.size=D at*
 generalize hH3:s2.heap.push {cls:= .type "list",dict:=none,data:= .seq ([]:List Value).toArray}=h3 at hns₁ hsb₁⊢
 have hCs:h3.objs.size=D+1:=by rw[←hH3,Heap.size_push,hD]
 have fD:H2 D=none:=I2.hok.fresh (Zk hD)
 obtain⟨W,⟨m0,w0⟩,turn⟩:=hB _ _ h D fD
 generalize hC:h3.objs.size=C at*
 have gD:s2.heap.get? D=none:=Heap.get?_none_of_le (Zk hD)
 have gC:s2.heap.get? C=none:=Heap.get?_none_of_le (by rw[hD,hCs];exact Zs _)
 have DC:D≠C:=by rw[hCs];exact QE (Zz _)
 have up3:∀b o,s2.heap.get? b=some o→h3.get? b=some o:=λb o e=>by rw[←hH3];exact Heap.get?_push_of_some _ e
 have hold:∀b o,h3.get? b=some o→h₁.get? b=some o:=λb o e=>hsb₁.extBut b o (by intro z;have:=Heap.lt_size e;rw[z,hC]at this;exact absurd this (Zt _)) (Heap.get?_push_of_some _ e)
 have up:∀b o,s2.heap.get? b=some o→h₁.get? b=some o:=λb o e=>hold b o (up3 b o e)
 have oD:h₁.get? D=some {cls:= .type "list",dict:=none,data:= .seq ([]:List Value).toArray}:=hold _ _ (by rw[←hH3,←hD];exact Heap.get?_push_size _ rfl)
 have fpo:∀b∈fp,b≠C∧b∉frs X.stack:=λb hb=>by
  obtain⟨o,e,_⟩:=T.obj _ _ st2 b hb
  refine⟨λz=>(by rw[z,gC]at e;cases e),λz=>?_⟩
  rcases Qm.mp (I2.stkSub b z)with q|q
  ·exact(f2 b hb).2.1 q
  ·exact(f2 b hb).2.2.1 q
 have fC:H2 C=none:=I2.hok.fresh (by rw[hD,hCs];exact Zs _)
 have ok:(cCx X M N' scope cl C s2 H2 fp).Ok:=
  {mod:=I2.ok.mod,kind:=S.kind,glob:=I2.ok.glob,blt:=I2.ok.blt,above:=by show s2.heap.objs.size≤C;rw[hD,hCs];exact Zs _
   inj:=λy z c h1 h2=>I2.ok.inj y z c (cl1 _ _ h1) (cl1 _ _ h2),has:=λy hy=>cl2 y (S.cells y hy),cab:=λy c z=>by cases z
   hd:=I2.ok.hd,frames:=I2.ok.frames,stk:= .inl rfl,exf:=λb hb=>⟨(fpo b hb).1,λy c e=>(f2 b hb).2.2.2.2.1 y c (cl1 y c e)⟩
   bs:=I2.bs,bsz:=QK I2.ok.bsz I2.sz
   noex:=λb o e hb=>by
    rcases(f2 b hb).2.2.2.1 with q|q
    ·exact I2.ok.noex b o e q
    ·exact absurd (Qw (Heap.lt_size e) (QK I2.ok.bsz q)) (Zt _)
   exfs:=λb hb=>(fpo b hb).2,funs:=I2.stack,frf:=I2.stkFree}
 have ne2:∀b u,H2 b=some u→b≠D:=λb u e=>al e fD
 have I3:Inv (cCx X M N' scope cl C s2 H2 fp) [] (List.replicate M.length none++σ) (upd H2 D (.lst [])) {s2 with heap:=h₁,toks:=s2.toks+([]:List (Str×Value)).length}:=
  {ok:=ok,os:=rfl,bare:=I2.bare,base:=Un.laid up (Zk hD) fD
   loc:=⟨_,hns₁,λi y v e1 e2 e3=>by
    by_cases lt:i<M.length
    ·have e2:(List.replicate M.length none++σ)[i]?=some (some v):=e2
     rw[Zg (by rw[Ze];exact lt),List.getElem?_replicate,if_pos lt]at e2
     cases e2
    ·have e1:(M++N')[i]?=some y:=e1
     have e2:(List.replicate M.length none++σ)[i]?=some (some v):=e2
     rw[Zb (Nat.not_lt.mp lt)]at e1
     rw[Zb (by rw[Ze];exact Nat.not_lt.mp lt),Ze]at e2
     generalize i-M.length=j at e1 e2
     obtain⟨e1,q1,q2⟩:=S.vis j y e1 e3
     have kc:=S.free _ q1 rfl
     obtain⟨m,hn,hl⟩:=I2.loc
     obtain⟨u,r,l⟩:=hl j y v e1 e2 (.inr (.inl kc))
     refine⟨u,r,?_⟩
     rcases l with⟨k,_⟩|⟨_,c,e,z⟩
     ·rw[kc]at k;cases k
     ·obtain⟨c',e'⟩:=cl2 y q1
      have ee:=cl1 _ _ e'
      rw[e]at ee
      cases ee
      obtain⟨o,ho,hd⟩:=z
      exact .inr ⟨.inl q2,c,e',o,up _ _ ho,hd⟩⟩
   cell:=λy c e=>by
    obtain⟨v,o,ho,hd⟩:=I2.cell y c (cl1 _ _ e)
    exact⟨v,o,up _ _ ho,hd⟩
   free:=by show upd H2 D (.lst []) C=none;rw[ae DC.symm];exact fC
   freeC:=λy c e=>by
    have q:=I2.freeC y c (cl1 _ _ e)
    obtain⟨v,o,ho,hd⟩:=I2.cell y c (cl1 _ _ e)
    rw[ae (λz=>by rw[z,gD]at ho;cases ho)]
    exact q
   pin:=λp hp=>absurd (show p∈([]:List (Addr×Obj)) from hp) (by simp)
   hok:=I2.hok.laid up (Zk hD) ⟨Qf _,[],0,.nil,oD⟩
   len:=by show(List.replicate M.length none++σ).length=(M++N').length;rw[Q8,Q8,Ze,I2.len,S.ln]}
 have stat:∀{H':Hp},(∀b∈fp,H' b=none)→∀b∈fp,wz (cCx X M N' scope cl C s2 H2 fp) [] H' b:=λhn b hb=>
  ⟨hn b hb,(fpo b hb).1,(fpo b hb).2,.inl hb,λy c e=>(f2 b hb).2.2.2.2.1 y c (cl1 _ _ e),λp hp=>absurd (show p∈([]:List (Addr×Obj)) from hp) (by simp)⟩
 have st3:tn 0 h₁:=T.keep _ _ _ st2 λb hb o e=>up b o e
 have loop:∀s3:Shared,s3={s2 with heap:=h₁,toks:=s2.toks+([]:List (Str×Value)).length}→
   codeAny (model X.prog X.w) X.A (.compLoop (.ListComp elt [⟨tg,iter,ifs,0⟩] scope pos) 0 (.ref it) (.ref D) (compEnvC scope cl C X.env)) (RR (.ref D) C) s3:=by
  rintro s3 rfl
  refine codeAny_loop rfl (λn s'=>∃i τ ys H',Inv (cCx X M N' scope cl C s2 H2 fp) [] τ H' s'∧tn i s'.heap∧(∀b∈fp,H' b=none)∧H' D=some (.lst ys)∧W i n τ ys H') ?_ m0
   ⟨0,_,[],_,I3,st3,λb hb=>by rw[ae (λz=>by obtain⟨o,e,_⟩:=T.obj _ _ st2 b hb;rw[z,gD]at e;cases e)];exact(f2 b hb).1,ag,w0⟩
  rintro n s' ⟨i,τ,ys,H',I',st',fr',hD',w'⟩
  show wpAny _ X.A ((compTurn (.ListComp elt [⟨tg,iter,ifs,0⟩] scope pos) 0 (.ref it) (.ref D) (compEnvC scope cl C X.env)).onRaise (λx=>do noteFrame x (compEnvC scope cl C X.env);theTreesLotGoes x)) _ _ s'
  refine wpAny_noted ?_
  rw[compTurn_list]
  refine wpAny_bind (wpAny_standAt (wpAny_bind ?_))
  rcases turn i n τ ys H' w' hD' with⟨stop,qn⟩|⟨go,step⟩
  ·refine thn (T.done (cCx X M N' scope cl C s2 H2 fp) rfl rfl rfl hc i [] s' _ H' _ I' (stat fr') st' stop) λr s4 ⟨hr,I4⟩=>?_
   subst hr
   refine wpAny_pure ?_
   obtain⟨m,hn,_⟩:=I4.loc
   have IX:Inv X pins σ H' s4:=I2.call' (s':=s4) I4.os (show Un (frs X.stack) fp H2 H' s2.heap s4.heap from I4.base) I4.hok I4.bare λb hb=>⟨(f2 b hb).2.2.2.1,(f2 b hb).2.1,(f2 b hb).2.2.2.2.1,(f2 b hb).2.2.2.2.2⟩
   refine hR D C s4 H' IX ⟨m,hn⟩ ⟨I4.free,λz=>?_,?_,λy c e z=>?_,λp hp z=>?_⟩ qn
   ·have:=I2.lt
    rw[←z,hCs,hD]at this
    exact absurd this (Nat.not_lt.mpr (Zs _))
   ·refine QK I2.sz ?_
    rw[hD,hCs]
    exact Zs _
   ·obtain⟨v,o,ho,_⟩:=I2.cell y c e
    rw[z,gC]at ho
    cases ho
   ·have ho:=(I2.pin p hp).1
    rw[z,gC]at ho
    cases ho
  ·refine thn (T.item (cCx X M N' scope cl C s2 H2 fp) rfl rfl rfl hc i [] s' _ H' _ I' (stat fr') st' go) λr s4 ⟨u,hr,h4⟩=>?_
   subst hr
   refine wpAny_bind (thn h4 λ_ s5 hzz=>?_)
   obtain⟨y,H5,I5,r5,y5,st5,fr5⟩:=hzz
   have I5':=I5.pinned (stat fr5) (T.obj _ _ st5)
   obtain⟨G,hG,gq⟩:=step y H5 y5
   refine wpAny_bind (wpAny_mono (hg cl C s2 H2 fp _ s5 _ H5 y _ _ I5' r5 gq) (λ_ s6 hzz=>?_) λ_ _ f=>f.elim)
   obtain⟨τ6,H6,I6,q6⟩:=hzz
   have fin:∀{τ7:St} {H7:Hp} {s7:Shared},Inv (cCx X M N' scope cl C s2 H2 fp) ([]++qj fp s5.heap) τ7 H7 s7→tn (i+1) s7.heap∧∀b∈fp,H7 b=none:=λ{τ7 H7 s7} I7=>by
    refine⟨T.keep _ _ _ st5 λb hb o e=>(I7.pin (b,o) (Qt _ (Qt _ (iN hb e)))).1,λb hb=>?_⟩
    obtain⟨o,e,d⟩:=T.obj _ _ st5 b hb
    exact(I7.pin (b,o) (Qt _ (Qt _ (iN hb e)))).2.1
   obtain⟨Ny,Ns,hy,hn,q6⟩:=hG _ _ q6
   refine wpAny_bind (wpAny_mono (hcn cl C s2 H2 fp _ s6 _ H6 _ I6 q6) (λb s7 ⟨H7,I7,q7⟩=>?_) λ_ _ f=>f.elim)
   cases b with
   |false=>
    rw[if_neg Qe]at q7
    obtain⟨hD7,m',hm',w7⟩:=hn _ q7
    exact wpAny_pure (show _∧_ from⟨rfl,m',hm',i+1,τ6,ys,_,I7.unpinned,(fin I7).1,(fin I7).2,hD7,w7⟩)
   |true=>
    rw[if_pos rfl]at q7
    refine wpAny_bind (wpAny_bind (wpAny_mono (he cl C s2 H2 fp _ s7 _ H7 _ I7 q7) (λz s8 hzz=>?_) λ_ _ f=>f.elim))
    obtain⟨y',H8,I8,r8,q8⟩:=hzz
    obtain⟨hD8,hl8,m',hm',w8⟩:=hy _ _ q8
    refine wpAny_bind (wpAny_mono (dN (X:=cCx X M N' scope cl C s2 H2 fp) _ s8 _ H8 (.ref D) [y'] (.ref D) [z] (λ_ H9=>H9=upd H8 D (.lst (ys++ [y']))) I8 rfl (.cons r8 .nil) ⟨D,ys,y',rfl,rfl,hD8,hl8,rfl⟩) (λz9 s9 hzz=>?_) λ_ _ f=>f.elim)
    obtain⟨_,H9,I9,_,e9⟩:=hzz
    subst e9
    exact wpAny_pure (wpAny_pure ⟨rfl,m',hm',i+1,τ6,ys++ [y'],_,I9.unpinned,(fin I9).1,(fin I9).2,ag,w8⟩)
 exact codeAny_compStart_list (loop _ rfl) (T.self _ 0 _ _ _ st3 (loop _ rfl))
theorem Inv.loose {pins:List (Addr×Obj)} {s:Shared} {σ:St} {H:Hp} {C:Addr} {h':Heap} (I:Inv X pins σ H s) (l:DW X pins H C) (sb:Heap.SameBut C s.heap h'):Inv X pins σ H {s with heap:=h'}:=
 I.turned (t':=s.toks) (λb o hb e=>(sb.2 b hb).trans e) l.no l.fr (.inr l.ab) l.ce l.pi
section
variable {elt iter tg:Expr} {ifs:List Expr} {M N':List Str} {y:Str} {py pos spos:Pos} {scope:Scope} {wi:TI} {g:TG} {tc:TT} {te:TE} {i:Nat}
theorem vD {B:St→VK→It→Hp→Prop} (hB:∀σ Q J H,B σ Q J H→ww M.length g tc te σ Q J H) (hc:X.calm=true) (S:CScope X M N' scope) (hi:PI X tg iter wi) (hg:CScope X M N' scope→∀cl C s₂ H₂ fp,PG (cCx X M N' scope cl C s₂ H₂ fp) tg g) (hcn:∀cl C s₂ H₂ fp,PTs (cCx X M N' scope cl C s₂ H₂ fp) ifs tc) (he:∀cl C s₂ H₂ fp,PE (cCx X M N' scope cl C s₂ H₂ fp) elt te)
  (hs:∀x,foldedSetIterable iter X.env x=pure x:=by intro _;rfl):PE X (.ListComp elt [⟨tg,iter,ifs,0⟩] scope pos) (λσ H Q=>wi σ H (B σ Q)):=by
 intro pins s σ H Q I h
 obtain⟨cl,hclos,cl1,cl2⟩:=qS (env:=X.env) (scope:=scope) λp hp hf=>I.ok.has p.1 (.inl (S.free p hp hf))
 rw[eval_ListComp]
 refine wpAny_comprehension_free (use:=none) rfl hs hclos S.kind S.names (tO hc S hi (hg S) hcn he cl1 cl2 I h (hB _ _) λD C s4 H' I4 hn l q=>?_)
 obtain⟨m,hn⟩:=hn
 exact⟨m,hn,λh' sb=>⟨.ref D,H',I4.loose l sb,rfl,q⟩⟩
theorem Ai {B:St→VK→It→Hp→Prop} (hB:∀σ Q J H,B σ Q J H→ww M.length g tc te σ Q J H) (hc:X.calm=true) (S:CScope X M N' scope) (hi:PI X tg iter wi) (hg:CScope X M N' scope→∀cl C s₂ H₂ fp,PG (cCx X M N' scope cl C s₂ H₂ fp) tg g) (hcn:∀cl C s₂ H₂ fp,PTs (cCx X M N' scope cl C s₂ H₂ fp) ifs tc) (he:∀cl C s₂ H₂ fp,PE (cCx X M N' scope cl C s₂ H₂ fp) elt te)
  (hN:X.N.Nodup) (hy:X.N[i]?=some y) (hk:X.env.scope.names.lookup y=some .local) (hsw:swapsWith (.ListComp elt [⟨tg,iter,ifs,0⟩] scope pos) (some (.Name y py)) spos.line X.env=pure true:=by rfl)
  (hs:∀x,foldedSetIterable iter X.env x=pure x:=by intro _;rfl):PS X (.Assign [.Name y py] (.ListComp elt [⟨tg,iter,ifs,0⟩] scope pos) spos) (Ci (λσ H Q=>wi σ H (B σ Q)) (oz i)):=by
 intro pins s σ H D I h
 obtain⟨cl,hclos,cl1,cl2⟩:=qS (env:=X.env) (scope:=scope) λp hp hf=>I.ok.has p.1 (.inl (S.free p hp hf))
 rw[exec_Assign_Name_used _ _ _ _ hsw]
 refine wpAny_bind (wpAny_standAt (wpAny_bind ?_))
 show wpAny _ X.A (do let _←comprehension (.ListComp elt [⟨tg,iter,ifs,0⟩] scope pos) scope X.env _ (newList []) false (eval iter X.env) (some (assign (.Name y py) X.env))) _ _ s
 refine wpAny_bind (thn (wpAny_comprehension_free (use:=some (assign (.Name y py) X.env)) (Q:=λ_ s'=>SP X pins D .next s') rfl hs hclos S.kind S.names
  (tO (Q:=λv H'=>D.nx (σ.set i (some v)) H') hc S hi (hg S) hcn he cl1 cl2 I h (hB _ _) λD' C s4 H' I4 hn l q=>?_)) λ_ s' hq=>wpAny_pure (wpAny_pure hq))
 obtain⟨m,hn⟩:=hn
 show wpAny _ X.A (assign (.Name y py) X.env (.ref D')) _ _ _
 refine wpAny_assign_Name (sR (v:= .ref D') I4 hN hy (.inl hk) rfl (λs5 I5 hzz=>?_) (.inr hk))
 obtain⟨a,sb,ha⟩:=hzz
 have ne:C≠a:=by
  rcases ha with z|z
  ·rw[z];exact l.fr
  ·exact Ne.symm (l.ce _ _ z)
 exact⟨m,hn.sameBut sb ne,λh' sb'=>⟨_,H',I5.loose l sb',q⟩⟩
end
def xF (te:TE) (σ:St) (Q:VK) (J:It) (H1:Hp):Prop:=∀D,H1 D=none→∃W:Nat→Nat→List V→Hp→Prop,(∃m,W 0 m [] (upd H1 D (.lst [])))∧∀i m ys H2,W i m ys H2→H2 D=some (.lst ys)→
 (J.stop i H2∧Q (.ref D) H2)∨(J.go i H2∧∀x H3,J.yld i H2 x H3→te (some x::σ) H3 λy H4=>H4 D=some (.lst ys)∧ys.length<sizeLine∧∃m',m'<m∧W (i+1) m' (ys++ [y]) (upd H4 D (.lst (ys++ [y]))))
def Fn (wi:TI) (te:TE):TE:=λσ H Q=>wi σ H (xF te σ Q)
theorem FQ {te:TE} {σ:St} {Q:VK} {J:It} {H1:Hp} (h:xF te σ Q J H1):ww 1 (oz 0) Ds te σ Q J H1:=λD hD=>by
 obtain⟨W,⟨m0,w0⟩,turn⟩:=h D hD
 refine⟨λi m τ ys H=>(∃v,τ=v::σ)∧W i m ys H,⟨m0,⟨none,rfl⟩,w0⟩,λi m τ ys H2 w e=>?_⟩
 obtain⟨⟨v,rfl⟩,w⟩:=w
 rcases turn i m ys H2 w e with z|⟨go,z⟩
 ·exact .inl z
 ·refine .inr ⟨go,λx H3 y=>⟨λτ2 H4=>τ2=some x::σ∧H4=H3,λτ2 H4 e=>?_,rfl,rfl⟩⟩
  obtain⟨rfl,rfl⟩:=e
  refine⟨λy H6=>H6 D=some (.lst ys)∧ys.length<sizeLine∧∃m',m'<m∧W (i+1) m' (ys++ [y]) (upd H6 D (.lst (ys++ [y]))),λ_=>False,λy H6 n=>?_,λ_ n=>n.elim,?_⟩
  ·obtain⟨n1,n2,m',n3,n4⟩:=n
   exact⟨n1,n2,m',n3,⟨_,rfl⟩,n4⟩
  ·exact cC (B:=False) (z x _ y)
theorem gc {elt iter:Expr} {N':List Str} {x:Str} {px pos:Pos} {scope:Scope} {wi:TI} {te:TE} (hc:X.calm=true) (S:CScope X [x] N' scope) (hi:PI X (.Name x px) iter wi) (he:∀cl C s₂ H₂ fp,PE (cCx X [x] N' scope cl C s₂ H₂ fp) elt te)
  (hs:∀x,foldedSetIterable iter X.env x=pure x:=by intro _;rfl):PE X (.ListComp elt [⟨.Name x px,iter,[],0⟩] scope pos) (Fn wi te):=
 vD (B:=xF te) (λ_ _ _ _=>FQ) hc S hi (λS _ _ _ _ _=>S.pg rfl) (λ_ _ _ _ _=>Cy) he hs
end
def vB (scope dsc:Scope):List (Str×NameKind):=scope.names.map λp=>if(p.2==NameKind.free&&dsc.kind==ScopeKind.function&&dsc.names.lookup p.1==some NameKind.cell)=true then(p.1,NameKind.cell)else(p.1,p.2)
def DM (M N N':List Str) (dsc:Scope) (scope:Scope):Bool:=
 (scope.kind==ScopeKind.function)&&decide (M++N').Nodup&&(M.all λx=>scope.names.lookup x==some NameKind.local)&&(scope.names.all λy=>y.2 !=NameKind.cell)&&(scope.names.all λy=>y.2 !=NameKind.local||scope.names.lookup y.1==some NameKind.local)
 &&(scope.names.all λy=>y.2 !=NameKind.free||dsc.names.lookup y.1==some NameKind.cell)&&(N'.all λy=>(vB scope dsc).lookup y !=some NameKind.local&&(vB scope dsc).lookup y !=some NameKind.free)&&decide (N'.length=N.length)&&(N'.zip N).all λp=>p.1==p.2||(vB scope dsc).lookup p.1==none
theorem mf {dsc:Scope}:∀{l:List (Str×NameKind)} {y:Str} {k:NameKind},(∀p∈l,p.2≠NameKind.cell)→(l.map λp=>if(p.2==NameKind.free&&dsc.kind==ScopeKind.function&&dsc.names.lookup p.1==some NameKind.cell)=true then(p.1,NameKind.cell)else(p.1,p.2)).lookup y=some k→(k= .cell∨k= .free)→(y,NameKind.free)∈l
 | [],y,k,_,h,_=>by simp at h
 |(n,kk)::r,y,k,hn,h,hk=>by
  rw[Qs]at h
  by_cases c:(kk==NameKind.free&&dsc.kind==ScopeKind.function&&dsc.names.lookup n==some NameKind.cell)=true
  ·dsimp only at h
   rw[if_pos c,ZA]at h
   split at h
   ·rename_i z
    rw[beq_iff_eq]at z
    subst z
    have:kk= .free:=by
     rw[QI,QI]at c
     simpa using c.1.1
    rw[this]
    exact Qj
   ·exact Qh _ (mf (λp hp=>hn p (Qh _ hp)) h hk)
  ·dsimp only at h
   rw[if_neg c,ZA]at h
   split at h
   ·rename_i z
    rw[beq_iff_eq]at z
    subst z
    cases h
    rcases hk with e|e
    ·exact absurd e (hn _ Qj)
    ·rw[e];exact Qj
   ·exact Qh _ (mf (λp hp=>hn p (Qh _ hp)) h hk)
theorem CScope.of {X:Cx} {scope dsc:Scope} {M N N':List Str} (eN:X.N=N) (ed:X.env.scope=dsc) (h:DM M N N' dsc scope=true):CScope X M N' scope:=by
 unfold DM at h
 simp only[QI]at h
 obtain⟨⟨⟨⟨⟨⟨⟨⟨h1,h2⟩,h3⟩,h4⟩,h5⟩,h6⟩,h7⟩,h8⟩,h9⟩:=h
 have hrel:(relabel scope X.env).names=vB scope dsc:=by rw[←ed];rfl
 have nocell:∀y∈scope.names,y.2≠NameKind.cell:=λy hy=>by have:=Zq.mp h4 y hy;simpa using this
 refine⟨by simpa using h1,of_decide_eq_true h2,by rw[eN];exact of_decide_eq_true h8,λx hx=>by simpa using Zq.mp h3 x hx,nocell,λy hy e=>?_,λy hy e=>?_,λj y hj v=>?_,λy e=>?_⟩
 ·have:=Zq.mp h5 y hy
  rw[e]at this
  simpa using this
 ·have:=Zq.mp h6 y hy
  rw[e]at this
  show X.env.scope.names.lookup y.1=_
  rw[ed]
  simpa using this
 ·have nl:=Zq.mp h7 y (Q1 hj)
  have hz:∃z,N[j]?=some z∧(y,z)∈N'.zip N:=by
   have lj:=(Q2.mp hj).1
   have l8:N'.length=N.length:=of_decide_eq_true h8
   refine⟨N[j]'(by omega),Q3 _,?_⟩
   refine Q1 (i:=j) ?_
   rw[List.getElem?_zip_eq_some]
   exact⟨hj,Q3 _⟩
  obtain⟨z,hz,mz⟩:=hz
  have e9:=Zq.mp h9 _ mz
  unfold Vis at v
  rw[hrel]at v⊢
  have nl:¬(vB scope dsc).lookup y=some NameKind.local∧¬(vB scope dsc).lookup y=some NameKind.free:=by simpa using nl
  rcases v with v|v|v
  ·exact absurd v nl.1
  ·refine⟨?_,mf nocell v (.inl rfl),v⟩
   rw[eN,hz]
   dsimp only at e9
   rw[v,Bool.or_eq_true]at e9
   rcases e9 with e9|e9
   ·rw[beq_iff_eq]at e9;rw[e9]
   ·cases e9
  ·exact absurd v nl.2
 ·have e:(vB scope dsc).lookup y=some .cell∨(vB scope dsc).lookup y=some .free:=by rw[←hrel];exact e
  rcases e with e|e
  ·exact mf nocell e (.inl rfl)
  ·exact mf nocell e (.inr rfl)
def CNext (n i:Nat) (ys:List V) (D:Addr) (Pv:Nat→List V→Hp→Prop):VK:=λy H4=>H4 D=some (.lst ys)∧ys.length<sizeLine∧∃m',m'<n-i∧m'=n-(i+1)∧i+1≤n∧Pv (i+1) (ys++ [y]) (upd H4 D (.lst (ys++ [y])))
theorem CNext.mk {n i:Nat} {ys:List V} {D:Addr} {Pv:Nat→List V→Hp→Prop} {y:V} {H4:Hp} (hi:i<n) (h1:H4 D=some (.lst ys)) (h2:ys.length<sizeLine) (h3:Pv (i+1) (ys++ [y]) (upd H4 D (.lst (ys++ [y])))):CNext n i ys D Pv y H4:=
 ⟨h1,h2,n-(i+1),by omega,rfl,hi,h3⟩
theorem ig {K:PySem.W.Frag} {a D:Addr} {xs:List V} {te:TE} {σ:St} {H1:Hp} {Fin:Hp→Prop} (Pv:Nat→List V→Hp→Prop) (h0:Pv 0 [] (upd H1 D (.lst []))) (hl:∀i ys H,i≤xs.length→Pv i ys H→SqL K H a xs)
  (hs:∀i x ys H2,xs[i]?=some x→Pv i ys H2→H2 D=some (.lst ys)→te (some x::σ) H2 (CNext xs.length i ys D Pv))
  (hd:∀ys H2,Pv xs.length ys H2→H2 D=some (.lst ys)→Fin H2):
  ∃W:Nat→Nat→List V→Hp→Prop,(∃m,W 0 m [] (upd H1 D (.lst [])))∧∀i m ys H2,W i m ys H2→H2 D=some (.lst ys)→
   ((Itl K a).stop i H2∧Fin H2)∨((Itl K a).go i H2∧∀x H3,(Itl K a).yld i H2 x H3→te (some x::σ) H3 λy H4=>H4 D=some (.lst ys)∧ys.length<sizeLine∧∃m',m'<m∧W (i+1) m' (ys++ [y]) (upd H4 D (.lst (ys++ [y])))):=by
 refine⟨λi m ys H=>m=xs.length-i∧i≤xs.length∧Pv i ys H,⟨xs.length,by simp,Qf _,h0⟩,?_⟩
 rintro i m ys H ⟨rfl,hi,p⟩ hD
 have q:=hl i ys H hi p
 by_cases lt:i<xs.length
 ·refine .inr ⟨⟨xs,xs[i],q,by simp[lt]⟩,λx H' y=>?_⟩
  obtain⟨e,y⟩:=y
  subst e
  exact hs i x ys _ (y xs q) p hD
 ·have e:i=xs.length:=by omega
  subst e
  exact .inl ⟨⟨xs,q,Q5 _⟩,hd ys H p hD⟩
theorem lN {lo:Int} {n:Nat} {D:Addr} {te:TE} {σ:St} {H1:Hp} {Fin:Hp→Prop} (Pv:Nat→List V→Hp→Prop) (h0:Pv 0 [] (upd H1 D (.lst [])))
  (hs:∀i ys H2,i<n→Pv i ys H2→H2 D=some (.lst ys)→te (some (.int (lo+i))::σ) H2 (CNext n i ys D Pv))
  (hd:∀ys H2,Pv n ys H2→H2 D=some (.lst ys)→Fin H2):
  ∃W:Nat→Nat→List V→Hp→Prop,(∃m,W 0 m [] (upd H1 D (.lst [])))∧∀i m ys H2,W i m ys H2→H2 D=some (.lst ys)→
   ((Itr lo n).stop i H2∧Fin H2)∨((Itr lo n).go i H2∧∀x H3,(Itr lo n).yld i H2 x H3→te (some x::σ) H3 λy H4=>H4 D=some (.lst ys)∧ys.length<sizeLine∧∃m',m'<m∧W (i+1) m' (ys++ [y]) (upd H4 D (.lst (ys++ [y])))):=by
 refine⟨λi m ys H=>m=n-i∧i≤n∧Pv i ys H,⟨n,by simp,Qf _,h0⟩,?_⟩
 rintro i m ys H ⟨rfl,hi,p⟩ hD
 by_cases lt:i<n
 ·refine .inr ⟨lt,λx H' y=>?_⟩
  obtain⟨e,y⟩:=y
  subst e y
  exact hs i ys _ lt p hD
 ·have e:i=n:=by omega
  subst e
  exact .inl ⟨Q5 _,hd ys H p hD⟩
end L2
namespace L2
open PySem PySem.Spec PyProof.Rows
def uS (tc:TT) (te:TE) (σ:St) (Q:VK) (J:It) (H1:Hp):Prop:=∀D,H1 D=none→∃W:Nat→Nat→List V→Hp→Prop,(∃m,W 0 m [] (upd H1 D (.lst [])))∧∀i m ys H2,W i m ys H2→H2 D=some (.lst ys)→
 (J.stop i H2∧Q (.ref D) H2)∨(J.go i H2∧∀x H3,J.yld i H2 x H3→tc (some x::σ) H3 λb H4=>if b=true then te (some x::σ) H4 λy H5=>H5 D=some (.lst ys)∧ys.length<sizeLine∧∃m',m'<m∧W (i+1) m' (ys++ [y]) (upd H5 D (.lst (ys++ [y])))else H4 D=some (.lst ys)∧∃m',m'<m∧W (i+1) m' ys H4)
def z6 (wi:TI) (tc:TT) (te:TE):TE:=λσ H Q=>wi σ H (uS tc te σ Q)
theorem DN {tc:TT} {te:TE} {σ:St} {Q:VK} {J:It} {H1:Hp} (h:uS tc te σ Q J H1):ww 1 (oz 0) tc te σ Q J H1:=λD hD=>by
 obtain⟨W,⟨m0,w0⟩,turn⟩:=h D hD
 refine⟨λi m τ ys H=>(∃v,τ=v::σ)∧W i m ys H,⟨m0,⟨none,rfl⟩,w0⟩,λi m τ ys H2 w e=>?_⟩
 obtain⟨⟨v,rfl⟩,w⟩:=w
 rcases turn i m ys H2 w e with z|⟨go,z⟩
 ·exact .inl z
 ·refine .inr ⟨go,λx H3 y=>⟨λτ2 H4=>τ2=some x::σ∧H4=H3,λτ2 H4 e=>?_,rfl,rfl⟩⟩
  obtain⟨rfl,rfl⟩:=e
  refine⟨_,_,λy H6 n=>?_,λH5 n=>?_,z x _ y⟩
  ·obtain⟨n1,n2,m',n3,n4⟩:=n
   exact⟨n1,n2,m',n3,⟨_,rfl⟩,n4⟩
  ·obtain⟨n1,m',n3,n4⟩:=n
   exact⟨n1,m',n3,⟨_,rfl⟩,n4⟩
section
variable {X:Cx}
theorem mq {elt iter cnd:Expr} {N':List Str} {x:Str} {px pos:Pos} {scope:Scope} {wi:TI} {te:TE} {tc:TT} (hc:X.calm=true) (S:CScope X [x] N' scope) (hi:PI X (.Name x px) iter wi) (hcn:∀cl C s₂ H₂ fp,PT (cCx X [x] N' scope cl C s₂ H₂ fp) cnd tc) (he:∀cl C s₂ H₂ fp,PE (cCx X [x] N' scope cl C s₂ H₂ fp) elt te)
  (hs:∀x,foldedSetIterable iter X.env x=pure x:=by intro _;rfl):PE X (.ListComp elt [⟨.Name x px,iter,[cnd],0⟩] scope pos) (z6 wi tc te):=
 vD (B:=uS tc te) (λ_ _ _ _=>DN) hc S hi (λS _ _ _ _ _=>S.pg rfl) (λ_ _ _ _ _=>xW (hcn _ _ _ _ _)) he hs
theorem Aj {elt iter cnd:Expr} {N':List Str} {x y:Str} {px py pos spos:Pos} {scope:Scope} {wi:TI} {te:TE} {tc:TT} {i:Nat} (hc:X.calm=true) (S:CScope X [x] N' scope) (hi:PI X (.Name x px) iter wi) (hcn:∀cl C s₂ H₂ fp,PT (cCx X [x] N' scope cl C s₂ H₂ fp) cnd tc) (he:∀cl C s₂ H₂ fp,PE (cCx X [x] N' scope cl C s₂ H₂ fp) elt te)
  (hN:X.N.Nodup) (hy:X.N[i]?=some y) (hk:X.env.scope.names.lookup y=some .local) (hsw:swapsWith (.ListComp elt [⟨.Name x px,iter,[cnd],0⟩] scope pos) (some (.Name y py)) spos.line X.env=pure true:=by rfl)
  (hs:∀x,foldedSetIterable iter X.env x=pure x:=by intro _;rfl):PS X (.Assign [.Name y py] (.ListComp elt [⟨.Name x px,iter,[cnd],0⟩] scope pos) spos) (Ci (z6 wi tc te) (oz i)):=
 Ai (B:=uS tc te) (λ_ _ _ _=>DN) hc S hi (λS _ _ _ _ _=>S.pg rfl) (λ_ _ _ _ _=>xW (hcn _ _ _ _ _)) he hN hy hk hsw hs
end
def CSkip (n i:Nat) (ys:List V) (D:Addr) (Pv:Nat→List V→Hp→Prop) (H4:Hp):Prop:=H4 D=some (.lst ys)∧∃m',m'<n-i∧m'=n-(i+1)∧i+1≤n∧Pv (i+1) ys H4
theorem CSkip.mk {n i:Nat} {ys:List V} {D:Addr} {Pv:Nat→List V→Hp→Prop} {H4:Hp} (hi:i<n) (h1:H4 D=some (.lst ys)) (h3:Pv (i+1) ys H4):CSkip n i ys D Pv H4:=⟨h1,n-(i+1),by omega,rfl,hi,h3⟩
theorem i5 {K:PySem.W.Frag} {a D:Addr} {xs:List V} {te:TE} {tc:TT} {σ:St} {H1:Hp} {Fin:Hp→Prop} (Pv:Nat→List V→Hp→Prop) (h0:Pv 0 [] (upd H1 D (.lst []))) (hl:∀i ys H,i≤xs.length→Pv i ys H→SqL K H a xs)
  (hs:∀i x ys H2,xs[i]?=some x→Pv i ys H2→H2 D=some (.lst ys)→tc (some x::σ) H2 λb H4=>if b=true then te (some x::σ) H4 (CNext xs.length i ys D Pv)else CSkip xs.length i ys D Pv H4)
  (hd:∀ys H2,Pv xs.length ys H2→H2 D=some (.lst ys)→Fin H2):
  ∃W:Nat→Nat→List V→Hp→Prop,(∃m,W 0 m [] (upd H1 D (.lst [])))∧∀i m ys H2,W i m ys H2→H2 D=some (.lst ys)→
   ((Itl K a).stop i H2∧Fin H2)∨((Itl K a).go i H2∧∀x H3,(Itl K a).yld i H2 x H3→tc (some x::σ) H3 λb H4=>if b=true then te (some x::σ) H4 λy H5=>H5 D=some (.lst ys)∧ys.length<sizeLine∧∃m',m'<m∧W (i+1) m' (ys++ [y]) (upd H5 D (.lst (ys++ [y])))else H4 D=some (.lst ys)∧∃m',m'<m∧W (i+1) m' ys H4):=by
 refine⟨λi m ys H=>m=xs.length-i∧i≤xs.length∧Pv i ys H,⟨xs.length,by simp,Qf _,h0⟩,?_⟩
 rintro i m ys H ⟨rfl,hi,p⟩ hD
 have q:=hl i ys H hi p
 by_cases lt:i<xs.length
 ·refine .inr ⟨⟨xs,xs[i],q,by simp[lt]⟩,λx H' y=>?_⟩
  obtain⟨e,y⟩:=y
  subst e
  exact hs i x ys _ (y xs q) p hD
 ·have e:i=xs.length:=by omega
  subst e
  exact .inl ⟨⟨xs,q,Q5 _⟩,hd ys H p hD⟩
end L2
namespace L2
open PySem PySem.Spec PyProof.Rows
end L2
namespace L2
open PySem PySem.Spec PyProof.Rows
def vwO (a d:Addr):HO:= .ext λh=>h.IsItemsView a d
def Itd (ob:Obj) (d:Addr) (kvs:List (Key×V)):It:=
 ⟨λi H=>H d=some (.frz ob (.dK kvs))∧i<kvs.length,λi H x H'=>∃p k v,x= .ref p∧H p=none∧kvs[i]?=some (k,v)∧H'=upd H p (.tup [kV k,v]),λi H=>H d=some (.frz ob (.dK kvs))∧kvs.length≤i⟩
def DObj (P:Program) (w:World) (ob:Obj) (d:Addr) (kvs:List (Key×V)) (vs:List (Key×Value)) (ep:Nat):Prop:=
 KV kvs vs∧∀h:Heap,h.get? d=some ob→h.DictAt (a9 P w) d vs ep
theorem KV.getI {kvs:List (Key×V)} {vs:List (Key×Value)} (h:KV kvs vs):∀{i:Nat} {k:Key} {v:V},kvs[i]?=some (k,v)→∃u,vs[i]?=some (k,u)∧RelV v u:=by
 induction h with
 |nil=>intro i k v e;simp at e
 |cons r t ih=>
  rename_i p q ps qs
  intro i k v e
  cases i with
  |zero=>
   simp at e
   subst e
   exact⟨q.2,by simp[show k=q.1 from r.1],r.2⟩
  |succ j=>
   obtain⟨u,h1,h2⟩:=ih (i:=j) (by simpa using e)
   exact⟨u,by simpa using h1,h2⟩
theorem wQ {P:Program} {w:World} {K:PySem.W.Frag} {elts:List Expr} {x1} {pos:Pos} {ob:Obj} {d:Addr} {kvs:List (Key×V)} {vs:List (Key×Value)} {ep:Nat} (it:Addr) (D:DObj P w ob d kvs vs ep):
  xJ P w K (.Tuple elts x1 pos) (Itd ob d kvs) [it] it (λi h=>∃ok ov,IsItemIter h it d i vs.length ep ok ov) where
 mem:=by simp
 obj:=λi h st b hb=>by
  obtain⟨ok,ov,st⟩:=st
  have z:b=it:=by simpa using hb
  subst z
  exact⟨_,st,λv z=>by cases z⟩
 keep:=λi h h' st k=>by
  obtain⟨ok,ov,st⟩:=st
  exact⟨ok,ov,k it (by simp) _ st⟩
 item:=by
  intro X hP hw hK hc i pins s σ H E I hf st hg
  subst hP hw hK
  obtain⟨ok,ov,st⟩:=st
  obtain⟨hq,hi⟩:=hg
  have fi:=hf it (by simp)
  obtain⟨hob,_⟩:=I.hok d _ hq
  have hat:=D.2 s.heap hob
  obtain⟨⟨k,v⟩,hx⟩:∃kv,kvs[i]?=some kv:=⟨kvs[i],by simp[hi]⟩
  obtain⟨u,hu,ru⟩:=KV.getI D.1 hx
  refine wpAny_pyNext_items_item st hat hu λkey h' hkey g1 g3 gz g5=>⟨_,rfl,?_⟩
  refine wpAny_letOwnedTupleGo_items g1 λh2 k1 k2=>?_
  have rk:RelV (kV k) key:=uK hkey
  have np:H s.heap.objs.size=none:=I.hok.fresh (Q5 _)
  have nit:s.heap.objs.size≠it:=Nat.ne_of_gt (Heap.lt_size st)
  have keep:∀b o,b≠it→s.heap.get? b=some o→h2.get? b=some o:=λb o z q=>(k2.2 b z).trans (g5 b o z q)
  have tupAt:h2.get? s.heap.objs.size=some {cls:= .type "tuple",data:= .seq #[key,u]}:=(k2.2 _ nit).trans g3
  have trk:∀b v,H b=some v→b≠it:=λb v q z=>by rw[z,fi.1]at q;cases q
  have un:Un (frs X.stack) [it] H (upd H s.heap.objs.size (.tup [kV k,v])) s.heap h2:=by
   refine⟨λb o q n hb hx=>keep b o (λz=>hx (by simp[z])) q,λb o q n hb hx=>⟨o.slots,keep b o (λz=>hx (by simp[z])) q⟩,λb o q n hx=>?_,
    λb o q hx=>⟨o,keep b o (λz=>hx (by simp[z])) q⟩,λb ys q=>?_,λb o v q=>?_,λb ps q=>⟨#[],?_⟩⟩
   ·rw[ae (QE (Heap.lt_size q))];exact n
   ·rw[ae (al q np)];exact q
   ·rw[ae (al q np)];exact q
   ·rw[ae (al q np),q];simp
  have hok:HOk X.prog X.w (upd H s.heap.objs.size (.tup [kV k,v])) h2:=λb v' q=>by
   by_cases z:b=s.heap.objs.size
   ·subst z
    rw[ag]at q
    cases q
    exact⟨by show 2≤sizeLine;decide,[key,u],.cons rk (.cons ru .nil),_,tupAt,rfl,_,rfl⟩
   ·rw[ae z]at q
    refine(I.hok b v' q).stay (λc o hc r=>?_) (λc r=>by rw[ae (al r np)];exact r) λc ys r=>by rw[ae (al r np)];exact r
    rcases hc with rfl|hc
    ·exact keep _ _ (trk _ _ q) r
    ·exact keep _ _ (trk _ _ hc) r
  have I2:Inv X pins σ (upd H s.heap.objs.size (.tup [kV k,v])) {s with heap:=h2}:=I.call' (s':={s with heap:=h2}) rfl un hok I.bare λb hb=>by
   have z:wz X pins H b:=hf b hb
   exact⟨z.2.2.2.1,z.2.1,z.2.2.2.2.1,z.2.2.2.2.2⟩
  refine⟨.ref s.heap.objs.size,_,I2,rfl,⟨_,k,v,rfl,np,hx,rfl⟩,⟨key,u,k1⟩,λb hb=>?_⟩
  have z:b=it:=by simpa using hb
  subst z
  rw[ae (Ne.symm nit)]
  exact fi.1
 done:=by
  intro X hP hw hK hc i pins s σ H E I hf st hg
  subst hP hw hK
  obtain⟨ok,ov,st⟩:=st
  obtain⟨hq,hi⟩:=hg
  obtain⟨hob,_⟩:=I.hok d _ hq
  have hat:=D.2 s.heap hob
  obtain⟨f0,f1,f2,f3,f4,f5⟩:=hf it (by simp)
  have hl:kvs.length=vs.length:=D.1.length
  exact wpAny_pyNext_items_end (I.ok.hd hc) st hat (by simp;omega) λh' eb=>⟨rfl,I.turned (t':=s.toks) (λb o hb e=>eb b o hb e) f0 f1 f3 f4 f5⟩
 self:=λ_ _ _ _ _ st h=>let⟨_,_,st⟩:=st;PySem.W.kcp_self st h
section
variable {X:Cx}
def Ei:V→List V→Hp→VK→Prop:=λx vs H Q=>∃d kvs,x= .ref d∧vs=[]∧H d=some (.dK kvs)∧∀a,H a=none→Q (.ref a) (upd H a (vwO a d))
theorem vK:MtR X "dict.items" Ei:=by
 intro pins s σ H x vs v us Q I rx rv h
 obtain⟨d,kvs,rfl,rfl,hd,q⟩:=h
 cases rx
 cases rv
 obtain⟨z,lo,ws,rel,dd⟩:=oB I.hok hd
 refine call_meetsIn X6 dd.typeIs PySem.F.entry_dict_items (PySem.F.args_dict_items_1 _) (meets_dict_items (a9 X.prog X.w) d lo) ⟨⟨ws,dd⟩,?_⟩
 have new:(s.heap.push {cls:= .type "dict_items",data:= .fields #[.ref d]}).get? s.heap.objs.size=some {cls:= .type "dict_items",data:= .fields #[.ref d]}:=Heap.get?_push_size _ rfl
 refine⟨.ref s.heap.objs.size,_,I.laid (t':=s.toks) (λb o e=>Heap.get?_push_of_some _ e) (Q5 _) (show ObjOk X.prog X.w _ _ _ (vwO s.heap.objs.size d) from⟨⟨_,new,rfl,rfl⟩,⟨_,new⟩,λh1 h2 p k=>?_⟩),rfl,q _ (I.hok.fresh (Q5 _))⟩
 obtain⟨o,e,c⟩:=p
 exact⟨o,k o e,c⟩
theorem Inv.freeze {pins:List (Addr×Obj)} {σ:St} {H:Hp} {s:Shared} {d:Addr} {kvs:List (Key×V)} {ob:Obj} (I:Inv X pins σ H s) (hd:H d=some (.dK kvs)) (ho:s.heap.get? d=some ob):Inv X pins σ (upd H d (.frz ob (.dK kvs))) s:=by
 have own:∀b y,H b=some (.own y)→upd H d (.frz ob (.dK kvs)) b=some (.own y):=λb y q=>by rw[ae (λz=>by rw[z,hd]at q;cases q)];exact q
 have tup:∀b xs,H b=some (.tup xs)→upd H d (.frz ob (.dK kvs)) b=some (.tup xs):=λb xs q=>by rw[ae (λz=>by rw[z,hd]at q;cases q)];exact q
 have non:∀b,H b=none→upd H d (.frz ob (.dK kvs)) b=none:=λb q=>by rw[ae (λz=>by rw[z,hd]at q;cases q)];exact q
 refine⟨I.ok,I.os,I.bare,⟨I.base.keep,I.base.slot,λb o e n hx=>non b (I.base.free b o e n hx),I.base.there,λb xs e=>tup b xs (I.base.tups b xs e),λb o u e=>?_,λb ps e=>?_⟩,I.loc,I.cell,non _ I.free,λx c e=>non c (I.freeC x c e),λp hp=>?_,λb o e=>?_,I.len⟩
 ·have:=I.base.frzs b o u e
  rw[ae (λz=>by rw[z,hd]at this;cases this)];exact this
 ·obtain⟨m,q⟩:=I.base.tbls b ps e
  exact⟨m,by rw[ae (λz=>by rw[z,hd]at q;cases q)];exact q⟩
 ·obtain⟨h1,h2,h3⟩:=I.pin p hp
  exact⟨h1,non _ h2,h3⟩
 ·by_cases z:b=d
  ·subst z
   rw[ag]at e
   cases e
   exact⟨ho,(I.hok b _ hd).stay (λ_ _ _ q=>q) (λc q=>own c b q) tup⟩
  ·rw[ae z]at e
   exact(I.hok b o e).stay (λ_ _ _ q=>q) (λc q=>own c b q) tup
theorem Inv.thaw {pins:List (Addr×Obj)} {σ:St} {H:Hp} {s:Shared} {d:Addr} {kvs:List (Key×V)} {ob:Obj} (I:Inv X pins σ H s) (hd:H d=some (.frz ob (.dK kvs))) (h0:∀o u,X.H₀ d≠some (.frz o u)):Inv X pins σ (upd H d (.dK kvs)) s:=by
 have own:∀b y,H b=some (.own y)→upd H d (.dK kvs) b=some (.own y):=λb y q=>by rw[ae (λz=>by rw[z,hd]at q;cases q)];exact q
 have tup:∀b xs,H b=some (.tup xs)→upd H d (.dK kvs) b=some (.tup xs):=λb xs q=>by rw[ae (λz=>by rw[z,hd]at q;cases q)];exact q
 have non:∀b,H b=none→upd H d (.dK kvs) b=none:=λb q=>by rw[ae (λz=>by rw[z,hd]at q;cases q)];exact q
 refine⟨I.ok,I.os,I.bare,⟨I.base.keep,I.base.slot,λb o e n hx=>non b (I.base.free b o e n hx),I.base.there,λb xs e=>tup b xs (I.base.tups b xs e),λb o u e=>?_,λb ps e=>?_⟩,I.loc,I.cell,non _ I.free,λx c e=>non c (I.freeC x c e),λp hp=>?_,λb o e=>?_,I.len⟩
 ·have:=I.base.frzs b o u e
  rw[ae (λz=>by rw[z]at e;exact h0 _ _ e)];exact this
 ·obtain⟨m,q⟩:=I.base.tbls b ps e
  exact⟨m,by rw[ae (λz=>by rw[z,hd]at q;cases q)];exact q⟩
 ·obtain⟨h1,h2,h3⟩:=I.pin p hp
  exact⟨h1,non _ h2,h3⟩
 ·by_cases z:b=d
  ·subst z
   rw[ag]at e
   cases e
   obtain⟨_,q⟩:=I.hok b _ hd
   exact ObjOk.stay (show ObjOk X.prog X.w H s.heap b (.dK kvs) from q) (λ_ _ _ q=>q) (λc q=>own c b q) tup
  ·rw[ae z]at e
   exact(I.hok b o e).stay (λ_ _ _ q=>q) (λc q=>own c b q) tup
theorem Inv.noFrz {pins:List (Addr×Obj)} {σ:St} {H:Hp} {s:Shared} {d:Addr} {kvs:List (Key×V)} (I:Inv X pins σ H s) (hd:H d=some (.dK kvs)):∀o u,X.H₀ d≠some (.frz o u):=λo u e=>by
 have:=I.base.frzs d o u e
 rw[hd]at this
 cases this
def EL (te:TE):TI:=λσ H R=>te σ H λx H1=>∃a d kvs,x= .ref a∧H1 a=some (vwO a d)∧H1 d=some (.dK kvs)∧∀ob,R (Itd ob d kvs) (upd H1 d (.frz ob (.dK kvs)))
theorem vC {l:Expr} {te:TE} {elts:List Expr} {x1} {pos:Pos} (hl:PE X l te):PI X (.Tuple elts x1 pos) l (EL te):=by
 intro pins s σ H R I h
 refine thn (hl pins s σ H _ I h) λv s1 hzz=>?_
 obtain⟨x,H1,I1,r1,q1⟩:=hzz
 obtain⟨a,d,kvs,e,ha,hd,q⟩:=q1
 subst e
 cases r1
 obtain⟨z,lo,vs,rel,dd⟩:=oB I1.hok hd
 obtain⟨ep,hat⟩:=dd.dictAt
 obtain⟨vw,_,_⟩:=(show ObjOk X.prog X.w H1 s1.heap a (vwO a d) from I1.hok a _ ha)
 obtain⟨ob,es,hob,rest⟩:=id hat
 refine wpAny_pyIter_items vw hat ?_
 have If:=I1.freeze hd hob
 refine⟨s1.heap.objs.size,[s1.heap.objs.size],_,_,_,rfl,If.kept (t':=s1.toks) λb o e=>Heap.get?_push_of_some _ e,wQ _ ⟨rel,λh e=>⟨ob,es,e,rest⟩⟩,⟨_,_,Heap.get?_push_size _ rfl⟩,λb hb=>?_,q ob⟩
 have e:b=s1.heap.objs.size:=by simpa using hb
 subst e
 exact If.fpOk (Q5 _) (If.hok.fresh (Q5 _))
def Ff (t:TS):TS:=λD σ H=>∃d kvs,H d=some (.dK kvs)∧t ⟨λσ' H'=>∃ob,H' d=some (.frz ob (.dK kvs))∧D.nx σ' (upd H' d (.dK kvs)),λv H'=>∃ob,H' d=some (.frz ob (.dK kvs))∧D.rt v (upd H' d (.dK kvs)),
 λσ' H'=>∃ob,H' d=some (.frz ob (.dK kvs))∧D.bk σ' (upd H' d (.dK kvs)),λσ' H'=>∃ob,H' d=some (.frz ob (.dK kvs))∧D.ct σ' (upd H' d (.dK kvs))⟩ σ H
theorem uy {st:Stmt} {t:TS} (h:PS X st t):PS X st (Ff t):=by
 intro pins s σ H D I ⟨d,kvs,hd,q⟩
 have h0:=I.noFrz hd
 refine thn (h pins s σ H _ I q) λf s1 q1=>?_
 cases f with
 |next=>obtain⟨σ7,H7,I7,ob,e,q7⟩:=q1;exact⟨σ7,_,I7.thaw e h0,q7⟩
 |cont=>obtain⟨σ7,H7,I7,ob,e,q7⟩:=q1;exact⟨σ7,_,I7.thaw e h0,q7⟩
 |brk=>obtain⟨σ7,H7,I7,ob,e,q7⟩:=q1;exact⟨σ7,_,I7.thaw e h0,q7⟩
 |ret v=>obtain⟨x7,σ7,H7,I7,r7,ob,e,q7⟩:=q1;exact⟨x7,σ7,_,I7.thaw e h0,r7,q7⟩
end
theorem qP {ob:Obj} {d:Addr} {kvs:List (Key×V)} {g:TG} {tb:TS} {nx:St→Hp→Prop} {rt:VK} {σ:St} {H:Hp} (Pv:Nat→St→Hp→Prop) (h0:Pv 0 σ H) (hl:∀i σ H,i≤kvs.length→Pv i σ H→H d=some (.frz ob (.dK kvs)))
  (hs:∀i k v p σ H,kvs[i]?=some (k,v)→Pv i σ H→H p=none→g (.ref p) σ (upd H p (.tup [kV k,v])) λσ2 H2=>tb ⟨Pv (i+1),rt,nx,Pv (i+1)⟩ σ2 H2) (hd:∀σ H,Pv kvs.length σ H→nx σ H):
  ∃W:Nat→Nat→St→Hp→Prop,(∃m,W 0 m σ H)∧∀i m σ H,W i m σ H→
   ((Itd ob d kvs).stop i H∧nx σ H)∨((Itd ob d kvs).go i H∧∃N:St→Hp→Prop,(∀σ' H',N σ' H'→∃m',m'<m∧W (i+1) m' σ' H')∧∀x H',(Itd ob d kvs).yld i H x H'→g x σ H' λσ2 H2=>tb ⟨N,rt,nx,N⟩ σ2 H2):=by
 refine⟨λi m σ H=>m=kvs.length-i∧i≤kvs.length∧Pv i σ H,⟨kvs.length,by simp,Qf _,h0⟩,?_⟩
 rintro i m σ H ⟨rfl,hi,p⟩
 have q:=hl i σ H hi p
 by_cases lt:i<kvs.length
 ·refine .inr ⟨⟨q,lt⟩,Pv (i+1),λσ' H' z=>⟨kvs.length-(i+1),by omega,rfl,lt,z⟩,λx H' y=>?_⟩
  obtain⟨pp,k,v,rfl,np,e,rfl⟩:=y
  exact hs i k v pp σ H e p np
 ·have e:i=kvs.length:=by omega
  subst e
  exact .inl ⟨⟨q,Q5 _⟩,hd σ H p⟩
end L2
namespace L2
open PySem PySem.Spec PyProof.Rows
section
variable {X:Cx} (K:PySem.W.Frag) (hK:X.K=K)
include hK
theorem sF:gr X (.builtin "len") (λxs H Q=>∃p ys,xs=[.ref p]∧(SqL K H p ys∨SqT K H p ys)∧Q (.int ys.length) H):=by subst hK;exact aA
theorem AO:IxR X (rIxL K):=by subst hK;exact aN
theorem uM:IxR X (rIxT K):=by subst hK;exact dw
end
section
variable {X:Cx}
theorem tP (hc:X.calm=true):gr X (.builtin "min") (λxs H Q=>∃(p:Addr) (ns:List Int),xs=[.ref p]∧SqL X.K H p (ns.map V.int)∧0<ns.length∧∀M,M∈ns→(∀a∈ns,M≤a)→Q (.int M) H):=by
 intro pins s σ H xs us Q I r h
 obtain⟨p,ns,rfl,hq,hne,q⟩:=h
 obtain⟨u,rfl,ru⟩:=pF r
 cases ru
 obtain⟨its,rv,pl,hz⟩:=I.list hq
 have hi:IntsAre its ns:=qL rv
 obtain⟨xs,e⟩:=hi.allInts.items
 have hns:ns=xs.toList.map (·.1):=by
  rw[←hi.numsOf,←nums_intItems,←e]
 have hsz:0<xs.size:=by
  have h3:=hne;rw[hns,Q0,Q6]at h3;exact h3
 have hl:=pl.isList
 rw[e]at hl
 refine min_intList (I.ok.hd hc) hl hsz λv h' tk hv hk=>?_
 obtain⟨t,rfl⟩:=intItems_at hv
 obtain⟨h1,h2⟩:=argBest_lt (numAt xs) (xs.size-1)
 refine⟨.int _,H,I.kept (t':=tk) hk,⟨t,rfl⟩,q _ ?_ λa ha=>?_⟩
 ·rw[hns,numAt_eq];exact getD_mem (by rw[Q0,Q6];omega)
 ·rw[hns]at ha
  obtain⟨j,hj,rfl⟩:=mem_getD ha
  rw[Q0,Q6]at hj
  rw[←numAt_eq];exact h2 j (by omega)
end
end L2
namespace L2
open PySem PySem.Spec PyProof.Rows
theorem tq {y:Int}:∀{ns:List Int} {m:Nat},m<ns.idxOf y→(h:m<ns.length)→ns[m]≠y
 | [],m,_,h=>by simp at h
 |a::r,m,lt,h=>by
  rw[List.idxOf_cons]at lt
  by_cases c:a=y
  ·rw[c]at lt;simp at lt
  ·have:(a==y)=false:=beq_eq_false_iff_ne.mpr c
   rw[this]at lt
   cases m with
   |zero=>exact c
   |succ j=>exact tq (ns:=r) (m:=j) (by simpa using lt) (by simpa using h)
theorem tK:∀(ns:List Int) (i:Nat),(ns.eraseIdx i).map V.int=(ns.map V.int).eraseIdx i
 | [],_=>rfl
 |_::_,0=>rfl
 |a::r,i+1=>by
  show V.int a::(r.eraseIdx i).map V.int=V.int a::(r.map V.int).eraseIdx i
  rw[tK r i]
section
variable {X:Cx}
def Ct:V→List V→Hp→VK→Prop:=λx vs H Q=>∃(l:Addr) (xs:List V) (k:Int) (y:V),x= .ref l∧vs=[.int k,y]∧H l=some (.lst xs)∧0≤k∧k≤(xs.length:Int)∧xs.length<sizeLine∧Q .non (upd H l (.lst (xs.take k.toNat++y::xs.drop k.toNat)))
theorem tw:MtM X "list.insert" Ct:=by
 intro pins s σ H x vs v us Q I rx rv h
 obtain⟨l,xs,k,y,rfl,rfl,hH,h0,hk,hz,q⟩:=h
 cases rx
 obtain⟨u1,u,rfl,⟨t,rfl⟩,ru⟩:=rv.two
 obtain⟨z,its,n,r,hl,e⟩:=I.lstM hH
 have fits:¬(!Builtin.List.listFitsIndex k)=true:=by
  have line:=qF
  rw[fitsIndex_both (by omega) (by omega)]
  exact Qe
 have hsz:its.toArray.size≤sizeLine:=by rw[Qi];omega
 refine call_meets F.slot_list_insert ⟨_,e,rfl⟩ F.entry_list_insert (F.args_list_insert_3 _ _ _) (AutoListH.list_insert_list_int_val_1 l its.toArray n k t u fits hsz) ⟨e,?_⟩
 refine⟨.non,_,I.lset (its':=its.take k.toNat++u::its.drop k.toNat) hH e ?_ ((r.take k.toNat).append (.cons ru (r.drop k.toNat))) ?_,rfl,q⟩
 ·have e0:(if k<0 then(k+((its.toArray.size:Nat):Int)).toNat else min k.toNat its.toArray.size)=k.toNat:=by
   rw[if_neg (by omega),Qi]
   omega
  show(its.toArray.extract 0 _).push u++its.toArray.extract _=_
  rw[e0]
  simp
  exact Qz (by rw[QG];omega)
 ·rw[Q8,Qp,Q7,QG]
  omega
def Cs:V→List V→Hp→VK→Prop:=λx vs H Q=>∃(l:Addr) (ns:List Int) (y:Int),x= .ref l∧vs=[.int y]∧H l=some (.lst (ns.map V.int))∧y∈ns∧Q .non (upd H l (.lst ((ns.erase y).map V.int)))
theorem zc:MtM X "list.remove" Cs:=by
 intro pins s σ H x vs v us Q I rx rv h
 obtain⟨l,ns,y,rfl,rfl,hH,hy,q⟩:=h
 cases rx
 obtain⟨u,rfl,ru⟩:=rv.one
 obtain⟨t,rfl⟩:=ru
 obtain⟨z,its,n,r,hl,e⟩:=I.lstM hH
 have hi:IntsAre its ns:=qL r
 have at_:∀(m:Nat) (hm:m<its.toArray.size),∃t',its.toArray[m]=Value.int (ns.getD m 0) t':=λm hm=>by
  have hm':m<ns.length:=by rw[Qi,←hl,Q0]at hm;exact hm
  obtain⟨w,hw,rw'⟩:=r.get (i:=m) (x:= .int (ns.getD m 0)) (by rw[QA,Q3 hm',Ql,Q3 hm'];rfl)
  obtain⟨t',rfl⟩:=rw'
  refine⟨t',?_⟩
  have:=(Q2.mp hw).2
  simpa using this
 have hx:ns.idxOf y<ns.length:=List.idxOf_lt_length_of_mem hy
 have ga:∀m,m<ns.length→ns.getD m 0=ns[m]!:=λm hm=>by simp[hm]
 refine call_meets F.slot_list_remove ⟨_,e,rfl⟩ F.entry_list_remove (F.args_list_remove_2 _ _) (MeetsSeq.list_remove l its.toArray n (.int y t) (λv=>match v with| .int i _=>i==y|_=>false) (λv hv=>?_) (ns.idxOf y) (by rw[Qi,←hl,Q0];exact hx) ?_ (λm hm lt=>?_) (by rw[Qi];omega)) ⟨e,?_⟩
 ·obtain⟨m,hm,em⟩:=Array.getElem_of_mem hv
  obtain⟨t',et⟩:=at_ m hm
  rw[←em,et]
  exact MeetsSeq.EqGives.int _ _ _ _
 ·obtain⟨t',et⟩:=at_ (ns.idxOf y) (by rw[Qi,←hl,Q0];exact hx)
  rw[et]
  show(ns.getD (ns.idxOf y) 0==y)=true
  rw[Ql,Q3 hx,Option.getD_some,List.getElem_idxOf hx]
  exact beq_self_eq_true y
 ·obtain⟨t',et⟩:=at_ m hm
  rw[et]
  show(ns.getD m 0==y)=false
  have hm':m<ns.length:=by omega
  rw[Ql,Q3 hm',Option.getD_some]
  exact beq_eq_false_iff_ne.mpr (λw=>tq lt hm' w)
 ·have ee:ns.erase y=ns.eraseIdx (ns.idxOf y):=(List.erase_eq_eraseIdx_of_idxOf rfl)
  have em:(ns.eraseIdx (ns.idxOf y)).map V.int=(ns.map V.int).eraseIdx (ns.idxOf y):=tK _ _
  rw[ee,em]at q
  refine⟨.non,_,I.lset (its':=its.eraseIdx (ns.idxOf y)) hH e ?_ (r.eraseIdx (ns.idxOf y)) ?_,rfl,q⟩
  ·show its.toArray.eraseIdxIfInBounds (ns.idxOf y)=(its.eraseIdx (ns.idxOf y)).toArray
   rw[XB]
  ·have:=nP (ns.map V.int) (ns.idxOf y)
   omega
end
end L2
namespace L2
open PySem PySem.Spec PyProof.Rows
def Itk (ob:Obj) (d:Addr) (kvs:List (Key×V)):It:=
 ⟨λi H=>H d=some (.frz ob (.dK kvs))∧i<kvs.length,λi H x H'=>H'=H∧∃k v,kvs[i]?=some (k,v)∧x=kV k,λi H=>H d=some (.frz ob (.dK kvs))∧kvs.length≤i⟩
theorem yO {P:Program} {w:World} {K:PySem.W.Frag} {tg:Expr} {ob:Obj} {d:Addr} {kvs:List (Key×V)} {vs:List (Key×Value)} {ep:Nat} (it:Addr) (D:DObj P w ob d kvs vs ep):
  xJ P w K tg (Itk ob d kvs) [it] it (λi h=>h.IsKeyIter it d i vs.length ep) where
 mem:=by simp
 obj:=λi h st b hb=>by
  have z:b=it:=by simpa using hb
  subst z
  obtain⟨o,e,c,dd⟩:=st
  exact⟨o,e,λv z=>by rw[dd]at z;cases z⟩
 keep:=λi h h' st k=>by
  obtain⟨o,e,r⟩:=st
  exact⟨o,k it (by simp) _ e,r⟩
 item:=by
  intro X hP hw hK hc i pins s σ H E I hf st hg
  subst hP hw hK
  obtain⟨hq,hi⟩:=hg
  obtain⟨f0,f1,f2,f3,f4,f5⟩:=hf it (by simp)
  obtain⟨hob,_⟩:=I.hok d _ hq
  have hat:=D.2 s.heap hob
  obtain⟨⟨k,v⟩,hx⟩:∃kv,kvs[i]?=some kv:=⟨kvs[i],by simp[hi]⟩
  obtain⟨u,hu,ru⟩:=KV.getI D.1 hx
  refine wpAny_pyNext_dict_item st hat hu λkey h' hkey st' sb=>?_
  have I1:Inv X pins σ H {s with heap:=h'}:=I.turned (t':=s.toks) (λb o hb e=>(sb.2 b hb).trans e) f0 f1 f3 f4 f5
  obtain⟨o,e,c,dd⟩:=id st'
  exact⟨key,rfl,vZ (s:={s with heap:=h'}) e c dd (by decide) ⟨kV k,H,I1,uK hkey,⟨rfl,k,v,hx,rfl⟩,st',λb hb=>(hf b hb).1⟩⟩
 done:=by
  intro X hP hw hK hc i pins s σ H E I hf st hg
  subst hP hw hK
  obtain⟨hq,hi⟩:=hg
  obtain⟨hob,_⟩:=I.hok d _ hq
  have hat:=D.2 s.heap hob
  obtain⟨f0,f1,f2,f3,f4,f5⟩:=hf it (by simp)
  have hl:kvs.length=vs.length:=D.1.length
  exact wpAny_pyNext_dict_end (I.ok.hd hc) st hat (by simp;omega) λh' eb=>⟨rfl,I.turned (t':=s.toks) (λb o hb e=>eb b o hb e) f0 f1 f3 f4 f5⟩
 self:=λ_ _ _ _ _ st h=>wpAny_pyIter_keyiter st h
section
variable {X:Cx} {tg:Expr}
def FK (te:TE):TI:=λσ H R=>te σ H λx H1=>∃d kvs,x= .ref d∧H1 d=some (.dK kvs)∧∀ob,R (Itk ob d kvs) (upd H1 d (.frz ob (.dK kvs)))
theorem Cz {l:Expr} {te:TE} (hl:PE X l te):PI X tg l (FK te):=by
 intro pins s σ H R I h
 refine thn (hl pins s σ H _ I h) λv s1 hzz=>?_
 obtain⟨x,H1,I1,r1,q1⟩:=hzz
 obtain⟨d,kvs,e,hd,q⟩:=q1
 subst e
 cases r1
 obtain⟨z,lo,vs,rel,dd⟩:=oB I1.hok hd
 obtain⟨ep,hat⟩:=dd.dictAt
 obtain⟨ob,es,hob,rest⟩:=id hat
 refine wpAny_pyIter_dict lo hat ?_
 have If:=I1.freeze hd hob
 refine⟨s1.heap.objs.size,[s1.heap.objs.size],_,_,_,rfl,If.kept (t':=s1.toks) λb o e=>Heap.get?_push_of_some _ e,yO _ ⟨rel,λh e=>⟨ob,es,e,rest⟩⟩,⟨_,Heap.get?_push_size _ rfl,rfl,rfl⟩,λb hb=>?_,q ob⟩
 have e:b=s1.heap.objs.size:=by simpa using hb
 subst e
 exact If.fpOk (Q5 _) (If.hok.fresh (Q5 _))
end
theorem zq {ob:Obj} {d:Addr} {kvs:List (Key×V)} {g:TG} {tb:TS} {nx:St→Hp→Prop} {rt:VK} {σ:St} {H:Hp} (Pv:Nat→St→Hp→Prop) (h0:Pv 0 σ H) (hl:∀i σ H,i≤kvs.length→Pv i σ H→H d=some (.frz ob (.dK kvs)))
  (hs:∀i k v σ H,kvs[i]?=some (k,v)→Pv i σ H→g (kV k) σ H λσ2 H2=>tb ⟨Pv (i+1),rt,nx,Pv (i+1)⟩ σ2 H2) (hd:∀σ H,Pv kvs.length σ H→nx σ H):
  ∃W:Nat→Nat→St→Hp→Prop,(∃m,W 0 m σ H)∧∀i m σ H,W i m σ H→
   ((Itk ob d kvs).stop i H∧nx σ H)∨((Itk ob d kvs).go i H∧∃N:St→Hp→Prop,(∀σ' H',N σ' H'→∃m',m'<m∧W (i+1) m' σ' H')∧∀x H',(Itk ob d kvs).yld i H x H'→g x σ H' λσ2 H2=>tb ⟨N,rt,nx,N⟩ σ2 H2):=by
 refine⟨λi m σ H=>m=kvs.length-i∧i≤kvs.length∧Pv i σ H,⟨kvs.length,by simp,Qf _,h0⟩,?_⟩
 rintro i m σ H ⟨rfl,hi,p⟩
 have q:=hl i σ H hi p
 by_cases lt:i<kvs.length
 ·refine .inr ⟨⟨q,lt⟩,Pv (i+1),λσ' H' z=>⟨kvs.length-(i+1),by omega,rfl,lt,z⟩,λx H' y=>?_⟩
  obtain⟨rfl,k,v,e,rfl⟩:=y
  exact hs i k v σ _ e p
 ·have e:i=kvs.length:=by omega
  subst e
  exact .inl ⟨⟨q,Q5 _⟩,hd σ H p⟩
end L2
namespace L2
open PySem PySem.Spec PyProof.Rows
section
variable {X:Cx}
def Cr:V→List V→Hp→VK→Prop:=λx vs H Q=>∃a kvs k y,x= .ref a∧vs=[kV k,y]∧H a=some (.dK kvs)∧kvs.length<sizeLine∧(∀v,aL kvs k=some v→Q v H)∧(aL kvs k=none→Q y (upd H a (.dK (bj kvs k y))))
theorem zb:MtR X "dict.setdefault" Cr:=by
 intro pins s σ H x vs v us Q I rx rv h
 obtain⟨a,kvs,k,y,rfl,rfl,hH,hl,q1,q2⟩:=h
 cases rx
 obtain⟨u,r,rfl,ru,rr⟩:=pE rv
 obtain⟨z,hd,ws,rel,dd⟩:=oB I.hok hH
 have rk:=rel.val k
 refine call_meetsIn XM dd.typeIs PySem.F.entry_dict_setdefault (PySem.F.args_dict_setdefault_3 _ _ _) (kt_meets_setdefault (a9 X.prog X.w) a (oy ru) hd r) ⟨ws,dd,by rw[←rel.length];exact z,λv hv=>?_,λhn h' dd' hs=>?_⟩
 ·rw[hv]at rk
  cases e:aL kvs k with
  |none=>rw[e]at rk;exact rk.elim
  |some x=>
   rw[e]at rk
   exact⟨x,H,I.tok _,rk,q1 x e⟩
 ·rw[hn]at rk
  cases e:aL kvs k with
  |some x=>rw[e]at rk;exact rk.elim
  |none=>
   have he:∃q,h'.get? a=some q:=let⟨q,_,_,hq,_⟩:=dd';⟨q,hq⟩
   have lp:=bX kvs k y
   exact⟨y,_,pA I (by rw[hH];exact True.intro) hs he (xB (by omega) hd (rel.put k rr) dd'),rr,q2 e⟩
end
end L2
namespace L2
open PySem PySem.Spec PyProof.Rows
section
variable {X:Cx}
def sr (kvs more:List (Key×V)):List (Key×V):=more.foldl (λacc p=>bj acc p.1 p.2) kvs
theorem KV.mrg {more:List (Key×V)} {mws:List (Key×Value)} (h:KV more mws):∀{kvs:List (Key×V)} {ws:List (Key×Value)},KV kvs ws→KV (sr kvs more) (merged ws mws):=by
 induction h with
 |nil=>intro kvs ws r;exact r
 |cons r t ih=>
  rename_i p q ps qs
  intro kvs ws rw
  have e:p.1=q.1:=r.1
  have:=ih (rw.put p.1 r.2)
  rw[e]at this
  show KV (sr (bj kvs p.1 p.2) ps) _
  rw[e]
  exact this
theorem vL:∀{more kvs:List (Key×V)},(sr kvs more).length≤kvs.length+more.length
 | [],_=>Q5 _
 |p::r,kvs=>by
  have h1:=vL (more:=r) (kvs:=bj kvs p.1 p.2)
  have h2:=bX kvs p.1 p.2
  show(sr (bj kvs p.1 p.2) r).length≤_
  rw[Qp]
  omega
end
end L2
namespace PySem
open PySem.Spec
section
variable {prog:Program} {w:World} {A:Around} {E:Value→Shared→Prop} {s:Shared}
theorem Bk:typeLookup (.type "list") "keys"=pure none:=am_miss_of_fast (by decide+kernel)
theorem Bm {a:Addr} {o:Obj} {xs:Array Value} {k:Nat} {Q:Option Value→Shared→Prop} (hx:s.heap.get? a=some o) (hc:o.cls= .type "list") (hdat:o.data= .seq xs k) (hd:o.dict=none) (hA:A.handled=none)
  (h:∀h' tk,(∀b ob,s.heap.get? b=some ob→h'.get? b=some ob)→Q none {s with heap:=h',toks:=tk}):
  wpAny (model prog w) A (getAttr? (.ref a) "keys") Q E s:=by
 obtain⟨c,dct,dat,sl⟩:=o
 simp only at hc hdat hd
 subst hc hdat hd
 obtain⟨hp,g,d,tk,os⟩:=s
 have hT:∀tk',(⟨hp,g,d,tk',os⟩:Shared).TypeIs (.ref a) "list":=λ_=>⟨_,hx,rfl⟩
 have f1:=sub_AttributeError
 have f3:=F.slot_list_getattribute.lookup
 have f4:=F.slot_list_getattribute.bind (.ref a)
 have f5:=am_list_getattr_none
 unfold getAttr? getAttrBy? getAttrBy
 repeat (any_goals (first|assumption|exact hT _|((with_reducible show wpAny _ _ (call (Value.builtin "list.__getattribute__") _ _) _ _ _);refine call_meets F.slot_list_getattribute (hT _) am_entry_list_getattribute (F.args_list_getattribute_2 _ _) (meets_getattribute_miss_list a xs k sl "keys" _ Bk (by decide+kernel)) ⟨hx,hA,λh' tk' e hx'=>?_⟩)|wp_step))
 obtain⟨t',u',he⟩:=hx'.there
 show wpAny _ _ (getattributeRaised _ _ _ _ _ _ _) _ _ _
 unfold getattributeRaised
 repeat (any_goals (first|assumption|wp_step))
 exact h _ _ hx'.keeps
end
end PySem
namespace PySem
open PySem.Spec
namespace F
theorem entry_dict_update_loop:entryFor table "dict.update.loop"=some Builtin.«dict.update.loop»:=entryFor_of_tree (by kernel_rfl)
theorem plain_dict_update_loop:plainId "dict.update.loop"=true:=by decide+kernel
end F
section
variable {prog:Program} {w:World} {K:Type} [DecidableEq K] {knd:KeyKind prog w K} {A:Around} {R:Result→Shared→Prop} {s:Shared}
theorem Bj {E:Value→Shared→Prop} {p:Addr} {k v:Value} {Q:List Value→Shared→Prop} (hp:s.heap.IsTuple p #[k,v]) (h:Q [k,v] s):wpAny (model prog w) A (Builtin.Dict.pairItems (.ref p)) Q E s:=by
 obtain⟨o,ho,hc,n,hd⟩:=hp
 have hT:s.TypeIs (.ref p) "tuple":=⟨_,ho,hc⟩
 unfold Builtin.Dict.pairItems
 refine wpAny_bind (wpAny_typeOf hT ?_)
 have e:((Value.type "tuple"==Value.type "list")||(Value.type "tuple"==Value.type "tuple"))=true:=by decide
 rw[if_pos e]
 obtain⟨hp,g,d,tk,os⟩:=s
 obtain⟨c,dct,dat,sl⟩:=o
 simp only at hc hd
 subst hc hd
 repeat (any_goals (first|assumption|wp_step))
theorem Bl {I ax D:Addr} {items:Array Value} {ps:List (K×Value)} {h₀:Heap} (hh:A.handled=none) (hne:ax≠I) (hDI:D≠I) (hDa:D≠ax) (n0:h₀.get? D=none) (n1:h₀.get? I=none) (hl:ps.length≤sizeLine)
  (hi:∀(j:Nat) (v:Value),items[j]?=some v→∃p k key x,v= .ref p∧ps[j]?=some (k,x)∧knd.is k key=true∧h₀.IsTuple p #[key,x]) (hs:ps.length=items.size):
  ∀(n i:Nat) (s:Shared),items.size-i=n→i≤items.size→s.heap.IsListIter I ax i→s.heap.IsList ax items→(∀b o,h₀.get? b=some o→s.heap.get? b=some o)→s.heap.DictOf knd D (merged [] (ps.take i))→
   (∀h' tk,(∀b o,h₀.get? b=some o→h'.get? b=some o)→h'.DictOf knd D (merged [] ps)→R (.ok (.ret .none)) {s with heap:=h',toks:=tk})→
   codeAny (model prog w) A (.builtin "dict.update.loop" ⟨[.ref D,.ref I,rawInt i,.none],[]⟩) R s:=by
 intro n
 induction n with
 |zero=>
  intro i s hn hi' it il kp dd hR
  have e:i=items.size:=by omega
  subst e
  refine codeAny_builtin F.entry_dict_update_loop ?_
  rw[Around.under_plainId F.plain_dict_update_loop _]
  show wpAny _ A.in1 (pyNext (.ref I)>>=_) _ _ s
  have hh1:A.in1.handled=none:=by simp[hh]
  refine wpAny_bind (wpAny_pyNext_list_end hh1 it il (by simp) λh' he'=>?_)
  show wpAny _ A.in1 (Builtin.Dict.addKeywords D []>>=_) _ _ _
  refine wpAny_bind (wpAny_pure (wpAny_pure ?_))
  rw[Qz (Zk hs)]at dd
  refine hR h' s.toks (λb o e=>he' b o (λz=>by rw[z,n1]at e;cases e) (kp b o e)) ?_
  exact dd.at λo e=>he' D o hDI e
 |succ n ih=>
  intro i s hn hi' it il kp dd hR
  have hlt:i<items.size:=by omega
  refine codeAny_builtin F.entry_dict_update_loop ?_
  rw[Around.under_plainId F.plain_dict_update_loop _]
  show wpAny _ A.in1 (pyNext (.ref I)>>=_) _ _ s
  refine wpAny_bind (wpAny_pyNext_list_item it il (x:=items[i]) (by simp[hlt]) λh' hit' hs'=>?_)
  obtain⟨p,k,key,x,ev,ep,hk,tp⟩:=hi i items[i] (by simp[hlt])
  rw[ev]
  have kp':∀b o,h₀.get? b=some o→h'.get? b=some o:=λb o e=>hs'.extBut b o (λz=>by rw[z,n1]at e;cases e) (kp b o e)
  have tp':h'.IsTuple p #[key,x]:=tp.at λo e=>kp' p o e
  show wpAny _ A.in1 (holding [Value.ref p] _>>=_) _ _ _
  refine wpAny_bind (wpAny_holding (wpAny_bind (wpAny_tryCatch (Bj tp' ?_))))
  show wpAny _ _ (holding [key,x] (dictSet D key x)) _ _ _
  refine wpAny_holding (wpAny_dictSet_pairs hk (kvs:=merged [] (ps.take i)) ?_ (λh2 d2 s2=>?_) ?_)
  ·exact dd.at λo e=>hs'.extBut D o hDI e
  ·refine wpAny_pure ⟨plainId_quiet F.plain_dict_update_loop _,ih (i+1) _ (by omega) hlt ?_ ?_ ?_ ?_ λh3 tk k3 d3=>hR h3 tk k3 d3⟩
   ·exact hit'.at λo e=>(s2.2 I (Ne.symm hDI)).trans e
   ·exact(il.at λo e=>hs'.extBut ax o hne e).at λo e=>(s2.2 ax (Ne.symm hDa)).trans e
   ·exact λb o e=>(s2.2 b (λz=>by rw[z,n0]at e;cases e)).trans (kp' b o e)
   ·rw[merged_take_succ _ _ _ _ ep]
    exact d2
  ·have:=merged_length_le [] (ps.take i)
   rw[Q7]at this
   simp only[XI]at this
   omega
end
end PySem
namespace PySem
open PySem.Spec
section
variable {prog:Program} {w:World} {K:Type} [DecidableEq K] {knd:KeyKind prog w K} {A:Around} {E:Value→Shared→Prop} {s:Shared}
theorem Bn {l:Addr} {items:Array Value} {ps:List (K×Value)} {Q:Value→Shared→Prop} (hh:A.handled=none) (hl:PlainL s.heap l items) (hsz:ps.length≤sizeLine)
  (hi:∀(j:Nat) (v:Value),items[j]?=some v→∃p k key x,v= .ref p∧ps[j]?=some (k,x)∧knd.is k key=true∧s.heap.IsTuple p #[key,x]) (hs:ps.length=items.size)
  (h:∀h' tk,h'.DictOf knd s.heap.objs.size (merged [] ps)→(∀b o,s.heap.get? b=some o→h'.get? b=some o)→Q (.ref s.heap.objs.size) {s with heap:=h',toks:=tk}):
  wpAny (model prog w) A (call (.type "dict") [.ref l]) Q E s:=by
 refine callType_codes (Q₁:=λobj s₁=>obj= .ref s.heap.objs.size∧s₁={s with heap:=s.heap.push {cls:= .type "dict",data:= .dict #[]}}) F.kt_called_dict (F.kt_typeCall_dict_1 _) F.entry_dict_init (kt_code_dict_new _ ⟨rfl,rfl⟩) ?_
 rintro obj s₁ ⟨rfl,rfl⟩
 have hnew:(s.heap.push {cls:= .type "dict",data:= .dict #[]}).DictOf knd s.heap.objs.size []:=Heap.DictOf.new s.heap
 obtain⟨o,n,ho,hc,hd,hdat⟩:=hl
 have ho':(s.heap.push {cls:= .type "dict",data:= .dict #[]}).get? l=some o:=Heap.get?_push_of_some _ ho
 have lD:l<s.heap.objs.size:=Heap.lt_size ho
 refine⟨hnew.typeIs,F.args_dict_init_2 _ _,?_⟩
 unfold Builtin.«dict.__init__»
 refine wpAny_bind ?_
 unfold Builtin.Dict.selfAndRest
 refine wpAny_bind (wpAny_notOrdered_dict hnew.typeIs ?_)
 show wpAny _ _ (pure (s.heap.objs.size,[Value.ref l])) _ _ _
 refine wpAny_pure ?_
 show wpAny _ _ (Builtin.Dict.updateFrom "dict.__init__" s.heap.objs.size (.ref l) [] .none) _ _ _
 unfold Builtin.Dict.updateFrom
 refine wpAny_bind (wpAny_typeOf (show Shared.TypeIs _ (.ref l) "list" from⟨_,ho',hc⟩) ?_)
 rw[if_pos (by decide)]
 refine wpAny_bind (Bm ho' hc hdat hd hh λh1 tk1 k1=>?_)
 simp only[Option.isNone_none,if_true]
 refine wpAny_bind (wpAny_rule ?_)
 have l1:h1.IsList l items:=⟨_,k1 _ _ ho',hc,n,hdat⟩
 refine wpAny_bind (wpAny_pyIter_list l1 ?_)
 have D1:h1.DictOf knd s.heap.objs.size []:=hnew.at λo e=>k1 _ _ e
 have sl:l<h1.objs.size:=Heap.lt_size (k1 _ _ ho')
 have sD:s.heap.objs.size<h1.objs.size:=by obtain⟨o',_,_,e,_⟩:=D1;exact Heap.lt_size e
 refine wpAny_pure ⟨by first|rfl|exact plainId_quiet F.plain_dict_update_loop _,?_⟩
 refine Bl (knd:=knd) (h₀:=s.heap) (ax:=l) (by simp[hh]) (QE sl) (QE sD) (Nat.ne_of_gt lD) (Heap.get?_none_of_le (Q5 _)) (Heap.get?_none_of_le (Zj sD)) hsz hi hs _ 0 _ rfl (Qf _) ?_ ?_ ?_ ?_ ?_
 ·exact⟨_,Heap.get?_push_size _ rfl,rfl,rfl⟩
 ·exact l1.push _
 ·exact λb o e=>Heap.get?_push_of_some _ (k1 _ _ (Heap.get?_push_of_some _ e))
 ·exact D1.push _
 ·exact λh' tk kp dd=>⟨rfl,h h' tk dd kp⟩
end
end PySem
namespace L2
open PySem PySem.Spec PyProof.Rows
section
variable {X:Cx} {pins:List (Addr×Obj)} {s:Shared} {σ:St} {H:Hp}
theorem wg (I:Inv X pins σ H s):∀{ts:List (Addr×Key×V)} {us:List Value},Vals (ts.map λe=>V.ref e.1) us→(∀e∈ts,SqT X.K H e.1 [kV e.2.1,e.2.2])→∃ps:List (Key×Value),KV (ts.map (·.2)) ps∧∀(j:Nat) (v:Value),us[j]?=some v→∃p k key x,v= .ref p∧ps[j]?=some (k,x)∧(a9 X.prog X.w).is k key=true∧s.heap.IsTuple p #[key,x]
 | [],_,.nil,_=>⟨[],.nil,λj v h=>by cases j<;>cases h⟩
 |e::r,_,.cons h1 h2,tu=>by
  obtain⟨ps,kv,g⟩:=wg I h2 λy hy=>tu y (Qh _ hy)
  cases h1
  obtain⟨its,rv,tp,_⟩:=I.tuple (tu e Qj)
  obtain⟨a,b,rfl,ra,rb⟩:=D3 rv
  refine⟨(e.2.1,b)::ps,.cons ⟨rfl,rb⟩ kv,λj v h=>?_⟩
  cases j with
  |zero=>cases h;exact⟨_,_,_,_,rfl,rfl,oy ra,tp⟩
  |succ j=>exact g j v h
theorem xE (hh:X.A.handled=none):gr X (.type "dict") (λxs H Q=>∃(a:Addr) (ts:List (Addr×Key×V)),xs=[.ref a]∧SqL X.K H a (ts.map λe=>V.ref e.1)∧(∀e∈ts,SqT X.K H e.1 [kV e.2.1,e.2.2])∧∀p,H p=none→Q (.ref p) (upd H p (.dK (sr [] (ts.map (·.2)))))):=by
 intro pins s σ H xs us Q I r h
 obtain⟨a,ts,rfl,hl,tu,q⟩:=h
 obtain⟨u,rfl,ru⟩:=pF r
 cases ru
 obtain⟨its,rv,pl,z⟩:=I.list hl
 obtain⟨ps,kv,g⟩:=wg I rv tu
 have l1:ts.length=ps.length:=by have:=kv.length;rwa [Q0]at this
 have l2:ts.length=its.length:=by have:=rv.length;rwa [Q0]at this
 rw[Q0]at z
 refine Bn (knd:=a9 X.prog X.w) (ps:=ps) hh pl (by omega) (λj v e=>g j v (by simpa using e)) (by rw[Qi];omega) λh' tk dd kp=>?_
 obtain⟨_,nm,_⟩:=wj (P:=X.prog) (w:=X.w) (H:=H) s.heap I.big
 have zz:(sr [] (ts.map (·.2))).length≤sizeLine:=by
  have:=vL (kvs:=[]) (more:=ts.map (·.2))
  rw[Q0]at this
  simp only[XI]at this
  omega
 refine⟨.ref s.heap.objs.size,_,I.laid (a:=s.heap.objs.size) (o:= .dK (sr [] (ts.map (·.2)))) (t':=tk) kp (Q5 _) ⟨zz,nm,_,kv.mrg .nil,dd⟩,rfl,q _ (I.hok.fresh (Q5 _))⟩
def Fw:R2:=λx y H Q=>∃(a b:Addr) (ka kb:List (Key×V)),x= .ref a∧y= .ref b∧H a=some (.dK ka)∧H b=some (.dK kb)∧ka.length=kb.length∧(∀p∈ka,Fl p.2∧aL kb p.1=some p.2)∧Q (.bl true) H
theorem yx {A:Around} {kb:List (Key×V)} {wb:List (Key×Value)} (rb:KV kb wb):∀{ka:List (Key×V)} {wa:List (Key×Value)},KV ka wa→(∀p∈ka,Fl p.2∧aL kb p.1=some p.2)→PySem.W.KeqHits A s wb wa true
 | [],_,.nil,_=> .nil
 |(k,v)::r,(k',u)::wr,.cons h1 h2,g=>by
  obtain⟨f,e⟩:=g (k,v) Qj
  obtain⟨e1,rv⟩:=h1
  have e1:k=k':=e1
  subst e1
  obtain⟨y,hy,ry⟩:=RelO.some_of (v:=v) (o:=valueAt wb k) (by rw[←e];exact rb.val k)
  exact .hit (e:=true) (b:=true) hy (C3 f rv ry) (yx rb h2 λq hq=>g q (Qh _ hq))
theorem CB (hu:X.A.units+20<cLine):OpR X (compareOp .Eq) Fw:=by
 intro pins s σ H x y v u Q I rx ry h
 obtain⟨a,b,ka,kb,rfl,rfl,ha,hb,l,g,q⟩:=h
 cases rx
 cases ry
 obtain⟨z,lo,vs,rel,dd⟩:=oB I.hok ha
 obtain⟨z2,lo2,ws,rel2,dd2⟩:=oB I.hok hb
 have l1:ka.length=vs.length:=rel.length
 have l2:kb.length=ws.length:=rel2.length
 have hl:vs.length=ws.length:=by omega
 refine PySem.W.keq_eq (r:=true) lo lo2 dd dd2 (by omega) (λe=>yx rel2 rel g) ⟨.bl true,H,I,?_,q⟩
 show Value.bool _=Value.bool _
 simp[hl]
end
end L2
namespace L2
open PySem PySem.Spec PyProof.Rows
end L2
namespace L2
open PySem PySem.Spec PyProof.Rows
end L2
namespace L2
open PySem PySem.Spec PyProof.Rows
def zG (lo st:Int) (n:Nat):It:=⟨λi _=>i<n,λi H x H'=>H'=H∧x= .int (lo+i*st),λi _=>n≤i⟩
theorem vh {P:Program} {w:World} {K:PySem.W.Frag} {tg:Expr} (it:Addr) (lo st:Int) (n:Nat):xJ P w K tg (zG lo st n) [it] it (λi h=>IsRangeIter h it (lo+(i:Nat)*st) ((n:Int)-(i:Nat)) st) where
 mem:=by simp
 obj:=λi h hst b hb=>by
  have e:b=it:=by simpa using hb
  subst e
  exact⟨_,hst,λv z=>by
   have z':Data.fields _=Data.cell v:=z
   cases z'⟩
 keep:=λi h h' hst k=>k it (by simp) _ hst
 item:=by
  intro X hP hw hK hc i pins s σ H E I hf hst hg
  subst hP hw hK
  obtain⟨f0,f1,f2,f3,f4,f5⟩:=hf it (by simp)
  have W:=Walks.range (prog:=X.prog) (w:=X.w) (I.ok.hd hc) it lo st n
  refine W.item i s _ _ hg hst λv h' tk hv st' kk=>?_
  obtain⟨t,rfl⟩:=hv
  have I1:Inv X pins σ H {s with heap:=h',toks:=tk}:=I.turned (λb o hb e=>kk b o (by simpa using hb) e) f0 f1 f3 f4 f5
  exact⟨_,rfl,vZ (s:={s with heap:=h',toks:=tk}) (n:="range_iterator") st' rfl rfl (by decide) ⟨.int (lo+i*st),H,I1,⟨t,rfl⟩,⟨rfl,rfl⟩,st',λb hb=>(hf b hb).1⟩⟩
 done:=by
  intro X hP hw hK hc i pins s σ H E I hf hst hg
  subst hP hw hK
  obtain⟨f0,f1,f2,f3,f4,f5⟩:=hf it (by simp)
  exact wpAny_pyNext_range_end (I.ok.hd hc) hst (by have:n≤i:=hg;omega) λh' eb=>⟨rfl,I.turned (t':=s.toks) (λb o hb e=>eb b o hb e) f0 f1 f3 f4 f5⟩
 self:=λ_ _ _ _ _ hst h=>wpAny_pyIter_rangeiter hst h
def lO (lo hi st:Int):Nat:=(Builtin.Range.rangeSize lo hi st).toNat
theorem kA {lo hi st:Int} (h:0<st):Builtin.Range.rangeSize lo hi st=if lo<hi then(hi-lo-1)/st+1 else 0:=by
 unfold Builtin.Range.rangeSize
 rw[if_pos h]
theorem ux {lo hi st:Int} (h:0<st) (h0:0≤lo) (h1:0≤hi):0≤Builtin.Range.rangeSize lo hi st∧Builtin.Range.rangeSize lo hi st≤hi:=by
 rw[kA h]
 split
 ·have a:0≤(hi-lo-1)/st:=XN (by omega) (by omega)
  have b:(hi-lo-1)/st≤hi-lo-1:=Int.ediv_le_self _ (by omega)
  omega
 ·omega
section
variable {X:Cx} {tg:Expr}
theorem yV {pins:List (Addr×Obj)} {σ:St} {H:Hp} {s:Shared} {R:It→Hp→Prop} {E:Value→Shared→Prop} {lo hi st:Int} {t u v:Tok} {tk:Nat} (I:Inv X pins σ H s) (h1:0≤lo) (h2:lo<2^30) (h3:0≤hi) (h4:hi<2^30) (h5:0<st) (h6:st<2^30)
  (q:R (zG lo st (lO lo hi st)) H):wpAny (model X.prog X.w) X.A (pyIter (.ref s.heap.objs.size)) (PIE X pins σ tg R) E {s with heap:=s.heap.push {cls:= .type "range",data:= .fields #[.int lo t,.int hi u,.int st v]},toks:=tk}:=by
 have bd:=ux (lo:=lo) (hi:=hi) h5 h1 h3
 refine wpAny_pyIter_range (IsRange.new ..) ?_ ?_
 ·unfold Builtin.Range.small
  simp only[Builtin.Range.rangeFitsLong,QI,Bool.or_eq_true,decide_eq_true_eq,beq_iff_eq,h5,if_true]
  generalize Builtin.Range.rangeSize lo hi st=n at bd⊢
  have p63:(2:Int)^63=9223372036854775808:=by decide
  have p30:(2:Int)^30=1073741824:=by decide
  rw[p30]at h2 h4 h6
  try rw[p63]
  omega
 have I1:Inv X pins σ H {s with heap:=s.heap.push {cls:= .type "range",data:= .fields #[.int lo t,.int hi u,.int st v]},toks:=tk}:=I.kept λb o e=>Heap.get?_push_of_some _ e
 refine⟨(s.heap.push {cls:= .type "range",data:= .fields #[.int lo t,.int hi u,.int st v]}).objs.size,[(s.heap.push {cls:= .type "range",data:= .fields #[.int lo t,.int hi u,.int st v]}).objs.size],_,_,H,rfl,
  I1.kept (t':=tk) λb o e=>Heap.get?_push_of_some _ e,vh _ lo st (lO lo hi st),?_,λb hb=>?_,q⟩
 ·have e1:lo+((0:Nat):Int)*st=lo:=by simp
  have e2:((lO lo hi st:Nat):Int)-((0:Nat):Int)=Builtin.Range.rangeSize lo hi st:=by unfold lO;omega
  show IsRangeIter _ _ (lo+((0:Nat):Int)*st) (((lO lo hi st:Nat):Int)-((0:Nat):Int)) st
  rw[e1,e2]
  exact Heap.get?_push_size _ rfl
 ·have e:b=(s.heap.push {cls:= .type "range",data:= .fields #[.int lo t,.int hi u,.int st v]}).objs.size:=by simpa using hb
  subst e
  exact I1.fpOk (Q5 _) (I1.hok.fresh (Q5 _))
def FH (ta:TA):TI:=λσ H R=>ta σ H λvs H1=>∃i j k:Int,vs=[.int i,.int j,.int k]∧(0≤i∧i<2^30∧0≤j∧j<2^30∧0<k∧k<2^30)∧R (zG i k (lO i j k)) H1
theorem yX {a b c:Expr} {ta:TA} {p pos:Pos} (hg:Gl X "range") (hm:X.mg "range"=none) (ha:PA X [a,b,c] ta) (hs:starEach [a,b,c] X.env=[(false,eval a X.env),(false,eval b X.env),(false,eval c X.env)]:=by rfl)
  (hs2:starEach [b,c] X.env=[(false,eval b X.env),(false,eval c X.env)]:=by rfl):PI X tg (.Call (.Name "range" p) [a,b,c] [] pos) (FH ta):=by
 intro pins s σ H R I h
 refine Call_ (nQ I hg hm boot_range (PyProof.Rows.callWith_type1 (thn (ha pos pins s σ H _ I h) λus s1 hzz=>?_) (by rw[hs,hs2]) (by rw[hs2];rfl)))
 obtain⟨vs,H1,I1,r1,q1⟩:=hzz
 obtain⟨i,j,k,e,⟨q1,q2,q3,q4,q5,q6⟩,q⟩:=q1
 subst e
 cases r1 with
 |cons r rr=>
  cases rr with
  |cons r' rr=>
   cases rr with
   |cons r'' rr=>
    cases rr
    obtain⟨t,rfl⟩:=r
    obtain⟨t',rfl⟩:=r'
    obtain⟨t'',rfl⟩:=r''
    exact call_range_3 (by omega) (yV I1 q1 q2 q3 q4 q5 q6 q) (.inl (PyProof.noPylong_small (by omega)))
end
theorem v8 {lo st:Int} {n:Nat} {g:TG} {tb:TS} {nx:St→Hp→Prop} {rt:VK} {σ:St} {H:Hp} (Pv:Nat→St→Hp→Prop) (h0:Pv 0 σ H)
  (hs:∀i σ H,i<n→Pv i σ H→g (.int (lo+i*st)) σ H λσ2 H2=>tb ⟨Pv (i+1),rt,nx,Pv (i+1)⟩ σ2 H2) (hd:∀σ H,Pv n σ H→nx σ H):
  ∃W:Nat→Nat→St→Hp→Prop,(∃m,W 0 m σ H)∧∀i m σ H,W i m σ H→
   ((zG lo st n).stop i H∧nx σ H)∨((zG lo st n).go i H∧∃N:St→Hp→Prop,(∀σ' H',N σ' H'→∃m',m'<m∧W (i+1) m' σ' H')∧∀x H',(zG lo st n).yld i H x H'→g x σ H' λσ2 H2=>tb ⟨N,rt,nx,N⟩ σ2 H2):=by
 refine⟨λi m σ H=>m=n-i∧i≤n∧Pv i σ H,⟨n,by simp,Qf _,h0⟩,?_⟩
 rintro i m σ H ⟨rfl,hi,p⟩
 by_cases hlt:i<n
 ·refine .inr ⟨hlt,Pv (i+1),λσ' H' p'=>⟨n-(i+1),by omega,rfl,hlt,p'⟩,λx H' y=>?_⟩
  obtain⟨e,y⟩:=y
  subst e y
  exact hs i σ _ hlt p
 ·have e:i=n:=by omega
  subst e
  exact .inl ⟨Q5 _,hd σ H p⟩
end L2
namespace L2
open PySem PySem.Spec PyProof.Rows Srt
section
variable {X:Cx}
def K3f (H:Hp) (a:Addr) (k:List Int):Prop:=∃i j m:Int,H a=some (.tup [.int i,.int j,.int m])∧k=[i,j,m]
theorem pI {x y z:V} {its:List Value} (r:Vals [x,y,z] its):∃u v w,its=[u,v,w]∧RelV x u∧RelV y v∧RelV z w:=by
 cases r with
 |cons r1 r=>
  obtain⟨v,w,rfl,h2,h3⟩:=pE r
  exact⟨_,v,w,rfl,r1,h2,h3⟩
theorem sE:gr X (.builtin "sorted") (λvs H Q=>∃(p:Addr) (as:List Addr) (ky:Addr→List Int),vs=[.ref p]∧SqL X.K H p (as.map V.ref)∧(∀a∈as,K3f H a (ky a))∧
  ∀(l:Addr) (bs:List Addr),H l=none→bs.Perm as→bs.Pairwise (λa b=>HT.lexLt (ky b) (ky a)=false)→Q (.ref l) (upd H l (.lst (bs.map V.ref)))):=by
 intro pins s σ H xs us Q I r h
 obtain⟨p,as,ky,rfl,hq,hk,q⟩:=h
 obtain⟨u,rfl,ru⟩:=pF r
 cases ru
 obtain⟨its,rv,pl,hz⟩:=I.list hq
 refine yR (κ:=tuples' (Value.type "int" !=Value.type "tuple")) (ky:=kRef ky) I hz rv pl.isList (λh' k h2 Q' hQ=>?_) (λh' k x y u v E' Q' hx hy rx ry hQ=>?_) λl ys hl pm pw=>?_
 ·have tups:∀(bs:List Addr) (ws:List Value),(∀a∈bs,K3f H a (ky a))→Vals (bs.map V.ref) ws→∃fs:List Value,PySem.W.KatTups h' ws fs∧(∀f∈fs,∃i t,f=Value.int i t)∧fs.length=ws.length:=by
   intro bs
   induction bs with
   |nil=>intro ws _ r;cases r;exact⟨[],.nil,λ_ h=>absurd h QZ,rfl⟩
   |cons a bs ih=>
    intro ws hk r
    cases r with
    |cons r1 r2=>
     cases r1
     obtain⟨fs,t,hi,hl⟩:=ih _ (λb hb=>hk b (Qh _ hb)) r2
     obtain⟨i,j,m,ha,_⟩:=hk a Qj
     obtain⟨o,its2,n,rv2,e,c,d⟩:=wR I ha k
     obtain⟨u1,u2,u3,rfl,q1,q2,q3⟩:=pI rv2
     obtain⟨t1,rfl⟩:=q1
     refine⟨Value.int i t1::fs,.cons e c d rfl t,λf hf=>?_,by rw[Qp,Qp,hl]⟩
     rcases Qm.mp hf with z|z
     ·exact⟨i,t1,z⟩
     ·exact hi f z
  obtain⟨fs,t,hi,hl⟩:=tups as its hk rv
  refine PySem.W.kat_kind (T:= .type "int") t (by omega) (λv hv=>?_) (by decide+kernel) hQ
  obtain⟨i,t,rfl⟩:=hi v hv
  exact PySem.W.Looks.of_pure rfl
 ·obtain⟨a,ha,rfl⟩:=Qg.mp hx
  obtain⟨b,hb,rfl⟩:=Qg.mp hy
  cases rx
  cases ry
  obtain⟨i,j,m,ea,ka⟩:=hk a ha
  obtain⟨i',j',m',eb,kb⟩:=hk b hb
  have hQ:Q' (HT.lexLt (ky a) (ky b)) {s with heap:=h'}:=hQ
  rw[ka,kb,HT.lexLt_cons,HT.lexLt_cons,HT.lexLt_cons,HT.lexLt_nil_nil]at hQ
  obtain⟨o,its1,n,rv1,e1,c1,d1⟩:=wR I ea k
  obtain⟨u1,u2,u3,rfl,⟨t1,rfl⟩,⟨t2,rfl⟩,⟨t5,rfl⟩⟩:=pI rv1
  obtain⟨o',its2,n',rv2,e2,c2,d2⟩:=wR I eb k
  obtain⟨w1,w2,w3,rfl,⟨t3,rfl⟩,⟨t4,rfl⟩,⟨t6,rfl⟩⟩:=pI rv2
  refine PySem.W.kat_lt e1 d1 e2 d2 (XC (SeqAt.EqAt.int_int _ _ _ _ _ _ _ _ (XU (λe=>XO ?_) (λe=>XV ?_))))
  ·rw[if_pos (beq_iff_eq.mp e)]at hQ
   refine XC (SeqAt.EqAt.int_int _ _ _ _ _ _ _ _ (XU (λe=>XO ?_) (λe=>XV ?_)))
   ·rw[if_pos (beq_iff_eq.mp e)]at hQ
    refine XC (SeqAt.EqAt.int_int _ _ _ _ _ _ _ _ (XU (λe=>XO ?_) (λe=>XV ?_)))
    ·rw[if_pos (beq_iff_eq.mp e)]at hQ
     exact PySem.W.kat_nil (by simpa using hQ)
    ·rw[if_neg (beq_eq_false_iff_ne.mp e)]at hQ
     exact PySem.W.kat_one _ _ (lt_int hQ)
   ·rw[if_neg (beq_eq_false_iff_ne.mp e)]at hQ
    exact PySem.W.kat_one _ _ (lt_int hQ)
  ·rw[if_neg (beq_eq_false_iff_ne.mp e)]at hQ
   exact oneLt_int hQ
 ·obtain⟨bs,rfl,pm'⟩:=yY pm
  exact q l bs hl pm' (QD.mp pw)
end
end L2
namespace L2
open PySem PySem.Spec PyProof.Rows
end L2
namespace L2
open PySem PySem.Spec PyProof.Rows
def Itv (K:PySem.W.Frag) (a:Addr) (n:Nat):It:=
 ⟨λi H=>i<n∧∃xs x,SqL K H a xs∧xs[n-1-i]?=some x,λi H x H'=>H'=H∧∀xs,SqL K H a xs→xs[n-1-i]?=some x,λi _=>n≤i⟩
theorem zV {P:Program} {w:World} {K:PySem.W.Frag} {tg:Expr} (a it:Addr) (n:Nat):xJ P w K tg (Itv K a n) [it] it (λi h=>i≤n∧h.IsRevIter it a ((n:Int)-1-(i:Int))) where
 mem:=by simp
 obj:=λi h st b hb=>by
  have e:b=it:=by simpa using hb
  subst e
  obtain⟨_,o,e,c,d⟩:=st
  exact⟨o,e,λv z=>by rw[d]at z;cases z⟩
 keep:=λi h h' st k=>⟨st.1,st.2.at λo e=>k it (by simp) o e⟩
 item:=by
  intro X hP hw hK hc i pins s σ H E I hf st hg
  subst hP hw hK
  obtain⟨hi,xs,x,hq,hx⟩:=hg
  obtain⟨its,rv,p,hz⟩:=I.list hq
  obtain⟨u,hu,ru⟩:=rv.get hx
  obtain⟨f0,f1,f2,f3,f4,f5⟩:=hf it (by simp)
  have e1:(n:Int)-1-(i:Int)=((n-1-i:Nat):Int):=by omega
  have hit:=st.2
  rw[e1]at hit
  refine wpAny_pyNext_rev_item hit p.isList (x:=u) (by simpa using hu) λh' st' sb=>?_
  have e2:((n-1-i:Nat):Int)-1=(n:Int)-1-((i+1:Nat):Int):=by omega
  rw[e2]at st'
  have I1:Inv X pins σ H {s with heap:=h'}:=I.turned (t':=s.toks) (λb o hb e=>(sb.2 b hb).trans e) f0 f1 f3 f4 f5
  obtain⟨o,e,c,d⟩:=id st'
  exact⟨u,rfl,vZ (s:={s with heap:=h'}) e c d (by decide) ⟨x,H,I1,ru,⟨rfl,λys hy=>by rw[I.list_inj hy hq];exact hx⟩,⟨hi,st'⟩,λb hb=>(hf b hb).1⟩⟩
 done:=by
  intro X hP hw hK hc i pins s σ H E I hf st hg
  subst hP hw hK
  obtain⟨f0,f1,f2,f3,f4,f5⟩:=hf it (by simp)
  have hit:=st.2
  have hn:n≤i:=hg
  have e:(n:Int)-1-(i:Int)= -1:=by have:=st.1;omega
  rw[e]at hit
  exact wpAny_pyNext_rev_end (I.ok.hd hc) hit λh' eb=>⟨rfl,I.turned (t':=s.toks) (λb o hb e=>eb b o hb e) f0 f1 f3 f4 f5⟩
 self:=λ_ _ _ _ _ st h=>wpAny_pyIter_revIter st.2 h
section
variable {X:Cx} {tg:Expr}
def iRev (K:PySem.W.Frag) (ta:TA):TI:=λσ H R=>ta σ H λvs H1=>∃a xs,vs=[.ref a]∧SqL K H1 a xs∧R (Itv K a xs.length) H1
theorem El {a:Expr} {ta:TA} {p pos:Pos} (hg:Gl X "reversed") (hm:X.mg "reversed"=none) (ha:PA X [a] ta) (hs:starEach [a] X.env=[(false,eval a X.env)]:=by rfl):PI X tg (.Call (.Name "reversed" p) [a] [] pos) (iRev X.K ta):=by
 intro pins s σ H R I h
 refine Call_ (nQ I hg hm Boot.«reversed» (PyProof.Rows.callWith_type1 (thn (ha pos pins s σ H _ I h) λus s1 hzz=>?_) hs rfl))
 obtain⟨vs,H1,I1,r1,q1⟩:=hzz
 obtain⟨b,xs,e,hq,q⟩:=q1
 subst e
 cases r1 with
 |cons r rr=>
  cases rr
  cases r
  obtain⟨its,rv,p,hz⟩:=I1.list hq
  have hl:=rv.length
  refine call_reversed_list p.isList ?_
  refine wpAny_pyIter_revIter (l:=b) (i:=(its.toArray.size:Int)-1) ⟨_,Heap.get?_push_size _ rfl,rfl,rfl⟩ ?_
  refine⟨s1.heap.objs.size,[s1.heap.objs.size],_,_,H1,rfl,I1.kept (t':=s1.toks) λb o e=>Heap.get?_push_of_some _ e,zV b _ xs.length,⟨Qf _,?_⟩,λb hb=>?_,q⟩
  ·have e:(xs.length:Int)-1-((0:Nat):Int)=(its.toArray.size:Int)-1:=by simp;omega
   rw[e]
   exact⟨_,Heap.get?_push_size _ rfl,rfl,rfl⟩
  ·have e:b=s1.heap.objs.size:=by simpa using hb
   subst e
   exact I1.fpOk (Q5 _) (I1.hok.fresh (Q5 _))
end
theorem zA {K:PySem.W.Frag} {a D:Addr} {xs:List V} {te:TE} {tc:TT} {σ:St} {H1:Hp} {Fin:Hp→Prop} (Pv:Nat→List V→Hp→Prop) (h0:Pv 0 [] (upd H1 D (.lst []))) (hl:∀i ys H,i≤xs.length→Pv i ys H→SqL K H a xs)
  (hs:∀i x ys H2,xs.reverse[i]?=some x→Pv i ys H2→H2 D=some (.lst ys)→tc (some x::σ) H2 λb H4=>if b=true then te (some x::σ) H4 (CNext xs.length i ys D Pv)else CSkip xs.length i ys D Pv H4)
  (hd:∀ys H2,Pv xs.length ys H2→H2 D=some (.lst ys)→Fin H2):
  ∃W:Nat→Nat→List V→Hp→Prop,(∃m,W 0 m [] (upd H1 D (.lst [])))∧∀i m ys H2,W i m ys H2→H2 D=some (.lst ys)→
   ((Itv K a xs.length).stop i H2∧Fin H2)∨((Itv K a xs.length).go i H2∧∀x H3,(Itv K a xs.length).yld i H2 x H3→tc (some x::σ) H3 λb H4=>if b=true then te (some x::σ) H4 λy H5=>H5 D=some (.lst ys)∧ys.length<sizeLine∧∃m',m'<m∧W (i+1) m' (ys++ [y]) (upd H5 D (.lst (ys++ [y])))else H4 D=some (.lst ys)∧∃m',m'<m∧W (i+1) m' ys H4):=by
 refine⟨λi m ys H=>m=xs.length-i∧i≤xs.length∧Pv i ys H,⟨xs.length,by simp,Qf _,h0⟩,?_⟩
 rintro i m ys H ⟨rfl,hi,p⟩ hD
 have q:=hl i ys H hi p
 by_cases lt:i<xs.length
 ·refine .inr ⟨⟨lt,xs,xs[xs.length-1-i]'(by omega),q,Q3 _⟩,λx H' y=>?_⟩
  obtain⟨e,y⟩:=y
  subst e
  exact hs i x ys _ (by rw[List.getElem?_reverse lt];exact y xs q) p hD
 ·have e:i=xs.length:=by omega
  subst e
  exact .inl ⟨Q5 _,hd ys H p hD⟩
end L2
namespace L2
open PySem PySem.Spec PyProof.Rows
end L2
namespace SW
open PySem L2
set_option maxHeartbeats 0
structure Txt (K:PySem.W.Frag) (mg:Str→Option Value) (t:Adr):Prop where
 Gu:mg "WalkError"=some (.ref t.bp)
 Gx:mg "NoToken"=some (.ref t.kj)
 Gz:mg "NoKey"=some (.ref t.yB)
 Gv:mg "Twice"=some (.ref t.yA)
 Gw:mg "TooOld"=some (.ref t.wv)
 Gy:mg "NoMoment"=some (.ref t.qU)
 vS:mg "Token"=some (.ref t.fe)
 fJ:mg "BySlots"=some (.ref t.aO)
 vR:mg "Up"=some (.ref t.cK)
 CJ:mg "Down"=some (.ref t.bW)
 Fd:mg "Leaves"=some (.ref t.bn)
 FF:mg "Makes"=some (.ref t.d8)
 FE:mg "Slots"=some (.ref t.aT)
 FG:mg "House"=some (.ref t.aH)
 G5:Fun K "__init__" "NoKey.__init__" kx t.BU t.kJ
 GS:Binds K t.kJ ["self","key"] []
 G1:Fun K "__init__" "Twice.__init__" ku t.BS t.kI
 GO:Binds K t.kI ["self","key"] []
 G2:Fun K "__init__" "TooOld.__init__" jr t.BA t.jN
 GP:Binds K t.jN ["self","moment"] []
 G4:Fun K "__init__" "NoMoment.__init__" g7 t.zE t.ie
 GR:Binds K t.ie ["self","moment"] []
 vT:mg "turned"=some (.ref t.wy)
 rg:Fun K "turned" "turned" qd t.wy t.qR
 wx:Binds K t.qR ["number"] []
 ze:mg "mark_of"=some (.ref t.t7)
 ub:Fun K "mark_of" "mark_of" nB t.t7 t.nZ
 zC:Binds K t.nZ ["key"] []
 xu:mg "place_of"=some (.ref t.qX)
 rj:Fun K "place_of" "place_of" lg t.qX t.lK
 xG:Binds K t.lK ["key"] []
 tD:mg "slot_of"=some (.ref t.tY)
 oh:Fun K "slot_of" "slot_of" ni t.tY t.nW
 tX:Binds K t.nW ["key","size"] []
 CQ:mg "stretch_of"=some (.ref t.mM)
 u8:Fun K "stretch_of" "stretch_of" ir t.mM t.iQ
 Db:Binds K t.iQ ["slot","size"] []
 zd:mg "slot_at"=some (.ref t.tZ)
 ua:Fun K "slot_at" "slot_at" nu t.tZ t.nY
 zB:Binds K t.nY ["place","size"] []
 Ev:mg "is_whole"=some (.ref t.qY)
 xK:Fun K "is_whole" "is_whole" lh t.qY t.lL
 EX:Binds K t.lL ["thing"] []
 hX:mg "is_from"=some (.ref t.t9)
 fk:Fun K "is_from" "is_from" nC t.t9 t.n8
 ii:Binds K t.n8 ["thing","low"] []
 g6:Fun K "__init__" "Token.__init__" gs t.gZ t.gL
 kK:Binds K t.gL ["self","kind","at","end"] []
 zN:FunD K "__init__" "BySlots.__init__" eF t.jc t.b3
 o8:Binds K t.b3 ["self","at","end"] []
 G0:j2 K t.b3 ["self","at","end"] [(.int (65536))]
 GX:j2 K t.b3 ["self","at","end"] [(.int (0)),(.int (65536))]
 zI:Fun K "holds" "BySlots.holds" dL t.ip t.dS
 dW:Binds K t.dS ["self","key"] []
 E9:FunD K "__init__" "Up.__init__" lq t.q9 t.fS
 xH:Binds K t.fS ["self","at","end"] []
 GY:j2 K t.fS ["self","at","end"] [.non]
 GV:j2 K t.fS ["self","at","end"] [(.int (0)),.non]
 DX:Fun K "holds" "Up.holds" jq t.oK t.jM
 gi:Binds K t.jM ["self","key"] []
 Dq:FunD K "__init__" "Down.__init__" iG t.mX t.dF
 uX:Binds K t.dF ["self","at","end"] []
 GZ:j2 K t.dF ["self","at","end"] [(.int (0))]
 GW:j2 K t.dF ["self","at","end"] [.non,(.int (0))]
 Cc:Fun K "holds" "Down.holds" gG t.kY t.gY
 d9:Binds K t.gY ["self","key"] []
 F6:mg "ask"=some (.ref t.DS)
 FS:FunD K "ask" "ask" Ac t.DS t.wm
 b_ask:Binds K t.wm ["house","token","many","sieve"] []
 EZ:j2 K t.wm ["house","token","many","sieve"] [.non]
 b2_ask:j2 K t.wm ["house","token","many","sieve"] [(.int (10)),.non]
 zK:mg "page_by_slots"=some (.ref t.i9)
 o9:Fun K "page_by_slots" "page_by_slots" eE t.i9 t.eJ
 zM:Binds K t.eJ ["slots","token","many"] []
 AE:mg "page_by_keys"=some (.ref t.jT)
 rn:Fun K "page_by_keys" "page_by_keys" de t.jT t.fO
 Bu:Binds K t.fO ["house","token","many"] []
 AF:mg "keys_of_page"=some (.ref t.jU)
 rp:Fun K "keys_of_page" "keys_of_page" dg t.jU t.fP
 Bv:Binds K t.fP ["leaves","token","many"] []
 DH:mg "keys_near"=some (.ref t.oG)
 wA:Fun K "keys_near" "keys_near" jn t.oG t.jI
 DO:Binds K t.jI ["leaves","token","most"] []
 AD:mg "token_behind"=some (.ref t.jS)
 rh:Fun K "token_behind" "token_behind" fu t.jS t.fN
 Bt:Binds K t.fN ["token","key"] []
 BC:Fun K "__init__" "Leaves.__init__" fA t.jX t.fV
 Bx:Binds K t.fV ["self"] []
 B8:Fun K "add" "Leaves.add" dY t.kT t.gU
 BP:Binds K t.gU ["self","key"] []
 yL:Fun K "discard" "Leaves.discard" dn t.gp t.dE
 yE:Binds K t.dE ["self","key"] []
 B7:Fun K "has" "Leaves.has" gA t.kS t.gT
 sI:Binds K t.gT ["self","key"] []
 G6:Fun K "many" "Leaves.many" jt t.re t.jP
 GT:Binds K t.jP ["self"] []
 yK:Fun K "from_on" "Leaves.from_on" b7 t.gl t.dD
 yD:Binds K t.dD ["self","key","most"] []
 wL:Fun K "down_from" "Leaves.down_from" bR t.eT t.cJ
 wJ:Binds K t.cJ ["self","key","most"] []
 yJ:Fun K "leaf_of" "Leaves.leaf_of" dj t.gk t.dC
 cf:Binds K t.dC ["self","key"] []
 wK:Fun K "part_leaf" "Leaves.part_leaf" cx t.eS t.cI
 wI:Binds K t.cI ["self","at"] []
 wD:Fun K "join_small" "Leaves.join_small" cp t.eD t.cu
 jR:Binds K t.cu ["self","at"] []
 B6:Fun K "__init__" "Makes.__init__" gy t.kR t.gS
 BO:Binds K t.gS ["self"] []
 B0:Fun K "note" "Makes.note" gx t.kQ t.gR
 BN:Binds K t.gR ["self","moment","value"] []
 ot:mg "empty_row"=some (.ref t.oH)
 jY:Fun K "empty_row" "empty_row" f8 t.oH t.jJ
 oE:Binds K t.jJ ["size"] []
 BY:Fun K "__init__" "Slots.__init__" gv t.kO t.gP
 BL:Binds K t.gP ["self"] []
 Dl:Fun K "put" "Slots.put" iB t.mS t.iW
 Df:Binds K t.iW ["self","key","value"] []
 BZ:Fun K "drop" "Slots.drop" gw t.kP t.gQ
 BM:Binds K t.gQ ["self","key"] []
 Dn:Fun K "get" "Slots.get" iD t.mU t.iY
 Dg:Binds K t.iY ["self","key"] []
 Dm:Fun K "has" "Slots.has" iC t.mT t.iX
 uW:Binds K t.iX ["self","key"] []
 BX:Fun K "rows" "Slots.rows" dX t.kN t.gO
 sH:Binds K t.gO ["self"] []
 G3:Fun K "moved" "Slots.moved" js t.rc t.jO
 GQ:Binds K t.jO ["self"] []
 BW:Fun K "span" "Slots.span" cN t.kM t.gN
 BK:Binds K t.gN ["self","low","high"] []
 BV:Fun K "stop" "Slots.stop" gu t.kL t.gM
 sG:Binds K t.gM ["self","place"] []
 zH:Fun K "cell_of" "Slots.cell_of" dJ t.io t.dR
 dU:Binds K t.dR ["self","key"] []
 yI:Fun K "lying_at" "Slots.lying_at" dh t.gj t.dB
 yC:Binds K t.dB ["self","place"] []
 xM:Fun K "move_slot" "Slots.move_slot" cV t.fW t.cY
 lQ:Binds K t.cY ["self"] []
 xN:Fun K "begin_row" "Slots.begin_row" cW t.fX t.cZ
 lR:Binds K t.cZ ["self"] []
 B9:Fun K "__init__" "House.__init__" gB t.kU t.gV
 BQ:Binds K t.gV ["self"] []
 Do:Fun K "put" "House.put" iE t.mV t.iZ
 Dh:Binds K t.iZ ["self","key","value"] []
 Ca:Fun K "drop" "House.drop" gE t.kW t.gW
 BR:Binds K t.gW ["self","key"] []
 Dp:Fun K "get" "House.get" iF t.mW t.i4
 Di:Binds K t.i4 ["self","key"] []
 G7:Fun K "has" "House.has" l5 t.uZ t.mJ
 GU:Binds K t.mJ ["self","key"] []
 Cb:Fun K "done" "House.done" gF t.kX t.gX
 sJ:Binds K t.gX ["self","row","value"] []
 qE:mg "_law_cell_at"=some (.ref t.jW)
 jZ:Fun K "_law_cell_at" "_law_cell_at" fz t.jW t.fR
 qW:Binds K t.fR ["_law_script","_law_k"] []
 uJ:mg "_law_mixed"=some (.ref t.mP)
 mZ:Fun K "_law_mixed" "_law_mixed" iy t.mP t.iT
 uV:Binds K t.iT ["_law_cell","_law_k"] []
 uI:mg "_law_place"=some (.ref t.mO)
 mY:Fun K "_law_place" "_law_place" iw t.mO t.iS
 uU:Binds K t.iS ["_law_key"] []
 Ew:mg "_law_run"=some (.ref t.qZ)
 xL:Fun K "_law_run" "_law_run" fv t.qZ t.lM
 EY:Binds K t.lM ["_law_cell"] []
 DJ:mg "_law_deed"=some (.ref t.oJ)
 wC:Fun K "_law_deed" "_law_deed" jp t.oJ t.jL
 DQ:Binds K t.jL ["_law_house_here","_law_kept","_law_cell"] []
 CT:mg "_law_house"=some (.ref t.mQ)
 va:Fun K "_law_house" "_law_house" iz t.mQ t.iU
 Dd:Binds K t.iU ["_law_cells"] []
 wG:mg "_law_numbers_told"=some (.ref t.eQ)
 kr:Fun K "_law_numbers_told" "_law_numbers_told" cw t.eQ t.cH
 wH:Binds K t.cH ["_law_kind","_law_cell"] []
 AG:mg "_law_numbers"=some (.ref t.jV)
 rq:Fun K "_law_numbers" "_law_numbers" fw t.jV t.fQ
 Bw:Binds K t.fQ ["_law_cell","_law_keys"] []
 CS:mg "_law_token"=some (.ref t.mN)
 u9:Fun K "_law_token" "_law_token" iu t.mN t.iR
 Dc:Binds K t.iR ["_law_numbers_here"] []
 CU:mg "_law_holds"=some (.ref t.mR)
 vb:Fun K "_law_holds" "_law_holds" iA t.mR t.iV
 De:Binds K t.iV ["_law_numbers_here","_law_key"] []
 DI:mg "_law_less"=some (.ref t.oI)
 wB:Fun K "_law_less" "_law_less" jo t.oI t.jK
 DP:Binds K t.jK ["_law_token_here","_law_rest","_law_rows","_law_keys"] []
 FZ:mg "law"=some (.ref t.DR)
 FR:Fun K "law" "law" vz t.DR t.yz
 b_law:Binds K t.yz ["_law_script"] []
 Gd:zF K t.bp (([]:List Addr).map Value.ref++pG)
 Gg:zF K t.kj (([t.bp]:List Addr).map Value.ref++pG)
 Gr:NoAttr K t.yB "key"
 Gi:zF K t.yB (([t.bp]:List Addr).map Value.ref++pG)
 Gk:NoAttr K t.yA "key"
 Ge:zF K t.yA (([t.bp]:List Addr).map Value.ref++pG)
 Gm:NoAttr K t.wv "moment"
 Gf:zF K t.wv (([t.bp]:List Addr).map Value.ref++pG)
 Gq:NoAttr K t.qU "moment"
 Gh:zF K t.qU (([t.bp]:List Addr).map Value.ref++pG)
 Gn:NoAttr K t.fe "kind"
 Gp:NoAttr K t.fe "at"
 Go:NoAttr K t.fe "end"
 GN:Cls K t.fe
 Gs:Mk K t.fe t.gZ
 F7:XIs K t.fe
 GE:PySem.W.kitOne K (.ref t.fe) (.ref t.aO)=some false
 GD:PySem.W.kitOne K (.ref t.fe) (.ref t.cK)=some false
 zJ:NoAttr K t.aO "kind"
 gK:NoAttr K t.aO "at"
 bV:NoAttr K t.aO "end"
 br:Cls K t.aO
 xn:Mk K t.aO t.jc
 iq:XIs K t.aO
 lI:PySem.W.kitOne K (.ref t.aO) (.ref t.aO)=some true
 BJ:PySem.W.kitOne K (.ref t.aO) (.ref t.cK)=some false
 dP:cm K t.aO "holds" t.ip
 Eu:NoAttr K t.cK "kind"
 mw:NoAttr K t.cK "at"
 hV:NoAttr K t.cK "end"
 eP:Cls K t.cK
 FA:Mk K t.cK t.q9
 i7:XIs K t.cK
 sC:PySem.W.kitOne K (.ref t.cK) (.ref t.aO)=some false
 vW:PySem.W.kitOne K (.ref t.cK) (.ref t.cK)=some true
 gh:cm K t.cK "holds" t.oK
 CH:NoAttr K t.bW "kind"
 fI:NoAttr K t.bW "at"
 gf:NoAttr K t.bW "end"
 bS:Cls K t.bW
 CI:Mk K t.bW t.mX
 cQ:XIs K t.bW
 o0:PySem.W.kitOne K (.ref t.bW) (.ref t.aO)=some false
 qH:PySem.W.kitOne K (.ref t.bW) (.ref t.cK)=some false
 dZ:cm K t.bW "holds" t.kY
 ao:NoAttr K t.bn "leaves"
 aG:Cls K t.bn
 Fc:Mk K t.bn t.jX
 Gb:XIs K t.bn
 GK:PySem.W.kitOne K (.ref t.bn) (.ref t.aO)=some false
 GJ:PySem.W.kitOne K (.ref t.bn) (.ref t.cK)=some false
 BH:cm K t.bn "add" t.kT
 ye:cm K t.bn "discard" t.gp
 sv:cm K t.bn "has" t.kS
 GB:cm K t.bn "many" t.re
 yd:cm K t.bn "from_on" t.gl
 wF:cm K t.bn "down_from" t.eT
 b9:cm K t.bn "leaf_of" t.gk
 wE:cm K t.bn "part_leaf" t.eS
 jG:cm K t.bn "join_small" t.eD
 sj:NoAttr K t.d8 "made"
 wt:Cls K t.d8
 FC:Mk K t.d8 t.kR
 Ga:XIs K t.d8
 GI:PySem.W.kitOne K (.ref t.d8) (.ref t.aO)=some false
 GH:PySem.W.kitOne K (.ref t.d8) (.ref t.cK)=some false
 BG:cm K t.d8 "note" t.kQ
 aQ:NoAttr K t.aT "table"
 bF:NoAttr K t.aT "shifted"
 bu:NoAttr K t.aT "kept"
 aB:Cls K t.aT
 FB:Mk K t.aT t.kO
 F8:XIs K t.aT
 GG:PySem.W.kitOne K (.ref t.aT) (.ref t.aO)=some false
 GF:PySem.W.kitOne K (.ref t.aT) (.ref t.cK)=some false
 CM:cm K t.aT "put" t.mS
 BF:cm K t.aT "drop" t.kP
 CN:cm K t.aT "get" t.mU
 uH:cm K t.aT "has" t.mT
 su:cm K t.aT "rows" t.kN
 GA:cm K t.aT "moved" t.rc
 BE:cm K t.aT "span" t.kM
 ss:cm K t.aT "stop" t.kL
 dO:cm K t.aT "cell_of" t.io
 yc:cm K t.aT "lying_at" t.gj
 lG:cm K t.aT "move_slot" t.fW
 lH:cm K t.aT "begin_row" t.fX
 iM:NoAttr K t.aH "now"
 Aw:NoAttr K t.aH "floor"
 cr:NoAttr K t.aH "slots"
 eG:NoAttr K t.aH "leaves"
 nM:NoAttr K t.aH "written"
 Av:NoAttr K t.aH "marks"
 sk:NoAttr K t.aH "past"
 za:NoAttr K t.aH "holders"
 aY:Cls K t.aH
 FD:Mk K t.aH t.kU
 Gc:XIs K t.aH
 GM:PySem.W.kitOne K (.ref t.aH) (.ref t.aO)=some false
 GL:PySem.W.kitOne K (.ref t.aH) (.ref t.cK)=some false
 CO:cm K t.aH "put" t.mV
 BI:cm K t.aH "drop" t.kW
 CP:cm K t.aH "get" t.mW
 GC:cm K t.aH "has" t.uZ
 sw:cm K t.aH "done" t.kX
 kE:BB K t.fe "__init__" (.ref t.gZ)
 Gj:BB K t.bp "__init__" (.builtin "ValueError.__init__")
 FX:∃tk,mg "BITS"=some (.int 16 tk)
 qO:∃tk,mg "PLACES"=some (.int 65536 tk)
 yp:∃tk,mg "STRETCHES_A_KEY"=some (.int 4 tk)
 Ba:∃tk,mg "MOST_IN_LEAF"=some (.int 8 tk)
 Bb:∃tk,mg "LEAST_IN_TWO"=some (.int 5 tk)
 uQ:∃tk,mg "LEAST_SIZE"=some (.int 4 tk)
 zL:∃tk,mg "GREATEST_SIZE"=some (.int 256 tk)
 FW:mg "bool"=none
 FV:mg "dict"=none
 FY:mg "int"=none
 bD:mg "isinstance"=none
 bC:mg "len"=none
 FU:mg "list"=none
 Fe:mg "max"=none
 vd:mg "min"=none
 j3:mg "range"=none
 DY:mg "reversed"=none
 zO:mg "sorted"=none
 z_sum:mg "sum"=none
theorem sc_turned:ay ["number","told","rest","step"] ["number"] (ak qd):=⟨rfl,rfl,rfl,by decide+kernel,rfl,by decide+kernel,by decide+kernel⟩
theorem w6:ay ["key"] ["key"] (ak nB):=⟨rfl,rfl,rfl,by decide+kernel,rfl,by decide+kernel,by decide+kernel⟩
theorem vt:ay ["key"] ["key"] (ak lg):=⟨rfl,rfl,rfl,by decide+kernel,rfl,by decide+kernel,by decide+kernel⟩
theorem wZ:ay ["key","size"] ["key","size"] (ak ni):=⟨rfl,rfl,rfl,by decide+kernel,rfl,by decide+kernel,by decide+kernel⟩
theorem sc_stretch_of:ay ["slot","size","low"] ["slot","size"] (ak ir):=⟨rfl,rfl,rfl,by decide+kernel,rfl,by decide+kernel,by decide+kernel⟩
theorem w5:ay ["place","size"] ["place","size"] (ak nu):=⟨rfl,rfl,rfl,by decide+kernel,rfl,by decide+kernel,by decide+kernel⟩
theorem vv:ay ["thing"] ["thing"] (ak lh):=⟨rfl,rfl,rfl,by decide+kernel,rfl,by decide+kernel,by decide+kernel⟩
theorem xa:ay ["thing","low"] ["thing","low"] (ak nC):=⟨rfl,rfl,rfl,by decide+kernel,rfl,by decide+kernel,by decide+kernel⟩
theorem p4:ay ["self","kind","at","end"] ["self","kind","at","end"] (ak gs):=⟨rfl,rfl,rfl,by decide+kernel,rfl,by decide+kernel,by decide+kernel⟩
theorem m8:ay ["self","at","end"] ["self","at","end"] (ak eF):=⟨rfl,rfl,rfl,by decide+kernel,rfl,by decide+kernel,by decide+kernel⟩
theorem lZ:ay ["self","key"] ["self","key"] (ak dL):=⟨rfl,rfl,rfl,by decide+kernel,rfl,by decide+kernel,by decide+kernel⟩
theorem vx:ay ["self","at","end"] ["self","at","end"] (ak lq):=⟨rfl,rfl,rfl,by decide+kernel,rfl,by decide+kernel,by decide+kernel⟩
theorem uu:ay ["self","key"] ["self","key"] (ak jq):=⟨rfl,rfl,rfl,by decide+kernel,rfl,by decide+kernel,by decide+kernel⟩
theorem rT:ay ["self","at","end"] ["self","at","end"] (ak iG):=⟨rfl,rfl,rfl,by decide+kernel,rfl,by decide+kernel,by decide+kernel⟩
theorem qc:ay ["self","key"] ["self","key"] (ak gG):=⟨rfl,rfl,rfl,by decide+kernel,rfl,by decide+kernel,by decide+kernel⟩
theorem sc_ask:ay ["house","token","many","sieve","page"] ["house","token","many","sieve"] (ak Ac):=⟨rfl,rfl,rfl,by decide+kernel,rfl,by decide+kernel,by decide+kernel⟩
theorem sc_page_by_slots:ay ["slots","token","many","rows","reached","gone","stop"] ["slots","token","many"] (ak eE):=⟨rfl,rfl,rfl,by decide+kernel,rfl,by decide+kernel,by decide+kernel⟩
theorem sc_page_by_keys:ay ["house","token","many","page"] ["house","token","many"] (ak de):=⟨rfl,rfl,rfl,by decide+kernel,rfl,by decide+kernel,by decide+kernel⟩
theorem sc_keys_of_page:ay ["leaves","token","many","most","held","page"] ["leaves","token","many"] (ak dg):=⟨rfl,rfl,rfl,by decide+kernel,rfl,by decide+kernel,by decide+kernel⟩
theorem ur:ay ["leaves","token","most"] ["leaves","token","most"] (ak jn):=⟨rfl,rfl,rfl,by decide+kernel,rfl,by decide+kernel,by decide+kernel⟩
theorem oR:ay ["token","key"] ["token","key"] (ak fu):=⟨rfl,rfl,rfl,by decide+kernel,rfl,by decide+kernel,by decide+kernel⟩
theorem oT:ay ["self"] ["self"] (ak fA):=⟨rfl,rfl,rfl,by decide+kernel,rfl,by decide+kernel,by decide+kernel⟩
theorem sc_Leaves__add:ay ["self","key","at","leaf"] ["self","key"] (ak dY):=⟨rfl,rfl,rfl,by decide+kernel,rfl,by decide+kernel,by decide+kernel⟩
theorem sc_Leaves__discard:ay ["self","key","at"] ["self","key"] (ak dn):=⟨rfl,rfl,rfl,by decide+kernel,rfl,by decide+kernel,by decide+kernel⟩
theorem sc_Leaves__has:ay ["self","key","at"] ["self","key"] (ak gA):=⟨rfl,rfl,rfl,by decide+kernel,rfl,by decide+kernel,by decide+kernel⟩
theorem sc_Leaves__from_on:ay ["self","key","most","told","at"] ["self","key","most"] (ak b7):=⟨rfl,rfl,rfl,by decide+kernel,rfl,by decide+kernel,by decide+kernel⟩
theorem sc_Leaves__down_from:ay ["self","key","most","told","at"] ["self","key","most"] (ak bR):=⟨rfl,rfl,rfl,by decide+kernel,rfl,by decide+kernel,by decide+kernel⟩
theorem sc_Leaves__leaf_of:ay ["self","key","low","high","middle"] ["self","key"] (ak dj):=⟨rfl,rfl,rfl,by decide+kernel,rfl,by decide+kernel,by decide+kernel⟩
theorem sc_Leaves__part_leaf:ay ["self","at","leaf","middle"] ["self","at"] (ak cx):=⟨rfl,rfl,rfl,by decide+kernel,rfl,by decide+kernel,by decide+kernel⟩
theorem sc_Leaves__join_small:ay ["self","at","both"] ["self","at"] (ak cp):=⟨rfl,rfl,rfl,by decide+kernel,rfl,by decide+kernel,by decide+kernel⟩
theorem p9:ay ["self"] ["self"] (ak gy):=⟨rfl,rfl,rfl,by decide+kernel,rfl,by decide+kernel,by decide+kernel⟩
theorem p8:ay ["self","moment","value"] ["self","moment","value"] (ak gx):=⟨rfl,rfl,rfl,by decide+kernel,rfl,by decide+kernel,by decide+kernel⟩
theorem ut:ay ["size"] ["size"] (ak f8):=⟨rfl,rfl,rfl,by decide+kernel,rfl,by decide+kernel,by decide+kernel⟩
theorem p6:ay ["self"] ["self"] (ak gv):=⟨rfl,rfl,rfl,by decide+kernel,rfl,by decide+kernel,by decide+kernel⟩
theorem sc_Slots__put:ay ["self","key","value","cell"] ["self","key","value"] (ak iB):=⟨rfl,rfl,rfl,by decide+kernel,rfl,by decide+kernel,by decide+kernel⟩
theorem p7:ay ["self","key"] ["self","key"] (ak gw):=⟨rfl,rfl,rfl,by decide+kernel,rfl,by decide+kernel,by decide+kernel⟩
theorem sc_Slots__get:ay ["self","key","cell"] ["self","key"] (ak iD):=⟨rfl,rfl,rfl,by decide+kernel,rfl,by decide+kernel,by decide+kernel⟩
theorem rQ:ay ["self","key"] ["self","key"] (ak iC):=⟨rfl,rfl,rfl,by decide+kernel,rfl,by decide+kernel,by decide+kernel⟩
theorem p5:ay ["self"] ["self"] (ak dX):=⟨rfl,rfl,rfl,by decide+kernel,rfl,by decide+kernel,by decide+kernel⟩
theorem sc_Slots__span:ay ["self","low","high","found","reached","end","inside"] ["self","low","high"] (ak cN):=⟨rfl,rfl,rfl,by decide+kernel,rfl,by decide+kernel,by decide+kernel⟩
theorem sc_Slots__stop:ay ["self","place","size"] ["self","place"] (ak gu):=⟨rfl,rfl,rfl,by decide+kernel,rfl,by decide+kernel,by decide+kernel⟩
theorem sc_Slots__cell_of:ay ["self","key","old","slot","new"] ["self","key"] (ak dJ):=⟨rfl,rfl,rfl,by decide+kernel,rfl,by decide+kernel,by decide+kernel⟩
theorem sc_Slots__lying_at:ay ["self","place","size","found","row","slot","key","value"] ["self","place"] (ak dh):=⟨rfl,rfl,rfl,by decide+kernel,rfl,by decide+kernel,by decide+kernel⟩
theorem sc_Slots__move_slot:ay ["self","old","new","key","value"] ["self"] (ak cV):=⟨rfl,rfl,rfl,by decide+kernel,rfl,by decide+kernel,by decide+kernel⟩
theorem sc_Slots__begin_row:ay ["self","size"] ["self"] (ak cW):=⟨rfl,rfl,rfl,by decide+kernel,rfl,by decide+kernel,by decide+kernel⟩
theorem qa:ay ["self"] ["self"] (ak gB):=⟨rfl,rfl,rfl,by decide+kernel,rfl,by decide+kernel,by decide+kernel⟩
theorem rR:ay ["self","key","value"] ["self","key","value"] (ak iE):=⟨rfl,rfl,rfl,by decide+kernel,rfl,by decide+kernel,by decide+kernel⟩
theorem qb:ay ["self","key"] ["self","key"] (ak gE):=⟨rfl,rfl,rfl,by decide+kernel,rfl,by decide+kernel,by decide+kernel⟩
theorem rS:ay ["self","key"] ["self","key"] (ak iF):=⟨rfl,rfl,rfl,by decide+kernel,rfl,by decide+kernel,by decide+kernel⟩
theorem sc_House__done:ay ["self","row","value","key"] ["self","row","value"] (ak gF):=⟨rfl,rfl,rfl,by decide+kernel,rfl,by decide+kernel,by decide+kernel⟩
theorem oS:ay ["_law_script","_law_k"] ["_law_script","_law_k"] (ak fz):=⟨rfl,rfl,rfl,by decide+kernel,rfl,by decide+kernel,by decide+kernel⟩
theorem sc__law_mixed:ay ["_law_cell","_law_k","_law_number"] ["_law_cell","_law_k"] (ak iy):=⟨rfl,rfl,rfl,by decide+kernel,rfl,by decide+kernel,by decide+kernel⟩
theorem sc__law_place:ay ["_law_key","_law_mark","_law_found","_law_k"] ["_law_key"] (ak iw):=⟨rfl,rfl,rfl,by decide+kernel,rfl,by decide+kernel,by decide+kernel⟩
theorem sc__law_run:ay ["_law_cell","_law_start","_law_number","_law_way","_law_step"] ["_law_cell"] (ak fv):=⟨rfl,rfl,rfl,by decide+kernel,rfl,by decide+kernel,by decide+kernel⟩
theorem sc__law_deed:ay ["_law_house_here","_law_kept","_law_cell","_law_keys","_law_k","_law_value"] ["_law_house_here","_law_kept","_law_cell"] (ak jp):=⟨rfl,rfl,rfl,by decide+kernel,rfl,by decide+kernel,by decide+kernel⟩
theorem sc__law_house:ay ["_law_cells","_law_house_here","_law_kept","_law_cell"] ["_law_cells"] (ak iz):=⟨rfl,rfl,rfl,by decide+kernel,rfl,by decide+kernel,by decide+kernel⟩
theorem sc__law_numbers_told:ay ["_law_kind","_law_cell","_law_low","_law_high"] ["_law_kind","_law_cell"] (ak cw):=⟨rfl,rfl,rfl,by decide+kernel,rfl,by decide+kernel,by decide+kernel⟩
theorem sc__law_numbers:ay ["_law_cell","_law_keys","_law_kind","_law_number","_law_low","_law_high"] ["_law_cell","_law_keys"] (ak fw):=⟨rfl,rfl,rfl,by decide+kernel,rfl,by decide+kernel,by decide+kernel⟩
theorem rP:ay ["_law_numbers_here"] ["_law_numbers_here"] (ak iu):=⟨rfl,rfl,rfl,by decide+kernel,rfl,by decide+kernel,by decide+kernel⟩
theorem sc__law_holds:ay ["_law_numbers_here","_law_key","_law_kind","_law_at","_law_end"] ["_law_numbers_here","_law_key"] (ak iA):=⟨rfl,rfl,rfl,by decide+kernel,rfl,by decide+kernel,by decide+kernel⟩
theorem sc__law_less:ay ["_law_token_here","_law_rest","_law_rows","_law_keys","_law_key"] ["_law_token_here","_law_rest","_law_rows","_law_keys"] (ak jo):=⟨rfl,rfl,rfl,by decide+kernel,rfl,by decide+kernel,by decide+kernel⟩
theorem sc_law:ay ["_law_script","_law_house_here","_law_kept","_law_numbers_here","_law_token_here","_law_keys","_law_rows","_law_rest","_law_due","_law_key"] ["_law_script"] (ak vz):=⟨rfl,rfl,rfl,by decide+kernel,rfl,by decide+kernel,by decide+kernel⟩
def Sc:V→Prop
 | .non=>True| .bl _=>True| .int _=>True| .str _=>True|_=>False
theorem T0 (z:Int):Sc (.int z):=True.intro
def isW:V→Bool
 | .int _=>true|_=>false
def Fr (F F':Addr→Prop) (H H':Hp):Prop:=∀b o,¬F b→H b=some o→H' b=some o∧¬F' b
theorem Fr.refl {F:Addr→Prop} {H:Hp}:Fr F F H H:=λ_ _ n e=>⟨e,n⟩
theorem Fr.trans {F F' F'':Addr→Prop} {H H' H'':Hp} (x:Fr F F' H H') (y:Fr F' F'' H' H''):Fr F F'' H H'':=λb o n e=>y b o (x b o n e).2 (x b o n e).1
theorem Fr.of_same {F:Addr→Prop} {H H':Hp} (s:Same H H'):Fr F F H H':=λb o n e=>⟨s b o e,n⟩
def aI (kv:List (Int×V)):List (Key×V):=kv.map λp=>(Sum.inl p.1,p.2)
theorem liftK_val {kv:List (Int×V)} {k:Int}:aL (aI kv) (Sum.inl k:Key)=aL kv k:=by
 induction kv with
 |nil=>rfl
 |cons p r ih=>
  show aL ((Sum.inl p.1,p.2)::aI r) (Sum.inl k:Key)=_
  by_cases e:p.1=k
  ·rw[bf e,bf (by show(Sum.inl p.1:Key)=_;rw[e])]
  ·rw[a7 e,a7 (by show ¬(Sum.inl p.1:Key)=_;exact λz=>e (Sum.inl.inj z)),ih]
theorem zg {kv:List (Int×V)} {k:Int}:((aI kv).any λx=>decide (x.1=(Sum.inl k:Key)))=kv.any λx=>decide (x.1=k):=by
 rw[cn,cn,liftK_val]
theorem dQ {kv:List (Int×V)} {k:Int} {v:V}:bj (aI kv) (Sum.inl k:Key) v=aI (bj kv k v):=by
 unfold bj
 rw[zg]
 by_cases c:(kv.any λx=>decide (x.1=k))=true
 ·rw[if_pos c,if_pos c]
  unfold aI
  rw[QL,QL]
  refine Zo λp _=>?_
  show(if(Sum.inl p.1:Key)=Sum.inl k then _ else _)=_
  by_cases e:p.1=k
  ·rw[if_pos (by rw[e])];simp[e]
  ·rw[if_neg λz=>e (Sum.inl.inj z)];simp[e]
 ·rw[if_neg c,if_neg c]
  unfold aI
  rw[Q9]
  rfl
theorem qG {kv:List (Int×V)} {k:Int}:bK (aI kv) (Sum.inl k:Key)=aI (bK kv k):=by
 unfold bK aI
 rw[List.filter_map]
 congr 1
 refine Xz λp _=>?_
 show decide ((Sum.inl p.1:Key)≠Sum.inl k)=_
 by_cases e:p.1=k
 ·rw[e];simp
 ·have:¬(Sum.inl p.1:Key)=Sum.inl k:=λz=>e (Sum.inl.inj z)
  simp[e,this]
theorem bG {kv:List (Int×V)}:(aI kv).length=kv.length:=Q0 _
theorem jv {f:Str} {v:V}:∀fs:List (Str×V),(bc f v fs).length≤fs.length+1
 | []=>Q5 _
 |(g,x)::r=>by
  rw[bc]
  split
  ·rw[Qp,Qp];omega
  ·have:=jv (f:=f) (v:=v) r
   rw[Qp,Qp];omega
section
variable {κ:Type} [DecidableEq κ] {kv:List (κ×V)} {k j:κ} {v:V}
theorem dI:∀{kv:List (κ×V)},aL (bK kv k) j=if j=k then none else aL kv j
 | []=>by
  show aL ([]:List (κ×V)) j=_
  rw[jh]
  split<;>rfl
 |p::r=>by
  by_cases e:p.1=k
  ·rw[nV e,dI]
   by_cases z:j=k
   ·rw[if_pos z,if_pos z]
   ·rw[if_neg z,if_neg z,a7 λy=>z (y.symm.trans e)]
  ·rw[kg e]
   by_cases y:p.1=j
   ·rw[bf y,bf y,if_neg λz=>e (y.trans z)]
   ·rw[a7 y,a7 y,dI]
theorem mem_keys:∀{kv:List (κ×V)},k∈kv.map (·.1)↔(aL kv k).isSome=true
 | []=>by simp[jh]
 |p::r=>by
  by_cases e:p.1=k
  ·rw[bf e];simp[e]
  ·rw[a7 e,←mem_keys]
   simp[Ne.symm e]
theorem mD:(bj kv k v).map (·.1)=if(aL kv k).isSome=true then kv.map (·.1)else kv.map (·.1)++ [k]:=by
 unfold bj
 rw[cn]
 by_cases c:(aL kv k).isSome=true
 ·rw[if_pos c,if_pos c,QL]
  refine Zo λp _=>?_
  show(if p.1=k then(p.1,v)else p).1=p.1
  split<;>rfl
 ·rw[if_neg c,if_neg c,Q9]
  rfl
theorem xk (h:(kv.map (·.1)).Nodup):((bj kv k v).map (·.1)).Nodup:=by
 cases e:aL kv k with
 |none=>exact CG v h e
 |some x=>rw[mD,e];exact h
theorem hJ:∀{l S:List κ},l.Nodup→(∀x∈l,x∈S)→l.length≤S.length
 | [],_,_,_=>Qf _
 |x::xs,S,hn,hs=>by
  obtain⟨h1,h2⟩:=QP.mp hn
  have hx:x∈S:=hs x Qj
  have:=hJ (S:=S.erase x) h2 λy hy=>(List.mem_erase_of_ne λz=>h1 (by rw[←z];exact hy)).mpr (hs y (Qh _ hy))
  rw[List.length_erase_of_mem hx]at this
  have:=List.length_pos_of_mem hx
  rw[Qp]
  omega
end
def SqF (K:PySem.W.Frag) (F:Addr→Prop) (H:Hp) (a:Addr) (xs:List V):Prop:=(Rd H a (.lst xs)∧¬F a)∨∀H',SqL K H' a xs
theorem SqF.sq {K:PySem.W.Frag} {F:Addr→Prop} {H:Hp} {a:Addr} {xs:List V} (h:SqF K F H a xs):SqL K H a xs:=by
 rcases h with h|h
 ·exact .inl h.1
 ·exact h H
theorem SqF.of {K:PySem.W.Frag} {F:Addr→Prop} {H:Hp} {a:Addr} {xs:List V} (h:SqL K H a xs) (n:∀o,H a=some o→¬F a):SqF K F H a xs:=by
 rcases h with h|h
 ·rcases h with h|⟨o,h⟩
  ·exact .inl ⟨.inl h,n _ h⟩
  ·exact .inl ⟨.inr ⟨o,h⟩,n _ h⟩
 ·exact .inr λ_=> .inr h
theorem SqF.fr {K:PySem.W.Frag} {F F':Addr→Prop} {H H':Hp} {a:Addr} {xs:List V} (h:SqF K F H a xs) (f:Fr F F' H H'):SqF K F' H' a xs:=by
 rcases h with⟨h,n⟩|h
 ·rcases h with h|⟨o,h⟩
  ·exact .inl ⟨.inl (f _ _ n h).1,(f _ _ n h).2⟩
  ·exact .inl ⟨.inr ⟨o,(f _ _ n h).1⟩,(f _ _ n h).2⟩
 ·exact .inr h
theorem SqF.new {K:PySem.W.Frag} {F:Addr→Prop} {H:Hp} {a p:Addr} {o:HO} {xs:List V} (h:SqF K F H a xs) (n:H p=none):SqF K F (upd H p o) a xs:=h.fr (Fr.of_same (aj n))
structure SSt where
 kv:List (Int×V)
 size:Int
 nxt:Option Int
 mv:Int
def SSt.new:SSt:=⟨[],4,none,0⟩
def SSt.one (s:SSt):SSt:=match s.nxt with
 |none=>s
 |some m=>if s.mv+1=s.size then{s with size:=m,nxt:=none,mv:=0}else{s with mv:=s.mv+1}
def SSt.three (s:SSt):SSt:=match s.nxt with
 |some _=>s
 |none=>if s.size<(s.kv.length:Int)∧s.size<256 then{s with nxt:=some (2*s.size),mv:=0}else if 4*(s.kv.length:Int)<s.size∧4<s.size then{s with nxt:=some (s.size/2),mv:=0}else s
def SSt.put (s:SSt) (k:Int) (v:V):SSt:=SSt.three {s.one with kv:=bj s.kv k v}
def SSt.drop (s:SSt) (k:Int):SSt:=SSt.three {s.one with kv:=bK s.kv k}
def SSt.rows (s:SSt):List Int:=match s.nxt with
 |none=> [s.size]
 |some m=> [s.size,m]
def SSt.moved (s:SSt):Int:=match s.nxt with
 |none=>0
 |some _=>s.mv
structure SlD where
 tb:Addr
 r0:Addr
 r1:Addr
 A0:List Addr
 A1:List Addr
 C0:List (List (Int×V))
 C1:List (List (Int×V))
 n:Int
def slF (tb:Addr) (sh n:Int):List (Str×V):=[("table",.ref tb),("shifted",.int sh),("kept",.int n)]
theorem eX {k:Str} {v:V} {r:List (Str×V)}:((k,v)::r).lookup k=some v:=by
 have hb:(k==k)=true:=beq_iff_eq.mpr rfl
 simp only[List.lookup,hb]
theorem bJ {k m:Str} {v:V} {r:List (Str×V)} (h:m≠k):((k,v)::r).lookup m=r.lookup m:=by
 have hb:(m==k)=false:=beq_eq_false_iff_ne.mpr h
 simp only[List.lookup,hb]
section
variable {tb tb':Addr} {sh sh' n n':Int} {m:Str}
theorem f7:(slF tb sh n).lookup ("table":Str)=some (.ref tb):=eX
theorem vq:(slF tb sh n).lookup ("shifted":Str)=some (.int sh):=by unfold slF;rw[bJ (by decide+kernel),eX]
theorem lX:(slF tb sh n).lookup ("kept":Str)=some (.int n):=by unfold slF;rw[bJ (by decide+kernel),bJ (by decide+kernel),eX]
def NoM (m:Str):Prop:=m≠("table":Str)∧m≠("shifted":Str)∧m≠("kept":Str)
instance:Decidable (NoM m):=by unfold NoM;infer_instance
theorem Dy (h:NoM m):(slF tb sh n).lookup m=none:=by unfold slF;rw[bJ h.1,bJ h.2.1,bJ h.2.2];rfl
theorem Fz:bc ("table":Str) (.ref tb') (slF tb sh n)=slF tb' sh n:=by unfold slF;rw[bc,if_pos rfl]
theorem DD:bc ("shifted":Str) (.int sh') (slF tb sh n)=slF tb sh' n:=by unfold slF;rw[bc,if_neg (by decide+kernel),bc,if_pos rfl]
theorem DE:bc ("kept":Str) (.int n') (slF tb sh n)=slF tb sh n':=by unfold slF;rw[bc,if_neg (by decide+kernel),bc,if_neg (by decide+kernel),bc,if_pos rfl]
theorem lW:(slF tb sh n).length<1000:=by show 3<1000;decide
end
structure RowOk (H:Hp) (r:Addr) (A:List Addr) (C:List (List (Int×V))) (sz:Int):Prop where
 lst:H r=some (.lst (A.map V.ref))
 la:(A.length:Int)=sz
 lc:(C.length:Int)=sz
 cell:∀(j:Nat) (b:Addr) (kv:List (Int×V)),A[j]?=some b→C[j]?=some kv→H b=some (.dK (aI kv))
 ndk:∀(j:Nat) (kv:List (Int×V)),C[j]?=some kv→(kv.map (·.1)).Nodup
 inj:∀(i j:Nat) (b:Addr),A[i]?=some b→A[j]?=some b→i=j
 home:∀(j:Nat) (kv:List (Int×V)),C[j]?=some kv→∀p∈kv,p.1%65536%sz=(j:Int)
theorem RowOk.has {H:Hp} {r:Addr} {A:List Addr} {C:List (List (Int×V))} {sz:Int} (h:RowOk H r A C sz) {b:Addr} (hb:b∈A):∃(j:Nat) (kv:List (Int×V)),A[j]?=some b∧C[j]?=some kv∧H b=some (.dK (aI kv)):=by
 obtain⟨j,hj,e⟩:=Qy hb
 have hc:j<C.length:=by have:=h.la;have:=h.lc;omega
 have e1:A[j]?=some b:=by rw[Q3 hj,e]
 have e2:C[j]?=some C[j]:=Q3 hc
 exact⟨j,C[j],e1,e2,h.cell j b _ e1 e2⟩
theorem RowOk.frame {H H':Hp} {r:Addr} {A:List Addr} {C:List (List (Int×V))} {sz:Int} (h:RowOk H r A C sz) (f:∀b,b=r∨b∈A→H' b=H b):RowOk H' r A C sz:=
 ⟨by rw[f r (.inl rfl)];exact h.lst,h.la,h.lc,λj b kv e1 e2=>by rw[f b (.inr (Q1 e1))];exact h.cell j b kv e1 e2,h.ndk,h.inj,h.home⟩
theorem RowOk.notr {H:Hp} {r:Addr} {A:List Addr} {C:List (List (Int×V))} {sz:Int} (h:RowOk H r A C sz) {b:Addr} (hb:b∈A) {o:HO} {x:Addr} (e:H x=some o) (ne:∀kvs,o≠ .dK kvs):b≠x:=λz=>by
 obtain⟨j,kv,_,_,q⟩:=h.has hb
 rw[z,e]at q
 cases q
 exact ne _ rfl
theorem RowOk.set {H:Hp} {r c:Addr} {A:List Addr} {C:List (List (Int×V))} {sz:Int} {j:Nat} {kv':List (Int×V)} (h:RowOk H r A C sz) (ea:A[j]?=some c) (nd:(kv'.map (·.1)).Nodup) (hm:∀p∈kv',p.1%65536%sz=(j:Int)):
  RowOk (upd H c (.dK (aI kv'))) r A (C.set j kv') sz:=by
 have hc:r≠c:=(h.notr (Q1 ea) h.lst (λ_ z=>by cases z)).symm
 refine⟨by rw[ae hc];exact h.lst,h.la,by rw[QH];exact h.lc,λi b kv e1 e2=>?_,λi kv e=>?_,h.inj,λi kv e=>?_⟩
 ·rw[Qv]at e2
  by_cases z:j=i
  ·subst z
   rw[ea]at e1
   cases e1
   rw[if_pos rfl]at e2
   split at e2
   ·cases e2;exact ag
   ·cases e2
  ·rw[if_neg z]at e2
   rw[ae λy=>z (h.inj j i c ea (by rw[←y];exact e1))]
   exact h.cell i b kv e1 e2
 ·rw[Qv]at e
  by_cases z:j=i
  ·rw[if_pos z]at e
   split at e
   ·cases e;exact nd
   ·cases e
  ·rw[if_neg z]at e
   exact h.ndk i kv e
 ·rw[Qv]at e
  by_cases z:j=i
  ·subst z
   rw[if_pos rfl]at e
   split at e
   ·cases e;exact hm
   ·cases e
  ·rw[if_neg z]at e
   exact h.home i kv e
def SlF (a:Addr) (st:SSt) (d:SlD):Addr→Prop:=λb=>b=a∨b=d.tb∨b=d.r0∨b∈d.A0∨(st.nxt.isSome=true∧b=d.r1)∨b∈d.A1
def IsCell (d:SlD) (st:SSt) (k:Int) (c:Addr) (kv:List (Int×V)):Prop:=
 (st.moved≤k%65536%st.size∧d.A0[(k%65536%st.size).toNat]?=some c∧d.C0[(k%65536%st.size).toNat]?=some kv)∨
 (∃m,st.nxt=some m∧k%65536%st.size<st.moved∧d.A1[(k%65536%m).toNat]?=some c∧d.C1[(k%65536%m).toNat]?=some kv)
structure SzOk (st:SSt):Prop where
 pw:st.size∈([4,8,16,32,64,128,256]:List Int)
 nx:∀m,st.nxt=some m→m∈([4,8,16,32,64,128,256]:List Int)∧0≤st.mv∧st.mv<st.size∧(m=2*st.size∨2*m=st.size)
theorem ju {x:Int} (h:x∈([4,8,16,32,64,128,256]:List Int)):x=4∨x=8∨x=16∨x=32∨x=64∨x=128∨x=256:=by simpa using h
theorem bH {x:Int} (h:x∈([4,8,16,32,64,128,256]:List Int)):4≤x∧x≤256:=by
 rcases ju h with h|h|h|h|h|h|h<;>omega
structure SlB (t:Adr) (H:Hp) (a:Addr) (st:SSt) (d:SlD):Prop where
 obj:∃dx,H a=some (.ins t.aT dx (slF d.tb st.moved d.n))
 tbl:H d.tb=some (.lst (match st.nxt with|none=> [.ref d.r0]|some _=> [.ref d.r0,.ref d.r1]))
 row0:RowOk H d.r0 d.A0 d.C0 st.size
 row1:match st.nxt with|none=>d.A1=[]∧d.C1=[]|some m=>RowOk H d.r1 d.A1 d.C1 m
 dis:∀b,b∈d.A0→b∉d.A1
 tr:d.tb≠d.r0
 tr1:st.nxt.isSome=true→d.tb≠d.r1∧d.r0≠d.r1
 old:∀(j:Nat) (kv:List (Int×V)),d.C0[j]?=some kv→(j:Int)<st.moved→kv=[]
 new:∀(j:Nat) (kv:List (Int×V)),d.C1[j]?=some kv→∀p∈kv,p.1%65536%st.size<st.moved
 val:∀(k:Int) (c:Addr) (kv:List (Int×V)),IsCell d st k c kv→aL kv k=aL st.kv k
section
variable {t:Adr} {H H':Hp} {a b:Addr} {st:SSt} {d:SlD}
theorem SlB.frame (h:SlB t H a st d) (f:∀b,SlF a st d b→H' b=H b):SlB t H' a st d:=by
 obtain⟨dx,ho⟩:=h.obj
 refine⟨⟨dx,by rw[f a (.inl rfl)];exact ho⟩,by rw[f d.tb (.inr (.inl rfl))];exact h.tbl,h.row0.frame λb hb=>f b ?_,?_,h.dis,h.tr,h.tr1,h.old,h.new,h.val⟩
 ·rcases hb with hb|hb
  ·exact .inr (.inr (.inl hb))
  ·exact .inr (.inr (.inr (.inl hb)))
 ·have r1:=h.row1
  have ff:=f
  unfold SlF at ff
  cases e:st.nxt with
  |none=>rw[e]at r1;exact r1
  |some m=>
   rw[e]at r1
   refine RowOk.frame (H:=H) r1 λb hb=>f b ?_
   unfold SlF
   rw[e]
   rcases hb with hb|hb
   ·exact .inr (.inr (.inr (.inr (.inl ⟨rfl,hb⟩))))
   ·exact .inr (.inr (.inr (.inr (.inr hb))))
theorem SlB.dom (h:SlB t H a st d) (hb:SlF a st d b):∃o,H b=some o:=by
 obtain⟨dx,ho⟩:=h.obj
 rcases hb with rfl|rfl|rfl|hb|⟨hs,rfl⟩|hb
 ·exact⟨_,ho⟩
 ·exact⟨_,h.tbl⟩
 ·exact⟨_,h.row0.lst⟩
 ·obtain⟨_,_,_,_,q⟩:=h.row0.has hb;exact⟨_,q⟩
 ·have r1:=h.row1
  cases e:st.nxt with
  |none=>rw[e]at hs;cases hs
  |some m=>rw[e]at r1;exact⟨_,r1.lst⟩
 ·have r1:=h.row1
  cases e:st.nxt with
  |none=>rw[e]at r1;rw[r1.1]at hb;cases hb
  |some m=>rw[e]at r1;obtain⟨_,_,_,_,q⟩:=r1.has hb;exact⟨_,q⟩
theorem SlB.at (h:SlB t H a st d) {k:Int} {c:Addr} {kv:List (Int×V)} (ic:IsCell d st k c kv):H c=some (.dK (aI kv))∧SlF a st d c∧(kv.map (·.1)).Nodup:=by
 rcases ic with⟨_,e1,e2⟩|⟨m,em,_,e1,e2⟩
 ·exact⟨h.row0.cell _ _ _ e1 e2,.inr (.inr (.inr (.inl (Q1 e1)))),h.row0.ndk _ _ e2⟩
 ·have r1:=h.row1
  rw[em]at r1
  exact⟨r1.cell _ _ _ e1 e2,.inr (.inr (.inr (.inr (.inr (Q1 e1))))),r1.ndk _ _ e2⟩
theorem nN {k m:Int} (hm:4≤m):0≤k%65536%m∧k%65536%m<m∧((k%65536%m).toNat:Int)=k%65536%m:=by
 have h1:=Qd (k%65536) (show m≠0 by omega)
 have h2:=Qc (k%65536) (show 0<m by omega)
 exact⟨h1,h2,Xm h1⟩
theorem cE {α:Type} {l:List α} {z:Int} (h0:0≤z) (h1:z<(l.length:Int)):∃x,l[z.toNat]?=some x:=⟨l[z.toNat]'(by omega),Q3 (by omega)⟩
theorem SlB.cell (h:SlB t H a st d) (z:SzOk st) (k:Int):∃c kv,IsCell d st k c kv:=by
 obtain⟨s4,_⟩:=bH z.pw
 obtain⟨m0,m1,m2⟩:=nN (k:=k) s4
 by_cases c:st.moved≤k%65536%st.size
 ·obtain⟨x,e1⟩:=cE (l:=d.A0) m0 (by rw[h.row0.la];exact m1)
  obtain⟨y,e2⟩:=cE (l:=d.C0) m0 (by rw[h.row0.lc];exact m1)
  exact⟨x,y,.inl ⟨c,e1,e2⟩⟩
 ·cases e:st.nxt with
  |none=>
   exfalso
   have:st.moved=0:=by unfold SSt.moved;rw[e]
   omega
  |some m=>
   obtain⟨pm,_⟩:=z.nx m e
   obtain⟨s5,_⟩:=bH pm
   obtain⟨n0,n1,n2⟩:=nN (k:=k) s5
   have r1:=h.row1
   rw[e]at r1
   obtain⟨x,e1⟩:=cE (l:=d.A1) n0 (by rw[r1.la];exact n1)
   obtain⟨y,e2⟩:=cE (l:=d.C1) n0 (by rw[r1.lc];exact n1)
   exact⟨x,y,.inr ⟨m,e,by omega,e1,e2⟩⟩
theorem IsCell.uniq {k:Int} {c c':Addr} {kv kv':List (Int×V)} (x:IsCell d st k c kv) (y:IsCell d st k c' kv'):c=c'∧kv=kv':=by
 rcases x with⟨h0,e1,e2⟩|⟨m,em,h0,e1,e2⟩<;>rcases y with⟨g0,f1,f2⟩|⟨m',em',g0,f1,f2⟩
 ·rw[e1]at f1;rw[e2]at f2;cases f1;cases f2;exact⟨rfl,rfl⟩
 ·omega
 ·omega
 ·rw[em]at em';cases em';rw[e1]at f1;rw[e2]at f2;cases f1;cases f2;exact⟨rfl,rfl⟩
theorem SlB.setN (h:SlB t H a st d) {dx:Addr} {n:Int}:SlB t (upd H a (.ins t.aT dx (slF d.tb st.moved n))) a st {d with n:=n}:=by
 obtain⟨dy,ho⟩:=h.obj
 have n1:d.tb≠a:=bZ h.tbl ho (by intro z;cases z)
 refine⟨⟨dx,ag⟩,by show upd H a _ d.tb=_;rw[ae n1];exact h.tbl,h.row0.frame λb hb=>ae ?_,?_,h.dis,h.tr,h.tr1,h.old,h.new,h.val⟩
 ·rcases hb with rfl|hb
  ·exact bZ h.row0.lst ho (by intro z;cases z)
  ·exact h.row0.notr hb ho (λ_ z=>by cases z)
 ·have r1:=h.row1
  cases e:st.nxt with
  |none=>rw[e]at r1;exact r1
  |some m=>
   rw[e]at r1
   refine RowOk.frame (H:=H) r1 λb hb=>ae ?_
   rcases hb with rfl|hb
   ·exact bZ r1.lst ho (by intro z;cases z)
   ·exact r1.notr hb ho (λ_ z=>by cases z)
theorem SlB.setCell (h:SlB t H a st d) (z:SzOk st) {k:Int} {c:Addr} {kv kv' kvs:List (Int×V)} (ic:IsCell d st k c kv) (nd:(kv'.map (·.1)).Nodup) (hm:∀p∈kv',p∈kv∨p.1=k)
  (hk:aL kv' k=aL kvs k) (ho:∀j,j≠k→aL kv' j=aL kv j∧aL kvs j=aL st.kv j):
  ∃d',SlB t (upd H c (.dK (aI kv'))) a {st with kv:=kvs} d'∧d'.n=d.n∧∀b,SlF a {st with kv:=kvs} d' b↔SlF a st d b:=by
 obtain⟨hc,hf,_⟩:=h.at ic
 obtain⟨dx,hob⟩:=h.obj
 obtain⟨s4,_⟩:=bH z.pw
 obtain⟨m0,m1,m2⟩:=nN (k:=k) s4
 have na:a≠c:=bZ hob hc (by intro z;cases z)
 have nt:d.tb≠c:=bZ h.tbl hc (by intro z;cases z)
 have nr:d.r0≠c:=bZ h.row0.lst hc (by intro z;cases z)
 have vals:∀(d':SlD) (j:Int) (b:Addr) (x:List (Int×V)),IsCell d' {st with kv:=kvs} j b x→(∀y,IsCell d st j b y→(x=y∧b≠c)∨(x=kv'∧y=kv))→(∃y,IsCell d st j b y)→aL x j=aL kvs j:=λd' j b x hx f ⟨y,hy⟩=>by
  by_cases e:j=k
  ·subst e
   obtain⟨rfl,rfl⟩:=IsCell.uniq hy ic
   rcases f y hy with⟨_,z⟩|⟨rfl,_⟩
   ·exact absurd rfl z
   ·exact hk
  ·rw[(ho j e).2]
   rcases f y hy with⟨rfl,_⟩|⟨rfl,rfl⟩
   ·exact h.val j b x hy
   ·rw[(ho j e).1];exact h.val j b y hy
 rcases ic with⟨h0,e1,e2⟩|⟨m,em,h0,e1,e2⟩
 ·have hin:c∈d.A0:=Q1 e1
  have hmem:∀p∈kv',p.1%65536%st.size=((k%65536%st.size).toNat:Int):=λp hp=>by
   rcases hm p hp with q|q
   ·exact h.row0.home _ _ e2 p q
   ·rw[q,m2]
  refine⟨{d with C0:=d.C0.set (k%65536%st.size).toNat kv'},⟨⟨dx,by rw[ae na];exact hob⟩,by show upd H c _ d.tb=_;rw[ae nt];exact h.tbl,h.row0.set e1 nd hmem,?_,h.dis,h.tr,h.tr1,λj x e lt=>?_,h.new,λj b x hx=>?_⟩,rfl,λb=>Iff.rfl⟩
  ·have r1:=h.row1
   show match st.nxt with|none=>_|some m=>_
   cases e:st.nxt with
   |none=>rw[e]at r1;exact r1
   |some m=>
    rw[e]at r1
    refine RowOk.frame (H:=H) r1 λb hb=>ae ?_
    rcases hb with rfl|hb
    ·exact bZ r1.lst hc (by intro z;cases z)
    ·exact λy=>h.dis c hin (y▸hb)
  ·have e:(d.C0.set (k%65536%st.size).toNat kv')[j]?=some x:=e
   have lt:(j:Int)<st.moved:=lt
   rw[Qv]at e
   by_cases q:(k%65536%st.size).toNat=j
   ·exfalso;omega
   ·rw[if_neg q]at e;exact h.old j x e lt
  ·refine vals _ j b x hx (λy hy=>?_) ?_
   ·rcases hx with⟨g0,f1,f2⟩|⟨m',em',g0,f1,f2⟩
    ·have f2:(d.C0.set (k%65536%st.size).toNat kv')[(j%65536%st.size).toNat]?=some x:=f2
     have f1:d.A0[(j%65536%st.size).toNat]?=some b:=f1
     have g0:st.moved≤j%65536%st.size:=g0
     rcases hy with⟨_,y1,y2⟩|⟨_,_,y0,_,_⟩
     ·rw[Qv]at f2
      by_cases q:(k%65536%st.size).toNat=(j%65536%st.size).toNat
      ·rw[if_pos q]at f2
       split at f2
       ·cases f2
        rw[←q,e2]at y2
        cases y2
        exact .inr ⟨rfl,rfl⟩
       ·cases f2
      ·rw[if_neg q,y2]at f2
       cases f2
       exact .inl ⟨rfl,λw=>q (h.row0.inj _ _ c e1 (by rw[←w];exact f1))⟩
     ·omega
    ·have f1:d.A1[(j%65536%m').toNat]?=some b:=f1
     have f2:d.C1[(j%65536%m').toNat]?=some x:=f2
     have g0:j%65536%st.size<st.moved:=g0
     have em':st.nxt=some m':=em'
     rcases hy with⟨y0,_,_⟩|⟨m2,e3,y0,y1,y2⟩
     ·omega
     ·rw[em']at e3;cases e3
      rw[f2]at y2;cases y2
      exact .inl ⟨rfl,λw=>h.dis c hin (w▸Q1 f1)⟩
   ·obtain⟨b',y,hy⟩:=h.cell z j
    have:b'=b:=by
     rcases hx with⟨g0,f1,f2⟩|⟨m',em',g0,f1,f2⟩<;>rcases hy with⟨y0,y1,y2⟩|⟨m3,e3,y0,y1,y2⟩
     ·have f1:d.A0[(j%65536%st.size).toNat]?=some b:=f1
      rw[y1]at f1;exact Option.some.inj f1
     ·have g0:st.moved≤j%65536%st.size:=g0
      omega
     ·have g0:j%65536%st.size<st.moved:=g0
      omega
     ·have em':st.nxt=some m':=em'
      rw[em']at e3;cases e3
      have f1:d.A1[(j%65536%m').toNat]?=some b:=f1
      rw[y1]at f1;exact Option.some.inj f1
    subst this
    exact⟨y,hy⟩
 ·have r1:=h.row1
  rw[em]at r1
  have hin:c∈d.A1:=Q1 e1
  obtain⟨pm,_⟩:=z.nx m em
  obtain⟨s5,_⟩:=bH pm
  obtain⟨n0,n1,n2⟩:=nN (k:=k) s5
  have hmem:∀p∈kv',p.1%65536%m=((k%65536%m).toNat:Int):=λp hp=>by
   rcases hm p hp with q|q
   ·exact r1.home _ _ e2 p q
   ·rw[q,n2]
  refine⟨{d with C1:=d.C1.set (k%65536%m).toNat kv'},⟨⟨dx,by rw[ae na];exact hob⟩,by show upd H c _ d.tb=_;rw[ae nt];exact h.tbl,h.row0.frame λb hb=>ae ?_,?_,h.dis,h.tr,h.tr1,h.old,λj x e p hp=>?_,λj b x hx=>?_⟩,rfl,λb=>Iff.rfl⟩
  ·rcases hb with rfl|hb
   ·exact nr
   ·exact λy=>h.dis b hb (y▸hin)
  ·show match st.nxt with|none=>_|some m=>_
   rw[em]
   exact r1.set e1 nd hmem
  ·have e:(d.C1.set (k%65536%m).toNat kv')[j]?=some x:=e
   show p.1%65536%st.size<st.moved
   rw[Qv]at e
   by_cases q:(k%65536%m).toNat=j
   ·rw[if_pos q]at e
    split at e
    ·cases e
     rcases hm p hp with q|q
     ·exact h.new _ _ e2 p q
     ·rw[q];exact h0
    ·cases e
   ·rw[if_neg q]at e;exact h.new j x e p hp
  ·refine vals _ j b x hx (λy hy=>?_) ?_
   ·rcases hx with⟨g0,f1,f2⟩|⟨m',em',g0,f1,f2⟩
    ·have f1:d.A0[(j%65536%st.size).toNat]?=some b:=f1
     have f2:d.C0[(j%65536%st.size).toNat]?=some x:=f2
     have g0:st.moved≤j%65536%st.size:=g0
     rcases hy with⟨_,y1,y2⟩|⟨_,_,y0,_,_⟩
     ·rw[f2]at y2;cases y2
      exact .inl ⟨rfl,λw=>h.dis b (Q1 f1) (w▸hin)⟩
     ·omega
    ·have em':st.nxt=some m':=em'
     rw[em]at em'
     cases em'
     have f2:(d.C1.set (k%65536%m).toNat kv')[(j%65536%m).toNat]?=some x:=f2
     have f1:d.A1[(j%65536%m).toNat]?=some b:=f1
     have g0:j%65536%st.size<st.moved:=g0
     rcases hy with⟨y0,_,_⟩|⟨m2,e3,y0,y1,y2⟩
     ·omega
     ·rw[em]at e3;cases e3
      rw[Qv]at f2
      by_cases q:(k%65536%m).toNat=(j%65536%m).toNat
      ·rw[if_pos q]at f2
       split at f2
       ·cases f2
        rw[←q,e2]at y2
        cases y2
        exact .inr ⟨rfl,rfl⟩
       ·cases f2
      ·rw[if_neg q,y2]at f2
       cases f2
       exact .inl ⟨rfl,λw=>q (r1.inj _ _ c e1 (by rw[←w];exact f1))⟩
   ·obtain⟨b',y,hy⟩:=h.cell z j
    have:b'=b:=by
     rcases hx with⟨g0,f1,f2⟩|⟨m',em',g0,f1,f2⟩<;>rcases hy with⟨y0,y1,y2⟩|⟨m3,e3,y0,y1,y2⟩
     ·have f1:d.A0[(j%65536%st.size).toNat]?=some b:=f1
      rw[y1]at f1;exact Option.some.inj f1
     ·have g0:st.moved≤j%65536%st.size:=g0
      omega
     ·have g0:j%65536%st.size<st.moved:=g0
      omega
     ·have em':st.nxt=some m':=em'
      rw[em']at e3;cases e3
      have f1:d.A1[(j%65536%m').toNat]?=some b:=f1
      rw[y1]at f1;exact Option.some.inj f1
    subst this
    exact⟨y,hy⟩
end
theorem qB {kv:List (Int×V)} {k:Int} {v:V} {p:Int×V} (h:p∈bj kv k v):p∈kv∨p.1=k:=by
 unfold bj at h
 split at h
 ·obtain⟨q,hq,e⟩:=Qg.mp h
  by_cases z:q.1=k
  ·rw[if_pos z]at e;rw[←e];exact .inr z
  ·rw[if_neg z]at e;rw[←e];exact .inl hq
 ·rcases Q4.mp h with h|h
  ·exact .inl h
  ·rw[Qb.mp h];exact .inr rfl
theorem CK {kv:List (Int×V)} {p:Int×V} (h:p∈kv):(aL kv p.1).isSome=true:=mem_keys.mp (Qg.mpr ⟨p,h,rfl⟩)
def eI (m:Int) (C:List (List (Int×V))) (p:Int×V):List (List (Int×V)):=C.set (p.1%65536%m).toNat (bj (C.getD (p.1%65536%m).toNat []) p.1 p.2)
theorem Ay {m:Int} {C:List (List (Int×V))} {p:Int×V}:(eI m C p).length=C.length:=QH
theorem yb {m:Int}:∀{kv:List (Int×V)} {C:List (List (Int×V))},(kv.foldl (eI m) C).length=C.length
 | [],_=>rfl
 |p::r,C=>by rw[List.foldl_cons,yb,Ay]
theorem vN {m:Int} {C:List (List (Int×V))} {p:Int×V} {j:Nat} {y:List (Int×V)} (e:C[j]?=some y):(eI m C p)[j]?=some (if(p.1%65536%m).toNat=j then bj y p.1 p.2 else y):=by
 unfold eI
 rw[Qv]
 by_cases z:(p.1%65536%m).toNat=j
 ·have hj:j<C.length:=(Q2.mp e).1
  rw[if_pos z,if_pos z,if_pos (by rw[z];exact hj),Ql,z,e]
  rfl
 ·rw[if_neg z,if_neg z,e]
theorem uG {m:Int}:∀{kv:List (Int×V)} {C:List (List (Int×V))} {j:Nat} {y:List (Int×V)},(kv.map (·.1)).Nodup→C[j]?=some y→∃x,(kv.foldl (eI m) C)[j]?=some x∧
  (∀p∈x,p∈y∨p.1∈kv.map (·.1))∧∀k,aL x k=if(k%65536%m).toNat=j then(aL kv k).or (aL y k)else aL y k
 | [],C,j,y,_,e=>⟨y,e,λp hp=> .inl hp,λk=>by rw[jh];simp⟩
 |p::r,C,j,y,nd,e=>by
  obtain⟨n1,n2⟩:=QP.mp (show(p.1::r.map (·.1)).Nodup from nd)
  obtain⟨x,h1,h2,h3⟩:=uG (m:=m) n2 (vN (m:=m) (p:=p) e)
  refine⟨x,h1,λq hq=>?_,λk=>?_⟩
  ·rcases h2 q hq with z|z
   ·split at z
    ·rcases qB z with z|z
     ·exact .inl z
     ·exact .inr (Qg.mpr ⟨p,Qj,z.symm⟩)
    ·exact .inl z
   ·exact .inr (Qh _ z)
  ·rw[h3 k]
   by_cases z:(k%65536%m).toNat=j
   ·rw[if_pos z,if_pos z]
    by_cases w:p.1=k
    ·subst w
     have:aL r p.1=none:=by
      cases q:aL r p.1 with
      |none=>rfl
      |some v=>exact absurd (pc q) n1
     rw[this,bf rfl,if_pos z,fq,if_pos rfl]
     rfl
    ·rw[a7 w]
     congr 1
     split
     ·rw[fq,if_neg (Ne.symm w)]
     ·rfl
   ·rw[if_neg z,if_neg z]
    split
    ·rename_i w
     rw[fq,if_neg (λy=>z (by rw[y];exact w))]
    ·rfl
theorem RowOk.mov {H:Hp} {r c:Addr} {A:List Addr} {C:List (List (Int×V))} {sz k:Int} {v:V} {y:List (Int×V)} (h:RowOk H r A C sz) (s4:4≤sz) (ea:A[(k%65536%sz).toNat]?=some c) (ey:C[(k%65536%sz).toNat]?=some y):
  RowOk (upd H c (.dK (aI (bj y k v)))) r A (eI sz C (k,v)) sz:=by
 have e:eI sz C (k,v)=C.set (k%65536%sz).toNat (bj y k v):=by
  unfold eI
  rw[Ql]
  show C.set (k%65536%sz).toNat (bj (C[(k%65536%sz).toNat]?.getD []) k v)=_
  rw[ey]
  rfl
 rw[e]
 obtain⟨m0,m1,m2⟩:=nN (k:=k) s4
 refine h.set ea (xk (h.ndk _ _ ey)) λp hp=>?_
 rcases qB hp with z|z
 ·exact h.home _ _ ey p z
 ·rw[z,m2]
section
variable {t:Adr} {H H':Hp} {a:Addr} {st:SSt} {d:SlD}
theorem SSt.moved_some {st:SSt} {m:Int} (e:st.nxt=some m):st.moved=st.mv:=by unfold SSt.moved;rw[e]
theorem SSt.moved_none {st:SSt} (e:st.nxt=none):st.moved=0:=by unfold SSt.moved;rw[e]
theorem SlB.movVal (h:SlB t H a st d) (z:SzOk st) {m:Int} (em:st.nxt=some m) {kv:List (Int×V)} (ek:d.C0[st.mv.toNat]?=some kv) {k:Int} (hk:k%65536%st.size≤st.mv) {x:List (Int×V)}
  (ex:(kv.foldl (eI m) d.C1)[(k%65536%m).toNat]?=some x):aL x k=aL st.kv k:=by
 obtain⟨pm,v0,v1,_⟩:=z.nx m em
 obtain⟨s4,_⟩:=bH z.pw
 obtain⟨s5,_⟩:=bH pm
 have r1:=h.row1
 rw[em]at r1
 obtain⟨n0,n1,n2⟩:=nN (k:=k) s5
 obtain⟨m0,m1,m2⟩:=nN (k:=k) s4
 obtain⟨y,ey⟩:=cE (l:=d.C1) n0 (by rw[r1.lc];exact n1)
 obtain⟨c1,ec1⟩:=cE (l:=d.A1) n0 (by rw[r1.la];exact n1)
 obtain⟨x',e',_,hv⟩:=uG (m:=m) (h.row0.ndk _ _ ek) ey
 rw[ex]at e'
 cases e'
 rw[hv k,if_pos rfl]
 have hm:=SSt.moved_some em
 by_cases c:k%65536%st.size=st.mv
 ·obtain⟨b0,eb0⟩:=cE (l:=d.A0) m0 (by rw[h.row0.la];exact m1)
  have ic:IsCell d st k b0 kv:= .inl ⟨by omega,eb0,by rw[c];exact ek⟩
  have yn:aL y k=none:=by
   cases q:aL y k with
   |none=>rfl
   |some v=>
    obtain⟨p,hp,e⟩:=Qg.mp (pc q)
    have:=h.new _ _ ey p hp
    rw[e]at this
    omega
  rw[h.val k b0 kv ic,yn]
  simp
 ·have ic:IsCell d st k c1 y:= .inr ⟨m,em,by omega,ec1,ey⟩
  have kn:aL kv k=none:=by
   cases q:aL kv k with
   |none=>rfl
   |some v=>
    obtain⟨p,hp,e⟩:=Qg.mp (pc q)
    have:=h.row0.home _ _ ek p hp
    rw[e]at this
    omega
  rw[kn,h.val k c1 y ic]
  rfl
theorem cR {α:Type} {l:List α} {i j:Nat} {x y:α} (e:(l.set i x)[j]?=some y):(i=j∧y=x)∨(i≠j∧l[j]?=some y):=by
 rw[Qv]at e
 by_cases z:i=j
 ·rw[if_pos z]at e
  split at e
  ·cases e;exact .inl ⟨z,rfl⟩
  ·cases e
 ·rw[if_neg z]at e
  exact .inr ⟨z,e⟩
theorem SlB.one (h:SlB t H a st d) (z:SzOk st) {m:Int} (em:st.nxt=some m) {kv:List (Int×V)} (ek:d.C0[st.mv.toNat]?=some kv) {b' dx:Addr} (nl:st.mv+1≠st.size)
  (ha:H' a=some (.ins t.aT dx (slF d.tb (st.mv+1) d.n))) (ht:H' d.tb=H d.tb) (h0:H' d.r0=some (.lst ((d.A0.set st.mv.toNat b').map V.ref))) (hb:H' b'=some (.dK [])) (hF:¬SlF a st d b')
  (hA:∀(j:Nat) b,d.A0[j]?=some b→j≠st.mv.toNat→H' b=H b) (hr:RowOk H' d.r1 d.A1 (kv.foldl (eI m) d.C1) m):
  SlB t H' a st.one {d with A0:=d.A0.set st.mv.toNat b',C0:=d.C0.set st.mv.toNat [],C1:=kv.foldl (eI m) d.C1}:=by
 obtain⟨pm,v0,v1,_⟩:=z.nx m em
 have hone:st.one={st with mv:=st.mv+1}:=by unfold SSt.one;rw[em];exact if_neg nl
 have hmv:({st with mv:=st.mv+1}:SSt).moved=st.mv+1:=SSt.moved_some (st:={st with mv:=st.mv+1}) em
 have hm:=SSt.moved_some em
 have nA0:b'∉d.A0:=λq=>hF (.inr (.inr (.inr (.inl q))))
 have nA1:b'∉d.A1:=λq=>hF (.inr (.inr (.inr (.inr (.inr q)))))
 rw[hone]
 have r1:=h.row1
 rw[em]at r1
 refine⟨⟨dx,by rw[hmv];exact ha⟩,by rw[ht];exact h.tbl,⟨h0,by rw[QH];exact h.row0.la,by rw[QH];exact h.row0.lc,λj b x e1 e2=>?_,λj x e=>?_,λi j b e1 e2=>?_,λj x e p hp=>?_⟩,?_,λb hb0 hb1=>?_,h.tr,h.tr1,λj x e lt=>?_,λj x e p hp=>?_,λk c x ic=>?_⟩
 ·rcases cR e1 with⟨q,rfl⟩|⟨q,e1⟩
  ·rcases cR e2 with⟨_,rfl⟩|⟨q2,_⟩
   ·exact hb
   ·exact absurd q q2
  ·rcases cR e2 with⟨q2,_⟩|⟨_,e2⟩
   ·exact absurd q2 q
   ·rw[hA j b e1 (Ne.symm q)];exact h.row0.cell j b x e1 e2
 ·rcases cR e with⟨_,rfl⟩|⟨_,e⟩
  ·exact Zc
  ·exact h.row0.ndk j x e
 ·have e1:(d.A0.set st.mv.toNat b')[i]?=some b:=e1
  have e2:(d.A0.set st.mv.toNat b')[j]?=some b:=e2
  rcases cR e1 with⟨q,y1⟩|⟨q,f1⟩<;>rcases cR e2 with⟨q2,y2⟩|⟨q2,f2⟩
  ·exact q.symm.trans q2
  ·rw[y1]at f2;exact absurd (Q1 f2) nA0
  ·rw[y2]at f1;exact absurd (Q1 f1) nA0
  ·exact h.row0.inj i j b f1 f2
 ·rcases cR e with⟨_,rfl⟩|⟨_,e⟩
  ·cases hp
  ·exact h.row0.home j x e p hp
 ·show match st.nxt with|none=>_|some m=>_
  rw[em]
  exact hr
 ·obtain⟨j,hj,e⟩:=Qy (show b∈d.A0.set st.mv.toNat b' from hb0)
  rcases cR (Q2.mpr ⟨hj,e⟩)with⟨_,rfl⟩|⟨_,e⟩
  ·exact nA1 hb1
  ·exact h.dis b (Q1 e) hb1
 ·rw[hmv]at lt
  rcases cR e with⟨_,rfl⟩|⟨q,e⟩
  ·rfl
  ·exact h.old j x e (by omega)
 ·rw[hmv]
  show p.1%65536%st.size<st.mv+1
  obtain⟨y,ey⟩:∃y,d.C1[j]?=some y:=by
   have hj:j<(kv.foldl (eI m) d.C1).length:=(Q2.mp e).1
   rw[yb]at hj
   exact⟨_,Q3 hj⟩
  obtain⟨x',e',hp',_⟩:=uG (m:=m) (h.row0.ndk _ _ ek) ey
  have e:(kv.foldl (eI m) d.C1)[j]?=some x:=e
  rw[e]at e'
  cases e'
  rcases hp' p hp with q|q
  ·have:=h.new j y ey p q
   omega
  ·obtain⟨p',hp',e3⟩:=Qg.mp q
   have:=h.row0.home _ _ ek p' hp'
   rw[e3]at this
   omega
 ·show aL x k=aL st.kv k
  rcases ic with⟨g0,f1,f2⟩|⟨m',em',g0,f1,f2⟩
  ·rw[hmv]at g0
   have g0:st.mv+1≤k%65536%st.size:=g0
   have f1:(d.A0.set st.mv.toNat b')[(k%65536%st.size).toNat]?=some c:=f1
   have f2:(d.C0.set st.mv.toNat [])[(k%65536%st.size).toNat]?=some x:=f2
   rcases cR f1 with⟨q,_⟩|⟨_,f1⟩
   ·omega
   ·rcases cR f2 with⟨q,_⟩|⟨_,f2⟩
    ·omega
    ·exact h.val k c x (.inl ⟨by omega,f1,f2⟩)
  ·rw[hmv]at g0
   have em':st.nxt=some m':=em'
   rw[em]at em'
   cases em'
   have g0:k%65536%st.size<st.mv+1:=g0
   exact h.movVal z em ek (by omega) f2
theorem SlB.last (h:SlB t H a st d) (z:SzOk st) {m:Int} (em:st.nxt=some m) {kv:List (Int×V)} (ek:d.C0[st.mv.toNat]?=some kv) {tb' dx:Addr} (l:st.mv+1=st.size)
  (ha:H' a=some (.ins t.aT dx (slF tb' 0 d.n))) (ht:H' tb'=some (.lst [.ref d.r1])) (hn:tb'≠d.r1) (hr:RowOk H' d.r1 d.A1 (kv.foldl (eI m) d.C1) m):
  SlB t H' a st.one ⟨tb',d.r1,d.r1,d.A1,[],kv.foldl (eI m) d.C1,[],d.n⟩:=by
 have hone:st.one={st with size:=m,nxt:=none,mv:=0}:=by unfold SSt.one;rw[em];exact if_pos l
 obtain⟨s4,_⟩:=bH z.pw
 rw[hone]
 refine⟨⟨dx,ha⟩,ht,hr,⟨rfl,rfl⟩,(λb _ q=>by cases q),hn,(λq=>by cases q),λj x e lt=>?_,(λj x e=>by simp at e),λk c x ic=>?_⟩
 ·have lt:(j:Int)<0:=lt
  omega
 ·rcases ic with⟨g0,f1,f2⟩|⟨m',em',_⟩
  ·have f2:(kv.foldl (eI m) d.C1)[(k%65536%m).toNat]?=some x:=f2
   obtain⟨m0,m1,m2⟩:=nN (k:=k) s4
   exact h.movVal z em ek (by omega) f2
  ·cases em'
theorem SlB.begin (h:SlB t H a st d) (en:st.nxt=none) {m:Int} {r:Addr} {A:List Addr} (ha:H' a=H a) (ht:H' d.tb=some (.lst [.ref d.r0,.ref r])) (h0:∀b,b=d.r0∨b∈d.A0→H' b=H b)
  (hr:RowOk H' r A (List.replicate m.toNat []) m) (nr:¬SlF a st d r) (nA:∀b∈A,¬SlF a st d b):SlB t H' a {st with nxt:=some m,mv:=0} {d with r1:=r,A1:=A,C1:=List.replicate m.toNat []}:=by
 obtain⟨dx,ho⟩:=h.obj
 have hm:=SSt.moved_none en
 refine⟨⟨dx,by rw[ha];rw[hm]at ho;exact ho⟩,ht,h.row0.frame h0,hr,λb q q2=>nA b q2 (.inr (.inr (.inr (.inl q)))),h.tr,λ_=>⟨λq=>nr (.inr (.inl q.symm)),λq=>nr (.inr (.inr (.inl q.symm)))⟩,λj x e lt=>?_,λj x e p hp=>?_,λk c x ic=>?_⟩
 ·have lt:(j:Int)<0:=lt
  omega
 ·have:=Zm (Q1 e)
  subst this
  cases hp
 ·rcases ic with⟨g0,f1,f2⟩|⟨m',em',g0,f1,f2⟩
  ·refine h.val k c x (.inl ⟨?_,f1,f2⟩)
   rw[hm]
   exact g0
  ·have g0:k%65536%st.size<0:=g0
   have f2:(List.replicate m.toNat ([]:List (Int×V)))[(k%65536%m').toNat]?=some x:=f2
   have:0≤k%65536%st.size:=by
    have hpos:(0:Int)≤st.size:=by rw[←h.row0.la];omega
    rcases Int.lt_or_eq_of_le hpos with q|q
    ·exact Qd _ (by omega)
    ·rw[←q,Int.emod_zero];exact Qd _ (by decide)
   omega
theorem SlB.fresh {dx tb r:Addr} {A:List Addr} (ha:H a=some (.ins t.aT dx (slF tb 0 0))) (ht:H tb=some (.lst [.ref r])) (hr:RowOk H r A (List.replicate 4 []) 4) (n:tb≠r):SlB t H a SSt.new ⟨tb,r,r,A,[],List.replicate 4 [],[],0⟩:=by
 refine⟨⟨dx,ha⟩,ht,hr,⟨rfl,rfl⟩,(λb _ q=>by cases q),n,(λq=>by cases q),λj x e lt=>?_,(λj x e=>by simp at e),λk c x ic=>?_⟩
 ·have lt:(j:Int)<0:=lt
  omega
 ·rcases ic with⟨g0,f1,f2⟩|⟨m',em',_⟩
  ·have f2:(List.replicate 4 ([]:List (Int×V)))[(k%65536%4).toNat]?=some x:=f2
   have:=Zm (Q1 f2)
   subst this
   rfl
  ·cases em'
theorem SlB.short (h:SlB t H a st d) (z:SzOk st) {k:Int} {c:Addr} {kv:List (Int×V)} (ic:IsCell d st k c kv):kv.length≤st.kv.length:=by
 obtain⟨_,_,nd⟩:=h.at ic
 have sub:∀x∈kv.map (·.1),x∈st.kv.map (·.1):=λx hx=>by
  obtain⟨p,hp,e⟩:=Qg.mp hx
  subst e
  refine mem_keys.mpr ?_
  have hs:=CK hp
  have:∃c',IsCell d st p.1 c' kv:=by
   rcases ic with⟨g0,f1,f2⟩|⟨m,em,g0,f1,f2⟩
   ·obtain⟨s4,_⟩:=bH z.pw
    obtain⟨m0,m1,m2⟩:=nN (k:=k) s4
    have e:=h.row0.home _ _ f2 p hp
    rw[m2]at e
    exact⟨c,.inl ⟨by rw[e];exact g0,by rw[e];exact f1,by rw[e];exact f2⟩⟩
   ·obtain⟨pm,_⟩:=z.nx m em
    obtain⟨s5,_⟩:=bH pm
    obtain⟨n0,n1,n2⟩:=nN (k:=k) s5
    have r1:=h.row1
    rw[em]at r1
    have e:=r1.home _ _ f2 p hp
    rw[n2]at e
    exact⟨c,.inr ⟨m,em,h.new _ _ f2 p hp,by rw[e];exact f1,by rw[e];exact f2⟩⟩
  obtain⟨c',ic'⟩:=this
  rw[←h.val p.1 c' kv ic']
  exact hs
 have:=hJ nd sub
 rw[Q0,Q0]at this
 exact this
end
theorem vM {m:Int}:∀{kv:List (Int×V)} {C:List (List (Int×V))} {j:Nat} {x y:List (Int×V)},C[j]?=some y→(kv.foldl (eI m) C)[j]?=some x→x.length≤y.length+kv.length
 | [],C,j,x,y,e,f=>by
  have f:C[j]?=some x:=f
  rw[e]at f
  cases f
  exact Q5 _
 |p::r,C,j,x,y,e,f=>by
  have h:=vM (m:=m) (vN (m:=m) (p:=p) e) f
  have l:=bX y p.1 p.2
  rw[Qp]
  split at h<;>omega
section
variable {t:Adr} {H H':Hp} {a:Addr} {st:SSt} {d:SlD}
theorem SlB.short0 (h:SlB t H a st d) (z:SzOk st) {j:Nat} {kv:List (Int×V)} (e:d.C0[j]?=some kv):kv.length≤st.kv.length:=by
 cases kv with
 |nil=>exact Qf _
 |cons p r=>
  have hp:=h.row0.home j _ e p Qj
  have nj:¬(j:Int)<st.moved:=λq=>by have:=h.old j _ e q;cases this
  have ej:(p.1%65536%st.size).toNat=j:=by omega
  have hj:j<d.A0.length:=by
   have:=h.row0.la
   have:=h.row0.lc
   have:=(Q2.mp e).1
   omega
  exact h.short z (k:=p.1) (c:=d.A0[j]) (.inl ⟨by omega,by rw[ej];exact Q3 hj,by rw[ej];exact e⟩)
theorem SlB.short1 (h:SlB t H a st d) (z:SzOk st) {m:Int} (em:st.nxt=some m) {j:Nat} {kv:List (Int×V)} (e:d.C1[j]?=some kv):kv.length≤st.kv.length:=by
 have r1:=h.row1
 rw[em]at r1
 cases kv with
 |nil=>exact Qf _
 |cons p r=>
  have hp:=r1.home j _ e p Qj
  have nj:=h.new j _ e p Qj
  have ej:(p.1%65536%m).toNat=j:=by omega
  have hj:j<d.A1.length:=by
   have:=r1.la
   have:=r1.lc
   have:=(Q2.mp e).1
   omega
  exact h.short z (k:=p.1) (c:=d.A1[j]) (.inr ⟨m,em,nj,by rw[ej];exact Q3 hj,by rw[ej];exact e⟩)
end
theorem SzOk.new:SzOk SSt.new:=⟨by decide,λm e=>by cases e⟩
theorem SzOk.kv {st:SSt} {kvs:List (Int×V)} (z:SzOk st):SzOk {st with kv:=kvs}:=⟨z.pw,z.nx⟩
theorem SzOk.one {st:SSt} (z:SzOk st):SzOk st.one:=by
 unfold SSt.one
 cases e:st.nxt with
 |none=>exact z
 |some m=>
  obtain⟨pm,v0,v1,hh⟩:=z.nx m e
  show SzOk (if _ then _ else _)
  split
  ·exact⟨pm,λm' q=>by cases q⟩
  ·rename_i c
   refine⟨z.pw,λm' q=>?_⟩
   have q:some m=some m':=q
   cases q
   exact⟨pm,by show 0≤st.mv+1;omega,by show st.mv+1<st.size;omega,hh⟩
theorem Fy {x:Int} (h:x∈([4,8,16,32,64,128,256]:List Int)) (c:x<256):2*x∈([4,8,16,32,64,128,256]:List Int):=by
 rcases ju h with rfl|rfl|rfl|rfl|rfl|rfl|rfl<;>first|decide|exact absurd c (by decide)
theorem DB {x:Int} (h:x∈([4,8,16,32,64,128,256]:List Int)) (c:4<x):x/2∈([4,8,16,32,64,128,256]:List Int)∧2*(x/2)=x:=by
 rcases ju h with rfl|rfl|rfl|rfl|rfl|rfl|rfl<;>first|decide|exact absurd c (by decide)
theorem DA {x:Int} (h:x∈([4,8,16,32,64,128,256]:List Int)):0<x:=by
 rcases ju h with rfl|rfl|rfl|rfl|rfl|rfl|rfl<;>decide
theorem SzOk.three {st:SSt} (z:SzOk st):SzOk st.three:=by
 unfold SSt.three
 cases e:st.nxt with
 |some m=>exact z
 |none=>
  show SzOk (if _ then _ else _)
  split
  ·rename_i c
   refine⟨z.pw,λm' q=>?_⟩
   cases q
   exact⟨Fy z.pw c.2,Zy _,DA z.pw,.inl rfl⟩
  ·split
   ·rename_i c
    refine⟨z.pw,λm' q=>?_⟩
    cases q
    exact⟨(DB z.pw c.2).1,Zy _,DA z.pw,.inr (DB z.pw c.2).2⟩
   ·exact z
def SlA (_K:PySem.W.Frag) (t:Adr) (H:Hp) (a:Addr) (F:Addr→Prop) (st:SSt):Prop:=
 ∃d,SlB t H a st d∧(∀b,F b↔SlF a st d b)∧d.n=(st.kv.length:Int)∧(st.kv.map (·.1)).Nodup∧SzOk st
section
variable {K:PySem.W.Frag} {t:Adr} {H H':Hp} {a b:Addr} {F:Addr→Prop} {st:SSt}
theorem SlA.ins (h:SlA K t H a F st):∃dx fs,H a=some (.ins t.aT dx fs)∧∀m,NoM m→fs.lookup m=none:=by
 obtain⟨d,hb,_⟩:=h
 obtain⟨dx,ho⟩:=hb.obj
 exact⟨dx,_,ho,λm hm=>Dy hm⟩
theorem SlA.dom (h:SlA K t H a F st) (hb:F b):∃o,H b=some o:=by
 obtain⟨d,h1,h2,_⟩:=h
 exact h1.dom ((h2 b).mp hb)
theorem SlA.frame (h:SlA K t H a F st) (f:∀b,F b→H' b=H b):SlA K t H' a F st:=by
 obtain⟨d,h1,h2,h3⟩:=h
 exact⟨d,h1.frame λb hb=>f b ((h2 b).mpr hb),h2,h3⟩
end
section
variable {K:PySem.W.Frag} {t:Adr} {H H':Hp} {a b p:Addr} {F:Addr→Prop} {st:SSt} {o:HO}
theorem SlA.same (h:SlA K t H a F st) (s:Same H H'):SlA K t H' a F st:=h.frame λb hb=>by
 obtain⟨o,e⟩:=h.dom hb
 rw[e]
 exact s b o e
theorem SlA.out (h:SlA K t H a F st) (e:H p=none):¬F p:=λz=>by
 obtain⟨o,q⟩:=h.dom z
 rw[q]at e
 cases e
theorem SlA.upd (h:SlA K t H a F st) (e:¬F p):SlA K t (L2.upd H p o) a F st:=h.frame λb hb=>ae λz=>e (z▸hb)
theorem SlA.new (h:SlA K t H a F st) (e:H p=none):SlA K t (L2.upd H p o) a F st:=h.upd (h.out e)
end
def pO (K:PySem.W.Frag) (t:Adr):Sp:=λvs H Q _=>∃(a dx:Addr),vs=[.ref a]∧H a=some (.ins t.aT dx [])∧H dx=some (.own a)∧∀H' F,SlA K t H' a F SSt.new→Fr (λb=>b=a∨b=dx) F H H'→Q .non H'
def rH (K:PySem.W.Frag) (t:Adr):Sp:=λvs H Q _=>∃(a:Addr) (k i:Int) (F:Addr→Prop) (st:SSt),vs=[.ref a,.int k,.int i]∧SlA K t H a F st∧0≤k∧st.kv.length<4096∧
 ∀H' F',SlA K t H' a F' (st.put k (.int i))→Fr F F' H H'→Q .non H'
def pP (K:PySem.W.Frag) (t:Adr):Sp:=λvs H Q E=>∃(a:Addr) (k:Int) (F:Addr→Prop) (st:SSt),vs=[.ref a,.int k]∧SlA K t H a F st∧0≤k∧
 ((aL st.kv k).isSome=true→st.kv.length<4096∧∀H' F',SlA K t H' a F' (st.drop k)→Fr F F' H H'→Q .non H')∧(aL st.kv k=none→False)
def rK (K:PySem.W.Frag) (t:Adr):Sp:=λvs H Q E=>∃(a:Addr) (k:Int) (F:Addr→Prop) (st:SSt),vs=[.ref a,.int k]∧SlA K t H a F st∧0≤k∧
 (∀v,aL st.kv k=some v→∀H' F',SlA K t H' a F' st→Fr F F' H H'→Q v H')∧(aL st.kv k=none→False)
def rJ (K:PySem.W.Frag) (t:Adr):Sp:=λvs H Q _=>∃(a:Addr) (k:Int) (F:Addr→Prop) (st:SSt),vs=[.ref a,.int k]∧SlA K t H a F st∧0≤k∧
 ∀H' F',SlA K t H' a F' st→Fr F F' H H'→Q (.bl (aL st.kv k).isSome) H'
def pN (K:PySem.W.Frag) (t:Adr):Sp:=λvs H Q _=>∃(a:Addr) (F:Addr→Prop) (st:SSt),vs=[.ref a]∧SlA K t H a F st∧
 ∀H' F' l,SlA K t H' a F' st→Fr F F' H H'→H l=none→¬F' l→H' l=some (.lst (st.rows.map V.int))→Q (.ref l) H'
def cP (l:List Int):Prop:=l.Pairwise (· < ·)
structure LvOk (ls:List (List Int)):Prop where
 ne:∀l∈ls,l≠[]
 le:∀l∈ls,l.length≤8
 nb:∀(i:Nat) (x y:List Int),ls[i]?=some x→ls[i+1]?=some y→5≤x.length+y.length
 up:cP ls.flatten
theorem LvOk.nil:LvOk []:=⟨(λ_ h=>by cases h),(λ_ h=>by cases h),(λi x y e=>by simp at e),List.Pairwise.nil⟩
theorem EU {ls:List (List Int)} {i:Nat} {x:List Int} (e:ls[i]?=some x):ls=ls.take i++x::ls.drop (i+1):=by
 obtain⟨h,e⟩:=Q2.mp e
 rw[←e,←QY h,QN]
theorem eZ {ls:List (List Int)} {i:Nat} {x:List Int} (e:ls[i]?=some x):ls.flatten=(ls.take i).flatten++(x++(ls.drop (i+1)).flatten):=by
 conv=>lhs;rw[EU e]
 rw[Z8,Z7]
theorem rise3 {a b c:List Int}:cP (a++(b++c))↔cP a∧cP b∧cP c∧(∀x∈a,∀y∈b,x<y)∧(∀x∈a,∀y∈c,x<y)∧∀x∈b,∀y∈c,x<y:=by
 unfold cP
 rw[Qk,Qk]
 constructor
 ·rintro ⟨h1,⟨h2,h3,h4⟩,h5⟩
  exact⟨h1,h2,h3,λx hx y hy=>h5 x hx y (ZT _ hy),λx hx y hy=>h5 x hx y (Qt _ hy),h4⟩
 ·rintro ⟨h1,h2,h3,h4,h5,h6⟩
  refine⟨h1,⟨h2,h3,h6⟩,λx hx y hy=>?_⟩
  rcases Q4.mp hy with z|z
  ·exact h4 x hx y z
  ·exact h5 x hx y z
structure LeafOf (ls:List (List Int)) (k:Int) (i:Nat):Prop where
 le:i≤ls.length
 lo:∀(j:Nat) (x:List Int),j<i→ls[j]?=some x→∀y∈x,y<k
 hi:∀x,ls[i]?=some x→∃y∈x,k≤y
theorem vi {ls:List (List Int)} {i:Nat} {y:Int} (h:y∈(ls.take i).flatten):∃(j:Nat) (x:List Int),j<i∧ls[j]?=some x∧y∈x:=by
 obtain⟨x,hx,hy⟩:=XD.mp h
 obtain⟨j,hj,e⟩:=Qy hx
 rw[Q7]at hj
 rw[Zl]at e
 exact⟨j,x,by omega,Q2.mpr ⟨by omega,e⟩,hy⟩
theorem LeafOf.ahead {ls:List (List Int)} {k:Int} {i:Nat} (h:LeafOf ls k i):∀y∈(ls.take i).flatten,y<k:=λy hy=>by
 obtain⟨j,x,hj,e,hx⟩:=vi hy
 exact h.lo j x hj e y hx
theorem LeafOf.behind {ls:List (List Int)} {k:Int} {i:Nat} (o:LvOk ls) (h:LeafOf ls k i):∀y∈(ls.drop (i+1)).flatten,k<y:=λy hy=>by
 cases e:ls[i]? with
 |none=>
  have:ls.length≤i:=Zh.mp e
  rw[Z9 (by omega)]at hy
  cases hy
 |some x=>
  obtain⟨z,hz,le⟩:=h.hi x e
  have up:=o.up
  rw[eZ e]at up
  have:=(rise3.mp up).2.2.2.2.2 z hz y hy
  omega
theorem LeafOf.mem {ls:List (List Int)} {k:Int} {i:Nat} (o:LvOk ls) (h:LeafOf ls k i):k∈ls.flatten↔∃x,ls[i]?=some x∧k∈x:=by
 constructor
 ·intro hk
  cases e:ls[i]? with
  |none=>
   have l:ls.length≤i:=Zh.mp e
   have:ls.take i=ls:=Qz l
   have:=h.ahead k (by rw[this];exact hk)
   omega
  |some x=>
   rw[eZ e]at hk
   rcases Q4.mp hk with z|z
   ·have:=h.ahead k z;omega
   ·rcases Q4.mp z with z|z
    ·exact⟨x,rfl,z⟩
    ·have:=h.behind o k z;omega
 ·rintro ⟨x,e,hk⟩
  exact XD.mpr ⟨x,Q1 e,hk⟩
theorem wn:∀{l:List Int} {k:Int},cP l→k∉l→(∀x∈l.take (l.filter (λz=>decide (z<k))).length,x<k)∧∀x∈l.drop (l.filter (λz=>decide (z<k))).length,k<x
 | [],k,_,_=>⟨λx h=>by simp at h,λx h=>by simp at h⟩
 |a::r,k,up,nk=>by
  obtain⟨h1,h2⟩:=X1.mp up
  have nr:k∉r:=λz=>nk (Qh _ z)
  have na:a≠k:=λz=>nk (by rw[z];exact Qj)
  by_cases c:a<k
  ·obtain⟨i1,i2⟩:=wn h2 nr
   rw[ZO,if_pos (by simpa using c),Qp,Xn,List.drop_succ_cons]
   refine⟨λx hx=>?_,i2⟩
   rcases Qm.mp hx with rfl|hx
   ·exact c
   ·exact i1 x hx
  ·have:(a::r).filter (λz=>decide (z<k))=[]:=by
    rw[ZM]
    intro x hx
    rcases Qm.mp hx with rfl|hx
    ·simpa using c
    ·have:=h1 x hx
     simp
     omega
   rw[this]
   refine⟨λx hx=>by simp at hx,λx hx=>?_⟩
   have hx:x∈a::r:=by simpa using hx
   rcases Qm.mp hx with rfl|hx
   ·omega
   ·have:=h1 x hx;omega
def eC (l:List Int) (k:Int):List Int:=l.take (l.filter (λz=>decide (z<k))).length++k::l.drop (l.filter (λz=>decide (z<k))).length
theorem AS {l:List Int} {k:Int}:(eC l k).length=l.length+1:=by
 have h:=Qn (λz=>decide (z<k)) l
 unfold eC
 rw[Q8,Qp,Q7,QG]
 omega
theorem insL_mem {l:List Int} {k x:Int}:x∈eC l k↔x=k∨x∈l:=by
 unfold eC
 rw[Q4,Qm]
 have:x∈l↔x∈l.take (l.filter (λz=>decide (z<k))).length∨x∈l.drop (l.filter (λz=>decide (z<k))).length:=by
  rw[←Q4,QN]
 rw[this]
 constructor
 ·rintro (h|h|h)
  ·exact .inr (.inl h)
  ·exact .inl h
  ·exact .inr (.inr h)
 ·rintro (h|h|h)
  ·exact .inr (.inl h)
  ·exact .inl h
  ·exact .inr (.inr h)
theorem zm {l:List Int} {k:Int} (up:cP l) (nk:k∉l):cP (eC l k):=by
 obtain⟨h1,h2⟩:=wn up nk
 have up':cP (l.take (l.filter (λz=>decide (z<k))).length++l.drop (l.filter (λz=>decide (z<k))).length):=by rw[QN];exact up
 obtain⟨u1,u2,u3⟩:=Qk.mp up'
 unfold eC
 refine Qk.mpr ⟨u1,X1.mpr ⟨h2,u2⟩,λx hx y hy=>?_⟩
 rcases Qm.mp hy with rfl|hy
 ·exact h1 x hx
 ·exact u3 x hx y hy
structure AddAt (ls:List (List Int)) (k:Int) (i:Nat) (x:List Int):Prop where
 at_:ls[i]?=some x
 lo:∀y∈(ls.take i).flatten,y<k
 hi:∀y∈(ls.drop (i+1)).flatten,k<y
theorem LeafOf.add {ls:List (List Int)} {k:Int} {i:Nat} (o:LvOk ls) (h:LeafOf ls k i) (ne:ls≠[]):∃x,AddAt ls k (min i (ls.length-1)) x:=by
 have hl:0<ls.length:=QW.mpr ne
 by_cases c:i<ls.length
 ·have:min i (ls.length-1)=i:=by omega
  rw[this]
  exact⟨ls[i],Q3 c,h.ahead,h.behind o⟩
 ·have le:=h.le
  have:min i (ls.length-1)=ls.length-1:=by omega
  rw[this]
  have hlt:ls.length-1<ls.length:=by omega
  refine⟨ls[ls.length-1],Q3 hlt,λy hy=>?_,λy hy=>?_⟩
  ·obtain⟨j,x,hj,e,hx⟩:=vi hy
   exact h.lo j x (by omega) e y hx
  ·rw[Z9 (by omega)]at hy
   cases hy
theorem uq {ls:List (List Int)} {i:Nat} {x y:List Int} (e:ls[i]?=some x):ls.set i y=ls.take i++y::ls.drop (i+1):=by
 have hi:=(Q2.mp e).1
 rw[List.set_eq_take_append_cons_drop,if_pos hi]
theorem lY {ls:List (List Int)} {i:Nat} {x y:List Int} (e:ls[i]?=some x):(ls.set i y).flatten=(ls.take i).flatten++(y++(ls.drop (i+1)).flatten):=by
 rw[uq e,Z8,Z7]
theorem AddAt.set {ls:List (List Int)} {k:Int} {i:Nat} {x:List Int} (o:LvOk ls) (h:AddAt ls k i x) (nk:k∉ls.flatten):cP (ls.set i (eC x k)).flatten∧∀z,z∈(ls.set i (eC x k)).flatten↔z=k∨z∈ls.flatten:=by
 have up:=o.up
 rw[eZ h.at_]at up nk
 obtain⟨u1,u2,u3,u4,u5,u6⟩:=rise3.mp up
 have nx:k∉x:=λz=>nk (Qt _ (ZT _ z))
 rw[lY h.at_,eZ h.at_]
 refine⟨rise3.mpr ⟨u1,zm u2 nx,u3,λa ha b hb=>?_,u5,λa ha b hb=>?_⟩,λz=>?_⟩
 ·rcases insL_mem.mp hb with rfl|hb
  ·exact h.lo a ha
  ·exact u4 a ha b hb
 ·rcases insL_mem.mp ha with rfl|ha
  ·exact h.hi b hb
  ·exact u6 a ha b hb
 ·rw[Q4,Q4,Q4,Q4,insL_mem]
  constructor
  ·rintro (h|(h|h)|h)
   ·exact .inr (.inl h)
   ·exact .inl h
   ·exact .inr (.inr (.inl h))
   ·exact .inr (.inr (.inr h))
  ·rintro (h|h|h|h)
   ·exact .inr (.inl (.inl h))
   ·exact .inl h
   ·exact .inr (.inl (.inr h))
   ·exact .inr (.inr h)
theorem mE {ls:List (List Int)} {i j:Nat} {x y z:List Int} (e:ls[i]?=some x) (f:(ls.set i y)[j]?=some z):(i=j∧z=y)∨(i≠j∧ls[j]?=some z):=by
 rw[Qv]at f
 by_cases c:i=j
 ·rw[if_pos c]at f
  split at f
  ·cases f;exact .inl ⟨c,rfl⟩
  ·cases f
 ·rw[if_neg c]at f
  exact .inr ⟨c,f⟩
theorem pj {ls:List (List Int)} {i:Nat} {x y z:List Int} (e:ls[i]?=some x) (h:z∈ls.set i y):z=y∨z∈ls:=by
 obtain⟨j,hj,ez⟩:=Qy h
 rcases mE e (Q2.mpr ⟨hj,ez⟩)with⟨_,q⟩|⟨_,q⟩
 ·exact .inl q
 ·exact .inr (Q1 q)
theorem LvOk.grown {ls:List (List Int)} {i:Nat} {x y:List Int} (o:LvOk ls) (e:ls[i]?=some x) (l1:x.length≤y.length) (l2:y.length≤8) (up:cP (ls.set i y).flatten):LvOk (ls.set i y):=by
 have hx:=o.ne x (Q1 e)
 have px:0<x.length:=QW.mpr hx
 refine⟨λl hl=>?_,λl hl=>?_,λj a b f g=>?_,up⟩
 ·rcases pj e hl with rfl|hl
  ·exact Zi (by omega)
  ·exact o.ne l hl
 ·rcases pj e hl with rfl|hl
  ·exact l2
  ·exact o.le l hl
 ·rcases mE e f with⟨c,h1⟩|⟨c,f1⟩<;>rcases mE e g with⟨c',h2⟩|⟨c',g1⟩
  ·omega
  ·subst c
   have:=o.nb i x b e g1
   rw[h1]
   omega
  ·rw[c']at e
   have:=o.nb j a x f1 e
   rw[h2]
   omega
  ·exact o.nb j a b f1 g1
theorem LvOk.parted {ls:List (List Int)} {i:Nat} {x a b:List Int} (o:LvOk ls) (e:ls[i]?=some x) (la:a.length=4) (lb:b.length=5) (up:cP (ls.set i (a++b)).flatten):
  LvOk ((ls.set i a).take (i+1)++b::(ls.set i a).drop (i+1))∧((ls.set i a).take (i+1)++b::(ls.set i a).drop (i+1)).flatten=(ls.set i (a++b)).flatten:=by
 have hi:=(Q2.mp e).1
 have lt:(ls.take i).length=i:=by rw[Q7];omega
 have e1:(ls.set i a).take (i+1)++b::(ls.set i a).drop (i+1)=ls.take i++a::b::ls.drop (i+1):=by
  rw[uq (y:=a) e]
  have h1:(ls.take i++a::ls.drop (i+1)).take (i+1)=ls.take i++ [a]:=by
   rw[List.take_append,lt,Qz (by omega)]
   have:i+1-i=1:=by omega
   rw[this]
   rfl
  have h2:(ls.take i++a::ls.drop (i+1)).drop (i+1)=ls.drop (i+1):=by
   rw[List.drop_append,lt,Z9 (by omega)]
   have:i+1-i=1:=by omega
   rw[this]
   rfl
  rw[h1,h2,Qo]
  rfl
 have e2:(ls.take i++a::b::ls.drop (i+1)).flatten=(ls.set i (a++b)).flatten:=by
  rw[lY e,Z8,Z7,Z7,Qo]
 rw[e1]
 refine⟨⟨λl hl=>?_,λl hl=>?_,λj p q f g=>?_,by rw[e2];exact up⟩,e2⟩
 ·rcases Q4.mp hl with h|h
  ·exact o.ne l (Z4 h)
  ·rcases Qm.mp h with rfl|h
   ·exact Zi (by omega)
   ·rcases Qm.mp h with rfl|h
    ·exact Zi (by omega)
    ·exact o.ne l (ZV h)
 ·rcases Q4.mp hl with h|h
  ·exact o.le l (Z4 h)
  ·rcases Qm.mp h with rfl|h
   ·omega
   ·rcases Qm.mp h with rfl|h
    ·omega
    ·exact o.le l (ZV h)
 ·have look:∀(j:Nat) (p:List Int),(ls.take i++a::b::ls.drop (i+1))[j]?=some p→(j<i∧ls[j]?=some p)∨(j=i∧p=a)∨(j=i+1∧p=b)∨(i+2≤j∧ls[j-1]?=some p):=λj p f=>by
   rw[Xi,lt]at f
   split at f
   ·rename_i c
    rw[List.getElem?_take,if_pos c]at f
    exact .inl ⟨c,f⟩
   ·rename_i c
    rcases(show j=i∨j=i+1∨i+2≤j by omega)with rfl|rfl|h
    ·have:j-j=0:=by omega
     rw[this]at f
     cases f
     exact .inr (.inl ⟨rfl,rfl⟩)
    ·have:i+1-i=1:=by omega
     rw[this]at f
     cases f
     exact .inr (.inr (.inl ⟨rfl,rfl⟩))
    ·obtain⟨n,rfl⟩:∃n,j=i+2+n:=⟨j-(i+2),by omega⟩
     have:i+2+n-i=n+1+1:=by omega
     rw[this,X7,X7,ZZ]at f
     refine .inr (.inr (.inr ⟨h,?_⟩))
     have:i+2+n-1=i+1+n:=by omega
     rw[this]
     exact f
  have pos:∀(j:Nat) (p:List Int),ls[j]?=some p→1≤p.length:=λj p f=>QW.mpr (o.ne p (Q1 f))
  rcases look j p f with⟨c,f1⟩|⟨c,h1⟩|⟨c,h1⟩|⟨c,f1⟩<;>rcases look (j+1) q g with⟨c',g1⟩|⟨c',h2⟩|⟨c',h2⟩|⟨c',g1⟩<;>(try rw[h1])<;>(try rw[h2])<;>(try omega)
  ·exact o.nb j p q f1 g1
  ·have:=pos j p f1;omega
  ·have:j+1-1=j-1+1:=by omega
   rw[this]at g1
   exact o.nb (j-1) p q f1 g1
def lvF (L:Addr):List (Str×V):=[("leaves",.ref L)]
theorem cc {L:Addr}:(lvF L).lookup ("leaves":Str)=some (.ref L):=by
 have hb:(("leaves":Str)==("leaves":Str))=true:=beq_iff_eq.mpr rfl
 unfold lvF
 simp only[List.lookup,hb]
theorem DK {L:Addr} {m:Str} (h:m≠("leaves":Str)):(lvF L).lookup m=none:=by
 have hb:(m==("leaves":Str))=false:=beq_eq_false_iff_ne.mpr h
 unfold lvF
 simp only[List.lookup,hb]
structure LvB (t:Adr) (H:Hp) (a L:Addr) (A:List Addr) (ls:List (List Int)):Prop where
 obj:∃dx,H a=some (.ins t.bn dx (lvF L))
 lst:H L=some (.lst (A.map V.ref))
 len:A.length=ls.length
 leaf:∀(j:Nat) (b:Addr) (l:List Int),A[j]?=some b→ls[j]?=some l→H b=some (.lst (l.map V.int))
 inj:∀(i j:Nat) (b:Addr),A[i]?=some b→A[j]?=some b→i=j
 nL:L∉A
def LvF (a L:Addr) (A:List Addr):Addr→Prop:=λb=>b=a∨b=L∨b∈A
section
variable {t:Adr} {H H':Hp} {a L b:Addr} {A:List Addr} {ls:List (List Int)}
theorem LvB.at (h:LvB t H a L A ls) {i:Nat} {x:List Int} (e:ls[i]?=some x):∃c,A[i]?=some c∧H c=some (.lst (x.map V.int)):=by
 have hi:i<A.length:=by rw[h.len];exact(Q2.mp e).1
 exact⟨A[i],Q3 hi,h.leaf i _ x (Q3 hi) e⟩
theorem LvB.has (h:LvB t H a L A ls) (hb:b∈A):∃(j:Nat) (l:List Int),A[j]?=some b∧ls[j]?=some l∧H b=some (.lst (l.map V.int)):=by
 obtain⟨j,hj,e⟩:=Qy hb
 have hc:j<ls.length:=by rw[←h.len];exact hj
 have e1:A[j]?=some b:=by rw[Q3 hj,e]
 exact⟨j,ls[j],e1,Q3 hc,h.leaf j b _ e1 (Q3 hc)⟩
theorem LvB.frame (h:LvB t H a L A ls) (f:∀b,LvF a L A b→H' b=H b):LvB t H' a L A ls:=by
 obtain⟨dx,ho⟩:=h.obj
 exact⟨⟨dx,by rw[f a (.inl rfl)];exact ho⟩,by rw[f L (.inr (.inl rfl))];exact h.lst,h.len,λj b l e1 e2=>by rw[f b (.inr (.inr (Q1 e1)))];exact h.leaf j b l e1 e2,h.inj,h.nL⟩
theorem LvB.dom (h:LvB t H a L A ls) (hb:LvF a L A b):∃o,H b=some o:=by
 obtain⟨dx,ho⟩:=h.obj
 rcases hb with rfl|rfl|hb
 ·exact⟨_,ho⟩
 ·exact⟨_,h.lst⟩
 ·obtain⟨_,_,_,_,q⟩:=h.has hb
  exact⟨_,q⟩
theorem LvB.same (h:LvB t H a L A ls) (s:Same H H'):LvB t H' a L A ls:=h.frame λb hb=>by
 obtain⟨o,e⟩:=h.dom hb
 rw[e,s b o e]
theorem LvB.out (h:LvB t H a L A ls) {p:Addr} (n:H p=none):¬LvF a L A p:=λz=>by
 obtain⟨o,e⟩:=h.dom z
 rw[n]at e
 cases e
theorem LvB.write (h:LvB t H a L A ls) {i:Nat} {c:Addr} {x y:List Int} (ec:A[i]?=some c) (ex:ls[i]?=some x):LvB t (upd H c (.lst (y.map V.int))) a L A (ls.set i y):=by
 obtain⟨dx,ho⟩:=h.obj
 have hc:=h.leaf i c x ec ex
 have cA:=Q1 ec
 refine⟨⟨dx,by rw[ae (bZ ho hc (by intro z;cases z))];exact ho⟩,by rw[ae (λz=>h.nL (by rw[z];exact cA))];exact h.lst,by rw[QH];exact h.len,λj b l e1 e2=>?_,h.inj,h.nL⟩
 rw[Qv]at e2
 by_cases z:i=j
 ·subst z
  rw[ec]at e1
  cases e1
  rw[if_pos rfl]at e2
  split at e2
  ·cases e2;exact ag
  ·cases e2
 ·rw[if_neg z]at e2
  rw[ae (λy=>z (h.inj i j c ec (by rw[←y];exact e1)))]
  exact h.leaf j b l e1 e2
theorem LvB.swap (h:LvB t H a L A ls) {i:Nat} {c n:Addr} {x y:List Int} (ec:A[i]?=some c) (ex:ls[i]?=some x) (hn:H n=some (.lst (y.map V.int))) (nF:¬LvF a L A n):LvB t (upd H L (.lst ((A.set i n).map V.ref))) a L (A.set i n) (ls.set i y):=by
 obtain⟨dx,ho⟩:=h.obj
 have nA:n∉A:=λz=>nF (.inr (.inr z))
 have nL:n≠L:=λz=>nF (.inr (.inl z))
 refine⟨⟨dx,by rw[ae (bZ ho h.lst (by intro z;cases z))];exact ho⟩,ag,by rw[QH,QH];exact h.len,λj b l e1 e2=>?_,λj k b e1 e2=>?_,λz=>?_⟩
 ·rw[Qv]at e1 e2
  by_cases z:i=j
  ·rw[if_pos z]at e1 e2
   split at e1
   ·cases e1
    split at e2
    ·cases e2
     rw[ae nL];exact hn
    ·cases e2
   ·cases e1
  ·rw[if_neg z]at e1 e2
   rw[ae (λy=>h.nL (by rw[←y];exact Q1 e1))]
   exact h.leaf j b l e1 e2
 ·rw[Qv]at e1 e2
  by_cases z:i=j
  ·rw[if_pos z]at e1
   split at e1
   ·cases e1
    by_cases w:i=k
    ·exact z.symm.trans w
    ·rw[if_neg w]at e2
     exact absurd (Q1 e2) nA
   ·cases e1
  ·rw[if_neg z]at e1
   by_cases w:i=k
   ·rw[if_pos w]at e2
    split at e2
    ·cases e2
     exact absurd (Q1 e1) nA
    ·cases e2
   ·rw[if_neg w]at e2
    exact h.inj j k b e1 e2
 ·obtain⟨j,hj,e⟩:=Qy z
  have e1:=Q2.mpr ⟨hj,e⟩
  rw[Qv]at e1
  by_cases w:i=j
  ·rw[if_pos w]at e1
   split at e1
   ·cases e1;exact nL rfl
   ·cases e1
  ·rw[if_neg w]at e1
   exact h.nL (Q1 e1)
theorem ins_get {α:Type} {l:List α} {i j:Nat} {x y:α} (hi:i≤l.length) (e:(l.take i++x::l.drop i)[j]?=some y):(j<i∧l[j]?=some y)∨(j=i∧y=x)∨(i<j∧l[j-1]?=some y):=by
 have lt:(l.take i).length=i:=by rw[Q7];omega
 rw[Xi,lt]at e
 split at e
 ·rename_i c
  rw[List.getElem?_take,if_pos c]at e
  exact .inl ⟨c,e⟩
 ·rename_i c
  rcases(show j=i∨i<j by omega)with rfl|h
  ·have:j-j=0:=by omega
   rw[this]at e
   cases e
   exact .inr (.inl ⟨rfl,rfl⟩)
  ·obtain⟨n,rfl⟩:∃n,j=i+1+n:=⟨j-(i+1),by omega⟩
   have:i+1+n-i=n+1:=by omega
   rw[this,X7,ZZ]at e
   have:i+1+n-1=i+n:=by omega
   exact .inr (.inr ⟨h,by rw[this];exact e⟩)
theorem LvB.insert (h:LvB t H a L A ls) {i:Nat} {n:Addr} {y:List Int} (hi:i≤A.length) (hn:H n=some (.lst (y.map V.int))) (nF:¬LvF a L A n):
  LvB t (upd H L (.lst ((A.take i++n::A.drop i).map V.ref))) a L (A.take i++n::A.drop i) (ls.take i++y::ls.drop i):=by
 obtain⟨dx,ho⟩:=h.obj
 have nA:n∉A:=λz=>nF (.inr (.inr z))
 have nL:n≠L:=λz=>nF (.inr (.inl z))
 have hi2:i≤ls.length:=by rw[←h.len];exact hi
 refine⟨⟨dx,by rw[ae (bZ ho h.lst (by intro z;cases z))];exact ho⟩,ag,?_,λj b l e1 e2=>?_,λj k b e1 e2=>?_,λz=>?_⟩
 ·have:=h.len
  rw[Q8,Q8,Qp,Qp,Q7,Q7,QG,QG]
  omega
 ·rcases ins_get hi e1 with⟨c1,f1⟩|⟨c1,f1⟩|⟨c1,f1⟩<;>rcases ins_get hi2 e2 with⟨c2,f2⟩|⟨c2,f2⟩|⟨c2,f2⟩<;>(try omega)
  ·rw[ae (λy=>h.nL (by rw[←y];exact Q1 f1))]
   exact h.leaf j b l f1 f2
  ·rw[f1,f2,ae nL];exact hn
  ·rw[ae (λy=>h.nL (by rw[←y];exact Q1 f1))]
   exact h.leaf (j-1) b l f1 f2
 ·rcases ins_get hi e1 with⟨c1,f1⟩|⟨c1,f1⟩|⟨c1,f1⟩<;>rcases ins_get hi e2 with⟨c2,f2⟩|⟨c2,f2⟩|⟨c2,f2⟩
  ·exact h.inj j k b f1 f2
  ·rw[f2]at f1;exact absurd (Q1 f1) nA
  ·have:=h.inj _ _ b f1 f2;omega
  ·rw[f1]at f2;exact absurd (Q1 f2) nA
  ·omega
  ·rw[f1]at f2;exact absurd (Q1 f2) nA
  ·have:=h.inj _ _ b f1 f2;omega
  ·rw[f2]at f1;exact absurd (Q1 f1) nA
  ·have:=h.inj _ _ b f1 f2;omega
 ·rcases Q4.mp z with z|z
  ·exact h.nL (Z4 z)
  ·rcases Qm.mp z with z|z
   ·exact nL z.symm
   ·exact h.nL (ZV z)
theorem kf {α:Type} {l:List α} {i j:Nat} {y:α} (e:(l.eraseIdx i)[j]?=some y):(j<i∧l[j]?=some y)∨(i≤j∧l[j+1]?=some y):=by
 rw[List.getElem?_eraseIdx]at e
 split at e
 ·rename_i c;exact .inl ⟨c,e⟩
 ·rename_i c;exact .inr ⟨by omega,e⟩
theorem LvB.erase (h:LvB t H a L A ls) {i:Nat}:LvB t (upd H L (.lst ((A.eraseIdx i).map V.ref))) a L (A.eraseIdx i) (ls.eraseIdx i):=by
 obtain⟨dx,ho⟩:=h.obj
 refine⟨⟨dx,by rw[ae (bZ ho h.lst (by intro z;cases z))];exact ho⟩,ag,?_,λj b l e1 e2=>?_,λj k b e1 e2=>?_,λz=>h.nL (Z0 z)⟩
 ·rw[Xj,Xj,h.len]
 ·have bA:b∈A:=Z0 (Q1 e1)
  rw[ae (λy=>h.nL (by rw[←y];exact bA))]
  rcases kf e1 with⟨c1,f1⟩|⟨c1,f1⟩<;>rcases kf e2 with⟨c2,f2⟩|⟨c2,f2⟩<;>(try omega)
  ·exact h.leaf j b l f1 f2
  ·exact h.leaf (j+1) b l f1 f2
 ·rcases kf e1 with⟨c1,f1⟩|⟨c1,f1⟩<;>rcases kf e2 with⟨c2,f2⟩|⟨c2,f2⟩
  ·exact h.inj j k b f1 f2
  ·have:=h.inj _ _ b f1 f2;omega
  ·have:=h.inj _ _ b f1 f2;omega
  ·have:=h.inj _ _ b f1 f2;omega
end
theorem sT {ls:List (List Int)} (up:cP ls.flatten) {i j:Nat} {x y:List Int} (ex:ls[i]?=some x) (ey:ls[j]?=some y) (h:i<j):∀p∈x,∀q∈y,p<q:=λp hp q hq=>by
 rw[eZ ex]at up
 refine(rise3.mp up).2.2.2.2.2 p hp q (XD.mpr ⟨y,?_,hq⟩)
 refine Q1 (i:=j-(i+1)) ?_
 rw[ZZ]
 have:i+1+(j-(i+1))=j:=by omega
 rw[this]
 exact ey
theorem Cq {ls:List (List Int)} (up:cP ls.flatten) {i:Nat} {x:List Int} (ex:ls[i]?=some x):cP x:=by
 rw[eZ ex]at up
 exact(rise3.mp up).2.1
theorem AN {x:List Int} (up:cP x) (ne:x≠[]):∃m,x[x.length-1]?=some m∧m∈x∧∀y∈x,y≤m:=by
 have hl:=QW.mpr ne
 have hlt:x.length-1<x.length:=by omega
 refine⟨x[x.length-1],Q3 hlt,Za hlt,λy hy=>?_⟩
 obtain⟨j,hj,e⟩:=Qy hy
 rcases(show j=x.length-1∨j<x.length-1 by omega)with h|h
 ·subst h;rw[e];exact Zy _
 ·have:=QT.mp up j (x.length-1) hj hlt h
  rw[e]at this
  omega
structure LvN (ls:List (List Int)) (E:Nat→Prop):Prop where
 ne:∀l∈ls,l≠[]
 le:∀l∈ls,l.length≤8
 nb:∀(i:Nat) (x y:List Int),ls[i]?=some x→ls[i+1]?=some y→E i∨5≤x.length+y.length
 up:cP ls.flatten
theorem LvN.ok {ls:List (List Int)} {E:Nat→Prop} (h:LvN ls E) (no:∀i,¬E i):LvOk ls:=⟨h.ne,h.le,λi x y e1 e2=>(h.nb i x y e1 e2).resolve_left (no i),h.up⟩
def kF (ls:List (List Int)) (i:Nat):List (List Int):=match ls[i]?,ls[i+1]? with
 |some x,some y=>if x.length+y.length<5 then(ls.set i (x++y)).eraseIdx (i+1)else ls
 |_,_=>ls
theorem qK {ls:List (List Int)} {i:Nat} (h:ls.length≤i+1):kF ls i=ls:=by
 unfold kF
 have:ls[i+1]?=none:=Zh.mpr h
 rw[this]
 split
 ·rename_i h2;cases h2
 ·rfl
theorem vX {ls:List (List Int)} {i:Nat} {x y:List Int} (ex:ls[i]?=some x) (ey:ls[i+1]?=some y):kF ls i=if x.length+y.length<5 then(ls.set i (x++y)).eraseIdx (i+1)else ls:=by
 unfold kF
 rw[ex,ey]
theorem zk {ls:List (List Int)} {i:Nat}:(kF ls i).length≤ls.length∧ls.length≤(kF ls i).length+1:=by
 unfold kF
 split
 ·split
  ·rw[Xj,QH]
   split<;>omega
  ·omega
 ·omega
theorem qJ {ls:List (List Int)} {i j:Nat} {z v:List Int} (e:((ls.set i z).eraseIdx (i+1))[j]?=some v):(j<i∧ls[j]?=some v)∨(j=i∧v=z)∨(i<j∧ls[j+1]?=some v):=by
 rw[List.getElem?_eraseIdx]at e
 split at e
 ·rename_i c
  rw[Qv]at e
  by_cases h:i=j
  ·rw[if_pos h]at e
   split at e
   ·cases e;exact .inr (.inl ⟨h.symm,rfl⟩)
   ·cases e
  ·rw[if_neg h]at e
   exact .inl ⟨by omega,e⟩
 ·rename_i c
  rw[Qv,if_neg (by omega)]at e
  exact .inr (.inr ⟨by omega,e⟩)
theorem zj {ls:List (List Int)} {i:Nat} {x y:List Int} (ex:ls[i]?=some x) (ey:ls[i+1]?=some y):((ls.set i (x++y)).eraseIdx (i+1)).flatten=ls.flatten:=by
 have hi:=(Q2.mp ex).1
 have lt:(ls.take i).length=i:=by rw[Q7];omega
 have hy:ls.drop (i+1)=y::ls.drop (i+2):=by
  obtain⟨h,e⟩:=Q2.mp ey
  rw[←e,←QY h]
 have e1:(ls.set i (x++y)).eraseIdx (i+1)=ls.take i++(x++y)::ls.drop (i+2):=by
  rw[uq ex,hy,Xs (by omega),lt]
  have:i+1-i=1:=by omega
  rw[this]
  rfl
 rw[e1,eZ ex,hy,Z8,Z7,Z7,Qo]
theorem LvN.join {ls:List (List Int)} {E:Nat→Prop} {i:Nat} (h:LvN ls E) (hE:∀j,E j→j=i∨j+1=i):LvN (kF ls i) (λj=>j+1=i∧E j)∧(kF ls i).flatten=ls.flatten:=by
 cases ex:ls[i]? with
 |none=>
  have hl:ls.length≤i:=Zh.mp ex
  rw[qK (by omega)]
  refine⟨⟨h.ne,h.le,λj x y e1 e2=>?_,h.up⟩,rfl⟩
  rcases h.nb j x y e1 e2 with z|z
  ·rcases hE j z with rfl|w
   ·rw[ex]at e1;cases e1
   ·exact .inl ⟨w,z⟩
  ·exact .inr z
 |some x=>
  cases ey:ls[i+1]? with
  |none=>
   have hl:ls.length≤i+1:=Zh.mp ey
   rw[qK hl]
   refine⟨⟨h.ne,h.le,λj x' y e1 e2=>?_,h.up⟩,rfl⟩
   rcases h.nb j x' y e1 e2 with z|z
   ·rcases hE j z with rfl|w
    ·rw[ey]at e2;cases e2
    ·exact .inl ⟨w,z⟩
   ·exact .inr z
  |some y=>
   rw[vX ex ey]
   by_cases c:x.length+y.length<5
   ·rw[if_pos c]
    have fl:=zj ex ey
    have mem:∀v∈(ls.set i (x++y)).eraseIdx (i+1),v=x++y∨v∈ls:=λv hv=>by
     obtain⟨j,hj,e⟩:=Qy hv
     rcases qJ (Q2.mpr ⟨hj,e⟩)with⟨_,q⟩|⟨_,q⟩|⟨_,q⟩
     ·exact .inr (Q1 q)
     ·exact .inl q
     ·exact .inr (Q1 q)
    have px:=QW.mpr (h.ne x (Q1 ex))
    have lxy:(x++y).length=x.length+y.length:=Q8
    refine⟨⟨λv hv=>?_,λv hv=>?_,λj u v e1 e2=>?_,by rw[fl];exact h.up⟩,fl⟩
    ·rcases mem v hv with rfl|q
     ·exact Zi (by omega)
     ·exact h.ne v q
    ·rcases mem v hv with rfl|q
     ·omega
     ·exact h.le v q
    ·rcases qJ e1 with⟨c1,f1⟩|⟨c1,f1⟩|⟨c1,f1⟩<;>rcases qJ e2 with⟨c2,f2⟩|⟨c2,f2⟩|⟨c2,f2⟩<;>(try omega)
     ·rcases h.nb j u v f1 f2 with z|z
      ·rcases hE j z with w|w
       ·omega
       ·omega
      ·exact .inr z
     ·rcases h.nb j u x f1 (by rw[c2];exact ex)with z|z
      ·exact .inl ⟨c2,z⟩
      ·rw[f2];exact .inr (by omega)
     ·have e3:ls[i+1+1]?=some v:=by rw[←c1];exact f2
      rcases h.nb (i+1) y v ey e3 with z|z
      ·rcases hE (i+1) z with w|w<;>omega
      ·rw[f1];exact .inr (by omega)
     ·rcases h.nb (j+1) u v f1 f2 with z|z
      ·rcases hE (j+1) z with w|w<;>omega
      ·exact .inr z
   ·rw[if_neg c]
    refine⟨⟨h.ne,h.le,λj u v e1 e2=>?_,h.up⟩,rfl⟩
    rcases h.nb j u v e1 e2 with z|z
    ·rcases hE j z with w|w
     ·subst w
      rw[ex]at e1
      rw[ey]at e2
      cases e1;cases e2
      exact .inr (by omega)
     ·exact .inl ⟨w,z⟩
    ·exact .inr z
theorem xj {l:List Int} (h:cP l):l.Nodup:=h.imp λh=>Int.ne_of_lt h
theorem LvOk.gone {ls:List (List Int)} {i:Nat} {x:List Int} {k:Int} (o:LvOk ls) (ex:ls[i]?=some x) (hk:k∈x):cP (ls.set i (x.erase k)).flatten∧∀z,z∈(ls.set i (x.erase k)).flatten↔z≠k∧z∈ls.flatten:=by
 have up:=o.up
 rw[eZ ex]at up
 obtain⟨u1,u2,u3,u4,u5,u6⟩:=rise3.mp up
 have sub:(x.erase k).Sublist x:=List.erase_sublist
 have nx:=xj u2
 rw[lY ex,eZ ex]
 refine⟨rise3.mpr ⟨u1,u2.sublist sub,u3,λa ha b hb=>u4 a ha b (sub.subset hb),u5,λa ha b hb=>u6 a (sub.subset ha) b hb⟩,λz=>?_⟩
 rw[Q4,Q4,Q4,Q4,nx.mem_erase_iff]
 constructor
 ·rintro (h|⟨h1,h2⟩|h)
  ·have:=u4 z h k hk
   exact⟨by omega,.inl h⟩
  ·exact⟨h1,.inr (.inl h2)⟩
  ·have:=u6 k hk z h
   exact⟨by omega,.inr (.inr h)⟩
 ·rintro ⟨h0,h|h|h⟩
  ·exact .inl h
  ·exact .inr (.inl ⟨h0,h⟩)
  ·exact .inr (.inr h)
theorem LvOk.shrunk {ls:List (List Int)} {i:Nat} {x y:List Int} (o:LvOk ls) (ex:ls[i]?=some x) (ny:y≠[]) (ly:y.length≤x.length) (up:cP (ls.set i y).flatten):LvN (ls.set i y) (λj=>j=i∨j+1=i):=by
 have hx:=o.le x (Q1 ex)
 refine⟨λl hl=>?_,λl hl=>?_,λj a b f g=>?_,up⟩
 ·rcases pj ex hl with rfl|hl
  ·exact ny
  ·exact o.ne l hl
 ·rcases pj ex hl with rfl|hl
  ·omega
  ·exact o.le l hl
 ·rcases mE ex f with⟨c,_⟩|⟨c,f1⟩
  ·exact .inl (.inl c.symm)
  ·rcases mE ex g with⟨c',_⟩|⟨c',g1⟩
   ·exact .inl (.inr c'.symm)
   ·exact .inr (o.nb j a b f1 g1)
theorem LvOk.out {ls:List (List Int)} {i:Nat} {x:List Int} (o:LvOk ls) (ex:ls[i]?=some x) (lx:x.length=1) (up:cP (ls.set i []).flatten):LvOk (ls.eraseIdx i)∧(ls.eraseIdx i).flatten=(ls.set i []).flatten:=by
 have hi:=(Q2.mp ex).1
 have lt:(ls.take i).length=i:=by rw[Q7];omega
 have e1:ls.eraseIdx i=ls.take i++ls.drop (i+1):=List.eraseIdx_eq_take_drop_succ _ _
 have fl:(ls.eraseIdx i).flatten=(ls.set i []).flatten:=by
  rw[e1,lY ex,Z8]
  rfl
 refine⟨⟨λl hl=>o.ne l (Z0 hl),λl hl=>o.le l (Z0 hl),λj a b f g=>?_,by rw[fl];exact up⟩,fl⟩
 rcases kf f with⟨c1,f1⟩|⟨c1,f1⟩<;>rcases kf g with⟨c2,g1⟩|⟨c2,g1⟩
 ·exact o.nb j a b f1 g1
 ·have e2:j+1=i:=by omega
  subst e2
  have h1:=o.nb j a x f1 ex
  have h2:=o.nb (j+1) x b ex g1
  omega
 ·omega
 ·exact o.nb (j+1) a b f1 g1
def LvA (_K:PySem.W.Frag) (t:Adr) (H:Hp) (a:Addr) (F:Addr→Prop) (ks:List Int):Prop:=∃L A ls,LvB t H a L A ls∧LvOk ls∧ls.flatten=ks∧∀b,F b↔LvF a L A b
section
variable {K:PySem.W.Frag} {t:Adr} {H H':Hp} {a b p:Addr} {F:Addr→Prop} {ks:List Int} {o:HO}
theorem LvA.ins (h:LvA K t H a F ks):∃dx fs,H a=some (.ins t.bn dx fs)∧∀m,m≠("leaves":Str)→fs.lookup m=none:=by
 obtain⟨L,A,ls,hb,_⟩:=h
 obtain⟨dx,ho⟩:=hb.obj
 exact⟨dx,_,ho,λm hm=>DK hm⟩
theorem LvA.dom (h:LvA K t H a F ks) (hb:F b):∃o,H b=some o:=by
 obtain⟨L,A,ls,h1,_,_,h2⟩:=h
 exact h1.dom ((h2 b).mp hb)
theorem LvA.frame (h:LvA K t H a F ks) (f:∀b,F b→H' b=H b):LvA K t H' a F ks:=by
 obtain⟨L,A,ls,h1,h3,h4,h2⟩:=h
 exact⟨L,A,ls,h1.frame λb hb=>f b ((h2 b).mpr hb),h3,h4,h2⟩
theorem LvA.out (h:LvA K t H a F ks) (e:H p=none):¬F p:=λz=>by
 obtain⟨o,q⟩:=h.dom z
 rw[q]at e
 cases e
theorem LvA.upd (h:LvA K t H a F ks) (e:¬F p):LvA K t (L2.upd H p o) a F ks:=h.frame λb hb=>ae λz=>e (z▸hb)
end
def oQ (K:PySem.W.Frag) (t:Adr):Sp:=λvs H Q _=>∃(a dx:Addr),vs=[.ref a]∧H a=some (.ins t.bn dx [])∧H dx=some (.own a)∧∀H' F,LvA K t H' a F []→Fr (λb=>b=a∨b=dx) F H H'→Q .non H'
def pS (K:PySem.W.Frag) (t:Adr):Sp:=λvs H Q _=>∃(a:Addr) (k:Int) (F:Addr→Prop) (ks:List Int),vs=[.ref a,.int k]∧LvA K t H a F ks∧∀H' F',LvA K t H' a F' ks→Fr F F' H H'→Q (.bl (decide (k∈ks))) H'
def pT (K:PySem.W.Frag) (t:Adr):Sp:=λvs H Q E=>∃(a:Addr) (k:Int) (F:Addr→Prop) (ks:List Int),vs=[.ref a,.int k]∧LvA K t H a F ks∧ks.length<4096∧
 (k∉ks→∀H' F' ks',LvA K t H' a F' ks'→(∀z,z∈ks'↔z=k∨z∈ks)→Fr F F' H H'→Q .non H')∧(k∈ks→False)
def lf (K:PySem.W.Frag) (t:Adr):Sp:=λvs H Q E=>∃(a:Addr) (k:Int) (F:Addr→Prop) (ks:List Int),vs=[.ref a,.int k]∧LvA K t H a F ks∧ks.length<4096∧
 (k∈ks→∀H' F' ks',LvA K t H' a F' ks'→(∀z,z∈ks'↔z≠k∧z∈ks)→Fr F F' H H'→Q .non H')∧(k∉ks→False)
theorem LvOk.short {ls:List (List Int)} (o:LvOk ls):ls.length≤ls.flatten.length:=by
 have h:=o.ne
 clear o
 induction ls with
 |nil=>exact Q5 _
 |cons x r ih=>
  have:=QW.mpr (h x Qj)
  have:=ih λl hl=>h l (Qh _ hl)
  rw[Z7,Q8,Qp]
  omega
def k8 (K:PySem.W.Frag) (t:Adr):Sp:=λvs H Q _=>∃(a:Addr) (k n:Int) (F:Addr→Prop) (ks:List Int),vs=[.ref a,.int k,.int n]∧LvA K t H a F ks∧ks.length<4096∧0≤n∧
 ∀(H':Hp) (l:Addr),Same H H'→H l=none→H' l=some (.lst (((ks.filter λz=>decide (k≤z)).take n.toNat).map V.int))→Q (.ref l) H'
theorem jQ {xs:List V} {n:Int} (h:0≤n):mL xs none (some n)=xs.take n.toNat:=by
 unfold mL HT.sIx
 simp only[Zp,Nat.sub_zero]
 rw[if_neg (by omega)]
 rcases Nat.le_total n.toNat xs.length with c|c
 ·rw[Xd c]
 ·rw[Nat.min_eq_right c,QJ,Qz c]
theorem zp {ls:List (List Int)} {k:Int} {i0:Nat} (o:LvOk ls) (h:LeafOf ls k i0):∀z∈(ls.take i0).flatten,¬k≤z:=λz hz=>by
 have:=h.ahead z hz
 omega
def c8 (k:Option Int) (z:Int):Bool:=match k with|none=>true|some k=>decide (z≤k)
def vDn:Option Int→V|none=> .non|some k=> .int k
def jk (K:PySem.W.Frag) (t:Adr):Sp:=λvs H Q _=>∃(a:Addr) (k:Option Int) (n:Int) (F:Addr→Prop) (ks:List Int),vs=[.ref a,vDn k,.int n]∧LvA K t H a F ks∧ks.length<4096∧0≤n∧
 ∀(H':Hp) (l:Addr),Same H H'→H l=none→H' l=some (.lst (((ks.reverse.filter (c8 k)).take n.toNat).map V.int))→Q (.ref l) H'
def SSt.low (s:SSt):Int:=match s.nxt with
 |none=>s.size
 |some m=>if m<s.size then m else s.size
theorem AH {st:SSt} {M:Int} (h:M∈st.rows) (l:∀x∈st.rows,M≤x):M=st.low:=by
 unfold SSt.rows at h l
 unfold SSt.low
 cases e:st.nxt with
 |none=>rw[e]at h;simpa using h
 |some m=>
  rw[e]at h l
  have h:M=st.size∨M=m:=by simpa using h
  have l1:=l st.size (by simp)
  have l2:=l m (by simp)
  show M=if m<st.size then m else st.size
  split<;>omega
theorem fL {st:SSt} (z:SzOk st):st.low∈([4,8,16,32,64,128,256]:List Int):=by
 unfold SSt.low
 cases e:st.nxt with
 |none=>exact z.pw
 |some m=>
  show(if m<st.size then m else st.size)∈_
  split
  ·exact(z.nx m e).1
  ·exact z.pw
theorem qg {x:Int} (h:x∈([4,8,16,32,64,128,256]:List Int)):∃a b,Row x a b:=by
 rcases ju h with h|h|h|h|h|h|h<;>subst h
 ·exact⟨_,_,lu (k:=0) (by decide)⟩
 ·exact⟨_,_,lu (k:=1) (by decide)⟩
 ·exact⟨_,_,lu (k:=2) (by decide)⟩
 ·exact⟨_,_,lu (k:=3) (by decide)⟩
 ·exact⟨_,_,lu (k:=4) (by decide)⟩
 ·exact⟨_,_,lu (k:=5) (by decide)⟩
 ·exact⟨_,_,lu (k:=6) (by decide)⟩
theorem ug {S p:Int} {a b:Nat} (R:Row S a b) (h0:0≤p) (h1:p<65536):tz (tz p%S)+65536/S=(p/(65536/S)+1)*(65536/S):=by
 have hs:=R.st_has (m:=tz p) (m5 p)
 rw[xQ h0 h1]at hs
 have sl:=R.slot (s:=tz p%S) (R.mod0 _) (R.mod1 _)
 have w:=R.width
 have wp:=R.wpos'
 rw[sl.1,←w]at hs⊢
 have:p/(65536/S)=rz a (tz p%S):=by
  have k0:=Qd p (QS wp)
  have k1:=Qc p wp
  have k2:=Xf p (65536/S)
  exact R.between wp (x:=p/(65536/S)) (y:=rz a (tz p%S)) (p:=p) (by omega) (by omega) hs.1 hs.2
 rw[this,Int.add_mul,Int.one_mul,Xa]
def pL (K:PySem.W.Frag) (t:Adr):Sp:=λvs H Q _=>∃(a:Addr) (p:Int) (F:Addr→Prop) (st:SSt),vs=[.ref a,.int p]∧SlA K t H a F st∧0≤p∧p<65536∧
 ∀H' F',SlA K t H' a F' st→Fr F F' H H'→Q (.int ((p/(65536/st.low)+1)*(65536/st.low))) H'
structure u0 (kd:Str) (fs:List (Str×V)) (a e:V):Prop where
 ki:fs.lookup ("kind":Str)=some (.str kd)
 at_:fs.lookup ("at":Str)=some a
 end_:fs.lookup ("end":Str)=some e
 wo:fs.lookup ("words":Str)=none
 ho:fs.lookup ("holds":Str)=none
def okS (a e:V):Prop:=∃i j,a= .int i∧e= .int j∧0≤i∧i≤j∧j≤65536
def okU (a e:V):Prop:=∃i,a= .int i∧0≤i∧(e= .non∨∃j,e= .int j∧i≤j)
def okD (a e:V):Prop:=∃j,e= .int j∧0≤j∧(a= .non∨∃i,a= .int i∧j≤i)
def Keep (p:Addr) (H H':Hp):Prop:=∀b o,H b=some o→b≠p→H' b=some o
def vm:Sp:=λvs H Q _=>∃x,vs=[x]∧Sc x∧Q (.bl (isW x)) H
def isF (lo:Int):V→Bool
 | .int i=>decide (lo≤i)|_=>false
def wV:Sp:=λvs H Q _=>∃x lo,vs=[x,.int lo]∧Sc x∧Q (.bl (isF lo x)) H
def ft (K:PySem.W.Frag):Sp:=λvs H Q _=>∃(p C dx:Addr) (kd:Str) (a e:V),vs=[.ref p,.str kd,a,e]∧H p=some (.ins C dx [])∧Cls K C∧NoAttr K C "kind"∧NoAttr K C "at"∧NoAttr K C "end"∧∀H' fs,Keep p H H'→H' p=some (.ins C dx fs)→u0 kd fs a e→Q .non H'
def xS (C N:Addr) (kd:Str) (ok:V→V→Prop):Sp:=λvs H Q E=>∃(p dx:Addr) (a e:V),vs=[.ref p,a,e]∧H p=some (.ins C dx [])∧Sc a∧Sc e∧
 (ok a e→∀H' fs,Keep p H H'→H' p=some (.ins C dx fs)→u0 kd fs a e→Q .non H')∧(¬ok a e→False)
def m7 (t:Adr):Sp:=xS t.aO t.kj "slots" okS
def vo (t:Adr):Sp:=xS t.cK t.kj "up" okU
def rN (t:Adr):Sp:=xS t.bW t.kj "down" okD
def okN (kd:Int) (a e:V):Prop:=(kd=0∧okS a e)∨(kd=1∧okU a e)∨(kd=2∧okD a e)
def hS:V→V→Int→Bool
 | .int i,.int j,k=>decide (i≤tz (k%65536))&&decide (tz (k%65536)<j)
 |_,_,_=>false
def hU:V→V→Int→Bool
 | .int i,.int j,k=>decide (i≤k)&&decide (k<j)
 | .int i,.non,k=>decide (i≤k)
 |_,_,_=>false
def hD:V→V→Int→Bool
 | .int i,.int j,k=>decide (j≤k)&&decide (k≤i)
 | .non,.int j,k=>decide (j≤k)
 |_,_,_=>false
def hN (kd:Int):V→V→Int→Bool:=if kd=0 then hS else if kd=1 then hU else hD
def bdV:V→Prop
 | .int i=>i<10^80|_=>True
def wX (C:Addr) (kd:Str) (ok:V→V→Prop) (h:V→V→Int→Bool):Sp:=λvs H Q _=>∃(p dx:Addr) (fs:List (Str×V)) (a e:V) (k:Int),vs=[.ref p,.int k]∧H p=some (.ins C dx fs)∧u0 kd fs a e∧ok a e∧0≤k∧∀H',Same H H'→Q (.bl (h a e k)) H'
def db (t:Adr):Sp:=wX t.aO "slots" okS hS
def cv (t:Adr):Sp:=wX t.cK "up" okU hU
def bT (t:Adr):Sp:=wX t.bW "down" okD hD
def tkC (t:Adr) (kd:Int):Addr:=if kd=0 then t.aO else if kd=1 then t.cK else t.bW
def kdS (kd:Int):Str:=if kd=0 then "slots" else if kd=1 then "up" else "down"
theorem m9 {x dx C:Addr} {H H':Hp} (h1:H x=none) (h2:H dx=none) (k:Keep x (upd (upd H dx (.own x)) x (.ins C dx [])) H'):Same H H':=λb o q=>by
 refine k b o ?_ (al q h1)
 rw[ae (al q h1),ae (al q h2)]
 exact q
def spHN (t:Adr) (kd:Int):Sp:=if kd=0 then db t else if kd=1 then cv t else bT t
def TkAt (t:Adr) (H:Hp) (p:Addr) (kd:Int) (a e:V):Prop:=∃(dx:Addr) (fs:List (Str×V)),H p=some (.ins (tkC t kd) dx fs)∧u0 (kdS kd) fs a e
theorem TkAt.same {t:Adr} {H H':Hp} {p:Addr} {kd:Int} {a e:V} (h:TkAt t H p kd a e) (s:Same H H'):TkAt t H' p kd a e:=by
 obtain⟨dx,fs,h1,h2⟩:=h
 exact⟨dx,fs,s _ _ h1,h2⟩
theorem okN.sc {kd:Int} {a e:V} (h:okN kd a e):Sc a∧Sc e:=by
 rcases h with⟨_,i,j,rfl,rfl,_⟩|⟨_,i,rfl,_,rfl|⟨j,rfl,_⟩⟩|⟨_,j,rfl,_,rfl|⟨i,rfl,_⟩⟩<;>exact⟨True.intro,True.intro⟩
theorem okN.nums {kd:Int} {a e:V} (h:okN kd a e):(a= .non∨∃i:Int,a= .int i)∧(e= .non∨∃i:Int,e= .int i):=by
 rcases h with⟨_,i,j,rfl,rfl,_⟩|⟨_,i,rfl,_,rfl|⟨j,rfl,_⟩⟩|⟨_,j,rfl,_,rfl|⟨i,rfl,_⟩⟩
 ·exact⟨.inr ⟨_,rfl⟩,.inr ⟨_,rfl⟩⟩
 ·exact⟨.inr ⟨_,rfl⟩,.inl rfl⟩
 ·exact⟨.inr ⟨_,rfl⟩,.inr ⟨_,rfl⟩⟩
 ·exact⟨.inl rfl,.inr ⟨_,rfl⟩⟩
 ·exact⟨.inr ⟨_,rfl⟩,.inr ⟨_,rfl⟩⟩
theorem okN.kd {kd:Int} {a e:V} (h:okN kd a e):kd=0∨kd=1∨kd=2:=by
 rcases h with⟨h,_⟩|⟨h,_⟩|⟨h,_⟩
 ·exact .inl h
 ·exact .inr (.inl h)
 ·exact .inr (.inr h)
theorem okN.s {a e:V} (h:okN 0 a e):okS a e:=by
 rcases h with⟨_,h⟩|⟨h,_⟩|⟨h,_⟩
 ·exact h
 ·cases h
 ·cases h
theorem okN.u {a e:V} (h:okN 1 a e):okU a e:=by
 rcases h with⟨h,_⟩|⟨_,h⟩|⟨h,_⟩
 ·cases h
 ·exact h
 ·cases h
theorem okN.d {a e:V} (h:okN 2 a e):okD a e:=by
 rcases h with⟨h,_⟩|⟨h,_⟩|⟨_,h⟩
 ·cases h
 ·cases h
 ·exact h
theorem dHN {t:Adr} {kd:Int} (h:kd=0∨kd=1∨kd=2):DOr (D1 t.aO (db t)) (DOr (D1 t.cK (cv t)) (D1 t.bW (bT t))) (tkC t kd) (spHN t kd):=by
 rcases h with rfl|rfl|rfl
 ·exact .inl ⟨rfl,rfl⟩
 ·exact .inr (.inl ⟨rfl,rfl⟩)
 ·exact .inr (.inr ⟨rfl,rfl⟩)
theorem pe {t:Adr} {kd k:Int} {a e:V} {p dx:Addr} {fs:List (Str×V)} {H:Hp} {Q:VK} {E:XK} (ho:okN kd a e) (h:H p=some (.ins (tkC t kd) dx fs)) (f:u0 (kdS kd) fs a e) (h0:0≤k)
  (q:∀H',Same H H'→Q (.bl (hN kd a e k)) H'):spHN t kd [.ref p,.int k] H Q E:=by
 rcases ho.kd with rfl|rfl|rfl
 ·exact⟨p,dx,fs,a,e,k,rfl,h,f,ho.s,h0,q⟩
 ·exact⟨p,dx,fs,a,e,k,rfl,h,f,ho.u,h0,q⟩
 ·exact⟨p,dx,fs,a,e,k,rfl,h,f,ho.d,h0,q⟩
structure Tp where
 p:Addr
 k:Int
 v:V
def Tp.kv (e:Tp):Int×V:=(e.k,e.v)
structure PgA (H H':Hp) (F F':Addr→Prop) (r g:Addr) (v:V) (ts:List Tp):Prop where
 tu:H' r=some (.tup [.ref g,v])
 li:H' g=some (.lst (ts.map λe=>V.ref e.p))
 rw:∀e∈ts,H' e.p=some (.tup [.int e.k,e.v])∧¬F' e.p
 nr:(¬F r→H r=none)∧¬F' r
 ng:(¬F g→H g=none)∧¬F' g
section
variable {P:Program} {w:World} {K:PySem.W.Frag} {mg:Str→Option Value} {base:Heap} {t:Adr}
def yQ:Sp:=λvs H Q _=>∃n:Int,vs=[.int n]∧0≤n∧Q (.int (tz n)) H
def wU:Sp:=λvs H Q _=>∃k:Int,vs=[.int k]∧Q (.int (k%65536)) H
def vk:Sp:=λvs H Q _=>∃k:Int,vs=[.int k]∧Q (.int (tz (k%65536))) H
def wS:Sp:=λvs H Q _=>∃k n:Int,vs=[.int k,.int n]∧0<n∧Q (.int (k%65536%n)) H
def wT:Sp:=λvs H Q _=>∃p n:Int,vs=[.int p,.int n]∧0≤p∧0<n∧Q (.int (tz p%n)) H
def rB:Sp:=λvs H Q _=>∃s n:Int,vs=[.int s,.int n]∧0≤s∧0<n∧n<1073741824∧∀p,H p=none→Q (.ref p) (upd H p (.tup [.int (tz s),.int (tz s+65536/n)]))
theorem nI (T:Txt K mg t):FnOk P w K mg base CX0 1 t.wy t.qR ["number"] yQ:=by
 obtain⟨tk_BITS,hBITS⟩:=T.FX
 refine T.rg.ok sc_turned (λvs H Q E h=>?_) (λcdv A outer s H vs Q E hr h=>?_)
 ·obtain⟨n,rfl,_⟩:=h
  rfl
 ·obtain⟨n,rfl,hn,k⟩:=h
  refine⟨_,(ac (ar (i:=1) sc_turned.nd rfl (Or.inl rfl) af)
   (ac (ar (i:=2) sc_turned.nd rfl (Or.inl rfl) (pv 0))
   (ac (gH PassesOwn.never rfl (fj (by rfl) T.j3 (aa (bE (v:= .int 16) (by rfl) hBITS ⟨_,rfl⟩) ah)) (bx (i:=3) sc_turned.nd rfl (Or.inl rfl))
   (ac (ar (i:=1) sc_turned.nd rfl (Or.inl rfl) (am bq (am cy (pv 1) af) (am aM (pv 2) af)))
   (ai (ar (i:=2) sc_turned.nd rfl (Or.inl rfl) (am aP (pv 2) af)))))
   (ai (aF (pv 1))))))
   ,?_⟩
  have en:((n.toNat/2^0:Nat):Int)=n:=by rw[Nat.pow_zero,Nat.div_one];omega
  refine⟨_,rfl,16,rfl,by decide,by decide,nS (n:=16) (λi σ H'=>∃v,H'=H∧σ=[some (.int n),some (.int ((rv i n.toNat:Nat):Int)),some (.int ((n.toNat/2^i:Nat):Int)),v]) ?_ ?_ ?_⟩
  ·refine⟨none,rfl,?_⟩
   rw[en]
   rfl
  ·rintro i σ H' hi ⟨v,rfl,rfl⟩
   refine⟨_,rfl,_,_,rfl,rfl,.inr ⟨by decide,by decide⟩,_,rfl,_,_,rfl,rfl,(by show(0:Int)<2;decide),_,_,rfl,rfl,_,rfl,_,_,rfl,rfl,⟨by decide,by decide⟩,?_⟩
   refine⟨some (.int (0+(i:Int))),rfl,?_⟩
   rw[←sN i n.toNat,←sO i n.toNat]
   rfl
  ·rintro σ H' ⟨v,rfl,rfl⟩
   unfold tz at k
   exact⟨_,rfl,k⟩
theorem qp (T:Txt K mg t):FnOk P w K mg base CX0 1 t.t7 t.nZ ["key"] wU:=by
 obtain⟨tk_PLACES,hPLACES⟩:=T.qO
 refine T.ub.ok w6 (λvs H Q E h=>?_) (λcdv A outer s H vs Q E hr h=>?_)
 ·obtain⟨n,rfl,_⟩:=h
  rfl
 ·obtain⟨n,rfl,k⟩:=h
  refine⟨_,(ai (aF (am aM (pv 0) (bE (v:= .int 65536) (by rfl) hPLACES ⟨_,rfl⟩))))
   ,?_⟩
  exact⟨_,rfl,_,_,rfl,rfl,(by show(0:Int)<65536;decide),k⟩
theorem oi (T:Txt K mg t):FnOk P w K mg base CX0 2 t.qX t.lK ["key"] vk:=by
 have Yo:= @qp P w K mg base t T
 have Yw:= @nI P w K mg base t T
 refine T.rj.ok vt (λvs H Q E h=>?_) (λcdv A outer s H vs Q E hr h=>?_)
 ·obtain⟨n,rfl,_⟩:=h
  rfl
 ·obtain⟨n,rfl,k⟩:=h
  refine⟨_,(ai (aF (aJ Yw (hr.mono (by decide)) (by rfl) T.vT T.rg.kp T.wx .nil aD (aa (aJ Yo (hr.mono (by decide)) (by rfl) T.ze T.ub.kp T.zC .nil aD (aa (pv 0) ah)) ah))))
   ,?_⟩
  exact⟨_,rfl,_,rfl,_,rfl,Qd _ (by decide),k⟩
theorem qm (T:Txt K mg t):FnOk P w K mg base CX0 2 t.tY t.nW ["key","size"] wS:=by
 have Yo:= @qp P w K mg base t T
 refine T.oh.ok wZ (λvs H Q E h=>?_) (λcdv A outer s H vs Q E hr h=>?_)
 ·obtain⟨n,m,rfl,_⟩:=h
  rfl
 ·obtain⟨n,m,rfl,hm,k⟩:=h
  refine⟨_,(ai (aF (am aM (aJ Yo (hr.mono (by decide)) (by rfl) T.ze T.ub.kp T.zC .nil aD (aa (pv 0) ah)) (pv 1))))
   ,?_⟩
  exact⟨_,rfl,_,rfl,_,rfl,_,_,rfl,rfl,hm,k⟩
theorem qo (T:Txt K mg t):FnOk P w K mg base CX0 2 t.tZ t.nY ["place","size"] wT:=by
 have Yw:= @nI P w K mg base t T
 refine T.ua.ok w5 (λvs H Q E h=>?_) (λcdv A outer s H vs Q E hr h=>?_)
 ·obtain⟨n,m,rfl,_⟩:=h
  rfl
 ·obtain⟨n,m,rfl,hn,h0,k⟩:=h
  refine⟨_,(ai (aF (am aM (aJ Yw (hr.mono (by decide)) (by rfl) T.vT T.rg.kp T.wx .nil aD (aa (pv 0) ah)) (pv 1))))
   ,?_⟩
  exact⟨_,rfl,_,rfl,hn,_,rfl,_,_,rfl,rfl,h0,k⟩
theorem rW (T:Txt K mg t):FnOk P w K mg base CX0 2 t.mM t.iQ ["slot","size"] rB:=by
 obtain⟨tk_PLACES,hPLACES⟩:=T.qO
 have Yw:= @nI P w K mg base t T
 refine T.u8.ok sc_stretch_of (λvs H Q E h=>?_) (λcdv A outer s H vs Q E hr h=>?_)
 ·obtain⟨n,m,rfl,_⟩:=h
  rfl
 ·obtain⟨n,m,rfl,hn,h0,h1,k⟩:=h
  refine⟨_,(ac (ar (i:=2) sc_stretch_of.nd rfl (Or.inl rfl) (aJ Yw (hr.mono (by decide)) (by rfl) T.vT T.rg.kp T.wx .nil aD (aa (pv 0) ah)))
   (ai (aF (bM (aa (pv 2) (aa (am bq (pv 2) (am aP (bE (v:= .int 65536) (by rfl) hPLACES ⟨_,rfl⟩) (pv 1))) ah))))))
   ,?_⟩
  exact⟨_,rfl,_,rfl,hn,_,rfl,_,rfl,_,rfl,_,_,rfl,rfl,⟨h0,h1⟩,_,_,rfl,rfl,(by show 2≤sizeLine;decide),λp hp=>k p hp⟩
theorem yS {n:Nat} (h:n≤4096):n<sizeLine:=ZY h (by decide)
def ui:Sp:=λvs H Q _=>∃n:Int,vs=[.int n]∧0≤n∧n≤1000∧∀H' r A,Same H H'→H r=none→(∀b∈A,H b=none)→RowOk H' r A (List.replicate n.toNat []) n→Q (.ref r) H'
theorem mr (T:Txt K mg t):FnOk P w K mg base CX0 1 t.oH t.jJ ["size"] ui:=by
 refine T.jY.ok ut (λvs H Q E h=>?_) (λcdv A outer s H vs Q E hr h=>?_)
 ·obtain⟨n,rfl,_⟩:=h
  rfl
 ·obtain⟨n,rfl,n0,n1,q⟩:=h
  refine⟨_,(ai (aF (gc rfl (CScope.of (M:=["slot"]) (N:=["size"]) (N':=["size"]) (dsc:=ak f8) rfl rfl (by decide+kernel)) (fj (by rfl) T.j3 (aa (pv 0) ah)) (λ_ _ _ _ _=>g9))))
   ,?_⟩
  refine⟨_,rfl,n,rfl,by omega,by omega,λD hD=>?_⟩
  refine lN (n:=n.toNat) (lo:=0) (λi ys H3=>Same H H3∧∃as:List Addr,ys=as.map V.ref∧as.length=i∧(∀b∈as,H b=none∧b≠D∧H3 b=some (.dK []))∧∀(x y:Nat) (b:Addr),as[x]?=some b→as[y]?=some b→x=y)
   ⟨aj hD,[],rfl,rfl,(λb hb=>by cases hb),λx y b e=>by simp at e⟩ (λi ys H3 hi ⟨s3,as,ey,el,hb,inj⟩ hDD=>?_) (λys H3 ⟨s3,as,ey,el,hb,inj⟩ hDD=>?_)
  ·intro c nc
   have cD:c≠D:=(al hDD nc).symm
   have nca:c∉as:=λz=>by
    have:=(hb c z).2.2
    rw[nc]at this
    cases this
   have nH:H c=none:=by
    cases e:H c with
    |none=>rfl
    |some o=>rw[s3 c o e]at nc;cases nc
   refine CNext.mk hi (by rw[ae cD.symm];exact hDD) (by rw[ey,Q0];exact b4 (by omega)) ⟨bU (s3.trans (aj nc)) hD,as++ [c],by rw[ey,Q9];rfl,by rw[Q8,el];rfl,λb hb'=>?_,λx y b e1 e2=>?_⟩
   ·rcases Q4.mp hb' with z|z
    ·obtain⟨h1,h2,h3⟩:=hb b z
     exact⟨h1,h2,by rw[ae h2,ae (λw=>nca (by rw[←w];exact z))];exact h3⟩
    ·rw[Qb.mp z]
     exact⟨nH,cD,by rw[ae cD,ag]⟩
   ·have lem:∀x:Nat,(as++ [c])[x]?=some b→as[x]?=some b∨(x=as.length∧b=c):=λx e=>by
     rw[Xi]at e
     split at e
     ·exact .inl e
     ·rename_i w
      have:x-as.length=0:=by
       rcases ZI (x-as.length)with z|z
       ·exact z
       ·rw[List.getElem?_eq_none (by simp;omega)]at e;cases e
      rw[this]at e
      cases e
      exact .inr ⟨by omega,rfl⟩
    rcases lem x e1 with f1|⟨f1,g1⟩<;>rcases lem y e2 with f2|⟨f2,g2⟩
    ·exact inj x y b f1 f2
    ·subst g2;exact absurd (Q1 f1) nca
    ·subst g1;exact absurd (Q1 f2) nca
    ·omega
  ·refine q H3 D as s3 hD (λb z=>(hb b z).1) ⟨by rw[hDD,ey],by rw[el];omega,by rw[Ze];omega,λj b kv e1 e2=>?_,λj kv e=>?_,inj,λj kv e p hp=>?_⟩
   ·rw[Zm (Q1 e2)]
    exact(hb b (Q1 e1)).2.2
   ·rw[Zm (Q1 e)]
    exact Zc
   ·rw[Zm (Q1 e)]at hp
    cases hp
def lV (t:Adr):Sp:=λvs H Q _=>∃(a:Addr) (k:Int) (st:SSt) (d:SlD),vs=[.ref a,.int k]∧SlB t H a st d∧SzOk st∧∀c kv,IsCell d st k c kv→Q (.ref c) H
def ko (t:Adr):Sp:=λvs H Q _=>∃(a:Addr) (st:SSt) (d:SlD),vs=[.ref a]∧SlB t H a st d∧SzOk st∧st.kv.length<4096∧∀H' d',SlB t H' a st.one d'→d'.n=d.n→Fr (SlF a st d) (SlF a st.one d') H H'→Q .non H'
def kq (t:Adr):Sp:=λvs H Q _=>∃(a:Addr) (st:SSt) (d:SlD),vs=[.ref a]∧SlB t H a st d∧SzOk st∧d.n=(st.kv.length:Int)∧∀H' d',SlB t H' a st.three d'→d'.n=d.n→Fr (SlF a st d) (SlF a st.three d') H H'→Q .non H'
theorem qD {A:List Addr} {z:Int} {c:Addr} (h0:0≤z) (e:A[z.toNat]?=some c):atI (A.map V.ref) z=some (.ref c):=by
 obtain⟨j,rfl⟩:=Z5 h0
 refine pC ?_
 rw[QA]
 have e:A[j]?=some c:=e
 rw[e]
 rfl
theorem b8 (T:Txt K mg t):FnOk P w K mg base CX0 3 t.io t.dR ["self","key"] (lV t):=by
 have Yt:= @qm P w K mg base t T
 refine T.zH.ok sc_Slots__cell_of (λvs H Q E h=>?_) (λcdv A outer s H vs Q E hr h=>?_)
 ·obtain⟨a,k,st,d,rfl,_⟩:=h
  rfl
 ·obtain⟨a,k,st,d,rfl,hb,z,q⟩:=h
  refine⟨_,(ac (ar (i:=2) sc_Slots__cell_of.nd rfl (Or.inl rfl) (aU aN (aC (pv 0) rfl) af (λ_ _=>rfl)))
   (ac (ar (i:=3) sc_Slots__cell_of.nd rfl (Or.inl rfl) (aJ Yt (hr.mono (by decide)) (by rfl) T.tD T.oh.kp T.tX .nil aD (aa (pv 1) (aa (az aA (by rfl) T.bC aZ (aa (pv 2) ah)) ah))))
   (ac (aR (au tj (pv 3) (aC (pv 0) rfl) (aq _))
   (ai (aF (aU aN (pv 2) (pv 3) (λ_ _=>rfl))))
   aE)
   (ac (ar (i:=4) sc_Slots__cell_of.nd rfl (Or.inl rfl) (aU aN (aC (pv 0) rfl) af (λ_ _=>rfl)))
   (ai (aF (aU aN (pv 4) (aJ Yt (hr.mono (by decide)) (by rfl) T.tD T.oh.kp T.tX .nil aD (aa (pv 1) (aa (az aA (by rfl) T.bC aZ (aa (pv 4) ah)) ah))) (λ_ _=>rfl))))))))
   ,?_⟩
  obtain⟨dx,ho⟩:=hb.obj
  obtain⟨s4,s5⟩:=bH z.pw
  obtain⟨m0,m1,m2⟩:=nN (k:=k) s4
  have t0:∃xs,H d.tb=some (.lst xs)∧atI xs 0=some (.ref d.r0):=by
   refine⟨_,hb.tbl,?_⟩
   cases st.nxt<;>rfl
  obtain⟨xs,hx,x0⟩:=t0
  have fld:∀{Q':VK},Q' (.ref d.tb) H→tFld K (D7 0) "table" [some (.ref a),some (.int k),none,none,none] H Q':=λ{Q'} q=>⟨_,rfl,a,_,dx,_,_,rfl,ho,T.aB,T.aQ,f7,q⟩
  have la:((d.A0.map V.ref).length:Int)=st.size:=by rw[Q0];exact hb.row0.la
  refine⟨_,rfl,a,_,dx,_,_,rfl,ho,T.aB,T.aQ,f7,d.tb,_,_,_,rfl,rfl,SqL.of hx,x0,?_⟩
  refine⟨_,rfl,_,rfl,d.r0,_,rfl,.inl (SqL.of hb.row0.lst),k,_,rfl,by rw[la];omega,?_⟩
  dsimp only
  rw[la]
  refine⟨_,rfl,_,rfl,a,_,dx,_,_,rfl,ho,T.aB,T.bF,vq,_,_,rfl,rfl,_,rfl,bB (λc=>?_) (λc=>?_)⟩
  ·have c:=of_decide_eq_true c
   obtain⟨x,e1⟩:=cE (l:=d.A0) m0 (by rw[hb.row0.la];exact m1)
   obtain⟨y,e2⟩:=cE (l:=d.C0) m0 (by rw[hb.row0.lc];exact m1)
   exact⟨_,rfl,_,rfl,d.r0,_,_,_,rfl,rfl,SqL.of hb.row0.lst,qD m0 e1,q x y (.inl ⟨c,e1,e2⟩)⟩
  ·have c:¬st.moved≤k%65536%st.size:=λz=>c (decide_eq_true z)
   cases e:st.nxt with
   |none=>rw[SSt.moved_none e]at c;exact absurd m0 c
   |some m=>
    have hm:=SSt.moved_some e
    obtain⟨pm,_⟩:=z.nx m e
    obtain⟨s6,_⟩:=bH pm
    obtain⟨n0,n1,n2⟩:=nN (k:=k) s6
    have r1:=hb.row1
    rw[e]at r1
    have ht:=hb.tbl
    rw[e]at ht
    have lb:((d.A1.map V.ref).length:Int)=m:=by rw[Q0];exact r1.la
    obtain⟨x,e1⟩:=cE (l:=d.A1) n0 (by rw[r1.la];exact n1)
    obtain⟨y,e2⟩:=cE (l:=d.C1) n0 (by rw[r1.lc];exact n1)
    refine⟨_,rfl,a,_,dx,_,_,rfl,ho,T.aB,T.aQ,f7,d.tb,_,_,_,rfl,rfl,SqL.of ht,rfl,?_⟩
    refine⟨_,rfl,_,rfl,_,rfl,d.r1,_,rfl,.inl (SqL.of r1.lst),k,_,rfl,by rw[lb];omega,?_⟩
    dsimp only
    rw[lb]
    exact⟨d.r1,_,_,_,rfl,rfl,SqL.of r1.lst,qD n0 e1,q x y (.inr ⟨m,e,by omega,e1,e2⟩)⟩
theorem bi {n:Nat} (h:n≤100000):n<sizeLine:=ZY h (by decide)
theorem EI {n:Nat} {z:Int} (h0:0≤z) (h1:z<n):ixN n z=some z.toNat:=by unfold ixN;rw[if_pos h0,if_pos h1]
theorem nO {kv:List (Int×V)} {i:Nat} {k:Key} {v:V} (e:(aI kv)[i]?=some (k,v)):∃n:Int,k=Sum.inl n∧kv[i]?=some (n,v):=by
 unfold aI at e
 rw[QA]at e
 cases q:kv[i]? with
 |none=>rw[q]at e;cases e
 |some p=>rw[q]at e;cases e;exact⟨p.1,rfl,rfl⟩
theorem zX {m:Int} {kv:List (Int×V)} {C:List (List (Int×V))} {i:Nat} {p:Int×V} (e:kv[i]?=some p):(kv.take (i+1)).foldl (eI m) C=eI m ((kv.take i).foldl (eI m) C) p:=by
 rw[Qr,e,List.foldl_append]
 rfl
theorem eL (T:Txt K mg t):FnOk P w K mg base CX0 3 t.fW t.cY ["self"] (ko t):=by
 have Yt:= @qm P w K mg base t T
 refine T.xM.ok sc_Slots__move_slot (λvs H Q E h=>?_) (λcdv A outer s H vs Q E hr h=>?_)
 ·obtain⟨a,st,d,rfl,_⟩:=h
  rfl
 ·obtain⟨a,st,d,rfl,hb,z,hl,q⟩:=h
  refine⟨_,(ac (aR (au bL (az aA (by rfl) T.bC aZ (aa (aC (pv 0) rfl) ah)) af (aq _))
   (ai mi)
   aE)
   (ac (ar (i:=1) sc_Slots__move_slot.nd rfl (Or.inl rfl) (aU aN (aC (pv 0) rfl) af (λ_ _=>rfl)))
   (ac (ar (i:=2) sc_Slots__move_slot.nd rfl (Or.inl rfl) (aU aN (aC (pv 0) rfl) af (λ_ _=>rfl)))
   (ac (uy (gH PassesOwn.never rfl (vC (An Zr X6 PySem.F.type_dict_items vK (aU aN (pv 1) (aC (pv 0) rfl) (λ_ _=>rfl)))) (qk rfl (cq (bx (i:=3) sc_Slots__move_slot.nd rfl (Or.inl rfl)) (cq (bx (i:=4) sc_Slots__move_slot.nd rfl (Or.inl rfl)) mj)))
   (ai (pf (kG hr) (aU aN (pv 2) (aJ Yt (hr.mono (by decide)) (by rfl) T.tD T.oh.kp T.tX .nil aD (aa (pv 3) (aa (az aA (by rfl) T.bC aZ (aa (pv 2) ah)) ah))) (λ_ _=>rfl)) (pv 3) (pv 4) rfl))))
   (ac (nG g9 (xg (pv 1) (aC (pv 0) rfl) pZ))
   (ac (j5 (pv 0) af xw)
   (ai (aR (au bL (aC (pv 0) rfl) (az aA (by rfl) T.bC aZ (aa (pv 1) ah)) (aq _))
   (ac (b5 (pv 0) (bN (aa (pv 2) ah)) rfl)
   (ai (b5 (pv 0) af rfl)))
   aE))))))))
   ,?_⟩
  obtain⟨dx,ho⟩:=hb.obj
  have ht:=hb.tbl
  cases e:st.nxt with
  |none=>
   rw[e]at ht
   refine⟨_,rfl,a,_,dx,_,_,rfl,ho,T.aB,T.aQ,f7,d.tb,_,rfl,.inl (SqL.of ht),rfl,_,rfl,eY rfl ?_⟩
   have e1:st.one=st:=by unfold SSt.one;rw[e]
   rw[e1]at q
   exact q H d hb rfl Fr.refl
  |some m=>
   rw[e]at ht
   refine⟨_,rfl,a,_,dx,_,_,rfl,ho,T.aB,T.aQ,f7,d.tb,_,rfl,.inl (SqL.of ht),rfl,_,rfl,bg (λz=>by cases z) ?_⟩
   refine⟨_,rfl,a,_,dx,_,_,rfl,ho,T.aB,T.aQ,f7,d.tb,_,_,_,rfl,rfl,SqL.of ht,rfl,?_⟩
   refine⟨_,rfl,a,_,dx,_,_,rfl,ho,T.aB,T.aQ,f7,d.tb,_,_,_,rfl,rfl,SqL.of ht,rfl,?_⟩
   obtain⟨pm,v0,v1,_⟩:=z.nx m e
   obtain⟨s4,s5⟩:=bH z.pw
   obtain⟨s6,s7⟩:=bH pm
   have hm:=SSt.moved_some e
   rw[hm]at ho
   have r1:=hb.row1
   rw[e]at r1
   obtain⟨c0,ec⟩:=cE (l:=d.A0) v0 (by rw[hb.row0.la];exact v1)
   obtain⟨kv,ek⟩:=cE (l:=d.C0) v0 (by rw[hb.row0.lc];exact v1)
   have hc0:=hb.row0.cell _ _ _ ec ek
   have lb:((d.A1.map V.ref).length:Int)=m:=by rw[Q0];exact r1.la
   have c0A:c0∉d.A1:=hb.dis c0 (Q1 ec)
   have r1c:d.r1≠c0:=bZ r1.lst hc0 (by intro z;cases z)
   have kvl:=hb.short0 z ek
   have keepA:∀b,b=d.r1∨b∈d.A1→∃o,H b=some o:=λb hb1=>by
    rcases hb1 with rfl|hb1
    ·exact⟨_,r1.lst⟩
    ·obtain⟨_,_,_,_,w⟩:=r1.has hb1
     exact⟨_,w⟩
   refine⟨c0,aI kv,hc0,_,rfl,_,rfl,a,_,dx,_,_,rfl,ho,T.aB,T.bF,vq,d.r0,_,_,_,rfl,rfl,SqL.of hb.row0.lst,qD v0 ec,.inr (.inr (.inl ⟨rfl,.inl ⟨_,hc0⟩⟩)),c0,aI kv,rfl,rfl,hc0,λvw nv=>?_⟩
   have hc1:upd H vw (vwO vw c0) c0=some (.dK (aI kv)):=by rw[ae (al hc0 nv)];exact hc0
   refine⟨vw,c0,aI kv,rfl,ag,hc1,λob=>?_⟩
   refine qP (λi σ H'=>∃v3 v4,σ=[some (.ref a),some (.ref d.r0),some (.ref d.r1),v3,v4]∧RowOk H' d.r1 d.A1 ((kv.take i).foldl (eI m) d.C1) m∧H' c0=some (.frz ob (.dK (aI kv)))∧∀b o,b∉d.A1→b≠c0→H b=some o→H' b=some o)
    ⟨_,_,rfl,?_,ag,λb o _ n2 e=>?_⟩ (λi σ H' _ ⟨_,_,_,_,hf,_⟩=>hf) (λi k v p σ H' ei ⟨v3,v4,eσ,hr,hf,hk⟩ np=>?_) (λσ H' ⟨v3,v4,eσ,hr,hf,hk⟩=>?_)
   ·refine RowOk.frame (H:=H) r1 λb hb1=>?_
    obtain⟨o,w⟩:=keepA b hb1
    have n2:b≠c0:=by
     rcases hb1 with rfl|hb1
     ·exact r1c
     ·exact λz=>c0A (z▸hb1)
    rw[ae n2,ae (al w nv)]
   ·rw[ae n2,ae (al e nv)]
    exact e
   ·subst eσ
    obtain⟨n,rfl,en⟩:=nO ei
    have hr2:RowOk (upd H' p (.tup [kV (Sum.inl n),v])) d.r1 d.A1 ((kv.take i).foldl (eI m) d.C1) m:=hr.frame λb hb1=>ae λw=>by
     have:∃o,H' b=some o:=by
      rcases hb1 with rfl|hb1
      ·exact⟨_,hr.lst⟩
      ·obtain⟨_,_,_,_,w⟩:=hr.has hb1
       exact⟨_,w⟩
     obtain⟨o,q⟩:=this
     rw[w,np]at q
     cases q
    obtain⟨n0,n1,n2⟩:=nN (k:=n) s6
    obtain⟨c,e1⟩:=cE (l:=d.A1) n0 (by rw[hr2.la];exact n1)
    obtain⟨y,e2⟩:=cE (l:=(kv.take i).foldl (eI m) d.C1) n0 (by rw[hr2.lc];exact n1)
    obtain⟨y0,e3⟩:=cE (l:=d.C1) n0 (by rw[r1.lc];exact n1)
    have yl:=vM e3 e2
    have y0l:=hb.short1 z e e3
    have tl:(kv.take i).length≤kv.length:=by rw[Q7];omega
    have hc:=hr2.cell _ _ _ e1 e2
    have cA:c∈d.A1:=Q1 e1
    refine⟨p,_,rfl,SqT.of ag,rfl,_,_,rfl,_,_,rfl,rfl,?_⟩
    refine⟨_,rfl,_,rfl,_,rfl,_,rfl,d.r1,_,rfl,.inl (SqL.of hr2.lst),n,_,rfl,by rw[lb];omega,?_⟩
    dsimp only
    rw[lb]
    refine⟨d.r1,_,_,_,rfl,rfl,SqL.of hr2.lst,qD n0 e1,_,rfl,c,_,rfl,DPut.k (k:=Sum.inl n) hc (by rw[bG];exact bi (by omega)),?_⟩
    rw[dQ]
    have pn:∀b o,H' b=some o→b≠p:=λb o q=>al q np
    refine⟨_,_,rfl,?_,?_,λb o nA nc q=>?_⟩
    ·rw[zX en]
     exact hr2.mov s6 e1 e2
    ·rw[ae (λw=>c0A (by rw[w];exact cA)),ae (pn _ _ hf)]
     exact hf
    ·have q:=hk b o nA nc q
     rw[ae (λw=>nA (by rw[w];exact cA)),ae (pn _ _ q)]
     exact q
   ·subst eσ
    rw[bG,QJ]at hr
    refine⟨ob,hf,λb' nb=>?_⟩
    have hF:∀b,¬SlF a st d b→b∉d.A1∧b≠c0∧b≠a∧b≠d.r0∧b≠d.tb∧b≠d.r1:=λb n=>
     ⟨λq=>n (.inr (.inr (.inr (.inr (.inr q))))),λq=>n (.inr (.inr (.inr (.inl (q▸Q1 ec))))),λq=>n (.inl q),λq=>n (.inr (.inr (.inl q))),λq=>n (.inr (.inl q)),λq=>n (.inr (.inr (.inr (.inr (.inl ⟨by rw[e];rfl,q⟩)))))⟩
    have inA1:∀b o,H b=some o→(∀kvs,o≠ .dK kvs)→b∉d.A1:=λb o q ne w=>(r1.notr w q ne) rfl
    have K1:∀b o,b∉d.A1→b≠c0→H b=some o→upd H' c0 (.dK (aI kv)) b=some o:=λb o n1 n2 q=>by rw[ae n2];exact hk b o n1 n2 q
    have hr3:RowOk (upd H' c0 (.dK (aI kv))) d.r1 d.A1 (kv.foldl (eI m) d.C1) m:=hr.frame λb hb1=>ae (by
     rcases hb1 with rfl|hb1
     ·exact r1c
     ·exact λw=>c0A (w▸hb1))
    have hc3:upd H' c0 (.dK (aI kv)) c0=some (.dK (aI kv)):=ag
    generalize upd H' c0 (.dK (aI kv))=H3 at nb K1 hr3 hc3⊢
    have ho3:=K1 a _ (inA1 _ _ ho (λ_ w=>by cases w)) (bZ ho hc0 (by intro w;cases w)) ho
    have hr0:=hb.row0.lst
    have hr03:=K1 d.r0 _ (inA1 _ _ hr0 (λ_ w=>by cases w)) (bZ hr0 hc0 (by intro w;cases w)) hr0
    have ht3:=K1 d.tb _ (inA1 _ _ ht (λ_ w=>by cases w)) (bZ ht hc0 (by intro w;cases w)) ht
    have nbF:¬SlF a st d b':=λw=>by
     rcases w with w|w|w|w|⟨_,w⟩|w
     ·rw[w,ho3]at nb;cases nb
     ·rw[w,ht3]at nb;cases nb
     ·rw[w,hr03]at nb;cases nb
     ·obtain⟨j,kv1,f1,f2,f3⟩:=hb.row0.has w
      by_cases y:b'=c0
      ·rw[y,hc3]at nb;cases nb
      ·rw[K1 b' _ (hb.dis b' w) y f3]at nb;cases nb
     ·rw[w,hr3.lst]at nb;cases nb
     ·obtain⟨_,_,_,_,w'⟩:=hr3.has w
      rw[w']at nb;cases nb
    have lA:((d.A0.map V.ref).length:Int)=st.size:=by rw[Q0];exact hb.row0.la
    have bo:∀{x:Addr} {o:HO},H3 x=some o→x≠b':=λq=>al q nb
    refine⟨_,rfl,_,rfl,a,_,dx,_,_,rfl,(by rw[ae (bo ho3)];exact ho3),T.aB,T.bF,vq,d.r0,_,_,_,rfl,rfl,(by rw[ae (bo hr03)];exact hr03),EI v0 (by rw[lA];exact v1),?_⟩
    have g0:H3 d.r1=some (.lst (d.A1.map V.ref)):=hr3.lst
    have ra:d.r0≠a:=bZ hr0 ho (by intro w;cases w)
    have r01:d.r0≠d.r1:=(hb.tr1 (by rw[e];rfl)).2
    have t1:d.tb≠d.r1:=(hb.tr1 (by rw[e];rfl)).1
    have ta:d.tb≠a:=bZ ht ho (by intro w;cases w)
    have r1a:d.r1≠a:=bZ r1.lst ho (by intro w;cases w)
    have cellsA:∀b∈d.A1,b≠b'∧b≠d.r0∧b≠a:=λb w=>by
     obtain⟨_,_,_,_,f⟩:=hr3.has w
     exact⟨bo f,bZ f hr03 (by intro w;cases w),bZ f ho3 (by intro w;cases w)⟩
    have es:(d.A0.map V.ref).set st.mv.toNat (V.ref b')=(d.A0.set st.mv.toNat b').map V.ref:=by rw[List.map_set]
    rw[es]
    have ho5:upd (upd H3 b' (.dK [])) d.r0 (.lst ((d.A0.set st.mv.toNat b').map V.ref)) a=some (.ins t.aT dx (slF d.tb st.mv d.n)):=by rw[ae ra.symm,ae (bo ho3)];exact ho3
    refine⟨_,rfl,a,_,dx,_,_,rfl,ho5,T.aB,T.bF,vq,_,_,rfl,rfl,dx,_,ho5,lW,?_⟩
    rw[DD]
    have H6r0:∀{o:HO},upd (upd (upd H3 b' (.dK [])) d.r0 (.lst ((d.A0.set st.mv.toNat b').map V.ref))) a o d.r0=some (.lst ((d.A0.set st.mv.toNat b').map V.ref)):=by
     intro o
     rw[ae ra,ag]
    have lS:(((d.A0.set st.mv.toNat b').map V.ref).length:Int)=st.size:=by rw[Q0,QH];exact hb.row0.la
    refine⟨_,rfl,a,_,dx,_,_,rfl,ag,T.aB,T.bF,vq,_,rfl,d.r0,_,rfl,.inl (SqL.of H6r0),rfl,_,rfl,?_⟩
    rw[lS]
    have row6:∀{o:HO},RowOk (upd (upd (upd H3 b' (.dK [])) d.r0 (.lst ((d.A0.set st.mv.toNat b').map V.ref))) a o) d.r1 d.A1 (kv.foldl (eI m) d.C1) m:=λ{o}=>hr3.frame λb hb1=>by
     have:b≠b'∧b≠d.r0∧b≠a:=by
      rcases hb1 with rfl|hb1
      ·exact⟨bo g0,r01.symm,r1a⟩
      ·exact cellsA b hb1
     rw[ae this.2.2,ae this.2.1,ae this.1]
    have K6:∀{o':HO} (b:Addr) (o:HO),¬SlF a st d b→H b=some o→upd (upd (upd H3 b' (.dK [])) d.r0 (.lst ((d.A0.set st.mv.toNat b').map V.ref))) a o' b=some o:=λ{o'} b o n q=>by
     obtain⟨f1,f2,f3,f4,_⟩:=hF b n
     have q3:=K1 b o f1 f2 q
     rw[ae f3,ae f4,ae (bo q3)]
     exact q3
    refine bB (λc=>?_) (λc=>?_)
    ·have c:st.mv+1=st.size:=V.int.inj (of_decide_eq_true c)
     refine⟨_,rfl,(by show 1≤sizeLine;decide),λtb' nt=>⟨_,rfl,a,_,dx,_,rfl,(by rw[ae (al ag nt)];exact ag),T.aB,T.aQ,lW,?_⟩⟩
     rw[Fz]
     refine⟨_,rfl,a,_,dx,_,rfl,ag,T.aB,T.bF,lW,?_⟩
     rw[DD,da]
     have nta:tb'≠a:=(al ag nt).symm
     have nt1:tb'≠d.r1:=(al (row6 (o:= .ins t.aT dx (slF d.tb (st.mv+1) d.n))).lst nt).symm
     refine q _ _ (hb.last z e ek (tb':=tb') (dx:=dx) c ag (by rw[ae nta];exact ag) nt1 ?_) rfl (λb o n w=>?_)
     ·refine(row6 (o:= .ins t.aT dx (slF d.tb (st.mv+1) d.n))).frame λb hb1=>?_
      have:b≠a:=by
       rcases hb1 with rfl|hb1
       ·exact r1a
       ·exact(cellsA b hb1).2.2
      rw[ae this,ae (λw=>?_)]
      obtain⟨o,f⟩:∃o,upd (upd (upd H3 b' (.dK [])) d.r0 (.lst ((d.A0.set st.mv.toNat b').map V.ref))) a (.ins t.aT dx (slF d.tb (st.mv+1) d.n)) b=some o:=by
       rcases hb1 with rfl|hb1
       ·exact⟨_,row6.lst⟩
       ·obtain⟨_,_,_,_,f⟩:=row6.has hb1
        exact⟨_,f⟩
      rw[w,nt]at f
      cases f
     ·obtain⟨f1,f2,f3,f4,f5,f6⟩:=hF b n
      have k6:=K6 (o':= .ins t.aT dx (slF d.tb (st.mv+1) d.n)) b o n w
      have bt:b≠tb':=al k6 nt
      refine⟨by rw[ae f3,ae bt];exact k6,λy=>?_⟩
      rcases y with y|y|y|y|⟨_,y⟩|y
      ·exact f3 y
      ·exact bt y
      ·exact f6 y
      ·exact f1 y
      ·exact f6 y
      ·cases y
    ·have c:st.mv+1≠st.size:=λw=>c (decide_eq_true (by rw[w]))
     refine q _ _ (hb.one z e ek (b':=b') (dx:=dx) c ag (by rw[ae ta,ae hb.tr,ae (bo ht3),ht3,hb.tbl,e]) H6r0 ?_ nbF (λj b f1 f2=>?_) row6) rfl (λb o n w=>⟨K6 b o n w,λy=>?_⟩)
     ·have n1:b'≠a:=(bo ho3).symm
      have n2:b'≠d.r0:=(bo hr03).symm
      rw[ae n1,ae n2]
      exact ag
     ·have bA:=Q1 f1
      obtain⟨_,kv1,_,_,f⟩:=hb.row0.has bA
      have nc:b≠c0:=λw=>f2 (hb.row0.inj j _ c0 (w▸f1) ec)
      have f3:=K1 b _ (hb.dis b bA) nc f
      rw[ae (bZ f3 ho3 (by intro w;cases w)),ae (bZ f3 hr03 (by intro w;cases w)),ae (bo f3),f3,f]
     ·obtain⟨f1,f2,f3,f4,f5,f6⟩:=hF b n
      rcases y with y|y|y|y|⟨_,y⟩|y
      ·exact f3 y
      ·exact f5 y
      ·exact f4 y
      ·obtain⟨j,hj,ej⟩:=Qy (show b∈d.A0.set st.mv.toNat b' from y)
       rcases cR (Q2.mpr ⟨hj,ej⟩)with⟨_,g⟩|⟨_,g⟩
       ·have:=K1 b o f1 f2 w
        rw[g,nb]at this
        cases this
       ·exact n (.inr (.inr (.inr (.inl (Q1 g)))))
      ·exact f6 y
      ·exact f1 y
theorem eO (T:Txt K mg t):FnOk P w K mg base CX0 2 t.fX t.cZ ["self"] (kq t):=by
 obtain⟨tk_GREATEST_SIZE,hGREATEST_SIZE⟩:=T.zL
 obtain⟨tk_LEAST_SIZE,hLEAST_SIZE⟩:=T.uQ
 have Yj:= @mr P w K mg base t T
 refine T.xN.ok sc_Slots__begin_row (λvs H Q E h=>?_) (λcdv A outer s H vs Q E hr h=>?_)
 ·obtain⟨a,st,d,rfl,_⟩:=h
  rfl
 ·obtain⟨a,st,d,rfl,hb,z,hn,q⟩:=h
  refine⟨_,(ac (aR (au bL (az aA (by rfl) T.bC aZ (aa (aC (pv 0) rfl) ah)) af (aq _))
   (ai mi)
   aE)
   (ac (ar (i:=1) sc_Slots__begin_row.nd rfl (Or.inl rfl) (az aA (by rfl) T.bC aZ (aa (aU aN (aC (pv 0) rfl) af (λ_ _=>rfl)) ah)))
   (ai (aR (PW.pt (dM (au sZ (aC (pv 0) rfl) (pv 1) (aq _)) (cT (au c6 (pv 1) (bE (v:= .int 256) (by rfl) hGREATEST_SIZE ⟨_,rfl⟩) (aq _)))))
   (ai (aS (dH Qq Z1 Z2 dN (aC (pv 0) rfl) (aa (aJ Yj (hr.mono (by decide)) (by rfl) T.ot T.jY.kp T.oE .nil aD (aa (am cy (pv 1) af) ah)) ah))))
   (ai (aR (PW.pt (dM (au c6 (am cy af (aC (pv 0) rfl)) (pv 1) (aq _)) (cT (au sZ (pv 1) (bE (v:= .int 4) (by rfl) hLEAST_SIZE ⟨_,rfl⟩) (aq _)))))
   (ai (aS (dH Qq Z1 Z2 dN (aC (pv 0) rfl) (aa (aJ Yj (hr.mono (by decide)) (by rfl) T.ot T.jY.kp T.oE .nil aD (aa (am aP (pv 1) af) ah)) ah))))
   aE))))))
   ,?_⟩
  obtain⟨dx,ho⟩:=hb.obj
  have ht:=hb.tbl
  cases e:st.nxt with
  |some m=>
   rw[e]at ht
   refine⟨_,rfl,a,_,dx,_,_,rfl,ho,T.aB,T.aQ,f7,d.tb,_,rfl,.inl (SqL.of ht),rfl,_,rfl,eY rfl ?_⟩
   have e1:st.three=st:=by unfold SSt.three;rw[e]
   rw[e1]at q
   exact q H d hb rfl Fr.refl
  |none=>
   rw[e]at ht
   refine⟨_,rfl,a,_,dx,_,_,rfl,ho,T.aB,T.aQ,f7,d.tb,_,rfl,.inl (SqL.of ht),rfl,_,rfl,bg (λz=>by cases z) ?_⟩
   have la:((d.A0.map V.ref).length:Int)=st.size:=by rw[Q0];exact hb.row0.la
   obtain⟨pw4,pw5⟩:=bH z.pw
   refine⟨_,rfl,a,_,dx,_,_,rfl,ho,T.aB,T.aQ,f7,d.tb,_,_,_,rfl,rfl,SqL.of ht,rfl,d.r0,_,rfl,.inl (SqL.of hb.row0.lst),?_⟩
   dsimp only
   rw[la]
   have fin:∀{m:Int} {H':Hp} {r:Addr} {A:List Addr},st.three={st with nxt:=some m,mv:=0}→Same H H'→H r=none→(∀b∈A,H b=none)→RowOk H' r A (List.replicate m.toNat []) m→H' d.tb=some (.lst [.ref d.r0])∧Q .non (upd H' d.tb (.lst ([.ref d.r0]++ [.ref r]))):=λ{m H' r A} e3 s nr nA hr=>by
    have ht':=s _ _ ht
    have notF:∀b,SlF a st d b→∃o,H b=some o:=λb w=>hb.dom w
    have nrF:¬SlF a st d r:=λw=>by obtain⟨o,q⟩:=notF r w;rw[nr]at q;cases q
    have nAF:∀b∈A,¬SlF a st d b:=λb hA w=>by obtain⟨o,q⟩:=notF b w;rw[nA b hA]at q;cases q
    refine⟨ht',?_⟩
    have sb:=hb.begin (H':=upd H' d.tb (.lst [.ref d.r0,.ref r])) e (m:=m) (r:=r) (A:=A) (by rw[ae (bZ ho ht (by intro w;cases w)),s _ _ ho,ho]) ag (λb hb1=>?_) (hr.frame λb hb1=>ae ?_) nrF nAF
    ·rw[←e3]at sb
     refine q _ _ sb rfl λb o n w=>⟨?_,λy=>?_⟩
     ·rw[ae (λv=>n (.inr (.inl v)))];exact s _ _ w
     ·rw[e3]at y
      rcases y with y|y|y|y|⟨_,y⟩|y
      ·exact n (.inl y)
      ·exact n (.inr (.inl y))
      ·exact n (.inr (.inr (.inl y)))
      ·exact n (.inr (.inr (.inr (.inl y))))
      ·have y:b=r:=y
       rw[y,nr]at w;cases w
      ·rw[nA b y]at w;cases w
    ·obtain⟨o,q⟩:=notF b (by
      rcases hb1 with w|w
      ·exact .inr (.inr (.inl w))
      ·exact .inr (.inr (.inr (.inl w))))
     have:b≠d.tb:=by
      rcases hb1 with w|w
      ·rw[w];exact hb.tr.symm
      ·exact hb.row0.notr w ht (λ_ z=>by cases z)
     rw[ae this,s _ _ q,q]
    ·rcases hb1 with w|w
     ·rw[w];exact λv=>by rw[v,ht]at nr;cases nr
     ·exact λv=>by have:=nA b w;rw[v,ht]at this;cases this
   by_cases cA:st.size<d.n∧st.size<256
   ·have e3:st.three={st with nxt:=some (2*st.size),mv:=0}:=by
     unfold SSt.three
     rw[e]
     exact if_pos (by rw[←hn];exact cA)
    refine⟨_,rfl,a,_,dx,_,_,rfl,ho,T.aB,T.bu,lX,_,rfl,_,_,rfl,rfl,_,rfl,jf cA.1 ⟨_,rfl,_,_,rfl,rfl,_,rfl,jf cA.2 ?_⟩⟩
    refine⟨_,rfl,a,_,dx,_,_,rfl,ho,T.aB,T.aQ,f7,.inl ⟨rfl,_,SqL.of ht⟩,_,rfl,_,_,rfl,rfl,.inr ⟨by decide,by decide⟩,_,rfl,by omega,by omega,λH' r A s nr nA hr=>?_⟩
    obtain⟨f1,f2⟩:=fin (m:=st.size*2) (by rw[e3,Xa]) s nr nA hr
    exact⟨d.tb,_,_,rfl,rfl,f1,b4 (by show 1≤1000;decide),f2⟩
   ·by_cases cB:4*d.n<st.size∧4<st.size
    ·have e3:st.three={st with nxt:=some (st.size/2),mv:=0}:=by
      unfold SSt.three
      rw[e]
      exact(if_neg (by rw[←hn];exact cA)).trans (if_pos (by rw[←hn];exact cB))
     have c1:¬st.size<d.n:=by omega
     refine⟨_,rfl,a,_,dx,_,_,rfl,ho,T.aB,T.bu,lX,_,rfl,_,_,rfl,rfl,_,rfl,bg c1 ?_⟩
     refine⟨_,rfl,a,_,dx,_,_,rfl,ho,T.aB,T.bu,lX,_,_,rfl,rfl,.inl ⟨by decide,by decide⟩,_,rfl,_,_,rfl,rfl,_,rfl,jf cB.1 ⟨_,rfl,_,_,rfl,rfl,_,rfl,jf cB.2 ?_⟩⟩
     refine⟨_,rfl,a,_,dx,_,_,rfl,ho,T.aB,T.aQ,f7,.inl ⟨rfl,_,SqL.of ht⟩,_,rfl,_,_,rfl,rfl,⟨by decide,by decide⟩,_,rfl,by omega,by omega,λH' r A s nr nA hr=>?_⟩
     obtain⟨f1,f2⟩:=fin (m:=st.size/2) e3 s nr nA hr
     exact⟨d.tb,_,_,rfl,rfl,f1,b4 (by show 1≤1000;decide),f2⟩
    ·have e3:st.three=st:=by
      unfold SSt.three
      rw[e]
      exact(if_neg (by rw[←hn];exact cA)).trans (if_neg (by rw[←hn];exact cB))
     rw[e3]at q
     have q0:=q H d hb rfl Fr.refl
     by_cases c1:st.size<d.n
     ·have c2:¬st.size<256:=λw=>cA ⟨c1,w⟩
      have c3:¬4*d.n<st.size:=by omega
      refine⟨_,rfl,a,_,dx,_,_,rfl,ho,T.aB,T.bu,lX,_,rfl,_,_,rfl,rfl,_,rfl,jf c1 ⟨_,rfl,_,_,rfl,rfl,_,rfl,bg c2 ?_⟩⟩
      exact⟨_,rfl,a,_,dx,_,_,rfl,ho,T.aB,T.bu,lX,_,_,rfl,rfl,.inl ⟨by decide,by decide⟩,_,rfl,_,_,rfl,rfl,_,rfl,bg c3 q0⟩
     ·refine⟨_,rfl,a,_,dx,_,_,rfl,ho,T.aB,T.bu,lX,_,rfl,_,_,rfl,rfl,_,rfl,bg c1 ?_⟩
      refine⟨_,rfl,a,_,dx,_,_,rfl,ho,T.aB,T.bu,lX,_,_,rfl,rfl,.inl ⟨by decide,by decide⟩,_,rfl,_,_,rfl,rfl,_,rfl,?_⟩
      by_cases c3:4*d.n<st.size
      ·exact jf c3 ⟨_,rfl,_,_,rfl,rfl,_,rfl,bg (λw=>cB ⟨c3,w⟩) q0⟩
      ·exact bg c3 q0
section
variable {H H':Hp} {a c:Addr} {st:SSt} {d:SlD}
theorem SlB.put (h:SlB t H a st d) (z:SzOk st) {k:Int} {kv:List (Int×V)} (ic:IsCell d st k c kv) (v:V):
  ∃d',SlB t (upd H c (.dK (aI (bj kv k v)))) a {st with kv:=bj st.kv k v} d'∧d'.n=d.n∧∀b,SlF a {st with kv:=bj st.kv k v} d' b↔SlF a st d b:=
 h.setCell z ic (xk (h.at ic).2.2) (λ_ hp=>qB hp) (by rw[fq,fq,if_pos rfl,if_pos rfl]) λj hj=>⟨by rw[fq,if_neg hj],by rw[fq,if_neg hj]⟩
theorem SlB.drop (h:SlB t H a st d) (z:SzOk st) {k:Int} {kv:List (Int×V)} (ic:IsCell d st k c kv):
  ∃d',SlB t (upd H c (.dK (aI (bK kv k)))) a {st with kv:=bK st.kv k} d'∧d'.n=d.n∧∀b,SlF a {st with kv:=bK st.kv k} d' b↔SlF a st d b:=
 h.setCell z ic (mt (h.at ic).2.2) (λ_ hp=> .inl (tL hp)) (by rw[dI,dI,if_pos rfl,if_pos rfl]) λj hj=>⟨by rw[dI,if_neg hj],by rw[dI,if_neg hj]⟩
theorem SlB.insM (h:SlB t H a st d):∃dx fs,H a=some (.ins t.aT dx fs)∧∀m,NoM m→fs.lookup m=none:=by
 obtain⟨dx,ho⟩:=h.obj
 exact⟨dx,_,ho,λm hm=>Dy hm⟩
theorem SSt.one_kv:st.one.kv=st.kv:=by
 unfold SSt.one
 cases st.nxt with
 |none=>rfl
 |some m=>show(if _ then _ else _:SSt).kv=_;split<;>rfl
theorem SSt.three_kv:st.three.kv=st.kv:=by
 unfold SSt.three
 cases st.nxt with
 |some m=>rfl
 |none=>show(if _ then _ else _:SSt).kv=_;split;rfl;split<;>rfl
theorem yg {kv:List (Int×V)} {k:Int} {v:V}:((bj kv k v).length:Int)=if(aL kv k).isSome=true then(kv.length:Int)else kv.length+1:=by
 have:=congrArg List.length (mD (kv:=kv) (k:=k) (v:=v))
 rw[Q0]at this
 split
 ·rename_i c;rw[if_pos c,Q0]at this;omega
 ·rename_i c;rw[if_neg c,Q8,Q0]at this;simp at this;omega
end
theorem kC (T:Txt K mg t):FnOk P w K mg base CX0 4 t.mT t.iX ["self","key"] (rJ K t):=by
 have Jr:= @b8 P w K mg base t T
 refine T.Dm.ok rQ (λvs H Q E h=>?_) (λcdv A outer s H vs Q E hr h=>?_)
 ·obtain⟨a,k,F,st,rfl,_⟩:=h
  rfl
 ·obtain⟨a,k,F,st,rfl,⟨d,hb,hF,hn,nd,z⟩,h0,q⟩:=h
  refine⟨_,(ai (aF (En (Ao (kG hr) (pv 1) (aV (pv 0) T.aB T.dO Jr (hr.mono (by decide)) T.dU .nil aD (aa (pv 1) ah))))))
   ,?_⟩
  obtain⟨dx,fs,hi,hm⟩:=hb.insM
  refine⟨_,rfl,_,rfl,a,dx,fs,rfl,hi,hm _ (by decide+kernel),_,rfl,a,k,st,d,rfl,hb,z,λc kv ic=>?_⟩
  obtain⟨hc,_,_⟩:=hb.at ic
  refine⟨c,_,rfl,DGet.k (k:=Sum.inl k) hc,?_⟩
  rw[liftK_val,hb.val k c kv ic]
  exact q H F ⟨d,hb,hF,hn,nd,z⟩ Fr.refl
theorem sd (T:Txt K mg t):FnOk P w K mg base CX0 4 t.mU t.iY ["self","key"] (rK K t):=by
 have Jr:= @b8 P w K mg base t T
 refine T.Dn.ok sc_Slots__get (λvs H Q E h=>?_) (λcdv A outer s H vs Q E hr h=>?_)
 ·obtain⟨a,k,F,st,rfl,_⟩:=h
  rfl
 ·obtain⟨a,k,F,st,rfl,⟨d,hb,hF,hn,nd,z⟩,h0,q1,q2⟩:=h
  refine⟨_,(ac (ar (i:=2) sc_Slots__get.nd rfl (Or.inl rfl) (aV (pv 0) T.aB T.dO Jr (hr.mono (by decide)) T.dU .nil aD (aa (pv 1) ah)))
   (ac (aR (xb (sX (kG hr) (pv 1) (pv 2)))
   (ai gb)
   aE)
   (ai (aF (xZ (kG hr) (pv 2) (pv 1) (λ_ _=>rfl))))))
   ,?_⟩
  have hA:SlA K t H a F st:=⟨d,hb,hF,hn,nd,z⟩
  obtain⟨dx,fs,hi,hm⟩:=hb.insM
  refine⟨_,rfl,a,dx,fs,rfl,hi,hm _ (by decide+kernel),_,rfl,a,k,st,d,rfl,hb,z,λc kv ic=>?_⟩
  obtain⟨hc,_,_⟩:=hb.at ic
  have hv:=hb.val k c kv ic
  refine⟨_,rfl,_,rfl,c,_,rfl,DGet.k (k:=Sum.inl k) hc,?_⟩
  rw[liftK_val,hv]
  cases e:aL st.kv k with
  |none=>
   refine⟨_,rfl,cC ?_⟩
   exact(q2 e).elim
  |some v=>
   refine⟨_,rfl,cX ?_⟩
   refine⟨_,rfl,_,rfl,c,v,rfl,?_,q1 v e H F hA Fr.refl⟩
   have:=DGet.k (k:=Sum.inl k) hc
   rw[liftK_val,hv,e]at this
   exact this
theorem r9 (T:Txt K mg t):FnOk P w K mg base CX0 4 t.mS t.iW ["self","key","value"] (rH K t):=by
 have Jq:= @eO P w K mg base t T
 have Jr:= @b8 P w K mg base t T
 have Jx:= @eL P w K mg base t T
 refine T.Dl.ok sc_Slots__put (λvs H Q E h=>?_) (λcdv A outer s H vs Q E hr h=>?_)
 ·obtain⟨a,k,i,F,st,rfl,_⟩:=h
  rfl
 ·obtain⟨a,k,i,F,st,rfl,⟨d,hb,hF,hn,nd,z⟩,h0,hl,q⟩:=h
  refine⟨_,(ac (aS (g8 (pv 0) T.aB T.lG Jx (hr.mono (by decide)) T.lQ .nil aD))
   (ac (ar (i:=3) sc_Slots__put.nd rfl (Or.inl rfl) (aV (pv 0) T.aB T.dO Jr (hr.mono (by decide)) T.dU .nil aD (aa (pv 1) ah)))
   (ac (aR (xb (sX (kG hr) (pv 1) (pv 3)))
   (ai (j5 (pv 0) af xw))
   aE)
   (ac (pf (kG hr) (pv 3) (pv 1) (pv 2) rfl)
   (ai (aS (g8 (pv 0) T.aB T.lH Jq (hr.mono (by decide)) T.lR .nil aD)))))))
   ,?_⟩
  obtain⟨dx,fs,hi,hm⟩:=hb.insM
  refine⟨_,rfl,a,dx,fs,rfl,hi,hm _ (by decide+kernel),a,st,d,rfl,hb,z,hl,λH1 d1 hb1 e1 fr1=>?_⟩
  obtain⟨dx1,fs1,hi1,hm1⟩:=hb1.insM
  have z1:=z.one
  refine⟨_,rfl,a,dx1,fs1,rfl,hi1,hm1 _ (by decide+kernel),_,rfl,a,k,st.one,d1,rfl,hb1,z1,λc kv ic=>?_⟩
  obtain⟨hc,cF,_⟩:=hb1.at ic
  have hv:=hb1.val k c kv ic
  have sh:=hb1.short z1 ic
  rw[SSt.one_kv]at hv sh
  obtain⟨dx2,ho1⟩:=hb1.obj
  have na:a≠c:=bZ ho1 hc (by intro w;cases w)
  have key:∀(H2:Hp) (n2:Int),SlB t H2 a st.one {d1 with n:=n2}→Fr (SlF a st d) (SlF a st.one d1) H H2→n2=((bj st.kv k (.int i)).length:Int)→∃d3,SlB t (upd H2 c (.dK (aI (bj kv k (.int i))))) a {st.one with kv:=bj st.one.kv k (.int i)} d3∧d3.n=((bj st.one.kv k (.int i)).length:Int)∧
    ∀H4 d4,SlB t H4 a (SSt.three {st.one with kv:=bj st.one.kv k (.int i)}) d4→d4.n=d3.n→Fr (SlF a {st.one with kv:=bj st.one.kv k (.int i)} d3) (SlF a (SSt.three {st.one with kv:=bj st.one.kv k (.int i)}) d4) (upd H2 c (.dK (aI (bj kv k (.int i))))) H4→Q .non H4:=λH2 n2 hb2 fr2 hn2=>by
   obtain⟨d3,hb3,e3,f3⟩:=hb2.put z1 (kv:=kv) ic (.int i)
   have e3':d3.n=((bj st.one.kv k (.int i)).length:Int):=by rw[e3,SSt.one_kv];exact hn2
   refine⟨d3,hb3,e3',λH4 d4 hb4 e4 fr4=>?_⟩
   rw[SSt.one_kv]at hb4 fr4 f3 e3'
   refine q H4 _ ⟨d4,hb4,λb=>Iff.rfl,?_,?_,?_⟩ ?_
   ·show d4.n=((SSt.three _).kv.length:Int)
    rw[SSt.three_kv,e4,e3']
   ·show((SSt.three _).kv.map (·.1)).Nodup
    rw[SSt.three_kv]
    exact xk nd
   ·exact(z1.kv).three
   ·have step:Fr (SlF a st.one d1) (SlF a {st.one with kv:=bj st.kv k (.int i)} d3) H2 (upd H2 c (.dK (aI (bj kv k (.int i))))):=λb o n w=>⟨by rw[ae (λy=>n (by rw[y];exact cF))];exact w,λy=>n ((f3 b).mp y)⟩
    exact Fr.trans (λb o n w=>fr2 b o (λy=>n ((hF b).mpr y)) w) (Fr.trans step fr4)
  refine⟨_,rfl,_,rfl,c,_,rfl,DGet.k (k:=Sum.inl k) hc,?_⟩
  rw[liftK_val,hv]
  have kl:(aI kv).length<sizeLine:=by rw[bG];exact yS (by omega)
  cases e:aL st.kv k with
  |none=>
   refine⟨_,rfl,cC ?_⟩
   refine⟨_,rfl,a,_,dx2,_,_,rfl,ho1,T.aB,T.bu,lX,_,_,rfl,rfl,dx2,_,ho1,lW,?_⟩
   rw[DE]
   have hb2:=hb1.setN (dx:=dx2) (n:=d1.n+1)
   have hc2:upd H1 a (.ins t.aT dx2 (slF d1.tb st.one.moved (d1.n+1))) c=some (.dK (aI kv)):=by rw[ae na.symm];exact hc
   obtain⟨d3,hb3,n3,fin⟩:=key _ _ hb2 (λb o n w=>⟨by rw[ae (λy=>(fr1 b o n w).2 (.inl y))];exact(fr1 b o n w).1,(fr1 b o n w).2⟩) (by rw[yg,e,e1,hn];rfl)
   refine⟨_,rfl,_,rfl,_,rfl,c,_,rfl,DPut.k (k:=Sum.inl k) hc2 kl,?_⟩
   rw[dQ]
   obtain⟨dx3,fs3,hi3,hm3⟩:=hb3.insM
   exact⟨_,rfl,a,dx3,fs3,rfl,hi3,hm3 _ (by decide+kernel),a,_,d3,rfl,hb3,z1.kv,n3,fin⟩
  |some v=>
   refine⟨_,rfl,cX ?_⟩
   obtain⟨d3,hb3,n3,fin⟩:=key H1 d1.n hb1 fr1 (by rw[yg,e,e1,hn];rfl)
   refine⟨_,rfl,_,rfl,_,rfl,c,_,rfl,DPut.k (k:=Sum.inl k) hc kl,?_⟩
   rw[dQ]
   obtain⟨dx3,fs3,hi3,hm3⟩:=hb3.insM
   exact⟨_,rfl,a,dx3,fs3,rfl,hi3,hm3 _ (by decide+kernel),a,_,d3,rfl,hb3,z1.kv,n3,fin⟩
theorem qt (T:Txt K mg t):FnOk P w K mg base CX0 5 t.kP t.gQ ["self","key"] (pP K t):=by
 have Jq:= @eO P w K mg base t T
 have Jr:= @b8 P w K mg base t T
 have Ju:= @kC P w K mg base t T
 have Jx:= @eL P w K mg base t T
 refine T.BZ.ok p7 (λvs H Q E h=>?_) (λcdv A outer s H vs Q E hr h=>?_)
 ·obtain⟨a,k,F,st,rfl,_⟩:=h
  rfl
 ·obtain⟨a,k,F,st,rfl,hA,h0,q1,q2⟩:=h
  refine⟨_,(ac (aR (iI (bY (aV (pv 0) T.aB T.uH Ju (hr.mono (by decide)) T.uW .nil aD (aa (pv 1) ah))))
   (ai gb)
   aE)
   (ac (aS (g8 (pv 0) T.aB T.lG Jx (hr.mono (by decide)) T.lQ .nil aD))
   (ac (aS (dH Zr Xe PySem.F.type_dict_pop ya (aV (pv 0) T.aB T.dO Jr (hr.mono (by decide)) T.dU .nil aD (aa (pv 1) ah)) (aa (pv 1) ah)))
   (ac (j5 (pv 0) af EK)
   (ai (aS (g8 (pv 0) T.aB T.lH Jq (hr.mono (by decide)) T.lR .nil aD)))))))
   ,?_⟩
  obtain⟨dx,fs,hi,hm⟩:=hA.ins
  refine⟨_,rfl,a,dx,fs,rfl,hi,hm _ (by decide+kernel),_,rfl,a,k,F,st,rfl,hA,h0,λH0 F0 hA0 fr0=>?_⟩
  cases e:aL st.kv k with
  |none=>
   refine⟨_,rfl,cC ?_⟩
   exact(q2 e).elim
  |some v=>
   refine⟨_,rfl,cX ?_⟩
   obtain⟨d,hb,hF,hn,nd,z⟩:=hA0
   obtain⟨dx,fs,hi,hm⟩:=hb.insM
   obtain⟨hl,q1⟩:=q1 (by rw[e];rfl)
   refine⟨_,rfl,a,dx,fs,rfl,hi,hm _ (by decide+kernel),a,st,d,rfl,hb,z,hl,λH1 d1 hb1 e1 fr1=>?_⟩
   obtain⟨dx1,fs1,hi1,hm1⟩:=hb1.insM
   have z1:=z.one
   refine⟨_,rfl,a,dx1,fs1,rfl,hi1,hm1 _ (by decide+kernel),_,rfl,a,k,st.one,d1,rfl,hb1,z1,λc kv ic=>?_⟩
   obtain⟨hc,cF,_⟩:=hb1.at ic
   have hv:=hb1.val k c kv ic
   rw[SSt.one_kv,e]at hv
   obtain⟨d3,hb3,e3,f3⟩:=hb1.drop z1 ic
   rw[SSt.one_kv]at hb3 f3
   refine⟨.inr (.inr (.inl ⟨rfl,.inl ⟨_,hc⟩⟩)),_,rfl,c,_,Sum.inl k,v,rfl,rfl,hc,liftK_val.trans hv,?_⟩
   rw[qG]
   obtain⟨dx3,ho3⟩:=hb3.obj
   refine⟨_,rfl,a,_,dx3,_,_,rfl,ho3,T.aB,T.bu,lX,_,_,rfl,rfl,dx3,_,ho3,lW,?_⟩
   rw[DE]
   have hb4:=hb3.setN (dx:=dx3) (n:=d3.n-1)
   obtain⟨dx4,fs4,hi4,hm4⟩:=hb4.insM
   have dl:=tM nd (pc e)
   have n4:d3.n-1=((bK st.kv k).length:Int):=by rw[e3,e1,hn];omega
   refine⟨_,rfl,a,dx4,fs4,rfl,hi4,hm4 _ (by decide+kernel),a,_,_,rfl,hb4,z1.kv,n4,λH5 d5 hb5 e5 fr5=>?_⟩
   refine q1 H5 _ ⟨d5,hb5,λb=>Iff.rfl,?_,?_,z1.kv.three⟩ ?_
   ·show d5.n=((SSt.three _).kv.length:Int)
    rw[SSt.three_kv,e5]
    exact n4
   ·show((SSt.three _).kv.map (·.1)).Nodup
    rw[SSt.three_kv]
    exact mt nd
   ·refine fr0.trans (Fr.trans (λb o n w=>fr1 b o (λy=>n ((hF b).mpr y)) w) (Fr.trans (λb o n w=>?_) fr5))
    exact⟨by rw[ae (λy=>n (.inl y)),ae (λy=>n (by rw[y];exact cF))];exact w,λy=>n ((f3 b).mp y)⟩
theorem jB (T:Txt K mg t):FnOk P w K mg base CX0 1 t.kN t.gO ["self"] (pN K t):=by
 refine T.BX.ok p5 (λvs H Q E h=>?_) (λcdv A outer s H vs Q E hr h=>?_)
 ·obtain⟨a,F,st,rfl,_⟩:=h
  rfl
 ·obtain⟨a,F,st,rfl,⟨d,hb,hF,hn,nd,z⟩,q⟩:=h
  refine⟨_,(ai (aF (gc rfl (CScope.of (M:=["row"]) (N:=["self"]) (N':=["self"]) (dsc:=ak dX) rfl rfl (by decide+kernel)) (cU (aC (pv 0) rfl)) (λ_ _ _ _ _=>(az (sF K rfl) (by rfl) T.bC aZ (aa (pv 0) ah))))))
   ,?_⟩
  have hA:SlA K t H a F st:=⟨d,hb,hF,hn,nd,z⟩
  obtain⟨dx,ho⟩:=hb.obj
  have tab:∃xs,H d.tb=some (.lst xs)∧xs.length=st.rows.length∧∀(i:Nat) (x:V),xs[i]?=some x→∃r rs,x= .ref r∧H r=some (.lst rs)∧st.rows[i]?=some (rs.length:Int):=by
   have ht:=hb.tbl
   have l0:((d.A0.map V.ref).length:Int)=st.size:=by rw[Q0];exact hb.row0.la
   unfold SSt.rows
   have r1:=hb.row1
   cases e:st.nxt with
   |none=>
    rw[e]at ht
    refine⟨_,ht,rfl,λi x hx=>?_⟩
    cases i with
    |zero=>cases hx;exact⟨d.r0,_,rfl,hb.row0.lst,by rw[l0];rfl⟩
    |succ j=>simp at hx
   |some m=>
    rw[e]at ht r1
    have l1:((d.A1.map V.ref).length:Int)=m:=by rw[Q0];exact r1.la
    refine⟨_,ht,rfl,λi x hx=>?_⟩
    cases i with
    |zero=>cases hx;exact⟨d.r0,_,rfl,hb.row0.lst,by rw[l0];rfl⟩
    |succ j=>
     cases j with
     |zero=>cases hx;exact⟨d.r1,_,rfl,r1.lst,by rw[l1];rfl⟩
     |succ j=>simp at hx
  obtain⟨xs,ht,lx,look⟩:=tab
  refine⟨_,rfl,a,_,dx,_,_,rfl,ho,T.aB,T.aQ,f7,d.tb,rfl,⟨_,SqL.of ht⟩,λD hD=>?_⟩
  refine ig (K:=K) (a:=d.tb) (xs:=xs) (λi ys H3=>H3=upd H D (.lst ys)∧ys=(st.rows.take i).map V.int) ⟨rfl,rfl⟩ (λi ys H3 _ w=>SqL.of (by rw[w.1,ae (al ht hD)];exact ht)) (λi x ys H3 hx w hDD=>?_) (λys H3 w hDD=>?_)
  ·obtain⟨e1,e2⟩:=w
   obtain⟨r,rs,rfl,hr,hs⟩:=look i x hx
   have hi:i<xs.length:=(Q2.mp hx).1
   have hr3:H3 r=some (.lst rs):=by rw[e1,ae (al hr hD)];exact hr
   refine⟨_,rfl,r,_,rfl,.inl (SqL.of hr3),CNext.mk hi hDD ?_ ⟨?_,?_⟩⟩
   ·rw[e2,Q0,Q7]
    have:st.rows.length≤2:=by(unfold SSt.rows;cases st.nxt<;>simp)
    exact b4 (by omega)
   ·rw[e1,da]
   ·rw[e2,Qr,hs,Q9]
    rfl
  ·obtain⟨e1,e2⟩:=w
   rw[lx,QJ]at e2
   subst e2
   subst e1
   exact q _ F D (hA.new hD) (Fr.of_same (aj hD)) hD (hA.out hD) ag
theorem Ee {tb:Addr} {sh n:Int}:bc ("kept":Str) (.int n) (bc ("shifted":Str) (.int sh) (bc ("table":Str) (.ref tb) []))=slF tb sh n:=by
 have e1:bc ("table":Str) (.ref tb) []=[(("table":Str),V.ref tb)]:=rfl
 rw[e1,bc,if_neg (by decide+kernel),bc,bc,if_neg (by decide+kernel),bc,if_neg (by decide+kernel),bc]
 rfl
theorem qr (T:Txt K mg t):FnOk P w K mg base CX0 2 t.kO t.gP ["self"] (pO K t):=by
 obtain⟨tk_LEAST_SIZE,hLEAST_SIZE⟩:=T.uQ
 have Yj:= @mr P w K mg base t T
 refine T.BY.ok p6 (λvs H Q E h=>?_) (λcdv A outer s H vs Q E hr h=>?_)
 ·obtain⟨a,dx,rfl,_⟩:=h
  rfl
 ·obtain⟨a,dx,rfl,ha,hd,q⟩:=h
  refine⟨_,(ac (b5 (pv 0) (bN (aa (aJ Yj (hr.mono (by decide)) (by rfl) T.ot T.jY.kp T.oE .nil aD (aa (bE (v:= .int 4) (by rfl) hLEAST_SIZE ⟨_,rfl⟩) ah)) ah)) rfl)
   (ac (b5 (pv 0) af rfl)
   (ai (b5 (pv 0) af rfl))))
   ,?_⟩
  refine⟨4,rfl,by decide,by decide,λH' r A s nr nA hr=>⟨(by show 1≤sizeLine;decide),λtb nt=>?_⟩⟩
  have ha1:=s _ _ ha
  have nta:a≠tb:=al ha1 nt
  refine⟨_,rfl,a,_,dx,[],rfl,(by rw[ae nta];exact ha1),T.aB,T.aQ,(by show 0<1000;decide),?_⟩
  refine⟨_,rfl,a,_,dx,_,rfl,ag,T.aB,T.bF,?_,?_⟩
  ·show 1<1000
   decide
  refine⟨_,rfl,a,_,dx,_,rfl,ag,T.aB,T.bu,?_,?_⟩
  ·have h1:=jv (f:="shifted") (v:= .int 0) (bc "table" (.ref tb) [])
   have h2:=jv (f:="table") (v:= .ref tb) []
   have h3:([]:List (Str×V)).length=0:=rfl
   omega
  rw[Ee,da,da]
  have ntr:tb≠r:=(al hr.lst nt).symm
  have sb:=SlB.fresh (t:=t) (H:=upd (upd H' tb (.lst [.ref r])) a (.ins t.aT dx (slF tb 0 0))) (a:=a) (tb:=tb) (r:=r) (A:=A) (dx:=dx) ag (by rw[ae nta.symm];exact ag) (hr.frame λb hb1=>?_) ntr
  ·refine q _ _ ⟨_,sb,λb=>Iff.rfl,rfl,Zc,SzOk.new⟩ λb o n w=>?_
   have n1:b≠a:=λy=>n (.inl y)
   have w1:=s _ _ w
   have n2:b≠tb:=al w1 nt
   refine⟨by rw[ae n1,ae n2];exact w1,λy=>?_⟩
   rcases y with y|y|y|y|⟨y,_⟩|y
   ·exact n1 y
   ·exact n2 y
   ·have y:b=r:=y
    rw[y,nr]at w;cases w
   ·rw[nA b y]at w;cases w
   ·cases y
   ·cases y
  ·have:∃o,H' b=some o:=by
    rcases hb1 with rfl|hb1
    ·exact⟨_,hr.lst⟩
    ·obtain⟨_,_,_,_,w⟩:=hr.has hb1
     exact⟨_,w⟩
   obtain⟨o,w⟩:=this
   have n2:b≠tb:=al w nt
   have n1:b≠a:=λy=>by
    rcases hb1 with y2|y2
    ·rw[←y2,y,ha]at nr;cases nr
    ·have:=nA b y2;rw[y,ha]at this;cases this
   rw[ae n1,ae n2]
theorem jA (T:Txt K mg t):FnOk P w K mg base CX0 3 t.kL t.gM ["self","place"] (pL K t):=by
 have Jz:= @jB P w K mg base t T
 have Ys:= @qo P w K mg base t T
 have Yu:= @rW P w K mg base t T
 refine T.BV.ok sc_Slots__stop (λvs H Q E h=>?_) (λcdv A outer s H vs Q E hr h=>?_)
 ·obtain⟨a,p,F,st,rfl,_⟩:=h
  rfl
 ·obtain⟨a,p,F,st,rfl,hA,p0,p1,q⟩:=h
  refine⟨_,(ac (ar (i:=2) sc_Slots__stop.nd rfl (Or.inl rfl) (az (tP rfl) (by rfl) T.vd oe (aa (g8 (pv 0) T.aB T.su Jz (hr.mono (by decide)) T.sH .nil aD) ah)))
   (ai (aF (aU dw (aJ Yu (hr.mono (by decide)) (by rfl) T.CQ T.u8.kp T.Db .nil aD (aa (aJ Ys (hr.mono (by decide)) (by rfl) T.zd T.ua.kp T.zB .nil aD (aa (pv 1) (aa (pv 2) ah))) (aa (pv 2) ah))) af (λ_ _=>rfl)))))
   ,?_⟩
  have z:SzOk st:=let⟨_,_,_,_,_,z⟩:=hA;z
  obtain⟨s4,s5⟩:=bH (fL z)
  obtain⟨x,y,R⟩:=qg (fL z)
  obtain⟨dx,fs,hi,hm⟩:=hA.ins
  refine⟨_,rfl,a,dx,fs,rfl,hi,hm _ (by decide+kernel),a,F,st,rfl,hA,λH1 F1 l sA fr nl oF hl=>⟨l,st.rows,rfl,SqL.of hl,?_,λM hM hle=>?_⟩⟩
  ·unfold SSt.rows
   cases st.nxt<;>simp
  ·have eM:=AH hM hle
   subst eM
   refine⟨_,rfl,_,rfl,p,_,rfl,p0,by omega,_,rfl,_,_,rfl,Qd _ (by omega),by omega,by omega,λtp nt=>?_⟩
   rw[ug R p0 p1]
   exact⟨tp,_,_,_,rfl,rfl,SqT.of ag,rfl,q _ F1 (sA.new nt) (fr.trans (Fr.of_same (aj nt)))⟩
structure Rw where
 r:Addr
 A:List Addr
 C:List (List (Int×V))
 s:Int
def dG (st:SSt) (d:SlD):List Rw:=match st.nxt with|none=> [⟨d.r0,d.A0,d.C0,st.size⟩]|some m=> [⟨d.r0,d.A0,d.C0,st.size⟩,⟨d.r1,d.A1,d.C1,m⟩]
def plc (k:Int):Int:=tz (k%65536)
theorem pq {lo hi st:Int} {x:Nat} (h:0<st):x<lO lo hi st↔lo+(x:Int)*st<hi:=by
 unfold lO
 rw[kA h]
 by_cases c:lo<hi
 ·rw[if_pos c]
  have a:0≤(hi-lo-1)/st:=XN (by omega) (by omega)
  have e:(x:Int)≤(hi-lo-1)/st↔(x:Int)*st≤hi-lo-1:=Int.le_ediv_iff_mul_le h
  omega
 ·rw[if_neg c]
  have:0≤(x:Int)*st:=X2 (by omega) (by omega)
  omega
theorem c4 {kv:List (Int×V)} {k:Int} {v:V} (nd:(kv.map (·.1)).Nodup) (h:(k,v)∈kv):aL kv k=some v:=by
 induction kv with
 |nil=>cases h
 |cons p r ih=>
  rw[Qs,QP]at nd
  by_cases e:p.1=k
  ·rw[bf e]
   rcases Qm.mp h with h|h
   ·rw[←h]
   ·exact absurd (ZC (f:=(·.1)) h) (by rw[←e]at*;exact nd.1)
  ·rw[a7 e]
   rcases Qm.mp h with h|h
   ·rw[←h]at e;exact absurd rfl e
   ·exact ih nd.2 h
theorem eB {kv:List (Int×V)} {k:Int} {v:V} (h:aL kv k=some v):(k,v)∈kv:=by
 induction kv with
 |nil=>rw[jh]at h;cases h
 |cons p r ih=>
  by_cases e:p.1=k
  ·rw[bf e]at h
   cases h
   rw[←e]
   exact Qj
  ·rw[a7 e]at h
   exact Qh _ (ih h)
theorem pB {t:Adr} {H:Hp} {a:Addr} {st:SSt} {d:SlD} {ri j:Nat} {R:Rw} {kv:List (Int×V)} {k:Int} {v:V} (hb:SlB t H a st d) (hR:(dG st d)[ri]?=some R) (hk:R.C[j]?=some kv) (hv:(k,v)∈kv):
  k%65536%R.s=(j:Int)∧(kv.map (·.1)).Nodup∧∃c,IsCell d st k c kv:=by
 have hlen:∀{A:List Addr} {C:List (List (Int×V))} {r:Addr} {s:Int} {x:Nat},RowOk H r A C s→C[x]?=some kv→∃b,A[x]?=some b:=λ{A C r s x} ro h=>by
  have h1:=(Q2.mp h).1
  have h2:=ro.la
  have h3:=ro.lc
  exact⟨A[x]'(by omega),Q3 _⟩
 have kvne:kv≠[]:=λz=>by rw[z]at hv;cases hv
 have row1:=hb.row1
 have zero:(j:Int)<st.moved→d.C0[j]?=some kv→False:=λh1 h2=>kvne (hb.old _ _ h2 h1)
 unfold dG at hR
 cases en:st.nxt with
 |none=>
  rw[en]at hR
  cases ri with
  |zero=>
   cases hR
   have hat:=hb.row0.home _ _ hk _ hv
   obtain⟨b,eb⟩:=hlen hb.row0 hk
   refine⟨hat,hb.row0.ndk _ _ hk,b,.inl ⟨?_,by rw[hat];exact eb,by rw[hat];exact hk⟩⟩
   rw[hat,SSt.moved_none en]
   omega
  |succ j=>simp at hR
 |some m=>
  rw[en]at hR row1
  cases ri with
  |zero=>
   cases hR
   have hat:=hb.row0.home _ _ hk _ hv
   obtain⟨b,eb⟩:=hlen hb.row0 hk
   refine⟨hat,hb.row0.ndk _ _ hk,b,.inl ⟨?_,by rw[hat];exact eb,by rw[hat];exact hk⟩⟩
   rw[hat]
   exact Int.not_lt.mp λy=>zero y hk
  |succ j'=>
   cases j' with
   |zero=>
    cases hR
    have hat:=row1.home _ _ hk _ hv
    obtain⟨b,eb⟩:=hlen row1 hk
    exact⟨hat,row1.ndk _ _ hk,b,.inr ⟨_,en,hb.new _ _ hk _ hv,by rw[hat];exact eb,by rw[hat];exact hk⟩⟩
   |succ j=>simp at hR
def kt (C:List (List (Int×V))) (s m:Int) (x:Nat):List (Int×V):=C.getD (s+(x:Int)*m).toNat []
def Cp (s m:Int) (R:Rw):List (Int×V):=(List.range (lO s R.s m)).flatMap (kt R.C s m)
def Ex (st:SSt) (d:SlD) (s:Int):List (Int×V):=(dG st d).flatMap (Cp s st.low)
theorem nE {st:SSt} {d:SlD} (z:SzOk st) {R:Rw} (h:R∈dG st d):R.s=st.low∨R.s=2*st.low:=by
 unfold dG at h
 unfold SSt.low
 cases e:st.nxt with
 |none=>rw[e]at h;rw[Qb.mp h];exact .inl rfl
 |some m=>
  rw[e]at h
  obtain⟨_,_,_,nx⟩:=z.nx m e
  have p:=bH z.pw
  show R.s=(if m<st.size then m else st.size)∨R.s=2*(if m<st.size then m else st.size)
  rcases Qm.mp h with h|h
  ·rw[h]
   show st.size=_∨st.size=_
   split<;>omega
  ·rw[Qb.mp h]
   show m=_∨m=_
   split<;>omega
theorem yf {x r m:Int} (h:r=m∨r=2*m):x%r%m=x%m:=by
 rcases h with rfl|rfl
 ·exact Int.emod_emod_of_dvd _ (Int.dvd_refl _)
 ·exact Int.emod_emod_of_dvd _ ⟨2,by omega⟩
theorem CL {t:Adr} {H:Hp} {a:Addr} {st:SSt} {d:SlD} {s:Int} (hb:SlB t H a st d) (z:SzOk st) (nd:(st.kv.map (·.1)).Nodup) (s0:0≤s) (s1:s<st.low) (k:Int) (v:V):
  (k,v)∈Ex st d s↔(k,v)∈st.kv∧k%65536%st.low=s:=by
 have lp:=bH (fL z)
 constructor
 ·intro h
  obtain⟨R,hR,h⟩:=ZB.mp h
  obtain⟨x,hx,h⟩:=ZB.mp h
  have hx:=XQ.mp hx
  have hr:=nE z hR
  obtain⟨ri,hri,eR⟩:=Qy hR
  have eR:(dG st d)[ri]?=some R:=by rw[Q3 hri,eR]
  unfold kt at h
  have xs:=(pq (by omega)).mp hx
  have xm:0≤(x:Int)*st.low:=X2 (by omega) (by omega)
  cases ek:R.C[(s+(x:Int)*st.low).toNat]? with
  |none=>rw[Ql,ek]at h;cases h
  |some kv=>
   rw[Ql,ek]at h
   have h:(k,v)∈kv:=h
   obtain⟨h1,h2,c,h3⟩:=pB hb eR ek h
   refine⟨eB (by rw[←hb.val k c kv h3];exact c4 h2 h),?_⟩
   rw[←yf hr,h1,Xm (by omega),Int.add_mul_emod_self_right]
   exact Int.emod_eq_of_lt s0 s1
 ·rintro ⟨h,hs⟩
  obtain⟨c,kv,ic⟩:=hb.cell z k
  have hv:=hb.val k c kv ic
  rw[c4 nd h]at hv
  have hm:=eB hv
  have fin:∀R:Rw,R∈dG st d→R.C[(k%65536%R.s).toNat]?=some kv→(k,v)∈Ex st d s:=λR hR hk=>by
   have hr:=nE z hR
   have j0:0≤k%65536%R.s:=Qd _ (by omega)
   have j1:k%65536%R.s<R.s:=Qc _ (by omega)
   have jm:=yf (x:=k%65536) hr
   rw[hs]at jm
   have dv:=Xf (k%65536%R.s) st.low
   have q0:0≤k%65536%R.s/st.low:=XN j0 (by omega)
   have eq:s+((k%65536%R.s/st.low).toNat:Int)*st.low=k%65536%R.s:=by
    rw[Xm q0,Xa]
    omega
   refine ZB.mpr ⟨R,hR,ZB.mpr ⟨(k%65536%R.s/st.low).toNat,XQ.mpr ((pq (by omega)).mpr (by rw[eq];exact j1)),?_⟩⟩
   unfold kt
   rw[eq,Ql,hk]
   exact hm
  rcases ic with⟨_,_,h3⟩|⟨m,en,_,_,h3⟩
  ·refine fin ⟨d.r0,d.A0,d.C0,st.size⟩ ?_ h3
   unfold dG
   cases st.nxt<;>simp
  ·refine fin ⟨d.r1,d.A1,d.C1,m⟩ ?_ h3
   unfold dG
   rw[en]
   simp
theorem j8 {C:List (List (Int×V))} {s m:Int} {x:Nat} {p:Int×V} (h:p∈kt C s m x):∃kv,C[(s+(x:Int)*m).toNat]?=some kv∧p∈kv:=by
 unfold kt at h
 cases ek:C[(s+(x:Int)*m).toNat]? with
 |none=>rw[Ql,ek]at h;cases h
 |some kv=>
  rw[Ql,ek]at h
  exact⟨kv,rfl,h⟩
theorem y7 {t:Adr} {H:Hp} {a:Addr} {st:SSt} {d:SlD} {s:Int} (hb:SlB t H a st d) (z:SzOk st) (s0:0≤s):((Ex st d s).map (·.1)).Nodup:=by
 have lp:=bH (fL z)
 refine QD.mpr ?_
 have row:∀R∈dG st d,(Cp s st.low R).Pairwise (λp q=>p.1≠q.1):=λR hR=>by
  obtain⟨ri,hri,eR⟩:=Qy hR
  have eR:(dG st d)[ri]?=some R:=by rw[Q3 hri,eR]
  refine List.pairwise_flatMap.mpr ⟨λx _=>?_,?_⟩
  ·unfold kt
   cases ek:R.C[(s+(x:Int)*st.low).toNat]? with
   |none=>rw[Ql,ek];exact List.Pairwise.nil
   |some kv=>
    rw[Ql,ek]
    show List.Pairwise _ kv
    cases ke:kv with
    |nil=>exact List.Pairwise.nil
    |cons p r=>
     have:=(pB hb eR ek (k:=p.1) (v:=p.2) (by rw[ke];exact Qj)).2.1
     rw[ke]at this
     exact QD.mp this
  ·refine(List.pairwise_lt_range (n:=lO s R.s st.low)).imp λ{x y} hxy p hp q hq e=>?_
   obtain⟨kv,h1,h2⟩:=j8 hp
   obtain⟨kv',h3,h4⟩:=j8 hq
   have a1:=(pB hb eR h1 h2).1
   have a2:=(pB hb eR h3 h4).1
   have m1:(x:Int)*st.low<(y:Int)*st.low:=Int.mul_lt_mul_of_pos_right (by omega) (by omega)
   have m0:0≤(x:Int)*st.low:=X2 (by omega) (by omega)
   rw[e,a2]at a1
   omega
 refine List.pairwise_flatMap.mpr ⟨row,?_⟩
 have row1:=hb.row1
 unfold dG
 cases en:st.nxt with
 |none=>exact Z6 _ _
 |some m=>
  refine X1.mpr ⟨λR hR p hp q hq e=>?_,Z6 _ _⟩
  rw[Qb.mp hR]at hq
  obtain⟨x,_,hp⟩:=ZB.mp hp
  obtain⟨y,_,hq⟩:=ZB.mp hq
  obtain⟨kv,h1,h2⟩:=j8 hp
  obtain⟨kv',h3,h4⟩:=j8 hq
  have n1:=hb.new _ _ h3 _ h4
  have n2:=hb.row0.home _ _ h1 _ h2
  have n3:¬((s+(x:Int)*st.low).toNat:Int)<st.moved:=λc=>by
   have:=hb.old _ _ h1 c
   rw[this]at h2
   cases h2
  rw[←e,n2]at n1
  exact n3 n1
structure Ly (X:List Addr) (H H':Hp) (l:Addr) (ts:List Tp) (L:List (Int×V)):Prop where
 sm:∀c o,c∉X→H c=some o→H' c=some o
 li:H' l=some (.lst (ts.map λe=>V.ref e.p))
 tu:∀e∈ts,H' e.p=some (.tup [.int (plc e.k),.int e.k,e.v])∧H e.p=none
 eq:ts.map Tp.kv=L
section
variable {X:List Addr} {H H' H'':Hp} {l:Addr} {ts:List Tp} {L:List (Int×V)}
theorem Ly.same (h:Ly X H H' l ts L) (s:Same H' H''):Ly X H H'' l ts L:=⟨λc o n e=>s _ _ (h.sm c o n e),s _ _ h.li,λe he=>⟨s _ _ (h.tu e he).1,(h.tu e he).2⟩,h.eq⟩
theorem Ly.add {p:Addr} {k:Int} {v:V} (h:Ly X H H' l ts L) (s:Same H' H'') (np:H' p=none) (nl:H l=none) (nX:∀c∈X,∃o,H c=some o∧∃o',H' c=some o') (et:H'' p=some (.tup [.int (plc k),.int k,v])):
  Ly X H (upd H'' l (.lst (ts.map (λe=>V.ref e.p)++ [.ref p]))) l (ts++ [⟨p,k,v⟩]) (L++ [(k,v)]):=by
 have pl:p≠l:=λz=>by rw[z,h.li]at np;cases np
 have old:H p=none:=by
  cases q:H p with
  |none=>rfl
  |some o=>
   by_cases c:p∈X
   ·obtain⟨_,_,o',e'⟩:=nX p c
    rw[np]at e';cases e'
   ·rw[h.sm _ _ c q]at np;cases np
 have h2:=h.same s
 refine⟨λc o n e=>?_,by rw[ag,Q9];rfl,λe he=>?_,by rw[Q9,h.eq];rfl⟩
 ·rw[ae λz=>by rw[z,nl]at e;cases e]
  exact h2.sm c o n e
 ·rcases Q4.mp he with he|he
  ·have q:=h2.tu e he
   exact⟨by rw[ae λz=>by rw[z,h2.li]at q;cases q.1];exact q.1,q.2⟩
  ·rw[Qb.mp he]
   exact⟨by rw[ae pl];exact et,old⟩
theorem Ly.freeze {b:Addr} {o o':HO} (h:Ly [] H H' l ts L) (hb:H b=some o) (bl:b≠l):Ly [b] H (upd H' b o') l ts L:=
 ⟨λc o n e=>by rw[ae λz=>n (by rw[z];exact Qj)];exact h.sm c o (by simp) e,by rw[ae bl.symm];exact h.li,
  λe he=>⟨by rw[ae λz=>by have:=(h.tu e he).2;rw[z,hb]at this;cases this];exact(h.tu e he).1,(h.tu e he).2⟩,h.eq⟩
theorem Ly.thaw {b:Addr} {o:HO} (h:Ly [b] H H' l ts L) (hb:H b=some o) (bl:b≠l):Ly [] H (upd H' b o) l ts L:=by
 refine⟨λc o' _ e=>?_,by rw[ae bl.symm];exact h.li,λe he=>⟨by rw[ae λz=>by have:=(h.tu e he).2;rw[z,hb]at this;cases this];exact(h.tu e he).1,(h.tu e he).2⟩,h.eq⟩
 by_cases z:c=b
 ·rw[z,ag,←hb,←z];exact e
 ·rw[ae z];exact h.sm c o' (by simpa using z) e
end
def kZ (K:PySem.W.Frag) (t:Adr):Sp:=λvs H Q _=>∃(a:Addr) (p:Int) (F:Addr→Prop) (st:SSt),vs=[.ref a,.int p]∧SlA K t H a F st∧0≤p∧p<65536∧st.kv.length<4096∧
 ∀(H':Hp) (F':Addr→Prop) (l:Addr) (ts:List Tp),SlA K t H' a F' st→Fr F F' H H'→¬F' l→H' l=some (.lst (ts.map λe=>V.ref e.p))→(∀e∈ts,H' e.p=some (.tup [.int (plc e.k),.int e.k,e.v])∧¬F' e.p)→
  (∀k v,(k,v)∈ts.map Tp.kv↔(k,v)∈st.kv∧k%65536%st.low=tz p%st.low)→((ts.map Tp.kv).map (·.1)).Nodup→Q (.ref l) H'
theorem D6 {t:Adr} {H:Hp} {a:Addr} {st:SSt} {d:SlD} (hb:SlB t H a st d) (sz:SzOk st):∃xs,H d.tb=some (.lst xs)∧xs.length=(dG st d).length∧(dG st d).length≤2∧
  ∀(i:Nat) (x:V),xs[i]?=some x→∃R:Rw,x= .ref R.r∧(dG st d)[i]?=some R∧RowOk H R.r R.A R.C R.s∧R.s≤256∧∀(j:Nat) (kv:List (Int×V)),R.C[j]?=some kv→kv.length≤st.kv.length:=by
 have pw:=bH sz.pw
 have ht:=hb.tbl
 have r1:=hb.row1
 unfold dG
 cases e:st.nxt with
 |none=>
  rw[e]at ht
  refine⟨_,ht,rfl,by simp,λi x hx=>?_⟩
  cases i with
  |zero=>cases hx;exact⟨_,rfl,rfl,hb.row0,pw.2,λj kv h=>hb.short0 sz h⟩
  |succ j=>simp at hx
 |some m=>
  rw[e]at ht r1
  refine⟨_,ht,rfl,by simp,λi x hx=>?_⟩
  cases i with
  |zero=>cases hx;exact⟨_,rfl,rfl,hb.row0,pw.2,λj kv h=>hb.short0 sz h⟩
  |succ j=>
   cases j with
   |zero=>cases hx;exact⟨_,rfl,rfl,r1,(bH (sz.nx m e).1).2,λj kv h=>hb.short1 sz e h⟩
   |succ j=>simp at hx
theorem Bd {RR:List Rw} {f:Rw→List (Int×V)} {i:Nat} {R:Rw} (e:RR[i]?=some R):(RR.take (i+1)).flatMap f=(RR.take i).flatMap f++f R:=by
 rw[Qr,e,List.flatMap_append]
 simp
theorem xA {f:Nat→List (Int×V)} {x:Nat}:(List.range (x+1)).flatMap f=(List.range x).flatMap f++f x:=by
 rw[List.range_succ,List.flatMap_append]
 simp
theorem yP {kv:List (Int×V)} {i:Nat} {p:Int×V} (e:kv[i]?=some p):kv.take (i+1)=kv.take i++ [p]:=by
 rw[Qr,e]
 rfl
theorem lC (T:Txt K mg t):FnOk P w K mg base CX0 3 t.gj t.dB ["self","place"] (kZ K t):=by
 have Jz:= @jB P w K mg base t T
 have Yr:= @oi P w K mg base t T
 have Ys:= @qo P w K mg base t T
 refine T.yI.ok sc_Slots__lying_at (λvs H Q E h=>?_) (λcdv A outer s H vs Q E hr h=>?_)
 ·obtain⟨a,p,F,st,rfl,_⟩:=h
  rfl
 ·obtain⟨a,p,F,st,rfl,hA,p0,p1,hl4,q⟩:=h
  refine⟨_,(ac (ar (i:=2) sc_Slots__lying_at.nd rfl (Or.inl rfl) (az (tP rfl) (by rfl) T.vd oe (aa (g8 (pv 0) T.aB T.su Jz (hr.mono (by decide)) T.sH .nil aD) ah)))
   (ac (ar (i:=3) sc_Slots__lying_at.nd rfl (Or.inl rfl) (bN ah))
   (ac (gH PassesOwn.never rfl (cU (aC (pv 0) rfl)) (bx (i:=4) sc_Slots__lying_at.nd rfl (Or.inl rfl))
   (ai (gH PassesOwn.never rfl (yX (by rfl) T.j3 (aa (aJ Ys (hr.mono (by decide)) (by rfl) T.zd T.ua.kp T.zB .nil aD (aa (pv 1) (aa (pv 2) ah))) (aa (az aA (by rfl) T.bC aZ (aa (pv 4) ah)) (aa (pv 2) ah)))) (bx (i:=5) sc_Slots__lying_at.nd rfl (Or.inl rfl))
   (ai (uy (gH PassesOwn.never rfl (vC (An Zr X6 PySem.F.type_dict_items vK (aU aN (pv 4) (pv 5) (λ_ _=>rfl)))) (qk rfl (cq (bx (i:=6) sc_Slots__lying_at.nd rfl (Or.inl rfl)) (cq (bx (i:=7) sc_Slots__lying_at.nd rfl (Or.inl rfl)) mj)))
   (ai (aS (dH Qq Z1 Z2 dN (pv 3) (aa (bM (aa (aJ Yr (hr.mono (by decide)) (by rfl) T.xu T.rj.kp T.xG .nil aD (aa (pv 6) ah)) (aa (pv 6) (aa (pv 7) ah)))) ah))))))))))
   (ai (aF (pv 3))))))
   ,?_⟩
  have z:SzOk st:=let⟨_,_,_,_,_,z⟩:=hA;z
  obtain⟨s4,s5⟩:=bH (fL z)
  obtain⟨dx,fs,hi,hm⟩:=hA.ins
  refine⟨_,rfl,a,dx,fs,rfl,hi,hm _ (by decide+kernel),a,F,st,rfl,hA,λH1 F1 lr sA fr nlr oF hlr=>⟨lr,st.rows,rfl,SqL.of hlr,?_,λM hM hle=>?_⟩⟩
  ·unfold SSt.rows
   cases st.nxt<;>simp
  have eM:=AH hM hle
  subst eM
  have sB:=sA
  obtain⟨d,hb,hF,hn,nd,_⟩:=sB
  obtain⟨dx1,ho⟩:=hb.obj
  obtain⟨xs,ht,lx,l2,look⟩:=D6 hb z
  have g0:0≤tz p%st.low:=Qd _ (by omega)
  have g1:tz p%st.low<st.low:=Qc _ (by omega)
  have low0:st.low>0:=by omega
  refine⟨Qf _,λl nl=>?_⟩
  have y0:Ly [] H1 (upd H1 l (.lst [])) l [] []:=⟨λc o _ e=>aj nl _ _ e,ag,(λe he=>by cases he),rfl⟩
  generalize upd H1 l (.lst [])=H2 at y0⊢
  generalize hs:tz p%st.low=sl at g0 g1 q
  refine⟨_,rfl,a,_,dx1,_,_,rfl,y0.sm _ _ (by simp) ho,T.aB,T.aQ,f7,d.tb,rfl,⟨_,SqL.of (y0.sm _ _ (by simp) ht)⟩,nT (K:=K) (a:=d.tb) (xs:=xs) (λi σ H'=>∃(v4 v5 v6 v7:Option V) (ts:List Tp),σ=[some (.ref a),some (.int p),some (.int st.low),some (.ref l),v4,v5,v6,v7]∧Ly [] H1 H' l ts (((dG st d).take i).flatMap (Cp sl st.low))∧ts.length≤8192*i)
   ⟨_,_,_,_,[],rfl,y0,by simp⟩ (λi σ H' _ w=>by obtain⟨_,_,_,_,_,_,c,_⟩:=w;exact SqL.of (c.sm _ _ (by simp) ht)) (λi x σ H' hx w=>?_) (λσ H' w=>?_)⟩
  ·obtain⟨v4,v5,v6,v7,ts,eσ,c,lt⟩:=w
   subst eσ
   obtain⟨R,rfl,hR,ro,r256,shR⟩:=look i x hx
   have hr:=c.sm _ _ (by simp) ro.lst
   have iL:=(Q2.mp hx).1
   have lA:((R.A.map V.ref).length:Int)=R.s:=by rw[Q0];exact ro.la
   have rl:=nE z (Q1 hR)
   have cnt2:∀y:Nat,y<lO sl R.s st.low→y<2:=λy hy=>by
    have:=(pq low0).mp hy
    refine Nat.lt_of_not_le λy2=>?_
    have:(2:Int)*st.low≤(y:Int)*st.low:=XE (by omega) (by omega)
    omega
   have cn2:lO sl R.s st.low≤2:=by
    by_cases c0:lO sl R.s st.low=0
    ·omega
    ·have:=cnt2 (lO sl R.s st.low-1) (by omega)
     omega
   refine⟨_,rfl,_,rfl,p,_,rfl,p0,low0,_,rfl,R.r,_,rfl,.inl (SqL.of hr),_,rfl,_,_,_,rfl,?_,?_⟩
   ·rw[hs,lA]
    exact⟨by omega,by omega,by omega,by omega,by omega,by omega⟩
   rw[hs,lA]
   generalize eL0:((dG st d).take i).flatMap (Cp sl st.low)=L0 at c
   refine v8 (n:=lO sl R.s st.low) (λx σ H'=>∃(v5 v6 v7:Option V) (ts:List Tp),σ=[some (.ref a),some (.int p),some (.int st.low),some (.ref l),some (.ref R.r),v5,v6,v7]∧Ly [] H1 H' l ts (L0++(List.range x).flatMap (kt R.C sl st.low))∧ts.length≤8192*i+4096*x)
    ⟨_,_,_,ts,rfl,by simpa using c,by omega⟩ (λx σ H' hx w=>?_) (λσ H' w=>?_)
   ·obtain⟨v5,v6,v7,ts,eσ,c,lt⟩:=w
    subst eσ
    have xs2:=(pq low0).mp hx
    have x2:=cnt2 x hx
    have xm:0≤(x:Int)*st.low:=X2 (by omega) (by omega)
    have la:=ro.la
    have lc:=ro.lc
    have eb:R.A[(sl+(x:Int)*st.low).toNat]?=some (R.A[(sl+(x:Int)*st.low).toNat]'(by omega)):=Q3 (by omega)
    have ek:R.C[(sl+(x:Int)*st.low).toNat]?=some (R.C[(sl+(x:Int)*st.low).toNat]'(by omega)):=Q3 (by omega)
    generalize R.A[(sl+(x:Int)*st.low).toNat]'(by omega)=b at eb
    generalize R.C[(sl+(x:Int)*st.low).toNat]'(by omega)=kv at ek
    have hbb:=ro.cell _ _ _ eb ek
    have kvl:=shR _ _ ek
    have hb2:=c.sm _ _ (by simp) hbb
    have hr2:=c.sm _ _ (by simp) ro.lst
    have bl:b≠l:=λz=>by rw[z,nl]at hbb;cases hbb
    refine⟨b,aI kv,hb2,_,rfl,_,rfl,R.r,_,_,_,rfl,rfl,SqL.of hr2,qD (by omega) eb,.inr (.inr (.inl ⟨rfl,.inl ⟨_,hb2⟩⟩)),b,aI kv,rfl,rfl,hb2,λvw nv=>?_⟩
    have hc1:upd H' vw (vwO vw b) b=some (.dK (aI kv)):=by rw[ae (al hb2 nv)];exact hb2
    refine⟨vw,b,aI kv,rfl,ag,hc1,λob=>?_⟩
    have cF:=(c.same (aj (o:=vwO vw b) nv)).freeze (o':= .frz ob (.dK (aI kv))) hbb bl
    generalize eL1:L0++(List.range x).flatMap (kt R.C sl st.low)=L1 at cF
    refine qP (λy σ H''=>∃(v6 v7:Option V) (ts:List Tp),σ=[some (.ref a),some (.int p),some (.int st.low),some (.ref l),some (.ref R.r),some (.int (sl+(x:Int)*st.low)),v6,v7]∧Ly [b] H1 H'' l ts (L1++kv.take y)∧H'' b=some (.frz ob (.dK (aI kv)))∧ts.length≤8192*i+4096*x+y)
     ⟨_,_,ts,rfl,by simpa using cF,ag,by omega⟩ (λy σ H'' _ w=>by obtain⟨_,_,_,_,_,hf,_⟩:=w;exact hf) (λy k v p' σ H'' ei w np=>?_) (λσ H'' w=>?_)
    ·obtain⟨v6,v7,ts,eσ,c,hf,lt⟩:=w
     subst eσ
     obtain⟨n,rfl,en⟩:=nO ei
     have yl:=(Q2.mp en).1
     refine⟨p',_,rfl,SqT.of ag,rfl,_,_,rfl,_,_,rfl,rfl,?_⟩
     have c3:=c.same (aj (o:= .tup [kV (Sum.inl n),v]) np)
     have hf3:=aj (o:= .tup [kV (Sum.inl n),v]) np _ _ hf
     generalize upd H'' p' (.tup [kV (Sum.inl n),v])=H3 at c3 hf3⊢
     refine⟨_,rfl,.inl ⟨rfl,_,SqL.of c3.li⟩,_,rfl,n,rfl,_,rfl,_,rfl,(by show 3≤sizeLine;decide),λp2 np2=>?_⟩
     have s4:Same H3 (upd H3 p2 (.tup [.int (tz (n%65536)),kV (Sum.inl n),v])):=aj np2
     have e4:upd H3 p2 (.tup [.int (tz (n%65536)),kV (Sum.inl n),v]) p2=some (.tup [.int (plc n),.int n,v]):=ag
     generalize upd H3 p2 (.tup [.int (tz (n%65536)),kV (Sum.inl n),v])=H4 at s4 e4⊢
     refine⟨l,_,_,rfl,rfl,s4 _ _ c3.li,bi (by rw[Q0];omega),?_⟩
     refine⟨_,_,ts++ [⟨p2,n,v⟩],rfl,?_,?_,?_⟩
     ·rw[yP en,←Qo]
      exact c3.add s4 np2 nl (λc hc=>by rw[Qb.mp hc];exact⟨_,hbb,_,hf3⟩) e4
     ·rw[ae bl]
      exact s4 _ _ hf3
     ·rw[Q8,Zf]
      omega
    ·obtain⟨v6,v7,ts,eσ,c,hf,lt⟩:=w
     subst eσ
     rw[bG,QJ]at c
     rw[bG]at lt
     refine⟨ob,hf,_,_,_,ts,rfl,?_,by omega⟩
     rw[xA,←Qo,show kt R.C sl st.low x=kv by unfold kt;rw[Ql,ek];rfl]
     rw[eL1]
     exact c.thaw hbb bl
   ·obtain⟨v5,v6,v7,ts,eσ,c,lt⟩:=w
    subst eσ
    exact⟨_,_,_,_,ts,rfl,by rw[Bd hR,eL0];exact c,by omega⟩
  ·obtain⟨v4,v5,v6,v7,ts,eσ,c,lt⟩:=w
   subst eσ
   rw[lx,QJ]at c
   have e:=c.eq
   have sm:Same H1 H':=λb o e=>c.sm b o (by simp) e
   refine⟨_,rfl,q H' F1 l ts (sA.same sm) (fr.trans (Fr.of_same sm)) (sA.out nl) c.li (λe he=>⟨(c.tu e he).1,sA.out (c.tu e he).2⟩) (λk v=>?_) ?_⟩
   ·rw[e]
    exact CL hb z nd g0 g1 k v
   ·rw[e]
    exact y7 hb z g0
theorem uv {S p k:Int} {a b:Nat} (R:Row S a b) (h0:0≤p) (h1:p<65536) (hS:S≤65536):k%65536%S=tz p%S↔plc k/(65536/S)=p/(65536/S):=by
 have wp:=R.wpos'
 have e1:=ug R h0 h1
 have k0:0≤k%65536:=Qd _ (by decide)
 have k1:k%65536<65536:=Qc _ (by decide)
 have e2:=ug R (p:=plc k) (m5 _) (Dr _)
 rw[show tz (plc k)=k%65536 from xQ k0 k1]at e2
 have x0:=R.mod0 (k%65536)
 have x1:=R.mod1 (k%65536)
 have y0:=R.mod0 (tz p)
 have y1:=R.mod1 (tz p)
 constructor
 ·intro e
  rw[e,e1]at e2
  have:=Int.eq_of_mul_eq_mul_right (QS wp) e2
  omega
 ·intro e
  rw[e,←e1]at e2
  exact D0 x0 (by omega) y0 (by omega) (by omega)
theorem Ek (k:Int):0≤plc k∧plc k<65536:=⟨m5 _,Dr _⟩
theorem uz {α β:Type} {f:α→β}:∀{ts:List α} {l:List β},l.Perm (ts.map f)→∃us:List α,us.Perm ts∧us.map f=l:=by
 intro ts l h
 generalize e:ts.map f=m at h
 induction h generalizing ts with
 |nil=>exact⟨[],by rw[List.map_eq_nil_iff.mp e],rfl⟩
 |cons x _ ih=>
  cases ts with
  |nil=>cases e
  |cons y ts=>
   rw[Qs]at e
   injection e with e1 e2
   obtain⟨us,h1,h2⟩:=ih e2
   exact⟨y::us,h1.cons y,by rw[Qs,h2,e1]⟩
 |swap x y l=>
  cases ts with
  |nil=>cases e
  |cons a ts=>
   cases ts with
   |nil=>cases e
   |cons b ts=>
    rw[Qs,Qs]at e
    injection e with e1 e2
    injection e2 with e2 e3
    exact⟨b::a::ts,List.Perm.swap a b ts,by rw[Qs,Qs,e1,e2,e3]⟩
 |trans _ _ ih1 ih2=>
  obtain⟨us,h1,h2⟩:=ih2 e
  obtain⟨ws,h3,h4⟩:=ih1 h2
  exact⟨ws,h3.trans h1,h4⟩
def xf (x y:Int×V):Prop:=plc x.1<plc y.1∨(plc x.1=plc y.1∧x.1<y.1)
def pM (K:PySem.W.Frag) (t:Adr):Sp:=λvs H Q _=>∃(a:Addr) (lo hi:Int) (F:Addr→Prop) (st:SSt),vs=[.ref a,.int lo,.int hi]∧SlA K t H a F st∧st.kv.length<4096∧(∀p∈st.kv,∃i:Int,p.2= .int i)∧
 ∀(H':Hp) (F':Addr→Prop) (l:Addr) (ts:List Tp),SlA K t H' a F' st→Fr F F' H H'→¬F' l→(¬F l→H l=none)→H' l=some (.lst (ts.map λe=>V.ref e.p))→(∀e∈ts,H' e.p=some (.tup [.int e.k,e.v])∧¬F' e.p)→
  (ts.map Tp.kv).Pairwise xf→(∀k v,(k,v)∈ts.map Tp.kv↔(k,v)∈st.kv∧lo≤plc k∧plc k<hi)→Q (.ref l) H'
theorem yr {x W q:Int} (h:0<W):x/W=q↔q*W≤x∧x<(q+1)*W:=by
 constructor
 ·rintro rfl
  exact⟨Int.ediv_mul_le x (QS h),ZW x h⟩
 ·rintro ⟨h1,h2⟩
  have a:=(Int.le_ediv_iff_mul_le h).mpr h1
  have b:=(Int.ediv_lt_iff_lt_mul h).mpr h2
  omega
def ky3 (H:Hp) (b:Addr):List Int:=match H b with
 |some (.tup [.int i,.int j,.int m])=> [i,j,m]
 |_=> []
theorem xv {H:Hp} {b:Addr} {i j m:Int} (h:H b=some (.tup [.int i,.int j,.int m])):ky3 H b=[i,j,m]:=by
 unfold ky3
 rw[h]
theorem none_of {H H2:Hp} {p:Addr} (s:Same H H2) (n:H2 p=none):H p=none:=by
 cases e:H p with
 |none=>rfl
 |some o=>rw[s _ _ e]at n;cases n
theorem mG {F F':Addr→Prop} {H H':Hp} {b:Addr} (f:Fr F F' H H') (n:¬F b) (e:H' b=none):H b=none:=by
 cases q:H b with
 |none=>rfl
 |some o=>rw[(f _ _ n q).1]at e;cases e
theorem Fr.upd_new {F F':Addr→Prop} {H H':Hp} {b:Addr} {o:HO} (f:Fr F F' H H') (n:¬F b→H b=none):Fr F F' H (upd H' b o):=λc u nc e=>⟨by rw[ae λz=>by rw[z]at nc e;rw[n nc]at e;cases e];exact(f c u nc e).1,(f c u nc e).2⟩
theorem Af {ts:List Tp} {n:Nat} {v:V} (hv:(ts.map λe=>V.ref e.p)[n]?=some v):∃e:Tp,v= .ref e.p∧ts[n]?=some e:=by
 rw[QA]at hv
 cases q':ts[n]? with
 |none=>rw[q']at hv;cases hv
 |some e=>rw[q']at hv;cases hv;exact⟨e,rfl,rfl⟩
structure SpI (K:PySem.W.Frag) (t:Adr) (H H':Hp) (a l:Addr) (F F':Addr→Prop) (st:SSt) (ts:List Tp) (b0 c:Int):Prop where
 sl:SlA K t H' a F' st
 fr:Fr F F' H H'
 ol:¬F' l
 li:H' l=some (.lst (ts.map λe=>V.ref e.p))
 tu:∀e∈ts,H' e.p=some (.tup [.int (plc e.k),.int e.k,e.v])∧¬F' e.p
 me:∀k v,(k,v)∈ts.map Tp.kv↔(k,v)∈st.kv∧b0≤plc k∧plc k<c
 nd:((ts.map Tp.kv).map (·.1)).Nodup
section
variable {H H' H1:Hp} {a l l1:Addr} {F F' F1:Addr→Prop} {st:SSt} {ts ts1:List Tp} {b0 c:Int}
theorem SpI.len (h:SpI K t H H' a l F F' st ts b0 c):ts.length≤st.kv.length:=by
 have:=hJ h.nd (S:=st.kv.map (·.1)) λx hx=>by
  obtain⟨p,hp,rfl⟩:=Qg.mp hx
  exact ZC ((h.me p.1 p.2).mp hp).1
 simpa using this
theorem SpI.move (h:SpI K t H H' a l F F' st ts b0 c) (s1:SlA K t H1 a F1 st) (f1:Fr F' F1 H' H1):SpI K t H H1 a l F F1 st ts b0 c:=
 ⟨s1,h.fr.trans f1,(f1 _ _ h.ol h.li).2,(f1 _ _ h.ol h.li).1,λe he=>f1 _ _ (h.tu e he).2 (h.tu e he).1,h.me,h.nd⟩
theorem SpI.step {r W:Int} (h:SpI K t H H' a l F F' st ts b0 (r/W*W)) (nl:H l=none) (W0:0<W) (hb:b0≤r/W*W) (s1:SlA K t H1 a F1 st) (f1:Fr F' F1 H' H1) (u1:∀e∈ts1,H1 e.p=some (.tup [.int (plc e.k),.int e.k,e.v])∧¬F1 e.p)
  (m1:∀k v,(k,v)∈ts1.map Tp.kv↔(k,v)∈st.kv∧plc k/W=r/W) (n1:((ts1.map Tp.kv).map (·.1)).Nodup):
  SpI K t H (upd H1 l (.lst (ts.map (λe=>V.ref e.p)++ts1.map (λe=>V.ref e.p)))) a l F F1 st (ts++ts1) b0 ((r/W+1)*W):=by
 obtain⟨l1,ol1⟩:=f1 _ _ h.ol h.li
 have e1:(r/W+1)*W=r/W*W+W:=by rw[Int.add_mul,Int.one_mul]
 have nel:∀{p:Addr} {xs:List V},H1 p=some (.tup xs)→p≠l:=λ{p xs} e z=>by rw[z,l1]at e;cases e
 refine⟨s1.upd ol1,λb o n e=>?_,ol1,by rw[ag,Q9],λe he=>?_,λk v=>?_,?_⟩
 ·obtain⟨g1,g2⟩:=(h.fr.trans f1) b o n e
  exact⟨by rw[ae λz=>by rw[z,nl]at e;cases e];exact g1,g2⟩
 ·rcases Q4.mp he with he|he
  ·obtain⟨g1,g2⟩:=h.tu e he
   obtain⟨g3,g4⟩:=f1 _ _ g2 g1
   exact⟨by rw[ae (nel g3)];exact g3,g4⟩
  ·obtain⟨g3,g4⟩:=u1 e he
   exact⟨by rw[ae (nel g3)];exact g3,g4⟩
 ·rw[Q9,Q4,h.me,m1,yr W0,e1]
  constructor
  ·rintro (⟨x,y,z⟩|⟨x,y,z⟩)
   ·exact⟨x,y,by omega⟩
   ·exact⟨x,by omega,z⟩
  ·rintro ⟨x,y,z⟩
   by_cases d:plc k<r/W*W
   ·exact .inl ⟨x,y,d⟩
   ·exact .inr ⟨x,by omega,z⟩
 ·rw[Q9,Q9]
  refine XA.mpr ⟨h.nd,n1,λx hx y hy e=>?_⟩
  obtain⟨p,hp,rfl⟩:=Qg.mp hx
  obtain⟨q,hq,rfl⟩:=Qg.mp hy
  have g1:=(h.me p.1 p.2).mp hp
  have g2:=(yr W0).mp ((m1 q.1 q.2).mp hq).2
  rw[e]at g1
  omega
end
theorem Fp {H:Hp} {fs us:List Tp} (up:us.Perm fs) (t3:∀e∈fs,∃i:Int,H e.p=some (.tup [.int (plc e.k),.int e.k,.int i])) (nd:(fs.map (·.k)).Nodup) (pw:(us.map (·.p)).Pairwise (λa b=>HT.lexLt (ky3 H b) (ky3 H a)=false)):(us.map Tp.kv).Pairwise xf:=by
 have nk:us.Pairwise (λe f=>e.k≠f.k):=(up.pairwise_iff (λh=>h.symm)).mpr (QD.mp nd)
 refine QD.mpr (((QD.mp pw).and nk).imp_of_mem λ{e f} he hf h=>?_)
 obtain⟨i,te⟩:=t3 e (up.mem_iff.mp he)
 obtain⟨j,tf⟩:=t3 f (up.mem_iff.mp hf)
 obtain⟨h1,h2⟩:=h
 rw[xv te,xv tf,HT.lexLt_cons,HT.lexLt_cons]at h1
 show plc e.k<plc f.k∨(plc e.k=plc f.k∧e.k<f.k)
 by_cases c1:plc f.k=plc e.k
 ·rw[if_pos c1,if_neg (Ne.symm h2)]at h1
  have:=of_decide_eq_false h1
  omega
 ·rw[if_neg c1]at h1
  have:=of_decide_eq_false h1
  omega
theorem qq (T:Txt K mg t):FnOk P w K mg base CX0 4 t.kM t.gN ["self","low","high"] (pM K t):=by
 obtain⟨tk_PLACES,hPLACES⟩:=T.qO
 have Jw:= @lC P w K mg base t T
 have Y1:= @jA P w K mg base t T
 refine T.BW.ok sc_Slots__span (λvs H Q E h=>?_) (λcdv A outer s H vs Q E hr h=>?_)
 ·obtain⟨a,lo,hi,F,st,rfl,_⟩:=h
  rfl
 ·obtain⟨a,lo,hi,F,st,rfl,hA,hl4,hint,q⟩:=h
  refine⟨_,(ac (ar (i:=3) sc_Slots__span.nd rfl (Or.inl rfl) (bN ah))
   (ac (ar (i:=4) sc_Slots__span.nd rfl (Or.inl rfl) (az (tQ rfl) (by rfl) T.Fe Bs (aa (pv 1) (aa af ah))))
   (ac (ar (i:=5) sc_Slots__span.nd rfl (Or.inl rfl) (az (kh rfl) (by rfl) T.vd oe (aa (pv 2) (aa (bE (v:= .int 65536) (by rfl) hPLACES ⟨_,rfl⟩) ah))))
   (ac (jw PassesOwn.never (au c6 (pv 4) (pv 5) (aq _))
   (ac (aS (dH Qq ZD ZE j7 (pv 3) (aa (aV (pv 0) T.aB T.yc Jw (hr.mono (by decide)) T.yC .nil aD (aa (pv 4) ah)) ah)))
   (ai (ar (i:=4) sc_Slots__span.nd rfl (Or.inl rfl) (aV (pv 0) T.aB T.ss Y1 (hr.mono (by decide)) T.sG .nil aD (aa (pv 4) ah))))))
   (ac (ar (i:=6) sc_Slots__span.nd rfl (Or.inl rfl) (az sE (by rfl) T.zO tS (aa (mq rfl (CScope.of (M:=["one"]) (N:=["self","low","high","found","reached","end","inside"]) (N':=["self","low","high","found","reached","end","inside"]) (dsc:=ak cN) rfl rfl (by decide+kernel)) (cU (pv 3)) (λ_ _ _ _ _=>(Ah jy c6 (pv 2) (aU (uM K rfl) (pv 0) af (λ_ _=>rfl)) (pv 3))) (λ_ _ _ _ _=>(pv 0))) ah)))
   (ai (aF (gc rfl (CScope.of (M:=["one"]) (N:=["self","low","high","found","reached","end","inside"]) (N':=["self","low","high","found","reached","end","inside"]) (dsc:=ak cN) rfl rfl (by decide+kernel)) (cU (pv 6)) (λ_ _ _ _ _=>(bM (aa (aU (uM K rfl) (pv 0) af (λ_ _=>rfl)) (aa (aU (uM K rfl) (pv 0) af (λ_ _=>rfl)) ah))))))))))))
   ,?_⟩
  have z:SzOk st:=let⟨_,_,_,_,_,z⟩:=hA;z
  obtain⟨s4,s5⟩:=bH (fL z)
  obtain⟨x,y,R⟩:=qg (fL z)
  have W0:=R.wpos'
  have strt:∀{p k:Int},0≤p→p<65536→(k%65536%st.low=tz p%st.low↔plc k/(65536/st.low)=p/(65536/st.low)):=λh0 h1=>uv R h0 h1 (by omega)
  refine⟨Qf _,λl nl=>?_⟩
  refine⟨_,rfl,_,_,rfl,_,rfl,_,_,rfl,?_⟩
  have r1:0≤(if(0:Int)>lo then 0 else lo)∧lo≤(if(0:Int)>lo then 0 else lo)∧((if(0:Int)>lo then 0 else lo)=0∨(if(0:Int)>lo then 0 else lo)=lo):=by split<;>omega
  have r2:(if(65536:Int)<hi then 65536 else hi)≤65536∧((if(65536:Int)<hi then 65536 else hi)=65536∨(if(65536:Int)<hi then 65536 else hi)=hi):=by split<;>omega
  dsimp only
  generalize (if(0:Int)>lo then 0 else lo)=r0 at r1⊢
  generalize (if(65536:Int)<hi then 65536 else hi)=e0 at r2⊢
  generalize eW:65536/st.low=W at W0 strt
  have I0:SpI K t H (upd H l (.lst [])) a l F F st [] (r0/W*W) (r0/W*W):=⟨hA.new nl,Fr.of_same (aj nl),hA.out nl,ag,(λe he=>by cases he),(λk v=>⟨λh=>by(cases h),λh=>by omega⟩),Zc⟩
  generalize upd H l (.lst [])=H1 at I0⊢
  refine⟨λm σ H'=>∃(r:Int) (F':Addr→Prop) (ts:List Tp),m=(e0-r).toNat∧σ=[some (.ref a),some (.int lo),some (.int hi),some (.ref l),some (.int r),some (.int e0),none]∧SpI K t H H' a l F F' st ts (r0/W*W) (r/W*W)∧r0≤r∧(r=r0∨r/W*W=r),⟨_,r0,F,[],rfl,rfl,I0,Zy _,.inl rfl⟩,λm σ H' w=>?_⟩
  obtain⟨r,F',ts,rfl,eσ,I,rr,rm⟩:=w
  subst eσ
  refine⟨_,rfl,_,rfl,_,_,rfl,rfl,_,rfl,bB (λc=>?_) (λc=>?_)⟩
  ·have c:=of_decide_eq_true c
   obtain⟨dx,fs,hins,hm⟩:=I.sl.ins
   refine⟨λσ' H2=>∃(r':Int) (F2:Addr→Prop) (ts2:List Tp),r<r'∧σ'=[some (.ref a),some (.int lo),some (.int hi),some (.ref l),some (.int r'),some (.int e0),none]∧SpI K t H H2 a l F F2 st ts2 (r0/W*W) (r'/W*W)∧r'/W*W=r',λσ' H2 w=>?_,?_⟩
   ·obtain⟨r',F2,ts2,lt,e,I2,g⟩:=w
    exact⟨_,by omega,r',F2,ts2,rfl,e,I2,by omega,.inr g⟩
   refine⟨_,rfl,.inl ⟨rfl,_,SqL.of I.li⟩,_,rfl,a,dx,fs,rfl,hins,hm _ (by decide+kernel),_,rfl,a,r,F',st,rfl,I.sl,by omega,by omega,hl4,λH2 F2 l1 ts1 s2 f2 o2 e2 u2 m2 n2=>?_⟩
   have hb0:r0/W*W≤r/W*W:=XE (Int.ediv_le_ediv W0 rr) (by omega)
   have I2:=I.step nl W0 hb0 s2 f2 u2 (λk v=>by rw[m2,strt (by omega) (by omega)]) n2
   have ln:=I2.len
   rw[Q8]at ln
   refine⟨l,l1,_,_,rfl,rfl,(f2 _ _ I.ol I.li).1,e2,by rw[Q0,Q0];exact Zj (bi (by omega)),?_⟩
   generalize upd H2 l (.lst (ts.map (λe=>V.ref e.p)++ts1.map (λe=>V.ref e.p)))=H3 at I2⊢
   obtain⟨dx2,fs2,hins2,hm2⟩:=I2.sl.ins
   refine⟨_,rfl,a,dx2,fs2,rfl,hins2,hm2 _ (by decide+kernel),_,rfl,a,r,F2,st,rfl,I2.sl,by omega,by omega,λH4 F4 s4 f4=>?_⟩
   rw[eW]
   have ed:(r/W+1)*W/W*W=(r/W+1)*W:=by rw[Int.mul_ediv_cancel _ (QS W0)]
   exact⟨(r/W+1)*W,F4,ts++ts1,ZW r W0,rfl,by rw[ed];exact I2.move s4 f4,ed⟩
  ·have c:¬r<e0:=λy=>c (decide_eq_true y)
   have hl:=I.li
   have ln:=I.len
   refine⟨_,rfl,l,rfl,⟨_,SqL.of hl⟩,λD hD=>?_⟩
   refine i5 (K:=K) (a:=l) (xs:=ts.map λe=>V.ref e.p) (λn ys H3=>H3=upd H' D (.lst ys)∧ys=((ts.take n).filter λe=>decide (lo≤plc e.k)&&decide (plc e.k<hi)).map (λe=>V.ref e.p)) ⟨rfl,rfl⟩
    (λn ys H3 _ w=>SqL.of (by rw[w.1,ae (al hl hD)];exact hl)) (λn v ys H3 hv w hDD=>?_) (λys H3 w hDD=>?_)
   ·obtain⟨e1,e2⟩:=w
    have hn:=(Q2.mp hv).1
    obtain⟨e,rfl,ee⟩:=Af hv
    have te:=(I.tu e (Q1 ee)).1
    have te3:H3 e.p=some (.tup [.int (plc e.k),.int e.k,e.v]):=by rw[e1,ae (al te hD)];exact te
    have yl:ys.length≤ts.length:=by
     rw[e2,Q0]
     have h1:=Qn (λe:Tp=>decide (lo≤plc e.k)&&decide (plc e.k<hi)) (ts.take n)
     have h2:(ts.take n).length≤ts.length:=by rw[Q7];omega
     omega
    refine⟨_,rfl,_,rfl,e.p,_,_,_,rfl,rfl,SqT.of te3,rfl,_,_,rfl,rfl,_,rfl,?_⟩
    by_cases c1:lo≤plc e.k
    ·refine jf c1 ⟨_,rfl,_,_,rfl,rfl,_,rfl,?_⟩
     by_cases c2:plc e.k<hi
     ·refine jf c2 ⟨_,rfl,CNext.mk hn hDD (bi (by omega)) ⟨by rw[e1,da],?_⟩⟩
      rw[e2,Qr,ee,Qx,Q9]
      simp[c1,c2]
     ·refine bg c2 (CSkip.mk hn hDD ⟨e1,?_⟩)
      rw[e2,Qr,ee,Qx]
      simp[c1,c2]
    ·refine bg c1 ⟨_,rfl,cX (CSkip.mk hn hDD ⟨e1,?_⟩)⟩
     rw[e2,Qr,ee,Qx]
     simp[c1]
   ·obtain⟨e1,e2⟩:=w
    rw[Q0,QJ]at e2
    have s3:Same H' H3:=by rw[e1];exact aj hD
    have fsub:(ts.filter λe=>decide (lo≤plc e.k)&&decide (plc e.k<hi)).Sublist ts:=List.filter_sublist
    have fm:∀e,e∈(ts.filter λe=>decide (lo≤plc e.k)&&decide (plc e.k<hi))↔e∈ts∧lo≤plc e.k∧plc e.k<hi:=λe=>by
     rw[QB,QI,decide_eq_true_eq,decide_eq_true_eq]
    generalize (ts.filter λe=>decide (lo≤plc e.k)&&decide (plc e.k<hi))=fs at e2 fsub fm
    have kvm:∀e∈fs,(e.k,e.v)∈st.kv:=λe he=>((I.me e.k e.v).mp (ZC (f:=Tp.kv) ((fm e).mp he).1)).1
    have t3:∀e∈fs,∃i:Int,e.v= .int i∧H3 e.p=some (.tup [.int (plc e.k),.int e.k,.int i]):=λe he=>by
     obtain⟨i,ei⟩:=hint _ (kvm e he)
     have te:=s3 _ _ (I.tu e ((fm e).mp he).1).1
     have ei:e.v= .int i:=ei
     rw[ei]at te
     exact⟨i,ei,te⟩
    refine⟨D,fs.map (·.p),ky3 H3,rfl,SqL.of (by rw[hDD,e2,QL];rfl),λb hb=>?_,λl2 bs nl2 pm pw=>?_⟩
    ·obtain⟨e,he,rfl⟩:=Qg.mp hb
     obtain⟨i,_,te⟩:=t3 e he
     exact⟨_,_,_,te,xv te⟩
    obtain⟨us,up,ue⟩:=uz pm
    subst ue
    have um:∀e,e∈us↔e∈fs:=λe=>up.mem_iff
    have nk:(fs.map (·.k)).Nodup:=by
     have h0:=I.nd
     rw[QL]at h0
     exact h0.sublist (fsub.map _)
    have sorted:=Fp up (λe he=>(t3 e he).imp λ_ h=>h.2) nk pw
    have whole:∀k v,(k,v)∈us.map Tp.kv↔(k,v)∈st.kv∧lo≤plc k∧plc k<hi:=λk v=>by
     constructor
     ·intro h
      obtain⟨e,he,ee⟩:=Qg.mp h
      cases ee
      have he:=(um e).mp he
      exact⟨kvm e he,((fm e).mp he).2⟩
     ·rintro ⟨h1,h2,h3⟩
      have pb:=Ek k
      have b1:=Int.ediv_mul_le r0 (QS W0)
      have h4:(k,v)∈ts.map Tp.kv:=(I.me k v).mpr ⟨h1,by omega,by omega⟩
      obtain⟨e,he,ee⟩:=Qg.mp h4
      cases ee
      exact Qg.mpr ⟨e,(um e).mpr ((fm e).mpr ⟨he,h2,h3⟩),rfl⟩
    have ul:us.length≤ts.length:=by rw[up.length_eq];exact fsub.length_le
    have e8:upd H3 l2 (.lst ((us.map (·.p)).map V.ref)) l2=some (.lst (us.map λe=>V.ref e.p)):=by rw[ag,QL];rfl
    have s8:Same H' (upd H3 l2 (.lst ((us.map (·.p)).map V.ref))):=s3.trans (aj nl2)
    have t8:∀e∈us,upd H3 l2 (.lst ((us.map (·.p)).map V.ref)) e.p=some (.tup [.int (plc e.k),.int e.k,e.v]):=λe he=>s8 _ _ (I.tu e ((fm e).mp ((um e).mp he)).1).1
    generalize upd H3 l2 (.lst ((us.map (·.p)).map V.ref))=H8 at e8 s8 t8⊢
    refine⟨_,rfl,l2,rfl,⟨_,SqL.of e8⟩,λD2 hD2=>?_⟩
    refine ig (K:=K) (a:=l2) (xs:=us.map λe=>V.ref e.p) (λn ys H9=>Same H8 H9∧∃ws:List Tp,ys=ws.map (λe=>V.ref e.p)∧ws.map Tp.kv=(us.take n).map Tp.kv∧∀e∈ws,e.p≠D2∧H8 e.p=none∧H9 e.p=some (.tup [.int e.k,e.v]))
     ⟨aj hD2,[],rfl,rfl,λe he=>by cases he⟩ (λn ys H9 _ w=>SqL.of (w.1 _ _ e8)) (λn v ys H9 hv w hDD2=>?_) (λys H9 w hDD2=>?_)
    ·obtain⟨s9,ws,ey,ek,ew⟩:=w
     have hn:=(Q2.mp hv).1
     obtain⟨e,rfl,ee⟩:=Af hv
     have te:=s9 _ _ (t8 e (Q1 ee))
     refine⟨_,rfl,e.p,_,_,_,rfl,rfl,SqT.of te,rfl,_,rfl,e.p,_,_,_,rfl,rfl,SqT.of te,rfl,(by show 2≤sizeLine;decide),λp2 np2=>?_⟩
     have pd:p2≠D2:=λz=>by rw[z,hDD2]at np2;cases np2
     have wl:ws.length≤us.length:=by
      have:=congrArg List.length ek
      rw[Q0,Q0,Q7]at this
      omega
     refine CNext.mk hn (by rw[ae pd.symm];exact hDD2) (bi (by rw[ey,Q0];omega)) ⟨bU (s9.trans (aj np2)) hD2,ws++ [⟨p2,e.k,e.v⟩],by rw[ey,Q9];rfl,?_,λf hf=>?_⟩
     ·rw[Q9,ek,Qr,ee,Q9]
      rfl
     ·rcases Q4.mp hf with hf|hf
      ·obtain⟨g1,g2,g3⟩:=ew f hf
       exact⟨g1,g2,by rw[ae g1];exact aj np2 _ _ g3⟩
      ·rw[Qb.mp hf]
       exact⟨pd,none_of s9 np2,by rw[ae pd];exact ag⟩
    ·obtain⟨s9,ws,ey,ek,ew⟩:=w
     rw[Q0,QJ]at ek
     have sm:=s8.trans s9
     refine q H9 F' D2 ws (I.sl.same sm) (I.fr.trans (Fr.of_same sm)) (I.sl.out (none_of s8 hD2)) (λnF=>mG (I.fr.trans (Fr.of_same s8)) nF hD2) (by rw[hDD2,ey]) (λe he=>?_) (by rw[ek];exact sorted) (by rw[ek];exact whole)
     obtain⟨_,g2,g3⟩:=ew e he
     exact⟨g3,I.sl.out (none_of s8 g2)⟩
theorem d6 {A:List Addr} {j:Nat} {c:Addr} (e:A[j]?=some c):atI (A.map V.ref) (j:Int)=some (.ref c):=by
 refine pC ?_
 rw[QA,e]
 rfl
theorem yF {x:List Int} {m:Int} (ne:x≠[]) (e:x[x.length-1]?=some m):atI (x.map V.int) (-1)=some (.int m):=by
 have hl:=QW.mpr ne
 unfold atI ixN
 rw[Q0,if_neg (by decide),if_pos (by omega)]
 show(x.map V.int)[((-1:Int)+(x.length:Int)).toNat]?=_
 have:((-1:Int)+(x.length:Int)).toNat=x.length-1:=by omega
 rw[this,QA,e]
 rfl
theorem yj {A:List Addr} {i:Nat} (h:i<A.length):ixN (A.map V.ref).length (i:Int)=some i:=by
 unfold ixN
 rw[if_pos (by omega),if_pos (by rw[Q0];omega)]
 rfl
theorem lJ:∀(A:List Addr) (i:Nat),(A.map V.ref).eraseIdx i=(A.eraseIdx i).map V.ref
 | [],_=>rfl
 |_::_,0=>rfl
 |a::r,i+1=>by
  show V.ref a::(r.map V.ref).eraseIdx i=V.ref a::(r.eraseIdx i).map V.ref
  rw[lJ r i]
theorem tJ:∀(ls:List (List Int)) (i:Nat) (y:List Int),(ls.set i y).eraseIdx i=ls.eraseIdx i
 | [],_,_=>rfl
 |_::_,0,_=>rfl
 |x::r,i+1,y=>by
  show x::(r.set i y).eraseIdx i=x::r.eraseIdx i
  rw[tJ r i y]
def DT (a:Addr) (k:Int) (ls:List (List Int)) (H:Hp):Nat→St→Hp→Prop:=λm σ H'=>∃(lo hi:Nat) (v4:Option V),m=hi-lo∧H'=H∧σ=[some (.ref a),some (.int k),some (.int (lo:Int)),some (.int (hi:Int)),v4]∧lo≤hi∧hi≤ls.length∧
 (∀(j:Nat) (x:List Int),j<lo→ls[j]?=some x→∀y∈x,y<k)∧∀(j:Nat) (x:List Int),hi≤j→ls[j]?=some x→∃y∈x,k≤y
def k7 (t:Adr):Sp:=λvs H Q _=>∃(a:Addr) (k:Int) (L:Addr) (A:List Addr) (ls:List (List Int)),vs=[.ref a,.int k]∧LvB t H a L A ls∧(∀l∈ls,l≠[])∧cP ls.flatten∧∀i:Nat,LeafOf ls k i→Q (.int (i:Int)) H
theorem bI (T:Txt K mg t):FnOk P w K mg base CX0 1 t.gk t.dC ["self","key"] (k7 t):=by
 refine T.yJ.ok sc_Leaves__leaf_of (λvs H Q E h=>?_) (λcdv A outer s H vs Q E hr h=>?_)
 ·obtain⟨a,k,L,A,ls,rfl,_⟩:=h
  rfl
 ·obtain⟨a,k,L,A,ls,rfl,hb,ne,up,q⟩:=h
  refine⟨_,(ac (ar (i:=2) sc_Leaves__leaf_of.nd rfl (Or.inl rfl) af)
   (ac (ar (i:=3) sc_Leaves__leaf_of.nd rfl (Or.inl rfl) (az aA (by rfl) T.bC aZ (aa (aC (pv 0) rfl) ah)))
   (ac (jw PassesOwn.never (au c6 (pv 2) (pv 3) (aq _))
   (ac (ar (i:=4) sc_Leaves__leaf_of.nd rfl (Or.inl rfl) (am aP (am bq (pv 2) (pv 3)) af))
   (ai (aR (au c6 (aU aN (aU aN (aC (pv 0) rfl) (pv 4) (λ_ _=>rfl)) (xX uf af) (λ_ _=>rfl)) (pv 1) (aq _))
   (ai (ar (i:=2) sc_Leaves__leaf_of.nd rfl (Or.inl rfl) (am bq (pv 4) af)))
   (ai (ar (i:=3) sc_Leaves__leaf_of.nd rfl (Or.inl rfl) (pv 4)))))))
   (ai (aF (pv 2))))))
   ,?_⟩
  obtain⟨dx,ho⟩:=hb.obj
  have lA:((A.map V.ref).length:Int)=(ls.length:Int):=by rw[Q0,hb.len]
  refine⟨_,rfl,a,_,dx,_,_,rfl,ho,T.aG,T.ao,cc,L,_,rfl,.inl (SqL.of hb.lst),?_⟩
  dsimp only
  rw[lA]
  refine⟨DT a k ls H,⟨_,0,ls.length,none,rfl,rfl,rfl,Qf _,Q5 _,λj x h=>absurd h (by omega),λj x h e=>?_⟩,?_⟩
  ·have:=(Q2.mp e).1
   omega
  rintro m σ H' ⟨lo,hi,v4,rfl,rfl,rfl,h1,h2,h3,h4⟩
  refine⟨_,rfl,_,rfl,_,_,rfl,rfl,_,rfl,bB (λc=>?_) (λc=>?_)⟩
  ·have c:lo<hi:=by have:=of_decide_eq_true c;omega
   refine⟨λσ' H''=>∃m',m'<hi-lo∧DT a k ls H' m' σ' H'',λ_ _ h=>h,?_⟩
   refine⟨_,rfl,_,rfl,_,_,rfl,rfl,_,_,rfl,rfl,⟨by decide,by decide⟩,?_⟩
   obtain⟨mid,em,m1,m2⟩:∃mid:Nat,((lo:Int)+(hi:Int))/2=(mid:Int)∧lo≤mid∧mid<hi:=⟨(lo+hi)/2,by omega,by omega,by omega⟩
   dsimp only
   rw[em]
   have hm:mid<ls.length:=by omega
   have ex:ls[mid]?=some ls[mid]:=Q3 hm
   obtain⟨b,eb,hbb⟩:=hb.at ex
   have nex:=ne _ (Za hm)
   obtain⟨g,eg,gm,gmax⟩:=AN (Cq up ex) nex
   refine⟨_,rfl,a,_,dx,_,_,rfl,ho,T.aG,T.ao,cc,_,rfl,L,_,_,_,rfl,rfl,SqL.of hb.lst,d6 eb,_,rfl,b,_,_,_,rfl,rfl,SqL.of hbb,yF nex eg,_,rfl,_,_,rfl,rfl,_,rfl,bB (λc2=>?_) (λc2=>?_)⟩
   ·have c2:=of_decide_eq_true c2
    refine⟨_,rfl,_,_,rfl,rfl,hi-(mid+1),by omega,mid+1,hi,_,rfl,rfl,rfl,by omega,h2,λj x hj e y hy=>?_,h4⟩
    rcases(show j<mid∨j=mid by omega)with h|h
    ·have:=sT up e ex h y hy g gm
     omega
    ·subst h
     rw[ex]at e
     cases e
     have:=gmax y hy
     omega
   ·have c2:¬g<k:=λz=>c2 (decide_eq_true z)
    refine⟨_,rfl,mid-lo,by omega,lo,mid,_,rfl,rfl,rfl,by omega,by omega,h3,λj x hj e=>?_⟩
    rcases(show j=mid∨mid<j by omega)with h|h
    ·subst h
     rw[ex]at e
     cases e
     exact⟨g,gm,by omega⟩
    ·obtain⟨y,hy⟩:=List.exists_mem_of_ne_nil x (ne x (Q1 e))
     have:=sT up ex e h g gm y hy
     exact⟨y,hy,by omega⟩
  ·have c:¬lo<hi:=λz=>c (decide_eq_true (by omega))
   have:lo=hi:=by omega
   subst this
   exact⟨_,rfl,q lo ⟨h2,h3,λx e=>h4 lo x (Q5 _) e⟩⟩
theorem vY {k:Int}:∀{x:List Int},inV (.int k) (x.map V.int)=decide (k∈x)
 | []=>rfl
 |a::r=>by
  have ih:=vY (k:=k) (x:=r)
  unfold inV at ih⊢
  rw[Qs,ZQ,ih]
  have:eqV (.int a) (.int k)=decide (k=a):=by
   show(_:Bool)=_
   by_cases c:a=k
   ·subst c;simp[eqV]
   ·have c':¬k=a:=λz=>c z.symm
    simp[eqV,c,c']
  rw[this]
  by_cases c:k=a
  ·simp[c]
  ·simp[c]
theorem zr {x:List Int}:(x.map V.int).all mI=true:=by
 rw[List.all_map]
 exact Zq.mpr λ_ _=>rfl
theorem jD (T:Txt K mg t):FnOk P w K mg base CX0 2 t.kS t.gT ["self","key"] (pS K t):=by
 have Jm:= @bI P w K mg base t T
 refine T.B7.ok sc_Leaves__has (λvs H Q E h=>?_) (λcdv A outer s H vs Q E hr h=>?_)
 ·obtain⟨a,k,F,ks,rfl,_⟩:=h
  rfl
 ·obtain⟨a,k,F,ks,rfl,hA,q⟩:=h
  refine⟨_,(ac (ar (i:=2) sc_Leaves__has.nd rfl (Or.inl rfl) (aV (pv 0) T.aG T.b9 Jm (hr.mono (by decide)) T.cf .nil aD (aa (pv 1) ah)))
   (ai (aF (gI (bz c6 (pv 2) (az aA (by rfl) T.bC aZ (aa (aC (pv 0) rfl) ah)) (aq _)) (dt (bz y3 (pv 1) (aU aN (aC (pv 0) rfl) (pv 2) (λ_ _=>rfl)) rfl))))))
   ,?_⟩
  obtain⟨dx,fs,hi,hm⟩:=hA.ins
  have q:=q H F hA Fr.refl
  obtain⟨L,A,ls,hb,ok,ef,hF⟩:=hA
  obtain⟨dx',ho⟩:=hb.obj
  have lA:((A.map V.ref).length:Int)=(ls.length:Int):=by rw[Q0,hb.len]
  refine⟨_,rfl,a,dx,fs,rfl,hi,hm _ (by decide+kernel),_,rfl,a,k,L,A,ls,rfl,hb,ok.ne,ok.up,λi li=>?_⟩
  refine⟨_,rfl,_,rfl,a,_,dx',_,_,rfl,ho,T.aG,T.ao,cc,L,_,rfl,.inl (SqL.of hb.lst),_,_,rfl,rfl,_,rfl,bB (λc=>?_) (λc=>?_)⟩
  ·have c:=of_decide_eq_true c
   have hi:i<ls.length:=by omega
   have ex:ls[i]?=some ls[i]:=Q3 hi
   obtain⟨b,eb,hbb⟩:=hb.at ex
   refine⟨_,rfl,_,rfl,a,_,dx',_,_,rfl,ho,T.aG,T.ao,cc,_,rfl,L,_,_,_,rfl,rfl,SqL.of hb.lst,d6 eb,b,_,rfl,.inl (SqL.of hbb),rfl,zr,?_⟩
   show Q (.bl (inV (.int k) (ls[i].map V.int))) H
   rw[vY]
   have:k∈ls[i]↔k∈ks:=by
    rw[←ef,li.mem ok]
    constructor
    ·exact λz=>⟨_,ex,z⟩
    ·rintro ⟨x,e,z⟩
     rw[ex]at e
     cases e
     exact z
   rw[decide_eq_decide.mpr this]
   exact q
  ·have c:¬(i:Int)<((A.map V.ref).length:Int):=λz=>c (decide_eq_true z)
   have:k∉ks:=λz=>by
    rw[←ef,li.mem ok]at z
    obtain⟨x,e,_⟩:=z
    have:=(Q2.mp e).1
    omega
   rw[decide_eq_false this]at q
   exact q
theorem oZ (T:Txt K mg t):FnOk P w K mg base CX0 1 t.jX t.fV ["self"] (oQ K t):=by
 refine T.BC.ok oT (λvs H Q E h=>?_) (λcdv A outer s H vs Q E hr h=>?_)
 ·obtain⟨a,dx,rfl,_⟩:=h
  rfl
 ·obtain⟨a,dx,rfl,ha,hd,q⟩:=h
  refine⟨_,(ai (b5 (pv 0) (bN ah) rfl))
   ,?_⟩
  refine⟨Qf _,λL nL=>⟨_,rfl,a,_,dx,[],rfl,(by rw[ae (al ha nL)];exact ha),T.aG,T.ao,(by show 0<1000;decide),?_⟩⟩
  have na:=al ha nL
  refine q _ (LvF a L []) ⟨L,[],[],⟨⟨dx,ag⟩,by rw[ae na.symm];exact ag,rfl,(λj b l e=>by simp at e),(λi j b e=>by simp at e),(λz=>by cases z)⟩,LvOk.nil,rfl,λb=>Iff.rfl⟩ λb o n w=>?_
  have n1:b≠a:=λy=>n (.inl y)
  have n2:b≠L:=al w nL
  refine⟨by rw[ae n1,ae n2];exact w,λy=>?_⟩
  rcases y with y|y|y
  ·exact n1 y
  ·exact n2 y
  ·cases y
def jj (t:Adr):Sp:=λvs H Q _=>∃(a L:Addr) (A:List Addr) (ls:List (List Int)) (i:Nat) (x:List Int),vs=[.ref a,.int (i:Int)]∧LvB t H a L A ls∧ls[i]?=some x∧x.length=9∧ls.length<5000∧
 ∀H' A',LvB t H' a L A' ((ls.set i (x.take 4)).take (i+1)++x.drop 4::(ls.set i (x.take 4)).drop (i+1))→Fr (LvF a L A) (LvF a L A') H H'→Q .non H'
theorem jC (T:Txt K mg t):FnOk P w K mg base CX0 1 t.eS t.cI ["self","at"] (jj t):=by
 refine T.wK.ok sc_Leaves__part_leaf (λvs H Q E h=>?_) (λcdv A outer s H vs Q E hr h=>?_)
 ·obtain⟨a,L,A,ls,i,x,rfl,_⟩:=h
  rfl
 ·obtain⟨a,L,A,ls,i,x,rfl,hb,ex,lx,ll,q⟩:=h
  refine⟨_,(ac (ar (i:=2) sc_Leaves__part_leaf.nd rfl (Or.inl rfl) (aU aN (aC (pv 0) rfl) (pv 1) (λ_ _=>rfl)))
   (ac (ar (i:=3) sc_Leaves__part_leaf.nd rfl (Or.inl rfl) (am aP (az aA (by rfl) T.bC aZ (aa (pv 2) ah)) af))
   (ac (nG (eh fZ (pv 2) iJ (eV (pv 3))) (xg (aC (pv 0) rfl) (pv 1) pZ))
   (ai (aS (dH Qq PySem.F.slot_list_insert PySem.F.type_list_insert tw (aC (pv 0) rfl) (aa (am bq (pv 1) af) (aa (eh fZ (pv 2) (eV (pv 3)) iJ) ah))))))))
   ,?_⟩
  obtain⟨dx,ho⟩:=hb.obj
  obtain⟨c,ec,hc⟩:=hb.at ex
  have hil:i<A.length:=(Q2.mp ec).1
  have len9:((x.map V.int).length:Int)=9:=by rw[Q0,lx];rfl
  refine⟨_,rfl,a,_,dx,_,_,rfl,ho,T.aG,T.ao,cc,_,rfl,L,_,_,_,rfl,rfl,SqL.of hb.lst,d6 ec,?_⟩
  refine⟨_,rfl,c,_,rfl,.inl (SqL.of hc),_,_,rfl,rfl,⟨by decide,by decide⟩,?_⟩
  dsimp only
  rw[len9]
  have cut1:mL (x.map V.int) none (some (9/2))=(x.take 4).map V.int:=by
   unfold mL
   rw[Q0,lx]
   show((x.map V.int).drop 0).take (4-0)=_
   rw[Zp,Zn]
  have cut2:mL (x.map V.int) (some (9/2)) none=(x.drop 4).map V.int:=by
   unfold mL
   rw[Q0,lx]
   show((x.map V.int).drop 4).take (9-4)=_
   rw[Xo,Qz (by rw[QG,Q0,lx];exact Q5 _)]
  refine⟨_,rfl,_,rfl,_,rfl,c,_,rfl,SqL.of hc,λn1 nn1=>?_⟩
  rw[cut1]
  have s1:Same H (upd H n1 (.lst ((x.take 4).map V.int))):=aj nn1
  have hb1:=hb.same s1
  have hn1:upd H n1 (.lst ((x.take 4).map V.int)) n1=some (.lst ((x.take 4).map V.int)):=ag
  have nF1:=hb.out nn1
  have ho1:=s1 _ _ ho
  have hc1:=s1 _ _ hc
  have hL1:=s1 _ _ hb.lst
  generalize upd H n1 (.lst ((x.take 4).map V.int))=H1 at s1 hb1 hn1 ho1 hc1 hL1⊢
  refine⟨_,rfl,a,_,dx,_,_,rfl,ho1,T.aG,T.ao,cc,_,rfl,L,_,_,_,rfl,rfl,hL1,yj hil,?_⟩
  have es:(A.map V.ref).set i (V.ref n1)=(A.set i n1).map V.ref:=by rw[List.map_set]
  rw[es]
  have hb2:=hb1.swap ec ex hn1 nF1
  have cL:c≠L:=λz=>hb.nL (z▸Q1 ec)
  have hc2:upd H1 L (.lst ((A.set i n1).map V.ref)) c=some (.lst (x.map V.int)):=by rw[ae cL];exact hc1
  obtain⟨dx2,ho2⟩:=hb2.obj
  have hL2:=hb2.lst
  have f2:Fr (LvF a L A) (LvF a L (A.set i n1)) H (upd H1 L (.lst ((A.set i n1).map V.ref))):=λb o n w=>by
   have w1:=s1 _ _ w
   refine⟨by rw[ae (λy=>n (.inr (.inl y)))];exact w1,λy=>?_⟩
   rcases y with y|y|y
   ·exact n (.inl y)
   ·exact n (.inr (.inl y))
   ·rcases List.mem_or_eq_of_mem_set y with y|y
    ·exact n (.inr (.inr y))
    ·rw[y,nn1]at w;cases w
  generalize upd H1 L (.lst ((A.set i n1).map V.ref))=H2 at hb2 hc2 ho2 hL2 f2⊢
  refine⟨_,rfl,a,_,dx2,_,_,rfl,ho2,T.aG,T.ao,cc,.inl ⟨rfl,_,SqL.of hL2⟩,_,rfl,_,_,rfl,rfl,_,rfl,_,rfl,_,rfl,c,_,rfl,SqL.of hc2,λn2 nn2=>?_⟩
  rw[cut2]
  have s3:Same H2 (upd H2 n2 (.lst ((x.drop 4).map V.int))):=aj nn2
  have hb3:=hb2.same s3
  have hn3:upd H2 n2 (.lst ((x.drop 4).map V.int)) n2=some (.lst ((x.drop 4).map V.int)):=ag
  have nF3:=hb2.out nn2
  have hL3:=s3 _ _ hL2
  generalize upd H2 n2 (.lst ((x.drop 4).map V.int))=H3 at s3 hb3 hn3 hL3⊢
  have lS:(A.set i n1).length=A.length:=QH
  refine⟨L,_,_,_,rfl,rfl,hL3,(by omega),(by rw[Q0,lS];omega),(by rw[Q0,lS,hb.len];exact bi (by omega)),?_⟩
  have ei:((i:Int)+1).toNat=i+1:=by omega
  have hb4:=hb3.insert (i:=i+1) (by rw[lS];omega) hn3 nF3
  rw[ei]
  have em:((A.set i n1).map V.ref).take (i+1)++V.ref n2::((A.set i n1).map V.ref).drop (i+1)=((A.set i n1).take (i+1)++n2::(A.set i n1).drop (i+1)).map V.ref:=by
   rw[Q9,Qs,Zn,Xo]
  rw[em]
  refine q _ _ hb4 (f2.trans (λb o n w=>?_))
  have w3:=s3 _ _ w
  refine⟨by rw[ae (λy=>n (.inr (.inl y)))];exact w3,λy=>?_⟩
  rcases y with y|y|y
  ·exact n (.inl y)
  ·exact n (.inr (.inl y))
  ·rcases Q4.mp y with y|y
   ·exact n (.inr (.inr (Z4 y)))
   ·rcases Qm.mp y with y|y
    ·rw[y,nn2]at w;cases w
    ·exact n (.inr (.inr (ZV y)))
theorem LvB.insM {H:Hp} {a L:Addr} {A:List Addr} {ls:List (List Int)} (h:LvB t H a L A ls):∃dx fs,H a=some (.ins t.bn dx fs)∧∀m,m≠("leaves":Str)→fs.lookup m=none:=by
 obtain⟨dx,ho⟩:=h.obj
 exact⟨dx,_,ho,λm hm=>DK hm⟩
theorem qw (T:Txt K mg t):FnOk P w K mg base CX0 3 t.kT t.gU ["self","key"] (pT K t):=by
 obtain⟨tk_MOST_IN_LEAF,hMOST_IN_LEAF⟩:=T.Ba
 have Jj:= @jD P w K mg base t T
 have Jm:= @bI P w K mg base t T
 have Jn:= @jC P w K mg base t T
 refine T.B8.ok sc_Leaves__add (λvs H Q E h=>?_) (λcdv A outer s H vs Q E hr h=>?_)
 ·obtain⟨a,k,F,ks,rfl,_⟩:=h
  rfl
 ·obtain⟨a,k,F,ks,rfl,hA,hl,q1,q2⟩:=h
  refine⟨_,(ac (aR (bY (aV (pv 0) T.aG T.sv Jj (hr.mono (by decide)) T.sI .nil aD (aa (pv 1) ah)))
   (ai gb)
   aE)
   (ac (aR (au bL (az aA (by rfl) T.bC aZ (aa (aC (pv 0) rfl) ah)) af (aq _))
   (ac (aS (dH Qq Z1 Z2 dN (aC (pv 0) rfl) (aa (bN (aa (pv 1) ah)) ah)))
   (ai mi))
   aE)
   (ac (ar (i:=2) sc_Leaves__add.nd rfl (Or.inl rfl) (az (kh rfl) (by rfl) T.vd oe (aa (aV (pv 0) T.aG T.b9 Jm (hr.mono (by decide)) T.cf .nil aD (aa (pv 1) ah)) (aa (am fE (az aA (by rfl) T.bC aZ (aa (aC (pv 0) rfl) ah)) af) ah))))
   (ac (ar (i:=3) sc_Leaves__add.nd rfl (Or.inl rfl) (aU aN (aC (pv 0) rfl) (pv 2) (λ_ _=>rfl)))
   (ac (aS (dH Qq PySem.F.slot_list_insert PySem.F.type_list_insert tw (pv 3) (aa (az aA (by rfl) T.bC aZ (aa (mq rfl (CScope.of (M:=["one"]) (N:=["self","key","at","leaf"]) (N':=["self","key","at","leaf"]) (dsc:=ak dY) rfl rfl (by decide+kernel)) (cU (pv 3)) (λ_ _ _ _ _=>(au c6 (pv 0) (pv 2) (aq _))) (λ_ _ _ _ _=>(pv 0))) ah)) (aa (pv 1) ah))))
   (ai (aR (au sZ (az aA (by rfl) T.bC aZ (aa (pv 3) ah)) (bE (v:= .int 8) (by rfl) hMOST_IN_LEAF ⟨_,rfl⟩) (aq _))
   (ai (aS (aV (pv 0) T.aG T.wE Jn (hr.mono (by decide)) T.wI .nil aD (aa (pv 2) ah))))
   aE)))))))
   ,?_⟩
  obtain⟨dx,fs,hi,hm⟩:=hA.ins
  refine⟨_,rfl,a,dx,fs,rfl,hi,hm _ (by decide+kernel),_,rfl,a,k,F,ks,rfl,hA,λH0 F0 hA0 fr0=>?_⟩
  by_cases ck:k∈ks
  ·rw[decide_eq_true ck]
   refine⟨_,rfl,cC ?_⟩
   exact(q2 ck).elim
  rw[decide_eq_false ck]
  refine⟨_,rfl,cX ?_⟩
  have q:=q1 ck
  obtain⟨L,A,ls,hb,ok,ef,hF⟩:=hA0
  obtain⟨dx',ho⟩:=hb.obj
  have lA:((A.map V.ref).length:Int)=(ls.length:Int):=by rw[Q0,hb.len]
  have sh:=ok.short
  rw[ef]at sh
  have fr:Fr F (LvF a L A) H H0:=λb o n e=>⟨(fr0 b o n e).1,λy=>(fr0 b o n e).2 ((hF b).mpr y)⟩
  have nk:k∉ls.flatten:=by rw[ef];exact ck
  by_cases ce:ls=[]
  ·subst ce
   have eA:A=[]:=List.length_eq_zero_iff.mp hb.len
   subst eA
   refine⟨_,rfl,a,_,dx',_,_,rfl,ho,T.aG,T.ao,cc,L,_,rfl,.inl (SqL.of hb.lst),rfl,_,rfl,eY rfl ?_⟩
   refine⟨_,rfl,a,_,dx',_,_,rfl,ho,T.aG,T.ao,cc,.inl ⟨rfl,_,SqL.of hb.lst⟩,_,rfl,(by show 1≤sizeLine;decide),λn nn=>?_⟩
   have s1:Same H0 (upd H0 n (.lst [.int k])):=aj nn
   have hb1:=hb.same s1
   have hn1:upd H0 n (.lst [.int k]) n=some (.lst (([k]:List Int).map V.int)):=ag
   have nF:=hb.out nn
   have hL1:=s1 _ _ hb.lst
   refine⟨L,_,_,rfl,rfl,hL1,b4 (by show 0≤1000;decide),?_⟩
   have hb2:=hb1.insert (i:=0) (Qf _) hn1 nF
   have ok1:LvOk [[k]]:=⟨(λl hl=>by rw[Qb.mp hl];simp),(λl hl=>by rw[Qb.mp hl];simp),(λi x y e1 e2=>by simp at e2),by show cP [k];exact Z6 _ _⟩
   refine q _ (LvF a L [n]) [k] ⟨L,[n],[[k]],hb2,ok1,rfl,λb=>Iff.rfl⟩ (λz=>?_) (fr.trans λb o n' w=>?_)
   ·rw[←ef]
    simp
   ·have w1:=s1 _ _ w
    refine⟨by rw[ae (λy=>n' (.inr (.inl y)))];exact w1,λy=>?_⟩
    rcases y with y|y|y
    ·exact n' (.inl y)
    ·exact n' (.inr (.inl y))
    ·rw[Qb.mp y,nn]at w;cases w
  ·have hpos:=QW.mpr ce
   refine⟨_,rfl,a,_,dx',_,_,rfl,ho,T.aG,T.ao,cc,L,_,rfl,.inl (SqL.of hb.lst),rfl,_,rfl,bg (λw=>?_) ?_⟩
   ·have:=V.int.inj w
    omega
   obtain⟨dx2,fs2,hi2,hm2⟩:=hb.insM
   refine⟨_,rfl,a,dx2,fs2,rfl,hi2,hm2 _ (by decide+kernel),_,rfl,a,k,L,A,ls,rfl,hb,ok.ne,ok.up,λi li=>?_⟩
   refine⟨_,rfl,a,_,dx',_,_,rfl,ho,T.aG,T.ao,cc,L,_,rfl,.inl (SqL.of hb.lst),_,_,rfl,rfl,_,_,rfl,?_⟩
   obtain⟨x,ad⟩:=li.add ok ce
   have em:(if((A.map V.ref).length:Int)-1<(i:Int)then((A.map V.ref).length:Int)-1 else(i:Int))=((min i (ls.length-1):Nat):Int):=by
    rw[lA]
    split<;>omega
   dsimp only
   rw[em]
   generalize min i (ls.length-1)=j at ad⊢
   obtain⟨c,ec,hc⟩:=hb.at ad.at_
   have jl:j<ls.length:=(Q2.mp ad.at_).1
   have x8:=ok.le x (Q1 ad.at_)
   refine⟨_,rfl,a,_,dx',_,_,rfl,ho,T.aG,T.ao,cc,_,rfl,L,_,_,_,rfl,rfl,SqL.of hb.lst,d6 ec,?_⟩
   refine⟨_,rfl,.inl ⟨rfl,_,SqL.of hc⟩,_,rfl,c,rfl,⟨_,SqL.of hc⟩,λD hD=>?_⟩
   refine i5 (K:=K) (a:=c) (xs:=x.map V.int) (λn ys H3=>H3=upd H0 D (.lst ys)∧ys=((x.take n).filter (λz=>decide (z<k))).map V.int) ⟨rfl,rfl⟩ (λn ys H3 _ w=>SqL.of (by rw[w.1,ae (al hc hD)];exact hc)) (λn v ys H3 hv w hDD=>?_) (λys H3 w hDD=>?_)
   ·obtain⟨e1,e2⟩:=w
    obtain⟨g,rfl,eg⟩:∃g:Int,v= .int g∧x[n]?=some g:=by
     rw[QA]at hv
     cases e:x[n]? with
     |none=>rw[e]at hv;cases hv
     |some g=>rw[e]at hv;cases hv;exact⟨g,rfl,rfl⟩
    have hn:n<(x.map V.int).length:=(Q2.mp hv).1
    refine⟨_,rfl,_,rfl,_,_,rfl,rfl,_,rfl,?_⟩
    have fl:ys.length≤8:=by
     rw[e2,Q0]
     have h1:=Qn (λz=>decide (z<k)) (x.take n)
     have h2:(x.take n).length≤x.length:=by rw[Q7];omega
     omega
    by_cases cg:g<k
    ·refine jf cg ⟨_,rfl,CNext.mk hn hDD (b4 (by omega)) ⟨by rw[e1,da],?_⟩⟩
     rw[e2,Qr,eg,Qx,Q9]
     simp[cg]
    ·refine bg cg (CSkip.mk hn hDD ⟨e1,?_⟩)
     rw[e2,Qr,eg,Qx]
     simp[cg]
   ·obtain⟨e1,e2⟩:=w
    rw[Q0,QJ]at e2
    have s3:Same H0 H3:=by rw[e1];exact aj hD
    have hb3:=hb.same s3
    have hc3:=s3 _ _ hc
    have yl:(ys.length:Int)=((x.filter (λz=>decide (z<k))).length:Int):=by rw[e2,Q0]
    have fle:=Qn (λz=>decide (z<k)) x
    refine⟨D,_,rfl,.inl (SqL.of hDD),_,rfl,c,_,_,_,rfl,rfl,hc3,(by omega),(by rw[Q0];omega),(by rw[Q0];exact b4 (by omega)),?_⟩
    have ei:(x.map V.int).take (ys.length:Int).toNat++V.int k::(x.map V.int).drop (ys.length:Int).toNat=(eC x k).map V.int:=by
     rw[yl,QQ]
     unfold eC
     rw[Q9,Qs,Zn,Xo]
    dsimp only
    rw[ei]
    have hb4:=hb3.write (y:=eC x k) ec ad.at_
    have il:=AS (l:=x) (k:=k)
    obtain⟨up4,mem4⟩:=ad.set ok nk
    have cF:LvF a L A c:= .inr (.inr (Q1 ec))
    have f4:Fr (LvF a L A) (LvF a L A) H0 (upd H3 c (.lst ((eC x k).map V.int))):=λb o n w=>⟨by rw[ae (λy=>n (by rw[y];exact cF))];exact s3 _ _ w,n⟩
    have hc4:upd H3 c (.lst ((eC x k).map V.int)) c=some (.lst ((eC x k).map V.int)):=ag
    generalize upd H3 c (.lst ((eC x k).map V.int))=H4 at hb4 f4 hc4⊢
    refine⟨_,rfl,c,_,rfl,.inl (SqL.of hc4),_,_,rfl,rfl,_,rfl,?_⟩
    have ll:((eC x k).map V.int).length=x.length+1:=by rw[Q0,il]
    by_cases c9:x.length=8
    ·refine jf (by rw[ll];omega) ?_
     obtain⟨dx5,fs5,hi5,hm5⟩:=hb4.insM
     have e5:(ls.set j (eC x k))[j]?=some (eC x k):=by rw[Qv,if_pos rfl,if_pos jl]
     refine⟨_,rfl,a,dx5,fs5,rfl,hi5,hm5 _ (by decide+kernel),_,rfl,a,L,A,_,j,_,rfl,hb4,e5,by omega,by rw[QH];omega,λH6 A6 hb6 f6=>?_⟩
     have er:(ls.set j (eC x k)).set j ((eC x k).take 4)=ls.set j ((eC x k).take 4):=List.set_set _
     rw[er]at hb6
     have up5:cP (ls.set j ((eC x k).take 4++(eC x k).drop 4)).flatten:=by rw[QN];exact up4
     obtain⟨ok6,ef6⟩:=ok.parted ad.at_ (a:=(eC x k).take 4) (b:=(eC x k).drop 4) (by rw[Q7];omega) (by rw[QG];omega) up5
     rw[QN]at ef6
     refine q H6 _ _ ⟨L,A6,_,hb6,ok6,rfl,λb=>Iff.rfl⟩ (λz=>?_) (fr.trans (f4.trans f6))
     rw[ef6,mem4,ef]
    ·refine bg (by rw[ll];omega) ?_
     have ok4:=ok.grown ad.at_ (y:=eC x k) (by omega) (by omega) up4
     exact q H4 _ _ ⟨L,A,_,hb4,ok4,rfl,λb=>Iff.rfl⟩ (λz=>by rw[mem4,ef]) (fr.trans f4)
def jd (t:Adr):Sp:=λvs H Q _=>∃(a L:Addr) (A:List Addr) (ls:List (List Int)) (i:Int),vs=[.ref a,.int i]∧LvB t H a L A ls∧-1≤i∧i<(ls.length:Int)∧(∀l∈ls,l.length≤8)∧ls.length<5000∧
 ∀H' A' ls',LvB t H' a L A' ls'→ls'=(if 0≤i then kF ls i.toNat else ls)→Fr (LvF a L A) (LvF a L A') H H'→Q .non H'
theorem AB {A:List Addr} {i:Nat} {n b:Addr} (h:b∈A.set i n):b∈A∨b=n:=List.mem_or_eq_of_mem_set h
theorem je (T:Txt K mg t):FnOk P w K mg base CX0 1 t.eD t.cu ["self","at"] (jd t):=by
 obtain⟨tk_LEAST_IN_TWO,hLEAST_IN_TWO⟩:=T.Bb
 refine T.wD.ok sc_Leaves__join_small (λvs H Q E h=>?_) (λcdv A outer s H vs Q E hr h=>?_)
 ·obtain⟨a,L,A,ls,i,rfl,_⟩:=h
  rfl
 ·obtain⟨a,L,A,ls,i,rfl,hb,i0,i1,l8,ll,q⟩:=h
  refine⟨_,(ac (aR (PW.pt (qh (au c6 (pv 1) af (aq _)) (lw (au bL (am bq (pv 1) af) (az aA (by rfl) T.bC aZ (aa (aC (pv 0) rfl) ah)) (aq _)))))
   (ai mi)
   aE)
   (ac (ar (i:=2) sc_Leaves__join_small.nd rfl (Or.inl rfl) (am xh (aU aN (aC (pv 0) rfl) (pv 1) (λ_ _=>rfl)) (aU aN (aC (pv 0) rfl) (am bq (pv 1) af) (λ_ _=>rfl))))
   (ai (aR (au c6 (az aA (by rfl) T.bC aZ (aa (pv 2) ah)) (bE (v:= .int 5) (by rfl) hLEAST_IN_TWO ⟨_,rfl⟩) (aq _))
   (ac (nG (pv 2) (xg (aC (pv 0) rfl) (pv 1) pZ))
   (ai (aS (dH Qq PySem.F.slot_list_pop PySem.F.type_list_pop vJ (aC (pv 0) rfl) (aa (am bq (pv 1) af) ah)))))
   aE))))
   ,?_⟩
  obtain⟨dx,ho⟩:=hb.obj
  have lA:((A.map V.ref).length:Int)=(ls.length:Int):=by rw[Q0,hb.len]
  by_cases c0:i<0
  ·refine⟨_,rfl,_,_,rfl,rfl,_,rfl,jf c0 ?_⟩
   exact cC (q H A ls hb (by rw[if_neg (by omega)]) Fr.refl)
  refine⟨_,rfl,_,_,rfl,rfl,_,rfl,bg c0 ?_⟩
  obtain⟨n,rfl⟩:=Z5 (show 0≤i by omega)
  have en:((n:Int)).toNat=n:=QQ n
  rw[if_pos (by omega),en]at q
  refine⟨_,rfl,_,_,rfl,rfl,_,rfl,a,_,dx,_,_,rfl,ho,T.aG,T.ao,cc,L,_,rfl,.inl (SqL.of hb.lst),rfl,_,rfl,?_⟩
  by_cases c1:n+1=ls.length
  ·refine eY (congrArg V.int (by rw[lA];omega)) ?_
   exact q H A ls hb (qK (by omega)).symm Fr.refl
  refine bg (λw=>c1 (by have:=V.int.inj w;rw[lA]at this;omega)) ?_
  have hn:n<ls.length:=by omega
  have hn1:n+1<ls.length:=by omega
  have ex:ls[n]?=some ls[n]:=Q3 hn
  have ey:ls[n+1]?=some ls[n+1]:=Q3 hn1
  have x8:=l8 _ (Za hn)
  have y8:=l8 _ (Za hn1)
  generalize ls[n]=x at ex x8
  generalize ls[n+1]=y at ey y8
  obtain⟨c,ec,hc⟩:=hb.at ex
  obtain⟨d,ed,hd⟩:=hb.at ey
  have ec1:(n:Int)+1=((n+1:Nat):Int):=rfl
  refine⟨_,rfl,a,_,dx,_,_,rfl,ho,T.aG,T.ao,cc,_,rfl,L,_,_,_,rfl,rfl,SqL.of hb.lst,d6 ec,_,rfl,a,_,dx,_,_,rfl,ho,T.aG,T.ao,cc,_,rfl,_,_,rfl,rfl,L,_,_,_,rfl,rfl,SqL.of hb.lst,d6 ed,c,d,_,_,rfl,rfl,hc,hd,Zj (b4 (by rw[Q0,Q0];omega)),λbo nbo=>?_⟩
  rw[←Q9]
  have s1:Same H (upd H bo (.lst ((x++y).map V.int))):=aj nbo
  have hb1:=hb.same s1
  have hbo:upd H bo (.lst ((x++y).map V.int)) bo=some (.lst ((x++y).map V.int)):=ag
  have nF:=hb.out nbo
  have ho1:=s1 _ _ ho
  have hL1:=s1 _ _ hb.lst
  generalize upd H bo (.lst ((x++y).map V.int))=H1 at s1 hb1 hbo ho1 hL1⊢
  refine⟨_,rfl,bo,_,rfl,.inl (SqL.of hbo),_,_,rfl,rfl,_,rfl,?_⟩
  have lxy:(((x++y).map V.int).length:Int)=(x.length:Int)+(y.length:Int):=by rw[Q0,Q8];rfl
  rw[vX ex ey]at q
  by_cases c5:x.length+y.length<5
  ·refine jf (by rw[lxy];omega) ?_
   rw[if_pos c5]at q
   have nA:n<A.length:=by rw[hb.len];exact hn
   refine⟨_,rfl,_,rfl,a,_,dx,_,_,rfl,ho1,T.aG,T.ao,cc,_,rfl,L,_,_,_,rfl,rfl,hL1,yj nA,?_⟩
   have es:(A.map V.ref).set n (V.ref bo)=(A.set n bo).map V.ref:=by rw[List.map_set]
   rw[es]
   have hb2:=hb1.swap ec ex hbo nF
   obtain⟨dx2,ho2⟩:=hb2.obj
   have hL2:=hb2.lst
   have f2:Fr (LvF a L A) (LvF a L (A.set n bo)) H (upd H1 L (.lst ((A.set n bo).map V.ref))):=λb o n' w=>by
    have w1:=s1 _ _ w
    refine⟨by rw[ae (λy=>n' (.inr (.inl y)))];exact w1,λy=>?_⟩
    rcases y with y|y|y
    ·exact n' (.inl y)
    ·exact n' (.inr (.inl y))
    ·rcases AB y with y|y
     ·exact n' (.inr (.inr y))
     ·rw[y,nbo]at w;cases w
   generalize upd H1 L (.lst ((A.set n bo).map V.ref))=H2 at hb2 ho2 hL2 f2⊢
   have lS:((A.set n bo).map V.ref).length=ls.length:=by rw[Q0,QH,hb.len]
   have hn2:n+1<(A.set n bo).length:=by rw[QH,hb.len];exact hn1
   have sx:seqIndex? ((n:Int)+1) ((A.set n bo).map V.ref).length=some (n+1):=by
    have:=seqIndex_of (k:=(n:Int)+1) (n:=((A.set n bo).map V.ref).length) (by omega) (by rw[lS];omega)
    rw[this]
    congr 1
   refine⟨_,rfl,a,_,dx2,_,_,rfl,ho2,T.aG,T.ao,cc,.inl ⟨rfl,_,SqL.of hL2⟩,_,rfl,_,_,rfl,rfl,L,_,_,n+1,_,rfl,rfl,hL2,(by omega),(by omega),sx,(by rw[QA,Q3 hn2];rfl),?_⟩
   have hb3:=hb2.erase (i:=n+1)
   have em:((A.set n bo).map V.ref).eraseIdx (n+1)=((A.set n bo).eraseIdx (n+1)).map V.ref:=lJ _ _
   rw[em]
   refine q _ _ _ hb3 rfl (f2.trans λb o n' w=>?_)
   refine⟨by rw[ae (λy=>n' (.inr (.inl y)))];exact w,λy=>?_⟩
   rcases y with y|y|y
   ·exact n' (.inl y)
   ·exact n' (.inr (.inl y))
   ·exact n' (.inr (.inr (Z0 y)))
  ·refine bg (by rw[lxy];omega) ?_
   rw[if_neg c5]at q
   exact q H1 A ls hb1 rfl (Fr.of_same s1)
theorem lF (T:Txt K mg t):FnOk P w K mg base CX0 3 t.gp t.dE ["self","key"] (lf K t):=by
 have Jj:= @jD P w K mg base t T
 have Jl:= @je P w K mg base t T
 have Jm:= @bI P w K mg base t T
 refine T.yL.ok sc_Leaves__discard (λvs H Q E h=>?_) (λcdv A outer s H vs Q E hr h=>?_)
 ·obtain⟨a,k,F,ks,rfl,_⟩:=h
  rfl
 ·obtain⟨a,k,F,ks,rfl,hA,hl,q1,q2⟩:=h
  refine⟨_,(ac (aR (iI (bY (aV (pv 0) T.aG T.sv Jj (hr.mono (by decide)) T.sI .nil aD (aa (pv 1) ah))))
   (ai gb)
   aE)
   (ac (ar (i:=2) sc_Leaves__discard.nd rfl (Or.inl rfl) (aV (pv 0) T.aG T.b9 Jm (hr.mono (by decide)) T.cf .nil aD (aa (pv 1) ah)))
   (ac (aS (dH Qq PySem.F.slot_list_remove PySem.F.type_list_remove zc (aU aN (aC (pv 0) rfl) (pv 2) (λ_ _=>rfl)) (aa (pv 1) ah)))
   (ac (aR (au bL (az aA (by rfl) T.bC aZ (aa (aU aN (aC (pv 0) rfl) (pv 2) (λ_ _=>rfl)) ah)) af (aq _))
   (ac (aS (dH Qq PySem.F.slot_list_pop PySem.F.type_list_pop vJ (aC (pv 0) rfl) (aa (pv 2) ah)))
   (ai mi))
   aE)
   (ac (aS (aV (pv 0) T.aG T.jG Jl (hr.mono (by decide)) T.jR .nil aD (aa (pv 2) ah)))
   (ai (aS (aV (pv 0) T.aG T.jG Jl (hr.mono (by decide)) T.jR .nil aD (aa (am fE (pv 2) af) ah)))))))))
   ,?_⟩
  obtain⟨dx,fs,hi,hm⟩:=hA.ins
  refine⟨_,rfl,a,dx,fs,rfl,hi,hm _ (by decide+kernel),_,rfl,a,k,F,ks,rfl,hA,λH0 F0 hA0 fr0=>?_⟩
  by_cases ck:k∈ks
  case neg=>
   rw[decide_eq_false ck]
   refine⟨_,rfl,cC ?_⟩
   exact(q2 ck).elim
  rw[decide_eq_true ck]
  refine⟨_,rfl,cX ?_⟩
  have q:=q1 ck
  obtain⟨L,A,ls,hb,ok,ef,hF⟩:=hA0
  obtain⟨dx',ho⟩:=hb.obj
  have sh:=ok.short
  rw[ef]at sh
  have fr:Fr F (LvF a L A) H H0:=λb o n e=>⟨(fr0 b o n e).1,λy=>(fr0 b o n e).2 ((hF b).mpr y)⟩
  obtain⟨dx2,fs2,hi2,hm2⟩:=hb.insM
  refine⟨_,rfl,a,dx2,fs2,rfl,hi2,hm2 _ (by decide+kernel),_,rfl,a,k,L,A,ls,rfl,hb,ok.ne,ok.up,λi li=>?_⟩
  obtain⟨x,ex,hx⟩:=(li.mem ok).mp (by rw[ef];exact ck)
  obtain⟨c,ec,hc⟩:=hb.at ex
  have il:i<ls.length:=(Q2.mp ex).1
  have ilA:i<A.length:=by rw[hb.len];exact il
  refine⟨_,rfl,a,_,dx',_,_,rfl,ho,T.aG,T.ao,cc,_,rfl,L,_,_,_,rfl,rfl,SqL.of hb.lst,d6 ec,.inl ⟨rfl,_,SqL.of hc⟩,_,rfl,c,x,k,rfl,rfl,hc,hx,?_⟩
  have hb1:=hb.write (y:=x.erase k) ec ex
  obtain⟨up1,mem1⟩:=ok.gone ex hx
  have cF:LvF a L A c:= .inr (.inr (Q1 ec))
  have f1:Fr (LvF a L A) (LvF a L A) H0 (upd H0 c (.lst ((x.erase k).map V.int))):=λb o n w=>⟨by rw[ae (λy=>n (by rw[y];exact cF))];exact w,n⟩
  have hc1:upd H0 c (.lst ((x.erase k).map V.int)) c=some (.lst ((x.erase k).map V.int)):=ag
  obtain⟨dx1,ho1⟩:=hb1.obj
  have hL1:=hb1.lst
  generalize upd H0 c (.lst ((x.erase k).map V.int))=H1 at hb1 f1 hc1 ho1 hL1⊢
  have le:=List.length_erase_of_mem hx
  refine⟨_,rfl,a,_,dx1,_,_,rfl,ho1,T.aG,T.ao,cc,_,rfl,L,_,_,_,rfl,rfl,SqL.of hL1,d6 ec,c,_,rfl,.inl (SqL.of hc1),rfl,_,rfl,?_⟩
  have px:=List.length_pos_of_mem hx
  by_cases c0:x.length=1
  ·refine eY (congrArg V.int (by rw[Q0,le,c0];rfl)) ?_
   have en:x.erase k=[]:=List.length_eq_zero_iff.mp (by omega)
   rw[en]at up1 mem1 hb1
   have sx:seqIndex? (i:Int) (A.map V.ref).length=some i:=by
    have:=seqIndex_of (k:=(i:Int)) (n:=(A.map V.ref).length) (by omega) (by rw[Q0];omega)
    rw[this,QQ]
   refine⟨_,rfl,a,_,dx1,_,_,rfl,ho1,T.aG,T.ao,cc,.inl ⟨rfl,_,SqL.of hL1⟩,_,rfl,L,_,_,i,_,rfl,rfl,hL1,(by omega),(by omega),sx,(by rw[QA,ec];rfl),?_⟩
   have hb2:=hb1.erase (i:=i)
   have e2:(ls.set i ([]:List Int)).eraseIdx i=ls.eraseIdx i:=tJ _ _ _
   rw[e2]at hb2
   rw[lJ]
   obtain⟨ok2,ef2⟩:=ok.out ex c0 up1
   refine q _ _ _ ⟨L,_,_,hb2,ok2,rfl,λb=>Iff.rfl⟩ (λz=>by rw[ef2,mem1,ef]) ((fr.trans f1).trans λb o n w=>?_)
   refine⟨by rw[ae (λy=>n (.inr (.inl y)))];exact w,λy=>?_⟩
   rcases y with y|y|y
   ·exact n (.inl y)
   ·exact n (.inr (.inl y))
   ·exact n (.inr (.inr (Z0 y)))
  ·refine bg (λw=>c0 (by have:=V.int.inj w;rw[Q0,le]at this;omega)) ?_
   have ny:x.erase k≠[]:=Zi (by omega)
   have w1:=ok.shrunk ex ny (by omega) up1
   obtain⟨dx3,fs3,hi3,hm3⟩:=hb1.insM
   have ls1:(ls.set i (x.erase k)).length=ls.length:=QH
   refine⟨_,rfl,a,dx3,fs3,rfl,hi3,hm3 _ (by decide+kernel),_,rfl,a,L,A,_,(i:Int),rfl,hb1,by omega,by rw[ls1];omega,w1.le,by rw[ls1];omega,λH2 A2 ls2 hb2 e2 f2=>?_⟩
   rw[if_pos (by omega),QQ]at e2
   obtain⟨w2,fl2⟩:=w1.join (i:=i) (λj h=>h)
   rw[←e2]at w2 fl2
   have l2:i≤ls2.length∧ls2.length≤ls.length:=by
    have:=zk (ls:=ls.set i (x.erase k)) (i:=i)
    rw[←e2,ls1]at this
    omega
   obtain⟨dx4,fs4,hi4,hm4⟩:=hb2.insM
   refine⟨_,rfl,a,dx4,fs4,rfl,hi4,hm4 _ (by decide+kernel),_,rfl,_,_,rfl,rfl,a,L,A2,ls2,(i:Int)-1,rfl,hb2,by omega,by omega,w2.le,by omega,λH3 A3 ls3 hb3 e3 f3=>?_⟩
   have fin:LvOk ls3∧ls3.flatten=ls2.flatten:=by
    by_cases ci:i=0
    ·subst ci
     rw[if_neg (by omega)]at e3
     subst e3
     exact⟨w2.ok λj h=>by omega,rfl⟩
    ·have ei:((i:Int)-1).toNat=i-1:=by omega
     rw[if_pos (by omega),ei]at e3
     obtain⟨w3,fl3⟩:=w2.join (i:=i-1) (λj h=>by omega)
     rw[←e3]at w3 fl3
     exact⟨w3.ok λj h=>by omega,fl3⟩
   obtain⟨ok3,ef3⟩:=fin
   refine q H3 _ _ ⟨L,A3,ls3,hb3,ok3,rfl,λb=>Iff.rfl⟩ (λz=>by rw[ef3,fl2,mem1,ef]) (((fr.trans f1).trans f2).trans f3)
def DU (a l:Addr) (k n:Int) (ls:List (List Int)) (H:Hp):Nat→St→Hp→Prop:=λm σ H'=>∃(i:Nat),m=ls.length-i∧Same H H'∧H l=none∧σ=[some (.ref a),some (.int k),some (.int n),some (.ref l),some (.int (i:Int))]∧i≤ls.length∧H' l=some (.lst ((((ls.take i).flatten).filter λz=>decide (k≤z)).map V.int))
theorem nU {ls:List (List Int)} {i:Nat} {x:List Int} (e:ls[i]?=some x):(ls.take (i+1)).flatten=(ls.take i).flatten++x:=by
 rw[Qr,e,Z8]
 simp
theorem mH (ls:List (List Int)) (i:Nat):ls.flatten=(ls.take i).flatten++(ls.drop i).flatten:=by rw[←Z8,QN]
theorem lE (T:Txt K mg t):FnOk P w K mg base CX0 2 t.gl t.dD ["self","key","most"] (k8 K t):=by
 have Jm:= @bI P w K mg base t T
 refine T.yK.ok sc_Leaves__from_on (λvs H Q E h=>?_) (λcdv A outer s H vs Q E hr h=>?_)
 ·obtain⟨a,k,n,F,ks,rfl,_⟩:=h
  rfl
 ·obtain⟨a,k,n,F,ks,rfl,hA,hl,n0,q⟩:=h
  refine⟨_,(ac (ar (i:=3) sc_Leaves__from_on.nd rfl (Or.inl rfl) (bN ah))
   (ac (ar (i:=4) sc_Leaves__from_on.nd rfl (Or.inl rfl) (aV (pv 0) T.aG T.b9 Jm (hr.mono (by decide)) T.cf .nil aD (aa (pv 1) ah)))
   (ac (jw PassesOwn.never (PW.pt (dM (au c6 (pv 4) (az aA (by rfl) T.bC aZ (aa (aC (pv 0) rfl) ah)) (aq _)) (cT (au c6 (az aA (by rfl) T.bC aZ (aa (pv 3) ah)) (pv 2) (aq _)))))
   (ac (aS (dH Qq ZD ZE j7 (pv 3) (aa (mq rfl (CScope.of (M:=["one"]) (N:=["self","key","most","told","at"]) (N':=["self","key","most","told","at"]) (dsc:=ak b7) rfl rfl (by decide+kernel)) (cU (aU aN (aC (pv 0) rfl) (pv 4) (λ_ _=>rfl))) (λ_ _ _ _ _=>(au tj (pv 0) (pv 2) (aq _))) (λ_ _ _ _ _=>(pv 0))) ah)))
   (ai (xc (i:=4) sc_Leaves__from_on.nd rfl (Or.inl rfl) af AR))))
   (ai (aF (eh fZ (pv 3) iJ (eV (pv 2))))))))
   ,?_⟩
  obtain⟨L,A,ls,hb,ok,ef,hF⟩:=hA
  refine⟨Qf _,λl nl=>?_⟩
  have s0:Same H (upd H l (.lst [])):=aj nl
  have e0:upd H l (.lst []) l=some (.lst (([]:List Int).map V.int)):=ag
  have hb0:=hb.same s0
  generalize upd H l (.lst [])=H0 at s0 e0 hb0⊢
  obtain⟨dx2,fs2,hi2,hm2⟩:=hb0.insM
  refine⟨_,rfl,a,dx2,fs2,rfl,hi2,hm2 _ (by decide+kernel),_,rfl,a,k,L,A,ls,rfl,hb0,ok.ne,ok.up,λi0 li=>?_⟩
  have f0:((ls.take i0).flatten).filter (λz=>decide (k≤z))=[]:=ZM.mpr λz hz=>by
   have:=zp ok li z hz
   simpa using this
  have lA:((A.map V.ref).length:Int)=(ls.length:Int):=by rw[Q0,hb.len]
  refine⟨DU a l k n ls H,⟨_,i0,rfl,s0,nl,rfl,li.le,by rw[f0];exact e0⟩,?_⟩
  rintro m σ H' ⟨i,rfl,s1,_,rfl,il,e1⟩
  have hb1:=hb.same s1
  obtain⟨dx1,ho1⟩:=hb1.obj
  have fin:∀(done:((((ls.take i).flatten).filter λz=>decide (k≤z)).take n.toNat)=(ks.filter λz=>decide (k≤z)).take n.toNat),∀p,H' p=none→Q (.ref p) (upd H' p (.lst (mL ((((ls.take i).flatten).filter λz=>decide (k≤z)).map V.int) none (some n)))):=λdone p np=>by
   refine q _ p (s1.trans (aj np)) ?_ ?_
   ·cases e:H p with
    |none=>rfl
    |some o=>rw[s1 _ _ e]at np;cases np
   ·rw[ag,jQ n0,←Zn,done]
  refine⟨_,rfl,_,rfl,a,_,dx1,_,_,rfl,ho1,T.aG,T.ao,cc,L,_,rfl,.inl (SqL.of hb1.lst),_,_,rfl,rfl,_,rfl,?_⟩
  by_cases c:i<ls.length
  ·refine jf (by rw[lA];omega) ?_
   refine⟨_,rfl,l,_,rfl,.inl (SqL.of e1),_,rfl,_,_,rfl,rfl,_,rfl,?_⟩
   by_cases c2:((((((ls.take i).flatten).filter λz=>decide (k≤z)).map V.int).length:Nat):Int)<n
   ·refine jf c2 ?_
    refine⟨λσ' H''=>∃m',m'<ls.length-i∧DU a l k n ls H m' σ' H'',λ_ _ h=>h,?_⟩
    have ex:ls[i]?=some ls[i]:=Q3 c
    obtain⟨b,eb,hbb⟩:=hb1.at ex
    have lb:l≠b:=λz=>by
     obtain⟨b',eb',h'⟩:=hb.at ex
     rw[eb]at eb'
     cases eb'
     rw[←z,nl]at h'
     cases h'
    have fl1:=Qn (λz=>decide (k≤z)) (ls.take i).flatten
    have fl2:(ls.take i).flatten.length+ls[i].length≤ks.length:=by
     rw[←ef,mH ls (i+1),nU ex,Q8,Q8]
     omega
    refine⟨_,rfl,.inl ⟨rfl,_,SqL.of e1⟩,_,rfl,a,_,dx1,_,_,rfl,ho1,T.aG,T.ao,cc,_,rfl,L,_,_,_,rfl,rfl,SqL.of hb1.lst,d6 eb,b,rfl,⟨_,SqL.of hbb⟩,λD hD=>?_⟩
    generalize ls[i]=x at ex hbb fl2⊢
    refine i5 (K:=K) (a:=b) (xs:=x.map V.int) (λm ys H3=>H3=upd H' D (.lst ys)∧ys=((x.take m).filter (λz=>decide (k≤z))).map V.int) ⟨rfl,rfl⟩ (λm ys H3 _ w=>SqL.of (by rw[w.1,ae (al hbb hD)];exact hbb)) (λm v ys H3 hv w hDD=>?_) (λys H3 w hDD=>?_)
    ·obtain⟨w1,w2⟩:=w
     obtain⟨g,rfl,eg⟩:∃g:Int,v= .int g∧x[m]?=some g:=by
      rw[QA]at hv
      cases e:x[m]? with
      |none=>rw[e]at hv;cases hv
      |some g=>rw[e]at hv;cases hv;exact⟨g,rfl,rfl⟩
     have hn:m<(x.map V.int).length:=(Q2.mp hv).1
     refine⟨_,rfl,_,rfl,_,_,rfl,rfl,_,rfl,?_⟩
     have fl:ys.length≤100000:=by
      rw[w2,Q0]
      have h1:=Qn (λz=>decide (k≤z)) (x.take m)
      have h2:(x.take m).length≤x.length:=by rw[Q7];omega
      omega
     by_cases cg:k≤g
     ·refine jf cg ⟨_,rfl,CNext.mk hn hDD (bi fl) ⟨by rw[w1,da],?_⟩⟩
      rw[w2,Qr,eg,Qx,Q9]
      simp[cg]
     ·refine bg cg (CSkip.mk hn hDD ⟨w1,?_⟩)
      rw[w2,Qr,eg,Qx]
      simp[cg]
    ·obtain⟨w1,w2⟩:=w
     rw[Q0,QJ]at w2
     have s3:Same H' H3:=by rw[w1];exact aj hD
     have e3:=s3 _ _ e1
     have fle:=Qn (λz=>decide (k≤z)) x
     have hsz:((((ls.take i).flatten).filter λz=>decide (k≤z)).map V.int).length+ys.length≤sizeLine:=by
      rw[w2,Q0,Q0]
      exact Zj (bi (by omega))
     refine⟨l,D,_,_,rfl,rfl,e3,hDD,hsz,?_⟩
     have hE:(((ls.take i).flatten).filter λz=>decide (k≤z)).map V.int++ys=(((ls.take (i+1)).flatten).filter λz=>decide (k≤z)).map V.int:=by
      rw[w2,nU ex,Qx,Q9]
     rw[hE]
     refine⟨_,rfl,_,_,rfl,rfl,_,?_,i+1,rfl,?_,nl,rfl,c,ag⟩
     ·omega
     ·exact bU (s1.trans s3) nl
   ·refine bg c2 ?_
    refine⟨_,rfl,_,rfl,_,rfl,l,_,rfl,SqL.of e1,fin ?_⟩
    have:ks.filter (λz=>decide (k≤z))=((ls.take i).flatten).filter (λz=>decide (k≤z))++((ls.drop i).flatten).filter (λz=>decide (k≤z)):=by rw[←ef,mH ls i,Qx]
    rw[this,XG]
    rw[Q0]at c2
    omega
  ·refine bg (by rw[lA];omega) ?_
   have ei:i=ls.length:=by omega
   subst ei
   refine⟨_,rfl,_,rfl,_,rfl,l,_,rfl,SqL.of e1,fin ?_⟩
   rw[QJ,ef]
def WDn (a l:Addr) (k:Option Int) (n:Int) (ls:List (List Int)) (H:Hp):Nat→St→Hp→Prop:=λm σ H'=>Same H H'∧H l=none∧m≤ls.length∧σ=[some (.ref a),some (vDn k),some (.int n),some (.ref l),some (.int ((m:Int)-1))]∧H' l=some (.lst ((((ls.drop m).flatten).reverse.filter (c8 k)).map V.int))
theorem CV {c:Prop} [Decidable c] {D:vc} {A:Prop} {σ:St} {H:Hp} (Pv:St→Hp→Prop) (main:∀σ' H',Pv σ' H'→D.nx σ' H') (hA:c→(∀σ' H',Pv σ' H'→D.nx σ' H')→A) (hB:Pv σ H):if c then A else xR D σ H:=bB (λh=>hA h main) (λ_=>main _ _ hB)
theorem zt {ls:List (List Int)} {i:Nat} {x:List Int} (e:ls[i]?=some x):((ls.drop i).flatten).reverse=((ls.drop (i+1)).flatten).reverse++x.reverse:=by
 obtain⟨h,e⟩:=Q2.mp e
 rw[QY h,e,Z7,List.reverse_append]
theorem zu {k:Int} {ls:List (List Int)} {i0:Nat} (ok:LvOk ls) (li:LeafOf ls k i0):((ls.drop (i0+1)).flatten).reverse.filter (c8 (some k))=[]:=ZM.mpr λz hz=>by
 have:=li.behind ok z (ZP.mp hz)
 simp only[c8,decide_eq_true_eq]
 omega
theorem Bo {i0 len:Nat}:(if((len:Int)-1<(i0:Int))then((len:Int)-1)else(i0:Int))=((min (i0+1) len:Nat):Int)-1:=by
 split<;>omega
theorem zw {k:Int} {ls:List (List Int)} {i0:Nat} (ok:LvOk ls) (li:LeafOf ls k i0):((ls.drop (min (i0+1) ls.length)).flatten).reverse.filter (c8 (some k))=[]:=by
 rcases Nat.le_total (i0+1) ls.length with c|c
 ·rw[Xd c];exact zu ok li
 ·rw[Nat.min_eq_right c,List.drop_length];rfl
theorem jE (T:Txt K mg t):FnOk P w K mg base CX0 2 t.eT t.cJ ["self","key","most"] (jk K t):=by
 have Jm:= @bI P w K mg base t T
 refine T.wL.ok sc_Leaves__down_from (λvs H Q E h=>?_) (λcdv A outer s H vs Q E hr h=>?_)
 ·obtain⟨a,k,n,F,ks,rfl,_⟩:=h
  rfl
 ·obtain⟨a,k,n,F,ks,rfl,hA,hl,n0,q⟩:=h
  refine⟨_,(ac (ar (i:=3) sc_Leaves__down_from.nd rfl (Or.inl rfl) (bN ah))
   (ac (ar (i:=4) sc_Leaves__down_from.nd rfl (Or.inl rfl) (am fE (az aA (by rfl) T.bC aZ (aa (aC (pv 0) rfl) ah)) af))
   (ac (aR (au CA (pv 1) b6 (aq _))
   (ai (ar (i:=4) sc_Leaves__down_from.nd rfl (Or.inl rfl) (az (kh rfl) (by rfl) T.vd oe (aa (aV (pv 0) T.aG T.b9 Jm (hr.mono (by decide)) T.cf .nil aD (aa (pv 1) ah)) (aa (pv 4) ah)))))
   aE)
   (ac (jw PassesOwn.never (PW.pt (dM (au tj (pv 4) af (aq _)) (cT (au c6 (az aA (by rfl) T.bC aZ (aa (pv 3) ah)) (pv 2) (aq _)))))
   (ac (aS (dH Qq ZD ZE j7 (pv 3) (aa (mq rfl (CScope.of (M:=["one"]) (N:=["self","key","most","told","at"]) (N':=["self","key","most","told","at"]) (dsc:=ak bR) rfl rfl (by decide+kernel)) (El (by rfl) T.DY (aa (aU aN (aC (pv 0) rfl) (pv 4) (λ_ _=>rfl)) ah)) (λ_ _ _ _ _=>(PW.pt (qh (au gJ (pv 2) b6 (aq _)) (lw (au jy (pv 0) (pv 2) (aq _)))))) (λ_ _ _ _ _=>(pv 0))) ah)))
   (ai (xc (i:=4) sc_Leaves__down_from.nd rfl (Or.inl rfl) af EJ))))
   (ai (aF (eh fZ (pv 3) iJ (eV (pv 2)))))))))
   ,?_⟩
  obtain⟨L,A,ls,hb,ok,ef,hF⟩:=hA
  refine⟨Qf _,λl nl=>?_⟩
  have s0:Same H (upd H l (.lst [])):=aj nl
  have e0:upd H l (.lst []) l=some (.lst (([]:List Int).map V.int)):=ag
  have hb0:=hb.same s0
  generalize upd H l (.lst [])=H0 at s0 e0 hb0⊢
  obtain⟨dx0,ho0⟩:=hb0.obj
  have lA:((A.map V.ref).length:Int)=(ls.length:Int):=by rw[Q0,hb.len]
  refine⟨_,rfl,a,_,dx0,_,_,rfl,ho0,T.aG,T.ao,cc,L,_,rfl,.inl (SqL.of hb0.lst),_,_,rfl,rfl,?_⟩
  rw[lA]
  refine⟨_,rfl,rfl,_,rfl,CV (λσ' H'=>∃m,WDn a l k n ls H m σ' H') (λσ' H' wW=>?main) (λc key=>?A) ⟨ls.length,s0,nl,Q5 _,rfl,by rw[List.drop_length];exact e0⟩⟩
  case A=>
   cases k with
   |none=>exact absurd c (by decide)
   |some k=>
    obtain⟨dx2,fs2,hi2,hm2⟩:=hb0.insM
    refine⟨_,rfl,a,dx2,fs2,rfl,hi2,hm2 _ (by decide+kernel),_,rfl,a,k,L,A,ls,rfl,hb0,ok.ne,ok.up,λi0 li=>?_⟩
    refine⟨_,rfl,_,_,rfl,?_⟩
    dsimp only
    rw[Bo]
    exact key _ _ ⟨min (i0+1) ls.length,s0,nl,Nat.min_le_right _ _,rfl,by rw[zw ok li];exact e0⟩
  case main=>
   obtain⟨m0,w0⟩:=wW
   refine⟨WDn a l k n ls H,⟨m0,w0⟩,?_⟩
   rintro m σ H' ⟨s1,_,ml,rfl,e1⟩
   have hb1:=hb.same s1
   obtain⟨dx1,ho1⟩:=hb1.obj
   have fin:∀(done:((((ls.drop m).flatten).reverse.filter (c8 k)).take n.toNat)=(ks.reverse.filter (c8 k)).take n.toNat),∀p,H' p=none→Q (.ref p) (upd H' p (.lst (mL ((((ls.drop m).flatten).reverse.filter (c8 k)).map V.int) none (some n)))):=λdone p np=>by
    refine q _ p (s1.trans (aj np)) ?_ ?_
    ·cases e:H p with
     |none=>rfl
     |some o=>rw[s1 _ _ e]at np;cases np
    ·rw[ag,jQ n0,←Zn,done]
   refine⟨_,rfl,_,_,rfl,rfl,_,rfl,?_⟩
   cases m with
   |zero=>
    refine bg (by decide) ?_
    refine⟨_,rfl,_,rfl,_,rfl,l,_,rfl,SqL.of e1,fin ?_⟩
    rw[Zp,ef]
   |succ i=>
    have im:((i+1:Nat):Int)-1=(i:Int):=by omega
    rw[im]
    refine jf (by omega) ?_
    refine⟨_,rfl,l,_,rfl,.inl (SqL.of e1),_,rfl,_,_,rfl,rfl,_,rfl,?_⟩
    by_cases c2:((((((ls.drop (i+1)).flatten).reverse.filter (c8 k)).map V.int).length:Nat):Int)<n
    ·refine jf c2 ?_
     refine⟨λσ' H''=>∃m',m'<i+1∧WDn a l k n ls H m' σ' H'',λ_ _ h=>h,?_⟩
     have ex:ls[i]?=some ls[i]:=Q3 ml
     obtain⟨b,eb,hbb⟩:=hb1.at ex
     have fl1:=Qn (c8 k) ((ls.drop (i+1)).flatten).reverse
     have fl2:((ls.drop (i+1)).flatten).reverse.length+ls[i].length≤ks.length:=by
      rw[←ef,mH ls (i+1),nU ex,Q8,Q8,QX]
      omega
     refine⟨_,rfl,.inl ⟨rfl,_,SqL.of e1⟩,_,rfl,a,_,dx1,_,_,rfl,ho1,T.aG,T.ao,cc,_,rfl,L,_,_,_,rfl,rfl,SqL.of hb1.lst,d6 eb,b,_,rfl,SqL.of hbb,λD hD=>?_⟩
     generalize ls[i]=x at ex hbb fl2⊢
     refine zA (K:=K) (a:=b) (xs:=x.map V.int) (λm ys H3=>H3=upd H' D (.lst ys)∧ys=((x.reverse.take m).filter (c8 k)).map V.int) ⟨rfl,rfl⟩ (λm ys H3 _ w=>SqL.of (by rw[w.1,ae (al hbb hD)];exact hbb)) (λm v ys H3 hv w hDD=>?_) (λys H3 w hDD=>?_)
     ·obtain⟨w1,w2⟩:=w
      obtain⟨g,rfl,eg⟩:∃g:Int,v= .int g∧x.reverse[m]?=some g:=by
       rw[←List.map_reverse,QA]at hv
       cases e:x.reverse[m]? with
       |none=>rw[e]at hv;cases hv
       |some g=>rw[e]at hv;cases hv;exact⟨g,rfl,rfl⟩
      have hn:m<(x.map V.int).length:=by
       have:=(Q2.mp hv).1
       rwa [QX]at this
      have fl:ys.length≤100000:=by
       rw[w2,Q0]
       have h1:=Qn (c8 k) (x.reverse.take m)
       have h2:(x.reverse.take m).length≤x.reverse.length:=by rw[Q7];omega
       rw[QX]at h2
       omega
      have yes:c8 k g=true→CNext (x.map V.int).length m ys D (λm ys H3=>H3=upd H' D (.lst ys)∧ys=((x.reverse.take m).filter (c8 k)).map V.int) (.int g) H3:=λcg=>by
       refine CNext.mk hn hDD (bi fl) ⟨by rw[w1,da],?_⟩
       rw[w2,Qr,eg,Qx,Q9]
       simp[cg]
      have no:c8 k g=false→CSkip (x.map V.int).length m ys D (λm ys H3=>H3=upd H' D (.lst ys)∧ys=((x.reverse.take m).filter (c8 k)).map V.int) H3:=λcg=>by
       refine CSkip.mk hn hDD ⟨w1,?_⟩
       rw[w2,Qr,eg,Qx]
       simp[cg]
      refine⟨_,rfl,rfl,_,rfl,?_⟩
      cases k with
      |none=>exact cC (cC ⟨_,rfl,yes rfl⟩)
      |some k=>
       refine cX ⟨_,rfl,_,rfl,_,_,rfl,rfl,_,rfl,?_⟩
       by_cases cg:g≤k
       ·exact jf cg ⟨_,rfl,yes (decide_eq_true cg)⟩
       ·exact bg cg (no (decide_eq_false cg))
     ·obtain⟨w1,w2⟩:=w
      rw[Q0,show x.length=x.reverse.length from QX.symm,QJ]at w2
      have s3:Same H' H3:=by rw[w1];exact aj hD
      have e3:=s3 _ _ e1
      have fle:=Qn (c8 k) x.reverse
      have hsz:((((ls.drop (i+1)).flatten).reverse.filter (c8 k)).map V.int).length+ys.length≤sizeLine:=by
       rw[w2,Q0,Q0]
       rw[QX]at fle
       exact Zj (bi (by omega))
      refine⟨l,D,_,_,rfl,rfl,e3,hDD,hsz,?_⟩
      have hE:(((ls.drop (i+1)).flatten).reverse.filter (c8 k)).map V.int++ys=(((ls.drop i).flatten).reverse.filter (c8 k)).map V.int:=by
       rw[w2,zt ex,Qx,Q9]
      rw[hE]
      refine⟨_,rfl,_,_,rfl,rfl,i,Zz _,bU (s1.trans s3) nl,nl,Zj ml,rfl,ag⟩
    ·refine bg c2 ?_
     refine⟨_,rfl,_,rfl,_,rfl,l,_,rfl,SqL.of e1,fin ?_⟩
     have:ks.reverse.filter (c8 k)=((ls.drop (i+1)).flatten).reverse.filter (c8 k)++((ls.take (i+1)).flatten).reverse.filter (c8 k):=by rw[←ef,mH ls (i+1),List.reverse_append,Qx]
     rw[this,XG]
     rw[Q0]at c2
     omega
theorem pJ:(0:Int)<10^(39:Int).toNat:=by decide
theorem LvA.rise {H:Hp} {a:Addr} {F:Addr→Prop} {ks:List Int} (h:LvA K t H a F ks):cP ks:=by
 obtain⟨_,_,ls,_,ok,ef,_⟩:=h
 rw[←ef]
 exact ok.up
theorem Bq (ms:List Int) (lo hi:Option Int):∃cs:List Int,mL (ms.map V.int) lo hi=cs.map V.int∧cs.Sublist ms:=by
 refine⟨(ms.drop (HT.sIx (ms.map V.int).length 0 lo)).take (HT.sIx (ms.map V.int).length (ms.map V.int).length hi-HT.sIx (ms.map V.int).length 0 lo),?_,?_⟩
 ·unfold mL
  rw[Zn,Xo]
 ·exact(X3 _ _).trans (List.drop_sublist _ _)
theorem vG (T:Txt K mg t):FnOk P w K mg base CX0 1 t.qY t.lL ["thing"] vm:=by
 refine T.xK.ok vv (λvs H Q E h=>?_) (λcdv A outer s H vs Q E hr h=>?_)
 ·obtain⟨x,rfl,_⟩:=h
  rfl
 ·obtain⟨x,rfl,hx,k⟩:=h
  refine⟨_,(ai (aF (gI (az oC (by rfl) T.bD bh (aa (pv 0) (aa (x5 (v:= .ty "int") (by rfl) T.FY EV rfl) ah))) (dt (Al (az oC (by rfl) T.bD bh (aa (pv 0) (aa (x5 (v:= .ty "bool") (by rfl) T.FW Da rfl) ah))))))))
   ,?_⟩
  cases x with
  |int i=>
   refine⟨_,rfl,_,_,_,_,rfl,TyOf.int _,EA,true,rfl,cC ?_⟩
   exact⟨_,rfl,_,_,_,_,rfl,TyOf.int _,EB,_,rfl,k⟩
  |bl c=>
   refine⟨_,rfl,_,_,_,_,rfl,TyOf.bl _,EC,true,rfl,cC ?_⟩
   exact⟨_,rfl,_,_,_,_,rfl,TyOf.bl _,ED,_,rfl,k⟩
  |str c=>exact⟨_,rfl,_,_,_,_,rfl,TyOf.str _,Ey,false,rfl,cX k⟩
  |non=>exact⟨_,rfl,_,_,_,_,rfl,TyOf.non,Ez,false,rfl,cX k⟩
  |_=>exact hx.elim
theorem lB (T:Txt K mg t):FnOk P w K mg base CX0 2 t.t9 t.n8 ["thing","low"] wV:=by
 have Yl:= @vG P w K mg base t T
 refine T.fk.ok xa (λvs H Q E h=>?_) (λcdv A outer s H vs Q E hr h=>?_)
 ·obtain⟨x,lo,rfl,_⟩:=h
  rfl
 ·obtain⟨x,lo,rfl,hx,k⟩:=h
  refine⟨_,(ai (aF (gI (aJ Yl (hr.mono (by decide)) (by rfl) T.Ev T.xK.kp T.EX .nil aD (aa (pv 0) ah)) (dt (bz tj (pv 0) (pv 1) (aq _))))))
   ,?_⟩
  cases x with
  |int i=>exact⟨_,rfl,_,rfl,hx,true,rfl,cC ⟨_,rfl,_,rfl,_,_,rfl,rfl,k⟩⟩
  |bl c=>exact⟨_,rfl,_,rfl,hx,false,rfl,cX k⟩
  |str c=>exact⟨_,rfl,_,rfl,hx,false,rfl,cX k⟩
  |non=>exact⟨_,rfl,_,rfl,hx,false,rfl,cX k⟩
  |_=>exact hx.elim
theorem fG (T:Txt K mg t):FnOk P w K mg base CX0 1 t.gZ t.gL ["self","kind","at","end"] (ft K):=by
 refine T.g6.ok p4 (λvs H Q E h=>?_) (λcdv A outer s H vs Q E hr h=>?_)
 ·obtain⟨p,C,dx,kd,a,e,rfl,_⟩:=h
  rfl
 ·obtain⟨p,C,dx,kd,a,e,rfl,hp,cl,n0,n1,n2,k⟩:=h
  refine⟨_,(ac (b5 (pv 0) (pv 1) rfl)
   (ac (b5 (pv 0) (pv 2) rfl)
   (ai (b5 (pv 0) (pv 3) rfl))))
   ,?_⟩
  refine⟨_,rfl,_,rfl,p,C,dx,[],rfl,hp,cl,n0,(by show 0<1000;decide),_,rfl,_,rfl,p,C,dx,_,rfl,ag,cl,n1,(by show 1<1000;decide),_,rfl,_,rfl,p,C,dx,_,rfl,ag,cl,n2,?_,?_⟩
  ·have h1:=jv (f:="at") (v:=a) (bc "kind" (.str kd) [])
   have h2:=jv (f:="kind") (v:= .str kd) []
   have h3:([]:List (Str×V)).length=0:=rfl
   omega
  rw[da,da]
  refine k _ _ (λb o q z=>by rw[ae z];exact q) ag ⟨?_,?_,?_,?_,?_⟩
  ·rw[a6,if_neg (by decide+kernel),a6,if_neg (by decide+kernel),a6,if_pos rfl]
  ·rw[a6,if_neg (by decide+kernel),a6,if_pos rfl]
  ·rw[a6,if_pos rfl]
  ·rw[a6,if_neg (by decide+kernel),a6,if_neg (by decide+kernel),a6,if_neg (by decide+kernel)];rfl
  ·rw[a6,if_neg (by decide+kernel),a6,if_neg (by decide+kernel),a6,if_neg (by decide+kernel)];rfl
theorem j9 {x:V} {lo:Int} (h:isF lo x=true):∃i,x= .int i∧lo≤i:=by
 cases x with
 |int i=>exact⟨i,rfl,of_decide_eq_true h⟩
 |_=>cases h
theorem hI (T:Txt K mg t):FnOk P w K mg base CX0 3 t.jc t.b3 ["self","at","end"] (m7 t):=by
 obtain⟨tk_PLACES,hPLACES⟩:=T.qO
 have Y2:= @fG P w K mg base t T
 have Yk:= @lB P w K mg base t T
 refine T.zN.ok m8 (λvs H Q E h=>?_) (λcdv A outer s H vs Q E hr h=>?_)
 ·obtain⟨p,dx,a,e,rfl,_⟩:=h
  rfl
 ·obtain⟨p,dx,a,e,rfl,hp,sa,se,k1,k2⟩:=h
  refine⟨_,(ac (aR (iI (PW.pt (dM (bY (aJ Yk (hr.mono (by decide)) (by rfl) T.hX T.fk.kp T.ii .nil aD (aa (pv 1) (aa af ah)))) (dM (bY (aJ Yk (hr.mono (by decide)) (by rfl) T.hX T.fk.kp T.ii .nil aD (aa (pv 2) (aa (pv 1) ah)))) (cT (au jy (pv 2) (bE (v:= .int 65536) (by rfl) hPLACES ⟨_,rfl⟩) (aq _)))))))
   (ai gb)
   aE)
   (ai (aS (uA (by rfl) T.vS T.kE T.g6.kp Y2 (hr.mono (by decide)) T.kK .nil aD (aa (pv 0) (aa ql (aa (pv 1) (aa (pv 2) ah))))))))
   ,?_⟩
  refine⟨_,rfl,a,0,rfl,sa,_,rfl,bB (λc=>?_) (λc=>?_)⟩
  ·obtain⟨i,rfl,i0⟩:=j9 c
   refine⟨_,rfl,_,rfl,e,i,rfl,se,_,rfl,bB (λc=>?_) (λc=>?_)⟩
   ·obtain⟨j,rfl,ij⟩:=j9 c
    refine⟨_,rfl,_,_,rfl,rfl,_,rfl,?_⟩
    by_cases cj:j≤65536
    ·rw[decide_eq_true cj]
     exact cX ⟨_,rfl,_,rfl,_,rfl,p,_,dx,_,.int i,.int j,rfl,hp,T.br,T.zJ,T.gK,T.bV,λH' fs k h f=>k1 ⟨i,j,rfl,rfl,i0,ij,cj⟩ H' fs k h f⟩
    ·rw[decide_eq_false cj]
     exact cC ((k2 λ⟨i',j',e1,e2,_,_,h⟩=>by cases e2;exact cj h))
   ·exact cC ((k2 λ⟨i',j',e1,e2,_,h,_⟩=>c (by cases e1;rw[e2];exact decide_eq_true h)))
  ·exact cC ((k2 λ⟨i',j',e1,_,h,_⟩=>c (by rw[e1];exact decide_eq_true h)))
theorem oj (T:Txt K mg t):FnOk P w K mg base CX0 3 t.q9 t.fS ["self","at","end"] (vo t):=by
 have Y2:= @fG P w K mg base t T
 have Yk:= @lB P w K mg base t T
 refine T.E9.ok vx (λvs H Q E h=>?_) (λcdv A outer s H vs Q E hr h=>?_)
 ·obtain⟨p,dx,a,e,rfl,_⟩:=h
  rfl
 ·obtain⟨p,dx,a,e,rfl,hp,sa,se,k1,k2⟩:=h
  refine⟨_,(ac (aR (iI (PW.pt (dM (bY (aJ Yk (hr.mono (by decide)) (by rfl) T.hX T.fk.kp T.ii .nil aD (aa (pv 1) (aa af ah)))) (cT (PW.pt (qh (au gJ (pv 2) b6 (aq _)) (lw (bY (aJ Yk (hr.mono (by decide)) (by rfl) T.hX T.fk.kp T.ii .nil aD (aa (pv 2) (aa (pv 1) ah)))))))))))
   (ai gb)
   aE)
   (ai (aS (uA (by rfl) T.vS T.kE T.g6.kp Y2 (hr.mono (by decide)) T.kK .nil aD (aa (pv 0) (aa ql (aa (pv 1) (aa (pv 2) ah))))))))
   ,?_⟩
  refine⟨_,rfl,a,0,rfl,sa,_,rfl,bB (λc=>?_) (λc=>?_)⟩
  ·obtain⟨i,rfl,i0⟩:=j9 c
   have fin:okU (.int i) e→ft K [.ref p,.str "up",.int i,e] H (λ_ H'=>Q .non H') E0:=λok=>⟨p,_,dx,"up",.int i,e,rfl,hp,T.eP,T.Eu,T.mw,T.hV,λH' fs k h f=>k1 ok H' fs k h f⟩
   by_cases ce:e= .non
   ·exact⟨_,rfl,rfl,_,rfl,eY ce (cX ⟨_,rfl,_,rfl,_,rfl,fin ⟨i,rfl,i0,.inl ce⟩⟩)⟩
   ·refine⟨_,rfl,rfl,_,rfl,bg ce ⟨_,rfl,_,rfl,e,i,rfl,se,_,rfl,?_⟩⟩
    cases ci:isF i e with
    |true=>
     obtain⟨j,rfl,ij⟩:=j9 ci
     exact cX ⟨_,rfl,_,rfl,_,rfl,fin ⟨i,rfl,i0,.inr ⟨j,rfl,ij⟩⟩⟩
    |false=>
     refine cC ((k2 λ⟨i',e1,_,e2⟩=>?_))
     cases e1
     rcases e2 with e2|⟨j',e2,h⟩
     ·exact ce e2
     ·rw[e2]at ci
      exact of_decide_eq_false ci h
  ·exact cC ((k2 λ⟨i',e1,h,_⟩=>c (by rw[e1];exact decide_eq_true h)))
theorem kD (T:Txt K mg t):FnOk P w K mg base CX0 3 t.mX t.dF ["self","at","end"] (rN t):=by
 have Y2:= @fG P w K mg base t T
 have Yk:= @lB P w K mg base t T
 refine T.Dq.ok rT (λvs H Q E h=>?_) (λcdv A outer s H vs Q E hr h=>?_)
 ·obtain⟨p,dx,a,e,rfl,_⟩:=h
  rfl
 ·obtain⟨p,dx,a,e,rfl,hp,sa,se,k1,k2⟩:=h
  refine⟨_,(ac (aR (iI (PW.pt (dM (bY (aJ Yk (hr.mono (by decide)) (by rfl) T.hX T.fk.kp T.ii .nil aD (aa (pv 2) (aa af ah)))) (cT (PW.pt (qh (au gJ (pv 1) b6 (aq _)) (lw (bY (aJ Yk (hr.mono (by decide)) (by rfl) T.hX T.fk.kp T.ii .nil aD (aa (pv 1) (aa (pv 2) ah)))))))))))
   (ai gb)
   aE)
   (ai (aS (uA (by rfl) T.vS T.kE T.g6.kp Y2 (hr.mono (by decide)) T.kK .nil aD (aa (pv 0) (aa ql (aa (pv 1) (aa (pv 2) ah))))))))
   ,?_⟩
  refine⟨_,rfl,e,0,rfl,se,_,rfl,bB (λc=>?_) (λc=>?_)⟩
  ·obtain⟨j,rfl,j0⟩:=j9 c
   have fin:okD a (.int j)→ft K [.ref p,.str "down",a,.int j] H (λ_ H'=>Q .non H') E0:=λok=>⟨p,_,dx,"down",a,.int j,rfl,hp,T.bS,T.CH,T.fI,T.gf,λH' fs k h f=>k1 ok H' fs k h f⟩
   by_cases ce:a= .non
   ·exact⟨_,rfl,rfl,_,rfl,eY ce (cX ⟨_,rfl,_,rfl,_,rfl,fin ⟨j,rfl,j0,.inl ce⟩⟩)⟩
   ·refine⟨_,rfl,rfl,_,rfl,bg ce ⟨_,rfl,_,rfl,a,j,rfl,sa,_,rfl,?_⟩⟩
    cases ci:isF j a with
    |true=>
     obtain⟨i,rfl,ij⟩:=j9 ci
     exact cX ⟨_,rfl,_,rfl,_,rfl,fin ⟨j,rfl,j0,.inr ⟨i,rfl,ij⟩⟩⟩
    |false=>
     refine cC ((k2 λ⟨j',e1,_,e2⟩=>?_))
     cases e1
     rcases e2 with e2|⟨i',e2,h⟩
     ·exact ce e2
     ·rw[e2]at ci
      exact of_decide_eq_false ci h
  ·exact cC ((k2 λ⟨j',e1,h,_⟩=>c (by rw[e1];exact decide_eq_true h)))
theorem gd (T:Txt K mg t):FnOk P w K mg base CX0 3 t.ip t.dS ["self","key"] (db t):=by
 have Yr:= @oi P w K mg base t T
 refine T.zI.ok lZ (λvs H Q E h=>?_) (λcdv A outer s H vs Q E hr h=>?_)
 ·obtain⟨p,dx,fs,a,e,k,rfl,_⟩:=h
  rfl
 ·obtain⟨p,dx,fs,a,e,k,rfl,hp,tf,⟨i,j,rfl,rfl,i0,ij,j1⟩,h0,q⟩:=h
  refine⟨_,(ai (aF (Am jy c6 (aC (pv 0) rfl) (aJ Yr (hr.mono (by decide)) (by rfl) T.xu T.rj.kp T.xG .nil aD (aa (pv 1) ah)) (aC (pv 0) rfl))))
   ,?_⟩
  have q:Q (.bl (decide (i≤tz (k%65536))&&decide (tz (k%65536)<j))) H:=q H (Same.refl H)
  refine⟨_,rfl,p,_,dx,fs,_,rfl,hp,T.br,T.gK,tf.at_,_,rfl,k,rfl,_,_,rfl,rfl,_,rfl,bB (λc=>?_) (λc=>?_)⟩
  ·refine⟨_,rfl,p,_,dx,fs,_,rfl,hp,T.br,T.bV,tf.end_,_,_,rfl,rfl,?_⟩
   rw[c,ZR]at q
   exact q
  ·rw[QR.mpr c,Zw]at q
   exact q
theorem iK (T:Txt K mg t):FnOk P w K mg base CX0 1 t.oK t.jM ["self","key"] (cv t):=by
 refine T.DX.ok uu (λvs H Q E h=>?_) (λcdv A outer s H vs Q E hr h=>?_)
 ·obtain⟨p,dx,fs,a,e,k,rfl,_⟩:=h
  rfl
 ·obtain⟨p,dx,fs,a,e,k,rfl,hp,tf,⟨i,rfl,i0,he⟩,h0,q⟩:=h
  refine⟨_,(ai (aF (gI (bz jy (aC (pv 0) rfl) (pv 1) (aq _)) (dt (xY (bz gJ (aC (pv 0) rfl) b6 (aq _)) (dt (bz c6 (pv 1) (aC (pv 0) rfl) (aq _))))))))
   ,?_⟩
  have q:=q H (Same.refl H)
  rcases he with rfl|⟨j,rfl,ij⟩
  ·have q:Q (.bl (decide (i≤k))) H:=q
   refine⟨_,rfl,p,_,dx,fs,_,rfl,hp,T.eP,T.mw,tf.at_,_,rfl,_,_,rfl,rfl,_,rfl,bB (λc=>⟨_,rfl,p,_,dx,fs,_,rfl,hp,T.eP,T.hV,tf.end_,rfl,_,rfl,eY rfl ?_⟩) (λc=>?_)⟩
   ·rw[c]at q;exact q
   ·rw[QR.mpr c]at q;exact q
  ·have q:Q (.bl (decide (i≤k)&&decide (k<j))) H:=q
   refine⟨_,rfl,p,_,dx,fs,_,rfl,hp,T.eP,T.mw,tf.at_,_,rfl,_,_,rfl,rfl,_,rfl,bB (λc=>⟨_,rfl,p,_,dx,fs,_,rfl,hp,T.eP,T.hV,tf.end_,rfl,_,rfl,bg (λz=>by cases z) ⟨_,rfl,_,rfl,p,_,dx,fs,_,rfl,hp,T.eP,T.hV,tf.end_,_,_,rfl,rfl,?_⟩⟩) (λc=>?_)⟩
   ·rw[c,ZR]at q;exact q
   ·rw[QR.mpr c,Zw]at q;exact q
theorem fH (T:Txt K mg t):FnOk P w K mg base CX0 1 t.kY t.gY ["self","key"] (bT t):=by
 refine T.Cc.ok qc (λvs H Q E h=>?_) (λcdv A outer s H vs Q E hr h=>?_)
 ·obtain⟨p,dx,fs,a,e,k,rfl,_⟩:=h
  rfl
 ·obtain⟨p,dx,fs,a,e,k,rfl,hp,tf,⟨j,rfl,j0,ha⟩,h0,q⟩:=h
  refine⟨_,(ai (aF (gI (bz jy (aC (pv 0) rfl) (pv 1) (aq _)) (dt (xY (bz gJ (aC (pv 0) rfl) b6 (aq _)) (dt (bz jy (pv 1) (aC (pv 0) rfl) (aq _))))))))
   ,?_⟩
  have q:=q H (Same.refl H)
  rcases ha with rfl|⟨i,rfl,ij⟩
  ·have q:Q (.bl (decide (j≤k))) H:=q
   refine⟨_,rfl,p,_,dx,fs,_,rfl,hp,T.bS,T.gf,tf.end_,_,rfl,_,_,rfl,rfl,_,rfl,bB (λc=>⟨_,rfl,p,_,dx,fs,_,rfl,hp,T.bS,T.fI,tf.at_,rfl,_,rfl,eY rfl ?_⟩) (λc=>?_)⟩
   ·rw[c]at q;exact q
   ·rw[QR.mpr c]at q;exact q
  ·have q:Q (.bl (decide (j≤k)&&decide (k≤i))) H:=q
   refine⟨_,rfl,p,_,dx,fs,_,rfl,hp,T.bS,T.gf,tf.end_,_,rfl,_,_,rfl,rfl,_,rfl,bB (λc=>⟨_,rfl,p,_,dx,fs,_,rfl,hp,T.bS,T.fI,tf.at_,rfl,_,rfl,bg (λz=>by cases z) ⟨_,rfl,_,rfl,p,_,dx,fs,_,rfl,hp,T.bS,T.fI,tf.at_,_,_,rfl,rfl,?_⟩⟩) (λc=>?_)⟩
   ·rw[c,ZR]at q;exact q
   ·rw[QR.mpr c,Zw]at q;exact q
structure Mk1 where
 p:Addr
 mo:Int
 v:V
structure MkA (t:Adr) (H:Hp) (m l:Addr) (es:List Mk1):Prop where
 ob:∃dx,H m=some (.ins t.d8 dx [("made",.ref l)])
 li:H l=some (.lst (es.map λe=>V.ref e.p))
 tu:∀e∈es,H e.p=some (.tup [.int e.mo,e.v])
theorem MkA.keep {t:Adr} {H H':Hp} {m l:Addr} {es:List Mk1} (h:MkA t H m l es) (e1:H' m=H m) (e2:H' l=H l) (tp:∀b xs,H b=some (.tup xs)→H' b=some (.tup xs)):MkA t H' m l es:=⟨h.ob.imp λ_ e=>e1.trans e,e2.trans h.li,λe he=>tp _ _ (h.tu e he)⟩
def pR (t:Adr):Sp:=λvs H Q _=>∃(a dx:Addr),vs=[.ref a]∧H a=some (.ins t.d8 dx [])∧∀(H':Hp) (l:Addr),MkA t H' a l []→H l=none→(∀b o,b≠a→H b=some o→H' b=some o)→Q .non H'
theorem qv (T:Txt K mg t):FnOk P w K mg base CX0 1 t.kR t.gS ["self"] (pR t):=by
 refine T.B6.ok p9 (λvs H Q E h=>?_) (λcdv A outer s H vs Q E hr h=>?_)
 ·obtain⟨a,dx,rfl,_⟩:=h
  rfl
 ·obtain⟨a,dx,rfl,ha,q⟩:=h
  refine⟨_,(ai (b5 (pv 0) (bN ah) rfl))
   ,?_⟩
  refine⟨Qf _,λl nl=>⟨_,rfl,a,_,dx,[],rfl,(by rw[ae (al ha nl)];exact ha),T.wt,T.sj,(by show 0<1000;decide),?_⟩⟩
  have na:a≠l:=al ha nl
  exact q _ l ⟨⟨dx,ag⟩,by rw[ae na.symm];exact ag,λe he=>by cases he⟩ nl λb o n e=>by rw[ae n,ae (al e nl)];exact e
def pQ (t:Adr):Sp:=λvs H Q _=>∃(m l:Addr) (es:List Mk1) (mo:Int) (v:V),vs=[.ref m,.int mo,v]∧MkA t H m l es∧es.length<100000∧
 ∀(H':Hp) (p:Addr),MkA t H' m l (es++ [⟨p,mo,v⟩])→H p=none→(∀b o,b≠l→H b=some o→H' b=some o)→Q .non H'
theorem qu (T:Txt K mg t):FnOk P w K mg base CX0 1 t.kQ t.gR ["self","moment","value"] (pQ t):=by
 refine T.B0.ok p8 (λvs H Q E h=>?_) (λcdv A outer s H vs Q E hr h=>?_)
 ·obtain⟨m,l,es,mo,v,rfl,_⟩:=h
  rfl
 ·obtain⟨m,l,es,mo,v,rfl,M,le,q⟩:=h
  refine⟨_,(ai (aS (dH Qq Z1 Z2 dN (aC (pv 0) rfl) (aa (bM (aa (pv 1) (aa (pv 2) ah))) ah))))
   ,?_⟩
  obtain⟨dx,ho⟩:=M.ob
  refine⟨_,rfl,m,_,dx,_,_,rfl,ho,T.wt,T.sj,rfl,.inl ⟨rfl,_,SqL.of M.li⟩,_,rfl,_,rfl,(by show 2≤sizeLine;decide),λp np=>?_⟩
  have s1:=aj (o:= .tup [.int mo,v]) np
  have pl:p≠l:=λz=>by rw[z,M.li]at np;cases np
  have lm:m≠l:=λz=>by have:=M.li;rw[←z,ho]at this;cases this
  refine⟨l,_,_,rfl,rfl,s1 _ _ M.li,bi (by rw[Q0];omega),?_⟩
  refine q _ p ⟨⟨dx,by rw[ae lm];exact s1 _ _ ho⟩,by rw[ag,Q9];rfl,λe he=>?_⟩ np λb o n e=>by rw[ae n];exact s1 _ _ e
  rcases Q4.mp he with he|he
  ·have te:=s1 _ _ (M.tu e he)
   rw[ae (λz=>by rw[z,s1 _ _ M.li]at te;cases te)]
   exact te
  ·rw[Qb.mp he]
   rw[ae pl]
   exact ag
section
variable {K:PySem.W.Frag} {t:Adr} {H:Hp} {a b:Addr} {F:Addr→Prop} {st:SSt} {ks:List Int} {xs:List V}
theorem SlA.notup (h:SlA K t H a F st) (e:H b=some (.tup xs)):¬F b:=λhb=>by
 obtain⟨d,h1,h2,_⟩:=h
 obtain⟨dx,ho⟩:=h1.obj
 have no:∀o,H b=some o→(∀ys,o≠ .tup ys)→False:=λo q n=>by rw[e]at q;exact n _ (Option.some.inj q).symm
 rcases(h2 b).mp hb with rfl|rfl|rfl|hb|⟨hs,rfl⟩|hb
 ·exact no _ ho (λ_ z=>by cases z)
 ·exact no _ h1.tbl (λ_ z=>by cases z)
 ·exact no _ h1.row0.lst (λ_ z=>by cases z)
 ·obtain⟨_,_,_,_,q⟩:=h1.row0.has hb
  exact no _ q (λ_ z=>by cases z)
 ·have r1:=h1.row1
  cases en:st.nxt with
  |none=>rw[en]at hs;cases hs
  |some m=>rw[en]at r1;exact no _ r1.lst (λ_ z=>by cases z)
 ·have r1:=h1.row1
  cases en:st.nxt with
  |none=>rw[en]at r1;rw[r1.1]at hb;cases hb
  |some m=>
   rw[en]at r1
   obtain⟨_,_,_,_,q⟩:=r1.has hb
   exact no _ q (λ_ z=>by cases z)
theorem LvA.notup (h:LvA K t H a F ks) (e:H b=some (.tup xs)):¬F b:=λhb=>by
 obtain⟨L,A,ls,h1,_,_,h2⟩:=h
 obtain⟨dx,ho⟩:=h1.obj
 have no:∀o,H b=some o→(∀ys,o≠ .tup ys)→False:=λo q n=>by rw[e]at q;exact n _ (Option.some.inj q).symm
 rcases(h2 b).mp hb with rfl|rfl|hb
 ·exact no _ ho (λ_ z=>by cases z)
 ·exact no _ h1.lst (λ_ z=>by cases z)
 ·obtain⟨_,_,_,_,q⟩:=h1.has hb
  exact no _ q (λ_ z=>by cases z)
end
structure Pk where
 k:Int
 m:Addr
 l:Addr
 es:List Mk1
structure HSt where
 now:Int
 fl:Int
 ma:Int
 st:SSt
 ks:List Int
 di:List (Addr×List V)
 pa:List Pk
 ho:List (Int×V)
def du:List Pk→Int→List Mk1
 | [],_=> []
 |e::r,k=>if e.k=k then e.es else du r k
def paD (pa:List Pk):List (Int×V):=pa.map λe=>(e.k,V.ref e.m)
def hoF (now fl:Int) (s l w:Addr) (mk:Int) (p h:Addr):List (Str×V):=[("now",.int now),("floor",.int fl),("slots",.ref s),("leaves",.ref l),("written",.ref w),("marks",.int mk),("past",.ref p),("holders",.ref h)]
def NoH (m:Str):Prop:=m≠("now":Str)∧m≠("floor":Str)∧m≠("slots":Str)∧m≠("leaves":Str)∧m≠("written":Str)∧m≠("marks":Str)∧m≠("past":Str)∧m≠("holders":Str)
instance {m:Str}:Decidable (NoH m):=by unfold NoH;infer_instance
section
variable {now now' fl mk mk':Int} {s l w p h:Addr} {m:Str}
theorem pz:(hoF now fl s l w mk p h).lookup ("now":Str)=some (.int now):=eX
theorem EO:(hoF now fl s l w mk p h).lookup ("floor":Str)=some (.int fl):=by unfold hoF;rw[bJ (by decide+kernel),eX]
theorem qM:(hoF now fl s l w mk p h).lookup ("slots":Str)=some (.ref s):=by unfold hoF;rw[bJ (by decide+kernel),bJ (by decide+kernel),eX]
theorem xy:(hoF now fl s l w mk p h).lookup ("leaves":Str)=some (.ref l):=by unfold hoF;rw[bJ (by decide+kernel),bJ (by decide+kernel),bJ (by decide+kernel),eX]
theorem EM:(hoF now fl s l w mk p h).lookup ("written":Str)=some (.ref w):=by unfold hoF;rw[bJ (by decide+kernel),bJ (by decide+kernel),bJ (by decide+kernel),bJ (by decide+kernel),eX]
theorem EN:(hoF now fl s l w mk p h).lookup ("past":Str)=some (.ref p):=by unfold hoF;rw[bJ (by decide+kernel),bJ (by decide+kernel),bJ (by decide+kernel),bJ (by decide+kernel),bJ (by decide+kernel),bJ (by decide+kernel),eX]
theorem AT (n:NoH m):(hoF now fl s l w mk p h).lookup m=none:=by
 obtain⟨h1,h2,h3,h4,h5,h6,h7,h8⟩:=n
 unfold hoF
 rw[bJ h1,bJ h2,bJ h3,bJ h4,bJ h5,bJ h6,bJ h7,bJ h8]
 rfl
theorem Cw:bc ("now":Str) (.int now') (hoF now fl s l w mk p h)=hoF now' fl s l w mk p h:=by unfold hoF;rw[bc,if_pos rfl]
theorem CY:(hoF now fl s l w mk p h).length<1000:=by show 8<1000;decide
end
def Ow (a w p h:Addr) (pa:List Pk):Addr→Prop:=λb=>b=a∨b=w∨b=p∨b=h∨∃e∈pa,b=e.m∨b=e.l
structure HoO (t:Adr) (H:Hp) (a s l w p h:Addr) (x:HSt):Prop where
 ob:∃dx,H a=some (.ins t.aH dx (hoF x.now x.fl s l w x.ma p h))
 wr:H w=some (.lst (x.di.map λe=>V.ref e.1))
 dr:∀e∈x.di,H e.1=some (.tup e.2)
 pa:H p=some (.dK (aI (paD x.pa)))
 ho:H h=some (.dK (aI x.ho))
 mx:∀e∈x.pa,MkA t H e.m e.l e.es
 ph:p≠h
 wl:∀e∈x.pa,e.l≠w
 kd:(x.pa.map (·.k)).Nodup
 md:(x.pa.map (·.m)).Nodup
 ld:(x.pa.map (·.l)).Nodup
theorem eU {t u:TS} {D:vc} {σ:St} {H:Hp} (M:St→Hp→Prop) (h1:∀nx,(∀σ' H',M σ' H'→nx σ' H')→t {D with nx:=nx} σ H) (h2:∀σ' H',M σ' H'→u D σ' H'):Cf t u D σ H:=h1 (u D) h2
theorem tE {kvs:List (Int×V)}:hZ (aI kvs)=(kvs.map (·.1)).map V.int:=by
 unfold hZ aI
 rw[QL,QL]
 rfl
theorem dq {f:Str} {v:V}:bc f v []=[(f,v)]:=rfl
theorem aW {f g:Str} {v x:V} {r:List (Str×V)} (n:g≠f):bc f v ((g,x)::r)=(g,x)::bc f v r:=by rw[bc,if_neg n]
theorem d7 {H H2:Hp} {p:Addr} (s:Same H H2) (n:H2 p=none):H p=none:=by
 cases e:H p with
 |none=>rfl
 |some o=>rw[s _ _ e]at n;cases n
theorem Au {α β:Type} {f:α→β} {l:List α} (n:(l.map f).Nodup) {x y:α} (hx:x∈l) (hy:y∈l) (e:f x=f y):x=y:=by
 induction l with
 |nil=>cases hx
 |cons z r ih=>
  obtain⟨n1,n2⟩:=QP.mp n
  rcases Qm.mp hx with rfl|hx'<;>rcases Qm.mp hy with rfl|hy'
  ·rfl
  ·exact absurd (Qg.mpr ⟨y,hy',e.symm⟩) n1
  ·exact absurd (Qg.mpr ⟨x,hx',e⟩) n1
  ·exact ih n2 hx' hy'
section
variable {t:Adr} {H H':Hp} {a s l w p h b q:Addr} {x:HSt} {pa:List Pk} {k:Int} {y:Mk1} {o:HO}
theorem HoO.dom (A:HoO t H a s l w p h x) (hb:Ow a w p h x.pa b):∃o,H b=some o∧∀ys,o≠ .tup ys:=by
 obtain⟨dx,ho⟩:=A.ob
 rcases hb with rfl|rfl|rfl|rfl|⟨e,he,rfl|rfl⟩
 ·exact⟨_,ho,λ_ z=>by cases z⟩
 ·exact⟨_,A.wr,λ_ z=>by cases z⟩
 ·exact⟨_,A.pa,λ_ z=>by cases z⟩
 ·exact⟨_,A.ho,λ_ z=>by cases z⟩
 ·obtain⟨dy,hm⟩:=(A.mx e he).ob
  exact⟨_,hm,λ_ z=>by cases z⟩
 ·exact⟨_,(A.mx e he).li,λ_ z=>by cases z⟩
theorem HoO.keep (A:HoO t H a s l w p h x) (g:∀b,Ow a w p h x.pa b→H' b=H b) (tp:∀b xs,H b=some (.tup xs)→H' b=some (.tup xs)):HoO t H' a s l w p h x:=
 ⟨A.ob.imp λ_ e=>(g a (.inl rfl)).trans e,(g w (.inr (.inl rfl))).trans A.wr,λe he=>tp _ _ (A.dr e he),(g p (.inr (.inr (.inl rfl)))).trans A.pa,(g h (.inr (.inr (.inr (.inl rfl))))).trans A.ho,
  λe he=>(A.mx e he).keep (g _ (.inr (.inr (.inr (.inr ⟨e,he,.inl rfl⟩))))) (g _ (.inr (.inr (.inr (.inr ⟨e,he,.inr rfl⟩))))) tp,A.ph,A.wl,A.kd,A.md,A.ld⟩
theorem HoO.same (A:HoO t H a s l w p h x) (m:Same H H'):HoO t H' a s l w p h x:=A.keep (λb hb=>by
 obtain⟨o,e,_⟩:=A.dom hb
 rw[e]
 exact m _ _ e) λb xs e=>m _ _ e
theorem HoO.set (A:HoO t H a s l w p h x) {now mk:Int} {dx:Addr} {fl:Int}:HoO t (upd H a (.ins t.aH dx (hoF now fl s l w mk p h))) a s l w p h {x with now:=now,fl:=fl,ma:=mk}:=by
 obtain⟨dy,ho⟩:=A.ob
 have n:∀{b:Addr} {o:HO},H b=some o→(∀c d fs,o= .ins c d fs→fs.length=1)→b≠a:=λe i z=>by
  rw[z,ho]at e
  have:=i _ _ _ (Option.some.inj e).symm
  cases this
 have nt:∀{b:Addr} {o:HO},H b=some o→(∀c d fs,o≠ .ins c d fs)→b≠a:=λe i=>n e λc d fs z=>absurd z (i c d fs)
 refine⟨⟨dx,ag⟩,by rw[ae (nt A.wr λ_ _ _ z=>by cases z)];exact A.wr,λe he=>by rw[ae (nt (A.dr e he) λ_ _ _ z=>by cases z)];exact A.dr e he,by rw[ae (nt A.pa λ_ _ _ z=>by cases z)];exact A.pa,
  by rw[ae (nt A.ho λ_ _ _ z=>by cases z)];exact A.ho,λe he=>?_,A.ph,A.wl,A.kd,A.md,A.ld⟩
 have M:=A.mx e he
 obtain⟨dm,hm⟩:=M.ob
 exact M.keep (ae (n hm λ_ _ _ z=>by cases z;rfl)) (ae (nt M.li λ_ _ _ z=>by cases z)) λb xs e=>by rw[ae (nt e λ_ _ _ z=>by cases z)];exact e
theorem HoO.row (A:HoO t H a s l w p h x) {r:Addr} {xs:List V} (hr:H r=some (.tup xs)):HoO t (upd H w (.lst (x.di.map (λe=>V.ref e.1)++ [.ref r]))) a s l w p h {x with di:=x.di++ [(r,xs)]}:=by
 obtain⟨dy,ho⟩:=A.ob
 have nt:∀{b:Addr} {o:HO},H b=some o→(∀ys,o≠ .lst ys)→b≠w:=λe i z=>by
  rw[z,A.wr]at e
  exact i _ (Option.some.inj e).symm
 refine⟨⟨dy,by rw[ae (nt ho λ_ z=>by cases z)];exact ho⟩,by rw[ag,Q9];rfl,λe he=>?_,by rw[ae (nt A.pa λ_ z=>by cases z)];exact A.pa,by rw[ae (nt A.ho λ_ z=>by cases z)];exact A.ho,λe he=>?_,A.ph,A.wl,A.kd,A.md,A.ld⟩
 ·rcases Q4.mp he with he|he
  ·rw[ae (nt (A.dr e he) λ_ z=>by cases z)]
   exact A.dr e he
  ·rw[Qb.mp he,ae (nt hr λ_ z=>by cases z)]
   exact hr
 ·have M:=A.mx e he
  obtain⟨dm,hm⟩:=M.ob
  exact M.keep (ae (nt hm λ_ z=>by cases z)) (ae (A.wl e he)) λb xs e=>by rw[ae (nt e λ_ z=>by cases z)];exact e
def paN (pa:List Pk) (k:Int) (y:Mk1):List Pk:=pa.map λe=>if e.k=k then{e with es:=e.es++ [y]}else e
theorem sY {β:Type} {f:Pk→β} (hf:∀e es,f {e with es:=es}=f e):(paN pa k y).map f=pa.map f:=by
 unfold paN
 rw[QL]
 refine Zo λe _=>?_
 show f (if e.k=k then _ else e)=_
 split
 ·exact hf _ _
 ·rfl
theorem uB {e:Pk} (h:e∈paN pa k y):∃g∈pa,e.k=g.k∧e.m=g.m∧e.l=g.l∧((g.k=k∧e.es=g.es++ [y])∨(g.k≠k∧e.es=g.es)):=by
 obtain⟨g,hg,rfl⟩:=Qg.mp h
 refine⟨g,hg,?_⟩
 split
 ·rename_i c;exact⟨rfl,rfl,rfl,.inl ⟨c,rfl⟩⟩
 ·rename_i c;exact⟨rfl,rfl,rfl,.inr ⟨c,rfl⟩⟩
theorem Eo (hb:Ow a w p h (paN pa k y) b):Ow a w p h pa b:=by
 rcases hb with z|z|z|z|⟨e,he,z⟩
 ·exact .inl z
 ·exact .inr (.inl z)
 ·exact .inr (.inr (.inl z))
 ·exact .inr (.inr (.inr (.inl z)))
 ·obtain⟨g,hg,_,e2,e3,_⟩:=uB he
  rw[e2,e3]at z
  exact .inr (.inr (.inr (.inr ⟨g,hg,z⟩)))
theorem HoO.noted (A:HoO t H a s l w p h x) {e:Pk} (he:e∈x.pa) (ek:e.k=k) (M:MkA t H' e.m e.l (e.es++ [y])) (kp:∀b o,b≠e.l→H b=some o→H' b=some o):HoO t H' a s l w p h {x with pa:=paN x.pa k y}:=by
 obtain⟨dy,ho⟩:=A.ob
 have hl:=(A.mx e he).li
 have nt:∀{b:Addr} {o:HO},H b=some o→(∀ys,o≠ .lst ys)→H' b=some o:=λe i=>kp _ _ (λz=>by
  rw[z,hl]at e
  exact i _ (Option.some.inj e).symm) e
 refine⟨⟨dy,nt ho (λ_ z=>by cases z)⟩,kp _ _ (A.wl e he).symm A.wr,λe he=>nt (A.dr e he) (λ_ z=>by cases z),?_,nt A.ho (λ_ z=>by cases z),λf hf=>?_,A.ph,λf hf=>?_,?_,?_,?_⟩
 ·show H' p=some (.dK (aI (paD (paN x.pa k y))))
  unfold paD
  rw[sY λ_ _=>rfl]
  exact nt A.pa λ_ z=>by cases z
 ·obtain⟨g,hg,e1,e2,e3,⟨c,e4⟩|⟨c,e4⟩⟩:=uB hf
  ·have:g=e:=Au A.kd hg he (c.trans ek.symm)
   subst this
   rw[e2,e3,e4]
   exact M
  ·have M2:=A.mx g hg
   obtain⟨dm,hm⟩:=M2.ob
   rw[e2,e3,e4]
   exact M2.keep ((nt hm λ_ z=>by cases z).trans hm.symm) ((kp _ _ (λz=>c (by rw[Au A.ld hg he z];exact ek)) M2.li).trans M2.li.symm) λb xs e=>nt e λ_ z=>by cases z
 ·obtain⟨g,hg,_,_,e3,_⟩:=uB hf
  rw[e3]
  exact A.wl g hg
 ·show((paN x.pa k y).map (·.k)).Nodup
  rw[sY λ_ _=>rfl]
  exact A.kd
 ·show((paN x.pa k y).map (·.m)).Nodup
  rw[sY λ_ _=>rfl]
  exact A.md
 ·show((paN x.pa k y).map (·.l)).Nodup
  rw[sY λ_ _=>rfl]
  exact A.ld
theorem x6 (pa:List Pk) (k:Int):(aL (paD pa) k=none∧k∉pa.map (·.k))∨∃e∈pa,e.k=k∧aL (paD pa) k=some (.ref e.m)∧du pa k=e.es:=by
 induction pa with
 |nil=>exact .inl ⟨jh,λz=>by cases z⟩
 |cons e r ih=>
  show(aL ((e.k,V.ref e.m)::paD r) k=none∧_)∨∃g∈e::r,g.k=k∧aL ((e.k,V.ref e.m)::paD r) k=_∧(if e.k=k then e.es else du r k)=_
  by_cases c:e.k=k
  ·exact .inr ⟨e,Qj,c,bf c,if_pos c⟩
  ·rw[a7 c,if_neg c]
   rcases ih with⟨i1,i2⟩|⟨g,hg,i1,i2,i3⟩
   ·refine .inl ⟨i1,λz=>?_⟩
    rw[Qs]at z
    rcases Qm.mp z with z|z
    ·exact c z.symm
    ·exact i2 z
   ·exact .inr ⟨g,Qh _ hg,i1,i2,i3⟩
theorem tx:∀{pa:List Pk},k∉pa.map (·.k)→du pa k=[]
 | [],_=>rfl
 |e::r,n=>by
  rw[Qs]at n
  show(if e.k=k then e.es else du r k)=[]
  rw[if_neg λz=>n (by rw[z];exact Qj)]
  exact tx λz=>n (Qh _ z)
theorem mB {j:Int}:∀{pa:List Pk},k∈pa.map (·.k)→du (paN pa k y) j=if j=k then du pa k++ [y]else du pa j
 |e::r,n=>by
  show(if(if e.k=k then{e with es:=e.es++ [y]}else e:Pk).k=j then(if e.k=k then{e with es:=e.es++ [y]}else e:Pk).es else du (paN r k y) j)=if j=k then(if e.k=k then e.es else du r k)++ [y]else(if e.k=j then e.es else du r j)
  by_cases c:e.k=k
  ·rw[if_pos c,if_pos c]
   show(if e.k=j then e.es++ [y]else du (paN r k y) j)=_
   by_cases d:j=k
   ·rw[if_pos d,if_pos (c.trans d.symm)]
   ·rw[if_neg d,if_neg λz=>d (z.symm.trans c),if_neg λz=>d (z.symm.trans c)]
    by_cases m:k∈r.map (·.k)
    ·rw[mB m,if_neg d]
    ·have:paN r k y=r:=by
      unfold paN
      conv=>rhs;rw[←List.map_id r]
      refine Zo λg hg=>if_neg λz=>m ?_
      rw[←z]
      exact Qg.mpr ⟨g,hg,rfl⟩
     rw[this]
  ·rw[if_neg c,if_neg c]
   have m:k∈r.map (·.k):=by
    rw[Qs]at n
    rcases Qm.mp n with z|z
    ·exact absurd z.symm c
    ·exact z
   rw[mB m]
   by_cases d:j=k
   ·rw[if_pos d,if_pos d,if_neg λz=>c (z.trans d)]
   ·rw[if_neg d,if_neg d]
theorem qA {e:Pk} {j:Int}:∀{pa:List Pk},e.k∉pa.map (·.k)→du (pa++ [e]) j=if j=e.k then e.es else du pa j
 | [],_=>by
  show(if e.k=j then e.es else[])=if j=e.k then e.es else[]
  by_cases c:e.k=j
  ·rw[if_pos c,if_pos c.symm]
  ·rw[if_neg c,if_neg (Ne.symm c)]
 |g::r,n=>by
  rw[Qs]at n
  show(if g.k=j then g.es else du (r++ [e]) j)=if j=e.k then e.es else(if g.k=j then g.es else du r j)
  rw[qA λz=>n (Qh _ z)]
  by_cases c:g.k=j
  ·rw[if_pos c,if_pos c,if_neg λz=>n (by rw[←z,←c];exact Qj)]
  ·rw[if_neg c,if_neg c]
theorem HoO.newk (A:HoO t H a s l w p h x) {m g:Addr} (nk:k∉x.pa.map (·.k)) (M:MkA t H m g []) (n1:¬Ow a w p h x.pa m) (n2:¬Ow a w p h x.pa g):HoO t (upd H p (.dK (aI (paD x.pa++ [(k,.ref m)])))) a s l w p h {x with pa:=x.pa++ [⟨k,m,g,[]⟩]}:=by
 obtain⟨dy,ho⟩:=A.ob
 have nt:∀{b:Addr} {o:HO},H b=some o→(∀ys,o≠ .dK ys)→b≠p:=λe i z=>by
  rw[z,A.pa]at e
  exact i _ (Option.some.inj e).symm
 have kp:∀{m' l':Addr} {es:List Mk1} {o:HO},MkA t H m' l' es→MkA t (upd H p o) m' l' es:=λM=>by
  obtain⟨dm,hm⟩:=M.ob
  exact M.keep (ae (nt hm λ_ z=>by cases z)) (ae (nt M.li λ_ z=>by cases z)) λb xs e=>by rw[ae (nt e λ_ z=>by cases z)];exact e
 refine⟨⟨dy,by rw[ae (nt ho λ_ z=>by cases z)];exact ho⟩,by rw[ae (nt A.wr λ_ z=>by cases z)];exact A.wr,λe he=>by rw[ae (nt (A.dr e he) λ_ z=>by cases z)];exact A.dr e he,?_,by rw[ae A.ph.symm];exact A.ho,λe he=>?_,A.ph,λe he=>?_,?_,?_,?_⟩
 ·rw[ag]
  show _=some (HO.dK (aI (paD (x.pa++ [⟨k,m,g,[]⟩]))))
  unfold paD
  rw[Q9]
  rfl
 ·rcases Q4.mp he with he|he
  ·exact kp (A.mx e he)
  ·rw[Qb.mp he]
   exact kp M
 ·rcases Q4.mp he with he|he
  ·exact A.wl e he
  ·rw[Qb.mp he]
   exact λz=>n2 (.inr (.inl z))
 all_goals
  rw[Q9]
  refine XA.mpr ⟨?_,by simp,λu hu v hv z=>?_⟩
 ·exact A.kd
 ·cases Qb.mp hv
  rw[z]at hu
  exact nk hu
 ·exact A.md
 ·cases Qb.mp hv
  obtain⟨e,he,ee⟩:=Qg.mp hu
  exact n1 (.inr (.inr (.inr (.inr ⟨e,he,.inl (z.symm.trans ee.symm)⟩))))
 ·exact A.ld
 ·cases Qb.mp hv
  obtain⟨e,he,ee⟩:=Qg.mp hu
  exact n2 (.inr (.inr (.inr (.inr ⟨e,he,.inr (z.symm.trans ee.symm)⟩))))
end
structure rf (pa pa':List Pk) (k:Int) (y:Mk1):Prop where
 of:∀j,du pa' j=if j=k then du pa k++ [y]else du pa j
 ky:pa'.map (·.k)=if k∈pa.map (·.k)then pa.map (·.k)else pa.map (·.k)++ [k]
structure HoB (K:PySem.W.Frag) (t:Adr) (H:Hp) (a s l w p h:Addr) (Fs Fl:Addr→Prop) (x:HSt):Prop where
 o:HoO t H a s l w p h x
 sl:SlA K t H s Fs x.st
 lv:LvA K t H l Fl x.ks
 a1:∀b,Fs b→¬Fl b
 a2:∀b,Ow a w p h x.pa b→¬Fs b
 a3:∀b,Ow a w p h x.pa b→¬Fl b
def HoF (a w p h:Addr) (Fs Fl:Addr→Prop) (pa:List Pk):Addr→Prop:=λb=>Fs b∨Fl b∨Ow a w p h pa b
section
variable {K:PySem.W.Frag} {t:Adr} {H H':Hp} {a s l w p h b:Addr} {Fs Fs' Fl Fl':Addr→Prop} {x x':HSt}
theorem HoB.slots (B:HoB K t H a s l w p h Fs Fl x) {st:SSt} (S:SlA K t H' s Fs' st) (f:Fr Fs Fs' H H'):HoB K t H' a s l w p h Fs' Fl {x with st:=st}∧Fr (HoF a w p h Fs Fl x.pa) (HoF a w p h Fs' Fl x.pa) H H':=by
 have k1:∀b,Fl b→H' b=H b∧¬Fs' b:=λb hb=>by
  obtain⟨o,e⟩:=B.lv.dom hb
  have:=f b o (λz=>B.a1 b z hb) e
  exact⟨this.1.trans e.symm,this.2⟩
 have k2:∀b,Ow a w p h x.pa b→H' b=H b∧¬Fs' b:=λb hb=>by
  obtain⟨o,e,_⟩:=B.o.dom hb
  have:=f b o (B.a2 b hb) e
  exact⟨this.1.trans e.symm,this.2⟩
 have O:=B.o.keep (H':=H') (λb hb=>(k2 b hb).1) λb xs e=>(f b _ (B.sl.notup e) e).1
 exact⟨⟨⟨O.ob,O.wr,O.dr,O.pa,O.ho,O.mx,O.ph,O.wl,O.kd,O.md,O.ld⟩,S,B.lv.frame λb hb=>(k1 b hb).1,λb h1 h2=>(k1 b h2).2 h1,λb hb=>(k2 b hb).2,B.a3⟩,λb o n e=>⟨(f b o (λz=>n (.inl z)) e).1,λz=>z.elim (f b o (λz=>n (.inl z)) e).2 λz=>n (.inr z)⟩⟩
theorem HoB.leaves (B:HoB K t H a s l w p h Fs Fl x) {ks:List Int} (S:LvA K t H' l Fl' ks) (f:Fr Fl Fl' H H'):HoB K t H' a s l w p h Fs Fl' {x with ks:=ks}∧Fr (HoF a w p h Fs Fl x.pa) (HoF a w p h Fs Fl' x.pa) H H':=by
 have k1:∀b,Fs b→H' b=H b∧¬Fl' b:=λb hb=>by
  obtain⟨o,e⟩:=B.sl.dom hb
  have:=f b o (B.a1 b hb) e
  exact⟨this.1.trans e.symm,this.2⟩
 have k2:∀b,Ow a w p h x.pa b→H' b=H b∧¬Fl' b:=λb hb=>by
  obtain⟨o,e,_⟩:=B.o.dom hb
  have:=f b o (B.a3 b hb) e
  exact⟨this.1.trans e.symm,this.2⟩
 have O:=B.o.keep (H':=H') (λb hb=>(k2 b hb).1) λb xs e=>(f b _ (B.lv.notup e) e).1
 exact⟨⟨⟨O.ob,O.wr,O.dr,O.pa,O.ho,O.mx,O.ph,O.wl,O.kd,O.md,O.ld⟩,B.sl.frame λb hb=>(k1 b hb).1,S,λb h1=>(k1 b h1).2,B.a2,λb hb=>(k2 b hb).2⟩,λb o n e=>⟨(f b o (λz=>n (.inr (.inl z))) e).1,λz=>z.elim (λz=>n (.inl z)) λz=>z.elim (f b o (λz=>n (.inr (.inl z))) e).2 λz=>n (.inr (.inr z))⟩⟩
theorem HoB.own (B:HoB K t H a s l w p h Fs Fl x) (O:HoO t H' a s l w p h x') (e1:x'.st=x.st) (e2:x'.ks=x.ks) (f:Fr (Ow a w p h x.pa) (Ow a w p h x'.pa) H H'):HoB K t H' a s l w p h Fs Fl x'∧Fr (HoF a w p h Fs Fl x.pa) (HoF a w p h Fs Fl x'.pa) H H':=by
 have k1:∀b,Fs b→H' b=H b∧¬Ow a w p h x'.pa b:=λb hb=>by
  obtain⟨o,e⟩:=B.sl.dom hb
  have:=f b o (λz=>B.a2 b z hb) e
  exact⟨this.1.trans e.symm,this.2⟩
 have k2:∀b,Fl b→H' b=H b∧¬Ow a w p h x'.pa b:=λb hb=>by
  obtain⟨o,e⟩:=B.lv.dom hb
  have:=f b o (λz=>B.a3 b z hb) e
  exact⟨this.1.trans e.symm,this.2⟩
 exact⟨⟨O,by rw[e1];exact B.sl.frame λb hb=>(k1 b hb).1,by rw[e2];exact B.lv.frame λb hb=>(k2 b hb).1,B.a1,λb h1 h2=>(k1 b h2).2 h1,λb h1 h2=>(k2 b h2).2 h1⟩,λb o n e=>⟨(f b o (λz=>n (.inr (.inr z))) e).1,λz=>z.elim (λz=>n (.inl z)) λz=>z.elim (λz=>n (.inr (.inl z))) (f b o (λz=>n (.inr (.inr z))) e).2⟩⟩
theorem HoB.dom (B:HoB K t H a s l w p h Fs Fl x) (hb:HoF a w p h Fs Fl x.pa b):∃o,H b=some o∧∀ys,o≠ .tup ys:=by
 have no:∀F:Addr→Prop,F b→(∀xs,H b=some (.tup xs)→¬F b)→∀o,H b=some o→∃o,H b=some o∧∀ys,o≠ .tup ys:=λF hF n o e=>⟨o,e,λys z=>n ys (by rw[e,z]) hF⟩
 rcases hb with hb|hb|hb
 ·obtain⟨o,e⟩:=B.sl.dom hb
  exact no Fs hb (λxs e=>B.sl.notup e) o e
 ·obtain⟨o,e⟩:=B.lv.dom hb
  exact no Fl hb (λxs e=>B.lv.notup e) o e
 ·exact B.o.dom hb
theorem HoB.keep (B:HoB K t H a s l w p h Fs Fl x) (g:∀b,HoF a w p h Fs Fl x.pa b→H' b=H b) (tp:∀b xs,H b=some (.tup xs)→H' b=some (.tup xs)):HoB K t H' a s l w p h Fs Fl x:=
 ⟨B.o.keep (λb hb=>g b (.inr (.inr hb))) tp,B.sl.frame λb hb=>g b (.inl hb),B.lv.frame λb hb=>g b (.inr (.inl hb)),B.a1,B.a2,B.a3⟩
end
structure HOk (x:HSt):Prop where
 ks:∀z,z∈x.ks↔(aL x.st.kv z).isSome=true
 n0:0≤x.now
 m0:0≤x.ma
 dl:(x.di.length:Int)=x.now+x.ma
 pl:(x.pa.length:Int)≤x.now
 el:∀j,((du x.pa j).length:Int)≤x.now
 sl:(x.st.kv.length:Int)≤x.now
 hn:(x.ho.map (·.1)).Nodup
 hv:∀p∈x.ho,x.fl≤p.1∧p.1≤x.now∧∃n:Int,p.2= .int n∧0<n
 fb:0≤x.fl∧x.fl≤x.now
 up:∀j,(du x.pa j).Pairwise (λa b=>a.mo<b.mo)∧∀y∈du x.pa j,y.mo≤x.now
def HoA (K:PySem.W.Frag) (t:Adr) (H:Hp) (a:Addr) (F:Addr→Prop) (x:HSt):Prop:=∃s l w p h Fs Fl,HoB K t H a s l w p h Fs Fl x∧HOk x∧∀b,F b↔HoF a w p h Fs Fl x.pa b
section
variable {K:PySem.W.Frag} {t:Adr} {H H':Hp} {a b q:Addr} {F F':Addr→Prop} {x:HSt} {o:HO} {k:Int}
theorem HoA.ins (A:HoA K t H a F x):∃dx fs,H a=some (.ins t.aH dx fs)∧(∀m,NoH m→fs.lookup m=none)∧fs.lookup ("now":Str)=some (.int x.now)∧fs.lookup ("floor":Str)=some (.int x.fl):=by
 obtain⟨s,l,w,p,h,Fs,Fl,B,_⟩:=A
 obtain⟨dx,e⟩:=B.o.ob
 exact⟨dx,_,e,λm hm=>AT hm,pz,EO⟩
theorem HoA.ok (A:HoA K t H a F x):HOk x:=by
 obtain⟨s,l,w,p,h,Fs,Fl,B,O,_⟩:=A
 exact O
theorem HoA.dom (A:HoA K t H a F x) (hb:F b):∃o,H b=some o∧∀ys,o≠ .tup ys:=by
 obtain⟨s,l,w,p,h,Fs,Fl,B,_,g⟩:=A
 exact B.dom ((g b).mp hb)
theorem HoA.out (A:HoA K t H a F x) (e:H b=none):¬F b:=λz=>by
 obtain⟨o,q,_⟩:=A.dom z
 rw[q]at e
 cases e
theorem HoA.keep (A:HoA K t H a F x) (g:∀b,F b→H' b=H b) (tp:∀b xs,H b=some (.tup xs)→H' b=some (.tup xs)):HoA K t H' a F x:=by
 obtain⟨s,l,w,p,h,Fs,Fl,B,O,f⟩:=A
 exact⟨s,l,w,p,h,Fs,Fl,B.keep (λb hb=>g b ((f b).mpr hb)) tp,O,f⟩
theorem HoA.same (A:HoA K t H a F x) (m:Same H H'):HoA K t H' a F x:=A.keep (λb hb=>by
 obtain⟨o,e,_⟩:=A.dom hb
 rw[e]
 exact m _ _ e) λb xs e=>m _ _ e
theorem HoA.upd (A:HoA K t H a F x) (n:¬F q) (nt:∀xs,H q≠some (.tup xs)):HoA K t (L2.upd H q o) a F x:=A.keep (λb hb=>ae λz=>n (z▸hb)) λb xs e=>by rw[ae λz=>nt xs (by rw[←z];exact e)];exact e
end
def pW (t:Adr):Sp:=λvs H Q _=>∃(a s l w p h r:Addr) (k:Int) (x:HSt) (v:V) (xs:List V),vs=[.ref a,.ref r,v]∧HoO t H a s l w p h x∧H r=some (.tup xs)∧atI xs 1=some (.int k)∧x.di.length<50000∧x.pa.length<50000∧(du x.pa k).length<50000∧
 ∀(H':Hp) (pa':List Pk) (q:Addr),HoO t H' a s l w p h {x with now:=x.now+1,di:=x.di++ [(r,xs)],pa:=pa'}→rf x.pa pa' k ⟨q,x.now+1,v⟩→Fr (Ow a w p h x.pa) (Ow a w p h pa') H H'→Q (.int (x.now+1)) H'
theorem jF (T:Txt K mg t):FnOk P w K mg base CX0 3 t.kX t.gX ["self","row","value"] (pW t):=by
 have Jo:= @qv P w K mg base t T
 have Jp:= @qu P w K mg base t T
 refine T.Cb.ok sc_House__done (λvs H Q E h=>?_) (λcdv A outer s H vs Q E hr h=>?_)
 ·obtain⟨a,s,l,w,p,h,r,k,x,v,xs,rfl,_⟩:=h
  rfl
 ·obtain⟨a,s,l,wr,p,h,r,k,x,v,xs,rfl,A,ht,hk,l1,l2,l3,q⟩:=h
  refine⟨_,(ac (ar (i:=3) sc_House__done.nd rfl (Or.inl rfl) (aU dw (pv 1) af (λ_ _=>rfl)))
   (ac (j5 (pv 0) af xw)
   (ac (aS (dH Qq Z1 Z2 dN (aC (pv 0) rfl) (aa (pv 1) ah)))
   (ac (aS (aV (dH Zr XM PySem.F.type_dict_setdefault zb (aC (pv 0) rfl) (aa (pv 3) (aa (mn T.FC Jo (hr.mono (by decide)) (by rfl) T.FF T.BO .nil aD) ah))) T.wt T.BG Jp (hr.mono (by decide)) T.BN .nil aD (aa (aC (pv 0) rfl) (aa (pv 2) ah))))
   (ai (aF (aC (pv 0) rfl)))))))
   ,?_⟩
  obtain⟨dx,ho⟩:=A.ob
  refine⟨_,rfl,r,_,_,_,rfl,rfl,SqT.of ht,hk,?_⟩
  refine⟨_,rfl,a,_,dx,_,_,rfl,ho,T.aY,T.iM,pz,_,_,rfl,rfl,dx,_,ho,CY,?_⟩
  rw[Cw]
  have A1:=A.set (now:=x.now+1) (mk:=x.ma) (fl:=x.fl) (dx:=dx)
  have o1:∀b o,b≠a→H b=some o→upd H a (.ins t.aH dx (hoF (x.now+1) x.fl s l wr x.ma p h)) b=some o:=λb o n e=>by rw[ae n];exact e
  have ra:r≠a:=λz=>by rw[z,ho]at ht;cases ht
  have ht1:=o1 _ _ ra ht
  generalize upd H a (.ins t.aH dx (hoF (x.now+1) x.fl s l wr x.ma p h))=H1 at A1 o1 ht1⊢
  obtain⟨dx1,ho1⟩:=A1.ob
  refine⟨_,rfl,a,_,dx1,_,_,rfl,ho1,T.aY,T.nM,EM,.inl ⟨rfl,_,SqL.of A1.wr⟩,_,rfl,wr,_,_,rfl,rfl,A1.wr,bi (by rw[Q0];show x.di.length≤_;omega),?_⟩
  have A2:=A1.row ht1
  have o2:∀b o,¬Ow a wr p h x.pa b→H b=some o→upd H1 wr (.lst (x.di.map (λe=>V.ref e.1)++ [.ref r])) b=some o:=λb o n e=>by rw[ae λz=>n (.inr (.inl z))];exact o1 _ _ (λz=>n (.inl z)) e
  generalize upd H1 wr (.lst (x.di.map (λe=>V.ref e.1)++ [.ref r]))=H2 at A2 o2⊢
  obtain⟨dx2,ho2⟩:=A2.ob
  refine⟨_,rfl,a,_,dx2,_,_,rfl,ho2,T.aY,T.sk,EN,.inr (.inr (.inl ⟨rfl,.inl ⟨_,A2.pa⟩⟩)),_,rfl,λm dm nm nd nmd=>⟨m,dm,rfl,ag,λH4 g M4 ng o4=>⟨rfl,?_⟩⟩⟩
  have s3:Same H2 (upd (upd H2 dm (.own m)) m (.ins t.d8 dm [])):=bU (aj nd) nm
  have s4:Same H2 H4:=λb o e=>o4 b o (λz=>by rw[z,nm]at e;cases e) (s3 b o e)
  have ng2:=d7 s3 ng
  have A4:=A2.same s4
  have om:¬Ow a wr p h x.pa m:=λz=>by obtain⟨o,e,_⟩:=A2.dom z;rw[nm]at e;cases e
  have og:¬Ow a wr p h x.pa g:=λz=>by obtain⟨o,e,_⟩:=A2.dom z;rw[ng2]at e;cases e
  have o5:∀b o,¬Ow a wr p h x.pa b→H b=some o→H4 b=some o∧b≠m∧b≠g:=λb o n e=>⟨s4 _ _ (o2 b o n e),λz=>(by have:=o2 b o n e;rw[z,nm]at this;cases this),λz=>(by have:=o2 b o n e;rw[z,ng2]at this;cases this)⟩
  clear s3 s4 o4 o2 o1 A1 A2 ho2 ho1 ho A ng nm nd nmd ng2 ht1 ht
  refine⟨p,_,Sum.inl k,.ref m,rfl,rfl,A4.pa,(by rw[bG];exact bi (by show(paD x.pa).length≤_;unfold paD;rw[Q0];omega)),λu hu=>?A,λhn=>?B⟩
  case' A=>
   have hu:aL (aI (paD x.pa)) (Sum.inl k:Key)=some u:=hu
   rw[liftK_val]at hu
   obtain⟨e,he,ek,ev,em⟩:∃e∈x.pa,e.k=k∧aL (paD x.pa) k=some (.ref e.m)∧du x.pa k=e.es:=by
    rcases x6 x.pa k with⟨z,_⟩|z
    ·rw[z]at hu;cases hu
    ·exact z
   rw[ev]at hu
   cases hu
   obtain⟨pa5,A5,he,N,f5⟩:∃pa5,HoO t H4 a s l wr p h {x with now:=x.now+1,di:=x.di++ [(r,xs)],pa:=pa5}∧e∈pa5∧(∀y,rf x.pa (paN pa5 k y) k y)∧Fr (Ow a wr p h x.pa) (Ow a wr p h pa5) H H4:=
    ⟨x.pa,A4,he,λy=>⟨λj=>mB (Qg.mpr ⟨e,he,ek⟩),by rw[sY λ_ _=>rfl,if_pos (Qg.mpr ⟨e,he,ek⟩)]⟩,λb o n e=>⟨(o5 b o n e).1,n⟩⟩
   have le:e.es.length<50000:=by rw[←em];exact l3
   clear A4 em ev o5
  case' B=>
   have hn:aL (aI (paD x.pa)) (Sum.inl k:Key)=none:=hn
   rw[liftK_val]at hn
   have nk:k∉x.pa.map (·.k):=by
    rcases x6 x.pa k with⟨_,z⟩|⟨e,_,_,z,_⟩
    ·exact z
    ·rw[z]at hn;cases hn
   have ep:bj (aI (paD x.pa)) (Sum.inl k:Key) (.ref m)=aI (paD x.pa++ [(k,.ref m)]):=by
    rw[dQ]
    unfold bj
    rw[cn,hn]
    rfl
   rw[ep]
   obtain⟨e,ee,ek,le⟩:∃e:Pk,e=⟨k,m,g,[]⟩∧e.k=k∧e.es.length<50000:=⟨_,rfl,rfl,by show 0<50000;decide⟩
   obtain⟨pa5,A5,he,N,f5⟩:∃pa5,HoO t (upd H4 p (.dK (aI (paD x.pa++ [(k,.ref m)])))) a s l wr p h {x with now:=x.now+1,di:=x.di++ [(r,xs)],pa:=pa5}∧e∈pa5∧(∀y,rf x.pa (paN pa5 k y) k y)∧Fr (Ow a wr p h x.pa) (Ow a wr p h pa5) H (upd H4 p (.dK (aI (paD x.pa++ [(k,.ref m)])))):=by
    refine⟨x.pa++ [e],ee▸A4.newk nk M4 om og,Qt _ Qj,λy=>⟨λj=>?_,?_⟩,λb o n eb=>⟨?_,λz=>?_⟩⟩
    ·have nk':e.k∉x.pa.map (·.k):=by rw[ek];exact nk
     rw[mB (by rw[Q9];exact Qt _ (Qb.mpr ek.symm)),qA nk',qA nk',if_pos ek.symm,tx nk,ee]
     by_cases c:j=k
     ·rw[if_pos c,if_pos c]
     ·rw[if_neg c,if_neg c,if_neg c]
    ·rw[sY λ_ _=>rfl,if_neg nk,Q9,←ek]
     rfl
    ·rw[ae λz=>n (.inr (.inr (.inl z)))]
     exact(o5 b o n eb).1
    ·rcases z with z|z|z|z|⟨e',he',z⟩
     ·exact n (.inl z)
     ·exact n (.inr (.inl z))
     ·exact n (.inr (.inr (.inl z)))
     ·exact n (.inr (.inr (.inr (.inl z))))
     ·rcases Q4.mp he' with y|y
      ·exact n (.inr (.inr (.inr (.inr ⟨e',y,z⟩))))
      ·rw[Qb.mp y,ee]at z
       exact z.elim (o5 b o n eb).2.1 (o5 b o n eb).2.2
   have em:V.ref m=V.ref e.m:=by rw[ee]
   clear A4 M4 o5 om og hn nk ep
   generalize upd H4 p (.dK (aI (paD x.pa++ [(k,.ref m)])))=H5 at A5 f5⊢
   rw[em]
  all_goals
   have M5:=A5.mx e he
   obtain⟨dy,hm⟩:=M5.ob
   obtain⟨dx5,ho5⟩:=A5.ob
   refine⟨e.m,dy,_,rfl,hm,bJ (by decide+kernel),_,rfl,a,_,dx5,_,_,rfl,ho5,T.aY,T.iM,pz,_,rfl,e.m,e.l,e.es,_,v,rfl,M5,by omega,λH6 y M6 ny o6=>?_⟩
   have A6:=A5.noted he ek M6 o6
   obtain⟨dx6,ho6⟩:=A6.ob
   refine⟨_,rfl,a,_,dx6,_,_,rfl,ho6,T.aY,T.iM,pz,q _ _ y A6 (N _) (f5.trans λb o n eb=>⟨o6 b o (λz=>n (.inr (.inr (.inr (.inr ⟨e,he,.inr z⟩))))) eb,λz=>n (Eo z)⟩)⟩
def HSt.new:HSt:=⟨0,0,0,SSt.new,[],[],[],[]⟩
theorem HSt.new_ok:HOk HSt.new:=⟨λz=>⟨(λy=>by cases y),(λy=>by cases y)⟩,by decide,by decide,rfl,by decide,λ_=>by show((0:Nat):Int)≤0;decide,by decide,Zc,(λ_ z=>by cases z),by decide,λ_=>⟨List.Pairwise.nil,(λy z=>by cases z)⟩⟩
def pU (K:PySem.W.Frag) (t:Adr):Sp:=λvs H Q _=>∃(a dx:Addr),vs=[.ref a]∧H a=some (.ins t.aH dx [])∧∀H' F,HoA K t H' a F HSt.new→Fr (λb=>b=a) F H H'→Q .non H'
theorem qy (T:Txt K mg t):FnOk P w K mg base CX0 4 t.kU t.gV ["self"] (pU K t):=by
 have Jk:= @oZ P w K mg base t T
 have Jv:= @qr P w K mg base t T
 refine T.B9.ok qa (λvs H Q E h=>?_) (λcdv A outer s H vs Q E hr h=>?_)
 ·obtain⟨a,dx,rfl,_⟩:=h
  rfl
 ·obtain⟨a,dx,rfl,ha,q⟩:=h
  refine⟨_,(ac (b5 (pv 0) af rfl)
   (ac (b5 (pv 0) af rfl)
   (ac (b5 (pv 0) (mn T.FB Jv (hr.mono (by decide)) (by rfl) T.FE T.BL .nil aD) rfl)
   (ac (b5 (pv 0) (mn T.Fc Jk (hr.mono (by decide)) (by rfl) T.Fd T.Bx .nil aD) rfl)
   (ac (b5 (pv 0) (bN ah) rfl)
   (ac (b5 (pv 0) af rfl)
   (ac (b5 (pv 0) g9 rfl)
   (ai (b5 (pv 0) g9 rfl)))))))))
   ,?_⟩
  refine⟨_,rfl,a,_,dx,[],rfl,ha,T.aY,T.iM,(by show 0<1000;decide),?_⟩
  refine⟨_,rfl,a,_,dx,_,rfl,ag,T.aY,T.Aw,(by show 1<1000;decide),?_⟩
  (try dsimp only)
  have e2:upd (upd H a (.ins t.aH dx (bc ("now":Str) (.int 0) []))) a (.ins t.aH dx (bc ("floor":Str) (.int 0) (bc ("now":Str) (.int 0) []))) a=some (.ins t.aH dx [("now",.int 0),("floor",.int 0)]):=by
   rw[ag,dq,aW (by decide+kernel),dq]
  have k2:∀b o,b≠a→H b=some o→upd (upd H a (.ins t.aH dx (bc ("now":Str) (.int 0) []))) a (.ins t.aH dx (bc ("floor":Str) (.int 0) (bc ("now":Str) (.int 0) []))) b=some o:=λb o n e=>by rw[ae n,ae n];exact e
  generalize upd (upd H a (.ins t.aH dx (bc ("now":Str) (.int 0) []))) a (.ins t.aH dx (bc ("floor":Str) (.int 0) (bc ("now":Str) (.int 0) [])))=H2 at e2 k2⊢
  refine λs ds ns nds nsd=>⟨s,ds,rfl,ag,by rw[ae nsd];exact ag,λH3 Fs S3 f3=>⟨rfl,?_⟩⟩
  have k3:∀b o,H2 b=some o→H3 b=some o∧¬Fs b:=λb o e=>f3 b o (λz=>z.elim (λz=>by rw[z,ns]at e;cases e) λz=>by rw[z,nds]at e;cases e) (bU (aj nds) ns _ _ e)
  refine⟨_,rfl,a,_,dx,_,rfl,(k3 _ _ e2).1,T.aY,T.cr,(by show 2<1000;decide),?_⟩
  (try dsimp only)
  have e4:upd H3 a (.ins t.aH dx (bc ("slots":Str) (.ref s) [("now",.int 0),("floor",.int 0)])) a=some (.ins t.aH dx [("now",.int 0),("floor",.int 0),("slots",.ref s)]):=by
   rw[ag,aW (by decide+kernel),aW (by decide+kernel),dq]
  have S4:=S3.upd (o:= .ins t.aH dx (bc ("slots":Str) (.ref s) [("now",.int 0),("floor",.int 0)])) (k3 _ _ e2).2
  have k4:∀b o,b≠a→H b=some o→upd H3 a (.ins t.aH dx (bc ("slots":Str) (.ref s) [("now",.int 0),("floor",.int 0)])) b=some o∧¬Fs b:=λb o n e=>⟨by rw[ae n];exact(k3 _ _ (k2 b o n e)).1,(k3 _ _ (k2 b o n e)).2⟩
  have na:=(k3 _ _ e2).2
  clear f3 k3
  generalize upd H3 a (.ins t.aH dx (bc ("slots":Str) (.ref s) [("now",.int 0),("floor",.int 0)]))=H4 at e4 S4 k4⊢
  refine λl dl nl ndl nld=>⟨l,dl,rfl,ag,by rw[ae nld];exact ag,λH5 Fl L5 f5=>⟨rfl,?_⟩⟩
  have k5:∀b o,H4 b=some o→H5 b=some o∧¬Fl b:=λb o e=>f5 b o (λz=>z.elim (λz=>by rw[z,nl]at e;cases e) λz=>by rw[z,ndl]at e;cases e) (bU (aj ndl) nl _ _ e)
  refine⟨_,rfl,a,_,dx,_,rfl,(k5 _ _ e4).1,T.aY,T.eG,(by show 3<1000;decide),?_⟩
  (try dsimp only)
  have e6:upd H5 a (.ins t.aH dx (bc ("leaves":Str) (.ref l) [("now",.int 0),("floor",.int 0),("slots",.ref s)])) a=some (.ins t.aH dx [("now",.int 0),("floor",.int 0),("slots",.ref s),("leaves",.ref l)]):=by
   rw[ag,aW (by decide+kernel),aW (by decide+kernel),aW (by decide+kernel),dq]
  have nb:=(k5 _ _ e4).2
  have L6:=L5.upd (o:= .ins t.aH dx (bc ("leaves":Str) (.ref l) [("now",.int 0),("floor",.int 0),("slots",.ref s)])) nb
  have S6:=(S4.same λb o e=>(k5 b o e).1).upd (o:= .ins t.aH dx (bc ("leaves":Str) (.ref l) [("now",.int 0),("floor",.int 0),("slots",.ref s)])) na
  have ap:∀b,Fs b→¬Fl b:=λb hb=>by
   obtain⟨o,e⟩:=S4.dom hb
   exact(k5 b o e).2
  have k6:∀b o,b≠a→H b=some o→upd H5 a (.ins t.aH dx (bc ("leaves":Str) (.ref l) [("now",.int 0),("floor",.int 0),("slots",.ref s)])) b=some o∧¬Fs b∧¬Fl b:=λb o n e=>⟨by rw[ae n];exact(k5 _ _ (k4 b o n e).1).1,(k4 b o n e).2,(k5 _ _ (k4 b o n e).1).2⟩
  clear f5 k5 k4 S4 L5 k2 e2 e4 S3 ns nds nsd nl ndl nld
  generalize upd H5 a (.ins t.aH dx (bc ("leaves":Str) (.ref l) [("now",.int 0),("floor",.int 0),("slots",.ref s)]))=H6 at e6 S6 L6 k6⊢
  refine⟨Qf _,λwr nw=>⟨_,rfl,a,_,dx,_,rfl,aj nw _ _ e6,T.aY,T.nM,(by show 4<1000;decide),?_⟩⟩
  (try dsimp only)
  have aw:a≠wr:=al e6 nw
  refine⟨_,rfl,a,_,dx,_,rfl,ag,T.aY,T.Av,(by rw[aW (by decide+kernel),aW (by decide+kernel),aW (by decide+kernel),aW (by decide+kernel),dq];show 5<1000;decide),?_⟩
  (try dsimp only)
  rw[aW (f:="written") (by decide+kernel),aW (f:="written") (by decide+kernel),aW (f:="written") (by decide+kernel),aW (f:="written") (by decide+kernel),dq,aW (f:="marks") (by decide+kernel),aW (f:="marks") (by decide+kernel),aW (f:="marks") (by decide+kernel),aW (f:="marks") (by decide+kernel),aW (f:="marks") (by decide+kernel),dq,da]
  have⟨H9,eH,e9,w9,k9⟩:∃H9,H9=upd (upd H6 wr (.lst [])) a (.ins t.aH dx [("now",.int 0),("floor",.int 0),("slots",.ref s),("leaves",.ref l),("written",.ref wr),("marks",.int 0)])∧H9 a=some (.ins t.aH dx [("now",.int 0),("floor",.int 0),("slots",.ref s),("leaves",.ref l),("written",.ref wr),("marks",.int 0)])∧H9 wr=some (.lst [])∧∀b o,b≠a→H6 b=some o→H9 b=some o:=
   ⟨_,rfl,ag,by rw[ae aw.symm];exact ag,λb o n e=>by rw[ae n];exact aj nw _ _ e⟩
  rw[←eH]
  clear eH
  refine λp np=>⟨_,rfl,a,_,dx,_,rfl,aj np _ _ e9,T.aY,T.sk,(by show 6<1000;decide),?_⟩
  (try dsimp only)
  rw[aW (by decide+kernel),aW (by decide+kernel),aW (by decide+kernel),aW (by decide+kernel),aW (by decide+kernel),aW (by decide+kernel),dq]
  have⟨H11,eH,e11,w11,p11,k11⟩:∃H11,H11=upd (upd H9 p (.dK [])) a (.ins t.aH dx [("now",.int 0),("floor",.int 0),("slots",.ref s),("leaves",.ref l),("written",.ref wr),("marks",.int 0),("past",.ref p)])∧H11 a=some (.ins t.aH dx [("now",.int 0),("floor",.int 0),("slots",.ref s),("leaves",.ref l),("written",.ref wr),("marks",.int 0),("past",.ref p)])∧H11 wr=some (.lst [])∧H11 p=some (.dK [])∧∀b o,b≠a→H6 b=some o→H11 b=some o:=
   ⟨_,rfl,ag,by rw[ae aw.symm];exact aj np _ _ w9,by rw[ae (al e9 np).symm];exact ag,λb o n e=>by rw[ae n];exact aj np _ _ (k9 _ _ n e)⟩
  rw[←eH]
  clear eH
  have pa':p≠a:=(al e9 np).symm
  refine λh nh=>⟨_,rfl,a,_,dx,_,rfl,aj nh _ _ e11,T.aY,T.za,(by show 7<1000;decide),?_⟩
  (try dsimp only)
  rw[aW (by decide+kernel),aW (by decide+kernel),aW (by decide+kernel),aW (by decide+kernel),aW (by decide+kernel),aW (by decide+kernel),aW (by decide+kernel),dq]
  have ha':h≠a:=(al e11 nh).symm
  have k13:∀b o,b≠a→H11 b=some o→upd (upd H11 h (.dK [])) a (.ins t.aH dx (hoF 0 0 s l wr 0 p h)) b=some o:=λb o n e=>by rw[ae n];exact aj nh _ _ e
  have g13:∀b o,b≠a→H6 b=some o→upd (upd H11 h (.dK [])) a (.ins t.aH dx (hoF 0 0 s l wr 0 p h)) b=some o:=λb o n e=>k13 b o n (k11 b o n e)
  have O:HoO t (upd (upd H11 h (.dK [])) a (.ins t.aH dx (hoF 0 0 s l wr 0 p h))) a s l wr p h HSt.new:=⟨⟨dx,ag⟩,k13 _ _ aw.symm w11,(λe he=>by cases he),k13 _ _ pa' p11,by rw[ae ha'];exact ag,(λe he=>by cases he),al p11 nh,(λe he=>by cases he),Zc,Zc,Zc⟩
  have fresh:∀b,(b=wr∨b=p∨b=h)→H6 b=none:=λb hb=>by
   cases e:H6 b with
   |none=>rfl
   |some o=>
    have na:b≠a:=by
     rcases hb with rfl|rfl|rfl
     ·exact aw.symm
     ·exact pa'
     ·exact ha'
    rcases hb with rfl|rfl|rfl
    ·rw[nw]at e;cases e
    ·rw[k9 _ _ na e]at np;cases np
    ·rw[k11 _ _ na e]at nh;cases nh
  have ow:∀b,Ow a wr p h [] b→b=a∨H6 b=none:=λb hb=>by
   rcases hb with z|z|z|z|⟨e,he,_⟩
   ·exact .inl z
   ·exact .inr (fresh b (.inl z))
   ·exact .inr (fresh b (.inr (.inl z)))
   ·exact .inr (fresh b (.inr (.inr z)))
   ·cases he
  refine q _ (HoF a wr p h Fs Fl []) ⟨s,l,wr,p,h,Fs,Fl,⟨O,S6.frame λb hb=>?_,L6.frame λb hb=>?_,ap,λb hb z=>?_,λb hb z=>?_⟩,HSt.new_ok,λ_=>Iff.rfl⟩ λb o n e=>?_
  ·obtain⟨o,e⟩:=S6.dom hb
   rw[e]
   exact g13 b o (λz=>na (z▸hb)) e
  ·obtain⟨o,e⟩:=L6.dom hb
   rw[e]
   exact g13 b o (λz=>nb (z▸hb)) e
  ·rcases ow b hb with y|y
   ·exact na (y▸z)
   ·exact S6.out y z
  ·rcases ow b hb with y|y
   ·exact nb (y▸z)
   ·exact L6.out y z
  ·obtain⟨c1,c2,c3⟩:=k6 b o n e
   refine⟨g13 b o n c1,λz=>?_⟩
   rcases z with z|z|z
   ·exact c2 z
   ·exact c3 z
   ·rcases ow b z with y|y
    ·exact n y
    ·rw[c1]at y;cases y
theorem HoA.klen {H:Hp} {a:Addr} {F:Addr→Prop} {x:HSt} (A:HoA K t H a F x):(x.ks.length:Int)≤x.now:=by
 obtain⟨s,l,w,p,h,Fs,Fl,B,O,_⟩:=A
 obtain⟨L,A,ls,_,ok,e,_⟩:=B.lv
 have nd:x.ks.Nodup:=by
  rw[←e]
  exact List.Pairwise.imp (λh z=>by omega) ok.up
 have:=hJ (S:=x.st.kv.map (·.1)) nd λz hz=>mem_keys.mpr ((O.ks z).mp hz)
 rw[Q0]at this
 have:=O.sl
 omega
theorem HOk.noted {x:HSt} {pa':List Pk} {k:Int} {y:Mk1} (O:HOk x) (N:rf x.pa pa' k y):(pa'.length:Int)≤x.now+1∧∀j,((du pa' j).length:Int)≤x.now+1:=by
 constructor
 ·have h1:=O.pl
  have h2:=congrArg List.length N.ky
  rw[Q0]at h2
  split at h2
  ·rw[Q0]at h2
   omega
  ·rw[Q8,Q0,Zf]at h2
   omega
 ·intro j
  rw[N.of]
  split
  ·have:=O.el k
   rw[Q8,Zf]
   omega
  ·have:=O.el j
   omega
theorem HOk.hv1 {x:HSt} (O:HOk x):∀p∈x.ho,x.fl≤p.1∧p.1≤x.now+1∧∃n:Int,p.2= .int n∧0<n:=λp hp=>⟨(O.hv p hp).1,by have:=(O.hv p hp).2.1;omega,(O.hv p hp).2.2⟩
theorem HOk.fb1 {x:HSt} (O:HOk x):0≤x.fl∧x.fl≤x.now+1:=⟨O.fb.1,by have:=O.fb.2;omega⟩
theorem HOk.up1 {x:HSt} {pa':List Pk} {k:Int} {y:Mk1} (O:HOk x) (N:rf x.pa pa' k y) (e:y.mo=x.now+1):∀j,(du pa' j).Pairwise (λa b=>a.mo<b.mo)∧∀z∈du pa' j,z.mo≤x.now+1:=λj=>by
 rw[N.of]
 obtain⟨u1,u2⟩:=O.up k
 split
 ·refine⟨Qk.mpr ⟨u1,Z6 _ _,λa ha b hb=>?_⟩,λz hz=>?_⟩
  ·rw[Qb.mp hb,e]
   have:=u2 a ha
   omega
  ·rcases Q4.mp hz with hz|hz
   ·have:=u2 z hz
    omega
   ·rw[Qb.mp hz,e]
    exact Zy _
 ·obtain⟨v1,v2⟩:=O.up j
  exact⟨v1,λz hz=>by have:=v2 z hz;omega⟩
def rL (K:PySem.W.Frag) (t:Adr):Sp:=λvs H Q _=>∃(a:Addr) (k i:Int) (F:Addr→Prop) (x:HSt),vs=[.ref a,.int k,.int i]∧HoA K t H a F x∧0≤k∧x.now+x.ma<4000∧
 ∀(H':Hp) (F':Addr→Prop) (ks':List Int) (r q:Addr) (pa':List Pk),HoA K t H' a F' {x with now:=x.now+1,st:=x.st.put k (.int i),ks:=ks',di:=x.di++ [(r,[.str "put",.int k,.int i])],pa:=pa'}→rf x.pa pa' k ⟨q,x.now+1,.int i⟩→Fr F F' H H'→Q (.int (x.now+1)) H'
theorem sf (T:Txt K mg t):FnOk P w K mg base CX0 5 t.mV t.iZ ["self","key","value"] (rL K t):=by
 have J8:= @jF P w K mg base t T
 have Je:= @qw P w K mg base t T
 have Ju:= @kC P w K mg base t T
 have Jy:= @r9 P w K mg base t T
 refine T.Do.ok rR (λvs H Q E h=>?_) (λcdv A outer s H vs Q E hr h=>?_)
 ·obtain⟨a,k,i,F,x,rfl,_⟩:=h
  rfl
 ·obtain⟨a,k,i,F,x,rfl,A,k0,l1,q⟩:=h
  refine⟨_,(ac (aR (iI (bY (aV (aC (pv 0) rfl) T.aB T.uH Ju (hr.mono (by decide)) T.uW .nil aD (aa (pv 1) ah))))
   (ai (aS (aV (aC (pv 0) rfl) T.aG T.BH Je (hr.mono (by decide)) T.BP .nil aD (aa (pv 1) ah))))
   aE)
   (ac (aS (aV (aC (pv 0) rfl) T.aB T.CM Jy (hr.mono (by decide)) T.Df .nil aD (aa (pv 1) (aa (pv 2) ah))))
   (ai (aF (aV (pv 0) T.aY T.sw J8 (hr.mono (by decide)) T.sJ .nil aD (aa (bM (aa ql (aa (pv 1) (aa (pv 2) ah)))) (aa (pv 2) ah)))))))
   ,?_⟩
  have kl:=A.klen
  obtain⟨s,l,wr,p,h,Fs,Fl,B,O,g⟩:=A
  have n0:=O.n0
  have m0:=O.m0
  have sl:=O.sl
  obtain⟨dx,ho⟩:=B.o.ob
  obtain⟨ds,fs,hs,hm⟩:=B.sl.ins
  (try dsimp only)
  refine eU (λσ H2=>∃(Fs2 Fl2:Addr→Prop) (ks2:List Int),σ=[some (.ref a),some (.int k),some (.int i)]∧HoB K t H2 a s l wr p h Fs2 Fl2 {x with ks:=ks2}∧(∀z,z∈ks2↔z=k∨z∈x.ks)∧Fr (HoF a wr p h Fs Fl x.pa) (HoF a wr p h Fs2 Fl2 x.pa) H H2) (λnx go=>?_) (λσ H2 w=>?_)
  ·refine⟨_,rfl,a,_,dx,_,_,rfl,ho,T.aY,T.cr,qM,s,ds,fs,rfl,hs,hm _ (by decide+kernel),_,rfl,s,k,Fs,x.st,rfl,B.sl,k0,λH1 Fs1 S1 f1=>?_⟩
   obtain⟨B1,g1⟩:=B.slots S1 f1
   obtain⟨dx1,ho1⟩:=B1.o.ob
   obtain⟨dl,fl,hl,hml⟩:=B1.lv.ins
   cases ev:(aL x.st.kv k).isSome with
   |true=>
    refine⟨_,rfl,bB (λc=>?_) (λ_=>?_)⟩
    ·cases c
    ·exact go _ _ ⟨Fs1,Fl,x.ks,rfl,B1,λz=>⟨.inr,λy=>y.elim (λy=>by rw[y];exact(O.ks k).mpr ev) id⟩,g1⟩
   |false=>
    have nk:k∉x.ks:=λz=>by have:=(O.ks k).mp z;rw[ev]at this;cases this
    refine⟨_,rfl,bB (λ_=>?_) (λc=>?_)⟩
    ·refine⟨_,rfl,a,_,dx1,_,_,rfl,ho1,T.aY,T.eG,xy,l,dl,fl,rfl,hl,hml _ (by decide+kernel),_,rfl,l,k,Fl,x.ks,rfl,B1.lv,by omega,λ_ H2 Fl2 ks2 L2 mem f2=>?_,λz=>absurd z nk⟩
     obtain⟨B2,g2⟩:=B1.leaves L2 f2
     exact go _ _ ⟨Fs1,Fl2,ks2,rfl,B2,mem,g1.trans g2⟩
    ·exact absurd rfl c
  ·obtain⟨Fs2,Fl2,ks2,rfl,B2,mem,g2⟩:=w
   obtain⟨dx2,ho2⟩:=B2.o.ob
   obtain⟨ds2,fs2,hs2,hm2⟩:=B2.sl.ins
   refine⟨_,rfl,a,_,dx2,_,_,rfl,ho2,T.aY,T.cr,qM,s,ds2,fs2,rfl,hs2,hm2 _ (by decide+kernel),_,rfl,_,rfl,s,k,i,Fs2,x.st,rfl,B2.sl,k0,by omega,λH3 Fs3 S3 f3=>?_⟩
   obtain⟨B3,g3⟩:=B2.slots S3 f3
   obtain⟨dx3,ho3⟩:=B3.o.ob
   refine⟨_,rfl,a,dx3,_,rfl,ho3,AT (by decide+kernel),_,rfl,_,rfl,(by show 3≤sizeLine;decide),λr nr=>?_⟩
   have s4:=aj (o:= .tup [.str "put",.int k,.int i]) nr
   have ht:upd H3 r (.tup [.str "put",.int k,.int i]) r=some (.tup [.str "put",.int k,.int i]):=ag
   have B4:HoB K t (upd H3 r (.tup [.str "put",.int k,.int i])) a s l wr p h Fs3 Fl2 _:=B3.keep (λb hb=>by
    obtain⟨o,e,_⟩:=B3.dom hb
    rw[e]
    exact s4 _ _ e) λb xs e=>s4 _ _ e
   have g4:=(g2.trans g3).trans (Fr.of_same s4)
   generalize upd H3 r (.tup [.str "put",.int k,.int i])=H4 at B4 ht g4⊢
   have dl:=O.dl
   have pl:=O.pl
   have el:=O.el k
   refine⟨_,rfl,a,s,l,wr,p,h,r,k,_,.int i,_,rfl,B4.o,ht,rfl,by show x.di.length<50000;omega,by show x.pa.length<50000;omega,by show(du x.pa k).length<50000;omega,λH5 pa' y O5 N f5=>?_⟩
   obtain⟨B5,g5⟩:=B4.own O5 rfl rfl f5
   obtain⟨N1,N2⟩:=O.noted N
   have ek:(x.st.put k (.int i)).kv=bj x.st.kv k (.int i):=SSt.three_kv
   refine q H5 (HoF a wr p h Fs3 Fl2 pa') ks2 r y pa' ⟨s,l,wr,p,h,Fs3,Fl2,B5,⟨λz=>?_,by show 0≤x.now+1;omega,m0,?_,N1,N2,?_,O.hn,O.hv1,O.fb1,O.up1 N rfl⟩,λ_=>Iff.rfl⟩ N ?_
   ·show z∈ks2↔(aL (x.st.put k (.int i)).kv z).isSome=true
    rw[mem,ek,←mem_keys,mD,O.ks]
    split
    ·rename_i c
     rw[mem_keys]
     exact⟨λy=>y.elim (λy=>y▸c) id,.inr⟩
    ·rw[Q4,Qb,mem_keys]
     exact⟨λy=>y.elim .inr .inl,λy=>y.elim .inr .inl⟩
   ·show((x.di++ [(r,_)]).length:Int)=x.now+1+x.ma
    rw[Q8,Zf]
    omega
   ·show((x.st.put k (.int i)).kv.length:Int)≤x.now+1
    rw[ek]
    have:=bX x.st.kv k (.int i)
    omega
   ·exact λb o n e=>(g4.trans g5) b o (λz=>n ((g b).mpr z)) e
def pV (K:PySem.W.Frag) (t:Adr):Sp:=λvs H Q E=>∃(a:Addr) (k:Int) (F:Addr→Prop) (x:HSt),vs=[.ref a,.int k]∧HoA K t H a F x∧0≤k∧x.now+x.ma<4000∧
 ((aL x.st.kv k).isSome=true→∀(H':Hp) (F':Addr→Prop) (ks':List Int) (r q:Addr) (pa':List Pk),HoA K t H' a F' {x with now:=x.now+1,st:=x.st.drop k,ks:=ks',di:=x.di++ [(r,[.str "drop",.int k])],pa:=pa'}→rf x.pa pa' k ⟨q,x.now+1,.non⟩→Fr F F' H H'→Q (.int (x.now+1)) H')∧
 (aL x.st.kv k=none→False)
theorem qz (T:Txt K mg t):FnOk P w K mg base CX0 6 t.kW t.gW ["self","key"] (pV K t):=by
 have J8:= @jF P w K mg base t T
 have Jf:= @lF P w K mg base t T
 have Js:= @qt P w K mg base t T
 refine T.Ca.ok qb (λvs H Q E h=>?_) (λcdv A outer s H vs Q E hr h=>?_)
 ·obtain⟨a,k,F,x,rfl,_⟩:=h
  rfl
 ·obtain⟨a,k,F,x,rfl,A,k0,l1,q,qx⟩:=h
  refine⟨_,(ac (aS (aV (aC (pv 0) rfl) T.aB T.BF Js (hr.mono (by decide)) T.BM .nil aD (aa (pv 1) ah)))
   (ac (aS (aV (aC (pv 0) rfl) T.aG T.ye Jf (hr.mono (by decide)) T.yE .nil aD (aa (pv 1) ah)))
   (ai (aF (aV (pv 0) T.aY T.sw J8 (hr.mono (by decide)) T.sJ .nil aD (aa (bM (aa ql (aa (pv 1) ah))) (aa b6 ah)))))))
   ,?_⟩
  have kl:=A.klen
  obtain⟨s,l,wr,p,h,Fs,Fl,B,O,g⟩:=A
  have n0:=O.n0
  have m0:=O.m0
  have sl:=O.sl
  obtain⟨dx,ho⟩:=B.o.ob
  obtain⟨ds,fs,hs,hm⟩:=B.sl.ins
  (try dsimp only)
  refine⟨_,rfl,a,_,dx,_,_,rfl,ho,T.aY,T.cr,qM,s,ds,fs,rfl,hs,hm _ (by decide+kernel),_,rfl,s,k,Fs,x.st,rfl,B.sl,k0,λev=>⟨by omega,λH1 Fs1 S1 f1=>?_⟩,λhn=>(qx hn).elim⟩
  ·obtain⟨B1,g1⟩:=B.slots S1 f1
   obtain⟨dx1,ho1⟩:=B1.o.ob
   obtain⟨dl,fl,hl,hml⟩:=B1.lv.ins
   refine⟨_,rfl,a,_,dx1,_,_,rfl,ho1,T.aY,T.eG,xy,l,dl,fl,rfl,hl,hml _ (by decide+kernel),_,rfl,l,k,Fl,x.ks,rfl,B1.lv,by omega,λ_ H2 Fl2 ks2 L2 mem f2=>?_,λz=>absurd ((O.ks k).mpr ev) z⟩
   obtain⟨B3,g3⟩:=B1.leaves L2 f2
   obtain⟨dx3,ho3⟩:=B3.o.ob
   refine⟨_,rfl,a,dx3,_,rfl,ho3,AT (by decide+kernel),_,rfl,(by show 2≤sizeLine;decide),λr nr=>?_⟩
   have s4:=aj (o:= .tup [.str "drop",.int k]) nr
   have ht:upd H2 r (.tup [.str "drop",.int k]) r=some (.tup [.str "drop",.int k]):=ag
   have B4:HoB K t (upd H2 r (.tup [.str "drop",.int k])) a s l wr p h Fs1 Fl2 _:=B3.keep (λb hb=>by
    obtain⟨o,e,_⟩:=B3.dom hb
    rw[e]
    exact s4 _ _ e) λb xs e=>s4 _ _ e
   have g4:=(g1.trans g3).trans (Fr.of_same s4)
   generalize upd H2 r (.tup [.str "drop",.int k])=H4 at B4 ht g4⊢
   have dl:=O.dl
   have pl:=O.pl
   have el:=O.el k
   refine⟨a,s,l,wr,p,h,r,k,_,.non,_,rfl,B4.o,ht,rfl,by show x.di.length<50000;omega,by show x.pa.length<50000;omega,by show(du x.pa k).length<50000;omega,λH5 pa' y O5 N f5=>?_⟩
   obtain⟨B5,g5⟩:=B4.own O5 rfl rfl f5
   obtain⟨N1,N2⟩:=O.noted N
   have ek:(x.st.drop k).kv=bK x.st.kv k:=SSt.three_kv
   refine q ev H5 (HoF a wr p h Fs1 Fl2 pa') ks2 r y pa' ⟨s,l,wr,p,h,Fs1,Fl2,B5,⟨λz=>?_,by show 0≤x.now+1;omega,m0,?_,N1,N2,?_,O.hn,O.hv1,O.fb1,O.up1 N rfl⟩,λ_=>Iff.rfl⟩ N ?_
   ·show z∈ks2↔(aL (x.st.drop k).kv z).isSome=true
    rw[mem,ek,dI,O.ks]
    by_cases c:z=k
    ·rw[if_pos c]
     exact⟨λy=>absurd c y.1,λy=>by cases y⟩
    ·rw[if_neg c]
     exact⟨λy=>y.2,λy=>⟨c,y⟩⟩
   ·show((x.di++ [(r,_)]).length:Int)=x.now+1+x.ma
    rw[Q8,Zf]
    omega
   ·show((x.st.drop k).kv.length:Int)≤x.now+1
    rw[ek]
    have:(bK x.st.kv k).length≤x.st.kv.length:=Qn _ _
    omega
   ·exact λb o n e=>(g4.trans g5) b o (λz=>n ((g b).mpr z)) e
def TkA (t:Adr) (H:Hp) (p:Addr) (up:Bool) (a e:V):Prop:=∃dx fs,H p=some (.ins (if up=true then t.cK else t.bW) dx fs)∧u0 (if up=true then "up" else "down") fs a e∧if up=true then okU a e else okD a e
def oo (up:Bool) (a:V) (ks:List Int):List Int:=match up,a with
 |true,.int i=>ks.filter λz=>decide (i≤z)
 |false,.int i=>ks.reverse.filter (c8 (some i))
 |_,_=>ks.reverse.filter (c8 none)
def uh (K:PySem.W.Frag) (t:Adr):Sp:=λvs H Q _=>∃(l p:Addr) (n:Int) (up:Bool) (a e:V) (F:Addr→Prop) (ks:List Int),vs=[.ref l,.ref p,.int n]∧LvA K t H l F ks∧TkA t H p up a e∧ks.length<4096∧0≤n∧
 ∀(H':Hp) (r:Addr),Same H H'→H r=none→H' r=some (.lst (((oo up a ks).take n.toNat).map V.int))→Q (.ref r) H'
theorem uD (T:Txt K mg t):FnOk P w K mg base CX0 3 t.oG t.jI ["leaves","token","most"] (uh K t):=by
 have Jg:= @jE P w K mg base t T
 have Ji:= @lE P w K mg base t T
 refine T.wA.ok ur (λvs H Q E h=>?_) (λcdv A outer s H vs Q E hr h=>?_)
 ·obtain⟨l,p,n,up,a,e,F,ks,rfl,_⟩:=h
  rfl
 ·obtain⟨l,p,n,up,a,e,F,ks,rfl,L,TK,l1,n0,q⟩:=h
  refine⟨_,(ac (aR (bY (az (bQ K rfl) (by rfl) T.bD bh (aa (pv 1) (aa (bE (v:= .ref t.cK) (by rfl) T.vR rfl) ah))))
   (ai (aF (aV (pv 0) T.aG T.yd Ji (hr.mono (by decide)) T.yD .nil aD (aa (aC (pv 1) rfl) (aa (pv 2) ah)))))
   aE)
   (ai (aF (aV (pv 0) T.aG T.wF Jg (hr.mono (by decide)) T.wJ .nil aD (aa (aC (pv 1) rfl) (aa (pv 2) ah))))))
   ,?_⟩
  obtain⟨dx,fs,hp,tf,ok⟩:=TK
  obtain⟨dl,fl,hl,hm⟩:=L.ins
  cases up with
  |true=>
   have hp:H p=some (.ins t.cK dx fs):=hp
   obtain⟨i,rfl,i0,_⟩:=(show okU a e from ok)
   exact⟨_,rfl,_,_,_,_,rfl,TyOf.ins hp T.eP T.i7.1 T.i7.2 T.i7.3 T.i7.4,T.vW,_,rfl,cC ⟨_,rfl,l,dl,fl,rfl,hl,hm _ (by decide+kernel),_,rfl,p,_,dx,fs,_,rfl,hp,T.eP,T.mw,tf.at_,_,rfl,l,i,n,F,ks,rfl,L,l1,n0,q⟩⟩
  |false=>
   have hp:H p=some (.ins t.bW dx fs):=hp
   obtain⟨j,rfl,j0,ha⟩:=(show okD a e from ok)
   refine⟨_,rfl,_,_,_,_,rfl,TyOf.ins hp T.bS T.cQ.1 T.cQ.2 T.cQ.3 T.cQ.4,T.qH,_,rfl,cX ⟨_,rfl,l,dl,fl,rfl,hl,hm _ (by decide+kernel),_,rfl,p,_,dx,fs,_,rfl,hp,T.bS,T.fI,tf.at_,_,rfl,?_⟩⟩
   rcases ha with rfl|⟨i,rfl,_⟩
   ·exact⟨l,none,n,F,ks,rfl,L,l1,n0,q⟩
   ·exact⟨l,some i,n,F,ks,rfl,L,l1,n0,q⟩
def oM (t:Adr):Sp:=λvs H Q _=>∃(p:Addr) (up:Bool) (a e:V) (k:Int),vs=[.ref p,.int k]∧TkA t H p up a e∧(if up=true then okU (.int (k+1)) e else okD (.int (k-1)) e)∧
 ∀(H':Hp) (r:Addr),Same H H'→H r=none→TkA t H' r up (.int (if up=true then k+1 else k-1)) e→Q (.ref r) H'
theorem oU (T:Txt K mg t):FnOk P w K mg base CX0 5 t.jS t.fN ["token","key"] (oM t):=by
 have J7:= @kD P w K mg base t T
 have Y4:= @oj P w K mg base t T
 refine T.rh.ok oR (λvs H Q E h=>?_) (λcdv A outer s H vs Q E hr h=>?_)
 ·obtain⟨p,up,a,e,k,rfl,_⟩:=h
  rfl
 ·obtain⟨p,up,a,e,k,rfl,TK,ok2,q⟩:=h
  refine⟨_,(ac (aR (bY (az (bQ K rfl) (by rfl) T.bD bh (aa (pv 0) (aa (bE (v:= .ref t.cK) (by rfl) T.vR rfl) ah))))
   (ai (aF (j6 T.FA Y4 (hr.mono (by decide)) (by rfl) T.vR T.xH .nil aD (aa (am bq (pv 1) af) (aa (aC (pv 0) rfl) ah)))))
   aE)
   (ai (aF (j6 T.CI J7 (hr.mono (by decide)) (by rfl) T.CJ T.uX .nil aD (aa (am fE (pv 1) af) (aa (aC (pv 0) rfl) ah))))))
   ,?_⟩
  obtain⟨dx,fs,hp,tf,ok⟩:=TK
  have kp:∀{H1 H':Hp} {r:Addr},Same H H1→H r=none→Keep r H1 H'→Same H H':=λs n k b o e=>k b o (s b o e) λz=>by rw[z,n]at e;cases e
  cases up with
  |true=>
   have hp:H p=some (.ins t.cK dx fs):=hp
   have ok2:okU (.int (k+1)) e:=ok2
   have se:Sc e:=by
    obtain⟨_,_,_,he|⟨j,he,_⟩⟩:=ok2
    ·rw[he];exact True.intro
    ·rw[he];exact T0 _
   refine⟨_,rfl,_,_,_,_,rfl,TyOf.ins hp T.eP T.i7.1 T.i7.2 T.i7.3 T.i7.4,T.vW,_,rfl,cC ⟨_,rfl,_,_,rfl,rfl,_,rfl,p,_,dx,fs,_,rfl,hp,T.eP,T.hV,tf.end_,λr dr nr nd nrd=>⟨r,dr,_,_,rfl,ag,T0 _,se,λ_ H' fs' kp' h' tf'=>⟨rfl,?_⟩,λz=>absurd ok2 z⟩⟩⟩
   exact q H' r (kp (bU (aj nd) nr) nr kp') nr ⟨dr,fs',h',tf',ok2⟩
  |false=>
   have hp:H p=some (.ins t.bW dx fs):=hp
   have ok2:okD (.int (k-1)) e:=ok2
   have se:Sc e:=by
    obtain⟨_,he,_⟩:=ok2
    rw[he]
    exact T0 _
   refine⟨_,rfl,_,_,_,_,rfl,TyOf.ins hp T.bS T.cQ.1 T.cQ.2 T.cQ.3 T.cQ.4,T.qH,_,rfl,cX ⟨_,rfl,_,_,rfl,rfl,_,rfl,p,_,dx,fs,_,rfl,hp,T.bS,T.gf,tf.end_,λr dr nr nd nrd=>⟨r,dr,_,_,rfl,ag,T0 _,se,λ_ H' fs' kp' h' tf'=>⟨rfl,?_⟩,λz=>absurd ok2 z⟩⟩⟩
   exact q H' r (kp (bU (aj nd) nr) nr kp') nr ⟨dr,fs',h',tf',ok2⟩
def hK (up:Bool):V→V→Int→Bool:=if up=true then hU else hD
def cO (up:Bool) (a e:V) (ks:List Int):List Int:=(if up=true then ks else ks.reverse).filter (hK up a e)
theorem fY {α:Type} {h:α→Bool}:∀{xs:List α} {n:Nat},xs.Pairwise (λx y=>h y=true→h x=true)→(xs.take n).filter h=(xs.filter h).take n
 | [],n,_=>by rw[Xp,List.filter_nil,Xp]
 |x::r,0,_=>rfl
 |x::r,n+1,w=>by
  obtain⟨w1,w2⟩:=X1.mp w
  rw[Xn]
  by_cases c:h x=true
  ·rw[List.filter_cons_of_pos c,List.filter_cons_of_pos c,Xn,fY w2]
  ·have z:r.filter h=[]:=ZM.mpr λy hy hh=>c (w1 y hy hh)
   rw[List.filter_cons_of_neg c,List.filter_cons_of_neg c,fY w2,z,Xp,Xp]
theorem y9 {up:Bool} {a e:V} {ks:List Int} {n:Nat} (ok:if up=true then okU a e else okD a e) (r:cP ks):((oo up a ks).take n).filter (hK up a e)=(cO up a e ks).take n:=by
 cases up with
 |true=>
  obtain⟨i,rfl,i0,he⟩:=(show okU a e from ok)
  have q:∀z,hU (.int i) e z=true→decide (i≤z)=true:=λz hz=>by
   rcases he with rfl|⟨j,rfl,_⟩
   ·exact hz
   ·exact(QC.mp hz).1
  show((ks.filter λz=>decide (i≤z)).take n).filter (hU (.int i) e)=(ks.filter (hU (.int i) e)).take n
  rw[fY,List.filter_filter]
  ·congr 1
   refine Xz λz _=>?_
   cases c:hU (.int i) e z with
   |true=>rw[q z c];rfl
   |false=>rfl
  ·have r2:(ks.filter λz=>decide (i≤z)).Pairwise (· < ·):=List.Pairwise.filter _ r
   refine List.Pairwise.imp_of_mem (λ{x y} hx hy lt hh=>?_) r2
   have hx:=(QB.mp hx).2
   rcases he with rfl|⟨j,rfl,_⟩
   ·exact hx
   ·refine QC.mpr ⟨hx,decide_eq_true ?_⟩
    have:=of_decide_eq_true (QC.mp hh).2
    omega
 |false=>
  obtain⟨j,rfl,j0,ha⟩:=(show okD a e from ok)
  have rr:ks.reverse.Pairwise (λx y=>y<x):=Xh.mpr r
  obtain⟨k,ek,ea⟩:∃k,oo false a ks=ks.reverse.filter (c8 k)∧∀z,hD a (.int j) z=(decide (j≤z)&&c8 k z):=by
   rcases ha with rfl|⟨i,rfl,_⟩
   ·exact⟨none,rfl,λz=>(Bool.and_true _).symm⟩
   ·exact⟨some i,rfl,λz=>rfl⟩
  rw[ek]
  show((ks.reverse.filter (c8 k)).take n).filter (hD a (.int j))=(ks.reverse.filter (hD a (.int j))).take n
  rw[fY,List.filter_filter]
  ·congr 1
   refine Xz λz _=>?_
   rw[ea]
   cases c8 k z<;>cases decide (j≤z)<;>rfl
  ·have r2:(ks.reverse.filter (c8 k)).Pairwise (λx y=>y<x):=List.Pairwise.filter _ rr
   refine List.Pairwise.imp_of_mem (λ{x y} hx hy lt hh=>?_) r2
   have hx:=(QB.mp hx).2
   rw[ea]at hh⊢
   refine QC.mpr ⟨decide_eq_true ?_,hx⟩
   have:=of_decide_eq_true (QC.mp hh).1
   omega
theorem y4 {up:Bool} {a e:V} {ks:List Int} {i:Nat} {k k':Int} (ok:if up=true then okU a e else okD a e) (r:cP ks) (h:(cO up a e ks)[i]?=some k) (h':(cO up a e ks)[i+1]?=some k'):if up=true then okU (.int (k+1)) e else okD (.int (k-1)) e:=by
 obtain⟨hi,ek⟩:=Q2.mp h
 obtain⟨hi',ek'⟩:=Q2.mp h'
 have m:=(QB.mp (ek▸Za hi:k∈cO up a e ks)).2
 have m':=(QB.mp (ek'▸Za hi':k'∈cO up a e ks)).2
 cases up with
 |true=>
  obtain⟨i,rfl,i0,he⟩:=(show okU a e from ok)
  have lt:k<k':=by
   have:=(QT.mp (List.Pairwise.filter (hU (.int i) e) r)) _ _ hi hi' (Zz _)
   rw[←ek,←ek']
   exact this
  have m:hU (.int i) e k=true:=m
  have m':hU (.int i) e k'=true:=m'
  rcases he with rfl|⟨j,rfl,_⟩
  ·have:=of_decide_eq_true m
   exact⟨k+1,rfl,by omega,.inl rfl⟩
  ·have:=of_decide_eq_true (QC.mp m).1
   have:=of_decide_eq_true (QC.mp m').2
   exact⟨k+1,rfl,by omega,.inr ⟨j,rfl,by omega⟩⟩
 |false=>
  obtain⟨j,rfl,j0,ha⟩:=(show okD a e from ok)
  have rr:ks.reverse.Pairwise (λx y=>y<x):=Xh.mpr r
  have lt:k'<k:=by
   have:=(QT.mp (List.Pairwise.filter (hD a (.int j)) rr)) _ _ hi hi' (Zz _)
   rw[←ek,←ek']
   exact this
  have m':hD a (.int j) k'=true:=m'
  have:j≤k':=by
   rcases ha with rfl|⟨i,rfl,_⟩
   ·exact of_decide_eq_true m'
   ·exact of_decide_eq_true (QC.mp m').1
  exact⟨j,rfl,j0,.inr ⟨k-1,rfl,by omega⟩⟩
def NxK (t:Adr) (H H':Hp) (p:Addr) (up:Bool) (e:V) (hs:List Int) (m:Nat) (v:V):Prop:=if hs.length≤m then v= .non else if m=0 then v= .ref p else ∃(q:Addr) (k:Int),hs[m-1]?=some k∧v= .ref q∧H q=none∧TkA t H' q up (.int (if up=true then k+1 else k-1)) e
theorem yo {xs:List Int} {i:Nat} {x:V} (h:(xs.map V.int)[i]?=some x):∃k:Int,x= .int k∧xs[i]?=some k:=by
 rw[QA]at h
 cases e:xs[i]? with
 |none=>rw[e]at h;cases h
 |some k=>rw[e]at h;cases h;exact⟨k,rfl,rfl⟩
theorem tI {P:Int→Bool} {xs:List Int} {i:Nat} {k:Int} (e:xs[i]?=some k):(xs.take (i+1)).filter P=(xs.take i).filter P++(if P k=true then[k]else[]):=by
 rw[Qr,e,Qx]
 by_cases c:P k=true
 ·rw[if_pos c]
  simp[c]
 ·rw[if_neg c]
  simp[c]
theorem Be (P:Int→Bool) (xs:List Int) (i:Nat):((xs.take i).filter P).length≤xs.length:=by
 have h1:=Qn P (xs.take i)
 have h2:(xs.take i).length≤xs.length:=by rw[Q7];omega
 omega
theorem TkA.same {t:Adr} {H H':Hp} {p:Addr} {up:Bool} {a e:V} (h:TkA t H p up a e) (s:Same H H'):TkA t H' p up a e:=by
 obtain⟨dx,fs,hp,r⟩:=h
 exact⟨dx,fs,s _ _ hp,r⟩
theorem TkA.ok {t:Adr} {H:Hp} {p:Addr} {up:Bool} {a e:V} (h:TkA t H p up a e):if up=true then okU a e else okD a e:=by
 obtain⟨dx,fs,hp,tf,ok⟩:=h
 exact ok
theorem As {up:Bool} {a:V} {ks:List Int} {z:Int} (h:z∈oo up a ks):z∈ks:=by
 unfold oo at h
 split at h
 ·exact(QB.mp h).1
 ·exact ZP.mp (QB.mp h).1
 ·exact ZP.mp (QB.mp h).1
theorem At {up:Bool} {a:V} {ks:List Int}:(oo up a ks).length≤ks.length:=by
 unfold oo
 split
 ·exact Qn _ _
 ·exact QK (Qn _ _) (Zk QX)
 ·exact QK (Qn _ _) (Zk QX)
theorem dHK {t:Adr} {up:Bool}:DOr (D1 t.cK (cv t)) (D1 t.bW (bT t)) (if up=true then t.cK else t.bW) (if up=true then cv t else bT t):=by
 cases up
 ·exact .inr ⟨rfl,rfl⟩
 ·exact .inl ⟨rfl,rfl⟩
theorem CW {t:Adr} {up:Bool} {k:Int} {a e:V} {p dx:Addr} {fs:List (Str×V)} {H:Hp} {Q:VK} {E:XK} (h:H p=some (.ins (if up=true then t.cK else t.bW) dx fs)) (f:u0 (if up=true then "up" else "down") fs a e) (ok:if up=true then okU a e else okD a e) (h0:0≤k)
  (q:∀H',Same H H'→Q (.bl (hK up a e k)) H'):(if up=true then cv t else bT t) [.ref p,.int k] H Q E:=by
 cases up
 ·exact⟨p,dx,fs,a,e,k,rfl,h,f,ok,h0,q⟩
 ·exact⟨p,dx,fs,a,e,k,rfl,h,f,ok,h0,q⟩
def oN (K:PySem.W.Frag) (t:Adr):Sp:=λvs H Q _=>∃(l p:Addr) (n:Int) (up:Bool) (a e:V) (F:Addr→Prop) (ks:List Int),vs=[.ref l,.ref p,.int n]∧LvA K t H l F ks∧TkA t H p up a e∧ks.length<4096∧(∀k∈ks,0≤k)∧
 ∀(H':Hp) (r g:Addr) (v:V),Same H H'→H r=none→H g=none→H' r=some (.tup [.ref g,v])→H' g=some (.lst (((cO up a e ks).take n.toNat).map V.int))→NxK t H H' p up e (cO up a e ks) n.toNat v→Q (.ref r) H'
theorem oW (T:Txt K mg t):FnOk P w K mg base CX0 6 t.jU t.fP ["leaves","token","many"] (oN K t):=by
 have J0:= @fH P w K mg base t T
 have Y3:= @iK P w K mg base t T
 have Ym:= @uD P w K mg base t T
 have Yv:= @oU P w K mg base t T
 refine T.rp.ok sc_keys_of_page (λvs H Q E h=>?_) (λcdv A outer s H vs Q E hr h=>?_)
 ·obtain⟨l,p,n,up,a,e,F,ks,rfl,_⟩:=h
  rfl
 ·obtain⟨l,p,n,up,a,e,F,ks,rfl,L,TK,l1,k0,q⟩:=h
  refine⟨_,(ac (ar (i:=3) sc_keys_of_page.nd rfl (Or.inl rfl) (az (tQ rfl) (by rfl) T.Fe Bs (aa (pv 2) (aa af ah))))
   (ac (Aj (i:=4) rfl (CScope.of (M:=["key"]) (N:=["leaves","token","many","most","held","page"]) (N':=["leaves","token","many","most","held","page"]) (dsc:=ak dg) rfl rfl (by decide+kernel)) (cU (aJ Ym (hr.mono (by decide)) (by rfl) T.DH T.wA.kp T.DO .nil aD (aa (pv 0) (aa (pv 1) (aa (am bq (pv 3) af) ah))))) (λ_ _ _ _ _=>(bY (jx (kk:=1) (e7 (bP T.eP T.gh Y3 T.gi (by decide)) (bP T.bS T.dZ J0 T.d9 (by decide))) (hr.mono (by decide)) (pv 2) (aa (pv 0) ah)))) (λ_ _ _ _ _=>(pv 0)) sc_keys_of_page.nd rfl rfl)
   (ac (ar (i:=5) sc_keys_of_page.nd rfl (Or.inl rfl) (eh fZ (pv 4) iJ (eV (pv 3))))
   (ac (aR (au bL (az aA (by rfl) T.bC aZ (aa (pv 4) ah)) (az aA (by rfl) T.bC aZ (aa (pv 5) ah)) (aq _))
   (ai (aF (bM (aa (pv 5) (aa b6 ah)))))
   aE)
   (ac (aR (au bL (az aA (by rfl) T.bC aZ (aa (pv 5) ah)) af (aq _))
   (ai (aF (bM (aa (pv 5) (aa (pv 1) ah)))))
   aE)
   (ai (aF (bM (aa (pv 5) (aa (aJ Yv (hr.mono (by decide)) (by rfl) T.AD T.rh.kp T.Bt .nil aD (aa (pv 1) (aa (aU aN (pv 5) (xX uf af) (λ_ _=>rfl)) ah))) ah))))))))))
   ,?_⟩
  have RK:=L.rise
  refine⟨_,rfl,n,0,rfl,?_⟩
  obtain⟨m,em⟩:∃m:Nat,n.toNat=m:=⟨_,rfl⟩
  have e0:(if(0:Int)>n then(0:Int)else n)=(m:Int):=by
   rw[←em]
   split<;>omega
  rw[e0]
  rw[em]at q
  have ok:=TK.ok
  refine⟨_,rfl,_,rfl,_,rfl,_,_,rfl,rfl,l,p,(m:Int)+1,up,a,e,F,ks,rfl,L,TK,l1,by omega,λH1 g1 s1 ng1 h1=>?_⟩
  rw[show((m:Int)+1).toNat=m+1 by omega]at h1
  obtain⟨ns,ens⟩:∃ns,(oo up a ks).take (m+1)=ns:=⟨_,rfl⟩
  have fl:=y9 (n:=m+1) ok RK
  rw[ens]at h1 fl
  have nl:ns.length≤4096:=by
   rw[←ens]
   have h1:=At (up:=up) (a:=a) (ks:=ks)
   rw[Q7]
   omega
  have n0:∀z∈ns,0≤z:=λz hz=>k0 z (As (Z4 (ens▸hz)))
  refine⟨g1,rfl,⟨_,SqL.of h1⟩,λD hD=>?_⟩
  refine i5 (K:=K) (a:=g1) (xs:=ns.map V.int) (λi ys H2=>Same H1 H2∧ys=((ns.take i).filter (hK up a e)).map V.int) ⟨aj hD,rfl⟩ (λi ys H2 _ w=>SqL.of (w.1 _ _ h1)) (λi x ys H2 hx w hDD=>?_) (λys H2 w hDD=>?_)
  ·obtain⟨s2,ey⟩:=w
   have hi:i<(ns.map V.int).length:=(Q2.mp hx).1
   obtain⟨g,rfl,eg⟩:=yo hx
   obtain⟨dx,fs,hp,tf,_⟩:=TK.same (s1.trans s2)
   have fl2:=Be (hK up a e) ns i
   refine⟨_,rfl,p,_,dx,fs,_,rfl,hp,tf.ho,dHK,_,rfl,CW hp tf ok (n0 g (Q1 eg)) λH3 s3=>⟨_,rfl,?_⟩⟩
   by_cases c:hK up a e g=true
   ·rw[c]
    refine cC ⟨_,rfl,CNext.mk hi (s3 _ _ hDD) (bi (by rw[ey,Q0];omega)) ⟨bU (s2.trans s3) hD,?_⟩⟩
    rw[ey,tI eg,if_pos c,Q9]
    rfl
   ·rw[QR.mpr c]
    refine cX (CSkip.mk hi (s3 _ _ hDD) ⟨s2.trans s3,?_⟩)
    rw[ey,tI eg,if_neg c,ZF]
  obtain⟨s2,ey⟩:=w
  rw[ey,Q0,QJ,fl]at hDD
  clear ey h1 ens fl nl n0
  have s12:=s1.trans s2
  obtain⟨hs,ehs⟩:∃hs,cO up a e ks=hs:=⟨_,rfl⟩
  rw[ehs]at hDD q
  refine⟨_,rfl,_,rfl,(m:Int),rfl,D,_,rfl,SqL.of hDD,λg ng=>?_⟩
  rw[jQ (Xq m),←Zn,show((m:Int)).toNat=m by omega,List.take_take,Xd (Zs m)]
  have ng2:H g=none:=d7 s12 ng
  have hg:upd H2 g (.lst ((hs.take m).map V.int)) g=some (.lst ((hs.take m).map V.int)):=ag
  have hDg:upd H2 g (.lst ((hs.take m).map V.int)) D=some (.lst ((hs.take (m+1)).map V.int)):=by rw[ae (al hDD ng)];exact hDD
  have s3:=s12.trans (aj (o:= .lst ((hs.take m).map V.int)) ng)
  generalize upd H2 g (.lst ((hs.take m).map V.int))=H3 at hg hDg s3⊢
  clear hDD ng s2 s12 s1 hD
  refine⟨_,rfl,D,_,rfl,.inl (SqL.of hDg),_,rfl,g,_,rfl,.inl (SqL.of hg),rfl,_,rfl,?_⟩
  by_cases c:hs.length≤m
  ·refine eY ?_ ⟨_,rfl,(by show 2≤sizeLine;decide),λr nr=>?_⟩
   ·rw[Qz (by omega),Qz c]
   ·refine q _ r g .non (s3.trans (aj nr)) (d7 s3 nr) ng2 ag (by rw[ae (al hg nr)];exact hg) ?_
    unfold NxK
    rw[if_pos c]
  refine bg ?_ ?_
  ·intro z
   have z:=V.int.inj z
   rw[Q0,Q0,Q7,Q7]at z
   omega
  refine⟨_,rfl,g,_,rfl,.inl (SqL.of hg),rfl,_,rfl,?_⟩
  by_cases d:m=0
  ·refine eY ?_ ⟨_,rfl,_,rfl,(by show 2≤sizeLine;decide),λr nr=>?_⟩
   ·rw[d]
    rfl
   ·refine q _ r g (.ref p) (s3.trans (aj nr)) (d7 s3 nr) ng2 ag (by rw[ae (al hg nr)];exact hg) ?_
    unfold NxK
    rw[if_neg c,if_pos d]
  refine bg ?_ ?_
  ·intro z
   have z:=V.int.inj z
   rw[Q0,Q7]at z
   omega
  obtain⟨k,ek⟩:∃k,hs[m-1]?=some k:=⟨_,Q3 (by omega)⟩
  obtain⟨k',ek'⟩:∃k',hs[m-1+1]?=some k':=⟨_,Q3 (by omega)⟩
  have ob:=y4 ok RK (ehs▸ek) (ehs▸ek')
  refine⟨_,rfl,_,rfl,_,rfl,_,rfl,g,_,_,.int k,rfl,rfl,SqL.of hg,?_,p,up,a,e,k,rfl,TK.same s3,ob,λH4 b s4 nb TK4=>⟨(by show 2≤sizeLine;decide),λr nr=>?_⟩⟩
  ·refine yF (λz=>?_) ?_
   ·have:=congrArg List.length z
    rw[Q7]at this
    have:([]:List Int).length=0:=rfl
    omega
   ·rw[Q7,Xd (by omega),X5 (by omega)]
    exact ek
  refine q _ r g (.ref b) ((s3.trans s4).trans (aj nr)) (d7 (s3.trans s4) nr) ng2 ag (by rw[ae (al (s4 _ _ hg) nr)];exact s4 _ _ hg) ?_
  unfold NxK
  rw[if_neg c,if_neg d]
  exact⟨b,k,ek,rfl,d7 s3 nb,TK4.same (aj nr)⟩
def rM (K:PySem.W.Frag) (t:Adr):Sp:=λvs H Q _=>∃(a:Addr) (k:Int) (v:V) (F:Addr→Prop) (x:HSt),vs=[.ref a,.int k]∧HoA K t H a F x∧0≤k∧aL x.st.kv k=some v∧∀H' F',HoA K t H' a F' x→Fr F F' H H'→Q v H'
theorem si (T:Txt K mg t):FnOk P w K mg base CX0 5 t.mW t.i4 ["self","key"] (rM K t):=by
 have Jt:= @sd P w K mg base t T
 refine T.Dp.ok rS (λvs H Q E h=>?_) (λcdv A outer s H vs Q E hr h=>?_)
 ·obtain⟨a,k,v,F,x,rfl,_⟩:=h
  rfl
 ·obtain⟨a,k,v,F,x,rfl,A,k0,ev,q⟩:=h
  refine⟨_,(ai (aF (aV (aC (pv 0) rfl) T.aB T.CN Jt (hr.mono (by decide)) T.Dg .nil aD (aa (pv 1) ah))))
   ,?_⟩
  obtain⟨s,l,wr,p,h,Fs,Fl,B,O,g⟩:=A
  obtain⟨dx,ho⟩:=B.o.ob
  obtain⟨ds,fs,hs,hm⟩:=B.sl.ins
  refine⟨_,rfl,a,_,dx,_,_,rfl,ho,T.aY,T.cr,qM,s,ds,fs,rfl,hs,hm _ (by decide+kernel),_,rfl,s,k,Fs,x.st,rfl,B.sl,k0,λv' ev' H1 Fs1 S1 f1=>?_,λz=>by rw[ev]at z;cases z⟩
  rw[ev]at ev'
  cases ev'
  obtain⟨B1,g1⟩:=B.slots S1 f1
  exact q H1 (HoF a wr p h Fs1 Fl x.pa) ⟨s,l,wr,p,h,Fs1,Fl,B1,O,λ_=>Iff.rfl⟩ λb o n e=>g1 b o (λz=>n ((g b).mpr z)) e
def NxH (t:Adr) (H H':Hp) (F':Addr→Prop) (p:Addr) (up:Bool) (e:V) (hs:List Int) (m:Nat) (v:V):Prop:=if hs.length≤m then v= .non else if m=0 then v= .ref p else ∃(q:Addr) (k:Int),hs[m-1]?=some k∧v= .ref q∧H q=none∧¬F' q∧TkA t H' q up (.int (if up=true then k+1 else k-1)) e
def Ed (K:PySem.W.Frag) (t:Adr) (more:List V):Sp:=λvs H Q _=>∃(a p:Addr) (n:Int) (up:Bool) (av e:V) (F:Addr→Prop) (x:HSt),vs=[.ref a,.ref p,.int n]++more∧HoA K t H a F x∧TkA t H p up av e∧¬F p∧x.ks.length<4096∧(∀k∈x.ks,0≤k)∧
 ∀(H':Hp) (F':Addr→Prop) (r g:Addr) (v:V) (ts:List Tp),HoA K t H' a F' x→Fr F F' H H'→PgA H H' F F' r g v ts→ts.map (·.k)=(cO up av e x.ks).take n.toNat→(∀e∈ts,aL x.st.kv e.k=some e.v)→NxH t H H' F' p up e (cO up av e x.ks) n.toNat v→Q (.ref r) H'
def i8 (K:PySem.W.Frag) (t:Adr):Sp:=Ed K t []
theorem HoA.lvs {K:PySem.W.Frag} {t:Adr} {H:Hp} {a:Addr} {F:Addr→Prop} {x:HSt} (A:HoA K t H a F x):∃(dx:Addr) (fs:List (Str×V)) (l:Addr) (Fl:Addr→Prop),H a=some (.ins t.aH dx fs)∧fs.lookup ("leaves":Str)=some (.ref l)∧LvA K t H l Fl x.ks:=by
 obtain⟨s,l,wr,p,h,Fs,Fl,B,O,g⟩:=A
 obtain⟨dx,ho⟩:=B.o.ob
 exact⟨dx,_,l,Fl,ho,xy,B.lv⟩
theorem AW {up:Bool} {a e:V} {ks:List Int} {z:Int} (h:z∈cO up a e ks):z∈ks:=by
 have h:=(QB.mp h).1
 cases up
 ·exact ZP.mp h
 ·exact h
theorem AX {up:Bool} {a e:V} {ks:List Int}:(cO up a e ks).length≤ks.length:=by
 refine QK (Qn _ _) ?_
 cases up
 ·exact Zk QX
 ·exact Q5 _
theorem oV (T:Txt K mg t):FnOk P w K mg base CX0 7 t.jT t.fO ["house","token","many"] (i8 K t):=by
 have Jb:= @si P w K mg base t T
 have Yn:= @oW P w K mg base t T
 refine T.rn.ok sc_page_by_keys (λvs H Q E h=>?_) (λcdv A outer s H vs Q E hr h=>?_)
 ·obtain⟨a,p,n,up,av,e,F,x,rfl,_⟩:=h
  rfl
 ·obtain⟨a,p,n,up,av,e,F,x,rfl,A,TK,np,l1,k0,q⟩:=h
  refine⟨_,(ac (ar (i:=3) sc_page_by_keys.nd rfl (Or.inl rfl) (aJ Yn (hr.mono (by decide)) (by rfl) T.AF T.rp.kp T.Bv .nil aD (aa (aC (pv 0) rfl) (aa (pv 1) (aa (pv 2) ah)))))
   (ai (aF (bM (aa (gc rfl (CScope.of (M:=["key"]) (N:=["house","token","many","page"]) (N':=["house","token","many","page"]) (dsc:=ak de) rfl rfl (by decide+kernel)) (cU (aU dw (pv 3) af (λ_ _=>rfl))) (λ_ _ _ _ _=>(bM (aa (pv 0) (aa (aV (pv 1) T.aY T.CP Jb (hr.mono (by decide)) T.Di .nil aD (aa (pv 0) ah)) ah))))) (aa (aU dw (pv 3) af (λ_ _=>rfl)) ah))))))
   ,?_⟩
  obtain⟨dx,fs,l,Fl,ho,hl,L⟩:=A.lvs
  refine⟨_,rfl,a,_,dx,fs,_,rfl,ho,T.aY,T.eG,hl,_,rfl,_,rfl,l,p,n,up,av,e,Fl,x.ks,rfl,L,TK,l1,k0,λH1 r1 g1 v s1 nr1 ng1 hr1 hg1 nx=>?_⟩
  have A1:=A.same s1
  have f1:Fr F F H H1:=Fr.of_same s1
  clear TK
  obtain⟨pk,epk⟩:∃pk,(cO up av e x.ks).take n.toNat=pk:=⟨_,rfl⟩
  have pm:∀z∈pk,z∈x.ks:=λz hz=>AW (Z4 (epk▸hz))
  have pl:pk.length≤4096:=by
   have:=AX (up:=up) (a:=av) (e:=e) (ks:=x.ks)
   rw[←epk,Q7]
   omega
  rw[epk]at hg1 q
  refine⟨_,rfl,r1,_,_,_,rfl,rfl,SqT.of hr1,rfl,g1,rfl,⟨_,SqL.of hg1⟩,λD hD=>?_⟩
  refine ig (K:=K) (a:=g1) (xs:=pk.map V.int) (λi ys H2=>∃(F2:Addr→Prop) (ts:List Tp),HoA K t H2 a F2 x∧Fr F F2 H1 H2∧¬F2 D∧ys=ts.map (λe=>V.ref e.p)∧ts.map (·.k)=pk.take i∧∀e∈ts,H2 e.p=some (.tup [.int e.k,e.v])∧¬F2 e.p∧aL x.st.kv e.k=some e.v) ⟨F,[],A1.same (aj hD),Fr.of_same (aj hD),A1.out hD,rfl,rfl,λe he=>absurd he QZ⟩ (λi ys H2 _ w=>?_) (λi y ys H2 hy w hDD=>?_) (λys H2 w hDD=>?_)
  ·obtain⟨F2,ts,A2,f2,_⟩:=w
   exact SqL.of (f2 _ _ (A.out ng1) hg1).1
  ·obtain⟨F2,ts,A2,f2,nD,ey,ek,tu⟩:=w
   have hi:i<(pk.map V.int).length:=(Q2.mp hy).1
   obtain⟨k,rfl,hk⟩:=yo hy
   have km:=pm k (Q1 hk)
   obtain⟨v2,ev2⟩:=X4.mp ((A1.ok.ks k).mp km)
   obtain⟨d2,fs2,hi2,hm2,_⟩:=A2.ins
   refine⟨_,rfl,_,rfl,a,d2,fs2,rfl,hi2,hm2 _ (by decide+kernel),_,rfl,a,k,v2,F2,x,rfl,A2,k0 k km,ev2,λH3 F3 A3 f3=>⟨(by show 2≤sizeLine;decide),λb nb=>?_⟩⟩
   obtain⟨hD3,nD3⟩:=f3 _ _ nD hDD
   have sb:Same H3 (upd H3 b (.tup [.int k,v2])):=aj nb
   have hb:upd H3 b (.tup [.int k,v2]) b=some (.tup [.int k,v2]):=ag
   generalize upd H3 b (.tup [.int k,v2])=H4 at sb hb⊢
   have A4:=A3.same sb
   have nF3:=A3.out nb
   have f4:Fr F F3 H1 H4:=f2.trans (f3.trans (Fr.of_same sb))
   have hD4:=sb _ _ hD3
   have tl:ts.length≤4096:=by
    have:=congrArg List.length ek
    rw[Q0,Q7]at this
    omega
   refine CNext.mk hi hD4 (bi (by rw[ey,Q0];omega)) ⟨F3,ts++ [⟨b,k,v2⟩],A4.upd nD3 (λxs z=>by rw[hD4]at z;cases z),λc o n e=>⟨by rw[ae (al e hD)];exact(f4 c o n e).1,(f4 c o n e).2⟩,nD3,by rw[ey,Q9];rfl,by rw[Q9,ek,Qr,hk];rfl,λe he=>?_⟩
   have key:H4 e.p=some (.tup [.int e.k,e.v])∧¬F3 e.p∧aL x.st.kv e.k=some e.v:=by
    rcases Q4.mp he with he|he
    ·obtain⟨t1,t2,t3⟩:=tu e he
     obtain⟨t4,t5⟩:=f3 _ _ t2 t1
     exact⟨sb _ _ t4,t5,t3⟩
    ·rw[Qb.mp he]
     exact⟨hb,nF3,ev2⟩
   refine⟨?_,key.2⟩
   rw[ae (λz=>by rw[z,hD4]at key;cases key.1)]
   exact key.1
  obtain⟨F2,ts,A2,f2,nD,ey,ek,tu⟩:=w
  rw[ey]at hDD
  rw[Q0,QJ]at ek
  have hr2:=f2 _ _ (A.out nr1) hr1
  refine⟨_,rfl,r1,_,_,_,rfl,rfl,SqT.of hr2.1,rfl,(by show 2≤sizeLine;decide),λr nr=>?_⟩
  have s3:Same H2 (upd H2 r (.tup [.ref D,v])):=aj nr
  have hr:upd H2 r (.tup [.ref D,v]) r=some (.tup [.ref D,v]):=ag
  have nF:=A2.out nr
  generalize upd H2 r (.tup [.ref D,v])=H3 at s3 hr⊢
  have f3:Fr F F2 H H3:=f1.trans (f2.trans (Fr.of_same s3))
  refine q H3 F2 r D v ts (A2.same s3) f3 ⟨hr,s3 _ _ hDD,λe he=>⟨s3 _ _ (tu e he).1,(tu e he).2.1⟩,⟨λz=>?_,nF⟩,⟨λ_=>d7 s1 hD,nD⟩⟩ ek (λe he=>(tu e he).2.2) ?_
  ·cases eo:H r with
   |none=>rfl
   |some o=>rw[((f1.trans f2) _ _ z eo).1]at nr;cases nr
  ·unfold NxK at nx
   unfold NxH
   by_cases c:(cO up av e x.ks).length≤n.toNat
   ·rw[if_pos c]at nx⊢
    exact nx
   ·rw[if_neg c]at nx⊢
    by_cases d:n.toNat=0
    ·rw[if_pos d]at nx⊢
     exact nx
    ·rw[if_neg d]at nx⊢
     obtain⟨b,k,ek,ev,nb,dy,fy,hy,ry⟩:=nx
     obtain⟨h2,n2⟩:=f2 _ _ (A.out nb) hy
     exact⟨b,k,ek,ev,nb,n2,dy,fy,s3 _ _ h2,ry⟩
def rA (W j r:Int):Int:=if j<(r/W+1)*W then j else(r/W+1)*W
def aX (W j i:Int):Nat→Int
 |0=>i
 |n+1=>rA W j (aX W j i n)
theorem z8 {W j r:Int} (W0:0<W) (h:r<j):r<rA W j r∧rA W j r≤j:=by
 have:=ZW r W0
 unfold rA
 split<;>omega
theorem mh {W j i:Int} (W0:0<W) (h:i≤j):∀n:Nat,(∀x<n,aX W j i x<j)→i≤aX W j i n∧aX W j i n≤j∧(0<n→rA W j i≤aX W j i n)
 |0,_=>⟨Zy _,h,λz=>absurd z (by decide)⟩
 |n+1,w=>by
  obtain⟨a,b,c⟩:=mh W0 h n λx hx=>w x (by omega)
  obtain⟨d,e⟩:=z8 W0 (w n (by omega))
  refine⟨show i≤rA W j (aX W j i n) by omega,e,λ_=>?_⟩
  cases n with
  |zero=>exact Zy _
  |succ m=>exact Int.le_trans (c (by omega)) (Xv d)
structure RwS (st:SSt) (lo hi:Int) (ps:List (Int×V)):Prop where
 so:ps.Pairwise xf
 me:∀k v,(k,v)∈ps↔(k,v)∈st.kv∧lo≤plc k∧plc k<hi
theorem RwS.app {st:SSt} {lo m hi:Int} {ps qs:List (Int×V)} (h:RwS st lo m ps) (g:RwS st m hi qs) (l1:lo≤m) (l2:m≤hi):RwS st lo hi (ps++qs):=by
 refine⟨Qk.mpr ⟨h.so,g.so,λx hx y hy=> .inl ?_⟩,λk v=>?_⟩
 ·have a:=((h.me x.1 x.2).mp hx).2
  have b:=((g.me y.1 y.2).mp hy).2
  omega
 ·rw[Q4,h.me,g.me]
  constructor
  ·rintro (⟨x,y,z⟩|⟨x,y,z⟩)
   ·exact⟨x,y,by omega⟩
   ·exact⟨x,by omega,z⟩
  ·rintro ⟨x,y,z⟩
   by_cases d:plc k<m
   ·exact .inl ⟨x,y,d⟩
   ·exact .inr ⟨x,by omega,z⟩
theorem RwS.uniq {st:SSt} {lo hi:Int} {ps qs:List (Int×V)} (h:RwS st lo hi ps) (g:RwS st lo hi qs):ps=qs:=by
 have nd:∀{l:List (Int×V)},l.Pairwise xf→l.Nodup:=λw=>w.imp λ{a b} z e=>by
  rw[e]at z
  unfold xf at z
  omega
 refine List.Perm.eq_of_pairwise (λx y _ _ h1 h2=>?_) h.so g.so ((XW (nd h.so) (nd g.so)).mpr λx=>(h.me x.1 x.2).trans (g.me x.1 x.2).symm)
 unfold xf at h1 h2
 omega
theorem RwS.len {st:SSt} {lo hi:Int} {ps:List (Int×V)} (h:RwS st lo hi ps):ps.length≤st.kv.length:=by
 refine hJ (h.so.imp λ{a b} z e=>?_) λx hx=>((h.me x.1 x.2).mp hx).1
 rw[e]at z
 unfold xf at z
 omega
structure PgS (st:SSt) (i j n:Int) (m:Nat) (ps:List (Int×V)):Prop where
 rw:RwS st i (aX (65536/st.low) j i m) ps
 go:∀x<m,aX (65536/st.low) j i x<j
 le:∀x,0<x→x<m→∀qs,RwS st i (aX (65536/st.low) j i x) qs→(qs.length:Int)<n∧(x:Int)<4*n
 st:aX (65536/st.low) j i m=j∨(0<m∧(n≤ps.length∨4*n≤m))
def TkS (t:Adr) (H:Hp) (p:Addr) (i j:Int):Prop:=∃(dx:Addr) (fs:List (Str×V)),H p=some (.ins t.aO dx fs)∧u0 "slots" fs (.int i) (.int j)∧0≤i∧i≤j∧j≤65536
theorem TkS.fr {H H':Hp} {p:Addr} {i j:Int} {F F':Addr→Prop} (h:TkS t H p i j) (n:¬F p) (f:Fr F F' H H'):TkS t H' p i j∧¬F' p:=by
 obtain⟨dx,fs,hp,r⟩:=h
 exact⟨⟨dx,fs,(f _ _ n hp).1,r⟩,(f _ _ n hp).2⟩
def NxS (t:Adr) (H H':Hp) (F F':Addr→Prop) (r j:Int) (v:V):Prop:=if r=j then v= .non else ∃q:Addr,v= .ref q∧(¬F q→H q=none)∧¬F' q∧TkS t H' q r j
def m6 (K:PySem.W.Frag) (t:Adr):Sp:=λvs H Q _=>∃(a p:Addr) (n i j:Int) (F:Addr→Prop) (st:SSt),vs=[.ref a,.ref p,.int n]∧SlA K t H a F st∧TkS t H p i j∧¬F p∧1≤n∧n≤1000∧st.kv.length<4096∧(∀p∈st.kv,∃i:Int,p.2= .int i)∧
 ∀(H':Hp) (F':Addr→Prop) (r g:Addr) (v:V) (ts:List Tp) (m:Nat),SlA K t H' a F' st→Fr F F' H H'→PgA H H' F F' r g v ts→PgS st i j n m (ts.map Tp.kv)→NxS t H H' F F' (aX (65536/st.low) j i m) j v→Q (.ref r) H'
structure WkS (K:PySem.W.Frag) (t:Adr) (H H':Hp) (a p l:Addr) (F F':Addr→Prop) (st:SSt) (i j:Int) (m:Nat) (ts:List Tp):Prop where
 sl:SlA K t H' a F' st
 fr:Fr F F' H H'
 tk:TkS t H' p i j
 np:¬F' p
 ol:¬F' l
 li:H' l=some (.lst (ts.map λe=>V.ref e.p))
 tu:∀e∈ts,H' e.p=some (.tup [.int e.k,e.v])∧¬F' e.p
 rw:RwS st i (aX (65536/st.low) j i m) (ts.map Tp.kv)
 go:∀x<m,aX (65536/st.low) j i x<j
theorem WkS.move {H H' H1:Hp} {a p l:Addr} {F F' F1:Addr→Prop} {st:SSt} {i j:Int} {m:Nat} {ts:List Tp} (h:WkS K t H H' a p l F F' st i j m ts) (s1:SlA K t H1 a F1 st) (f1:Fr F' F1 H' H1):WkS K t H H1 a p l F F1 st i j m ts:=
 ⟨s1,h.fr.trans f1,(h.tk.fr h.np f1).1,(h.tk.fr h.np f1).2,(f1 _ _ h.ol h.li).2,(f1 _ _ h.ol h.li).1,λe he=>f1 _ _ (h.tu e he).2 (h.tu e he).1,h.rw,h.go⟩
theorem nJ (T:Txt K mg t):FnOk P w K mg base CX0 5 t.i9 t.eJ ["slots","token","many"] (m6 K t):=by
 obtain⟨tk_STRETCHES_A_KEY,hSTRETCHES_A_KEY⟩:=T.yp
 have G9:= @hI P w K mg base t T
 have Y0:= @qq P w K mg base t T
 have Y1:= @jA P w K mg base t T
 refine T.o9.ok sc_page_by_slots (λvs H Q E h=>?_) (λcdv A outer s H vs Q E hr h=>?_)
 ·obtain⟨a,p,n,i,j,F,st,rfl,_⟩:=h
  rfl
 ·obtain⟨a,p,n,i,j,F,st,rfl,hA,TK,np,n1,n2,l4,iv,q⟩:=h
  refine⟨_,(ac (ar (i:=3) sc_page_by_slots.nd rfl (Or.inl rfl) (bN ah))
   (ac (ar (i:=4) sc_page_by_slots.nd rfl (Or.inl rfl) (aC (pv 1) rfl))
   (ac (ar (i:=5) sc_page_by_slots.nd rfl (Or.inl rfl) af)
   (ac (jw PassesOwn.never (au c6 (pv 4) (aC (pv 1) rfl) (aq _))
   (ac (ar (i:=6) sc_page_by_slots.nd rfl (Or.inl rfl) (az (kh rfl) (by rfl) T.vd oe (aa (aV (pv 0) T.aB T.ss Y1 (hr.mono (by decide)) T.sG .nil aD (aa (pv 4) ah)) (aa (aC (pv 1) rfl) ah))))
   (ac (aS (dH Qq ZD ZE j7 (pv 3) (aa (aV (pv 0) T.aB T.BE Y0 (hr.mono (by decide)) T.BK .nil aD (aa (pv 4) (aa (pv 6) ah))) ah)))
   (ac (ar (i:=4) sc_page_by_slots.nd rfl (Or.inl rfl) (pv 6))
   (ac (xc (i:=5) sc_page_by_slots.nd rfl (Or.inl rfl) af AR)
   (ai (aR (PW.pt (qh (au tj (az aA (by rfl) T.bC aZ (aa (pv 3) ah)) (pv 2) (aq _)) (lw (au tj (pv 5) (am cy (bE (v:= .int 4) (by rfl) hSTRETCHES_A_KEY ⟨_,rfl⟩) (pv 2)) (aq _)))))
   (ai Ak)
   aE)))))))
   (ac (aR (au bL (pv 4) (aC (pv 1) rfl) (aq _))
   (ai (aF (bM (aa (pv 3) (aa b6 ah)))))
   aE)
   (ai (aF (bM (aa (pv 3) (aa (j6 T.xn G9 (hr.mono (by decide)) (by rfl) T.fJ T.o8 .nil aD (aa (pv 4) (aa (aC (pv 1) rfl) ah))) ah))))))))))
   ,?_⟩
  have z:SzOk st:=let⟨_,_,_,_,_,z⟩:=hA;z
  obtain⟨s4,s5⟩:=bH (fL z)
  obtain⟨_,_,R⟩:=qg (fL z)
  have W0:=R.wpos'
  obtain⟨dx,fs,hp,tf,i0,ij,j1⟩:=id TK
  refine⟨Qf _,λl nl=>?_⟩
  have W1:WkS K t H (upd H l (.lst [])) a p l F F st i j 0 []:=⟨hA.new nl,Fr.of_same (aj nl),⟨dx,fs,by rw[ae (al hp nl)];exact hp,tf,i0,ij,j1⟩,np,hA.out nl,ag,(λe he=>by cases he),⟨List.Pairwise.nil,λk v=>⟨λh=>by(cases h),λh=>by have:=h.2;simp only[aX]at this;omega⟩⟩,λx hx=>absurd hx (XJ x)⟩
  refine⟨_,rfl,p,_,dx,fs,_,rfl,by rw[ae (al hp nl)];exact hp,T.br,T.gK,tf.at_,?_⟩
  (try dsimp only)
  generalize upd H l (.lst [])=H1 at W1⊢
  clear hp tf dx fs
  show Cf (zZ _ _) _ _ _ H1
  refine eU (λσ H'=>∃(F':Addr→Prop) (m:Nat) (ts:List Tp) (v6:Option V),σ=[some (.ref a),some (.ref p),some (.int n),some (.ref l),some (.int (aX (65536/st.low) j i m)),some (.int m),v6]∧WkS K t H H' a p l F F' st i j m ts∧PgS st i j n m (ts.map Tp.kv)) (λnx go=>?_) (λσ H2 w=>?_)
  ·refine⟨λmm σ H'=>∃(F':Addr→Prop) (m:Nat) (ts:List Tp) (v6:Option V),mm=(j-aX (65536/st.low) j i m).toNat∧σ=[some (.ref a),some (.ref p),some (.int n),some (.ref l),some (.int (aX (65536/st.low) j i m)),some (.int m),v6]∧WkS K t H H' a p l F F' st i j m ts∧(∀x,0<x→x≤m→∀qs,RwS st i (aX (65536/st.low) j i x) qs→(qs.length:Int)<n∧(x:Int)<4*n),⟨_,F,0,[],none,rfl,rfl,W1,λx x0 xm=>absurd x0 (by omega)⟩,λmm σ H' w=>?_⟩
   obtain⟨F',m,ts,v6,rfl,eσ,w,lt⟩:=w
   subst eσ
   obtain⟨dx,fs,hp,tf,_⟩:=id w.tk
   obtain⟨r0,r1,_⟩:=mh W0 ij m w.go
   refine⟨_,rfl,_,rfl,p,_,dx,fs,_,rfl,hp,T.br,T.bV,tf.end_,_,_,rfl,rfl,_,rfl,bB (λc=>?_) (λc=>?_)⟩
   ·have c:=of_decide_eq_true c
    obtain⟨r2,r3⟩:=z8 W0 c
    refine⟨λσ' H2=>∃(F2:Addr→Prop) (ts2:List Tp) (v6:Option V),σ'=[some (.ref a),some (.ref p),some (.int n),some (.ref l),some (.int (aX (65536/st.low) j i (m+1))),some (.int (m+1:Nat)),v6]∧WkS K t H H2 a p l F F2 st i j (m+1) ts2∧(ts2.length:Int)<n∧((m+1:Nat):Int)<4*n,λσ' H2 g=>?_,?_⟩
    ·obtain⟨F2,ts2,v6,e,w2,b1,b2⟩:=g
     refine⟨_,?_,F2,m+1,ts2,v6,rfl,e,w2,λx x0 xm qs hq=>?_⟩
     ·show(j-rA (65536/st.low) j (aX (65536/st.low) j i m)).toNat<_
      omega
     ·rcases Xr xm with xm|rfl
      ·exact lt x x0 (by omega) qs hq
      ·rw[hq.uniq w2.rw,Q0]
       exact⟨b1,b2⟩
    obtain⟨dx1,fs1,hi1,hm1⟩:=w.sl.ins
    refine⟨_,rfl,a,dx1,fs1,rfl,hi1,hm1 _ (by decide+kernel),_,rfl,a,_,F',st,rfl,w.sl,by omega,by omega,λH2 F2 s2 f2=>?_⟩
    have w2:=w.move s2 f2
    obtain⟨dx2,fs2,hp2,tf2,_⟩:=id w2.tk
    refine⟨_,rfl,p,_,dx2,fs2,_,rfl,hp2,T.br,T.bV,tf2.end_,_,_,rfl,?_⟩
    (try dsimp only)
    change oz 6 (V.int (aX (65536/st.low) j i (m+1))) _ _ _
    obtain⟨dx3,fs3,hi3,hm3⟩:=w2.sl.ins
    refine⟨_,rfl,.inl ⟨rfl,_,SqL.of w2.li⟩,_,rfl,a,dx3,fs3,rfl,hi3,hm3 _ (by decide+kernel),_,rfl,_,rfl,a,_,_,F2,st,rfl,w2.sl,l4,iv,λH3 F3 l1 ts1 s3 f3 o3 n3 e3 u3 so3 me3=>?_⟩
    have w3:=w2.move s3 f3
    have rw4:RwS st i (aX (65536/st.low) j i (m+1)) ((ts++ts1).map Tp.kv):=by
     rw[Q9]
     exact w3.rw.app ⟨so3,me3⟩ r0 (Xv r2)
    have ln:=rw4.len
    rw[Q0,Q8]at ln
    have nel:∀{p:Addr} {xs:List V},H3 p=some (.tup xs)→p≠l:=λ{p xs} e z=>by rw[z,w3.li]at e;cases e
    have w4:WkS K t H (upd H3 l (.lst (ts.map (λe=>V.ref e.p)++ts1.map (λe=>V.ref e.p)))) a p l F F3 st i j (m+1) (ts++ts1):=by
     refine⟨w3.sl.upd w3.ol,w3.fr.upd_new λ_=>nl,?_,w3.np,w3.ol,by rw[ag,Q9],λe he=>?_,rw4,λx hx=>?_⟩
     ·obtain⟨dx,fs,hp,r⟩:=w3.tk
      exact⟨dx,fs,by rw[ae λz=>by rw[z,w3.li]at hp;cases hp];exact hp,r⟩
     ·rcases Q4.mp he with he|he
      ·exact⟨by rw[ae (nel (w3.tu e he).1)];exact(w3.tu e he).1,(w3.tu e he).2⟩
      ·exact⟨by rw[ae (nel (u3 e he).1)];exact(u3 e he).1,(u3 e he).2⟩
     ·rcases Xr (Nat.le_of_lt_succ hx)with hx|rfl
      ·exact w.go x hx
      ·exact c
    refine⟨l,l1,_,_,rfl,rfl,w3.li,e3,by rw[Q0,Q0];exact Zj (bi (by omega)),?_⟩
    (try dsimp only)
    generalize upd H3 l (.lst (ts.map (λe=>V.ref e.p)++ts1.map (λe=>V.ref e.p)))=H4 at w4⊢
    have pg:(n≤((ts++ts1).length:Int)∨4*n≤((m+1:Nat):Int))→PgS st i j n (m+1) ((ts++ts1).map Tp.kv):=λo=>⟨rw4,w4.go,λx x0 xm=>lt x x0 (by omega),.inr ⟨Nat.succ_pos m,by rw[Q0];exact o⟩⟩
    refine⟨_,rfl,_,rfl,_,_,rfl,rfl,?_⟩
    (try dsimp only)
    have em:((m:Int)+1)=((m+1:Nat):Int):=by omega
    rw[em]
    refine⟨_,rfl,l,_,rfl,.inl (SqL.of w4.li),_,rfl,_,_,rfl,rfl,_,rfl,bB (λc1=>?_) (λc1=>?_)⟩
    ·have c1:=of_decide_eq_true c1
     rw[Q0]at c1
     exact cC (go _ _ ⟨F3,m+1,ts++ts1,_,rfl,w4,pg (.inl c1)⟩)
    refine⟨_,rfl,_,rfl,_,_,rfl,rfl,.inl ⟨by decide,by decide⟩,_,_,rfl,rfl,_,rfl,bB (λc2=>?_) (λc2=>?_)⟩
    ·exact go _ _ ⟨F3,m+1,ts++ts1,_,rfl,w4,pg (.inr (of_decide_eq_true c2))⟩
    ·have c1:¬n≤(((ts++ts1).map λe=>V.ref e.p).length:Int):=λy=>c1 (decide_eq_true y)
     have c2:¬4*n≤((m+1:Nat):Int):=λy=>c2 (decide_eq_true y)
     rw[Q0]at c1
     exact⟨F3,ts++ts1,_,rfl,w4,by omega,by omega⟩
   ·have c:¬aX (65536/st.low) j i m<j:=λy=>c (decide_eq_true y)
    exact go _ _ ⟨F',m,ts,v6,rfl,w,w.rw,w.go,λx x0 xm=>lt x x0 (by omega),.inl (by omega)⟩
  obtain⟨F2,m,ts,v6,rfl,w,pg⟩:=w
  obtain⟨r0,r1,_⟩:=mh W0 ij m w.go
  obtain⟨dx,fs,hp,tf,_⟩:=id w.tk
  refine⟨_,rfl,_,rfl,p,_,dx,fs,_,rfl,hp,T.br,T.bV,tf.end_,rfl,_,rfl,bB (λc=>?_) (λc=>?_)⟩
  ·have c:aX (65536/st.low) j i m=j:=V.int.inj (of_decide_eq_true c)
   refine⟨_,rfl,(by show 2≤sizeLine;decide),λr nr=>?_⟩
   have s5:=aj (o:= .tup [.ref l,.non]) nr
   refine q _ F2 r l .non ts m (w.sl.new nr) (w.fr.trans (Fr.of_same s5)) ⟨ag,s5 _ _ w.li,λe he=>⟨s5 _ _ (w.tu e he).1,(w.tu e he).2⟩,⟨λnF=>mG w.fr nF nr,w.sl.out nr⟩,⟨λ_=>nl,w.ol⟩⟩ pg ?_
   unfold NxS
   rw[if_pos c]
  ·have c:¬aX (65536/st.low) j i m=j:=λz=>c (decide_eq_true (by rw[z]))
   have ok:okS (.int (aX (65536/st.low) j i m)) (.int j):=⟨_,_,rfl,rfl,by omega,by omega,j1⟩
   refine⟨_,rfl,_,rfl,_,rfl,p,_,dx,fs,_,rfl,hp,T.br,T.bV,tf.end_,λx dr nx nd nxd=>?_⟩
   refine⟨x,dr,_,_,rfl,ag,T0 _,T0 _,λ_ H' fs' kp' h' tf'=>⟨rfl,(by show 2≤sizeLine;decide),λr nr=>?_⟩,λz=>absurd ok z⟩
   have s5:Same H2 (upd H' r (.tup [.ref l,.ref x])):=(m9 nx nd kp').trans (aj nr)
   have nr2:H2 r=none:=d7 (m9 nx nd kp') nr
   have xr:x≠r:=λz=>by rw[z,nr]at h';cases h'
   refine q _ F2 r l (.ref x) ts m (w.sl.same s5) (w.fr.trans (Fr.of_same s5)) ⟨ag,s5 _ _ w.li,λe he=>⟨s5 _ _ (w.tu e he).1,(w.tu e he).2⟩,⟨λnF=>mG w.fr nF nr2,w.sl.out nr2⟩,⟨λ_=>nl,w.ol⟩⟩ pg ?_
   unfold NxS
   rw[if_neg c]
   exact⟨x,rfl,λnF=>mG w.fr nF nx,w.sl.out nx,dr,fs',by rw[ae xr];exact h',tf',by omega,by omega,j1⟩
theorem HoB.newb {H:Hp} {a s l w p h:Addr} {Fs Fs' Fl:Addr→Prop} {x:HSt} {b:Addr} (B:HoB K t H a s l w p h Fs Fl x) (n:¬Fs b→H b=none) (n':¬Fs' b):¬HoF a w p h Fs' Fl x.pa b:=λz=>by
 rcases z with z|z|z
 ·exact n' z
 ·obtain⟨o,e⟩:=B.lv.dom z
  rw[n λy=>B.a1 b y z]at e
  cases e
 ·obtain⟨o,e,_⟩:=B.o.dom z
  rw[n (B.a2 b z)]at e
  cases e
def inI:V→Int
 | .int i=>i|_=>0
structure Fb (t:Adr) (H':Hp) (F':Addr→Prop) (st:SSt) (kd n:Int) (av e v:V) (ts:List Tp) (a':V) (R:Int→Bool):Prop where
 rest:(v= .non∧R=λ_=>false)∨∃q:Addr,v= .ref q∧TkAt t H' q kd a' e∧okN kd a' e∧¬F' q∧R=hN kd a' e∧(kd=0→inI av≤inI a')
 less:∀k,0≤k→R k=true→hN kd av e k=true
 nd:(ts.map (·.k)).Nodup
 me:∀k v,(k,v)∈ts.map Tp.kv↔(k,v)∈st.kv∧hN kd av e k=true∧R k=false
 far:v= .non∨n≤ts.length∨(kd=0∧inI av/(65536/st.low)+4*n≤inI a'/(65536/st.low))
theorem sU {W j i:Int} (W0:0<W):∀m:Nat,(∀x≤m,aX W j i x≠j)→aX W j i m/W=i/W+m
 |0,_=>(Int.add_zero _).symm
 |m+1,h=>by
  have ih:=sU W0 m λx hx=>h x (by omega)
  have e:aX W j i (m+1)=(aX W j i m/W+1)*W:=by
   have:=h (m+1) (Q5 _)
   show rA W j (aX W j i m)=_
   change rA W j (aX W j i m)≠j at this
   unfold rA at this⊢
   split
   ·rw[if_pos (by assumption)]at this
    exact absurd rfl this
   ·rfl
  rw[e,Int.mul_ediv_cancel _ (QS W0),ih]
  omega
theorem uO {i j k:Int}:hN 0 (.int i) (.int j) k=true↔i≤plc k∧plc k<j:=by
 show(decide (i≤tz (k%65536))&&decide (tz (k%65536)<j))=true↔_
 rw[QI,decide_eq_true_eq,decide_eq_true_eq]
 exact Iff.rfl
theorem xI {t:Adr} {H H':Hp} {F F':Addr→Prop} {st:SSt} {n i j:Int} {m:Nat} {v:V} {ts:List Tp} (W0:0<65536/st.low) (i0:0≤i) (ij:i≤j) (g:PgS st i j n m (ts.map Tp.kv)) (x:NxS t H H' F F' (aX (65536/st.low) j i m) j v):∃a' R,Fb t H' F' st 0 n (.int i) (.int j) v ts a' R:=by
 obtain⟨r1,r2,_⟩:=mh W0 ij m g.go
 have nd:(ts.map (·.k)).Nodup:=by
  refine QD.mpr ((QD.mp g.rw.so).imp λ{a b} h e=>?_)
  have h:plc a.k<plc b.k∨(plc a.k=plc b.k∧a.k<b.k):=h
  rw[e]at h
  omega
 unfold NxS at x
 by_cases ej:aX (65536/st.low) j i m=j
 ·rw[if_pos ej]at x
  refine⟨.non,λ_=>false,.inl ⟨x,rfl⟩,λk _ h=>absurd h Qe,nd,λk v=>?_,.inl x⟩
  rw[g.rw.me,ej,uO]
  exact⟨λh=>⟨h.1,h.2,rfl⟩,λh=>⟨h.1,h.2.1⟩⟩
 ·rw[if_neg ej]at x
  obtain⟨q,ev,_,nq,dx,fs,hq,tf,q0,q1,q2⟩:=x
  refine⟨_,hN 0 (.int (aX (65536/st.low) j i m)) (.int j),.inr ⟨q,ev,⟨dx,fs,hq,tf⟩,.inl ⟨rfl,_,_,rfl,rfl,q0,q1,q2⟩,nq,rfl,λ_=>r1⟩,λk _ h=>?_,nd,λk v=>?_,?_⟩
  ·rw[uO]at h⊢
   omega
  ·rw[g.rw.me,uO,←Bool.not_eq_true,uO]
   constructor
   ·rintro ⟨h1,h2,h3⟩
    exact⟨h1,⟨h2,by omega⟩,by omega⟩
   ·rintro ⟨h1,⟨h2,h3⟩,h4⟩
    exact⟨h1,h2,by omega⟩
  ·rcases g.st with z|⟨_,z|z⟩
   ·exact absurd z ej
   ·rw[Q0]at z
    exact .inr (.inl z)
   ·refine .inr (.inr ⟨rfl,?_⟩)
    have ne:∀x≤m,aX (65536/st.low) j i x≠j:=λx hx=>by
     rcases Xr hx with h|rfl
     ·have:=g.go x h
      omega
     ·exact ej
    show i/(65536/st.low)+4*n≤aX (65536/st.low) j i m/(65536/st.low)
    rw[sU W0 m ne]
    omega
def rV (up:Bool) (x y:Int):Prop:=if up=true then x<y else y<x
theorem AV {up:Bool} {a e:V} {ks:List Int} (r:cP ks):(cO up a e ks).Pairwise (rV up):=by
 unfold cO rV
 cases up
 ·exact List.Pairwise.filter _ (Xh.mpr r)
 ·exact List.Pairwise.filter _ r
theorem held_iff {up:Bool} {a e:V} {ks:List Int} {z:Int}:z∈cO up a e ks↔z∈ks∧hK up a e z=true:=by
 unfold cO
 rw[QB]
 cases up
 ·rw[if_neg Qe,ZP]
 ·rw[if_pos rfl]
theorem zW {up:Bool} {l:List Int} {m:Nat} {k z:Int} (r:l.Pairwise (rV up)) (h:l[m-1]?=some k) (m1:1≤m):z∈l.take m↔z∈l∧(z=k∨rV up z k):=by
 have w:=QT.mp r
 obtain⟨hk,ek⟩:=Q2.mp h
 have as:∀{x y:Int},rV up x y→¬(y=x∨rV up y x):=λ{x y} h1 h2=>by
  unfold rV at h1 h2
  cases up
  ·rw[if_neg Qe]at h1 h2
   omega
  ·rw[if_pos rfl]at h1 h2
   omega
 constructor
 ·intro hz
  obtain⟨i,hi,e⟩:=Qy hz
  rw[Q7]at hi
  rw[Zl]at e
  refine⟨Z4 hz,?_⟩
  rcases Nat.lt_or_ge i (m-1)with c|c
  ·have:=w i (m-1) (by omega) hk c
   rw[e,ek]at this
   exact .inr this
  ·have:i=m-1:=by omega
   subst this
   exact .inl (e.symm.trans ek)
 ·rintro ⟨hz,o⟩
  obtain⟨i,hi,rfl⟩:=Qy hz
  rcases Nat.lt_or_ge i m with c|c
  ·exact List.mem_take_iff_getElem.mpr ⟨i,by omega,rfl⟩
  ·have:=w (m-1) i hk hi (by omega)
   rw[ek]at this
   exact absurd o (as this)
theorem D5 {t:Adr} {H:Hp} {p:Addr} {up:Bool} {a e:V} (h:TkA t H p up a e):TkAt t H p (if up=true then 1 else 2) a e∧okN (if up=true then 1 else 2) a e:=by
 obtain⟨dx,fs,hp,tf,ok⟩:=h
 cases up
 ·exact⟨⟨dx,fs,hp,tf⟩,.inr (.inr ⟨rfl,ok⟩)⟩
 ·exact⟨⟨dx,fs,hp,tf⟩,.inr (.inl ⟨rfl,ok⟩)⟩
theorem EQ {up:Bool}:hN (if up=true then 1 else 2)=hK up:=by cases up<;>rfl
theorem qV {up:Bool} {a e:V} {k z:Int} (ok:if up=true then okU a e else okD a e) (hk:hK up a e k=true):hK up (.int (if up=true then k+1 else k-1)) e z=true↔hK up a e z=true∧¬(z=k∨rV up z k):=by
 unfold rV
 cases up with
 |true=>
  rw[if_pos rfl,if_pos rfl]
  obtain⟨i,rfl,i0,he⟩:=(show okU a e from ok)
  rcases he with rfl|⟨j,rfl,_⟩
  ·have h1:=of_decide_eq_true (show decide (i≤k)=true from hk)
   show decide (k+1≤z)=true↔decide (i≤z)=true∧_
   rw[decide_eq_true_eq,decide_eq_true_eq]
   omega
  ·have h1:=of_decide_eq_true (QC.mp (show(decide (i≤k)&&decide (k<j))=true from hk)).1
   show(decide (k+1≤z)&&decide (z<j))=true↔(decide (i≤z)&&decide (z<j))=true∧_
   rw[QI,QI,decide_eq_true_eq,decide_eq_true_eq,decide_eq_true_eq]
   omega
 |false=>
  rw[if_neg Qe,if_neg Qe]
  obtain⟨j,rfl,j0,ha⟩:=(show okD a e from ok)
  rcases ha with rfl|⟨i,rfl,_⟩
  ·show(decide (j≤z)&&decide (z≤k-1))=true↔decide (j≤z)=true∧_
   rw[QI,decide_eq_true_eq,decide_eq_true_eq]
   omega
  ·have h1:=of_decide_eq_true (QC.mp (show(decide (j≤k)&&decide (k≤i))=true from hk)).2
   show(decide (j≤z)&&decide (z≤k-1))=true↔(decide (j≤z)&&decide (z≤i))=true∧_
   rw[QI,QI,decide_eq_true_eq,decide_eq_true_eq,decide_eq_true_eq]
   omega
theorem zD {t:Adr} {H H':Hp} {F':Addr→Prop} {st:SSt} {ks:List Int} {n:Int} {up:Bool} {av e v:V} {p:Addr} {ts:List Tp} (nd:(st.kv.map (·.1)).Nodup) (r:cP ks) (mk:∀z,z∈ks↔(aL st.kv z).isSome=true) (n1:1≤n) (ok:if up=true then okU av e else okD av e)
  (ek:ts.map (·.k)=(cO up av e ks).take n.toNat) (ev:∀e∈ts,aL st.kv e.k=some e.v) (x:NxH t H H' F' p up e (cO up av e ks) n.toNat v):∃a' R,Fb t H' F' st (if up=true then 1 else 2) n av e v ts a' R:=by
 have ho:=AV (up:=up) (a:=av) (e:=e) r
 have ndt:(ts.map (·.k)).Nodup:=by
  rw[ek]
  refine(ho.sublist (X3 _ _)).imp λ{a b} h e=>?_
  unfold rV at h
  rw[e]at h
  split at h<;>omega
 have me:∀(k:Int) (v:V),(k,v)∈ts.map Tp.kv↔(k,v)∈st.kv∧k∈(cO up av e ks).take n.toNat:=λk v=>by
  rw[←ek,Qg,Qg]
  constructor
  ·rintro ⟨d,hd,h1⟩
   have h2:d.k=k:=congrArg Prod.fst h1
   have h3:d.v=v:=congrArg Prod.snd h1
   have:=eB (ev d hd)
   rw[h2,h3]at this
   exact⟨this,d,hd,h2⟩
  ·rintro ⟨h1,d,hd,rfl⟩
   have:=ev d hd
   rw[c4 nd h1]at this
   exact⟨d,hd,by unfold Tp.kv;rw[Option.some.inj this]⟩
 have ik:∀{k:Int} {v:V},(k,v)∈st.kv→k∈ks:=λh=>(mk _).mpr (by rw[c4 nd h];rfl)
 unfold NxH at x
 split at x
 ·refine⟨.non,λ_=>false,.inl ⟨x,rfl⟩,λk _ h=>absurd h Qe,ndt,λk v=>?_,.inl x⟩
  rw[me,Qz (by assumption),held_iff,EQ]
  exact⟨λh=>⟨h.1,h.2.2,rfl⟩,λh=>⟨h.1,ik h.1,h.2.1⟩⟩
 ·rw[if_neg (by omega)]at x
  obtain⟨q,k0,h0,ev0,_,nq,TQ⟩:=x
  have hk:=(held_iff.mp (Q1 h0)).2
  obtain⟨t1,t2⟩:=D5 TQ
  refine⟨_,hN (if up=true then 1 else 2) (.int (if up=true then k0+1 else k0-1)) e,.inr ⟨q,ev0,t1,t2,nq,rfl,λz=>by cases up<;>cases z⟩,λk _ h=>?_,ndt,λk v=>?_,.inr (.inl ?_)⟩
  ·rw[EQ]at h⊢
   exact((qV ok hk).mp h).1
  ·rw[me,zW ho h0 (by omega),held_iff,EQ,←Bool.not_eq_true,qV ok hk]
   constructor
   ·rintro ⟨h1,⟨_,h2⟩,h3⟩
    exact⟨h1,h2,λz=>z.2 h3⟩
   ·rintro ⟨h1,h2,h3⟩
    exact⟨h1,⟨ik h1,h2⟩,Classical.byContradiction λz=>h3 ⟨h2,z⟩⟩
  ·have:=congrArg List.length ek
   rw[Q0,Q7]at this
   omega
def Ec (K:PySem.W.Frag) (t:Adr):Sp:=λvs H Q _=>∃(a p:Addr) (n kd:Int) (av e:V) (F:Addr→Prop) (x:HSt),vs=[.ref a,.ref p,.int n,.non]∧HoA K t H a F x∧TkAt t H p kd av e∧okN kd av e∧¬F p∧1≤n∧n≤1000∧x.st.kv.length<4096∧x.ks.length<4096∧(∀k∈x.ks,0≤k)∧(∀p∈x.st.kv,∃i:Int,p.2= .int i)∧
 ∀(H':Hp) (F':Addr→Prop) (r g:Addr) (v:V) (ts:List Tp) (a':V) (R:Int→Bool),HoA K t H' a F' x→Fr F F' H H'→PgA H H' F F' r g v ts→Fb t H' F' x.st kd n av e v ts a' R→Q (.ref r) H'
theorem Et (T:Txt K mg t):FnOk P w K mg base CX0 8 t.DS t.wm ["house","token","many","sieve"] (Ec K t):=by
 have Yp:= @oV P w K mg base t T
 have Yq:= @nJ P w K mg base t T
 refine T.FS.ok sc_ask (λvs H Q E h=>?_) (λcdv A outer s H vs Q E hr h=>?_)
 ·obtain⟨a,p,n,kd,av,e,F,x,rfl,_⟩:=h
  rfl
 ·obtain⟨a,p,n,kd,av,e,F,x,rfl,A,TK,on,np,n1,n2,l4,lk,k0,iv,q⟩:=h
  refine⟨_,(ac (aR (bY (az (bQ K rfl) (by rfl) T.bD bh (aa (pv 1) (aa (bE (v:= .ref t.aO) (by rfl) T.fJ rfl) ah))))
   (ai (ar (i:=4) sc_ask.nd rfl (Or.inl rfl) (aJ Yq (hr.mono (by decide)) (by rfl) T.zK T.o9.kp T.zM .nil aD (aa (aC (pv 0) rfl) (aa (pv 1) (aa (pv 2) ah))))))
   (ai (ar (i:=4) sc_ask.nd rfl (Or.inl rfl) (aJ Yp (hr.mono (by decide)) (by rfl) T.AE T.rn.kp T.Bu .nil aD (aa (pv 0) (aa (pv 1) (aa (pv 2) ah)))))))
   (ac (aR (au gJ (pv 3) b6 (aq _))
   (ai (aF (pv 4)))
   aE)
   (ai gb)))
   ,?_⟩
  obtain⟨dx,fs,hp,tf⟩:=id TK
  have nd:(x.st.kv.map (·.1)).Nodup:=by
   obtain⟨s,l,wr,p,h,Fs,Fl,B,O,g⟩:=A
   obtain⟨_,_,_,_,nd,_⟩:=B.sl
   exact nd
  have ri:cP x.ks:=by
   obtain⟨_,_,_,_,_,_,L⟩:=A.lvs
   exact L.rise
  have keys:∀(up:Bool) {Q':VK} {E':XK},kd=(if up=true then 1 else 2)→(∀v H',Q v H'→Q' v H')→i8 K t [.ref a,.ref p,.int n] H Q' E':=λup Q' E' eu hQ=>by
   have ok:if up=true then okU av e else okD av e:=by
    subst eu
    cases up
    ·exact on.d
    ·exact on.u
   refine⟨a,p,n,up,av,e,F,x,rfl,A,⟨dx,fs,?_,?_,ok⟩,np,lk,k0,λH' F' r g v ts A' f' pg ek ev nx=>?_⟩
   ·subst eu
    cases up<;>exact hp
   ·subst eu
    cases up<;>exact tf
   ·obtain⟨a',R,U⟩:=zD nd ri A.ok.ks n1 ok ek ev nx
    rw[←eu]at U
    exact hQ _ _ (q H' F' r g v ts a' R A' f' pg U)
  rcases on.kd with rfl|rfl|rfl
  ·have hp:H p=some (.ins t.aO dx fs):=hp
   obtain⟨i,j,rfl,rfl,i0,ij,j1⟩:=on.s
   obtain⟨s,l,wr,pp,h,Fs,Fl,B,O,g⟩:=A
   obtain⟨dxh,ho⟩:=B.o.ob
   have W0:0<65536/x.st.low:=by
    have z:SzOk x.st:=let⟨_,_,_,_,_,z⟩:=B.sl;z
    obtain⟨_,_,R⟩:=qg (fL z)
    exact R.wpos'
   refine⟨_,rfl,_,_,_,_,rfl,TyOf.ins hp T.br T.iq.1 T.iq.2 T.iq.3 T.iq.4,T.lI,_,rfl,cC ⟨_,rfl,a,_,dxh,_,_,rfl,ho,T.aY,T.cr,qM,_,rfl,_,rfl,s,p,n,i,j,Fs,x.st,rfl,B.sl,⟨dx,fs,hp,tf,i0,ij,j1⟩,λz=>np ((g p).mpr (.inl z)),n1,n2,l4,iv,λH' Fs' r gg v ts m S' f' pg ps nx=>⟨_,rfl,rfl,_,rfl,eY rfl ⟨_,rfl,?_⟩⟩⟩⟩
   obtain⟨B1,g1⟩:=B.slots S' f'
   have up:∀{b:Addr},¬F b→¬Fs b:=λn z=>n ((g _).mpr (.inl z))
   have A':HoA K t H' a (HoF a wr pp h Fs' Fl x.pa) x:=⟨s,l,wr,pp,h,Fs',Fl,B1,O,λ_=>Iff.rfl⟩
   have nx':NxS t H H' F (HoF a wr pp h Fs' Fl x.pa) (aX (65536/x.st.low) j i m) j v:=by
    unfold NxS at nx⊢
    split
    ·rw[if_pos (by assumption)]at nx
     exact nx
    ·rw[if_neg (by assumption)]at nx
     obtain⟨y,e1,e2,e3,e4⟩:=nx
     exact⟨y,e1,λn=>e2 (up n),B.newb e2 e3,e4⟩
   obtain⟨a',R,U⟩:=xI W0 i0 ij ps nx'
   refine q H' _ r gg v ts a' R A' (λb o n e=>g1 b o (λz=>n ((g b).mpr z)) e) ⟨pg.tu,pg.li,λe he=>⟨(pg.rw e he).1,λz=>?_⟩,⟨λn=>pg.nr.1 (up n),B.newb pg.nr.1 pg.nr.2⟩,λn=>pg.ng.1 (up n),B.newb pg.ng.1 pg.ng.2⟩ U
   obtain⟨o,e',n⟩:=A'.dom z
   rw[(pg.rw e he).1]at e'
   exact n _ (Option.some.inj e').symm
  ·have hp:H p=some (.ins t.cK dx fs):=hp
   refine⟨_,rfl,_,_,_,_,rfl,TyOf.ins hp T.eP T.i7.1 T.i7.2 T.i7.3 T.i7.4,T.sC,_,rfl,cX ⟨_,rfl,_,rfl,_,rfl,keys true rfl λv H' h=>⟨_,rfl,rfl,_,rfl,eY rfl ⟨_,rfl,h⟩⟩⟩⟩
  ·have hp:H p=some (.ins t.bW dx fs):=hp
   refine⟨_,rfl,_,_,_,_,rfl,TyOf.ins hp T.bS T.cQ.1 T.cQ.2 T.cQ.3 T.cQ.4,T.o0,_,rfl,cX ⟨_,rfl,_,rfl,_,rfl,keys false rfl λv H' h=>⟨_,rfl,rfl,_,rfl,eY rfl ⟨_,rfl,h⟩⟩⟩⟩
def oP (K:PySem.W.Frag):Sp:=λvs H Q _=>∃(a:Addr) (ns:List Int) (k:Int),vs=[.ref a,.int k]∧SqL K H a (ns.map V.int)∧0≤k∧Q (.int (ns.getD k.toNat 0)) H
theorem oY (T:Txt K mg t):FnOk P w K mg base CX0 1 t.jW t.fR ["_law_script","_law_k"] (oP K):=by
 refine T.jZ.ok oS (λvs H Q E h=>?_) (λcdv A outer s H vs Q E hr h=>?_)
 ·obtain⟨a,ns,i,rfl,_⟩:=h
  rfl
 ·obtain⟨a,ns,i,rfl,hS,h0,k⟩:=h
  refine⟨_,(ac (aR (au c6 (pv 1) (az aA (by rfl) T.bC aZ (aa (pv 0) ah)) (aq _))
   (ai (aF (aU aN (pv 0) (pv 1) (λ_ _=>rfl))))
   aE)
   (ai (aF af)))
   ,?_⟩
  refine⟨_,rfl,_,rfl,a,_,rfl,.inl hS,_,_,rfl,rfl,_,rfl,?_⟩
  refine bB (λc=>?_) (λc=>?_)
  ·have c:=of_decide_eq_true c
   rw[Q0]at c
   exact⟨_,rfl,_,rfl,a,_,_,_,rfl,rfl,hS,qT h0 c,k⟩
  ·have c:¬i<((ns.map V.int).length:Int):=λz=>c (decide_eq_true z)
   rw[Q0]at c
   rw[Br c]at k
   exact k
def rE:Sp:=λvs H Q _=>∃c k:Int,vs=[.int c,.int k]∧∀z:Int,0≤z→z<2147483647→Q (.int z) H
theorem kB (T:Txt K mg t):FnOk P w K mg base CX0 1 t.mP t.iT ["_law_cell","_law_k"] rE:=by
 refine T.mZ.ok sc__law_mixed (λvs H Q E h=>?_) (λcdv A outer s H vs Q E hr h=>?_)
 ·obtain⟨c,k,rfl,_⟩:=h
  rfl
 ·obtain⟨c,k,rfl,q⟩:=h
  refine⟨_,(ac (ar (i:=2) sc__law_mixed.nd rfl (Or.inl rfl) (am aM (am cy (am bq (am bq (pv 0) (am cy af (pv 1))) af) af) af))
   (ai (aF (am aM (am cy (pv 2) (am bq (am aP (pv 2) af) af)) af))))
   ,?_⟩
  refine⟨_,rfl,_,rfl,_,_,rfl,rfl,.inl ⟨by decide,by decide⟩,_,_,rfl,rfl,_,_,rfl,rfl,_,_,rfl,rfl,.inr ⟨by decide,by decide⟩,_,_,rfl,rfl,(by show(0:Int)<2147483647;decide),?_⟩
  have a:=Qd ((c+7919*k+1)*48271) (show(2147483647:Int)≠0 by decide)
  have b:=Qc ((c+7919*k+1)*48271) (show(0:Int)<2147483647 by decide)
  (try dsimp only)
  generalize (c+7919*k+1)*48271%2147483647=n at a b⊢
  refine⟨_,rfl,_,rfl,_,_,rfl,rfl,⟨by decide,by decide⟩,_,_,rfl,rfl,_,_,rfl,rfl,.inl ⟨by omega,by omega⟩,_,_,rfl,rfl,(by show(0:Int)<2147483647;decide),?_⟩
  exact q _ (Qd _ (by decide)) (Qc _ (by decide))
def rD:Sp:=λvs H Q _=>∃k:Int,vs=[.int k]∧Q (.int (tz (k%65536))) H
theorem rY (T:Txt K mg t):FnOk P w K mg base CX0 1 t.mO t.iS ["_law_key"] rD:=by
 refine T.mY.ok sc__law_place (λvs H Q E h=>?_) (λcdv A outer s H vs Q E hr h=>?_)
 ·obtain⟨n,rfl,_⟩:=h
  rfl
 ·obtain⟨n,rfl,q⟩:=h
  refine⟨_,(ac (ar (i:=1) sc__law_place.nd rfl (Or.inl rfl) (am aM (pv 0) af))
   (ac (ar (i:=2) sc__law_place.nd rfl (Or.inl rfl) af)
   (ac (gH PassesOwn.never rfl (fj (by rfl) T.j3 (aa af ah)) (bx (i:=3) sc__law_place.nd rfl (Or.inl rfl))
   (ac (ar (i:=2) sc__law_place.nd rfl (Or.inl rfl) (am bq (am cy af (pv 2)) (am aM (pv 1) af)))
   (ai (ar (i:=1) sc__law_place.nd rfl (Or.inl rfl) (am aP (pv 1) af)))))
   (ai (aF (pv 2))))))
   ,?_⟩
  have m0:=Qd n (show(65536:Int)≠0 by decide)
  refine⟨_,rfl,_,_,rfl,rfl,(by show(0:Int)<65536;decide),?_⟩
  (try dsimp only)
  generalize n%65536=m at m0 q⊢
  have en:((m.toNat/2^0:Nat):Int)=m:=by rw[Nat.pow_zero,Nat.div_one];omega
  refine⟨16,rfl,by decide,by decide,nS (n:=16) (λi σ H'=>∃v,H'=H∧σ=[some (.int n),some (.int ((m.toNat/2^i:Nat):Int)),some (.int ((rv i m.toNat:Nat):Int)),v]) ?_ ?_ ?_⟩
  ·refine⟨none,rfl,?_⟩
   rw[en]
   rfl
  ·rintro i σ H' hi ⟨v,rfl,rfl⟩
   refine⟨_,rfl,_,_,rfl,rfl,.inl ⟨by decide,by decide⟩,_,rfl,_,_,rfl,rfl,(by show(0:Int)<2;decide),_,_,rfl,rfl,_,rfl,_,_,rfl,rfl,⟨by decide,by decide⟩,?_⟩
   refine⟨some (.int (0+(i:Int))),rfl,?_⟩
   rw[←sN i m.toNat,←sO i m.toNat,Xa]
   rfl
  ·rintro σ H' ⟨v,rfl,rfl⟩
   unfold tz at q
   exact⟨_,rfl,q⟩
def Dx (kd:Int) (H:Hp) (Q:VK):Prop:=∀(H':Hp) (p:Addr) (a e:V),Same H H'→H' p=some (.tup [.int kd,a,e])→okN kd a e→bdV a→bdV e→Q (.ref p) H'
theorem cM {i:Int} (h:i<10^80):bdV (.int i):=h
theorem uT:bdV .non:=True.intro
def ji:Sp:=λvs H Q _=>∃kd c:Int,vs=[.int kd,.int c]∧0≤kd∧kd<3∧Dx kd H Q
theorem jz (T:Txt K mg t):FnOk P w K mg base CX0 1 t.eQ t.cH ["_law_kind","_law_cell"] ji:=by
 refine T.kr.ok sc__law_numbers_told (λvs H Q E h=>?_) (λcdv A outer s H vs Q E hr h=>?_)
 ·obtain⟨kd,c,rfl,_⟩:=h
  rfl
 ·obtain⟨kd,c,rfl,d0,d3,q⟩:=h
  refine⟨_,(ac (aR (au bL (pv 0) af (aq _))
   (ac (ar (i:=2) sc__law_numbers_told.nd rfl (Or.inl rfl) (am aM (pv 1) af))
   (ai (aF (bM (aa (pv 0) (aa (pv 2) (aa (am bq (pv 2) (am aM (am aP (pv 1) af) (am fE af (pv 2)))) ah)))))))
   aE)
   (ac (ar (i:=2) sc__law_numbers_told.nd rfl (Or.inl rfl) (am aM (am aP (pv 1) af) (am fF af af)))
   (ac (ar (i:=3) sc__law_numbers_told.nd rfl (Or.inl rfl) (am bq (pv 2) (am aM (am vF (pv 1) (am cy af (am fF af af))) (am fF af af))))
   (ac (aR (PW.pt (dM (au bL (am aM (pv 1) af) af (aq _)) (cT (au bL (pv 0) af (aq _)))))
   (ai (aF (bM (aa (pv 0) (aa (pv 2) (aa b6 ah))))))
   aE)
   (ac (aR (au bL (am aM (pv 1) af) af (aq _))
   (ai (aF (bM (aa (pv 0) (aa b6 (aa (pv 2) ah))))))
   aE)
   (ai (aF (bM (aa (pv 0) (aa (aU aN (bN (aa (pv 2) (aa (pv 3) ah))) (am fE (pv 0) af) (λ_ _=>rfl)) (aa (aU aN (bN (aa (pv 3) (aa (pv 2) ah))) (am fE (pv 0) af) (λ_ _=>rfl)) ah)))))))))))
   ,?_⟩
  refine⟨_,rfl,rfl,_,rfl,bB (λz=>?_) (λz=>?_)⟩
  ·obtain rfl:kd=0:=V.int.inj (of_decide_eq_true z)
   have a0:=Qd c (show(65537:Int)≠0 by decide)
   have a1:=Qc c (show(0:Int)<65537 by decide)
   refine⟨_,rfl,_,_,rfl,rfl,(by show(0:Int)<65537;decide),?_⟩
   (try dsimp only)
   generalize c%65537=lo at a0 a1⊢
   refine⟨_,rfl,_,rfl,_,rfl,_,rfl,_,_,rfl,rfl,⟨by decide,by decide⟩,_,rfl,_,_,rfl,rfl,_,_,rfl,rfl,(by show(0:Int)<65537-lo;omega),_,_,rfl,rfl,(by show 3≤sizeLine;decide),λp hp=>?_⟩
   have b0:=Qd (c/65537) (show(65537-lo:Int)≠0 by omega)
   have b1:=Qc (c/65537) (show(0:Int)<65537-lo by omega)
   exact q _ p (.int lo) (.int (lo+c/65537%(65537-lo))) (aj hp) ag (.inl ⟨rfl,lo,_,rfl,rfl,a0,by omega,by omega⟩) (cM (by omega)) (cM (by omega))
  ·have dz:kd≠0:=λe=>z (decide_eq_true (by rw[e]))
   have a0:=Qd (c/2) (QS pJ)
   have a1:=Qc (c/2) pJ
   have b0:=Qd (c/(2*10^(39:Int).toNat)) (QS pJ)
   have b1:=Qc (c/(2*10^(39:Int).toNat)) pJ
   refine⟨_,rfl,_,_,rfl,rfl,⟨by decide,by decide⟩,_,_,rfl,rfl,⟨by decide,by decide,by decide⟩,_,_,rfl,rfl,pJ,?_⟩
   (try dsimp only)
   generalize c/2%10^(39:Int).toNat=lo at a0 a1⊢
   refine⟨_,rfl,_,rfl,_,_,rfl,rfl,⟨by decide,by decide,by decide⟩,_,_,rfl,rfl,.inl ⟨by decide,by decide⟩,_,_,rfl,rfl,⟨by decide,by decide⟩,_,_,rfl,rfl,⟨by decide,by decide,by decide⟩,_,_,rfl,rfl,pJ,_,_,rfl,rfl,?_⟩
   (try dsimp only)
   generalize c/(2*10^(39:Int).toNat)%10^(39:Int).toNat=hi at b0 b1⊢
   have t39:(10:Int)^(39:Int).toNat=10^39:=rfl
   rw[t39]at a1 b1
   have two:(0:Int)<2:=by decide
   have l3:3≤sizeLine:=by decide
   have l2:2≤sizeLine:=by decide
   rcases(show kd=1∨kd=2 by omega)with rfl|rfl
   ·refine⟨_,rfl,_,_,rfl,rfl,two,rfl,_,rfl,bB (λy=>?_) (λy=>?_)⟩
    ·refine⟨_,rfl,rfl,_,rfl,eY rfl ⟨_,rfl,_,rfl,l3,λp hp=>?_⟩⟩
     exact q _ p (.int lo) .non (aj hp) ag (.inr (.inl ⟨rfl,lo,rfl,a0,.inl rfl⟩)) (cM (by omega)) uT
    ·refine⟨_,rfl,_,_,rfl,rfl,two,rfl,_,rfl,bB (λy2=>absurd y2 y) (λ_=>?_)⟩
     refine⟨_,rfl,_,rfl,_,rfl,l2,λp1 n1=>⟨_,rfl,_,_,rfl,rfl,p1,_,_,_,rfl,rfl,SqL.of ag,rfl,_,rfl,_,rfl,l2,λp2 n2=>⟨_,rfl,_,_,rfl,rfl,p2,_,_,_,rfl,rfl,SqL.of ag,rfl,l3,λp3 n3=>?_⟩⟩⟩
     exact q _ p3 (.int lo) (.int (lo+hi)) (((aj n1).trans (aj n2)).trans (aj n3)) ag (.inr (.inl ⟨rfl,lo,rfl,a0,.inr ⟨_,rfl,by omega⟩⟩)) (cM (by omega)) (cM (by omega))
   ·refine⟨_,rfl,_,_,rfl,rfl,two,rfl,_,rfl,bB (λy=>?_) (λy=>?_)⟩
    ·refine⟨_,rfl,rfl,_,rfl,bg (λe=>by cases e) ⟨_,rfl,_,_,rfl,rfl,two,rfl,_,rfl,bB (λ_=>⟨_,rfl,_,rfl,l3,λp hp=>?_⟩) (λy2=>absurd y y2)⟩⟩
     exact q _ p .non (.int lo) (aj hp) ag (.inr (.inr ⟨rfl,lo,rfl,a0,.inl rfl⟩)) uT (cM (by omega))
    ·refine⟨_,rfl,_,_,rfl,rfl,two,rfl,_,rfl,bB (λy2=>absurd y2 y) (λ_=>?_)⟩
     refine⟨_,rfl,_,rfl,_,rfl,l2,λp1 n1=>⟨_,rfl,_,_,rfl,rfl,p1,_,_,_,rfl,rfl,SqL.of ag,rfl,_,rfl,_,rfl,l2,λp2 n2=>⟨_,rfl,_,_,rfl,rfl,p2,_,_,_,rfl,rfl,SqL.of ag,rfl,l3,λp3 n3=>?_⟩⟩⟩
     exact q _ p3 (.int (lo+hi)) (.int lo) (((aj n1).trans (aj n2)).trans (aj n3)) ag (.inr (.inr ⟨rfl,lo,rfl,a0,.inr ⟨_,rfl,by omega⟩⟩)) (cM (by omega)) (cM (by omega))
theorem AZ {ks:List Int} {i:Nat} (h:i<ks.length):ks.getD i 0∈ks:=by
 rw[Ql,Q3 h]
 exact Za h
def oO (K:PySem.W.Frag):Sp:=λvs H Q _=>∃(c:Int) (l:Addr) (ks:List Int),vs=[.int c,.ref l]∧H l=some (.lst (ks.map V.int))∧(∀k∈ks,0≤k∧k<10^40)∧Dx (c%3) H Q
theorem oX (T:Txt K mg t):FnOk P w K mg base CX0 2 t.jV t.fQ ["_law_cell","_law_keys"] (oO K):=by
 have Yb:= @kB P w K mg base t T
 have Yd:= @jz P w K mg base t T
 refine T.rq.ok sc__law_numbers (λvs H Q E h=>?_) (λcdv A outer s H vs Q E hr h=>?_)
 ·obtain⟨c,l,ks,rfl,_⟩:=h
  rfl
 ·obtain⟨c,l,ks,rfl,hS,kb,q⟩:=h
  refine⟨_,(ac (ar (i:=2) sc__law_numbers.nd rfl (Or.inl rfl) (am aM (pv 0) af))
   (ac (aR (au bL (am aM (am aP (pv 0) af) af) af (aq _))
   (ai (aF (aJ Yd (hr.mono (by decide)) (by rfl) T.wG T.kr.kp T.wH .nil aD (aa (pv 2) (aa (am aP (pv 0) af) ah)))))
   aE)
   (ac (ar (i:=3) sc__law_numbers.nd rfl (Or.inl rfl) (aJ Yb (hr.mono (by decide)) (by rfl) T.uJ T.mZ.kp T.uV .nil aD (aa (am aP (pv 0) af) (aa af ah))))
   (ac (aR (au bL (pv 2) af (aq _))
   (ac (ar (i:=4) sc__law_numbers.nd rfl (Or.inl rfl) (am aM (pv 3) af))
   (ac (ar (i:=5) sc__law_numbers.nd rfl (Or.inl rfl) (am bq (pv 4) (am aM (am aP (pv 3) af) (am fE af (pv 4)))))
   (ai (aF (bM (aa (pv 2) (aa (aU aN (bN (aa (pv 4) (aa af ah))) (am aM (pv 3) af) (λ_ _=>rfl)) (aa (aU aN (bN (aa (pv 5) (aa af ah))) (am aM (am aP (pv 3) af) af) (λ_ _=>rfl)) ah))))))))
   aE)
   (ac (ar (i:=4) sc__law_numbers.nd rfl (Or.inl rfl) (am aM (pv 3) af))
   (ac (aR (PW.pt (dM (au sZ (az aA (by rfl) T.bC aZ (aa (pv 1) ah)) af (aq _)) (cT (au sZ (am aM (am aP (pv 3) af) af) af (aq _)))))
   (ai (ar (i:=4) sc__law_numbers.nd rfl (Or.inl rfl) (am bq (aU aN (pv 1) (am aM (am aP (pv 3) af) (az aA (by rfl) T.bC aZ (aa (pv 1) ah))) (λ_ _=>rfl)) (am aM (am aP (pv 3) af) af))))
   aE)
   (ac (ar (i:=5) sc__law_numbers.nd rfl (Or.inl rfl) (am bq (pv 4) (aU aN (bN (aa (am aM (am aP (pv 3) af) af) (aa (am aM (am aP (pv 0) af) (am fF af af)) (aa (am aM (am aP (pv 3) af) af) ah)))) (am aM (am aP (pv 3) af) af) (λ_ _=>rfl))))
   (ac (aR (PW.pt (dM (au bL (am aM (am aP (pv 3) af) af) af (aq _)) (cT (au bL (pv 2) af (aq _)))))
   (ai (aF (bM (aa (pv 2) (aa (pv 4) (aa b6 ah))))))
   aE)
   (ac (aR (au bL (am aM (am aP (pv 3) af) af) af (aq _))
   (ai (aF (bM (aa (pv 2) (aa b6 (aa (pv 4) ah))))))
   aE)
   (ai (aF (bM (aa (pv 2) (aa (aU aN (bN (aa (pv 4) (aa (pv 5) ah))) (am fE (pv 2) af) (λ_ _=>rfl)) (aa (aU aN (bN (aa (pv 5) (aa (pv 4) ah))) (am fE (pv 2) af) (λ_ _=>rfl)) ah)))))))))))))))
   ,?_⟩
  have d0:=Qd c (show(3:Int)≠0 by decide)
  have d3:=Qc c (show(0:Int)<3 by decide)
  have two:(0:Int)<2:=by decide
  have l3:3≤sizeLine:=by decide
  have l2:2≤sizeLine:=by decide
  refine⟨_,rfl,_,_,rfl,rfl,(by show(0:Int)<3;decide),?_⟩
  (try dsimp only)
  generalize c%3=kd at d0 d3 q⊢
  refine⟨_,rfl,_,_,rfl,rfl,⟨by decide,by decide⟩,_,_,rfl,rfl,two,rfl,_,rfl,bB (λ_=>?_) (λ_=>?_)⟩
  ·exact⟨_,rfl,_,rfl,_,_,rfl,rfl,⟨by decide,by decide⟩,kd,_,rfl,d0,d3,q⟩
  refine⟨_,rfl,_,_,rfl,rfl,⟨by decide,by decide⟩,_,_,rfl,λn n0 n1=>?_⟩
  refine⟨_,rfl,rfl,_,rfl,bB (λz=>?_) (λz=>?_)⟩
  ·obtain rfl:kd=0:=V.int.inj (of_decide_eq_true z)
   have a0:=Qd n (show(65537:Int)≠0 by decide)
   have a1:=Qc n (show(0:Int)<65537 by decide)
   refine⟨_,rfl,_,_,rfl,rfl,(by show(0:Int)<65537;decide),?_⟩
   (try dsimp only)
   generalize n%65537=lo at a0 a1⊢
   have b0:=Qd (n/65537) (show(65537-lo:Int)≠0 by omega)
   have b1:=Qc (n/65537) (show(0:Int)<65537-lo by omega)
   refine⟨_,rfl,_,rfl,_,_,rfl,rfl,⟨by decide,by decide⟩,_,rfl,_,_,rfl,rfl,_,_,rfl,rfl,(by show(0:Int)<65537-lo;omega),_,_,rfl,rfl,?_⟩
   (try dsimp only)
   generalize n/65537%(65537-lo)=g at b0 b1⊢
   obtain⟨x,hx,x0⟩:=sV (c:=n) (n:=2) (L:=[.int lo,.int 0]) (P:=λm=>0≤m∧m≤lo) ⟨⟨a0,Zy _⟩,⟨Zy _,a0⟩,trivial⟩ rfl two
   obtain⟨y,hy,y0⟩:=sV (c:=n/2) (n:=2) (L:=[.int (lo+g),.int 65536]) (P:=λm=>lo≤m∧m≤65536) ⟨⟨by omega,by omega⟩,⟨by omega,by omega⟩,trivial⟩ rfl two
   refine⟨_,rfl,_,rfl,l2,λp1 n1'=>⟨_,rfl,_,_,rfl,rfl,two,p1,_,_,_,rfl,rfl,SqL.of ag,hx,_,rfl,l2,λp2 n2=>⟨_,rfl,_,_,rfl,rfl,⟨by decide,by decide⟩,_,_,rfl,rfl,two,p2,_,_,_,rfl,rfl,SqL.of ag,hy,l3,λp3 n3=>?_⟩⟩⟩
   exact q _ p3 (.int x) (.int y) (((aj n1').trans (aj n2)).trans (aj n3)) ag (.inl ⟨rfl,x,y,rfl,rfl,x0.1,by omega,y0.2⟩) (cM (by omega)) (cM (by omega))
  ·have dz:kd≠0:=λe=>z (decide_eq_true (by rw[e]))
   have a0:=Qd n (show(60:Int)≠0 by decide)
   have a1:=Qc n (show(0:Int)<60 by decide)
   refine⟨_,rfl,_,_,rfl,rfl,(by show(0:Int)<60;decide),?_⟩
   (try dsimp only)
   generalize n%60=lo at a0 a1⊢
   refine eU (λσ H'=>H=H'∧∃lo:Int,σ=[some (.int c),some (.ref l),some (.int kd),some (.int n),some (.int lo),none]∧0≤lo∧lo<10^41) (λnx go=>?_) (λσ H' w=>?_)
   ·refine⟨_,rfl,l,_,rfl,.inl (SqL.of hS),_,_,rfl,rfl,_,rfl,bB (λz=>?_) (λz=>?_)⟩
    ·have kl:0<ks.length:=by
      have:=of_decide_eq_true z
      rw[Q0]at this
      omega
     have kl:(0:Int)<(ks.length:Int):=by omega
     have z0:=Qd (n/180) (QS kl)
     have z1:=Qc (n/180) kl
     have y0:=Qd (n/72000) (show(2:Int)≠0 by decide)
     have y1:=Qc (n/72000) (show(0:Int)<2 by decide)
     refine⟨_,rfl,_,_,rfl,rfl,⟨by decide,by decide⟩,_,_,rfl,rfl,(by show(0:Int)<3;decide),_,_,rfl,rfl,_,rfl,bB (λ_=>?_) (λ_=>go _ _ ⟨rfl,lo,rfl,a0,by omega⟩)⟩
     refine⟨_,rfl,_,rfl,_,_,rfl,rfl,⟨by decide,by decide⟩,_,rfl,l,_,rfl,.inl (SqL.of hS),_,_,rfl,rfl,(by rw[Q0];exact kl),l,_,_,_,rfl,rfl,SqL.of hS,(by rw[Q0];exact qT z0 z1),_,rfl,_,_,rfl,rfl,⟨by decide,by decide⟩,_,_,rfl,rfl,two,_,_,rfl,rfl,go _ _ ⟨rfl,_,rfl,?_⟩⟩
     obtain⟨b0,b1⟩:=kb (ks.getD (n/180%ks.length).toNat 0) (AZ (by omega))
     constructor<;>omega
    ·exact go _ _ ⟨rfl,lo,rfl,a0,by omega⟩
   clear a0 a1 lo
   obtain⟨rfl,lo,rfl,a0,a1⟩:=w
   have t38:(0:Int)<10^(38:Int).toNat:=by decide
   have c90:∀z:Int,0≤z%90∧z%90<10^38:=λz=>⟨Qd _ (by decide),Int.lt_trans (Qc _ (by decide)) (by decide)⟩
   have c38:∀z:Int,0≤z%10^(38:Int).toNat∧z%10^(38:Int).toNat<10^38:=λz=>⟨Qd _ (by decide),Qc _ (by decide)⟩
   have c70:∀z:Int,0≤z%70000∧z%70000<10^38:=λz=>⟨Qd _ (by decide),Int.lt_trans (Qc _ (by decide)) (by decide)⟩
   obtain⟨hi,hh,b0,b1⟩:=sV (c:=n/216000) (n:=3) (L:=[.int (n/7%90),.int (c/11%10^(38:Int).toNat),.int (n/7%70000)]) (P:=λm=>0≤m∧m<10^38) ⟨c90 _,c38 _,c70 _,trivial⟩ rfl (by decide)
   refine⟨_,rfl,_,rfl,_,_,rfl,rfl,⟨by decide,by decide⟩,_,_,rfl,rfl,(by show(0:Int)<90;decide),_,rfl,_,_,rfl,rfl,⟨by decide,by decide⟩,_,_,rfl,rfl,⟨by decide,by decide,by decide⟩,_,_,rfl,rfl,t38,_,rfl,_,_,rfl,rfl,⟨by decide,by decide⟩,_,_,rfl,rfl,(by show(0:Int)<70000;decide),l3,λp hp=>?_⟩
   refine⟨_,rfl,_,_,rfl,rfl,⟨by decide,by decide⟩,_,_,rfl,rfl,(by show(0:Int)<3;decide),p,_,_,_,rfl,rfl,SqL.of ag,hh,_,_,rfl,rfl,?_⟩
   have s0:Same H (upd H p (.lst [.int (n/7%90),.int (c/11%10^(38:Int).toNat),.int (n/7%70000)])):=aj hp
   (try dsimp only)
   generalize upd H p (.lst [.int (n/7%90),.int (c/11%10^(38:Int).toNat),.int (n/7%70000)])=H1 at s0⊢
   have q:=λH' p' a e (s:Same H1 H')=>q H' p' a e (s0.trans s)
   have th:(0:Int)<3:=by decide
   have dv:CDiv n 648000:=⟨by decide,by decide⟩
   rcases(show kd=1∨kd=2 by omega)with rfl|rfl
   ·refine⟨_,rfl,_,_,rfl,rfl,dv,_,_,rfl,rfl,th,rfl,_,rfl,bB (λy=>?_) (λy=>?_)⟩
    ·refine⟨_,rfl,rfl,_,rfl,eY rfl ⟨_,rfl,_,rfl,l3,λp hp=>?_⟩⟩
     exact q _ p (.int lo) .non (aj hp) ag (.inr (.inl ⟨rfl,lo,rfl,a0,.inl rfl⟩)) (cM (by omega)) uT
    ·refine⟨_,rfl,_,_,rfl,rfl,dv,_,_,rfl,rfl,th,rfl,_,rfl,bB (λy2=>absurd y2 y) (λ_=>?_)⟩
     refine⟨_,rfl,_,rfl,_,rfl,l2,λp1 n1=>⟨_,rfl,_,_,rfl,rfl,p1,_,_,_,rfl,rfl,SqL.of ag,rfl,_,rfl,_,rfl,l2,λp2 n2=>⟨_,rfl,_,_,rfl,rfl,p2,_,_,_,rfl,rfl,SqL.of ag,rfl,l3,λp3 n3=>?_⟩⟩⟩
     exact q _ p3 (.int lo) (.int (lo+hi)) (((aj n1).trans (aj n2)).trans (aj n3)) ag (.inr (.inl ⟨rfl,lo,rfl,a0,.inr ⟨_,rfl,by omega⟩⟩)) (cM (by omega)) (cM (by omega))
   ·refine⟨_,rfl,_,_,rfl,rfl,dv,_,_,rfl,rfl,th,rfl,_,rfl,bB (λy=>?_) (λy=>?_)⟩
    ·refine⟨_,rfl,rfl,_,rfl,bg (λe=>by cases e) ⟨_,rfl,_,_,rfl,rfl,dv,_,_,rfl,rfl,th,rfl,_,rfl,bB (λ_=>⟨_,rfl,_,rfl,l3,λp hp=>?_⟩) (λy2=>absurd y y2)⟩⟩
     exact q _ p .non (.int lo) (aj hp) ag (.inr (.inr ⟨rfl,lo,rfl,a0,.inl rfl⟩)) uT (cM (by omega))
    ·refine⟨_,rfl,_,_,rfl,rfl,dv,_,_,rfl,rfl,th,rfl,_,rfl,bB (λy2=>absurd y2 y) (λ_=>?_)⟩
     refine⟨_,rfl,_,rfl,_,rfl,l2,λp1 n1=>⟨_,rfl,_,_,rfl,rfl,p1,_,_,_,rfl,rfl,SqL.of ag,rfl,_,rfl,_,rfl,l2,λp2 n2=>⟨_,rfl,_,_,rfl,rfl,p2,_,_,_,rfl,rfl,SqL.of ag,rfl,l3,λp3 n3=>?_⟩⟩⟩
     exact q _ p3 (.int (lo+hi)) (.int lo) (((aj n1).trans (aj n2)).trans (aj n3)) ag (.inr (.inr ⟨rfl,lo,rfl,a0,.inr ⟨_,rfl,by omega⟩⟩)) (cM (by omega)) (cM (by omega))
theorem xl {C N:Addr} {kd:Str} {ok:V→V→Prop} {a e:V} {H:Hp} {Q:VK} {E:XK} (ho:ok a e) (sa:Sc a) (se:Sc e) (x dx:Addr) (nx:H x=none) (nd:H dx=none)
  (q:∀H' fs,Same H H'→H' x=some (.ins C dx fs)→u0 kd fs a e→Q .non H'):xS C N kd ok [.ref x,a,e] (upd (upd H dx (.own x)) x (.ins C dx [])) Q E:=
 ⟨x,dx,a,e,rfl,ag,sa,se,λ_ H' fs k h f=>q H' fs (m9 nx nd k) h f,λz=>absurd ho z⟩
def rC (K:PySem.W.Frag) (t:Adr):Sp:=λvs H Q _=>∃(n:Addr) (kd:Int) (a e:V),vs=[.ref n]∧SqT K H n [.int kd,a,e]∧okN kd a e∧∀H' p,Same H H'→H p=none→TkAt t H' p kd a e→Q (.ref p) H'
theorem rX (T:Txt K mg t):FnOk P w K mg base CX0 5 t.mN t.iR ["_law_numbers_here"] (rC K t):=by
 have G9:= @hI P w K mg base t T
 have J7:= @kD P w K mg base t T
 have Y4:= @oj P w K mg base t T
 refine T.u9.ok rP (λvs H Q E h=>?_) (λcdv A outer s H vs Q E hr h=>?_)
 ·obtain⟨n,kd,a,e,rfl,_⟩:=h
  rfl
 ·obtain⟨n,kd,a,e,rfl,hn,ho,q⟩:=h
  refine⟨_,(ac (aR (au bL (aU dw (pv 0) af (λ_ _=>rfl)) af (aq _))
   (ai (aF (j6 T.xn G9 (hr.mono (by decide)) (by rfl) T.fJ T.o8 .nil aD (aa (aU dw (pv 0) af (λ_ _=>rfl)) (aa (aU dw (pv 0) af (λ_ _=>rfl)) ah)))))
   aE)
   (ac (aR (au bL (aU dw (pv 0) af (λ_ _=>rfl)) af (aq _))
   (ai (aF (j6 T.FA Y4 (hr.mono (by decide)) (by rfl) T.vR T.xH .nil aD (aa (aU dw (pv 0) af (λ_ _=>rfl)) (aa (aU dw (pv 0) af (λ_ _=>rfl)) ah)))))
   aE)
   (ai (aF (j6 T.CI J7 (hr.mono (by decide)) (by rfl) T.CJ T.uX .nil aD (aa (aU dw (pv 0) af (λ_ _=>rfl)) (aa (aU dw (pv 0) af (λ_ _=>rfl)) ah)))))))
   ,?_⟩
  obtain⟨sa,se⟩:=ho.sc
  rcases ho.kd with rfl|rfl|rfl
  ·refine⟨_,rfl,n,_,_,_,rfl,rfl,hn,rfl,rfl,_,rfl,eY rfl ⟨_,rfl,n,_,_,_,rfl,rfl,hn,rfl,_,rfl,n,_,_,_,rfl,rfl,hn,rfl,λx dx nx nd ne=>?_⟩⟩
   exact xl ho.s sa se x dx nx nd λH' fs s h f=>⟨rfl,q H' x s nx ⟨dx,fs,h,f⟩⟩
  ·refine⟨_,rfl,n,_,_,_,rfl,rfl,hn,rfl,rfl,_,rfl,bg (λz=>by cases z) ⟨_,rfl,n,_,_,_,rfl,rfl,hn,rfl,rfl,_,rfl,eY rfl ⟨_,rfl,n,_,_,_,rfl,rfl,hn,rfl,_,rfl,n,_,_,_,rfl,rfl,hn,rfl,λx dx nx nd ne=>?_⟩⟩⟩
   exact xl ho.u sa se x dx nx nd λH' fs s h f=>⟨rfl,q H' x s nx ⟨dx,fs,h,f⟩⟩
  ·refine⟨_,rfl,n,_,_,_,rfl,rfl,hn,rfl,rfl,_,rfl,bg (λz=>by cases z) ⟨_,rfl,n,_,_,_,rfl,rfl,hn,rfl,rfl,_,rfl,bg (λz=>by cases z) ⟨_,rfl,n,_,_,_,rfl,rfl,hn,rfl,_,rfl,n,_,_,_,rfl,rfl,hn,rfl,λx dx nx nd ne=>?_⟩⟩⟩
   exact xl ho.d sa se x dx nx nd λH' fs s h f=>⟨rfl,q H' x s nx ⟨dx,fs,h,f⟩⟩
def rG (K:PySem.W.Frag):Sp:=λvs H Q _=>∃(n:Addr) (kd k:Int) (a e:V),vs=[.ref n,.int k]∧SqT K H n [.int kd,a,e]∧okN kd a e∧Q (.bl (hN kd a e k)) H
theorem r6 (T:Txt K mg t):FnOk P w K mg base CX0 2 t.mR t.iV ["_law_numbers_here","_law_key"] (rG K):=by
 have Ye:= @rY P w K mg base t T
 refine T.vb.ok sc__law_holds (λvs H Q E h=>?_) (λcdv A outer s H vs Q E hr h=>?_)
 ·obtain⟨n,kd,k,a,e,rfl,_⟩:=h
  rfl
 ·obtain⟨n,kd,k,a,e,rfl,hn,ho,q⟩:=h
  refine⟨_,(ac (nG (pv 0) (qk rfl (cq (bx (i:=2) sc__law_holds.nd rfl (Or.inl rfl)) (cq (bx (i:=3) sc__law_holds.nd rfl (Or.inl rfl)) (cq (bx (i:=4) sc__law_holds.nd rfl (Or.inl rfl)) mj)))))
   (ac (aR (au bL (pv 2) af (aq _))
   (ai (aF (gI (bz jy (pv 3) (aJ Ye (hr.mono (by decide)) (by rfl) T.uI T.mY.kp T.uU .nil aD (aa (pv 1) ah)) (aq _)) (dt (bz c6 (aJ Ye (hr.mono (by decide)) (by rfl) T.uI T.mY.kp T.uU .nil aD (aa (pv 1) ah)) (pv 4) (aq _))))))
   aE)
   (ac (aR (au bL (pv 2) af (aq _))
   (ai (aF (gI (bz jy (pv 3) (pv 1) (aq _)) (dt (xY (bz gJ (pv 4) b6 (aq _)) (dt (bz c6 (pv 1) (pv 4) (aq _))))))))
   aE)
   (ai (aF (gI (bz jy (pv 4) (pv 1) (aq _)) (dt (xY (bz gJ (pv 3) b6 (aq _)) (dt (bz jy (pv 1) (pv 3) (aq _)))))))))))
   ,?_⟩
  refine⟨_,rfl,n,_,rfl,hn,rfl,_,_,rfl,_,_,rfl,_,_,rfl,rfl,?_⟩
  rcases ho.kd with rfl|rfl|rfl
  ·obtain⟨i,j,rfl,rfl,_⟩:=ho.s
   have q:Q (.bl (decide (i≤tz (k%65536))&&decide (tz (k%65536)<j))) H:=q
   refine⟨_,rfl,rfl,_,rfl,eY rfl ⟨_,rfl,_,rfl,k,rfl,_,_,rfl,rfl,_,rfl,bB (λc=>⟨_,rfl,k,rfl,_,rfl,_,_,rfl,rfl,?_⟩) (λc=>?_)⟩⟩
   ·rw[c,ZR]at q
    exact q
   ·rw[QR.mpr c,Zw]at q
    exact q
  ·refine⟨_,rfl,rfl,_,rfl,bg (λz=>by cases z) ⟨_,rfl,rfl,_,rfl,eY rfl ?_⟩⟩
   obtain⟨i,rfl,i0,rfl|⟨j,rfl,_⟩⟩:=ho.u
   ·have q:Q (.bl (decide (i≤k))) H:=q
    refine⟨_,rfl,_,rfl,_,_,rfl,rfl,_,rfl,bB (λc=>⟨_,rfl,rfl,_,rfl,eY rfl ?_⟩) (λc=>?_)⟩
    ·rw[c]at q
     exact q
    ·rw[QR.mpr c]at q
     exact q
   ·have q:Q (.bl (decide (i≤k)&&decide (k<j))) H:=q
    refine⟨_,rfl,_,rfl,_,_,rfl,rfl,_,rfl,bB (λc=>⟨_,rfl,rfl,_,rfl,bg (λz=>by cases z) ⟨_,rfl,_,rfl,_,_,rfl,rfl,?_⟩⟩) (λc=>?_)⟩
    ·rw[c,ZR]at q
     exact q
    ·rw[QR.mpr c,Zw]at q
     exact q
  ·refine⟨_,rfl,rfl,_,rfl,bg (λz=>by cases z) ⟨_,rfl,rfl,_,rfl,bg (λz=>by cases z) ?_⟩⟩
   obtain⟨j,rfl,j0,rfl|⟨i,rfl,_⟩⟩:=ho.d
   ·have q:Q (.bl (decide (j≤k))) H:=q
    refine⟨_,rfl,_,rfl,_,_,rfl,rfl,_,rfl,bB (λc=>⟨_,rfl,rfl,_,rfl,eY rfl ?_⟩) (λc=>?_)⟩
    ·rw[c]at q
     exact q
    ·rw[QR.mpr c]at q
     exact q
   ·have q:Q (.bl (decide (j≤k)&&decide (k≤i))) H:=q
    refine⟨_,rfl,_,rfl,_,_,rfl,rfl,_,rfl,bB (λc=>⟨_,rfl,rfl,_,rfl,bg (λz=>by cases z) ⟨_,rfl,_,rfl,_,_,rfl,rfl,?_⟩⟩) (λc=>?_)⟩
    ·rw[c,ZR]at q
     exact q
    ·rw[QR.mpr c,Zw]at q
     exact q
theorem sP:(0:Int)<10^(38:Int).toNat:=by decide
theorem DF {i m:Int} (h0:0≤i) (h1:i≤11) (m0:0≤m) (m1:m≤65536):0≤i*m∧i*m≤720896:=⟨X2 h0 m0,Int.le_trans (Int.mul_le_mul h1 m1 m0 (by decide)) (by decide)⟩
def Co (H:Hp) (c n way:Int):St→Hp→Prop:=λσ H'=>H=H'∧∃st:Int,σ=[some (.int c),some (.int st),some (.int n),some (.int way),none]∧0≤st∧st≤10^38
def vn:Sp:=λvs H Q _=>∃c:Int,vs=[.int c]∧∀(H':Hp) (r:Addr) (rs:List Int),Same H H'→H r=none→H' r=some (.lst (rs.map V.int))→rs.length≤12→(∀k∈rs,0≤k∧k<10^39)→Q (.ref r) H'
theorem vH (T:Txt K mg t):FnOk P w K mg base CX0 2 t.qZ t.lM ["_law_cell"] vn:=by
 have Yb:= @kB P w K mg base t T
 refine T.xL.ok sc__law_run (λvs H Q E h=>?_) (λcdv A outer s H vs Q E hr h=>?_)
 ·obtain⟨c,rfl,_⟩:=h
  rfl
 ·obtain⟨c,rfl,q⟩:=h
  refine⟨_,(ac (aR (au bL (am aM (pv 0) af) af (aq _))
   (ac (ar (i:=1) sc__law_run.nd rfl (Or.inr rfl) (am aM (am aP (pv 0) af) (am fF af af)))
   (ai (aF (gc rfl (CScope.of (M:=["_law_k"]) (N:=["_law_cell","_law_start","_law_number","_law_way","_law_step"]) (N':=["_law_cell","_law_start","_law_number","_law_way","_law_step"]) (dsc:=ak fv) rfl rfl (by decide+kernel)) (fj (by rfl) T.j3 (aa (am bq af (am aM (am aP (pv 0) af) af)) ah)) (λ_ _ _ _ _=>(am bq (pv 2) (am cy (pv 0) (aU (AO K rfl) (bN (aa af (aa af (aa af (aa af (aa af ah)))))) (am aM (am aP (pv 1) af) af) (λ_ _=>rfl)))))))))
   aE)
   (ac (ar (i:=2) sc__law_run.nd rfl (Or.inl rfl) (aJ Yb (hr.mono (by decide)) (by rfl) T.uJ T.mZ.kp T.uV .nil aD (aa (pv 0) (aa af ah))))
   (ac (ar (i:=3) sc__law_run.nd rfl (Or.inl rfl) (am aM (pv 2) af))
   (ac (ar (i:=1) sc__law_run.nd rfl (Or.inr rfl) (am aM (am aP (pv 2) af) af))
   (ac (aR (au bL (pv 3) af (aq _))
   (ai (ar (i:=1) sc__law_run.nd rfl (Or.inr rfl) (am aM (am aP (pv 0) af) (am fF af af))))
   aE)
   (ac (aR (au bL (pv 3) af (aq _))
   (ai (ar (i:=1) sc__law_run.nd rfl (Or.inr rfl) (am cy af (am aM (am aP (pv 2) af) af))))
   aE)
   (ac (aR (au bL (pv 3) af (aq _))
   (ai (ar (i:=1) sc__law_run.nd rfl (Or.inr rfl) (am bq (am cy af (am aM (am aP (pv 2) af) af)) (am aM (am aP (pv 2) af) af))))
   aE)
   (ac (aR (au bL (pv 3) af (aq _))
   (ai (ar (i:=1) sc__law_run.nd rfl (Or.inr rfl) (am aM (am aP (pv 2) af) af)))
   aE)
   (ac (ar (i:=4) sc__law_run.nd rfl (Or.inr rfl) (aU aN (bN (aa af (aa af (aa af (aa af (aa af ah)))))) (am aM (am aP (pv 2) af) af) (λ_ _=>rfl)))
   (ai (aF (gc rfl (CScope.of (M:=["_law_k"]) (N:=["_law_cell","_law_start","_law_number","_law_way","_law_step"]) (N':=["_law_cell","_law_start","_law_number","_law_way","_law_step"]) (dsc:=ak fv) rfl rfl (by decide+kernel)) (fj (by rfl) T.j3 (aa (am bq af (am aM (am aP (pv 2) af) af)) ah)) (λ_ _ _ _ _=>(am bq (pv 2) (am cy (pv 0) (pv 5))))))))))))))))
   ,?_⟩
  have two:(0:Int)<2:=by decide
  have t38:(10:Int)^(38:Int).toNat=10^38:=rfl
  refine⟨_,rfl,_,_,rfl,rfl,two,rfl,_,rfl,bB (λz=>?_) (λz=>?_)⟩
  ·have s0:=Qd (c/120) (QS sP)
   have s1:=Qc (c/120) sP
   refine⟨_,rfl,_,_,rfl,rfl,⟨by decide,by decide⟩,_,_,rfl,rfl,⟨by decide,by decide,by decide⟩,_,_,rfl,rfl,sP,?_⟩
   (try dsimp only)
   generalize c/120%10^(38:Int).toNat=st at s0 s1⊢
   rw[t38]at s1
   have b0:=Qd (c/2) (show(12:Int)≠0 by decide)
   have b1:=Qc (c/2) (show(0:Int)<12 by decide)
   refine⟨_,rfl,_,_,rfl,rfl,⟨by decide,by decide⟩,_,_,rfl,rfl,(by show(0:Int)<12;decide),_,_,rfl,rfl,?_⟩
   (try dsimp only)
   generalize c/2%12=m at b0 b1⊢
   refine⟨1+m,rfl,by omega,by omega,λD hD=>lN (n:=(1+m).toNat) (lo:=0) (λi ys H2=>Same H H2∧∃rs:List Int,ys=rs.map V.int∧rs.length=i∧∀k∈rs,0≤k∧k<10^39) ⟨aj hD,[],rfl,rfl,λ_ z=>absurd z QZ⟩ (λi ys H2 hi w hDD=>?_) (λys H2 w hDD=>?_)⟩
   ·obtain⟨s2,rs,rfl,lr,hb⟩:=w
    obtain⟨sp,hsp,p0,p1⟩:=sV (c:=c/24) (n:=5) (L:=[.int 1,.int 3,.int 256,.int 65536,.int 5000]) (P:=λm=>0≤m∧m≤65536) ⟨⟨by decide,by decide⟩,⟨by decide,by decide⟩,⟨by decide,by decide⟩,⟨by decide,by decide⟩,⟨by decide,by decide⟩,trivial⟩ rfl (by decide)
    refine⟨_,rfl,_,rfl,(by show 5≤sizeLine;decide),λp np=>⟨_,rfl,_,_,rfl,rfl,⟨by decide,by decide⟩,_,_,rfl,rfl,(by show(0:Int)<5;decide),p,_,_,_,rfl,rfl,SqL.of ag,hsp,_,_,rfl,rfl,.inr ⟨by omega,by omega⟩,_,_,rfl,rfl,?_⟩⟩
    have sp3:=aj (o:= .lst [.int 1,.int 3,.int 256,.int 65536,.int 5000]) np
    (try dsimp only)
    generalize upd H2 p (.lst [.int 1,.int 3,.int 256,.int 65536,.int 5000])=H3 at sp3⊢
    obtain⟨x0,x1⟩:=DF (i:=0+(i:Int)) (by omega) (by omega) p0 p1
    generalize (0+(i:Int))*sp=x at x0 x1⊢
    refine CNext.mk hi (sp3 _ _ hDD) (b4 (by rw[Q0];omega)) ⟨bU (s2.trans sp3) hD,rs++ [st+x],by rw[Q9];rfl,by rw[Q8,lr];rfl,λk hk=>?_⟩
    rcases Q4.mp hk with hk|hk
    ·exact hb k hk
    ·rw[Qb.mp hk]
     constructor<;>omega
   ·obtain⟨s2,rs,rfl,lr,hb⟩:=w
    exact q H2 D rs s2 hD hDD (by omega) hb
  clear z
  refine⟨_,rfl,c,1,rfl,λn n0 n1=>?_⟩
  refine⟨_,rfl,_,_,rfl,rfl,(by show(0:Int)<5;decide),?_⟩
  (try dsimp only)
  generalize n%5=way
  have s0:=Qd (n/5) (show(50:Int)≠0 by decide)
  have s1:=Qc (n/5) (show(0:Int)<50 by decide)
  refine⟨_,rfl,_,_,rfl,rfl,⟨by decide,by decide⟩,_,_,rfl,rfl,(by show(0:Int)<50;decide),?_⟩
  (try dsimp only)
  generalize n/5%50=st at s0 s1⊢
  refine eU (Co H c n way) (λnx go=>?_) (λσ1 H1 w=>?_)
  ·refine⟨_,rfl,rfl,_,rfl,bB (λz=>?_) (λz=>go _ _ ⟨rfl,st,rfl,s0,by omega⟩)⟩
   have a0:=Qd (c/5) (QS sP)
   have a1:=Qc (c/5) sP
   refine⟨_,rfl,_,_,rfl,rfl,⟨by decide,by decide⟩,_,_,rfl,rfl,⟨by decide,by decide,by decide⟩,_,_,rfl,rfl,sP,go _ _ ⟨rfl,_,rfl,a0,?_⟩⟩
   rw[t38]at a1⊢
   omega
  clear s0 s1 st
  obtain⟨rfl,st,rfl,s0,s1⟩:=w
  refine eU (Co H c n way) (λnx go=>?_) (λσ1 H1 w=>?_)
  ·refine⟨_,rfl,rfl,_,rfl,bB (λz=>?_) (λz=>go _ _ ⟨rfl,st,rfl,s0,s1⟩)⟩
   have a0:=Qd (n/5) (show(40:Int)≠0 by decide)
   have a1:=Qc (n/5) (show(0:Int)<40 by decide)
   exact⟨_,rfl,_,_,rfl,rfl,⟨by decide,by decide⟩,_,_,rfl,rfl,(by show(0:Int)<40;decide),_,_,rfl,rfl,.inl ⟨by decide,by decide⟩,go _ _ ⟨rfl,_,rfl,by omega,by omega⟩⟩
  clear s0 s1 st
  obtain⟨rfl,st,rfl,s0,s1⟩:=w
  refine eU (Co H c n way) (λnx go=>?_) (λσ1 H1 w=>?_)
  ·refine⟨_,rfl,rfl,_,rfl,bB (λz=>?_) (λz=>go _ _ ⟨rfl,st,rfl,s0,s1⟩)⟩
   have a0:=Qd (n/5) (show(9:Int)≠0 by decide)
   have a1:=Qc (n/5) (show(0:Int)<9 by decide)
   have b0:=Qd (n/45) (show(7:Int)≠0 by decide)
   have b1:=Qc (n/45) (show(0:Int)<7 by decide)
   exact⟨_,rfl,_,_,rfl,rfl,⟨by decide,by decide⟩,_,_,rfl,rfl,(by show(0:Int)<9;decide),_,_,rfl,rfl,.inl ⟨by decide,by decide⟩,_,rfl,_,_,rfl,rfl,⟨by decide,by decide⟩,_,_,rfl,rfl,(by show(0:Int)<7;decide),_,_,rfl,rfl,go _ _ ⟨rfl,_,rfl,by omega,by omega⟩⟩
  clear s0 s1 st
  obtain⟨rfl,st,rfl,s0,s1⟩:=w
  refine eU (Co H c n way) (λnx go=>?_) (λσ1 H1 w=>?_)
  ·refine⟨_,rfl,rfl,_,rfl,bB (λz=>?_) (λz=>go _ _ ⟨rfl,st,rfl,s0,s1⟩)⟩
   have a0:=Qd (n/5) (show(3000:Int)≠0 by decide)
   have a1:=Qc (n/5) (show(0:Int)<3000 by decide)
   exact⟨_,rfl,_,_,rfl,rfl,⟨by decide,by decide⟩,_,_,rfl,rfl,(by show(0:Int)<3000;decide),go _ _ ⟨rfl,_,rfl,by omega,by omega⟩⟩
  clear s0 s1 st
  obtain⟨rfl,st,rfl,s0,s1⟩:=w
  obtain⟨sp,hsp,p0,p1⟩:=sV (c:=n/20000) (n:=5) (L:=[.int 1,.int 3,.int 256,.int 65536,.int 5000]) (P:=λm=>0≤m∧m≤65536) ⟨⟨by decide,by decide⟩,⟨by decide,by decide⟩,⟨by decide,by decide⟩,⟨by decide,by decide⟩,⟨by decide,by decide⟩,trivial⟩ rfl (by decide)
  refine⟨(by show 5≤sizeLine;decide),λp np=>⟨_,rfl,_,_,rfl,rfl,⟨by decide,by decide⟩,_,_,rfl,rfl,(by show(0:Int)<5;decide),p,_,_,_,rfl,rfl,SqL.of ag,hsp,?_⟩⟩
  have sp3:=aj (o:= .lst [.int 1,.int 3,.int 256,.int 65536,.int 5000]) np
  (try dsimp only)
  generalize upd H p (.lst [.int 1,.int 3,.int 256,.int 65536,.int 5000])=H3 at sp3⊢
  have b0:=Qd (n/100000) (show(12:Int)≠0 by decide)
  have b1:=Qc (n/100000) (show(0:Int)<12 by decide)
  refine⟨_,rfl,_,_,rfl,rfl,⟨by decide,by decide⟩,_,_,rfl,rfl,(by show(0:Int)<12;decide),_,_,rfl,rfl,?_⟩
  (try dsimp only)
  generalize n/100000%12=m at b0 b1⊢
  refine⟨1+m,rfl,by omega,by omega,λD hD=>lN (n:=(1+m).toNat) (lo:=0) (λi ys H2=>Same H3 H2∧∃rs:List Int,ys=rs.map V.int∧rs.length=i∧∀k∈rs,0≤k∧k<10^39) ⟨aj hD,[],rfl,rfl,λ_ z=>absurd z QZ⟩ (λi ys H2 hi w hDD=>?_) (λys H2 w hDD=>?_)⟩
  ·obtain⟨s2,rs,rfl,lr,hb⟩:=w
   obtain⟨x0,x1⟩:=DF (i:=0+(i:Int)) (by omega) (by omega) p0 p1
   refine⟨_,rfl,_,rfl,_,rfl,_,_,rfl,rfl,.inr ⟨by omega,by omega⟩,_,_,rfl,rfl,?_⟩
   (try dsimp only)
   generalize (0+(i:Int))*sp=x at x0 x1⊢
   refine CNext.mk hi hDD (b4 (by rw[Q0];omega)) ⟨bU s2 hD,rs++ [st+x],by rw[Q9];rfl,by rw[Q8,lr];rfl,λk hk=>?_⟩
   rcases Q4.mp hk with hk|hk
   ·exact hb k hk
   ·rw[Qb.mp hk]
    constructor<;>omega
  ·obtain⟨s2,rs,rfl,lr,hb⟩:=w
   exact q H2 D rs (sp3.trans s2) (d7 sp3 hD) hDD (by omega) hb
def Wh (F:Addr→Prop) (d:Addr):Addr→Prop:=λb=>F b∨b=d
theorem Fr.wh {F F':Addr→Prop} {d:Addr} {H H':Hp} (f:Fr F F' H H'):Fr (Wh F d) (Wh F' d) H H':=λb o n eb=>⟨(f b o (λz=>n (.inl z)) eb).1,λz=>z.elim (f b o (λz=>n (.inl z)) eb).2 λz=>n (.inr z)⟩
theorem Fr.wd {F:Addr→Prop} {d:Addr} {H:Hp} {o:HO}:Fr (Wh F d) (Wh F d) H (upd H d o):=λb o n eb=>⟨by rw[ae λz=>n (.inr z)];exact eb,n⟩
structure Jh (K:PySem.W.Frag) (t:Adr) (H:Hp) (a d:Addr) (F:Addr→Prop) (x:HSt):Prop where
 A:HoA K t H a F x
 di:H d=some (.dK (aI x.st.kv))
 nd:¬F d
 kb:∀k∈x.st.kv.map (·.1),0≤k∧k<10^40
 iv:∀p∈x.st.kv,∃i:Int,p.2= .int i
 le:x.st.kv.length≤301
 ma:x.ma=0
theorem Ej {kv:List (Int×V)} {k i:Int} (h:∀p∈kv,∃i:Int,p.2= .int i):∀p∈bj kv k (.int i),∃i:Int,p.2= .int i:=λp hp=>by
 unfold bj at hp
 split at hp
 ·obtain⟨q,hq,rfl⟩:=Qg.mp hp
  by_cases c:q.1=k
  ·exact⟨i,by rw[if_pos c]⟩
  ·rw[if_neg c]
   exact h q hq
 ·rcases Q4.mp hp with y|y
  ·exact h p y
  ·rw[Qb.mp y];exact⟨i,rfl⟩
section
variable {H H':Hp} {a d:Addr} {F F':Addr→Prop} {x:HSt} {k i:Int}
theorem Jh.fr (J:Jh K t H a d F x) (A:HoA K t H' a F' x) (f:Fr F F' H H'):Jh K t H' a d F' x:=⟨A,(f _ _ J.nd J.di).1,(f _ _ J.nd J.di).2,J.kb,J.iv,J.le,J.ma⟩
theorem Jh.same (J:Jh K t H a d F x) (s:Same H H'):Jh K t H' a d F x:=J.fr (J.A.same s) (Fr.of_same s)
theorem Jh.put (J:Jh K t H a d F x) {x':HSt} (A:HoA K t H' a F' x') (f:Fr F F' H H') (e:x'.st=x.st.put k (.int i)) (m:x'.ma=x.ma) (k0:0≤k∧k<10^40) (l:x.st.kv.length≤300):Jh K t (L2.upd H' d (.dK (aI (bj x.st.kv k (.int i))))) a d F' x':=by
 obtain⟨d1,n1⟩:=f _ _ J.nd J.di
 have ek:x'.st.kv=bj x.st.kv k (.int i):=by rw[e];exact SSt.three_kv
 refine⟨A.upd n1 (λxs z=>by rw[d1]at z;cases z),by rw[ek];exact ag,n1,λz hz=>?_,by rw[ek];exact Ej J.iv,?_,m.trans J.ma⟩
 ·rw[ek,mD]at hz
  split at hz
  ·exact J.kb z hz
  ·rcases Q4.mp hz with y|y
   ·exact J.kb z y
   ·rw[Qb.mp y];exact k0
 ·rw[ek]
  have:=bX x.st.kv k (.int i)
  omega
theorem Jh.drop (J:Jh K t H a d F x) {x':HSt} (A:HoA K t H' a F' x') (f:Fr F F' H H') (e:x'.st=x.st.drop k) (m:x'.ma=x.ma):Jh K t (L2.upd H' d (.dK (aI (bK x.st.kv k)))) a d F' x':=by
 obtain⟨d1,n1⟩:=f _ _ J.nd J.di
 have ek:x'.st.kv=bK x.st.kv k:=by rw[e];exact SSt.three_kv
 have sub:∀p∈bK x.st.kv k,p∈x.st.kv:=λp hp=>(QB.mp hp).1
 refine⟨A.upd n1 (λxs z=>by rw[d1]at z;cases z),by rw[ek];exact ag,n1,λz hz=>?_,by rw[ek];exact λp hp=>J.iv p (sub p hp),?_,m.trans J.ma⟩
 ·rw[ek]at hz
  obtain⟨p,hp,rfl⟩:=Qg.mp hz
  exact J.kb _ (Qg.mpr ⟨p,sub p hp,rfl⟩)
 ·rw[ek]
  exact QK (Qn _ _) J.le
end
def uk (K:PySem.W.Frag) (t:Adr):Sp:=λvs H Q _=>∃(a d:Addr) (c:Int) (F:Addr→Prop) (x:HSt),vs=[.ref a,.ref d,.int c]∧Jh K t H a d F x∧x.now<3900∧x.st.kv.length≤300∧
 ∀(H':Hp) (F':Addr→Prop) (x':HSt),Jh K t H' a d F' x'→x'.now≤x.now+12→x'.st.kv.length≤300→Fr (Wh F d) (Wh F' d) H H'→Q .non H'
theorem uF (T:Txt K mg t):FnOk P w K mg base CX0 7 t.oJ t.jL ["_law_house_here","_law_kept","_law_cell"] (uk K t):=by
 have Ja:= @qz P w K mg base t T
 have Jd:= @sf P w K mg base t T
 have Yg:= @vH P w K mg base t T
 refine T.wC.ok sc__law_deed (λvs H Q E h=>?_) (λcdv A outer s H vs Q E hr h=>?_)
 ·obtain⟨a,d,c,F,x,rfl,_⟩:=h
  rfl
 ·obtain⟨a,d,c,F,x,rfl,J,l1,l0,q⟩:=h
  refine⟨_,(ac (ar (i:=3) sc__law_deed.nd rfl (Or.inl rfl) (aJ Yg (hr.mono (by decide)) (by rfl) T.Ew T.xL.kp T.EY .nil aD (aa (am aP (pv 2) af) ah)))
   (ai (gH PassesOwn.never rfl (fj (by rfl) T.j3 (aa (az aA (by rfl) T.bC aZ (aa (pv 3) ah)) ah)) (bx (i:=4) sc__law_deed.nd rfl (Or.inl rfl))
   (ai (aR (au bL (am aM (pv 2) af) af (aq _))
   (ai (aR (xb (Ao (kG hr) (aU aN (pv 3) (pv 4) (λ_ _=>rfl)) (pv 1)))
   (ac (aS (aV (pv 0) T.aY T.BI Ja (hr.mono (by decide)) T.BR .nil aD (aa (aU aN (pv 3) (pv 4) (λ_ _=>rfl)) ah)))
   (ai (aS (dH Zr Xe PySem.F.type_dict_pop ya (pv 1) (aa (aU aN (pv 3) (pv 4) (λ_ _=>rfl)) ah)))))
   aE))
   (ai (aR (au c6 (az tR (by rfl) T.bC aZ (aa (pv 1) ah)) af (aq _))
   (ac (ar (i:=5) sc__law_deed.nd rfl (Or.inl rfl) (am cy (am aM (am bq (am aP (pv 2) af) (pv 4)) (am fF af af)) (aU aN (bN (aa af (aa (xX uf af) ah))) (am aM (am aP (pv 2) af) af) (λ_ _=>rfl))))
   (ac (aR (au bL (am aM (am aP (pv 2) af) af) af (aq _))
   (ai (ar (i:=5) sc__law_deed.nd rfl (Or.inl rfl) (am fE (am aM (am bq (am vF (pv 2) (am cy af (am fF af af))) (pv 4)) (am cy af (am fF af af))) (am fF af af))))
   aE)
   (ac (aS (aV (pv 0) T.aY T.CO Jd (hr.mono (by decide)) T.Dh .nil aD (aa (aU aN (pv 3) (pv 4) (λ_ _=>rfl)) (aa (pv 5) ah))))
   (ai (pf (kG hr) (pv 1) (aU aN (pv 3) (pv 4) (λ_ _=>rfl)) (pv 5) rfl)))))
   aE)))))))
   ,?_⟩
  refine⟨_,rfl,_,_,rfl,rfl,⟨by decide,by decide⟩,_,rfl,λH1 r rs s1 nr hr lr rb=>?_⟩
  have J1:=J.same s1
  have nF:¬F r:=J.A.out nr
  have nrd:r≠d:=al J.di nr|>.symm
  refine⟨_,rfl,r,_,rfl,.inl (SqL.of hr),?_⟩
  rw[Q0]
  refine⟨(rs.length:Int),rfl,by omega,by omega,xz (n:=(rs.length:Int).toNat) (λi σ H'=>∃(F':Addr→Prop) (x':HSt) (v4 v5:Option V),σ=[some (.ref a),some (.ref d),some (.int c),some (.ref r),v4,v5]∧Jh K t H' a d F' x'∧x'.now≤x.now+i∧x'.st.kv.length≤300∧Fr (Wh F d) (Wh F' d) H1 H') ⟨F,x,none,none,rfl,J1,by omega,l0,Fr.refl⟩ (λi σ H2 hi w=>?_) (λσ H2 w=>?_)⟩
  ·obtain⟨F2,x2,v4,v5,rfl,J2,l2,e2,f2⟩:=w
   obtain⟨hr2,nr2⟩:=f2 _ _ (λz=>z.elim nF nrd) hr
   have hi':i<rs.length:=by omega
   obtain⟨k,ek⟩:∃k,rs[i]?=some k:=⟨_,Q3 hi'⟩
   obtain⟨k0,k1⟩:=rb k (Q1 ek)
   have at1:atI (rs.map V.int) (0+(i:Int))=some (.int k):=by
    rw[Int.zero_add]
    refine pC ?_
    rw[QA,ek]
    rfl
   obtain⟨dx2,fs2,hi2,hm2,_⟩:=J2.A.ins
   have m2:=J2.ma
   refine⟨_,rfl,_,_,rfl,rfl,(by show(0:Int)<4;decide),rfl,_,rfl,bB (λz=>?_) (λz=>?_)⟩
   ·refine⟨_,rfl,_,rfl,r,_,_,_,rfl,rfl,SqL.of hr2,at1,_,rfl,d,_,rfl,DGet.k (k:=Sum.inl k) J2.di,_,rfl,?_⟩
    rw[liftK_val]
    cases ev:aL x2.st.kv k with
    |none=>exact cX ⟨F2,x2,_,_,rfl,J2,by omega,e2,f2⟩
    |some v=>
     refine cC ⟨_,rfl,a,dx2,fs2,rfl,hi2,hm2 _ (by decide+kernel),_,rfl,_,rfl,r,_,_,_,rfl,rfl,SqL.of hr2,at1,a,k,F2,x2,rfl,J2.A,k0,by omega,λ_ H3 F3 ks3 r3 q3 pa3 A3 N3 f3=>?_,λz=>by rw[ev]at z;cases z⟩
     obtain⟨d3,n3⟩:=f3 _ _ J2.nd J2.di
     obtain⟨hr3,nr3⟩:=f3 _ _ (λz=>nr2 (.inl z)) hr2
     refine⟨_,rfl,.inr (.inr (.inl ⟨rfl,.inl ⟨_,d3⟩⟩)),_,rfl,_,rfl,r,_,_,_,rfl,rfl,SqL.of hr3,at1,d,_,Sum.inl k,v,rfl,rfl,d3,liftK_val.trans ev,?_⟩
     rw[qG]
     exact⟨F3,_,_,_,rfl,J2.drop A3 f3 rfl rfl,by show x2.now+1≤_;omega,by rw[show(x2.st.drop k).kv=bK x2.st.kv k from SSt.three_kv];exact QK (Qn _ _) e2,(f2.trans f3.wh).trans Fr.wd⟩
   ·refine⟨_,rfl,d,_,rfl,J2.di,_,_,rfl,rfl,_,rfl,bB (λy=>?_) (λy=>⟨F2,x2,_,_,rfl,J2,by omega,e2,f2⟩)⟩
    have y:=of_decide_eq_true y
    rw[bG]at y
    refine eU (λσ H'=>∃v:Int,σ=[some (.ref a),some (.ref d),some (.int c),some (.ref r),some (.int (0+(i:Int))),some (.int v)]∧Same H2 H') (λnx go=>?_) (λσ H3 w=>?_)
    ·obtain⟨sg,hsg,g0⟩:=sV (c:=c/16) (n:=2) (L:=[.int 1,.int (-1)]) (P:=λm=> -2<m∧m<2) ⟨⟨by decide,by decide⟩,⟨by decide,by decide⟩,trivial⟩ rfl (by decide)
     exact⟨_,rfl,_,_,rfl,rfl,⟨by decide,by decide⟩,_,rfl,_,_,rfl,rfl,_,_,rfl,rfl,⟨by decide,by decide,by decide⟩,_,_,rfl,rfl,pJ,_,rfl,(by show 2≤sizeLine;decide),λp np=>⟨_,rfl,_,_,rfl,rfl,⟨by decide,by decide⟩,_,_,rfl,rfl,(by show(0:Int)<2;decide),p,_,_,_,rfl,rfl,SqL.of ag,hsg,_,_,rfl,rfl,.inr ⟨by omega,by omega⟩,go _ _ ⟨_,rfl,aj np⟩⟩⟩
    obtain⟨v,rfl,s3⟩:=w
    refine eU (λσ H'=>∃v:Int,σ=[some (.ref a),some (.ref d),some (.int c),some (.ref r),some (.int (0+(i:Int))),some (.int v)]∧Same H2 H') (λnx go=>?_) (λσ H4 w=>?_)
    ·refine⟨_,rfl,_,_,rfl,rfl,⟨by decide,by decide⟩,_,_,rfl,rfl,(by show(0:Int)<2;decide),rfl,_,rfl,bB (λ_=>?_) (λ_=>go _ _ ⟨v,rfl,s3⟩)⟩
     exact⟨_,rfl,_,_,rfl,rfl,⟨by decide,by decide,by decide⟩,_,_,rfl,rfl,.inl ⟨by decide,by decide⟩,_,_,rfl,rfl,⟨by decide,by decide⟩,_,rfl,_,_,rfl,rfl,_,_,rfl,rfl,⟨by decide,by decide,by decide⟩,_,_,rfl,rfl,.inl ⟨by decide,by decide⟩,_,_,rfl,rfl,(by show(0:Int)<2*10^(39:Int).toNat;decide),_,_,rfl,rfl,⟨by decide,by decide,by decide⟩,_,_,rfl,rfl,go _ _ ⟨_,rfl,s3⟩⟩
    clear s3 v
    obtain⟨v,rfl,s4⟩:=w
    have J4:=J2.same s4
    obtain⟨dx4,fs4,hi4,hm4,_⟩:=J4.A.ins
    have hr4:=s4 _ _ hr2
    refine⟨_,rfl,a,dx4,fs4,rfl,hi4,hm4 _ (by decide+kernel),_,rfl,_,rfl,r,_,_,_,rfl,rfl,SqL.of hr4,at1,_,rfl,a,k,v,F2,x2,rfl,J4.A,k0,by omega,λH5 F5 ks5 r5 q5 pa5 A5 N5 f5=>?_⟩
    obtain⟨d5,n5⟩:=f5 _ _ J4.nd J4.di
    obtain⟨hr5,nr5⟩:=f5 _ _ (λz=>nr2 (.inl z)) hr4
    refine⟨_,rfl,_,rfl,_,rfl,_,rfl,r,_,_,_,rfl,rfl,SqL.of hr5,at1,d,_,rfl,DPut.k (k:=Sum.inl k) d5 (by rw[bG];exact bi (by omega)),?_⟩
    rw[dQ]
    exact⟨F5,_,_,_,rfl,J4.put A5 f5 rfl rfl ⟨k0,by omega⟩ (by omega),by show x2.now+1≤_;omega,by rw[show(x2.st.put k (.int v)).kv=bj x2.st.kv k (.int v) from SSt.three_kv];have:=bX x2.st.kv k (.int v);omega,(f2.trans ((Fr.of_same s4).trans f5.wh)).trans Fr.wd⟩
  ·obtain⟨F2,x2,v4,v5,rfl,J2,l2,e2,f2⟩:=w
   exact q H2 F2 x2 J2 (by omega) e2 ((Fr.of_same s1).trans f2)
def rF (K:PySem.W.Frag) (t:Adr):Sp:=λvs H Q _=>∃(l:Addr) (cs:List Int),vs=[.ref l]∧H l=some (.lst (cs.map V.int))∧cs.length≤63∧
 ∀(H':Hp) (r a d:Addr) (F:Addr→Prop) (x:HSt),H r=none→¬F r→H' r=some (.tup [.ref a,.ref d])→Jh K t H' a d F x→x.now≤12*cs.length→x.st.kv.length≤300→(∀b o,H b=some o→H' b=some o∧¬Wh F d b)→Q (.ref r) H'
theorem rZ (T:Txt K mg t):FnOk P w K mg base CX0 8 t.mQ t.iU ["_law_cells"] (rF K t):=by
 have Jc:= @qy P w K mg base t T
 have Y6:= @uF P w K mg base t T
 refine T.va.ok sc__law_house (λvs H Q E h=>?_) (λcdv A outer s H vs Q E hr h=>?_)
 ·obtain⟨l,cs,rfl,_⟩:=h
  rfl
 ·obtain⟨l,cs,rfl,hl,ll,q⟩:=h
  refine⟨_,(ac (ar (i:=1) sc__law_house.nd rfl (Or.inl rfl) (mn T.FD Jc (hr.mono (by decide)) (by rfl) T.FG T.BQ .nil aD))
   (ac (ar (i:=2) sc__law_house.nd rfl (Or.inl rfl) g9)
   (ac (gH PassesOwn.never rfl (cU (pv 0)) (bx (i:=3) sc__law_house.nd rfl (Or.inl rfl))
   (ai (aS (aJ Y6 (hr.mono (by decide)) (by rfl) T.DJ T.wC.kp T.DQ .nil aD (aa (pv 1) (aa (pv 2) (aa (pv 3) ah)))))))
   (ai (aF (bM (aa (pv 1) (aa (pv 2) ah))))))))
   ,?_⟩
  refine λa dx na nd nad=>⟨a,dx,rfl,ag,λH1 F1 A1 f1=>⟨rfl,λd n1=>?_⟩⟩
  have o1:∀b o,H b=some o→H1 b=some o∧¬F1 b:=λb o e=>f1 b o (al e na) (by rw[ae (al e na),ae (al e nd)];exact e)
  have J2:Jh K t (upd H1 d (.dK [])) a d F1 HSt.new:=⟨A1.same (aj n1),ag,A1.out n1,(λ_ z=>by cases z),(λ_ z=>by cases z),by decide,rfl⟩
  have o2:∀b o,H b=some o→upd H1 d (.dK []) b=some o∧¬Wh F1 d b:=λb o e=>⟨by rw[ae (al (o1 b o e).1 n1)];exact(o1 b o e).1,λz=>z.elim (o1 b o e).2 (al (o1 b o e).1 n1)⟩
  show Cf _ _ _ _ (upd H1 d (.dK []))
  generalize upd H1 d (.dK [])=H2 at J2 o2⊢
  refine⟨_,rfl,l,rfl,⟨_,SqL.of (o2 _ _ hl).1⟩,nT (K:=K) (a:=l) (xs:=cs.map V.int) (λi σ H'=>∃(F':Addr→Prop) (x':HSt) (v3:Option V),σ=[some (.ref l),some (.ref a),some (.ref d),v3]∧Jh K t H' a d F' x'∧x'.now≤12*i∧x'.st.kv.length≤300∧∀b o,H b=some o→H' b=some o∧¬Wh F' d b) ⟨F1,_,none,rfl,J2,by decide,by decide,o2⟩ (λi σ H' _ w=>?_) (λi z σ H' hz w=>?_) (λσ H' w=>?_)⟩
  ·obtain⟨F',x',v3,rfl,J',l',e',o'⟩:=w
   exact SqL.of (o' _ _ hl).1
  ·obtain⟨F',x',v3,rfl,J',l',e',o'⟩:=w
   have hi:=(Q2.mp hz).1
   rw[Q0]at hi
   obtain⟨c,hc,rfl⟩:=Qg.mp (Q1 hz)
   exact⟨_,rfl,_,rfl,_,rfl,a,d,c,F',x',rfl,J',by omega,e',λH3 F3 x3 J3 l3 e3 f3=>⟨F3,x3,_,rfl,J3,by omega,e3,λb o e=>f3 b o (o' b o e).2 (o' b o e).1⟩⟩
  ·obtain⟨F',x',v3,rfl,J',l',e',o'⟩:=w
   rw[Q0]at l'
   refine⟨_,rfl,_,rfl,(by show 2≤sizeLine;decide),λr nr=>?_⟩
   refine q _ r a d F' x' ?_ (J'.A.out nr) ag (J'.same (aj nr)) (by omega) e' λb o e=>⟨by rw[ae (al (o' b o e).1 nr)];exact(o' b o e).1,(o' b o e).2⟩
   cases e:H r with
   |none=>rfl
   |some o=>rw[(o' _ _ e).1]at nr;cases nr
theorem tkB (T:Txt K mg t) {kd:Int} (h:kd=0∨kd=1∨kd=2):Cls K (tkC t kd)∧XIs K (tkC t kd)∧∃b1 b2:Bool,PySem.W.kitOne K (.ref (tkC t kd)) (.ref t.aO)=some b1∧PySem.W.kitOne K (.ref (tkC t kd)) (.ref t.cK)=some b2∧(kd=0→b1=true)∧NoAttr K (tkC t kd) "at"∧NoAttr K (tkC t kd) "end":=by
 rcases h with rfl|rfl|rfl
 ·exact⟨T.br,T.iq,_,_,T.lI,T.BJ,λ_=>rfl,T.gK,T.bV⟩
 ·exact⟨T.eP,T.i7,_,_,T.sC,T.vW,λz=>absurd z (by decide),T.mw,T.hV⟩
 ·exact⟨T.bS,T.cQ,_,_,T.o0,T.qH,λz=>absurd z (by decide),T.fI,T.gf⟩
def uj (K:PySem.W.Frag) (t:Adr):Sp:=λvs H Q _=>∃(p g lk:Addr) (kd:Int) (av e v a':V) (ts:List Tp) (ks:List Int),vs=[.ref p,v,.ref g,.ref lk]∧TkAt t H p kd av e∧okN kd av e∧(v= .non∨∃q:Addr,v= .ref q∧TkAt t H q kd a' e∧okN kd a' e∧(∀k,0≤k→hN kd a' e k=true→hN kd av e k=true)∧(ts=[]→kd=0∧inI av<inI a')∧∀u∈ts,0≤u.k∧hN kd a' e u.k=false)∧H g=some (.lst (ts.map λe=>V.ref e.p))∧(∀e∈ts,H e.p=some (.tup [.int e.k,e.v]))∧H lk=some (.lst (ks.map V.int))∧(∀k∈ks,0≤k)∧
 ∀H',Same H H'→Q (.bl true) H'
theorem uE (T:Txt K mg t):FnOk P w K mg base CX0 4 t.oI t.jK ["_law_token_here","_law_rest","_law_rows","_law_keys"] (uj K t):=by
 have G8:= @gd P w K mg base t T
 have J0:= @fH P w K mg base t T
 have Y3:= @iK P w K mg base t T
 refine T.wB.ok sc__law_less (λvs H Q E h=>?_) (λcdv A outer s H vs Q E hr h=>?_)
 ·obtain⟨p,g,lk,kd,av,e,v,a',ts,ks,rfl,_⟩:=h
  rfl
 ·obtain⟨p,g,lk,kd,av,e,v,a',ts,ks,rfl,TK,on,hv,hg,tu,hk,k0,q⟩:=h
  refine⟨_,(ac (aR (au gJ (pv 1) b6 (aq _))
   (ai (aF vE))
   aE)
   (ac (gH PassesOwn.never rfl (cU (pv 3)) (bx (i:=4) sc__law_less.nd rfl (Or.inl rfl))
   (ai (aR (PW.pt (dM (bY (jx (kk:=3) (e7 (bP T.br T.dP G8 T.dW (by decide)) (e7 (bP T.eP T.gh Y3 T.gi (by decide)) (bP T.bS T.dZ J0 T.d9 (by decide)))) (hr.mono (by decide)) (pv 1) (aa (pv 4) ah))) (cT (iI (bY (jx (kk:=3) (e7 (bP T.br T.dP G8 T.dW (by decide)) (e7 (bP T.eP T.gh Y3 T.gi (by decide)) (bP T.bS T.dZ J0 T.d9 (by decide)))) (hr.mono (by decide)) (pv 0) (aa (pv 4) ah)))))))
   (ai (aF vE))
   aE)))
   (ac (aR (PW.pt (qh (au Ap (az (bQ K rfl) (by rfl) T.bD bh (aa (pv 1) (aa (bE (v:= .ref t.aO) (by rfl) T.fJ rfl) ah))) (az (bQ K rfl) (by rfl) T.bD bh (aa (pv 0) (aa (bE (v:= .ref t.aO) (by rfl) T.fJ rfl) ah))) (aq _)) (lw (au Ap (az (bQ K rfl) (by rfl) T.bD bh (aa (pv 1) (aa (bE (v:= .ref t.cK) (by rfl) T.vR rfl) ah))) (az (bQ K rfl) (by rfl) T.bD bh (aa (pv 0) (aa (bE (v:= .ref t.cK) (by rfl) T.vR rfl) ah))) (aq _)))))
   (ai (aF vE))
   aE)
   (ac (aR (au Ap (aC (pv 1) rfl) (aC (pv 0) rfl) (aq _))
   (ai (aF vE))
   aE)
   (ac (aR (au (Ep K rfl hr.u20) (pv 2) (bN ah) (aq _))
   (ai (aF (gI (az (bQ K rfl) (by rfl) T.bD bh (aa (pv 1) (aa (bE (v:= .ref t.aO) (by rfl) T.fJ rfl) ah))) (dt (bz sZ (aC (pv 1) rfl) (aC (pv 0) rfl) (aq _))))))
   aE)
   (ai (aF (Al (jx (kk:=3) (e7 (bP T.br T.dP G8 T.dW (by decide)) (e7 (bP T.eP T.gh Y3 T.gi (by decide)) (bP T.bS T.dZ J0 T.d9 (by decide)))) (hr.mono (by decide)) (pv 1) (aa (aU dw (aU aN (pv 2) (xX uf af) (λ_ _=>rfl)) af (λ_ _=>rfl)) ah))))))))))
   ,?_⟩
  rcases hv with rfl|⟨r,rfl,TR,or',le,em,ou⟩
  ·exact⟨_,rfl,rfl,_,rfl,eY rfl (q H (Same.refl _))⟩
  refine⟨_,rfl,rfl,_,rfl,bg (λz=>by cases z) ?_⟩
  unfold xR
  (try dsimp only)
  refine⟨_,rfl,lk,rfl,⟨_,SqL.of hk⟩,nT (K:=K) (a:=lk) (xs:=ks.map V.int) (λi σ H'=>∃v4:Option V,σ=[some (.ref p),some (.ref r),some (.ref g),some (.ref lk),v4]∧Same H H') ⟨none,rfl,Same.refl _⟩ (λi σ H' _ w=>by obtain⟨_,_,s⟩:=w;exact SqL.of (s _ _ hk)) (λi z σ H' hz w'=>?_) (λσ H' w'=>?_)⟩
  ·obtain⟨v4,rfl,s⟩:=w'
   obtain⟨k,hk',rfl⟩:=Qg.mp (Q1 hz)
   have kn:=k0 k hk'
   obtain⟨dr,fr,hr',tr⟩:=TR.same s
   refine⟨_,rfl,r,_,dr,fr,_,rfl,hr',tr.ho,dHN or'.kd,_,rfl,pe or' hr' tr kn λH2 s2=>⟨_,rfl,?_⟩⟩
   have s3:=s.trans s2
   cases c:hN kd a' e k with
   |false=>exact cX ⟨_,rfl,s3⟩
   |true=>
    obtain⟨dp,fp,hp,tp⟩:=TK.same s3
    refine cC ⟨_,rfl,p,_,dp,fp,_,rfl,hp,tp.ho,dHN on.kd,_,rfl,pe on hp tp kn λH3 s4=>⟨_,rfl,?_⟩⟩
    rw[le k kn c]
    exact cX ⟨_,rfl,s3.trans s4⟩
  obtain⟨v4,rfl,s⟩:=w'
  obtain⟨dr,fr,hr',tr⟩:=TR.same s
  obtain⟨dp,fp,hp,tp⟩:=TK.same s
  obtain⟨cl,xi,b1,b2,k1,k2,eb,na,ne⟩:=tkB T on.kd
  (try dsimp only)
  refine⟨_,rfl,_,_,_,_,rfl,TyOf.ins hr' cl xi.1 xi.2 xi.3 xi.4,k1,_,rfl,_,_,_,_,rfl,TyOf.ins hp cl xi.1 xi.2 xi.3 xi.4,k1,?_⟩
  refine⟨rfl,_,rfl,AQ rfl ⟨_,rfl,_,_,_,_,rfl,TyOf.ins hr' cl xi.1 xi.2 xi.3 xi.4,k2,_,rfl,_,_,_,_,rfl,TyOf.ins hp cl xi.1 xi.2 xi.3 xi.4,k2,rfl,_,rfl,AQ rfl ?_⟩⟩
  (try dsimp only)
  have se:Ef e e=true:=by rcases on.nums.2 with rfl|⟨i,rfl⟩<;>rfl
  refine⟨_,rfl,r,_,dr,fr,_,rfl,hr',cl,ne,tr.end_,_,rfl,p,_,dp,fp,_,rfl,hp,cl,ne,tp.end_,se,_,rfl,AQ rfl ?_⟩
  (try dsimp only)
  refine⟨_,rfl,Qf _,λz nz=>⟨g,z,_,rfl,rfl,SqL.of (aj nz _ _ (s _ _ hg)),SqL.of ag,?_⟩⟩
  have s5:=s.trans (aj (o:= .lst []) nz)
  generalize upd H' z (.lst [])=H5 at s5⊢
  obtain⟨dr,fr,hr',tr⟩:=TR.same s5
  refine⟨_,rfl,?_⟩
  cases ets:ts with
  |nil=>
   obtain⟨z0,lt⟩:=em ets
   subst z0
   obtain⟨i,j,rfl,rfl,_⟩:=on.s
   obtain⟨i',j',rfl,_⟩:=or'.s
   obtain⟨dp,fp,hp,tp⟩:=TK.same s5
   rw[eb rfl]at k1
   refine cC ⟨_,rfl,_,_,_,_,rfl,TyOf.ins hr' cl xi.1 xi.2 xi.3 xi.4,k1,_,rfl,cC ⟨_,rfl,r,_,dr,fr,_,rfl,hr',cl,na,tr.at_,_,rfl,p,_,dp,fp,_,rfl,hp,cl,na,tp.at_,_,_,rfl,rfl,?_⟩⟩
   show Q (.bl (decide (i<i'))) H5
   rw[decide_eq_true (show i<i' from lt)]
   exact q H5 s5
  |cons u us=>
   refine cX ?_
   (try dsimp only)
   obtain⟨y,hy,ey⟩:∃y,y∈ts∧atI (ts.map λe=>V.ref e.p) (-1)=some (.ref y.p):=by
    rcases List.eq_nil_or_concat ts with z|⟨L,y,ey⟩
    ·rw[z]at ets
     cases ets
    ·exact⟨y,by rw[ey];simp,by rw[ey,List.concat_eq_append,Q9];exact By _ _⟩
   obtain⟨y0,yh⟩:=ou y hy
   refine⟨_,rfl,r,_,dr,fr,_,rfl,hr',tr.ho,dHN or'.kd,_,rfl,_,rfl,g,_,_,_,rfl,rfl,SqL.of (s5 _ _ hg),ey,_,_,_,_,rfl,rfl,SqT.of (s5 _ _ (tu y hy)),rfl,pe or' hr' tr y0 λH6 s6=>⟨_,rfl,?_⟩⟩
   rw[yh]
   exact q H6 (s5.trans s6)
theorem HoA.nd {H:Hp} {a:Addr} {F:Addr→Prop} {x:HSt} (A:HoA K t H a F x):(x.st.kv.map (·.1)).Nodup:=by
 obtain⟨s,l,wr,p,h,Fs,Fl,B,O,g⟩:=A
 obtain⟨_,_,_,_,nd,_⟩:=B.sl
 exact nd
theorem HoA.rise {H:Hp} {a:Addr} {F:Addr→Prop} {x:HSt} (A:HoA K t H a F x):cP x.ks:=by
 obtain⟨_,_,_,_,_,_,L⟩:=A.lvs
 exact L.rise
theorem Jh.kl {H:Hp} {a d:Addr} {F:Addr→Prop} {x:HSt} (J:Jh K t H a d F x):x.ks.length≤301:=by
 have nk:x.ks.Nodup:=J.A.rise.imp λh=>Int.ne_of_lt h
 have:=hJ nk (S:=x.st.kv.map (·.1)) λz hz=>mem_keys.mpr ((J.A.ok.ks z).mp hz)
 rw[Q0]at this
 exact QK this J.le
theorem Jh.k0 {H:Hp} {a d:Addr} {F:Addr→Prop} {x:HSt} (J:Jh K t H a d F x):∀k∈x.ks,0≤k:=λk hk=>(J.kb k (mem_keys.mpr ((J.A.ok.ks k).mp hk))).1
theorem HoA.notup {H:Hp} {a b:Addr} {F:Addr→Prop} {x:HSt} {xs:List V} (A:HoA K t H a F x) (e:H b=some (.tup xs)):¬F b:=λz=>by
 obtain⟨o,e',n⟩:=A.dom z
 rw[e]at e'
 exact n _ (Option.some.inj e').symm
theorem Ax:∀{more acc:List (Int×V)},((acc++more).map (·.1)).Nodup→sr (aI acc) (aI more)=aI (acc++more)
 | [],acc,_=>by rw[ZF];rfl
 |p::r,acc,h=>by
  have n:aL acc p.1=none:=by
   cases c:aL acc p.1 with
   |none=>rfl
   |some w=>
    rw[Q9,XA]at h
    exact absurd rfl (h.2.2 p.1 (Qg.mpr ⟨(p.1,w),eB c,rfl⟩) p.1 Qj)
  show sr (bj (aI acc) (Sum.inl p.1) p.2) (aI r)=_
  rw[dQ,qi p.2 n,Ax (by rw[Qo];exact h),Qo]
  rfl
theorem Bh {P:Int→Bool} {xs:List (Int×V)} {i:Nat} {p:Int×V} (e:xs[i]?=some p):(xs.take (i+1)).filter (λp=>P p.1)=(xs.take i).filter (λp=>P p.1)++(if P p.1=true then[p]else[]):=by
 rw[Qr,e,Qx]
 by_cases c:P p.1=true
 ·rw[if_pos c]
  simp[c]
 ·rw[if_neg c]
  simp[c]
theorem C5 {P:Int→Bool} {xs:List (Int×V)} {i:Nat} {y:Int} {v:V} (nd:(xs.map (·.1)).Nodup) (e:xs[i]?=some (y,v)):aL ((xs.take i).filter (λp=>P p.1)) y=none:=by
 cases c:aL ((xs.take i).filter (λp=>P p.1)) y with
 |none=>rfl
 |some w=>
  exfalso
  have h:=(QB.mp (eB c)).1
  obtain⟨i',h4,h5⟩:=Qy h
  rw[Q7]at h4
  rw[Zl]at h5
  obtain⟨hi,ei⟩:=Q2.mp e
  have w:=QT.mp nd i' i (by rw[Q0];omega) (by rw[Q0];exact hi) (by omega)
  rw[List.getElem_map,List.getElem_map,h5,ei]at w
  exact w rfl
def yH (H7:Hp) (i:Nat) (ys:List V) (H':Hp):Prop:=Same H7 H'∧∃zs:List Int,ys=zs.map V.int∧zs.length=i∧∀z∈zs,0≤z
theorem tm {H7 H8:Hp} {D:Addr} {i:Nat} {y:V} {xs ys:List V} {z:Int} (hy:xs[i]?=some y) (w:yH H7 i ys H8) (hD:H7 D=none) (hDD:H8 D=some (.lst ys)) (hn:xs.length≤4000) (z0:0≤z):CNext xs.length i ys D (yH H7) (.int z) H8:=by
 obtain⟨s8,zs,rfl,lz,h0⟩:=w
 have hi:i<xs.length:=(Q2.mp hy).1
 refine CNext.mk hi hDD (bi (by rw[Q0];omega)) ⟨bU s8 hD,zs++ [z],by rw[Q9];rfl,by rw[Q8,lz];rfl,λv hv=>?_⟩
 rcases Q4.mp hv with hv|hv
 ·exact h0 v hv
 ·rw[Qb.mp hv]
  exact z0
def Ab (K:PySem.W.Frag):Sp:=λvs H Q _=>∃(a:Addr) (ns:List Int),vs=[.ref a]∧SqL K H a (ns.map V.int)∧ns.length≤63∧∀H',Q (.bl true) H'
theorem Es (T:Txt K mg t):FnOk P w K mg base CX0 9 t.DR t.yz ["_law_script"] (Ab K):=by
 have G8:= @gd P w K mg base t T
 have J0:= @fH P w K mg base t T
 have Y3:= @iK P w K mg base t T
 have Y5:= @oY P w K mg base t T
 have Y7:= @r6 P w K mg base t T
 have Y8:= @rZ P w K mg base t T
 have Y9:= @uE P w K mg base t T
 have Yc:= @oX P w K mg base t T
 have Yh:= @rX P w K mg base t T
 have Yi:= @Et P w K mg base t T
 refine T.FR.ok sc_law (λvs H Q E h=>?_) (λcdv A outer s H vs Q E hr h=>?_)
 ·obtain⟨a,ns,rfl,_⟩:=h
  rfl
 ·obtain⟨sc,ns,rfl,hS,hlen,q⟩:=h
  refine⟨_,(ac (nG (aJ Y8 (hr.mono (by decide)) (by rfl) T.CT T.va.kp T.Dd .nil aD (aa (eh fZ (pv 0) (eV af) (eV af)) ah)) (qk rfl (cq (bx (i:=1) sc_law.nd rfl (Or.inl rfl)) (cq (bx (i:=2) sc_law.nd rfl (Or.inl rfl)) mj))))
   (ac (ar (i:=3) sc_law.nd rfl (Or.inl rfl) (aJ Yc (hr.mono (by decide)) (by rfl) T.AG T.rq.kp T.Bw .nil aD (aa (aJ Y5 (hr.mono (by decide)) (by rfl) T.qE T.jZ.kp T.qW .nil aD (aa (pv 0) (aa af ah))) (aa (az (uR hr.hd) (by rfl) T.zO tS (aa (pv 2) ah)) ah))))
   (ac (ar (i:=4) sc_law.nd rfl (Or.inl rfl) (aJ Yh (hr.mono (by decide)) (by rfl) T.CS T.u9.kp T.Dc .nil aD (aa (pv 3) ah)))
   (ac (ar (i:=5) sc_law.nd rfl (Or.inl rfl) (am xh (sW (xD hr.hd) (by rfl) T.FU C8 (aa (pv 2) ah)) (gc rfl (CScope.of (M:=["_law_cell"]) (N:=["_law_script","_law_house_here","_law_kept","_law_numbers_here","_law_token_here","_law_keys","_law_rows","_law_rest","_law_due","_law_key"]) (N':=["_law_script","_law_house_here","_law_kept","_law_numbers_here","_law_token_here","_law_keys","_law_rows","_law_rest","_law_due","_law_key"]) (dsc:=ak vz) rfl rfl (by decide+kernel)) (cU (eh fZ (pv 0) iJ (eV af))) (λ_ _ _ _ _=>(am aM (pv 0) (am fF af af))))))
   (ac (ar (i:=5) sc_law.nd rfl (Or.inl rfl) (am xh (pv 5) (gc rfl (CScope.of (M:=["_law_cell"]) (N:=["_law_script","_law_house_here","_law_kept","_law_numbers_here","_law_token_here","_law_keys","_law_rows","_law_rest","_law_due","_law_key"]) (N':=["_law_script","_law_house_here","_law_kept","_law_numbers_here","_law_token_here","_law_keys","_law_rows","_law_rest","_law_due","_law_key"]) (dsc:=ak vz) rfl rfl (by decide+kernel)) (cU (eh fZ (pv 0) iJ (eV af))) (λ_ _ _ _ _=>(am aM (am aP (pv 0) af) af)))))
   (ac (nG (aJ Yi (hr.mono (by decide)) (by rfl) T.F6 T.FS.kp T.EZ.choose_spec.1 T.EZ.choose_spec.2 aD (aa (pv 1) (aa (pv 4) (aa (am bq af (am aM (aJ Y5 (hr.mono (by decide)) (by rfl) T.qE T.jZ.kp T.qW .nil aD (aa (pv 0) (aa af ah))) af)) ah)))) (qk rfl (cq (bx (i:=6) sc_law.nd rfl (Or.inl rfl)) (cq (bx (i:=7) sc_law.nd rfl (Or.inl rfl)) mj))))
   (ac (aR (iI (bY (aJ Y9 (hr.mono (by decide)) (by rfl) T.DI T.wB.kp T.DP .nil aD (aa (pv 4) (aa (pv 7) (aa (pv 6) (aa (pv 5) ah)))))))
   (ai (aF vE))
   aE)
   (ac (ar (i:=8) sc_law.nd rfl (Or.inl rfl) g9)
   (ac (uy (gH PassesOwn.never rfl (Cz (pv 2)) (bx (i:=9) sc_law.nd rfl (Or.inl rfl))
   (ai (aR (PW.pt (dM (bY (aJ Y7 (hr.mono (by decide)) (by rfl) T.CU T.vb.kp T.De .nil aD (aa (pv 3) (aa (pv 9) ah)))) (cT (PW.pt (qh (au gJ (pv 7) b6 (aq _)) (lw (iI (bY (jx (kk:=3) (e7 (bP T.br T.dP G8 T.dW (by decide)) (e7 (bP T.eP T.gh Y3 T.gi (by decide)) (bP T.bS T.dZ J0 T.d9 (by decide)))) (hr.mono (by decide)) (pv 7) (aa (pv 9) ah))))))))))
   (ai (pf (kG hr) (pv 8) (pv 9) (xZ (kG hr) (pv 2) (pv 9) (λ_ _=>rfl)) rfl))
   aE))))
   (ai (aF (gI (bz bL (az aA (by rfl) T.bC aZ (aa (pv 6) ah)) (az tR (by rfl) T.bC aZ (aa (pv 8) ah)) (aq _)) (dt (bz (CB hr.u20) (sW (xE hr.hd) (by rfl) T.FV C9 (aa (pv 6) ah)) (pv 8) (aq _)))))))))))))))
   ,?_⟩
  obtain⟨cs,ecs,sb⟩:=Bq ns (some 3) (some 43)
  refine⟨_,rfl,_,rfl,_,rfl,sc,_,rfl,hS,λp1 np1=>?_⟩
  rw[ecs]
  have lcs:cs.length≤63:=QK sb.length_le hlen
  have cS:=(SqF.of (F:=λ_=>False) hS λ_ _ z=>z).new (o:= .lst (cs.map V.int)) np1
  have h1:upd H p1 (.lst (cs.map V.int)) p1=some (.lst (cs.map V.int)):=ag
  (try dsimp only)
  generalize upd H p1 (.lst (cs.map V.int))=H1 at cS h1⊢
  refine⟨p1,cs,rfl,h1,lcs,λH2 r2 a d F x nr2 nFr2 hr2 J l2 e2 o2=>?_⟩
  have cS:=cS.fr (F':=Wh F d) (H':=H2) λb o _ e=>o2 b o e
  refine⟨r2,_,rfl,SqT.of hr2,rfl,_,_,rfl,_,_,rfl,rfl,?_⟩
  clear hS h1 o2 np1 ecs sb hr2 nr2 nFr2
  obtain⟨c1,ec1⟩:∃c:Int,ns.getD (1:Int).toNat 0=c:=⟨_,rfl⟩
  obtain⟨c2,ec2⟩:∃c:Int,ns.getD (2:Int).toNat 0=c:=⟨_,rfl⟩
  refine⟨_,rfl,sc,ns,1,rfl,cS.sq,by decide,?_⟩
  rw[ec1]
  refine⟨_,rfl,d,_,x.st.kv.map (·.1),rfl,.inl J.di,tE,λl ms nl pm pw=>?_⟩
  have s3:=aj (o:= .lst (ms.map V.int)) nl
  have h3:upd H2 l (.lst (ms.map V.int)) l=some (.lst (ms.map V.int)):=ag
  (try dsimp only)
  generalize upd H2 l (.lst (ms.map V.int))=H3 at s3 h3⊢
  refine⟨_,l,ms,rfl,h3,λk hk=>J.kb k (pm.mem_iff.mp hk),?_⟩
  intro H4 n av e s4 hn on ba be
  obtain⟨kd,ekd⟩:∃kd:Int,c1%3=kd:=⟨_,rfl⟩
  rw[ekd]at hn on
  have s4':=s3.trans s4
  have J4:=J.same s4'
  have cS4:=cS.fr (Fr.of_same s4')
  clear s3 s4 h3 nl pm pw cS J
  refine⟨_,rfl,n,kd,av,e,rfl,SqT.of hn,on,λH5 p s5 np TK=>?_⟩
  have J5:=J4.same s5
  have nFp:¬F p:=J4.A.out np
  have cS5:=cS4.fr (Fr.of_same s5)
  have hn5:=s5 _ _ hn
  clear np s5 s4' hn cS4 J4
  refine⟨_,rfl,d,_,rfl,.inl J5.di,λl6 nl6=>?_⟩
  have ek:hZ (aI x.st.kv)=(x.st.kv.map (·.1)).map V.int:=tE
  rw[ek]
  have s6:=aj (o:= .lst ((x.st.kv.map (·.1)).map V.int)) nl6
  have h6:upd H5 l6 (.lst ((x.st.kv.map (·.1)).map V.int)) l6=some (.lst ((x.st.kv.map (·.1)).map V.int)):=ag
  generalize upd H5 l6 (.lst ((x.st.kv.map (·.1)).map V.int))=H6 at s6 h6⊢
  refine⟨_,rfl,63,rfl,sc,_,rfl,(cS5.fr (Fr.of_same s6)).sq,λl7 nl7=>?_⟩
  rw[jQ (by decide),←Zn]
  obtain⟨xs,exs⟩:∃xs,ns.take (63:Int).toNat=xs:=⟨_,rfl⟩
  have lx:xs.length≤63:=by rw[←exs,Q7];omega
  rw[exs]
  have s7:=s6.trans (aj (o:= .lst (xs.map V.int)) nl7)
  have h6:=aj (o:= .lst (xs.map V.int)) nl7 _ _ h6
  have h7:upd H6 l7 (.lst (xs.map V.int)) l7=some (.lst (xs.map V.int)):=ag
  generalize upd H6 l7 (.lst (xs.map V.int))=H7 at s7 h6 h7⊢
  refine⟨l7,rfl,⟨_,SqL.of h7⟩,λD hD=>?_⟩
  refine ig (K:=K) (a:=l7) (xs:=xs.map V.int) (yH H7) ⟨aj hD,[],rfl,rfl,λ_ z=>absurd z QZ⟩ (λi ys H8 _ w=>SqL.of (w.1 _ _ h7)) (λi y ys H8 hy w hDD=>?_) (λys H8 w hDD=>?_)
  ·obtain⟨z,_,rfl⟩:=Qg.mp (Q1 hy)
   refine⟨_,rfl,_,_,rfl,rfl,⟨by decide,by decide,by decide⟩,_,_,rfl,rfl,(by show(0:Int)<10^Int.toNat 39;decide),tm hy w hD hDD (by rw[Q0];omega) (Qd _ (by decide))⟩
  obtain⟨s8,zs,rfl,lz,z0⟩:=w
  rw[Q0]at lz
  have lk:(x.st.kv.map (·.1)).length≤300:=by rw[Q0];exact e2
  refine⟨l6,D,_,_,rfl,rfl,s8 _ _ h6,hDD,(by simp only[Q0];rw[Q0]at lk;have:1000≤sizeLine:=(by decide);omega),λl9 n9=>?_⟩
  rw[←Q9]
  obtain⟨ks,eks⟩:∃ks,x.st.kv.map (·.1)++zs=ks:=⟨_,rfl⟩
  have k0:∀k∈ks,0≤k:=λk hk=>by
   rw[←eks]at hk
   rcases Q4.mp hk with h|h
   ·exact(J5.kb k h).1
   ·exact z0 k h
  have lks:ks.length≤400:=by rw[←eks,Q8];omega
  rw[eks]
  have s9:=(s7.trans s8).trans (aj (o:= .lst (ks.map V.int)) n9)
  have h9:upd H8 l9 (.lst (ks.map V.int)) l9=some (.lst (ks.map V.int)):=ag
  (try dsimp only)
  generalize upd H8 l9 (.lst (ks.map V.int))=H9 at s9 h9⊢
  clear eks z0 lz zs hDD hD h7 h6 nl6 nl7 n9 s8 s7 s6 ek lk
  refine⟨_,rfl,_,rfl,63,rfl,sc,_,rfl,(cS5.fr (Fr.of_same s9)).sq,λl7 nl7=>?_⟩
  rw[jQ (by decide),←Zn,exs]
  have s7:=s9.trans (aj (o:= .lst (xs.map V.int)) nl7)
  have h9:=aj (o:= .lst (xs.map V.int)) nl7 _ _ h9
  have h7:upd H9 l7 (.lst (xs.map V.int)) l7=some (.lst (xs.map V.int)):=ag
  generalize upd H9 l7 (.lst (xs.map V.int))=H7 at s7 h9 h7⊢
  refine⟨l7,rfl,⟨_,SqL.of h7⟩,λD hD=>?_⟩
  refine ig (K:=K) (a:=l7) (xs:=xs.map V.int) (yH H7) ⟨aj hD,[],rfl,rfl,λ_ z=>absurd z QZ⟩ (λi ys H8 _ w=>SqL.of (w.1 _ _ h7)) (λi y ys H8 hy w hDD=>?_) (λys H8 w hDD=>?_)
  ·obtain⟨z,_,rfl⟩:=Qg.mp (Q1 hy)
   exact⟨_,rfl,_,_,rfl,rfl,⟨by decide,by decide⟩,_,_,rfl,rfl,(by show(0:Int)<70000;decide),tm hy w hD hDD (by rw[Q0];omega) (Qd _ (by decide))⟩
  obtain⟨s8,zs,rfl,lz,z0⟩:=w
  rw[Q0]at lz
  refine⟨l9,D,_,_,rfl,rfl,s8 _ _ h9,hDD,(by simp only[Q0];have:1000≤sizeLine:=(by decide);omega),λl6 n6=>?_⟩
  rw[←Q9]
  obtain⟨kz,ekz⟩:∃kz,ks++zs=kz:=⟨_,rfl⟩
  have k1:∀k∈kz,0≤k:=λk hk=>by
   rw[←ekz]at hk
   exact(Q4.mp hk).elim (k0 k) (z0 k)
  rw[ekz]
  have s6:=(s7.trans s8).trans (aj (o:= .lst (kz.map V.int)) n6)
  have h6:upd H8 l6 (.lst (kz.map V.int)) l6=some (.lst (kz.map V.int)):=ag
  have nF6:¬F l6:=J5.A.out (d7 (s7.trans s8) n6)
  (try dsimp only)
  generalize upd H8 l6 (.lst (kz.map V.int))=H6 at s6 h6⊢
  clear ekz z0 hDD hD h7 h9 n6 nl7 s8 s7 s9 k0 lks exs
  have J6:=J5.same s6
  have TK6:=TK.same s6
  have hn6:=s6 _ _ hn5
  have cS6:=cS5.fr (Fr.of_same s6)
  clear J5 TK hn5 cS5 s6
  have m0:=Qd c2 (show(100:Int)≠0 by decide)
  have m1:=Qc c2 (show(0:Int)<100 by decide)
  refine⟨_,rfl,_,rfl,_,rfl,sc,ns,2,rfl,cS6.sq,by decide,?_⟩
  rw[ec2]
  refine⟨_,_,rfl,rfl,(by show(0:Int)<100;decide),_,_,rfl,rfl,a,p,1+c2%100,kd,av,e,F,x,rfl,J6.A,TK6,on,nFp,by omega,by omega,by omega,by have:=J6.kl;omega,J6.k0,J6.iv,λH9 F9 r g v ts a2 R A9 f9 pg U=>⟨r,_,rfl,SqT.of pg.tu,rfl,_,_,rfl,_,_,rfl,rfl,?_⟩⟩
  have J9:=J6.fr A9 f9
  obtain⟨h9,nF9⟩:=f9 _ _ nF6 h6
  have hn9:=(f9 _ _ (J6.A.notup hn6) hn6).1
  have TK9:TkAt t H9 p kd av e:=by
   obtain⟨dx,fs,hp,r⟩:=TK6
   exact⟨dx,fs,(f9 _ _ nFp hp).1,r⟩
  have nd:=J9.A.nd
  have kb:∀{k v},(k,v)∈x.st.kv→0≤k:=λh=>(J9.kb _ (ZC (f:=Prod.fst) h)).1
  clear J6 TK6 hn6 h6 nF6 A9 f9 cS6
  have rest:=U.rest
  refine⟨_,rfl,_,rfl,_,rfl,_,rfl,p,g,l6,kd,av,e,v,a2,ts,kz,rfl,TK9,on,?_,pg.li,λu hu=>(pg.rw u hu).1,h9,k1,λH10 s10=>⟨_,rfl,cX ?_⟩⟩
  ·rcases rest with⟨rfl,_⟩|⟨q',rfl,TQ,oq,nq,rfl,mo⟩
   ·exact .inl rfl
   ·refine .inr ⟨q',rfl,TQ,oq,U.less,λz=>?_,λu hu=>?_⟩
    ·have sz:SzOk x.st:=by
      obtain⟨s,l,wr,p,h,Fs,Fl,B,O,g⟩:=J9.A
      obtain⟨_,_,_,_,_,z⟩:=B.sl
      exact z
     have W0:0<65536/x.st.low:=by
      obtain⟨_,_,R⟩:=qg (fL sz)
      exact R.wpos'
     rcases U.far with y|y|⟨y,w⟩
     ·cases y
     ·rw[z]at y
      have y:1+c2%100≤0:=y
      omega
     ·refine⟨y,Int.not_le.mp λc=>?_⟩
      have:=Int.ediv_le_ediv W0 c
      omega
    ·obtain⟨h1,h2,h3⟩:=(U.me u.k u.v).mp (ZC (f:=Tp.kv) hu)
     exact⟨kb h1,h3⟩
  have J10:=J9.same s10
  have hn10:=s10 _ _ hn9
  have hg10:=s10 _ _ pg.li
  have tu10:∀u∈ts,H10 u.p=some (.tup [.int u.k,u.v]):=λu hu=>s10 _ _ (pg.rw u hu).1
  have rest10:v= .non∧R=(λ_=>false)∨∃q':Addr,v= .ref q'∧TkAt t H10 q' kd a2 e∧okN kd a2 e∧R=hN kd a2 e:=rest.imp id λ⟨q',h1,h2,h3,_,h4,_⟩=>⟨q',h1,h2.same s10,h3,h4⟩
  have me:=U.me
  have nt:=U.nd
  clear s10 rest pg U J9 hn9 h9 nF9 TK9
  unfold xR
  (try dsimp only)
  refine λb nb=>?_
  have nFb:b≠d:=λz=>by rw[z,J10.di]at nb;cases nb
  have sb:=aj (o:= .dK []) nb
  have J11:=J10.same sb
  have h11:upd H10 b (.dK []) b=some (.dK []):=ag
  generalize hH:upd H10 b (.dK [])=H11 at sb J11 h11⊢
  have hd:=J11.di
  refine⟨d,_,hd,_,rfl,d,_,rfl,hd,λob=>zq (ob:=ob) (d:=d) (kvs:=aI x.st.kv) (λi σ H'=>∃v9:Option V,σ=[some (.ref sc),some (.ref a),some (.ref d),some (.ref n),some (.ref p),some (.ref l6),some (.ref g),some v,some (.ref b),v9]∧(∀c o,c≠b→c≠d→H11 c=some o→H' c=some o)∧H' d=some (.frz ob (.dK (aI x.st.kv)))∧H' b=some (.dK (aI ((x.st.kv.take i).filter λp=>hN kd av e p.1&&!R p.1))))
   ⟨_,rfl,λc o _ n2 h=>by rw[ae n2];exact h,ag,by rw[ae nFb];exact h11⟩ (λi σ H' _ w=>?_) (λi k v σ H' hk w=>?_) (λσ H' w=>?_)⟩
  ·obtain⟨_,_,_,h,_⟩:=w
   exact h
  ·obtain⟨v9,rfl,kp,hd',hb'⟩:=w
   obtain⟨y,rfl,eg⟩:=nO hk
   have ym:=Q1 eg
   have y0:=kb ym
   have n1:n≠b:=λz=>by have h:=sb _ _ hn10;rw[z,h11]at h;cases h
   have n2:n≠d:=λz=>by have h:=hn10;rw[z,J10.di]at h;cases h
   have hn':=kp _ _ n1 n2 (sb _ _ hn10)
   have st:=Bh (P:=λz=>hN kd av e z&&!R z) eg
   refine⟨_,rfl,_,rfl,n,kd,y,av,e,rfl,SqT.of hn',on,_,rfl,?_⟩
   cases c:hN kd av e y with
   |false=>
    rw[c]at st
    exact cX ⟨_,rfl,kp,hd',by rw[hb',st];simp⟩
   |true=>
    refine cC ?_
    have fin:∀{H2:Hp},Same H' H2→R y=false→DGet H2 d (.int y) (some v)∧DPut H2 b (.int y) v (upd H2 b (.dK (aI ((x.st.kv.take (i+1)).filter λp=>hN kd av e p.1&&!R p.1)))):=λ{H2} s2 hr=>by
     refine⟨.inl ⟨_,Sum.inl y,.inr ⟨ob,s2 _ _ hd'⟩,rfl,by rw[liftK_val,c4 nd ym]⟩,?_⟩
     have:=DPut.k (k:=Sum.inl y) (v:=v) (s2 _ _ hb') (by rw[bG];have h1:=Qn (λp:Int×V=>hN kd av e p.1&&!R p.1) (x.st.kv.take i);rw[Q7]at h1;exact bi (by omega))
     rw[dQ,qi v (C5 (P:=λz=>hN kd av e z&&!R z) nd eg),show[(y,v)]=(if(hN kd av e y&&!R y)=true then[(y,v)]else[]) by rw[c,hr];rfl,←st]at this
     exact this
    rcases rest10 with⟨rfl,rfl⟩|⟨q',rfl,TQ,oq,rfl⟩
    ·obtain⟨g2,p2⟩:=fin (Same.refl _) rfl
     refine⟨_,rfl,rfl,_,rfl,eY rfl ⟨_,rfl,_,rfl,d,_,rfl,g2,_,rfl,_,rfl,b,_,rfl,p2,?_⟩⟩
     exact⟨_,rfl,λc o h1 h2 h3=>by rw[ae h1];exact kp c o h1 h2 h3,by rw[ae (Ne.symm nFb)];exact hd',ag⟩
    ·refine⟨_,rfl,rfl,_,rfl,bg (λz=>by cases z) ?_⟩
     have TQ':TkAt t H' q' kd a2 e:=by
      obtain⟨dx,fs,hq,r⟩:=TQ
      exact⟨dx,fs,kp _ _ (λz=>by have h:=sb _ _ hq;rw[z,h11]at h;cases h) (λz=>by rw[z,J10.di]at hq;cases hq) (sb _ _ hq),r⟩
     obtain⟨dr,fr,hr',tr⟩:=TQ'
     refine⟨_,rfl,q',_,dr,fr,_,rfl,hr',tr.ho,dHN oq.kd,_,rfl,pe oq hr' tr y0 λH2 s2=>⟨_,rfl,?_⟩⟩
     cases c2:hN kd a2 e y with
     |true=>
      refine cX ⟨_,rfl,λc o h1 h2 h3=>s2 _ _ (kp c o h1 h2 h3),s2 _ _ hd',?_⟩
      rw[c,c2]at st
      rw[s2 _ _ hb',st]
      simp
     |false=>
      obtain⟨g2,p2⟩:=fin s2 c2
      refine cC ⟨_,rfl,_,rfl,d,_,rfl,g2,_,rfl,_,rfl,b,_,rfl,p2,?_⟩
      exact⟨_,rfl,λc o h1 h2 h3=>by rw[ae h1];exact s2 _ _ (kp c o h1 h2 h3),by rw[ae (Ne.symm nFb)];exact s2 _ _ hd',ag⟩
  ·obtain⟨v9,rfl,kp,hd',hb'⟩:=w
   refine⟨ob,hd',?_⟩
   rw[bG,QJ]at hb'
   obtain⟨due,edue⟩:∃due,(x.st.kv.filter λp=>hN kd av e p.1&&!R p.1)=due:=⟨_,rfl⟩
   rw[edue]at hb'
   have md:∀{k w},(k,w)∈ts.map Tp.kv↔(k,w)∈due:=λ{k w}=>by
    rw[me,←edue,QB,QI,Bool.not_eq_true']
   have ndd:(due.map (·.1)).Nodup:=by
    rw[←edue]
    exact nd.sublist (List.filter_sublist.map _)
   have pm:(ts.map Tp.kv).Perm due:=(XW (QD.mpr ((QD.mp nt).imp λh e=>h (congrArg Prod.fst e))) ((QD.mp ndd).imp λh e=>h (congrArg Prod.fst e))).mpr λz=>md
   have lt:ts.length=due.length:=by have:=pm.length_eq;rwa [Q0]at this
   have old:∀c o,c≠b→c≠d→H10 c=some o→upd H' d (.dK (aI x.st.kv)) c=some o:=λc o h1 h2 h3=>by rw[ae h2];exact kp c o h1 h2 (sb _ _ h3)
   have hg12:=old g _ (λz=>by have h:=sb _ _ hg10;rw[z,h11]at h;cases h) (λz=>by have h:=hg10;rw[z,J10.di]at h;cases h) hg10
   have tu12:∀u∈ts,upd H' d (.dK (aI x.st.kv)) u.p=some (.tup [.int u.k,u.v]):=λu hu=>old u.p _ (λz=>by have h:=sb _ _ (tu10 u hu);rw[z,h11]at h;cases h) (λz=>by have h:=tu10 u hu;rw[z,J10.di]at h;cases h) (tu10 u hu)
   have hb12:upd H' d (.dK (aI x.st.kv)) b=some (.dK (aI due)):=by rw[ae nFb];exact hb'
   generalize upd H' d (.dK (aI x.st.kv))=H12 at hg12 tu12 hb12⊢
   (try dsimp only)
   refine⟨_,rfl,g,_,rfl,.inl (SqL.of hg12),?_⟩
   refine⟨_,rfl,b,_,rfl,hb12,?_⟩
   rw[bG,Q0,lt]
   refine⟨rfl,_,rfl,?_⟩
   rw[decide_eq_true rfl]
   refine cC ⟨_,rfl,g,ts.map λu=>(u.p,Sum.inl u.k,u.v),rfl,?_,?_,λp2 np2=>?_⟩
   ·rw[QL]
    exact SqL.of hg12
   ·intro u' hu'
    obtain⟨u,hu,rfl⟩:=Qg.mp hu'
    exact SqT.of (tu12 u hu)
   ·rw[QL]
    have el:ts.map ((λx:Addr×Key×V=>x.2)∘λu:Tp=>(u.p,(Sum.inl u.k:Key),u.v))=aI (ts.map Tp.kv):=by unfold aI;rw[QL];rfl
    have nl:((ts.map Tp.kv).map (·.1)).Nodup:=by
     rw[QL]
     exact nt
    rw[el,show sr [] (aI (ts.map Tp.kv))=_ from Ax (acc:=[]) nl,List.nil_append]
    refine⟨_,rfl,p2,b,_,aI due,rfl,rfl,ag,by rw[ae (al hb12 np2)];exact hb12,by rw[bG,bG,Q0,lt],λz hz=>?_,q _⟩
    unfold aI at hz
    obtain⟨w,hw,rfl⟩:=Qg.mp hz
    have hw':=md.mp (show(w.1,w.2)∈ts.map Tp.kv from hw)
    obtain⟨i,ei⟩:=J10.iv _ (QB.mp (edue▸hw')).1
    have ei:w.2= .int i:=ei
    exact⟨by show Fl w.2;rw[ei];exact True.intro,by show aL (aI due) (Sum.inl w.1)=_;rw[liftK_val];exact c4 ndd hw'⟩
end
end SW
namespace ZK
open PySem PySem.W SW L2
theorem fM {P:Params} {x qual:Str} {st:Stmt} {a:Addr} {kV doc pm cdv ct:Value} {an:Option Addr} (l:(K P).lookup a=some (f (D x qual st N kV doc pm an cdv ct)):=by kernel_rfl) (c:codeIn (K P) cdv qual=true:=by kernel_rfl) (k:keepIn (K P) (.ref a)=true:=by kernel_rfl):Fun (K P) x qual st a (D x qual st N kV doc pm an cdv ct):=ER l c k
theorem nA {P:Params} {C:Addr} {x:Str} (h:findIn (K P) (.ref C) x=some none:=by kernel_rfl):NoAttr (K P) C x:=h
theorem fT {P:Params} {x qual:Str} {st:Stmt} {a b:Addr} {kV doc pm cdv ct:Value} {an:Option Addr} (l:(K P).lookup a=some (f (D x qual st (R b) kV doc pm an cdv ct)):=by kernel_rfl) (c:codeIn (K P) cdv qual=true:=by kernel_rfl) (k:keepIn (K P) (.ref a)=true:=by kernel_rfl):E8 (K P) x qual st b a (D x qual st (R b) kV doc pm an cdv ct):=yq l c k
theorem fU {P:Params} {x qual:Str} {st:Stmt} {a b:Addr} {kV doc pm cdv ct:Value} {an:Option Addr} (l:(K P).lookup a=some (f (D x qual st (R b) kV doc pm an cdv ct)):=by kernel_rfl) (c:codeIn (K P) cdv qual=true:=by kernel_rfl) (k:keepIn (K P) (.ref a)=true:=by kernel_rfl):FunD (K P) x qual st a (D x qual st (R b) kV doc pm an cdv ct):=(yq l c k).1
theorem E5 {P:Params}:(K P).lookup 214=some ⟨(T "tuple"),none,.seq #[(.int 0 456),(.int 65536 457)] 0, #[]⟩:=by kernel_rfl
theorem E4 {P:Params}:(K P).lookup 241=some ⟨(T "tuple"),none,.seq #[(.int 0 491),N] 0, #[]⟩:=by kernel_rfl
theorem E3 {P:Params}:(K P).lookup 268=some ⟨(T "tuple"),none,.seq #[N,(.int 0 525)] 0, #[]⟩:=by kernel_rfl
theorem E2 {P:Params}:(K P).lookup 288=some ⟨(T "tuple"),none,.seq #[(.int 10 551),N] 0, #[]⟩:=by kernel_rfl
end ZK
namespace SW
open PySem L2
set_option maxHeartbeats 0
theorem us1 {α:Type} {us:List α} (hl:us.length=1):∃x0,us=[x0]:=by rcases us with _|⟨x0,_|⟨y,t⟩⟩<;>first|exact⟨_,rfl⟩|simp at hl
theorem us2 {α:Type} {us:List α} (hl:us.length=2):∃x0 x1,us=[x0,x1]:=by rcases us with _|⟨x0,_|⟨x1,_|⟨y,t⟩⟩⟩<;>first|exact⟨_,_,rfl⟩|simp at hl
theorem us3 {α:Type} {us:List α} (hl:us.length=3):∃x0 x1 x2,us=[x0,x1,x2]:=by rcases us with _|⟨x0,_|⟨x1,_|⟨x2,_|⟨y,t⟩⟩⟩⟩<;>first|exact⟨_,_,_,rfl⟩|simp at hl
theorem us4 {α:Type} {us:List α} (hl:us.length=4):∃x0 x1 x2 x3,us=[x0,x1,x2,x3]:=by rcases us with _|⟨x0,_|⟨x1,_|⟨x2,_|⟨x3,_|⟨y,t⟩⟩⟩⟩⟩<;>first|exact⟨_,_,_,_,rfl⟩|simp at hl
open ZK in
theorem txt {P:Params} {h:Heap} {mg:Str→Option Value} (X:(ZK.K P).In h) (G:h.Ns mainGlobals mg):Txt (ZK.K P) mg ZK.t:=⟨Qa X G (by kernel_rfl),
  Qa X G (by kernel_rfl),
  Qa X G (by kernel_rfl),
  Qa X G (by kernel_rfl),
  Qa X G (by kernel_rfl),
  Qa X G (by kernel_rfl),
  Qa X G (by kernel_rfl),
  Qa X G (by kernel_rfl),
  Qa X G (by kernel_rfl),
  Qa X G (by kernel_rfl),
  Qa X G (by kernel_rfl),
  Qa X G (by kernel_rfl),
  Qa X G (by kernel_rfl),
  Qa X G (by kernel_rfl),
  ZK.fM,
  .all λus hl=>by obtain⟨_,_,rfl⟩:=us2 hl;rfl,
  ZK.fM,
  .all λus hl=>by obtain⟨_,_,rfl⟩:=us2 hl;rfl,
  ZK.fM,
  .all λus hl=>by obtain⟨_,_,rfl⟩:=us2 hl;rfl,
  ZK.fM,
  .all λus hl=>by obtain⟨_,_,rfl⟩:=us2 hl;rfl,
  Qa X G (by kernel_rfl),
  ZK.fM,
  .all λus hl=>by obtain⟨_,rfl⟩:=us1 hl;rfl,
  Qa X G (by kernel_rfl),
  ZK.fM,
  .all λus hl=>by obtain⟨_,rfl⟩:=us1 hl;rfl,
  Qa X G (by kernel_rfl),
  ZK.fM,
  .all λus hl=>by obtain⟨_,rfl⟩:=us1 hl;rfl,
  Qa X G (by kernel_rfl),
  ZK.fM,
  .all λus hl=>by obtain⟨_,_,rfl⟩:=us2 hl;rfl,
  Qa X G (by kernel_rfl),
  ZK.fM,
  .all λus hl=>by obtain⟨_,_,rfl⟩:=us2 hl;rfl,
  Qa X G (by kernel_rfl),
  ZK.fM,
  .all λus hl=>by obtain⟨_,_,rfl⟩:=us2 hl;rfl,
  Qa X G (by kernel_rfl),
  ZK.fM,
  .all λus hl=>by obtain⟨_,rfl⟩:=us1 hl;rfl,
  Qa X G (by kernel_rfl),
  ZK.fM,
  .all λus hl=>by obtain⟨_,_,rfl⟩:=us2 hl;rfl,
  ZK.fM,
  .all λus hl=>by obtain⟨_,_,_,_,rfl⟩:=us4 hl;rfl,
  ZK.fU,
  eK (ds:=[]) 3 rfl (fT (a:=221)) E5 λ_ _ _ _ _ _ us hl=>by obtain⟨_,_,_,rfl⟩:=us3 hl;exact⟨_,rfl,rfl⟩,
  ⟨_,eK (ds:=[(.int 65536 457)]) 2 rfl (fT (a:=221)) E5 λ_ _ _ _ _ _ us hl=>by obtain⟨_,_,rfl⟩:=us2 hl;exact⟨_,rfl,rfl⟩,(.cons ⟨_,rfl⟩ .nil)⟩,
  ⟨_,eK (ds:=[(.int 0 456),(.int 65536 457)]) 1 rfl (fT (a:=221)) E5 λ_ _ _ _ _ _ us hl=>by obtain⟨_,rfl⟩:=us1 hl;exact⟨_,rfl,rfl⟩,(.cons ⟨_,rfl⟩ (.cons ⟨_,rfl⟩ .nil))⟩,
  ZK.fM,
  .all λus hl=>by obtain⟨_,_,rfl⟩:=us2 hl;rfl,
  ZK.fU,
  eK (ds:=[]) 3 rfl (fT (a:=248)) E4 λ_ _ _ _ _ _ us hl=>by obtain⟨_,_,_,rfl⟩:=us3 hl;exact⟨_,rfl,rfl⟩,
  ⟨_,eK (ds:=[N]) 2 rfl (fT (a:=248)) E4 λ_ _ _ _ _ _ us hl=>by obtain⟨_,_,rfl⟩:=us2 hl;exact⟨_,rfl,rfl⟩,(.cons rfl .nil)⟩,
  ⟨_,eK (ds:=[(.int 0 491),N]) 1 rfl (fT (a:=248)) E4 λ_ _ _ _ _ _ us hl=>by obtain⟨_,rfl⟩:=us1 hl;exact⟨_,rfl,rfl⟩,(.cons ⟨_,rfl⟩ (.cons rfl .nil))⟩,
  ZK.fM,
  .all λus hl=>by obtain⟨_,_,rfl⟩:=us2 hl;rfl,
  ZK.fU,
  eK (ds:=[]) 3 rfl (fT (a:=275)) E3 λ_ _ _ _ _ _ us hl=>by obtain⟨_,_,_,rfl⟩:=us3 hl;exact⟨_,rfl,rfl⟩,
  ⟨_,eK (ds:=[(.int 0 525)]) 2 rfl (fT (a:=275)) E3 λ_ _ _ _ _ _ us hl=>by obtain⟨_,_,rfl⟩:=us2 hl;exact⟨_,rfl,rfl⟩,(.cons ⟨_,rfl⟩ .nil)⟩,
  ⟨_,eK (ds:=[N,(.int 0 525)]) 1 rfl (fT (a:=275)) E3 λ_ _ _ _ _ _ us hl=>by obtain⟨_,rfl⟩:=us1 hl;exact⟨_,rfl,rfl⟩,(.cons rfl (.cons ⟨_,rfl⟩ .nil))⟩,
  ZK.fM,
  .all λus hl=>by obtain⟨_,_,rfl⟩:=us2 hl;rfl,
  Qa X G (by kernel_rfl),
  ZK.fU,
  eK (ds:=[]) 4 rfl (fT (a:=293)) E2 λ_ _ _ _ _ _ us hl=>by obtain⟨_,_,_,_,rfl⟩:=us4 hl;exact⟨_,rfl,rfl⟩,
  ⟨_,eK (ds:=[N]) 3 rfl (fT (a:=293)) E2 λ_ _ _ _ _ _ us hl=>by obtain⟨_,_,_,rfl⟩:=us3 hl;exact⟨_,rfl,rfl⟩,(.cons rfl .nil)⟩,
  ⟨_,eK (ds:=[(.int 10 551),N]) 2 rfl (fT (a:=293)) E2 λ_ _ _ _ _ _ us hl=>by obtain⟨_,_,rfl⟩:=us2 hl;exact⟨_,rfl,rfl⟩,(.cons ⟨_,rfl⟩ (.cons rfl .nil))⟩,
  Qa X G (by kernel_rfl),
  ZK.fM,
  .all λus hl=>by obtain⟨_,_,_,rfl⟩:=us3 hl;rfl,
  Qa X G (by kernel_rfl),
  ZK.fM,
  .all λus hl=>by obtain⟨_,_,_,rfl⟩:=us3 hl;rfl,
  Qa X G (by kernel_rfl),
  ZK.fM,
  .all λus hl=>by obtain⟨_,_,_,rfl⟩:=us3 hl;rfl,
  Qa X G (by kernel_rfl),
  ZK.fM,
  .all λus hl=>by obtain⟨_,_,_,rfl⟩:=us3 hl;rfl,
  Qa X G (by kernel_rfl),
  ZK.fM,
  .all λus hl=>by obtain⟨_,_,rfl⟩:=us2 hl;rfl,
  ZK.fM,
  .all λus hl=>by obtain⟨_,rfl⟩:=us1 hl;rfl,
  ZK.fM,
  .all λus hl=>by obtain⟨_,_,rfl⟩:=us2 hl;rfl,
  ZK.fM,
  .all λus hl=>by obtain⟨_,_,rfl⟩:=us2 hl;rfl,
  ZK.fM,
  .all λus hl=>by obtain⟨_,_,rfl⟩:=us2 hl;rfl,
  ZK.fM,
  .all λus hl=>by obtain⟨_,rfl⟩:=us1 hl;rfl,
  ZK.fM,
  .all λus hl=>by obtain⟨_,_,_,rfl⟩:=us3 hl;rfl,
  ZK.fM,
  .all λus hl=>by obtain⟨_,_,_,rfl⟩:=us3 hl;rfl,
  ZK.fM,
  .all λus hl=>by obtain⟨_,_,rfl⟩:=us2 hl;rfl,
  ZK.fM,
  .all λus hl=>by obtain⟨_,_,rfl⟩:=us2 hl;rfl,
  ZK.fM,
  .all λus hl=>by obtain⟨_,_,rfl⟩:=us2 hl;rfl,
  ZK.fM,
  .all λus hl=>by obtain⟨_,rfl⟩:=us1 hl;rfl,
  ZK.fM,
  .all λus hl=>by obtain⟨_,_,_,rfl⟩:=us3 hl;rfl,
  Qa X G (by kernel_rfl),
  ZK.fM,
  .all λus hl=>by obtain⟨_,rfl⟩:=us1 hl;rfl,
  ZK.fM,
  .all λus hl=>by obtain⟨_,rfl⟩:=us1 hl;rfl,
  ZK.fM,
  .all λus hl=>by obtain⟨_,_,_,rfl⟩:=us3 hl;rfl,
  ZK.fM,
  .all λus hl=>by obtain⟨_,_,rfl⟩:=us2 hl;rfl,
  ZK.fM,
  .all λus hl=>by obtain⟨_,_,rfl⟩:=us2 hl;rfl,
  ZK.fM,
  .all λus hl=>by obtain⟨_,_,rfl⟩:=us2 hl;rfl,
  ZK.fM,
  .all λus hl=>by obtain⟨_,rfl⟩:=us1 hl;rfl,
  ZK.fM,
  .all λus hl=>by obtain⟨_,rfl⟩:=us1 hl;rfl,
  ZK.fM,
  .all λus hl=>by obtain⟨_,_,_,rfl⟩:=us3 hl;rfl,
  ZK.fM,
  .all λus hl=>by obtain⟨_,_,rfl⟩:=us2 hl;rfl,
  ZK.fM,
  .all λus hl=>by obtain⟨_,_,rfl⟩:=us2 hl;rfl,
  ZK.fM,
  .all λus hl=>by obtain⟨_,_,rfl⟩:=us2 hl;rfl,
  ZK.fM,
  .all λus hl=>by obtain⟨_,rfl⟩:=us1 hl;rfl,
  ZK.fM,
  .all λus hl=>by obtain⟨_,rfl⟩:=us1 hl;rfl,
  ZK.fM,
  .all λus hl=>by obtain⟨_,rfl⟩:=us1 hl;rfl,
  ZK.fM,
  .all λus hl=>by obtain⟨_,_,_,rfl⟩:=us3 hl;rfl,
  ZK.fM,
  .all λus hl=>by obtain⟨_,_,rfl⟩:=us2 hl;rfl,
  ZK.fM,
  .all λus hl=>by obtain⟨_,_,rfl⟩:=us2 hl;rfl,
  ZK.fM,
  .all λus hl=>by obtain⟨_,_,rfl⟩:=us2 hl;rfl,
  ZK.fM,
  .all λus hl=>by obtain⟨_,_,_,rfl⟩:=us3 hl;rfl,
  Qa X G (by kernel_rfl),
  ZK.fM,
  .all λus hl=>by obtain⟨_,_,rfl⟩:=us2 hl;rfl,
  Qa X G (by kernel_rfl),
  ZK.fM,
  .all λus hl=>by obtain⟨_,_,rfl⟩:=us2 hl;rfl,
  Qa X G (by kernel_rfl),
  ZK.fM,
  .all λus hl=>by obtain⟨_,rfl⟩:=us1 hl;rfl,
  Qa X G (by kernel_rfl),
  ZK.fM,
  .all λus hl=>by obtain⟨_,rfl⟩:=us1 hl;rfl,
  Qa X G (by kernel_rfl),
  ZK.fM,
  .all λus hl=>by obtain⟨_,_,_,rfl⟩:=us3 hl;rfl,
  Qa X G (by kernel_rfl),
  ZK.fM,
  .all λus hl=>by obtain⟨_,rfl⟩:=us1 hl;rfl,
  Qa X G (by kernel_rfl),
  ZK.fM,
  .all λus hl=>by obtain⟨_,_,rfl⟩:=us2 hl;rfl,
  Qa X G (by kernel_rfl),
  ZK.fM,
  .all λus hl=>by obtain⟨_,_,rfl⟩:=us2 hl;rfl,
  Qa X G (by kernel_rfl),
  ZK.fM,
  .all λus hl=>by obtain⟨_,rfl⟩:=us1 hl;rfl,
  Qa X G (by kernel_rfl),
  ZK.fM,
  .all λus hl=>by obtain⟨_,_,rfl⟩:=us2 hl;rfl,
  Qa X G (by kernel_rfl),
  ZK.fM,
  .all λus hl=>by obtain⟨_,_,_,_,rfl⟩:=us4 hl;rfl,
  Qa X G (by kernel_rfl),
  ZK.fM,
  .all λus hl=>by obtain⟨_,rfl⟩:=us1 hl;rfl,
  ⟨⟨_,_,_,_,_,_,_,_,_,_,_,_,_,_,(by rfl)⟩,⟨[],rfl⟩,(by kernel_rfl),(by kernel_rfl),(by kernel_rfl),(by kernel_rfl)⟩,
  ⟨⟨_,_,_,_,_,_,_,_,_,_,_,_,_,_,(by rfl)⟩,⟨[ZK.t.bp],rfl⟩,(by kernel_rfl),(by kernel_rfl),(by kernel_rfl),(by kernel_rfl)⟩,
  ZK.nA,
  ⟨⟨_,_,_,_,_,_,_,_,_,_,_,_,_,_,(by rfl)⟩,⟨[ZK.t.bp],rfl⟩,(by kernel_rfl),(by kernel_rfl),(by kernel_rfl),(by kernel_rfl)⟩,
  ZK.nA,
  ⟨⟨_,_,_,_,_,_,_,_,_,_,_,_,_,_,(by rfl)⟩,⟨[ZK.t.bp],rfl⟩,(by kernel_rfl),(by kernel_rfl),(by kernel_rfl),(by kernel_rfl)⟩,
  ZK.nA,
  ⟨⟨_,_,_,_,_,_,_,_,_,_,_,_,_,_,(by rfl)⟩,⟨[ZK.t.bp],rfl⟩,(by kernel_rfl),(by kernel_rfl),(by kernel_rfl),(by kernel_rfl)⟩,
  ZK.nA,
  ⟨⟨_,_,_,_,_,_,_,_,_,_,_,_,_,_,(by rfl)⟩,⟨[ZK.t.bp],rfl⟩,(by kernel_rfl),(by kernel_rfl),(by kernel_rfl),(by kernel_rfl)⟩,
  ZK.nA,
  ZK.nA,
  ZK.nA,
  ⟨(by kernel_rfl),(by kernel_rfl),(by kernel_rfl),(by kernel_rfl)⟩,
  ⟨(by kernel_rfl),(by kernel_rfl),(by kernel_rfl),(by kernel_rfl)⟩,
  ⟨(by kernel_rfl),(by kernel_rfl),(by kernel_rfl),(by kernel_rfl)⟩,
  cz (by kernel_rfl) (by kernel_rfl) (by kernel_rfl) (λz=>absurd z (by decide)),
  cz (by kernel_rfl) (by kernel_rfl) (by kernel_rfl) (λz=>absurd z (by decide)),
  ZK.nA,
  ZK.nA,
  ZK.nA,
  ⟨(by kernel_rfl),(by kernel_rfl),(by kernel_rfl),(by kernel_rfl)⟩,
  ⟨(by kernel_rfl),(by kernel_rfl),(by kernel_rfl),(by kernel_rfl)⟩,
  ⟨(by kernel_rfl),(by kernel_rfl),(by kernel_rfl),(by kernel_rfl)⟩,
  cz (by kernel_rfl) (by kernel_rfl) (by kernel_rfl) (λ_=>rfl),
  cz (by kernel_rfl) (by kernel_rfl) (by kernel_rfl) (λz=>absurd z (by decide)),
  ⟨(by kernel_rfl),(by kernel_rfl),(by kernel_rfl)⟩,
  ZK.nA,
  ZK.nA,
  ZK.nA,
  ⟨(by kernel_rfl),(by kernel_rfl),(by kernel_rfl),(by kernel_rfl)⟩,
  ⟨(by kernel_rfl),(by kernel_rfl),(by kernel_rfl),(by kernel_rfl)⟩,
  ⟨(by kernel_rfl),(by kernel_rfl),(by kernel_rfl),(by kernel_rfl)⟩,
  cz (by kernel_rfl) (by kernel_rfl) (by kernel_rfl) (λz=>absurd z (by decide)),
  cz (by kernel_rfl) (by kernel_rfl) (by kernel_rfl) (λ_=>rfl),
  ⟨(by kernel_rfl),(by kernel_rfl),(by kernel_rfl)⟩,
  ZK.nA,
  ZK.nA,
  ZK.nA,
  ⟨(by kernel_rfl),(by kernel_rfl),(by kernel_rfl),(by kernel_rfl)⟩,
  ⟨(by kernel_rfl),(by kernel_rfl),(by kernel_rfl),(by kernel_rfl)⟩,
  ⟨(by kernel_rfl),(by kernel_rfl),(by kernel_rfl),(by kernel_rfl)⟩,
  cz (by kernel_rfl) (by kernel_rfl) (by kernel_rfl) (λz=>absurd z (by decide)),
  cz (by kernel_rfl) (by kernel_rfl) (by kernel_rfl) (λz=>absurd z (by decide)),
  ⟨(by kernel_rfl),(by kernel_rfl),(by kernel_rfl)⟩,
  ZK.nA,
  ⟨(by kernel_rfl),(by kernel_rfl),(by kernel_rfl),(by kernel_rfl)⟩,
  ⟨(by kernel_rfl),(by kernel_rfl),(by kernel_rfl),(by kernel_rfl)⟩,
  ⟨(by kernel_rfl),(by kernel_rfl),(by kernel_rfl),(by kernel_rfl)⟩,
  cz (by kernel_rfl) (by kernel_rfl) (by kernel_rfl) (λz=>absurd z (by decide)),
  cz (by kernel_rfl) (by kernel_rfl) (by kernel_rfl) (λz=>absurd z (by decide)),
  ⟨(by kernel_rfl),(by kernel_rfl),(by kernel_rfl)⟩,
  ⟨(by kernel_rfl),(by kernel_rfl),(by kernel_rfl)⟩,
  ⟨(by kernel_rfl),(by kernel_rfl),(by kernel_rfl)⟩,
  ⟨(by kernel_rfl),(by kernel_rfl),(by kernel_rfl)⟩,
  ⟨(by kernel_rfl),(by kernel_rfl),(by kernel_rfl)⟩,
  ⟨(by kernel_rfl),(by kernel_rfl),(by kernel_rfl)⟩,
  ⟨(by kernel_rfl),(by kernel_rfl),(by kernel_rfl)⟩,
  ⟨(by kernel_rfl),(by kernel_rfl),(by kernel_rfl)⟩,
  ⟨(by kernel_rfl),(by kernel_rfl),(by kernel_rfl)⟩,
  ZK.nA,
  ⟨(by kernel_rfl),(by kernel_rfl),(by kernel_rfl),(by kernel_rfl)⟩,
  ⟨(by kernel_rfl),(by kernel_rfl),(by kernel_rfl),(by kernel_rfl)⟩,
  ⟨(by kernel_rfl),(by kernel_rfl),(by kernel_rfl),(by kernel_rfl)⟩,
  cz (by kernel_rfl) (by kernel_rfl) (by kernel_rfl) (λz=>absurd z (by decide)),
  cz (by kernel_rfl) (by kernel_rfl) (by kernel_rfl) (λz=>absurd z (by decide)),
  ⟨(by kernel_rfl),(by kernel_rfl),(by kernel_rfl)⟩,
  ZK.nA,
  ZK.nA,
  ZK.nA,
  ⟨(by kernel_rfl),(by kernel_rfl),(by kernel_rfl),(by kernel_rfl)⟩,
  ⟨(by kernel_rfl),(by kernel_rfl),(by kernel_rfl),(by kernel_rfl)⟩,
  ⟨(by kernel_rfl),(by kernel_rfl),(by kernel_rfl),(by kernel_rfl)⟩,
  cz (by kernel_rfl) (by kernel_rfl) (by kernel_rfl) (λz=>absurd z (by decide)),
  cz (by kernel_rfl) (by kernel_rfl) (by kernel_rfl) (λz=>absurd z (by decide)),
  ⟨(by kernel_rfl),(by kernel_rfl),(by kernel_rfl)⟩,
  ⟨(by kernel_rfl),(by kernel_rfl),(by kernel_rfl)⟩,
  ⟨(by kernel_rfl),(by kernel_rfl),(by kernel_rfl)⟩,
  ⟨(by kernel_rfl),(by kernel_rfl),(by kernel_rfl)⟩,
  ⟨(by kernel_rfl),(by kernel_rfl),(by kernel_rfl)⟩,
  ⟨(by kernel_rfl),(by kernel_rfl),(by kernel_rfl)⟩,
  ⟨(by kernel_rfl),(by kernel_rfl),(by kernel_rfl)⟩,
  ⟨(by kernel_rfl),(by kernel_rfl),(by kernel_rfl)⟩,
  ⟨(by kernel_rfl),(by kernel_rfl),(by kernel_rfl)⟩,
  ⟨(by kernel_rfl),(by kernel_rfl),(by kernel_rfl)⟩,
  ⟨(by kernel_rfl),(by kernel_rfl),(by kernel_rfl)⟩,
  ⟨(by kernel_rfl),(by kernel_rfl),(by kernel_rfl)⟩,
  ZK.nA,
  ZK.nA,
  ZK.nA,
  ZK.nA,
  ZK.nA,
  ZK.nA,
  ZK.nA,
  ZK.nA,
  ⟨(by kernel_rfl),(by kernel_rfl),(by kernel_rfl),(by kernel_rfl)⟩,
  ⟨(by kernel_rfl),(by kernel_rfl),(by kernel_rfl),(by kernel_rfl)⟩,
  ⟨(by kernel_rfl),(by kernel_rfl),(by kernel_rfl),(by kernel_rfl)⟩,
  cz (by kernel_rfl) (by kernel_rfl) (by kernel_rfl) (λz=>absurd z (by decide)),
  cz (by kernel_rfl) (by kernel_rfl) (by kernel_rfl) (λz=>absurd z (by decide)),
  ⟨(by kernel_rfl),(by kernel_rfl),(by kernel_rfl)⟩,
  ⟨(by kernel_rfl),(by kernel_rfl),(by kernel_rfl)⟩,
  ⟨(by kernel_rfl),(by kernel_rfl),(by kernel_rfl)⟩,
  ⟨(by kernel_rfl),(by kernel_rfl),(by kernel_rfl)⟩,
  ⟨(by kernel_rfl),(by kernel_rfl),(by kernel_rfl)⟩,
  ⟨(by kernel_rfl),(by kernel_rfl),(by kernel_rfl)⟩,
  ⟨(by kernel_rfl),(by kernel_rfl),(by kernel_rfl)⟩,
  ⟨332,Qa X G (by kernel_rfl)⟩,
  ⟨334,Qa X G (by kernel_rfl)⟩,
  ⟨549,Qa X G (by kernel_rfl)⟩,
  ⟨602,Qa X G (by kernel_rfl)⟩,
  ⟨604,Qa X G (by kernel_rfl)⟩,
  ⟨778,Qa X G (by kernel_rfl)⟩,
  ⟨780,Qa X G (by kernel_rfl)⟩,
  QM X G (by kernel_rfl),
  QM X G (by kernel_rfl),
  QM X G (by kernel_rfl),
  QM X G (by kernel_rfl),
  QM X G (by kernel_rfl),
  QM X G (by kernel_rfl),
  QM X G (by kernel_rfl),
  QM X G (by kernel_rfl),
  QM X G (by kernel_rfl),
  QM X G (by kernel_rfl),
  QM X G (by kernel_rfl),
  QM X G (by kernel_rfl)⟩
theorem walk {l:PySem.W.OpenLaw} {q:Program} {loose:List Str} {XP:(Str→Option Value)→Heap→Prop} {YP:World→Heap→Prop} {d:DefRec} {K:Params→PySem.W.Frag} (hn:l.most=some 63) (hdf:d.params.defaults=[])
  (hY:∀(w:World) (h:Heap),YP w h→(K w.params).In h) (hd:d.name="law")
  (F:∀(w:World) (mg:Str→Option Value) (h:Heap),(K w.params).In h→h.Ns mainGlobals mg→∃t,Txt (K w.params) mg t):
  PySem.W.WalkO q loose XP YP l.row.toRowW d [] (λf vs=>PySem.call f vs):=by
 refine L2.walk_of (n:=63) (k:=9) (x:="_law_script") (CX:=λ_=>CX0) (sp:=λw=>Ab (K w.params)) hn (by decide) hdf ⟨rfl,by decide,by decide⟩ hY (λw mg fa h KX G hfa=>?_) (λ_ _ a ns hl _ hS=>⟨a,ns,rfl,hS,hl,λ_=>rfl⟩) λ_ _ _ _ _ z=>z
 obtain⟨t,T⟩:=F w mg h KX G
 have e:=hfa.symm.trans ((congrArg mg hd).trans T.FZ)
 cases e
 obtain⟨oc,od,kV,doc,pm,an,cdv,ct,osl,e1,lk,hcd⟩:=T.FR.ex
 refine⟨t.yz,λs u=>?_,λbase _ _=>Es T⟩
 rw[e1]
 exact .of_eq rfl
end SW
open PySem PySem.W PyProof.Rows
set_option maxRecDepth 100000 in
set_option maxHeartbeats 0 in
theorem PySem.Challenge.cw_staywalk_k37_whole_an_ask_holds : PySem.Challenge.rw_staywalk_k37_whole_an_ask.Holds := by
 w_on
 refine holds_law ZK.said λsaid=>?_
 refine holds_open (q:=ZK.q) (loose:=["BySlots","Up","Down","ask"]) (Xt:=λs=>xlAt ZK.q [] s&&recOk (RowW.records (OpenRow.toRowW (OpenLaw.row PySem.Challenge.rw_staywalk_k37_whole_an_ask))) s) (XP:=XL ZK.q []) (Yf:=Hook.obs ZK.H) (Ya:=Hook.val ZK.H) (YP:=Hook.says ZK.H) ZK.left (Hook.of ZK.H) (Hook.keeps ZK.H) (λs e=>xl_of s (QC.mp e).1) XL.keeps (by rfl) (by rfl) (by rfl) (λs e=>recFacts_of (QC.mp e).2) (by rfl) (by first|assumption|decide+kernel) (by decide+kernel) ⟨rfl,rfl,rfl,rfl,rfl,by decide+kernel⟩ ?hw ?hc
 (case hw=>w_witness2)
 exact SW.walk (l:=PySem.Challenge.rw_staywalk_k37_whole_an_ask) rfl rfl (λw h Y=>kIn_of Y) rfl λw mg h KX G=>⟨_,SW.txt KX G⟩
#print axioms PySem.Challenge.cw_staywalk_k37_whole_an_ask_holds
