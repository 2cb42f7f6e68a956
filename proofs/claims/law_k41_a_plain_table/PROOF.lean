import PyProof.Rows.All
import PySem.Challenge.RW_staywalk_k41_a_plain_table
import KE.KFromBytes
import KE.KItemsList
import KE.KPairComp
import KE.KSortTup
import KE.KIsAll
import KE.KRevSl
import KE.LcSums
import KE.KDictOf
set_option Elab.async false
set_option linter.all false
set_option maxRecDepth 100000
set_option maxHeartbeats 0
local macro_rules | `(tactic| omega) => `(tactic| lia)
abbrev Q0:=@List.length_map
abbrev Q3:=@List.mem_of_getElem?
abbrev Q4:=@List.getElem?_eq_some_iff
abbrev Q5:=@List.getElem?_eq_getElem
abbrev Q6:=@Nat.le_refl
abbrev Q7:=@List.mem_append
abbrev Q8:=@List.mem_cons_self
abbrev Q9:=@Array.length_toList
abbrev Qa:=@List.mem_cons_of_mem
abbrev Qb:=@List.mem_map
abbrev Qc:=@Bool.false_ne_true
abbrev Qd:=@List.mem_singleton
abbrev Qe:=@List.mem_cons
abbrev Qf:=@List.length_cons
abbrev Qg:=@List.length_append
abbrev Qh:=@Nat.zero_le
abbrev Qi:=@List.size_toArray
abbrev Qj:=@List.pairwise_append
abbrev Qk:=@List.map_append
abbrev Ql:=@List.getElem?_map
abbrev Qm:=@List.length_take
abbrev Qn:=@List.getD_eq_getElem?_getD
abbrev Qo:=@List.append_assoc
abbrev Qp:=@List.pairwise_map
abbrev Qq:=@PySem.W.mg_of
abbrev Qr:=@List.map_cons
abbrev Qs:=@Int.emod_nonneg
abbrev Qt:=@PySem.F.plainAttrs_list
abbrev Qu:=@List.mem_append_right
abbrev Qv:=@Int.emod_lt_of_pos
abbrev Qw:=@Nat.ne_of_lt
abbrev Qx:=@List.getElem?_set
abbrev Qy:=@List.map_map
abbrev Qz:=@Nat.lt_of_lt_of_le
abbrev QA:=@List.take_add_one
abbrev QB:=@Array.getElem?_toList
abbrev QC:=@List.length_filter_le
abbrev QD:=@List.getElem_of_mem
abbrev QE:=@List.nodup_cons
abbrev QF:=@List.length_set
abbrev QG:=@PySem.F.plainAttrs_dict
abbrev QH:=@Array.toList_append
abbrev QI:=@List.length_drop
abbrev QJ:=@List.take_append_drop
abbrev QK:=@List.all_eq_true
abbrev QL:=@Nat.max_eq_right
abbrev QM:=@Bool.false_eq_true
abbrev QN:=@List.take_of_length_le
abbrev QO:=@List.take_length
abbrev QP:=@List.length_pos_iff
abbrev QQ:=@Int.toNat_natCast
abbrev QR:=@List.contains_cons
abbrev QS:=@List.filter_append
abbrev QT:=@PySem.W.mg_none_of
abbrev QU:=@List.not_mem_nil
abbrev QV:=@List.extract_eq_take_drop
abbrev QW:=@List.length_singleton
abbrev QX:=@PySem.F.slot_list_append
abbrev QY:=@PySem.F.type_list_append
abbrev QZ:=@PySem.W.kia_one
abbrev Z0:=@List.mem_append_left
abbrev Z1:=@List.pairwise_singleton
abbrev Z2:=@Nat.le_trans
abbrev Z3:=@Int.ne_of_gt
abbrev Z4:=@Nat.le_succ
abbrev Z5:=@List.pairwise_iff_getElem
abbrev Z6:=@List.getElem?_eq_none_iff
abbrev Z7:=@List.pairwise_cons
abbrev Z8:=@List.mem_of_mem_eraseIdx
abbrev Z9:=@Array.toList_extract
abbrev Za:=@Int.eq_ofNat_of_zero_le
abbrev Zb:=@List.getElem?_cons_succ
abbrev Zc:=@List.mem_filter
abbrev Zd:=@List.map_congr_left
abbrev Ze:=@List.flatten_append
abbrev Zf:=@List.drop_eq_nil_of_le
abbrev Zg:=@List.filter_cons
abbrev Zh:=@List.getElem?_append_right
abbrev Zi:=@List.nodup_nil
abbrev Zj:=@List.length_replicate
abbrev Zk:=@List.mem_iff_getElem?
abbrev Zl:=@List.getElem?_append_left
abbrev Zm:=@List.drop_eq_getElem_cons
abbrev Zn:=@List.ne_nil_of_length_pos
abbrev Zo:=@List.mem_or_eq_of_mem_set
abbrev Zp:=@Nat.le_of_lt
abbrev Zq:=@List.flatten_cons
abbrev Zr:=@Nat.lt_irrefl
abbrev Zs:=@List.eq_of_mem_replicate
abbrev Zt:=@Bool.and_eq_true
abbrev Zu:=@Option.bind_some
abbrev Zv:=@List.getElem_mem
abbrev Zw:=@PySem.W.kat_cons
abbrev Zx:=@List.length_eq_zero_iff
abbrev Zy:=@PySem.W.kat_yes
abbrev Zz:=@PySem.W.methodCall_KW
abbrev ZA:=@List.getElem_drop
abbrev ZB:=@Array.getElem?_eq_some_iff
abbrev ZC:=@List.mem_iff_getElem
abbrev ZD:=@List.drop_zero
abbrev ZE:=@Array.perm_iff_toList_perm
abbrev ZF:=@PySem.W.kat_go
abbrev ZG:=@PySem.W.kat_no
abbrev ZH:=@Int.le_refl
abbrev ZI:=@List.mem_of_mem_take
abbrev ZJ:=@List.lookup_cons
abbrev ZL:=@List.mem_flatMap
abbrev ZM:=@List.find?_cons
abbrev ZN:=@Nat.eq_zero_or_pos
abbrev ZO:=@PySem.F.slot_dict_items
abbrev ZP:=@List.getElem?_set_self
abbrev ZQ:=@Nat.le_of_eq
abbrev ZR:=@Nat.pow_succ
abbrev ZS:=@Nat.add_zero
abbrev ZT:=@List.getElem_take
abbrev ZU:=@List.perm_append_comm
abbrev ZV:=@List.concat_eq_append
abbrev ZW:=@List.any_cons
abbrev ZX:=@List.map_take
abbrev ZY:=@Array.toArray_toList
abbrev ZZ:=@Array.push_eq_append
abbrev X0:=@List.mem_of_mem_drop
abbrev X1:=@List.mem_map_of_mem
abbrev X2:=@Nat.mul_comm
abbrev X3:=@Bool.or_true
abbrev X4:=@PySem.W.callWith_K
abbrev X5:=@Nat.lt_of_le_of_lt
abbrev X6:=@List.getElem?_drop
abbrev X7:=@Int.mul_nonneg
abbrev X8:=@List.exists_mem_of_ne_nil
abbrev X9:=@PySem.F.slot_list_insert
abbrev Xa:=@PySem.F.type_list_insert
abbrev Xb:=@Nat.lt_succ_self
abbrev Xc:=@PySem.F.type_dict_items
abbrev Xd:=@Nat.div_div_eq_div_mul
abbrev Xe:=@PySem.F.slot_dict_keys
abbrev Xf:=@Bool.eq_iff_iff
abbrev Xg:=@List.append_nil
abbrev Xh:=@List.of_mem_zip
abbrev Xi:=@Option.map_some
abbrev Xj:=@Nat.not_lt_zero
abbrev Xk:=@PySem.W.kat_one
abbrev Xm:=@PySem.F.slot_dict_pop
abbrev Xn:=@PySem.F.slot_dict_get
abbrev Xo:=@Int.mul_ediv_add_emod
abbrev Xp:=@Array.getElem_push_lt
abbrev Xq:=@List.getElem?_set_ne
abbrev Xr:=@List.getElem?_append
abbrev Xs:=@List.length_eraseIdx
abbrev Xu:=@List.filterMap_cons
abbrev Xv:=@PySem.W.plainGet_of
abbrev Xw:=@Int.toNat_of_nonneg
abbrev Xx:=@Nat.not_lt
abbrev Xy:=@List.eraseIdx_append_of_length_le
abbrev Xz:=@Nat.ne_of_gt
abbrev XA:=@Option.isSome_map
abbrev XB:=@Int.mul_comm
abbrev XC:=@Nat.zero_add
abbrev XD:=@Array.toList_push
abbrev XE:=@Nat.lt_succ_of_lt
abbrev XF:=@List.map_id'
abbrev XG:=@List.map_set
abbrev XH:=@List.eraseIdxIfInBounds_toArray
abbrev XI:=@List.cons_append
abbrev XJ:=@Array.toList_map
abbrev XM:=@List.map_snd_zip
abbrev XQ:=@PySem.W.kat_kind
abbrev XR:=@List.mem_flatten
abbrev XS:=@Int.mul_le_mul_of_nonneg_right
abbrev XT:=@Int.mul_le_mul_of_nonneg_left
abbrev XU:=@List.length_nil
abbrev XV:=@PySem.W.kat_nil
abbrev XW:=@PySem.F.slot_dict_setdefault
abbrev XX:=@Int.ediv_nonneg
abbrev XY:=@Int.lt_ediv_add_one_mul_self
abbrev XZ:=@List.mem_range
abbrev K0:=@Bool.and_false
abbrev K3:=@PySem.F.excBase_ValueError
abbrev K4:=@List.drop_drop
abbrev K5:=@Array.toList_setIfInBounds
abbrev K7:=@PySem.W.kat_lt
namespace L2
open PySem PySem.Spec PyProof.Rows
noncomputable def aL (s:Stmt) (j:Nat):Stmt:=match s with
 | .ClassDef _ _ _ body _ _ _ _ _ _ _=>body.getD j (.Pass ⟨0,0,0,0⟩)
 |_=> .Pass ⟨0,0,0,0⟩
noncomputable def m4 (s:Stmt):Arguments:=match s with
 | .FunctionDef _ a _ _ _ _ _ _ _ _=>a
 |_=>{posonlyargs:=[],args:=[],vararg:=none,kwonlyargs:=[],kw_defaults:=[],kwarg:=none,defaults:=[]}
noncomputable def iY (s:Stmt):List Stmt:=match s with
 | .FunctionDef _ _ b _ _ _ _ _ _ _=>b
 |_=> []
noncomputable def am (s:Stmt):Scope:=match s with
 | .FunctionDef _ _ _ _ _ _ sc _ _ _=>sc
 |_=>{kind:= .function,names:=[],isGenerator:=false,isCoroutine:=false}
end L2
namespace HD
open PySem PySem.W
noncomputable def AZ (p:Program) (w:World) (n₀:Nat) (ann:Option Value):Nat→SharedT→Thread→Option SharedT
 |0,_,_=>none
 |n+1,s,t=>match through t with
  |true=>some s
  |false=>match Fast.tw6613529449190102663 n₀ ann t with
   |false=>none
   |true=>match Fast.tw10156331382660048174 (Fast.tw11892475500146522536 Fast.tw14364793385576792824) p w s t with
    |some (s',t')=>AZ p w n₀ ann n s' t'
    |none=>none
theorem wf {p:Program} {w:World} {n₀:Nat} {ann:Option Value}:∀{n:Nat} {s s':SharedT} {t:Thread},AZ p w n₀ ann n s t=some s'→topRun treeTable p w n₀ ann n s.abs t=some s'.abs
 |0,_,_,_,h=>by cases h
 |n+1,s,s',t,h=>by
  unfold AZ at h
  rw[←Fast.te6613529449190102663,←Fast.te10156331382660048174,←Fast.te11892475500146522536,←Fast.te14364793385576792824]at h
  unfold topRun
  cases ht:through t with
  |true=>rw[ht]at h;cases h;rfl
  |false=>
   rw[ht]at h
   cases hk:stepOk n₀ ann t with
   |false=>rw[hk]at h;cases h
   |true=>
    rw[hk]at h
    cases hs:stepT (denote treeTable) p w s t with
    |none=>rw[hs]at h;cases h
    |some x=>
     obtain⟨s2,t2⟩:=x
     rw[hs]at h
     show(match step (denote treeTable) p w s.abs t with| .go s' t'=>topRun treeTable p w n₀ ann n s' t'| .halt _ _=>none)=_
     rw[stepT_spec hs]
     exact wf h
noncomputable def layT:List Obj→BT→Nat→Option (BT×Nat)
 | [],t,n=>some (t,n)
 |o::r,t,n=>match ((t.ins n o).get n).isSome with
  |true=>layT r (t.ins n o) (n+1)
  |false=>none
theorem wB {life:Life}:∀{l:List Obj} {t t':BT} {n n':Nat},layT l t n=some (t',n')→absHeap t' n' life=⟨(absHeap t n life).objs++l.toArray,life⟩
 | [],t,t',n,n',h=>by
  cases h
  rw[Array.append_empty]
  rfl
 |o::r,t,t',n,n',h=>by
  unfold layT at h
  cases g:((t.ins n o).get n).isSome with
  |false=>rw[g]at h;cases h
  |true=>
   rw[g]at h
   rw[wB h,absHeap_ins g]
   show Heap.mk _ _=Heap.mk _ _
   congr 1
   show(absHeap t n life).objs.push o++r.toArray=_
   rw[←Array.append_singleton,Array.append_assoc]
   congr 1
   simp
noncomputable def toT (s:Shared):Option SharedT:=match layT s.heap.objs.toList .nil 0 with
 |some (t,n)=>some ⟨t,n,s.heap.life,s.gens,s.drawn,s.toks,s.os⟩
 |none=>none
theorem CM {s:Shared} {S:SharedT} (h:toT s=some S):S.abs=s:=by
 unfold toT at h
 cases e:layT s.heap.objs.toList .nil 0 with
 |none=>rw[e]at h;cases h
 |some x=>
  obtain⟨t,n⟩:=x
  rw[e]at h
  cases h
  obtain⟨⟨objs,life⟩,gens,drawn,toks,os⟩:=s
  show Shared.mk (absHeap t n life) _ _ _ _=_
  rw[wB e]
  show Shared.mk (Heap.mk (#[]++objs.toList.toArray) life) _ _ _ _=_
  rw[ZY,Array.empty_append]
noncomputable def Du (p:Program) (w:World) (N:Nat) (s₀:Shared):Option Shared:=match toT s₀ with
 |some S=>(AZ p w S.n (s₀.heap.nsMap mainGlobals "__annotations__") N S (topStub p)).map SharedT.abs
 |none=>none
theorem BM {p:Program} {w:World} {N:Nat} {s₀ s₁:Shared} (h:Du p w N s₀=some s₁):topRun treeTable p w s₀.heap.objs.size (s₀.heap.nsMap mainGlobals "__annotations__") N s₀ (topStub p)=some s₁:=by
 unfold Du at h
 cases e:toT s₀ with
 |none=>rw[e]at h;cases h
 |some S=>
  rw[e]at h
  obtain⟨S1,h1,rfl⟩:=Option.map_eq_some_iff.mp h
  have ea:=CM e
  have en:S.n=s₀.heap.objs.size:=by
   rw[←ea]
   exact(absHeap_size _ _ _).symm
  rw[en]at h1
  have:=wf h1
  rw[ea]at this
  exact this
theorem left_of {p q:Program} {loose:List Str} {Xt:Shared→Bool} {α:Type} {Yf:Shared→α} {Ya:World→α} {N:Nat}
  (h:∀w,((Fast.tw10274390034422433532 Fast.tw14364793385576792824 (opening p) w N (start (opening p)).1 (start (opening p)).2).bind (Fast.tw14289696077712309145 p)).bind (λs₀=>match s₀.heap.isNs mainGlobals&&s₀.gens.size==0 with
   |true=>(Du p w N s₀).bind λs₁=>match staticsOk (importedModules p.main.body) s₀.heap s₁.heap&&namesBound p s₁.heap&&gensDone s₁&&laidKept s₀.heap s₁.heap with
    |true=>some (Fast.tw4187177175401517315 q loose (importedModules p.main.body) Xt true s₁,Yf s₁)
    |false=>none
   |false=>none)=some (openGood q loose,Ya w)):LeftO p q loose Xt Yf Ya N:=λw=>by
 have h:=h w
 rw[←Fast.te10274390034422433532,←Fast.te14364793385576792824,←Fast.te14289696077712309145,←Fast.te4187177175401517315]at h
 obtain⟨s₀,h0,h⟩:=Option.bind_eq_some_iff.mp h
 unfold openEnds fencedOpening
 rw[h0]
 show(topFrom treeTable p w N s₀).map _=_
 unfold topFrom
 cases hg:(s₀.heap.isNs mainGlobals&&s₀.gens.size==0)with
 |false=>rw[hg]at h;cases h
 |true=>
  rw[hg]at h
  obtain⟨s₁,h1,h⟩:=Option.bind_eq_some_iff.mp h
  show Option.map _ ((topRun treeTable p w s₀.heap.objs.size (s₀.heap.nsMap mainGlobals "__annotations__") N s₀ (topStub p)).bind _)=_
  rw[BM h1]
  cases hs:(staticsOk (importedModules p.main.body) s₀.heap s₁.heap&&namesBound p s₁.heap&&gensDone s₁&&laidKept s₀.heap s₁.heap)with
  |false=>rw[hs]at h;cases h
  |true=>
   rw[hs]at h
   show Option.map _ (match (staticsOk (importedModules p.main.body) s₀.heap s₁.heap&&namesBound p s₁.heap&&gensDone s₁&&laidKept s₀.heap s₁.heap)with|true=>some s₁|false=>none)=_
   rw[hs]
   exact h
end HD
namespace SW
open PySem L2
set_option maxHeartbeats 0
noncomputable def top (i:Nat):Stmt:=PySem.Challenge.pw_staywalk_k41_a_plain_table.main.body.getD i (.Pass ⟨0,0,0,0⟩)
noncomputable abbrev fj:Stmt:=aL (top 3) 0
noncomputable abbrev i7:Stmt:=aL (top 4) 0
noncomputable abbrev gh:Stmt:=aL (top 5) 0
noncomputable abbrev oB:Stmt:=top 9
noncomputable abbrev lJ:Stmt:=top 10
noncomputable abbrev jI:Stmt:=top 11
noncomputable abbrev lH:Stmt:=top 12
noncomputable abbrev gu:Stmt:=top 13
noncomputable abbrev lI:Stmt:=top 14
noncomputable abbrev dR:Stmt:=aL (top 18) 0
noncomputable abbrev dh:Stmt:=aL (top 18) 1
noncomputable abbrev cJ:Stmt:=aL (top 18) 2
noncomputable abbrev fq:Stmt:=aL (top 18) 3
noncomputable abbrev bT:Stmt:=aL (top 18) 6
noncomputable abbrev cI:Stmt:=aL (top 18) 8
noncomputable abbrev b5:Stmt:=aL (top 18) 9
noncomputable abbrev bX:Stmt:=aL (top 18) 10
noncomputable abbrev fo:Stmt:=aL (top 20) 0
noncomputable abbrev fk:Stmt:=aL (top 20) 1
noncomputable abbrev bW:Stmt:=aL (top 20) 4
noncomputable abbrev eL:Stmt:=top 24
noncomputable abbrev fg:Stmt:=aL (top 25) 0
noncomputable abbrev gA:Stmt:=aL (top 25) 1
noncomputable abbrev fh:Stmt:=aL (top 25) 2
noncomputable abbrev gE:Stmt:=aL (top 25) 3
noncomputable abbrev gB:Stmt:=aL (top 25) 4
noncomputable abbrev fc:Stmt:=aL (top 25) 5
noncomputable abbrev de:Stmt:=aL (top 25) 6
noncomputable abbrev dP:Stmt:=aL (top 25) 7
noncomputable abbrev dQ:Stmt:=aL (top 25) 8
noncomputable abbrev cc:Stmt:=aL (top 25) 9
noncomputable abbrev e7:Stmt:=aL (top 25) 10
noncomputable abbrev cY:Stmt:=aL (top 25) 11
noncomputable abbrev cH:Stmt:=aL (top 25) 12
noncomputable abbrev cp:Stmt:=aL (top 25) 13
noncomputable abbrev cq:Stmt:=aL (top 25) 14
noncomputable abbrev fu:Stmt:=aL (top 27) 0
noncomputable abbrev gF:Stmt:=aL (top 27) 1
noncomputable abbrev fz:Stmt:=aL (top 27) 2
noncomputable abbrev gH:Stmt:=aL (top 27) 3
noncomputable abbrev gG:Stmt:=aL (top 27) 4
noncomputable abbrev ft:Stmt:=aL (top 27) 5
noncomputable abbrev fv:Stmt:=aL (top 27) 9
noncomputable abbrev fw:Stmt:=aL (top 27) 11
noncomputable abbrev dS:Stmt:=aL (top 27) 12
noncomputable abbrev fA:Stmt:=aL (top 27) 15
noncomputable abbrev gx:Stmt:=top 29
noncomputable abbrev jJ:Stmt:=top 30
noncomputable abbrev gv:Stmt:=top 31
noncomputable abbrev cG:Stmt:=top 32
noncomputable abbrev eZ:Stmt:=top 33
noncomputable abbrev ie:Stmt:=top 34
noncomputable abbrev gw:Stmt:=top 35
noncomputable abbrev gy:Stmt:=top 36
noncomputable abbrev yE:Stmt:=top 37
set_option genSizeOf false in
set_option genInjectivity false in
structure Adr where
 gc:Addr
 fR:FuncData
 Aq:Addr
 jh:FuncData
 yb:Addr
 gj:FuncData
 uN:Addr
 pH:FuncData
 rX:Addr
 mh:FuncData
 pS:Addr
 jY:FuncData
 rV:Addr
 l7:FuncData
 kT:Addr
 gP:FuncData
 rW:Addr
 mf:FuncData
 iN:Addr
 eB:FuncData
 ju:Addr
 fV:FuncData
 eX:Addr
 cT:FuncData
 jt:Addr
 fU:FuncData
 eV:Addr
 cR:FuncData
 eU:Addr
 cQ:FuncData
 dC:Addr
 b8:FuncData
 du:Addr
 bZ:FuncData
 js:Addr
 fT:FuncData
 jr:Addr
 fS:FuncData
 iM:Addr
 d9:FuncData
 mG:Addr
 iG:FuncData
 jp:Addr
 fP:FuncData
 k7:Addr
 gV:FuncData
 jq:Addr
 fQ:FuncData
 lg:Addr
 gX:FuncData
 k8:Addr
 gW:FuncData
 jo:Addr
 fO:FuncData
 jn:Addr
 fN:FuncData
 iJ:Addr
 d7:FuncData
 iK:Addr
 d8:FuncData
 jk:Addr
 fL:FuncData
 jj:Addr
 fK:FuncData
 gr:Addr
 c7:FuncData
 eT:Addr
 cP:FuncData
 eF:Addr
 cv:FuncData
 eG:Addr
 cw:FuncData
 jw:Addr
 fX:FuncData
 lq:Addr
 gY:FuncData
 jz:Addr
 f7:FuncData
 lB:Addr
 g7:FuncData
 lu:Addr
 gZ:FuncData
 jv:Addr
 fW:FuncData
 jx:Addr
 fY:FuncData
 jy:Addr
 fZ:FuncData
 iO:Addr
 eC:FuncData
 jB:Addr
 f8:FuncData
 kX:Addr
 gS:FuncData
 pT:Addr
 jZ:FuncData
 kU:Addr
 gQ:FuncData
 kY:Addr
 gT:FuncData
 ji:Addr
 fJ:FuncData
 mH:Addr
 iH:FuncData
 kW:Addr
 gR:FuncData
 kZ:Addr
 gU:FuncData
 CD:Addr
 wO:FuncData
 bH:Addr
 bP:Addr
 m7:Addr
 g9:Addr
 bI:Addr
 dH:Addr
 aQ:Addr
 aB:Addr
end SW
namespace ZK
open PySem PySem.W SW L2
noncomputable abbrev N:Value:= .none
noncomputable abbrev B (b:Bool):Value:= .bool b
noncomputable abbrev I (i:Int):Value:= .int i 0
noncomputable abbrev S (x:Str) (t:Nat):Value:= .str x t
noncomputable abbrev F (t:Nat):Value:= .str "/claim/cut.py" t
noncomputable abbrev R (a:Addr):Value:= .ref a
noncomputable abbrev T (n:String):Value:= .type n
noncomputable abbrev E (P:Params) (x:Str) (t:Nat) (v:Value):DictEntry:=⟨PyData.keyHash P x,.str x t,v⟩
noncomputable abbrev c (vs:List Value):Obj:=⟨.type "code",none,.fields vs.toArray, #[]⟩
noncomputable abbrev D (nm qn:Str) (s:Stmt) (df kV dc pm:Value) (an:Option Addr) (cd ct:Value):FuncData:=fnOf nm qn (m4 s) (iY s) (am s) df kV dc pm an cd ct
noncomputable abbrev f (d:FuncData):Obj:=⟨.type "function",none,.func d, #[]⟩
noncomputable def t:Adr:=⟨48,D "__init__" "NoKey.__init__" fj N N N (S "staywalk.errors" 194) none (R 47) N,67,D "__init__" "Twice.__init__" i7 N N N (S "staywalk.errors" 194) none (R 66) N,86,D "__init__" "NoMoment.__init__" gh N N N (S "staywalk.errors" 194) none (R 85) N,98,D "turned" "turned" oB N N N (S "staywalk.bits" 289) none (R 97) N,105,D "mark_of" "mark_of" lJ N N N (S "staywalk.bits" 289) none (R 104) N,112,D "place_of" "place_of" jI N N N (S "staywalk.bits" 289) none (R 111) N,119,D "slot_of" "slot_of" lH N N N (S "staywalk.bits" 289) none (R 118) N,126,D "stretch_of" "stretch_of" gu N N N (S "staywalk.bits" 289) none (R 125) N,133,D "slot_at" "slot_at" lI N N N (S "staywalk.bits" 289) none (R 132) N,147,D "__init__" "Leaves.__init__" dR N N N (S "staywalk.leaves" 344) none (R 146) N,152,D "add" "Leaves.add" dh N N N (S "staywalk.leaves" 344) none (R 151) N,159,D "discard" "Leaves.discard" cJ N N N (S "staywalk.leaves" 344) none (R 158) N,166,D "has" "Leaves.has" fq N N N (S "staywalk.leaves" 344) none (R 165) N,183,D "from_on" "Leaves.from_on" bT N N N (S "staywalk.leaves" 344) none (R 182) N,197,D "leaf_of" "Leaves.leaf_of" cI N N N (S "staywalk.leaves" 344) none (R 196) N,204,D "part_leaf" "Leaves.part_leaf" b5 N N N (S "staywalk.leaves" 344) none (R 203) N,211,D "join_small" "Leaves.join_small" bX N N N (S "staywalk.leaves" 344) none (R 210) N,232,D "__init__" "Makes.__init__" fo N N N (S "staywalk.makes" 460) none (R 231) N,239,D "note" "Makes.note" fk N N N (S "staywalk.makes" 460) none (R 238) N,258,D "sweep" "Makes.sweep" bW N N N (S "staywalk.makes" 460) none (R 257) N,270,D "empty_row" "empty_row" eL N N N (S "staywalk.slots" 520) none (R 269) N,284,D "__init__" "Slots.__init__" fg N N N (S "staywalk.slots" 520) none (R 283) N,291,D "put" "Slots.put" gA N N N (S "staywalk.slots" 520) none (R 290) N,298,D "drop" "Slots.drop" fh N N N (S "staywalk.slots" 520) none (R 297) N,305,D "get" "Slots.get" gE N N N (S "staywalk.slots" 520) none (R 304) N,312,D "has" "Slots.has" gB N N N (S "staywalk.slots" 520) none (R 311) N,319,D "many" "Slots.many" fc N N N (S "staywalk.slots" 520) none (R 318) N,324,D "rows" "Slots.rows" de N N N (S "staywalk.slots" 520) none (R 323) N,331,D "moved" "Slots.moved" dP N N N (S "staywalk.slots" 520) none (R 330) N,338,D "cells" "Slots.cells" dQ N N N (S "staywalk.slots" 520) none (R 337) N,343,D "span" "Slots.span" cc N N N (S "staywalk.slots" 520) none (R 342) N,350,D "stop" "Slots.stop" e7 N N N (S "staywalk.slots" 520) none (R 349) N,357,D "cell_of" "Slots.cell_of" cY N N N (S "staywalk.slots" 520) none (R 356) N,364,D "lying_at" "Slots.lying_at" cH N N N (S "staywalk.slots" 520) none (R 363) N,371,D "move_slot" "Slots.move_slot" cp N N N (S "staywalk.slots" 520) none (R 370) N,378,D "begin_row" "Slots.begin_row" cq N N N (S "staywalk.slots" 520) none (R 377) N,399,D "__init__" "House.__init__" fu N N N (S "staywalk.house" 687) none (R 398) N,406,D "put" "House.put" gF N N N (S "staywalk.house" 687) none (R 405) N,413,D "drop" "House.drop" fz N N N (S "staywalk.house" 687) none (R 412) N,420,D "get" "House.get" gH N N N (S "staywalk.house" 687) none (R 419) N,427,D "has" "House.has" gG N N N (S "staywalk.house" 687) none (R 426) N,434,D "many" "House.many" ft N N N (S "staywalk.house" 687) none (R 433) N,463,D "hold" "House.hold" fv N N N (S "staywalk.house" 687) none (R 462) N,477,D "held" "House.held" fw N N N (S "staywalk.house" 687) none (R 476) N,484,D "sweep" "House.sweep" dS N N N (S "staywalk.house" 687) none (R 483) N,506,D "done" "House.done" fA N N N (S "staywalk.house" 687) none (R 505) N,534,D "_law_drawn" "_law_drawn" gx N N N (S "law_staywalk_k41_a_plain_table" 866) none (R 533) N,541,D "_law_key" "_law_key" jJ N N N (S "law_staywalk_k41_a_plain_table" 866) none (R 540) N,548,D "_law_value" "_law_value" gv N N N (S "law_staywalk_k41_a_plain_table" 866) none (R 547) N,553,D "_law_deeds" "_law_deeds" cG N N N (S "law_staywalk_k41_a_plain_table" 866) none (R 552) N,560,D "_law_no_key" "_law_no_key" eZ N N N (S "law_staywalk_k41_a_plain_table" 866) none (R 559) N,567,D "_law_done" "_law_done" ie N N N (S "law_staywalk_k41_a_plain_table" 866) none (R 566) N,574,D "_law_right" "_law_right" gw N N N (S "law_staywalk_k41_a_plain_table" 866) none (R 573) N,581,D "_law_alike" "_law_alike" gy N N N (S "law_staywalk_k41_a_plain_table" 866) none (R 580) N,588,D "law" "law" yE N N N (S "law_staywalk_k41_a_plain_table" 866) none (R 587) N,31,51,70,89,214,261,381,523⟩
noncomputable def K:Params→Frag:=λP=>(nat_lit 2,⟨N,none,.dict #[] 0, #[]⟩)::
(nat_lit 3,⟨(T "dict"),none,.dict #[E P "__name__" 165 (S "law_staywalk_k41_a_plain_table" 866),E P "__doc__" 166 N,E P "__package__" 167 N,E P "__loader__" 168 (.builtin "__main__.__loader__#opaque"),E P "__spec__" 169 N,E P "__annotations__" 170 (R 6),E P "__builtins__" 171 (R 4),E P "__file__" 173 (S "/claim/cut.py" 172),E P "__cached__" 174 N,E P "_wall" 193 (R 21),E P "WalkError" 213 (R 31),E P "NoKey" 238 (R 51),E P "Twice" 263 (R 70),E P "NoMoment" 288 (R 89),E P "BITS" 292 (.int 16 291),E P "PLACES" 294 (.int 65536 293),E P "turned" 304 (R 98),E P "mark_of" 311 (R 105),E P "place_of" 318 (R 112),E P "slot_of" 326 (R 119),E P "stretch_of" 335 (R 126),E P "slot_at" 343 (R 133),E P "MOST_IN_LEAF" 347 (.int 8 346),E P "LEAST_IN_TWO" 349 (.int 5 348),E P "Leaves" 459 (R 214),E P "Makes" 519 (R 261),E P "LEAST_SIZE" 523 (.int 4 522),E P "GREATEST_SIZE" 525 (.int 256 524),E P "empty_row" 531 (R 270),E P "Slots" 686 (R 381),E P "House" 865 (R 523),E P "_law_drawn" 876 (R 534),E P "_law_key" 885 (R 541),E P "_law_value" 892 (R 548),E P "_law_deeds" 898 (R 553),E P "_law_no_key" 908 (R 560),E P "_law_done" 921 (R 567),E P "_law_right" 931 (R 574),E P "_law_alike" 940 (R 581),E P "law" 956 (R 588)] 40, #[]⟩)::
(nat_lit 30,⟨(T "dict"),none,.dict #[E P "__module__" 203 (S "staywalk.errors" 194),E P "__firstlineno__" 207 (.int 5 206),E P "__static_attributes__" 208 (R 29),E P "__weakref__" 210 (R 32),E P "__doc__" 211 N] 3, #[]⟩)::
(nat_lit 31,⟨(T "type"),none,.cls ⟨"WalkError",[(T "ValueError")],[(R 31),(T "ValueError"),(T "Exception"),(T "BaseException"),(T "object")],30,"WalkError",true,[],[(R 51),(R 70),(R 89)],false,none,false⟩, #[some (R 22),none,some (S "WalkError" 196),some (S "WalkError" 204),some (.builtin "ValueError.__new__"),some (B true)]⟩)::
(nat_lit 47,c [(S "__init__" 226),(S "NoKey.__init__" 227),(F 228),(I 9),(I 2),(I 0),(I 0),(I 3),(R 42),(B true),(I 181),(R 43),N,(R 44),(R 45),(R 46),(I 231),(I 9),(F 232)])::
(nat_lit 48,f t.fR)::
(nat_lit 50,⟨(T "dict"),none,.dict #[E P "__module__" 221 (S "staywalk.errors" 194),E P "__firstlineno__" 225 (.int 7 224),E P "__init__" 233 (R 48),E P "__static_attributes__" 235 (R 49),E P "__doc__" 236 N] 2, #[]⟩)::
(nat_lit 51,⟨(T "type"),none,.cls ⟨"NoKey",[(R 31)],[(R 51),(R 31),(T "ValueError"),(T "Exception"),(T "BaseException"),(T "object")],50,"NoKey",true,[],[],false,none,false⟩, #[some (R 35),none,some (S "NoKey" 214),some (S "NoKey" 222),some (.builtin "ValueError.__new__"),some (B true)]⟩)::
(nat_lit 66,c [(S "__init__" 251),(S "Twice.__init__" 252),(F 253),(I 14),(I 2),(I 0),(I 0),(I 3),(R 61),(B true),(I 181),(R 62),N,(R 63),(R 64),(R 65),(I 256),(I 14),(F 257)])::
(nat_lit 67,f t.jh)::
(nat_lit 69,⟨(T "dict"),none,.dict #[E P "__module__" 246 (S "staywalk.errors" 194),E P "__firstlineno__" 250 (.int 12 249),E P "__init__" 258 (R 67),E P "__static_attributes__" 260 (R 68),E P "__doc__" 261 N] 2, #[]⟩)::
(nat_lit 70,⟨(T "type"),none,.cls ⟨"Twice",[(R 31)],[(R 70),(R 31),(T "ValueError"),(T "Exception"),(T "BaseException"),(T "object")],69,"Twice",true,[],[],false,none,false⟩, #[some (R 54),none,some (S "Twice" 239),some (S "Twice" 247),some (.builtin "ValueError.__new__"),some (B true)]⟩)::
(nat_lit 85,c [(S "__init__" 276),(S "NoMoment.__init__" 277),(F 278),(I 19),(I 2),(I 0),(I 0),(I 3),(R 80),(B true),(I 181),(R 81),N,(R 82),(R 83),(R 84),(I 281),(I 19),(F 282)])::
(nat_lit 86,f t.gj)::
(nat_lit 88,⟨(T "dict"),none,.dict #[E P "__module__" 271 (S "staywalk.errors" 194),E P "__firstlineno__" 275 (.int 17 274),E P "__init__" 283 (R 86),E P "__static_attributes__" 285 (R 87),E P "__doc__" 286 N] 2, #[]⟩)::
(nat_lit 89,⟨(T "type"),none,.cls ⟨"NoMoment",[(R 31)],[(R 89),(R 31),(T "ValueError"),(T "Exception"),(T "BaseException"),(T "object")],88,"NoMoment",true,[],[],false,none,false⟩, #[some (R 73),none,some (S "NoMoment" 264),some (S "NoMoment" 272),some (.builtin "ValueError.__new__"),some (B true)]⟩)::
(nat_lit 97,c [(S "turned" 295),(S "turned" 296),(F 297),(I 25),(I 1),(I 0),(I 0),(I 3),(R 92),(B true),(I 181),(R 93),N,(R 94),(R 95),(R 96),(I 302),(I 25),(F 303)])::
(nat_lit 98,f t.pH)::
(nat_lit 104,c [(S "mark_of" 305),(S "mark_of" 306),(F 307),(I 32),(I 1),(I 0),(I 0),(I 3),(R 99),(B true),(I 181),(R 100),N,(R 101),(R 102),(R 103),(I 309),(I 32),(F 310)])::
(nat_lit 105,f t.mh)::
(nat_lit 111,c [(S "place_of" 312),(S "place_of" 313),(F 314),(I 34),(I 1),(I 0),(I 0),(I 3),(R 106),(B true),(I 181),(R 107),N,(R 108),(R 109),(R 110),(I 316),(I 34),(F 317)])::
(nat_lit 112,f t.jY)::
(nat_lit 118,c [(S "slot_of" 319),(S "slot_of" 320),(F 321),(I 36),(I 2),(I 0),(I 0),(I 3),(R 113),(B true),(I 181),(R 114),N,(R 115),(R 116),(R 117),(I 324),(I 36),(F 325)])::
(nat_lit 119,f t.l7)::
(nat_lit 125,c [(S "stretch_of" 327),(S "stretch_of" 328),(F 329),(I 38),(I 2),(I 0),(I 0),(I 3),(R 120),(B true),(I 181),(R 121),N,(R 122),(R 123),(R 124),(I 333),(I 38),(F 334)])::
(nat_lit 126,f t.gP)::
(nat_lit 132,c [(S "slot_at" 336),(S "slot_at" 337),(F 338),(I 41),(I 2),(I 0),(I 0),(I 3),(R 127),(B true),(I 181),(R 128),N,(R 129),(R 130),(R 131),(I 341),(I 41),(F 342)])::
(nat_lit 133,f t.mf)::
(nat_lit 146,c [(S "__init__" 362),(S "Leaves.__init__" 363),(F 364),(I 48),(I 1),(I 0),(I 0),(I 3),(R 141),(B true),(I 181),(R 142),N,(R 143),(R 144),(R 145),(I 366),(I 48),(F 367)])::
(nat_lit 147,f t.eB)::
(nat_lit 151,c [(S "add" 369),(S "Leaves.add" 370),(F 371),(I 51),(I 2),(I 0),(I 0),(I 3),(R 148),(B true),(I 181),(R 149),N,N,N,(R 150),(I 372),(I 51),(F 373)])::
(nat_lit 152,f t.fV)::
(nat_lit 158,c [(S "discard" 375),(S "Leaves.discard" 376),(F 377),(I 63),(I 2),(I 0),(I 0),(I 3),(R 153),(B true),(I 181),(R 154),N,(R 155),(R 156),(R 157),(I 381),(I 63),(F 382)])::
(nat_lit 159,f t.cT)::
(nat_lit 165,c [(S "has" 384),(S "Leaves.has" 385),(F 386),(I 74),(I 2),(I 0),(I 0),(I 3),(R 160),(B true),(I 181),(R 161),N,(R 162),(R 163),(R 164),(I 390),(I 74),(F 391)])::
(nat_lit 166,f t.fU)::
(nat_lit 182,c [(S "from_on" 406),(S "Leaves.from_on" 407),(F 408),(I 84),(I 3),(I 0),(I 0),(I 3),(R 179),(B true),(I 181),(R 180),N,N,N,(R 181),(I 409),(I 84),(F 410)])::
(nat_lit 183,f t.cR)::
(nat_lit 196,c [(S "leaf_of" 421),(S "Leaves.leaf_of" 422),(F 423),(I 95),(I 2),(I 0),(I 0),(I 3),(R 191),(B true),(I 181),(R 192),N,(R 193),(R 194),(R 195),(I 429),(I 95),(F 430)])::
(nat_lit 197,f t.cQ)::
(nat_lit 203,c [(S "part_leaf" 432),(S "Leaves.part_leaf" 433),(F 434),(I 106),(I 2),(I 0),(I 0),(I 3),(R 198),(B true),(I 181),(R 199),N,(R 200),(R 201),(R 202),(I 439),(I 106),(F 440)])::
(nat_lit 204,f t.b8)::
(nat_lit 210,c [(S "join_small" 442),(S "Leaves.join_small" 443),(F 444),(I 112),(I 2),(I 0),(I 0),(I 3),(R 205),(B true),(I 181),(R 206),N,(R 207),(R 208),(R 209),(I 448),(I 112),(F 449)])::
(nat_lit 211,f t.bZ)::
(nat_lit 213,⟨(T "dict"),none,.dict #[E P "__module__" 357 (S "staywalk.leaves" 344),E P "__firstlineno__" 361 (.int 46 360),E P "__init__" 368 (R 147),E P "add" 374 (R 152),E P "discard" 383 (R 159),E P "has" 392 (R 166),E P "many" 398 (R 171),E P "all_of" 405 (R 178),E P "from_on" 411 (R 183),E P "down_from" 420 (R 190),E P "leaf_of" 431 (R 197),E P "part_leaf" 441 (R 204),E P "join_small" 450 (R 211),E P "__static_attributes__" 452 (R 212),E P "__dict__" 454 (R 215),E P "__weakref__" 456 (R 216),E P "__doc__" 457 N] 4, #[]⟩)::
(nat_lit 214,⟨(T "type"),none,.cls ⟨"Leaves",[(T "object")],[(R 214),(T "object")],213,"Leaves",true,[],[],false,none,false⟩, #[none,none,some (S "Leaves" 350),some (S "Leaves" 358),some (.builtin "object.__new__"),some (B true)]⟩)::
(nat_lit 231,c [(S "__init__" 474),(S "Makes.__init__" 475),(F 476),(I 122),(I 1),(I 0),(I 0),(I 3),(R 226),(B true),(I 181),(R 227),N,(R 228),(R 229),(R 230),(I 478),(I 122),(F 479)])::
(nat_lit 232,f t.fT)::
(nat_lit 238,c [(S "note" 481),(S "Makes.note" 482),(F 483),(I 125),(I 3),(I 0),(I 0),(I 3),(R 233),(B true),(I 181),(R 234),N,(R 235),(R 236),(R 237),(I 487),(I 125),(F 488)])::
(nat_lit 239,f t.fS)::
(nat_lit 257,c [(S "sweep" 505),(S "Makes.sweep" 506),(F 507),(I 134),(I 2),(I 0),(I 0),(I 3),(R 254),(B true),(I 181),(R 255),N,N,N,(R 256),(I 508),(I 134),(F 509)])::
(nat_lit 258,f t.d9)::
(nat_lit 260,⟨(T "dict"),none,.dict #[E P "__module__" 469 (S "staywalk.makes" 460),E P "__firstlineno__" 473 (.int 120 472),E P "__init__" 480 (R 232),E P "note" 489 (R 239),E P "all_told" 496 (R 246),E P "value_at" 504 (R 253),E P "sweep" 510 (R 258),E P "__static_attributes__" 512 (R 259),E P "__dict__" 514 (R 262),E P "__weakref__" 516 (R 263),E P "__doc__" 517 N] 4, #[]⟩)::
(nat_lit 261,⟨(T "type"),none,.cls ⟨"Makes",[(T "object")],[(R 261),(T "object")],260,"Makes",true,[],[],false,none,false⟩, #[none,none,some (S "Makes" 462),some (S "Makes" 470),some (.builtin "object.__new__"),some (B true)]⟩)::
(nat_lit 269,c [(S "empty_row" 526),(S "empty_row" 527),(F 528),(I 145),(I 1),(I 0),(I 0),(I 3),(R 266),(B true),(I 181),(R 267),N,N,N,(R 268),(I 529),(I 145),(F 530)])::
(nat_lit 270,f t.iG)::
(nat_lit 283,c [(S "__init__" 544),(S "Slots.__init__" 545),(F 546),(I 149),(I 1),(I 0),(I 0),(I 3),(R 278),(B true),(I 181),(R 279),N,(R 280),(R 281),(R 282),(I 548),(I 149),(F 549)])::
(nat_lit 284,f t.fP)::
(nat_lit 290,c [(S "put" 551),(S "Slots.put" 552),(F 553),(I 154),(I 3),(I 0),(I 0),(I 3),(R 285),(B true),(I 181),(R 286),N,(R 287),(R 288),(R 289),(I 558),(I 154),(F 559)])::
(nat_lit 291,f t.gV)::
(nat_lit 297,c [(S "drop" 561),(S "Slots.drop" 562),(F 563),(I 162),(I 2),(I 0),(I 0),(I 3),(R 292),(B true),(I 181),(R 293),N,(R 294),(R 295),(R 296),(I 566),(I 162),(F 567)])::
(nat_lit 298,f t.fQ)::
(nat_lit 304,c [(S "get" 569),(S "Slots.get" 570),(F 571),(I 170),(I 2),(I 0),(I 0),(I 3),(R 299),(B true),(I 181),(R 300),N,(R 301),(R 302),(R 303),(I 575),(I 170),(F 576)])::
(nat_lit 305,f t.gX)::
(nat_lit 311,c [(S "has" 578),(S "Slots.has" 579),(F 580),(I 176),(I 2),(I 0),(I 0),(I 3),(R 306),(B true),(I 181),(R 307),N,(R 308),(R 309),(R 310),(I 583),(I 176),(F 584)])::
(nat_lit 312,f t.gW)::
(nat_lit 318,c [(S "many" 586),(S "Slots.many" 587),(F 588),(I 179),(I 1),(I 0),(I 0),(I 3),(R 313),(B true),(I 181),(R 314),N,(R 315),(R 316),(R 317),(I 590),(I 179),(F 591)])::
(nat_lit 319,f t.fO)::
(nat_lit 323,c [(S "rows" 593),(S "Slots.rows" 594),(F 595),(I 182),(I 1),(I 0),(I 0),(I 3),(R 320),(B true),(I 181),(R 321),N,N,N,(R 322),(I 596),(I 182),(F 597)])::
(nat_lit 324,f t.fN)::
(nat_lit 330,c [(S "moved" 599),(S "Slots.moved" 600),(F 601),(I 185),(I 1),(I 0),(I 0),(I 3),(R 325),(B true),(I 181),(R 326),N,(R 327),(R 328),(R 329),(I 603),(I 185),(F 604)])::
(nat_lit 331,f t.d7)::
(nat_lit 337,c [(S "cells" 606),(S "Slots.cells" 607),(F 608),(I 188),(I 1),(I 0),(I 0),(I 3),(R 332),(B true),(I 181),(R 333),N,(R 334),(R 335),(R 336),(I 614),(I 188),(F 615)])::
(nat_lit 338,f t.d8)::
(nat_lit 342,c [(S "span" 617),(S "Slots.span" 618),(F 619),(I 196),(I 3),(I 0),(I 0),(I 3),(R 339),(B true),(I 181),(R 340),N,N,N,(R 341),(I 620),(I 196),(F 621)])::
(nat_lit 343,f t.fL)::
(nat_lit 349,c [(S "stop" 623),(S "Slots.stop" 624),(F 625),(I 206),(I 2),(I 0),(I 0),(I 3),(R 344),(B true),(I 181),(R 345),N,(R 346),(R 347),(R 348),(I 629),(I 206),(F 630)])::
(nat_lit 350,f t.fK)::
(nat_lit 356,c [(S "cell_of" 632),(S "Slots.cell_of" 633),(F 634),(I 210),(I 2),(I 0),(I 0),(I 3),(R 351),(B true),(I 181),(R 352),N,(R 353),(R 354),(R 355),(I 640),(I 210),(F 641)])::
(nat_lit 357,f t.c7)::
(nat_lit 363,c [(S "lying_at" 643),(S "Slots.lying_at" 644),(F 645),(I 218),(I 2),(I 0),(I 0),(I 3),(R 358),(B true),(I 181),(R 359),N,(R 360),(R 361),(R 362),(I 654),(I 218),(F 655)])::
(nat_lit 364,f t.cP)::
(nat_lit 370,c [(S "move_slot" 657),(S "Slots.move_slot" 658),(F 659),(I 227),(I 1),(I 0),(I 0),(I 3),(R 365),(B true),(I 181),(R 366),N,(R 367),(R 368),(R 369),(I 665),(I 227),(F 666)])::
(nat_lit 371,f t.cv)::
(nat_lit 377,c [(S "begin_row" 668),(S "Slots.begin_row" 669),(F 670),(I 240),(I 1),(I 0),(I 0),(I 3),(R 372),(B true),(I 181),(R 373),N,(R 374),(R 375),(R 376),(I 673),(I 240),(F 674)])::
(nat_lit 378,f t.cw)::
(nat_lit 380,⟨(T "dict"),none,.dict #[E P "__module__" 539 (S "staywalk.slots" 520),E P "__firstlineno__" 543 (.int 147 542),E P "__init__" 550 (R 284),E P "put" 560 (R 291),E P "drop" 568 (R 298),E P "get" 577 (R 305),E P "has" 585 (R 312),E P "many" 592 (R 319),E P "rows" 598 (R 324),E P "moved" 605 (R 331),E P "cells" 616 (R 338),E P "span" 622 (R 343),E P "stop" 631 (R 350),E P "cell_of" 642 (R 357),E P "lying_at" 656 (R 364),E P "move_slot" 667 (R 371),E P "begin_row" 675 (R 378),E P "__static_attributes__" 679 (R 379),E P "__dict__" 681 (R 382),E P "__weakref__" 683 (R 383),E P "__doc__" 684 N] 4, #[]⟩)::
(nat_lit 381,⟨(T "type"),none,.cls ⟨"Slots",[(T "object")],[(R 381),(T "object")],380,"Slots",true,[],[],false,none,false⟩, #[none,none,some (S "Slots" 532),some (S "Slots" 540),some (.builtin "object.__new__"),some (B true)]⟩)::
(nat_lit 398,c [(S "__init__" 701),(S "House.__init__" 702),(F 703),(I 251),(I 1),(I 0),(I 0),(I 3),(R 393),(B true),(I 181),(R 394),N,(R 395),(R 396),(R 397),(I 705),(I 251),(F 706)])::
(nat_lit 399,f t.fX)::
(nat_lit 405,c [(S "put" 708),(S "House.put" 709),(F 710),(I 261),(I 3),(I 0),(I 0),(I 3),(R 400),(B true),(I 181),(R 401),N,(R 402),(R 403),(R 404),(I 714),(I 261),(F 715)])::
(nat_lit 406,f t.gY)::
(nat_lit 412,c [(S "drop" 717),(S "House.drop" 718),(F 719),(I 267),(I 2),(I 0),(I 0),(I 3),(R 407),(B true),(I 181),(R 408),N,(R 409),(R 410),(R 411),(I 722),(I 267),(F 723)])::
(nat_lit 413,f t.f7)::
(nat_lit 419,c [(S "get" 725),(S "House.get" 726),(F 727),(I 272),(I 2),(I 0),(I 0),(I 3),(R 414),(B true),(I 181),(R 415),N,(R 416),(R 417),(R 418),(I 730),(I 272),(F 731)])::
(nat_lit 420,f t.g7)::
(nat_lit 426,c [(S "has" 733),(S "House.has" 734),(F 735),(I 275),(I 2),(I 0),(I 0),(I 3),(R 421),(B true),(I 181),(R 422),N,(R 423),(R 424),(R 425),(I 738),(I 275),(F 739)])::
(nat_lit 427,f t.gZ)::
(nat_lit 433,c [(S "many" 741),(S "House.many" 742),(F 743),(I 278),(I 1),(I 0),(I 0),(I 3),(R 428),(B true),(I 181),(R 429),N,(R 430),(R 431),(R 432),(I 745),(I 278),(F 746)])::
(nat_lit 434,f t.fW)::
(nat_lit 462,c [(S "hold" 772),(S "House.hold" 773),(F 774),(I 290),(I 1),(I 0),(I 0),(I 3),(R 457),(B true),(I 181),(R 458),N,(R 459),(R 460),(R 461),(I 776),(I 290),(F 777)])::
(nat_lit 463,f t.fY)::
(nat_lit 476,c [(S "held" 787),(S "House.held" 788),(F 789),(I 297),(I 1),(I 0),(I 0),(I 3),(R 471),(B true),(I 181),(R 472),N,(R 473),(R 474),(R 475),(I 791),(I 297),(F 792)])::
(nat_lit 477,f t.fZ)::
(nat_lit 483,c [(S "sweep" 794),(S "House.sweep" 795),(F 796),(I 300),(I 1),(I 0),(I 0),(I 3),(R 478),(B true),(I 181),(R 479),N,(R 480),(R 481),(R 482),(I 800),(I 300),(F 801)])::
(nat_lit 484,f t.eC)::
(nat_lit 505,c [(S "done" 823),(S "House.done" 824),(F 825),(I 313),(I 3),(I 0),(I 0),(I 3),(R 500),(B true),(I 181),(R 501),N,(R 502),(R 503),(R 504),(I 830),(I 313),(F 831)])::
(nat_lit 506,f t.f8)::
(nat_lit 522,⟨(T "dict"),none,.dict #[E P "__module__" 696 (S "staywalk.house" 687),E P "__firstlineno__" 700 (.int 249 699),E P "__init__" 707 (R 399),E P "put" 716 (R 406),E P "drop" 724 (R 413),E P "get" 732 (R 420),E P "has" 740 (R 427),E P "many" 747 (R 434),E P "lay_mark" 754 (R 441),E P "diary" 763 (R 449),E P "makes" 771 (R 456),E P "hold" 778 (R 463),E P "let_go" 786 (R 470),E P "held" 793 (R 477),E P "sweep" 802 (R 484),E P "was" 811 (R 491),E P "page_at" 822 (R 499),E P "done" 832 (R 506),E P "refuse_outside" 840 (R 513),E P "value_then" 849 (R 520),E P "__static_attributes__" 858 (R 521),E P "__dict__" 860 (R 524),E P "__weakref__" 862 (R 525),E P "__doc__" 863 N] 4, #[]⟩)::
(nat_lit 523,⟨(T "type"),none,.cls ⟨"House",[(T "object")],[(R 523),(T "object")],522,"House",true,[],[],false,none,false⟩, #[none,none,some (S "House" 689),some (S "House" 697),some (.builtin "object.__new__"),some (B true)]⟩)::
(nat_lit 533,c [(S "_law_drawn" 868),(S "_law_drawn" 869),(F 870),(I 326),(I 2),(I 0),(I 0),(I 3),(R 528),(B true),(I 181),(R 529),N,(R 530),(R 531),(R 532),(I 874),(I 326),(F 875)])::
(nat_lit 534,f t.gS)::
(nat_lit 540,c [(S "_law_key" 877),(S "_law_key" 878),(F 879),(I 329),(I 1),(I 0),(I 0),(I 3),(R 535),(B true),(I 181),(R 536),N,(R 537),(R 538),(R 539),(I 883),(I 329),(F 884)])::
(nat_lit 541,f t.jZ)::
(nat_lit 547,c [(S "_law_value" 886),(S "_law_value" 887),(F 888),(I 333),(I 1),(I 0),(I 0),(I 3),(R 542),(B true),(I 181),(R 543),N,(R 544),(R 545),(R 546),(I 890),(I 333),(F 891)])::
(nat_lit 548,f t.gQ)::
(nat_lit 552,c [(S "_law_deeds" 893),(S "_law_deeds" 894),(F 895),(I 337),(I 2),(I 0),(I 0),(I 3),(R 549),(B true),(I 181),(R 550),N,N,N,(R 551),(I 896),(I 337),(F 897)])::
(nat_lit 553,f t.gT)::
(nat_lit 559,c [(S "_law_no_key" 899),(S "_law_no_key" 900),(F 901),(I 349),(I 3),(I 0),(I 0),(I 3),(R 554),(B true),(I 181),(R 555),N,(R 556),(R 557),(R 558),(I 906),(I 349),(F 907)])::
(nat_lit 560,f t.fJ)::
(nat_lit 566,c [(S "_law_done" 909),(S "_law_done" 910),(F 911),(I 360),(I 5),(I 0),(I 0),(I 3),(R 561),(B true),(I 181),(R 562),N,(R 563),(R 564),(R 565),(I 919),(I 360),(F 920)])::
(nat_lit 567,f t.iH)::
(nat_lit 573,c [(S "_law_right" 922),(S "_law_right" 923),(F 924),(I 371),(I 3),(I 0),(I 0),(I 3),(R 568),(B true),(I 181),(R 569),N,(R 570),(R 571),(R 572),(I 929),(I 371),(F 930)])::
(nat_lit 574,f t.gR)::
(nat_lit 580,c [(S "_law_alike" 932),(S "_law_alike" 933),(F 934),(I 380),(I 3),(I 0),(I 0),(I 3),(R 575),(B true),(I 181),(R 576),N,(R 577),(R 578),(R 579),(I 938),(I 380),(F 939)])::
(nat_lit 581,f t.gU)::
(nat_lit 587,c [(S "law" 941),(S "law" 942),(F 943),(I 387),(I 1),(I 0),(I 0),(I 3),(R 582),(B true),(I 181),(R 583),N,(R 584),(R 585),(R 586),(I 954),(I 387),(F 955)])::
(nat_lit 588,f t.wO)::[]
noncomputable abbrev as:List Addr:=[2,3,30,31,47,48,50,51,66,67,69,70,85,86,88,89,97,98,104,105,111,112,118,119,125,126,132,133,146,147,151,152,158,159,165,166,182,183,196,197,203,204,210,211,213,214,231,232,238,239,257,258,260,261,269,270,283,284,290,291,297,298,304,305,311,312,318,319,323,324,330,331,337,338,342,343,349,350,356,357,363,364,370,371,377,378,380,381,398,399,405,406,412,413,419,420,426,427,433,434,462,463,476,477,483,484,505,506,522,523,533,534,540,541,547,548,552,553,559,560,566,567,573,574,580,581,587,588]
noncomputable abbrev p:Program:=PySem.Challenge.pw_staywalk_k41_a_plain_table
noncomputable abbrev q:Program:=view p [0,2,3,4,5,7,8,9,10,11,12,13,14,16,17,18,20,22,23,24,25,27,29,30,31,32,33,34,35,36,37]
noncomputable abbrev H:Hook:=kHook K as λ_=>rfl
theorem said:OpenLaw.wellSaid PySem.Challenge.rw_staywalk_k41_a_plain_table=true:=by
 rw[Fast.te9446332074065402090]
 kernel_rfl
theorem left:LeftO p q [] (λs=>xlAt q [] s&&recOk [] s) (Hook.obs H) (Hook.val H) 7928:=HD.left_of λw=>by kernel_rfl
end ZK
namespace L2
open PySem PySem.Spec PyProof.Rows
abbrev Key:=Sum Int Str
def iE:Key→Value→Bool
 | .inl k,v=>Value.isInt k v
 | .inr x,v=>Value.isStrOf x v
def keyH (w:World):Key→Int
 | .inl k=>hashInt k
 | .inr x=>hashStr w x
theorem bG:∀{k:Key} {v:Value},iE k v=true→(∃i t,k=Sum.inl i∧v=Value.int i t)∨(∃x t,k=Sum.inr x∧v=Value.str x t)
 | .inl i,v,h=>by
  obtain⟨t,e⟩:=Value.isInt_shape (k:=i) (v:=v) h
  exact .inl ⟨i,t,rfl,e⟩
 | .inr x,v,h=>by
  obtain⟨t,e⟩:=Value.isStrOf_shape (x:=x) (v:=v) h
  exact .inr ⟨x,t,rfl,e⟩
theorem xG (i:Int) (t:Tok):iE (.inl i) (.int i t)=true:=by simp[iE,Value.isInt]
theorem xF (x:Str) (t:Tok):iE (.inr x) (.str x t)=true:=by simp[iE,Value.isStrOf]
theorem Dm (a b:Int):decide ((Sum.inl a:Key)=Sum.inl b)=(a==b):=by
 by_cases e:a=b
 ·subst e;simp
 ·have h:¬(Sum.inl a:Key)=Sum.inl b:=λq=>e (Sum.inl.inj q)
  rw[decide_eq_false h]
  exact(beq_eq_false_iff_ne.mpr e).symm
theorem Dj (a b:Str):decide ((Sum.inr a:Key)=Sum.inr b)=decide (a=b):=by
 by_cases e:a=b
 ·subst e;simp
 ·have h:¬(Sum.inr a:Key)=Sum.inr b:=λq=>e (Sum.inr.inj q)
  rw[decide_eq_false h,decide_eq_false e]
theorem Dl (a:Int) (b:Str):decide ((Sum.inl a:Key)=Sum.inr b)=false:=decide_eq_false (λq=>nomatch q)
theorem Dk (a:Str) (b:Int):decide ((Sum.inr a:Key)=Sum.inl b)=false:=decide_eq_false (λq=>nomatch q)
def aU (prog:Program) (w:World):PySem.KeyKind prog w Key where
 is:=iE
 hash:=keyH w
 inj:=λv a b ha hb=>by
  rcases bG ha with⟨i,t,rfl,rfl⟩|⟨x,t,rfl,rfl⟩
  ·rcases bG hb with⟨j,u,rfl,e⟩|⟨y,u,rfl,e⟩
   ·injection e with e1 _;rw[e1]
   ·exact nomatch e
  ·rcases bG hb with⟨j,u,rfl,e⟩|⟨y,u,rfl,e⟩
   ·exact nomatch e
   ·injection e with e1 _;rw[e1]
 byValue:=λk v h=>by
  rcases bG h with⟨i,t,rfl,rfl⟩|⟨x,t,rfl,rfl⟩<;>rfl
 pyHash:=λhv h=>by
  rcases bG hv with⟨i,t,rfl,rfl⟩|⟨x,t,rfl,rfl⟩
  ·exact wpAny_pyHash_int h
  ·exact wpAny_pyHash_str h
 eqBool:=λhu hv h=>by
  rcases bG hu with⟨i,t,rfl,rfl⟩|⟨x,t,rfl,rfl⟩
  ·rcases bG hv with⟨j,u,rfl,rfl⟩|⟨y,u,rfl,rfl⟩
   ·rw[Dm]at h;exact wpAny_eqBool_int h
   ·rw[Dl]at h;exact SeqAt.EqAt.int_str i t y u _ _ _ _ h
  ·rcases bG hv with⟨j,u,rfl,rfl⟩|⟨y,u,rfl,rfl⟩
   ·rw[Dk]at h;exact SeqAt.EqAt.str_int x t j u _ _ _ _ h
   ·rw[Dj]at h;exact wpAny_eqBool_str h
 «strs»:=λk x t v h=>by
  rcases bG h with⟨i,u,rfl,e⟩|⟨y,u,rfl,e⟩
  ·exact nomatch e
  ·injection e with e1 _
   subst e1
   cases v<;>rfl
theorem vz (prog:Program) (w:World) (k:Key) (v:Value):(aU prog w).is k v=iE k v:=rfl
theorem uk (prog:Program) (w:World) (i:Int) (t:Tok):(aU prog w).is (.inl i) (.int i t)=true:=xG i t
theorem uj (prog:Program) (w:World) (x:Str) (t:Tok):(aU prog w).is (.inr x) (.str x t)=true:=xF x t
end L2
namespace L2
open PySem PySem.Spec PyProof.Rows
inductive V where
 |non|bl (b:Bool)|int (i:Int)|str (x:Str)|byt (b:Array UInt8)|flt (b:UInt64)|ref (a:Addr)|ty (n:String)
 deriving DecidableEq
def RelV:V→Value→Prop
 | .non,u=>u=Value.none
 | .bl b,u=>u=Value.bool b
 | .int i,u=>∃t,u=Value.int i t
 | .str x,u=>∃t,u=Value.str x t
 | .byt b,u=>∃t,u=Value.bytes b t
 | .flt b,u=>∃t,u=Value.float b t
 | .ref a,u=>u=Value.ref a
 | .ty n,u=>u=Value.type n
abbrev Vals:List V→List Value→Prop:=Paired RelV
theorem Vals.length {xs:List V} {us:List Value} (r:Vals xs us):xs.length=us.length:=Paired.length r
theorem Vals.get:∀{xs:List V} {us:List Value} {i:Nat} {x:V},Vals xs us→xs[i]?=some x→∃u,us[i]?=some u∧RelV x u
 |_,_,_,_,.nil,e=>by simp at e
 |_,_,0,_,.cons r _,e=>by simp at e;subst e;exact⟨_,rfl,r⟩
 |_,_,i+1,x,.cons _ t,e=>by
  obtain⟨u,h1,h2⟩:=Vals.get (i:=i) (x:=x) t (by simpa using e)
  exact⟨u,by simpa using h1,h2⟩
theorem Vals.set {x:V} {u:Value} (r:RelV x u):∀{xs:List V} {us:List Value} (i:Nat),Vals xs us→Vals (xs.set i x) (us.set i u)
 |_,_,_,.nil=> .nil
 |_,_,0,.cons _ t=> .cons r t
 |_,_,i+1,.cons q t=> .cons q (Vals.set r i t)
theorem Vals.append:∀{xs ys:List V} {us ws:List Value},Vals xs us→Vals ys ws→Vals (xs++ys) (us++ws)
 |_,_,_,_,.nil,s=>s
 |_,_,_,_,.cons r t,s=> .cons r (Vals.append t s)
theorem Vals.take:∀{xs:List V} {us:List Value} (n:Nat),Vals xs us→Vals (xs.take n) (us.take n)
 |_,_,0,_=> .nil
 |_,_,_+1,.nil=> .nil
 |_,_,n+1,.cons r t=> .cons r (Vals.take n t)
theorem Vals.drop:∀{xs:List V} {us:List Value} (n:Nat),Vals xs us→Vals (xs.drop n) (us.drop n)
 |_,_,0,r=>r
 |_,_,_+1,.nil=> .nil
 |_,_,n+1,.cons _ t=>Vals.drop n t
def RelO:Option V→Option Value→Prop
 |some v,some u=>RelV v u
 |none,none=>True
 |_,_=>False
def KV {κ:Type}:List (κ×V)→List (κ×Value)→Prop:=Paired λ(p:κ×V) (q:κ×Value)=>p.1=q.1∧RelV p.2 q.2
def kV:Key→V
 | .inl i=> .int i
 | .inr x=> .str x
inductive HO where
 |lst (xs:List V)
 |tup (xs:List V)
 |dK (kvs:List (Key×V))|dT (kvs:List (List Key×V))
 |set (S:Int→Bool) (n:Nat)
 |ins (C dx:Addr) (fs:List (Str×V))
 |own (x:Addr)
 |xd (fs:List (Str×V))
 |met (f x:Addr)
 |rng (lo hi:Int)
 |frz (o:Obj) (u:HO)
 |tbl (ps:Array Value)
 |ext (φ:Heap→Prop)
abbrev Hp:=Addr→Option HO
def upd (H:Hp) (a:Addr) (o:HO):Hp:=λb=>if b=a then some o else H b
theorem af {H:Hp} {a:Addr} {o:HO}:upd H a o a=some o:=by unfold upd;rw[if_pos rfl]
theorem ac {H:Hp} {a b:Addr} {o:HO} (h:b≠a):upd H a o b=H b:=by unfold upd;rw[if_neg h]
theorem cz {H:Hp} {a:Addr} {o u:HO}:upd (upd H a o) a u=upd H a u:=by
 funext b;unfold upd;split<;>rfl
theorem bQ {H:Hp} {a b:Addr} {o u:HO} (h:H a=some o) (h':H b=some u) (d:o≠u):a≠b:=by
 intro e;subst e;rw[h]at h';exact d (Option.some.inj h')
theorem ai {H:Hp} {a b:Addr} {o:HO} (h:H a=some o) (h':H b=none):a≠b:=by
 intro e;subst e;rw[h]at h';cases h'
section
variable (P:Program) (w:World)
def ObjOk (H:Hp) (h:Heap) (a:Addr):HO→Prop
 | .lst xs=>xs.length≤sizeLine∧∃(its:List Value) (n:Nat),Vals xs its∧h.get? a=some {cls:= .type "list",data:= .seq its.toArray n}
 | .tup xs=>xs.length≤sizeLine∧∃its:List Value,Vals xs its∧IsTup h a its.toArray
 | .dK kvs=>kvs.length≤sizeLine∧(a==sysModules)=false∧∃vs,KV kvs vs∧h.DictOf (aU P w) a vs
 | .dT kvs=>kvs.length≤sizeLine∧(a==sysModules)=false∧∃xs:List (List Key×Addr×Value),
   Paired (λ(p:List Key×V) (q:List Key×Addr×Value)=>p.1=q.1∧H q.2.1=some (.tup (p.1.map kV))∧RelV p.2 q.2.2) kvs xs∧
   ∃o es ep,h.get? a=some o∧o.ExactDict∧o.data= .dict es ep∧es.toList=xs.map (entryOfKey (tupleKind (aU P w)))∧(xs.map (·.1)).Nodup
 | .set S n=>h.SetOf (intKind P w) a S n
 | .ins C dx fs=>H dx=some (.own a)∧fs.length≤1000∧dx≠a∧h.get? a=some (PySem.W.instObj C dx)∧
   ∃mA,h.Ns1 dx mA∧(∀f,RelO (fs.lookup f) (mA f))∧PySem.Within mA (fs.map (·.1))
 | .own _=>∃o,h.get? a=some o
 | .xd fs=>∃mA,h.Ns1 a mA∧∀f,RelO (fs.lookup f) (mA f)
 | .rng lo hi=>∃t u v,h.get? a=some {cls:= .type "range",data:= .fields #[.int lo t,.int hi u,.int 1 v]}
 | .frz o u=>h.get? a=some o∧ObjOk H h a u
 | .tbl ps=>h.get? a=some {cls:= .none,data:= .fields ps}
 | .met f x=>h.get? a=some (PySem.W.methodObj (.ref f) (.ref x))
 | .ext φ=>φ h∧(∃o,h.get? a=some o)∧∀h1 h2:Heap,φ h1→(∀o,h1.get? a=some o→h2.get? a=some o)→φ h2
def HOk (H:Hp) (h:Heap):Prop:=∀a o,H a=some o→ObjOk P w H h a o
end
section
variable {P:Program} {w:World} {H H':Hp} {h h':Heap} {a:Addr} {o:HO}
theorem ObjOk.lt (x:ObjOk P w H h a o):a<h.objs.size:=by
 cases o with
 |lst xs=>obtain⟨_,_,_,_,e⟩:=x;exact Heap.lt_size e
 |tup xs=>obtain⟨_,_,_,p⟩:=x;exact p.lt
 |dK kvs=>obtain⟨_,_,_,_,o,_,_,e,_⟩:=x;exact Heap.lt_size e
 |dT kvs=>obtain⟨_,_,_,_,o,_,_,e,_⟩:=x;exact Heap.lt_size e
 |set S n=>obtain⟨o,_,_,_,e,_⟩:=x;exact Heap.lt_size e
 |ins C dx fs=>obtain⟨_,_,_,e,_⟩:=x;exact Heap.lt_size e
 |own y=>obtain⟨_,e⟩:=x;exact Heap.lt_size e
 |xd fs=>obtain⟨_,⟨_,_,_,e,_⟩,_⟩:=x;exact Heap.lt_size e
 |rng lo hi=>obtain⟨_,_,_,e⟩:=x;exact Heap.lt_size e
 |frz ob u=>obtain⟨e,_⟩:=x;exact Heap.lt_size e
 |tbl ps=>exact Heap.lt_size (show h.get? a=some _ from x)
 |met f y=>exact Heap.lt_size (show h.get? a=some _ from x)
 |ext φ=>obtain⟨_,⟨_,e⟩,_⟩:=x;exact Heap.lt_size e
theorem Paired.mapP {α β:Type} {F G:α→β→Prop}:∀{l₁:List α} {l₂:List β},Paired F l₁ l₂→(∀a b,F a b→G a b)→Paired G l₁ l₂
 |_,_,.nil,_=> .nil
 |_,_,.cons r t,f=> .cons (f _ _ r) (Paired.mapP t f)
theorem ObjOk.stay (x:ObjOk P w H h a o) (k:∀b u,(b=a∨H b=some (.own a))→h.get? b=some u→h'.get? b=some u)
  (ho:∀b,H b=some (.own a)→H' b=some (.own a)) (ht:∀b xs,H b=some (.tup xs)→H' b=some (.tup xs)):ObjOk P w H' h' a o:=by
 induction o with
 |lst xs=>obtain⟨z,its,n,r,e⟩:=x;exact⟨z,its,n,r,k _ _ (.inl rfl) e⟩
 |tup xs=>obtain⟨z,its,r,ob,e,c⟩:=x;exact⟨z,its,r,ob,k _ _ (.inl rfl) e,c⟩
 |dK kvs=>obtain⟨z,y,vs,r,ob,es,ep,e,c⟩:=x;exact⟨z,y,vs,r,ob,es,ep,k _ _ (.inl rfl) e,c⟩
 |dT kvs=>
  obtain⟨z,y,xs,r,ob,es,ep,e,c⟩:=x
  exact⟨z,y,xs,Paired.mapP r λp q z=>⟨z.1,ht _ _ z.2.1,z.2.2⟩,ob,es,ep,k _ _ (.inl rfl) e,c⟩
 |set S n=>obtain⟨ob,es,ep,t,e,c⟩:=x;exact⟨ob,es,ep,t,k _ _ (.inl rfl) e,c⟩
 |ins C dx fs=>
  obtain⟨d,z,ne,e,mA,⟨od,es,ep,e2,c⟩,r⟩:=x
  exact⟨ho _ d,z,ne,k _ _ (.inl rfl) e,mA,⟨od,es,ep,k _ _ (.inr d) e2,c⟩,r⟩
 |own y=>obtain⟨ob,e⟩:=x;exact⟨ob,k _ _ (.inl rfl) e⟩
 |xd fs=>obtain⟨mA,⟨od,es,ep,e,c⟩,r⟩:=x;exact⟨mA,⟨od,es,ep,k _ _ (.inl rfl) e,c⟩,r⟩
 |rng lo hi=>obtain⟨t,u,v,e⟩:=x;exact⟨t,u,v,k _ _ (.inl rfl) e⟩
 |frz ob u ih=>obtain⟨e,q⟩:=x;exact⟨k _ _ (.inl rfl) e,ih q⟩
 |tbl ps=>
  have e:h.get? a=some {cls:= .none,data:= .fields ps}:=x
  show h'.get? a=some {cls:= .none,data:= .fields ps}
  exact k a _ (.inl rfl) e
 |met f y=>
  have e:h.get? a=some (PySem.W.methodObj (.ref f) (.ref y)):=x
  show h'.get? a=some (PySem.W.methodObj (.ref f) (.ref y))
  exact k a _ (.inl rfl) e
 |ext φ=>obtain⟨p,⟨o,e⟩,st⟩:=x;exact⟨st _ _ p λo q=>k _ _ (.inl rfl) q,⟨o,k _ _ (.inl rfl) e⟩,st⟩
theorem HOk.lt (x:HOk P w H h) (e:H a=some o):a<h.objs.size:=(x a o e).lt
theorem HOk.fresh (x:HOk P w H h) (e:h.objs.size≤a):H a=none:=by
 cases q:H a with
 |none=>rfl
 |some u=>exact absurd (Qz (x.lt q) e) (Zr _)
theorem HOk.kept (x:HOk P w H h) (k:∀b u,h.get? b=some u→h'.get? b=some u):HOk P w H h':=λa o e=>
 (x a o e).stay (λb u _ q=>k b u q) (λ_ q=>q) λ_ _ q=>q
theorem HOk.laid (x:HOk P w H h) (k:∀b u,h.get? b=some u→h'.get? b=some u) (hp:h.objs.size≤a) (new:ObjOk P w (upd H a o) h' a o):HOk P w (upd H a o) h':=λb u e=>by
 have hn:=x.fresh hp
 by_cases hb:b=a
 ·subst hb;rw[af]at e;cases e;exact new
 ·rw[ac hb]at e
  exact(x b u e).stay (λc v _ q=>k c v q) (λc q=>by rw[ac (ai q hn)];exact q) λc xs q=>by rw[ac (ai q hn)];exact q
end
def Rd (H:Hp) (a:Addr) (u:HO):Prop:=H a=some u∨∃o,H a=some (.frz o u)
theorem Rd.ok {P:Program} {w:World} {H:Hp} {h:Heap} {a:Addr} {u:HO} (r:Rd H a u) (x:HOk P w H h):ObjOk P w H h a u:=by
 rcases r with r|⟨o,r⟩
 ·exact x a u r
 ·obtain⟨_,q⟩:=x a _ r
  exact q
def Mut:Option HO→Prop
 |some (.lst _)=>True
 |some (.dK _)=>True
 |some (.dT _)=>True
 |some (.set _ _)=>True
 |some (.ins _ _ _)=>True
 |some (.ext _)=>True
 |_=>False
section
variable {P:Program} {w:World} {H:Hp} {h h':Heap} {x e:Addr} {o':HO}
theorem HOk.write (ok:HOk P w H h) (mu:Mut (H x)) (he:e=x∨H e=some (.own x)) (k:∀b u,b≠e→h.get? b=some u→h'.get? b=some u) (heo:∃u,h'.get? e=some u)
  (new:ObjOk P w (upd H x o') h' x o'):HOk P w (upd H x o') h':=λb u q=>by
 have nown:∀c y,H c=some (.own y)→c≠x:=λc y r z=>by subst z;rw[r]at mu;exact mu
 have ntup:∀c xs,H c=some (.tup xs)→c≠x:=λc xs r z=>by subst z;rw[r]at mu;exact mu
 by_cases hb:b=x
 ·subst hb;rw[af]at q;cases q;exact new
 ·rw[ac hb]at q
  by_cases hbe:b=e
  ·have q':H b=some (.own x):=by
    rcases he with z|z
    ·exact absurd (hbe.trans z) hb
    ·rw[hbe];exact z
   rw[q]at q';cases q'
   obtain⟨v,hv⟩:=heo
   exact⟨v,by rw[hbe];exact hv⟩
  ·refine(ok b u q).stay (λc v hc r=>k c v ?_ r) (λc r=>by rw[ac (nown c b r)];exact r) λc xs r=>by rw[ac (ntup c xs r)];exact r
   rcases hc with rfl|hc
   ·exact hbe
   ·rintro rfl
    rcases he with z|z
    ·exact nown c b hc z
    ·rw[hc]at z;cases z;exact hb rfl
end
structure Un (fs ex:List Addr) (H H':Hp) (h h':Heap):Prop where
 keep:∀b o,h.get? b=some o→H b=none→b∉fs→b∉ex→h'.get? b=some o
 slot:∀b o,h.get? b=some o→H b=none→b∈fs→b∉ex→∃sl,h'.get? b=some {o with slots:=sl}
 free:∀b o,h.get? b=some o→H b=none→b∉ex→H' b=none
 there:∀b o,h.get? b=some o→b∉ex→∃o',h'.get? b=some o'
 tups:∀b xs,H b=some (.tup xs)→H' b=some (.tup xs)
 frzs:∀b o u,H b=some (.frz o u)→H' b=some (.frz o u)
 tbls:∀b ps,H b=some (.tbl ps)→∃more,H' b=some (.tbl (ps++more))
section
variable {fs fs' ex ex':List Addr} {H H1 H2:Hp} {h h1 h2 h':Heap} {a x e:Addr} {o:HO}
theorem Un.any (u:Un fs ex H H1 h h1) {b:Addr} {ob:Obj} (q:h.get? b=some ob) (n:H b=none) (hx:b∉ex):∃sl,h1.get? b=some {ob with slots:=sl}:=by
 by_cases hb:b∈fs
 ·exact u.slot b ob q n hb hx
 ·exact⟨ob.slots,u.keep b ob q n hb hx⟩
theorem Un.kept (k:∀b u,h.get? b=some u→h'.get? b=some u):Un fs ex H H h h':=
 ⟨λb ob q _ _ _=>k b ob q,λb ob q _ _ _=>⟨ob.slots,k b ob q⟩,λ_ _ _ n _=>n,λb ob q _=>⟨ob,k b ob q⟩,λ_ _ q=>q,λ_ _ _ q=>q,λ_ ps q=>⟨#[],by rw[q];simp⟩⟩
theorem Un.refl:Un fs ex H H h h:=Un.kept λ_ _ q=>q
theorem Un.laid (k:∀b u,h.get? b=some u→h'.get? b=some u) (hp:h.objs.size≤a) (hn:H a=none):Un fs ex H (upd H a o) h h' where
 keep:=λb u q _ _ _=>k b u q
 slot:=λb u q _ _ _=>⟨u.slots,k b u q⟩
 free:=λb u q n _=>by rw[ac (Qw (Qz (Heap.lt_size q) hp))];exact n
 there:=λb u q _=>⟨u,k b u q⟩
 tups:=λb xs q=>by rw[ac (ai q hn)];exact q
 frzs:=λb u xs q=>by rw[ac (ai q hn)];exact q
 tbls:=λb ps q=>⟨#[],by rw[ac (ai q hn),q];simp⟩
theorem Un.write (mu:Mut (H x)) (he:e=x∨H e=some (.own x)) (k:∀b u,b≠e→h.get? b=some u→h'.get? b=some u) (heo:∃u,h'.get? e=some u):Un fs ex H (upd H x o) h h':=by
 have hx:∀b,H b=none→b≠x:=λb n z=>by subst z;rw[n]at mu;exact mu
 have hb:∀b,H b=none→b≠e:=λb n z=>by
  subst z
  rcases he with r|r
  ·exact hx b n r
  ·rw[n]at r;cases r
 have hm:∀b u,H b=some u→¬Mut (some u)→b≠x:=λb u q nm z=>by subst z;rw[q]at mu;exact nm mu
 refine⟨λb u q n _ _=>k b u (hb b n) q,λb u q n _ _=>⟨u.slots,k b u (hb b n) q⟩,λb u q n _=>by rw[ac (hx b n)];exact n,λb u q _=>?_,
  λb xs q=>by rw[ac (hm b _ q λz=>z)];exact q,λb u xs q=>by rw[ac (hm b _ q λz=>z)];exact q,λb ps q=>⟨#[],by rw[ac (hm b _ q λz=>z),q];simp⟩⟩
 by_cases hbe:b=e
 ·subst hbe;exact heo
 ·exact⟨u,k b u hbe q⟩
end
def trk (h:Heap) (H:Hp):List Addr:=(List.range h.objs.size).filter λa=>(H a).isSome
def sX (h:Heap) (H:Hp):Heap:=PySem.W.hideAll h (trk h H)
theorem xO (h:Heap) (H:Hp):(sX h H).objs.size=h.objs.size:=PySem.W.hideAll_size _ _
theorem zr {h:Heap} {H:Hp} {b:Addr} {o:Obj} (e:h.get? b=some o) (n:H b=none):(sX h H).get? b=some o:=
 PySem.W.hideAll_get _ e λhm=>by
  have q:(H b).isSome=true:=(Zc.mp hm).2
  rw[n]at q;simp at q
theorem Bt {h:Heap} {H:Hp} {b:Addr} {o:Obj} (e:(sX h H).get? b=some o):h.get? b=some o∧H b=none:=by
 have e':h.get? b=some o:=PySem.W.of_hideAll (trk h H) e
 refine⟨e',?_⟩
 cases q:H b with
 |none=>rfl
 |some x=>
  have hm:b∈trk h H:=Zc.mpr ⟨XZ.mpr (Heap.lt_size e'),by simp[q]⟩
  have z:(sX h H).get? b=none:=PySem.W.hideAll_none (trk h H) hm
  rw[z]at e;cases e
end L2
namespace L2
open PySem PySem.Spec PyProof.Rows
structure Mod (K:PySem.W.Frag) (mg:Str→Option Value) (base:Heap):Prop where
 kin:K.In base
 glob:base.Ns mainGlobals mg
 blt:∃mb,base.Ns builtinsNs mb∧∀x:Str,x≠"__name__"→mb x=bootBuiltins x
 nolimit:base.NoLimit
/-- the context: a def's body (or a comprehension's block) running. base: fixed through the whole law; s₀, H₀: the entry; outer: the frames whose slots others may change (a def's callers); stack: all frames that run;
  ex:iterators that were made ahead of the entry and are walked here (a comprehension's);fn:the names whose cells were made at the entry (a def:all;a comprehension's block:its own);calm:not within an except suite;pn:pins that every state bears;xe:what is wanted of an exception that leaves the code-/
structure Cx where
 prog:Program
 w:World
 K:PySem.W.Frag
 mg:Str→Option Value
 base:Heap
 A:Around
 N:List Str
 s₀:Shared
 H₀:Hp
 env:Env
 outer:List Env
 stack:List Env
 ex:List Addr
 fn:Str→Bool
 calm:Bool
 pn:List (Addr×Obj)
 xe:Value→Shared→Prop
def frs (l:List Env):List Addr:=l.filterMap (·.frame)
abbrev Cx.fs (X:Cx):List Addr:=frs X.outer
def Vis (sc:Scope) (x:Str):Prop:=sc.names.lookup x=some .local∨sc.names.lookup x=some .cell∨sc.names.lookup x=some .free
def Loc (sc:Scope) (x:Str):Prop:=sc.names.lookup x=some .local∨sc.names.lookup x=some .cell
def Look (env:Env) (h:Heap) (m:Str→Option Value) (x:Str) (u:Value):Prop:=
 (env.kindOf x=some .local∧m x=some u)∨((env.kindOf x=some .cell∨env.kindOf x=some .free)∧∃c,env.cells.lookup x=some c∧h.IsCell c (some u))
structure Cx.Ok (X:Cx):Prop where
 mod:Mod X.K X.mg X.base
 kind:X.env.scope.kind= .function
 glob:X.env.globals=mainGlobals
 blt:X.env.builtins=builtinsNs
 above:X.s₀.heap.objs.size≤X.env.locals
 inj:∀x y c,X.env.cells.lookup x=some c→X.env.cells.lookup y=some c→x=y
 has:∀x,(X.env.kindOf x=some .cell∨X.env.kindOf x=some .free)→∃c,X.env.cells.lookup x=some c
 cab:∀x c,X.fn x=true→X.env.cells.lookup x=some c→X.s₀.heap.objs.size≤c
 hd:X.calm=true→X.A.handled=none
 frames:X.A.frames=some X.stack
 stk:X.stack=X.outer∨(X.stack=X.env::X.outer∧X.env.frame=some X.env.locals)
 exf:∀b∈X.ex,b≠X.env.locals∧∀x c,X.env.cells.lookup x=some c→c≠b
 bs:∀b o,X.base.get? b=some o→X.s₀.heap.get? b=some o∧X.H₀ b=none
 bsz:X.base.objs.size≤X.s₀.heap.objs.size
 noex:∀b o,X.base.get? b=some o→b∉X.ex
 exfs:∀b∈X.ex,b∉X.fs
 funs:X.s₀.heap.FunFrames X.base X.outer
 frf:∀b∈X.fs,X.H₀ b=none
structure Inv (X:Cx) (pins:List (Addr×Obj)) (σ:List (Option V)) (H:Hp) (s:Shared):Prop where
 ok:X.Ok
 os:s.os=X.s₀.os
 bare:AllBare s.gens
 base:Un X.fs X.ex X.H₀ H X.s₀.heap s.heap
 loc:∃m,s.heap.Ns X.env.locals m∧∀(i:Nat) (x:Str) (v:V),X.N[i]?=some x→σ[i]?=some (some v)→Vis X.env.scope x→∃u,RelV v u∧Look X.env s.heap m x u
 cell:∀x c,X.env.cells.lookup x=some c→∃v,s.heap.IsCell c v
 free:H X.env.locals=none
 freeC:∀x c,X.env.cells.lookup x=some c→H c=none
 pin:∀p∈X.pn++pins,s.heap.get? p.1=some p.2∧H p.1=none∧p.1≠X.env.locals∧p.1∉X.fs∧∀v,p.2.data≠ .cell v
 hok:HOk X.prog X.w H s.heap
 len:σ.length=X.N.length
section
variable {X:Cx} {pins:List (Addr×Obj)} {σ:List (Option V)} {H H':Hp} {s:Shared} {h':Heap}
theorem Cx.Ok.nofr (ok:X.Ok) {b:Addr} {o:Obj} (e:X.base.get? b=some o):b∉X.fs:=λhb=>by
 have:=(ok.funs.mem hb).1
 rw[e]at this;cases this
theorem Inv.bs (I:Inv X pins σ H s):∀b o,X.base.get? b=some o→s.heap.get? b=some o∧H b=none:=λb o e=>
 ⟨I.base.keep b o (I.ok.bs b o e).1 (I.ok.bs b o e).2 (I.ok.nofr e) (I.ok.noex b o e),I.base.free b o (I.ok.bs b o e).1 (I.ok.bs b o e).2 (I.ok.noex b o e)⟩
theorem Inv.bk (I:Inv X pins σ H s):∀b o,X.base.get? b=some o→s.heap.get? b=some o:=λb o e=>(I.bs b o e).1
theorem Inv.mod (I:Inv X pins σ H s):Mod X.K X.mg X.base:=I.ok.mod
theorem Inv.kIn (I:Inv X pins σ H s):X.K.In s.heap:=I.ok.mod.kin.keeps I.bk
theorem Inv.lt (I:Inv X pins σ H s):X.env.locals<s.heap.objs.size:=let⟨_,hn,_⟩:=I.loc;hn.lt
theorem Inv.sz (I:Inv X pins σ H s):X.s₀.heap.objs.size≤s.heap.objs.size:=Z2 I.ok.above (Zp I.lt)
theorem Inv.nofs (I:Inv X pins σ H s) {a:Addr} (h:s.heap.objs.size≤a):a∉X.fs:=λhb=>by
 obtain⟨_,o,ho,_⟩:=I.ok.funs.mem hb
 exact absurd (Qz (Heap.lt_size ho) (Z2 I.sz h)) (Zr _)
theorem Inv.cne (I:Inv X pins σ H s):∀x c,X.env.cells.lookup x=some c→c≠X.env.locals:=λx c e z=>by
 obtain⟨v,o,ho,hd⟩:=I.cell x c e
 obtain⟨m,⟨o',es,ep,ho',hd',_⟩,_⟩:=I.loc
 rw[z,ho']at ho;cases ho;rw[hd']at hd;cases hd
theorem Inv.funs (I:Inv X pins σ H s):s.heap.FunFrames X.base X.outer:=by
 have all:∀(l:List Env),(∀b∈frs l,b∈X.fs)→X.s₀.heap.FunFrames X.base l→s.heap.FunFrames X.base l:=by
  intro l
  induction l with
  |nil=>intro _ _;trivial
  |cons env r ih=>
   intro hs hl
   obtain⟨hk,⟨L,o,hf,hn,ho,hd⟩,hr⟩:=hl
   have hL:L∈X.fs:=hs L (by unfold frs;rw[Xu,hf];exact Q8)
   obtain⟨sl,e⟩:=I.base.slot L o ho (I.ok.frf L hL) hL λz=>I.ok.exfs L z hL
   exact⟨hk,⟨L,_,hf,hn,e,hd⟩,ih (λb hb=>hs b (by unfold frs;rw[Xu,hf];exact Qa _ hb)) hr⟩
 exact all X.outer (λ_ hb=>hb) I.ok.funs
theorem Inv.stack (I:Inv X pins σ H s):s.heap.FunFrames X.base X.stack:=by
 rcases I.ok.stk with e|⟨e,hf⟩
 ·rw[e];exact I.funs
 ·rw[e]
  obtain⟨m,hn,_⟩:=I.loc
  refine .cons (by rw[I.ok.kind];decide) hf hn ?_ I.funs
  exact Heap.get?_none_of_le (Z2 I.ok.bsz I.ok.above)
theorem Inv.stkSub (I:Inv X pins σ H s):∀b∈frs X.stack,b∈X.env.locals::X.fs:=λb hb=>by
 rcases I.ok.stk with e|⟨e,hf⟩
 ·rw[e]at hb;exact Qa _ hb
 ·rw[e]at hb
  unfold frs at hb
  rw[Xu,hf]at hb
  exact hb
theorem Inv.stkFree (I:Inv X pins σ H s):∀b∈frs X.stack,H b=none:=λb hb=>by
 rcases Qe.mp (I.stkSub b hb)with e|hb
 ·rw[e];exact I.free
 ·obtain⟨_,o,ho,_⟩:=I.ok.funs.mem hb
  exact I.base.free b o ho (I.ok.frf b hb) λz=>I.ok.exfs b z hb
theorem Inv.step {g':Array GenState} {t':Nat} {d':Drawn} {ch:List Addr} (I:Inv X pins σ H s)
  (hch:∀b∈ch,(b∈X.ex∨X.s₀.heap.objs.size≤b)∧b≠X.env.locals∧(∀x c,X.env.cells.lookup x=some c→c≠b)∧∀p∈X.pn++pins,p.1≠b)
  (keep:∀b o,b≠X.env.locals→b∉X.fs→b∉ch→s.heap.get? b=some o→H b=none→h'.get? b=some o)
  (slot:∀b o,b≠X.env.locals→b∈X.fs→b∉ch→s.heap.get? b=some o→H b=none→∃sl,h'.get? b=some {o with slots:=sl}) (free:∀b o,b∉ch→s.heap.get? b=some o→H b=none→H' b=none)
  (there:∀b o,b∉ch→s.heap.get? b=some o→∃o',h'.get? b=some o')
  (tups:∀b xs,H b=some (.tup xs)→H' b=some (.tup xs)) (frzs:∀b o u,H b=some (.frz o u)→H' b=some (.frz o u)) (tbls:∀b ps,H b=some (.tbl ps)→∃more,H' b=some (.tbl (ps++more)))
  (ns:∀m,s.heap.Ns X.env.locals m→h'.Ns X.env.locals m) (hok:HOk X.prog X.w H' h') (hg:AllBare g'):
  Inv X pins σ H' {s with heap:=h',gens:=g',drawn:=d',toks:=t'}:=by
 have neL:∀b o,X.s₀.heap.get? b=some o→b≠X.env.locals:=λb o e=>Qw (Qz (Heap.lt_size e) I.ok.above)
 have neC:∀b o,X.s₀.heap.get? b=some o→b∉X.ex→b∉ch:=λb o e hx hb=>by
  rcases(hch b hb).1 with z|z
  ·exact hx z
  ·exact absurd (Qz (Heap.lt_size e) z) (Zr _)
 have cellK:∀x c,X.env.cells.lookup x=some c→∀v,s.heap.IsCell c v→h'.IsCell c v:=λx c e v ⟨o,ho,hd⟩=>by
  have nch:c∉ch:=λz=>(hch c z).2.2.1 x c e rfl
  by_cases hc:c∈X.fs
  ·obtain⟨sl,q⟩:=slot c o (I.cne x c e) hc nch ho (I.freeC x c e)
   exact⟨_,q,hd⟩
  ·exact⟨o,keep c o (I.cne x c e) hc nch ho (I.freeC x c e),hd⟩
 refine⟨I.ok,I.os,hg,⟨λb o e n hb hx=>?_,λb o e n hb hx=>?_,λb o e n hx=>?_,λb o e hx=>?_,λb xs e=>tups b xs (I.base.tups b xs e),λb o xs e=>frzs b o xs (I.base.frzs b o xs e),λb ps e=>?_⟩,?_,λx c e=>?_,?_,λx c e=>?_,λp hp=>?_,hok,I.len⟩
 ·exact keep b o (neL b o e) hb (neC b o e hx) (I.base.keep b o e n hb hx) (I.base.free b o e n hx)
 ·obtain⟨sl,e1⟩:=I.base.slot b o e n hb hx
  obtain⟨sl',e2⟩:=slot b _ (neL b o e) hb (neC b o e hx) e1 (I.base.free b o e n hx)
  exact⟨sl',e2⟩
 ·obtain⟨o',e1⟩:=I.base.there b o e hx
  exact free b o' (neC b o e hx) e1 (I.base.free b o e n hx)
 ·obtain⟨o',e1⟩:=I.base.there b o e hx
  exact there b o' (neC b o e hx) e1
 ·obtain⟨m1,e1⟩:=I.base.tbls b ps e
  obtain⟨m2,e2⟩:=tbls b _ e1
  exact⟨m1++m2,by rw[e2,Array.append_assoc]⟩
 ·obtain⟨m,hn,hl⟩:=I.loc
  refine⟨m,ns m hn,λi x v e1 e2 e3=>?_⟩
  obtain⟨u,r,l⟩:=hl i x v e1 e2 e3
  refine⟨u,r,?_⟩
  rcases l with l|⟨k,c,e,z⟩
  ·exact .inl l
  ·exact .inr ⟨k,c,e,cellK x c e _ z⟩
 ·obtain⟨v,z⟩:=I.cell x c e
  exact⟨v,cellK x c e v z⟩
 ·obtain⟨m,⟨o,_,_,ho,_⟩,_⟩:=I.loc
  exact free _ o (λz=>(hch _ z).2.1 rfl) ho I.free
 ·obtain⟨v,o,ho,hd⟩:=I.cell x c e
  exact free c o (λz=>(hch c z).2.2.1 x c e rfl) ho (I.freeC x c e)
 ·obtain⟨e,n,ne,nf,d⟩:=I.pin p hp
  have nch:p.1∉ch:=λz=>(hch p.1 z).2.2.2 p hp rfl
  exact⟨keep p.1 p.2 ne nf nch e n,free p.1 p.2 nch e n,ne,nf,d⟩
theorem Inv.un {t':Nat} (I:Inv X pins σ H s) (u:Un X.fs [] H H' s.heap h') (hok:HOk X.prog X.w H' h'):Inv X pins σ H' {s with heap:=h',toks:=t'}:=by
 obtain⟨m,⟨o,es,ep,ho,r⟩,_⟩:=id I.loc
 obtain⟨sl,hL⟩:=u.any ho I.free (by simp)
 exact I.step (g':=s.gens) (d':=s.drawn) (ch:=[]) (λ_ z=>nomatch z) (λb o _ hb _ e n=>u.keep b o e n hb (by simp)) (λb o _ hb _ e n=>u.slot b o e n hb (by simp)) (λb o _ e n=>u.free b o e n (by simp)) (λb o _ e=>u.there b o e (by simp)) u.tups u.frzs u.tbls (λm' hm=>by
  obtain⟨o',es',ep',ho',r'⟩:=hm
  rw[ho]at ho';cases ho'
  exact⟨_,es',ep',hL,r'⟩) hok I.bare
theorem Inv.call {g':Array GenState} {t':Nat} {d':Drawn} {ch:List Addr} (I:Inv X pins σ H s) (u:Un (frs X.stack) ch H H' s.heap h') (hok:HOk X.prog X.w H' h') (hg:AllBare g')
  (hch:∀b∈ch,(b∈X.ex∨X.s₀.heap.objs.size≤b)∧b≠X.env.locals∧(∀x c,X.env.cells.lookup x=some c→c≠b)∧∀p∈X.pn++pins,p.1≠b):
  Inv X pins σ H' {s with heap:=h',gens:=g',drawn:=d',toks:=t'}:=by
 obtain⟨m,⟨o,es,ep,ho,r⟩,_⟩:=id I.loc
 obtain⟨sl,hL⟩:=u.any ho I.free λz=>(hch _ z).2.1 rfl
 exact I.step (ch:=ch) hch (λb o hL hb hc e n=>u.keep b o e n (λz=>(Qe.mp (I.stkSub b z)).elim hL hb) hc) (λb o _ _ hc e n=>u.any e n hc) (λb o hc e n=>u.free b o e n hc) (λb o hc e=>u.there b o e hc) u.tups u.frzs u.tbls (λm' hm=>by
  obtain⟨o',es',ep',ho',r'⟩:=hm
  rw[ho]at ho';cases ho'
  exact⟨_,es',ep',hL,r'⟩) hok hg
theorem Inv.turned {t':Nat} {it:Addr} (I:Inv X pins σ H s) (k:∀b o,b≠it→s.heap.get? b=some o→h'.get? b=some o) (hn:H it=none) (hL:it≠X.env.locals)
  (h1:it∈X.ex∨X.s₀.heap.objs.size≤it) (h2:∀x c,X.env.cells.lookup x=some c→c≠it) (h3:∀p∈X.pn++pins,p.1≠it):Inv X pins σ H {s with heap:=h',toks:=t'}:=by
 have nit:∀b u,H b=some u→b≠it:=λb u e z=>by rw[z,hn]at e;cases e
 refine I.step (g':=s.gens) (d':=s.drawn) (ch:=[it]) (λb hb=>?_) (λb o _ _ hc e _=>k b o (λz=>hc (by simp[z])) e) (λb o _ _ hc e _=>⟨o.slots,k b o (λz=>hc (by simp[z])) e⟩) (λ_ _ _ _ n=>n)
  (λb o hc e=>⟨o,k b o (λz=>hc (by simp[z])) e⟩) (λ_ _ e=>e) (λ_ _ _ e=>e) (λb ps e=>⟨#[],by rw[e];simp⟩) (λm hm=>?_) (λb u e=>?_) I.bare
 ·have e:b=it:=by simpa using hb
  subst e
  exact⟨h1,hL,h2,h3⟩
 ·obtain⟨o,es,ep,ho,r⟩:=hm
  exact⟨o,es,ep,k _ o (Ne.symm hL) ho,r⟩
 ·refine(I.hok b u e).stay (λc v hc q=>k c v ?_ q) (λ_ q=>q) λ_ _ q=>q
  rcases hc with z|z
  ·rw[z];exact nit b u e
  ·exact nit c _ z
theorem Inv.tok (I:Inv X pins σ H s) (t:Nat):Inv X pins σ H {s with toks:=t}:=I.un (h':=s.heap) (t':=t) Un.refl I.hok
theorem Inv.kept {t':Nat} (I:Inv X pins σ H s) (k:∀b u,s.heap.get? b=some u→h'.get? b=some u):Inv X pins σ H {s with heap:=h',toks:=t'}:=I.un (Un.kept k) (I.hok.kept k)
theorem Inv.laid {a:Addr} {o:HO} {t':Nat} (I:Inv X pins σ H s) (k:∀b u,s.heap.get? b=some u→h'.get? b=some u) (hp:s.heap.objs.size≤a) (new:ObjOk X.prog X.w (upd H a o) h' a o):
  Inv X pins σ (upd H a o) {s with heap:=h',toks:=t'}:=I.un (Un.laid k hp (I.hok.fresh hp)) (I.hok.laid k hp new)
theorem Inv.write {x e:Addr} {o:HO} {t':Nat} (I:Inv X pins σ H s) (mu:Mut (H x)) (he:e=x∨H e=some (.own x)) (k:∀b u,b≠e→s.heap.get? b=some u→h'.get? b=some u) (heo:∃u,h'.get? e=some u)
  (new:ObjOk X.prog X.w (upd H x o) h' x o):Inv X pins σ (upd H x o) {s with heap:=h',toks:=t'}:=I.un (Un.write mu he k heo) (I.hok.write mu he k heo new)
theorem Inv.pins_of {pins':List (Addr×Obj)} (I:Inv X pins σ H s) (h:∀p∈pins',s.heap.get? p.1=some p.2∧H p.1=none∧p.1≠X.env.locals∧p.1∉X.fs∧∀v,p.2.data≠ .cell v):Inv X pins' σ H s:=
 ⟨I.ok,I.os,I.bare,I.base,I.loc,I.cell,I.free,I.freeC,λp hp=>(Q7.mp hp).elim (λz=>I.pin p (Z0 _ z)) (h p),I.hok,I.len⟩
theorem o7 {N:List Str} (hN:N.Nodup) {i j:Nat} {x:Str} (a:N[i]?=some x) (b:N[j]?=some x):i=j:=by
 obtain⟨h1,e1⟩:=Q4.mp a
 obtain⟨h2,e2⟩:=Q4.mp b
 exact(List.getElem_inj hN).mp (e1.trans e2.symm)
theorem qS {M:Model} {A:Around} {E:Value→Shared→Prop} {i:Nat} {x:Str} {v:V} {u:Value} {Q:Unit→Shared→Prop} (I:Inv X pins σ H s) (hN:X.N.Nodup) (hi:X.N[i]?=some x) (hx:Loc X.env.scope x) (r:RelV v u)
  (h:∀s',Inv X pins (σ.set i (some v)) H s'→(∃a,Heap.SameBut a s.heap s'.heap∧(a=X.env.locals∨X.env.cells.lookup x=some a))→Q () s') (hf:X.fn x=true∨X.env.scope.names.lookup x=some .local:=by first|exact .inl rfl|exact .inr rfl|assumption):wpAny M A (storeName X.env x u) Q E s:=by
 obtain⟨m,hn,hl⟩:=id I.loc
 have hcls:(X.env.scope.kind== .class||(X.env.scope.kind== .module&&X.env.locals !=X.env.globals))=false:=by rw[I.ok.kind];rfl
 have hiσ:i<σ.length:=by rw[I.len];exact(Q4.mp hi).1
 have cne:=I.cne
 have tracked:∀{a:Addr} {h':Heap},(∃o,s.heap.get? a=some o∧H a=none)→Heap.SameBut a s.heap h'→HOk X.prog X.w H h':=λ{a h'} ha hs b ob e=>by
  obtain⟨_,_,hfree⟩:=ha
  refine(I.hok b ob e).stay (λc w' hc q=>(hs.2 c ?_).trans q) (λ_ q=>q) λ_ _ q=>q
  rintro rfl
  rcases hc with rfl|hc
  ·rw[hfree]at e;cases e
  ·rw[hfree]at hc;cases hc
 rcases hx with hk|hk
 ·refine wpAny_storeName_local hk hn (λh' hn' hs=>?_) hcls
  obtain⟨oL,_,_,hoL,_⟩:=id hn
  refine h _ ⟨I.ok,I.os,I.bare,⟨λb o e n hb hx=>?_,λb o e n hb hx=>?_,I.base.free,λb o e hx=>?_,I.base.tups,I.base.frzs,I.base.tbls⟩,⟨_,hn',λj y v' e1 e2 e3=>?_⟩,λy c e=>?_,I.free,I.freeC,λp hp=>?_,tracked ⟨oL,hoL,I.free⟩ hs,by simpa using I.len⟩ ⟨_,hs,.inl rfl⟩
  ·exact(hs.2 b (Qw (Qz (Heap.lt_size e) I.ok.above))).trans (I.base.keep b o e n hb hx)
  ·obtain⟨sl,e1⟩:=I.base.slot b o e n hb hx
   exact⟨sl,(hs.2 b (Qw (Qz (Heap.lt_size e) I.ok.above))).trans e1⟩
  ·obtain⟨o',e1⟩:=I.base.there b o e hx
   exact⟨o',(hs.2 b (Qw (Qz (Heap.lt_size e) I.ok.above))).trans e1⟩
  ·by_cases hj:j=i
   ·subst hj
    rw[hi]at e1;cases e1
    rw[ZP hiσ]at e2
    cases e2
    exact⟨u,r,.inl ⟨hk,by simp⟩⟩
   ·rw[Xq (Ne.symm hj)]at e2
    obtain⟨u',r',q⟩:=hl j y v' e1 e2 e3
    refine⟨u',r',?_⟩
    rcases q with⟨k,e⟩|⟨k,c,e,z⟩
    ·refine .inl ⟨k,?_⟩
     have:y≠x:=λe=>hj (o7 hN e1 (e▸hi))
     simp[this,e]
    ·exact .inr ⟨k,c,e,z.sameBut hs (cne y c e)⟩
  ·obtain⟨w',z⟩:=I.cell y c e
   exact⟨w',z.sameBut hs (cne y c e)⟩
  ·obtain⟨e,n,ne,nf,d⟩:=I.pin p hp
   exact⟨(hs.2 p.1 ne).trans e,n,ne,nf,d⟩
 ·have hfn:X.fn x=true:=by
   rcases hf with z|z
   ·exact z
   ·rw[z]at hk;cases hk
  obtain⟨c,hc⟩:=I.ok.has x (.inl hk)
  obtain⟨w',z⟩:=I.cell x c hc
  refine wpAny_storeName_cell I.ok.kind hk hc z (λh' hc' hs=>?_)
  obtain⟨oc,hoc,hocd⟩:=id z
  refine h {s with heap:=h'} ⟨I.ok,I.os,I.bare,⟨λb o e n hb hx=>?_,λb o e n hb hx=>?_,I.base.free,λb o e hx=>?_,I.base.tups,I.base.frzs,I.base.tbls⟩,⟨m,hn.sameBut hs (Ne.symm (cne x c hc)),λj y v' e1 e2 e3=>?_⟩,λy c' e=>?_,I.free,I.freeC,λp hp=>?_,tracked ⟨oc,hoc,I.freeC x c hc⟩ hs,by simpa using I.len⟩ ⟨c,hs,.inr hc⟩
  ·exact(hs.2 b (Qw (Qz (Heap.lt_size e) (I.ok.cab x c hfn hc)))).trans (I.base.keep b o e n hb hx)
  ·obtain⟨sl,e1⟩:=I.base.slot b o e n hb hx
   exact⟨sl,(hs.2 b (Qw (Qz (Heap.lt_size e) (I.ok.cab x c hfn hc)))).trans e1⟩
  ·obtain⟨o',e1⟩:=I.base.there b o e hx
   exact⟨o',(hs.2 b (Qw (Qz (Heap.lt_size e) (I.ok.cab x c hfn hc)))).trans e1⟩
  ·by_cases hj:j=i
   ·subst hj
    rw[hi]at e1;cases e1
    rw[ZP hiσ]at e2
    cases e2
    exact⟨u,r,.inr ⟨.inl hk,c,hc,hc'⟩⟩
   ·rw[Xq (Ne.symm hj)]at e2
    obtain⟨u',r',q⟩:=hl j y v' e1 e2 e3
    refine⟨u',r',?_⟩
    rcases q with q|⟨k,c',e,z'⟩
    ·exact .inl q
    ·refine .inr ⟨k,c',e,z'.sameBut hs ?_⟩
     rintro rfl
     exact hj (o7 hN e1 (I.ok.inj _ _ _ e hc▸hi))
  ·by_cases hcc:c'=c
   ·subst hcc;exact⟨_,hc'⟩
   ·obtain⟨w2,z2⟩:=I.cell y c' e
    exact⟨w2,z2.sameBut hs hcc⟩
  ·obtain⟨e,n,ne,nf,d⟩:=I.pin p hp
   refine⟨(hs.2 p.1 ?_).trans e,n,ne,nf,d⟩
   intro q
   rw[q,hoc]at e
   have q':oc=p.2:=Option.some.inj e
   exact d w' (by rw[←q'];exact hocd)
theorem kf {M:Model} {A:Around} {E:Value→Shared→Prop} {i:Nat} {x:Str} {v:V} {u:Value} {Q:Unit→Shared→Prop} (I:Inv X pins σ H s) (hN:X.N.Nodup) (hi:X.N[i]?=some x) (hx:Loc X.env.scope x) (r:RelV v u)
  (h:∀s',Inv X pins (σ.set i (some v)) H s'→Q () s') (hf:X.fn x=true∨X.env.scope.names.lookup x=some .local:=by first|exact .inl rfl|exact .inr rfl|assumption):wpAny M A (storeName X.env x u) Q E s:=
 qS I hN hi hx r (λs' I' _=>h s' I') hf
theorem Inv.call' {s':Shared} {ch:List Addr} (I:Inv X pins σ H s) (ho:s'.os=s.os) (u:Un (frs X.stack) ch H H' s.heap s'.heap) (hok:HOk X.prog X.w H' s'.heap) (hg:AllBare s'.gens)
  (hch:∀b∈ch,(b∈X.ex∨X.s₀.heap.objs.size≤b)∧b≠X.env.locals∧(∀x c,X.env.cells.lookup x=some c→c≠b)∧∀p∈X.pn++pins,p.1≠b):Inv X pins σ H' s':=by
 obtain⟨h',g',d',t',o'⟩:=s'
 have e:o'=s.os:=ho
 subst e
 exact I.call (g':=g') (t':=t') (d':=d') u hok hg hch
end
abbrev XK:=Value→Option Addr→Hp→Prop
abbrev St:=List (Option V)
abbrev VK:=V→Hp→Prop
abbrev TE:=St→Hp→VK→Prop
abbrev TT:=St→Hp→(Bool→Hp→Prop)→Prop
abbrev TA:=St→Hp→(List V→Hp→Prop)→Prop
structure Ends where
 nx:St→Hp→Prop
 rt:VK
 bk:St→Hp→Prop:=λ_ _=>False
 ct:St→Hp→Prop:=λ_ _=>False
abbrev TS:=Ends→St→Hp→Prop
def EP (X:Cx) (pins:List (Addr×Obj)) (σ:St) (Q:VK) (u:Value) (s':Shared):Prop:=∃v H',Inv X pins σ H' s'∧RelV v u∧Q v H'
def TP (X:Cx) (pins:List (Addr×Obj)) (σ:St) (Q:Bool→Hp→Prop) (b:Bool) (s':Shared):Prop:=∃H',Inv X pins σ H' s'∧Q b H'
def AP (X:Cx) (pins:List (Addr×Obj)) (σ:St) (Q:List V→Hp→Prop) (us:List Value) (s':Shared):Prop:=∃vs H',Inv X pins σ H' s'∧Vals vs us∧Q vs H'
def SP (X:Cx) (pins:List (Addr×Obj)) (D:Ends) (f:Flow) (s':Shared):Prop:=
 match f with
 | .next=>∃σ' H',Inv X pins σ' H' s'∧D.nx σ' H'
 | .brk=>∃σ' H',Inv X pins σ' H' s'∧D.bk σ' H'
 | .cont=>∃σ' H',Inv X pins σ' H' s'∧D.ct σ' H'
 | .ret u=>∃v σ' H',Inv X pins σ' H' s'∧RelV v u∧D.rt v H'
def PE (X:Cx) (e:Expr) (t:TE):Prop:=
 ∀(pins:List (Addr×Obj)) (s:Shared) (σ:St) (H:Hp) (Q:VK),Inv X pins σ H s→t σ H Q→wpAny (model X.prog X.w) X.A (eval e X.env) (EP X pins σ Q) X.xe s
def PT (X:Cx) (e:Expr) (t:TT):Prop:=
 ∀(pins:List (Addr×Obj)) (s:Shared) (σ:St) (H:Hp) (Q:Bool→Hp→Prop),Inv X pins σ H s→t σ H Q→wpAny (model X.prog X.w) X.A (isTrue e X.env (eval e X.env)) (TP X pins σ Q) X.xe s
def PW (X:Cx) (e:Expr) (t:TT):Prop:=
 ∀(whole:Sem Value) (pins:List (Addr×Obj)) (s:Shared) (σ:St) (H:Hp) (Q:Bool→Hp→Prop),Inv X pins σ H s→t σ H Q→wpAny (model X.prog X.w) X.A (isTrue e X.env whole) (TP X pins σ Q) X.xe s
theorem PW.pt {X:Cx} {e:Expr} {t:TT} (h:PW X e t):PT X e t:=h _
def PA (X:Cx) (es:List Expr) (t:TA):Prop:=
 ∀(pos:Pos) (pins:List (Addr×Obj)) (s:Shared) (σ:St) (H:Hp) (Q:List V→Hp→Prop),Inv X pins σ H s→t σ H Q→wpAny (model X.prog X.w) X.A (spliced (backTo pos (starEach es X.env))) (AP X pins σ Q) X.xe s
def PS (X:Cx) (st:Stmt) (t:TS):Prop:=
 ∀(pins:List (Addr×Obj)) (s:Shared) (σ:St) (H:Hp) (D:Ends),Inv X pins σ H s→t D σ H→wpAny (model X.prog X.w) X.A (exec st X.env) (SP X pins D) X.xe s
def PSs (X:Cx) (st:List Stmt) (t:TS):Prop:=
 ∀(pins:List (Addr×Obj)) (s:Shared) (σ:St) (H:Hp) (D:Ends),Inv X pins σ H s→t D σ H→wpAny (model X.prog X.w) X.A (execs st X.env) (SP X pins D) X.xe s
theorem thn {α:Type} {t:Sem α} {Q Q':α→Shared→Prop} {M:Model} {A:Around} {E:Value→Shared→Prop} {s:Shared} (h:wpAny M A t Q E s) (hQ:∀a s,Q a s→Q' a s):wpAny M A t Q' E s:=wpAny_mono h hQ λ_ _ x=>x
end L2
namespace L2
open PySem PySem.Spec PyProof.Rows
section
variable {X:Cx}
def yv (i:Nat):TE:=λσ H Q=>∃v,σ[i]?=some (some v)∧Q v H
def tC (v:V):TE:=λ_ H Q=>Q v H
theorem C7 {i:Nat} {x:Str} {pos:Pos} (hN:X.N[i]?=some x) (hv:Vis X.env.scope x) (hd:(x==("__debug__":Str))=false:=by decide) (hcd:(x==("__classdict__":Str))=false:=by decide):PE X (.Name x pos) (yv i):=by
 intro pins s σ H Q I h
 obtain⟨v,e,h⟩:=h
 obtain⟨m,hn,hl⟩:=I.loc
 obtain⟨u,r,l⟩:=hl i x v hN e hv
 have fin:EP X pins σ Q u s:=⟨v,H,I,r,h⟩
 rcases l with⟨hk,hm⟩|⟨hk,c,hc,hcell⟩
 ·exact wpAny_Name (wpAny_loadName_local I.ok.kind hk hn hm fin) hd
 ·rcases hk with hk|hk
  ·exact wpAny_Name (wpAny_loadName_cell I.ok.kind hk hc hcell fin) hd
  ·exact wpAny_Name (wpAny_loadName_free I.ok.kind hk hc hcell fin hcd) hd
theorem aj {i j pos}:PE X (.Constant (.int i) j pos) (tC (.int i)):=λ_ _ _ H _ I h=>wpAny_Constant_int ⟨.int i,H,I.tok _,⟨_,rfl⟩,h⟩
theorem im {b j pos}:PE X (.Constant (.bool b) j pos) (tC (.bl b)):=λ_ _ _ H _ I h=>Constant_bool ⟨.bl b,H,I,rfl,h⟩
theorem yT {j pos}:PE X (.Constant .none j pos) (tC .non):=λ_ _ _ H _ I h=>Constant_none ⟨.non,H,I,rfl,h⟩
theorem cr {x j pos}:PE X (.Constant (.str x) j pos) (tC (.str x)):=λ_ _ _ H _ I h=>Calls.Constant_str ⟨.str x,H,I.tok _,⟨_,rfl⟩,h⟩
def Gl (X:Cx) (x:Str):Prop:=X.env.kindOf x=some .globalImplicit
theorem iU {E:Value→Shared→Prop} {pins:List (Addr×Obj)} {s:Shared} {σ:St} {H:Hp} {x:Str} {u:Value} {pos:Pos} {Q:Value→Shared→Prop} (I:Inv X pins σ H s) (hg:Gl X x) (hm:X.mg x=some u) (h:Q u s)
  (hd:(x==("__debug__":Str))=false:=by decide):wpAny (model X.prog X.w) X.A (eval (.Name x pos) X.env) Q E s:=
 Calls.Name_function_global I.ok.kind hg (Calls.loadGlobal_global (by rw[I.ok.glob];exact I.mod.glob.keeps I.bk) hm h) hd
theorem lV {E:Value→Shared→Prop} {pins:List (Addr×Obj)} {s:Shared} {σ:St} {H:Hp} {x:Str} {u:Value} {pos:Pos} {Q:Value→Shared→Prop} (I:Inv X pins σ H s) (hg:Gl X x) (hm:X.mg x=none) (hv:bootBuiltins x=some u) (h:Q u s)
  (hn:x≠"__name__":=by decide) (hd:(x==("__debug__":Str))=false:=by decide):wpAny (model X.prog X.w) X.A (eval (.Name x pos) X.env) Q E s:=by
 obtain⟨mb,h1,h2⟩:=I.mod.blt
 exact Calls.Name_function_global I.ok.kind hg (Calls.loadGlobal_builtin (by rw[I.ok.glob];exact I.mod.glob.keeps I.bk) hm (by rw[I.ok.blt];exact h1.keeps I.bk) ((h2 x hn).trans hv) h) hd
theorem cn {x:Str} {v:V} {u:Value} {pos:Pos} (hg:Gl X x) (hm:X.mg x=some u) (r:RelV v u) (hd:(x==("__debug__":Str))=false:=by decide):PE X (.Name x pos) (tC v):=
 λ_ _ _ H _ I h=>iU I hg hm ⟨v,H,I,r,h⟩ hd
theorem kx {x:Str} {v:V} {u:Value} {pos:Pos} (hg:Gl X x) (hm:X.mg x=none) (hv:bootBuiltins x=some u) (r:RelV v u) (hn:x≠"__name__":=by decide) (hd:(x==("__debug__":Str))=false:=by decide):PE X (.Name x pos) (tC v):=
 λ_ _ _ H _ I h=>lV I hg hm hv ⟨v,H,I,r,h⟩ hn hd
variable {a b:Expr} {ta tb:TE} {pos:Pos}
def PC (X:Cx) (op:CmpOp) (a b:Expr) (t:TE):Prop:=
 ∀(pins:List (Addr×Obj)) (s:Shared) (σ:St) (H:Hp) (Q:VK),Inv X pins σ H s→t σ H Q→
  wpAny (model X.prog X.w) X.A (eval a X.env) (λv s₁=>wpAny (model X.prog X.w) X.A (eval b X.env) (λu s₂=>wpAny (model X.prog X.w) X.A (compareOp op v u) (EP X pins σ Q) X.xe s₂) X.xe s₁) X.xe s
def tB (t:TE):TT:=λσ H Q=>t σ H λx H1=>∃c,x= .bl c∧Q c H1
theorem yV {op:CmpOp} {t:TE} (h:PC X op a b t) (h1:behindInMarks op b=false:=by first|exact nobehind _ (by decide) (by decide)|rfl):PE X (.Compare a [op] [b] pos) t:=λpins s σ H Q I hw=>wpAny_Compare1 (h pins s σ H Q I hw) h1
theorem sD {op:CmpOp} {t:TE} (h:PC X op a b t) (h1:behindInMarks op b=false:=by first|exact nobehind _ (by decide) (by decide)|rfl):PT X (.Compare a [op] [b] pos) (tB t):=by
 intro pins s σ H Q I hw
 refine wpAny_isTrue_Compare1 (thn (h pins s σ H _ I hw) λv s1 h1=>thn h1 λu s2 h2=>thn h2 λc s3 hzz=>?_) h1
 obtain⟨x,H1,I1,r1,q1⟩:=hzz
 obtain⟨d,rfl,q⟩:=q1
 cases r1
 exact wpAny_truthy_bool ⟨H1,I1,q⟩
theorem fB {e:Expr} {t:TE} (h:PE X e t) (he:∀whole,isTrue e X.env whole=(do let v←whole;standAt e.pos;holding [v] (truthy v)):=by intro _;rfl):PT X e (tB t):=by
 intro pins s σ H Q I hw
 refine isTrue_plain (thn (h pins s σ H _ I hw) λv s1 hzz=>?_) (he _)
 obtain⟨x,H1,I1,r1,q1⟩:=hzz
 obtain⟨d,rfl,q⟩:=q1
 cases r1
 exact wpAny_truthy_bool ⟨H1,I1,q⟩
variable {tA tB':TT} {rest:List Expr}
def tAnd (t u:TT):TT:=λσ H Q=>t σ H λc H1=>if c=true then u σ H1 Q else Q false H1
def tOr (t u:TT):TT:=λσ H Q=>t σ H λc H1=>if c=true then Q true H1 else u σ H1 Q
def tNot (t:TT):TT:=λσ H Q=>t σ H λc H1=>Q (!c) H1
theorem dD (ha:PT X a tA):PW X (.BoolOp .And [a] pos) tA:=by
 intro wh pins s σ H Q I h
 refine isTrue_and (thn (ha pins s σ H Q I h) λc s1 e=>?_)
 cases c with
 |true=>exact isTrue_and_nil e
 |false=>exact e
theorem jL (ha:PT X a tA):PW X (.BoolOp .Or [a] pos) tA:=by
 intro wh pins s σ H Q I h
 refine isTrue_or (thn (ha pins s σ H Q I h) λc s1 e=>?_)
 cases c with
 |false=>exact isTrue_or_nil e
 |true=>exact e
theorem gI (ha:PT X a tA) (hb:PW X (.BoolOp .And (b::rest) pos) tB'):PW X (.BoolOp .And (a::b::rest) pos) (tAnd tA tB'):=by
 intro wh pins s σ H Q I h
 refine isTrue_and (thn (ha pins s σ H _ I h) λc s1 ⟨H1,I1,q1⟩=>?_)
 cases c with
 |true=>exact hb wh pins s1 σ H1 Q I1 q1
 |false=>exact⟨H1,I1,q1⟩
theorem oE (ha:PT X a tA) (hb:PW X (.BoolOp .Or (b::rest) pos) tB'):PW X (.BoolOp .Or (a::b::rest) pos) (tOr tA tB'):=by
 intro wh pins s σ H Q I h
 refine isTrue_or (thn (ha pins s σ H _ I h) λc s1 ⟨H1,I1,q1⟩=>?_)
 cases c with
 |true=>exact⟨H1,I1,q1⟩
 |false=>exact hb wh pins s1 σ H1 Q I1 q1
theorem jM (ha:PT X a tA):PT X (.UnaryOp .Not a pos) (tNot tA):=by
 intro pins s σ H Q I h
 exact isTrue_not (ha pins s σ H (λc H1=>Q (!c) H1) I h)
def DU (ta tb:TE):TE:=λσ H Q=>ta σ H λx H1=>∃c,x= .bl c∧if c=true then tb σ H1 Q else Q (.bl false) H1
def DM (ta:TE):TE:=λσ H Q=>ta σ H λx H1=>∃c,x= .bl c∧Q (.bl (!c)) H1
theorem oJ {op} {t:TE} (h:PE X a t):PE X (.BoolOp op [a] pos) t:=λpins s σ H Q I hw=>BoolOp_one (h pins s σ H Q I hw)
theorem gK (ha:PE X a ta) (hb:PE X (.BoolOp .And (b::rest) pos) tb):PE X (.BoolOp .And (a::b::rest) pos) (DU ta tb):=by
 intro pins s σ H Q I h
 refine BoolOp_and (thn (ha pins s σ H _ I h) λv s1 hzz=>?_)
 obtain⟨x,H1,I1,r1,q1⟩:=hzz
 obtain⟨c,rfl,q1⟩:=q1
 cases r1
 refine wpAny_truthy_bool ?_
 cases c with
 |true=>exact hb pins s1 σ H1 Q I1 q1
 |false=>exact⟨.bl false,H1,I1,rfl,q1⟩
theorem yS (ha:PE X a ta):PE X (.UnaryOp .Not a pos) (DM ta):=by
 intro pins s σ H Q I h
 refine UnaryOp_ (thn (ha pins s σ H _ I h) λv s1 hzz=>?_)
 obtain⟨x,H1,I1,r1,q1⟩:=hzz
 obtain⟨c,rfl,q1⟩:=q1
 cases r1
 exact not_of (wpAny_truthy_bool ⟨.bl (!c),H1,I1,rfl,q1⟩)
end
end L2
namespace L2
open PySem PySem.Spec PyProof.Rows
def SqL (K:PySem.W.Frag) (H:Hp) (a:Addr) (xs:List V):Prop:=
 Rd H a (.lst xs)∨
  ∃(o:Obj) (its:Array Value) (n:Nat),K.lookup a=some o∧o.cls= .type "list"∧o.dict=none∧o.data= .seq its n∧its.size≤sizeLine∧Vals xs its.toList
def SqT (K:PySem.W.Frag) (H:Hp) (a:Addr) (xs:List V):Prop:=
 Rd H a (.tup xs)∨
  ∃(o:Obj) (its:Array Value) (n:Nat),K.lookup a=some o∧o.cls= .type "tuple"∧o.data= .seq its n∧its.size≤sizeLine∧Vals xs its.toList
def absV:Value→Option V
 | .none=>some .non
 | .bool b=>some (.bl b)
 | .int i _=>some (.int i)
 | .str x _=>some (.str x)
 | .bytes b _=>some (.byt b)
 | .float b _=>some (.flt b)
 | .ref a=>some (.ref a)
 | .type n=>some (.ty n)
 |_=>none
theorem RelV.abs {x:V} {u:Value} (r:RelV x u):absV u=some x:=by
 cases x with
 |non=>cases r;rfl
 |bl _=>cases r;rfl
 |int _=>obtain⟨t,rfl⟩:=r;rfl
 |str _=>obtain⟨t,rfl⟩:=r;rfl
 |byt _=>obtain⟨t,rfl⟩:=r;rfl
 |flt _=>obtain⟨t,rfl⟩:=r;rfl
 |ref _=>cases r;rfl
 |ty _=>cases r;rfl
theorem RelV.inj {x y:V} {u:Value} (r:RelV x u) (q:RelV y u):x=y:=Option.some.inj (r.abs.symm.trans q.abs)
theorem Vals.inj:∀{xs ys:List V} {us:List Value},Vals xs us→Vals ys us→xs=ys
 |_,_,_,.nil,.nil=>rfl
 |_,_,_,.cons r t,.cons r' t'=>by rw[r.inj r',Vals.inj t t']
section
variable {X:Cx} {pins:List (Addr×Obj)} {σ:St} {H:Hp} {s:Shared} {a:Addr} {xs ys:List V}
theorem SqL.of {K:PySem.W.Frag} (h:H a=some (.lst xs)):SqL K H a xs:= .inl (.inl h)
theorem SqT.of {K:PySem.W.Frag} (h:H a=some (.tup xs)):SqT K H a xs:= .inl (.inl h)
theorem Inv.list (I:Inv X pins σ H s) (h:SqL X.K H a xs):∃its:List Value,Vals xs its∧PlainL s.heap a its.toArray∧xs.length≤sizeLine:=by
 rcases h with h|⟨o,its,n,hk,hc,hd,hs,hz,r⟩
 ·obtain⟨z,its,n,r,e⟩:=h.ok I.hok
  exact⟨its,r,⟨_,n,e,rfl,rfl,rfl⟩,z⟩
 ·refine⟨its.toList,r,⟨o,n,I.kIn a o hk,hc,hd,by simpa using hs⟩,?_⟩
  have e:=r.length
  simp only[Q9]at e
  omega
theorem Inv.tuple (I:Inv X pins σ H s) (h:SqT X.K H a xs):∃its:List Value,Vals xs its∧IsTup s.heap a its.toArray∧xs.length≤sizeLine:=by
 rcases h with h|⟨o,its,n,hk,hc,hs,hz,r⟩
 ·obtain⟨z,its,r,p⟩:=h.ok I.hok
  exact⟨its,r,p,z⟩
 ·refine⟨its.toList,r,⟨o,I.kIn a o hk,hc,n,by simpa using hs⟩,?_⟩
  have e:=r.length
  simp only[Q9]at e
  omega
theorem Inv.list_inj (I:Inv X pins σ H s) (h:SqL X.K H a xs) (h':SqL X.K H a ys):xs=ys:=by
 obtain⟨its,r,⟨o,n,e,_,_,d⟩,_⟩:=I.list h
 obtain⟨its',r',⟨o',n',e',_,_,d'⟩,_⟩:=I.list h'
 rw[e]at e';cases e'
 rw[d]at d'
 injection d' with d1 _
 have:its=its':=by simpa using congrArg Array.toList d1
 subst this
 exact r.inj r'
end
abbrev Cx.wish (X:Cx) (E:Value→Shared→Prop):Cx:={X with xe:=E}
abbrev Cx.nox (X:Cx):Cx:=X.wish λ_ _=>False
theorem Cx.Ok.wish {X:Cx} (ok:X.Ok) (E:Value→Shared→Prop):(X.wish E).Ok:=
 ⟨ok.mod,ok.kind,ok.glob,ok.blt,ok.above,ok.inj,ok.has,ok.cab,ok.hd,ok.frames,ok.stk,ok.exf,ok.bs,ok.bsz,ok.noex,ok.exfs,ok.funs,ok.frf⟩
theorem Cx.Ok.unwish {X:Cx} {E:Value→Shared→Prop} (ok:(X.wish E).Ok):X.Ok:=
 ⟨ok.mod,ok.kind,ok.glob,ok.blt,ok.above,ok.inj,ok.has,ok.cab,ok.hd,ok.frames,ok.stk,ok.exf,ok.bs,ok.bsz,ok.noex,ok.exfs,ok.funs,ok.frf⟩
section
variable {X:Cx} {pins:List (Addr×Obj)} {σ:St} {H:Hp} {s:Shared} {E:Value→Shared→Prop}
theorem Inv.wish (I:Inv X pins σ H s) (E:Value→Shared→Prop):Inv (X.wish E) pins σ H s:=⟨I.ok.wish E,I.os,I.bare,I.base,I.loc,I.cell,I.free,I.freeC,I.pin,I.hok,I.len⟩
theorem Inv.unwish (I:Inv (X.wish E) pins σ H s):Inv X pins σ H s:=⟨I.ok.unwish,I.os,I.bare,I.base,I.loc,I.cell,I.free,I.freeC,I.pin,I.hok,I.len⟩
theorem SP.unwish {D:Ends} {f:Flow} {s':Shared} (h:SP (X.wish E) pins D f s'):SP X pins D f s':=by
 cases f with
 |next=>obtain⟨σ',H',I,q⟩:=h;exact⟨σ',H',I.unwish,q⟩
 |brk=>obtain⟨σ',H',I,q⟩:=h;exact⟨σ',H',I.unwish,q⟩
 |cont=>obtain⟨σ',H',I,q⟩:=h;exact⟨σ',H',I.unwish,q⟩
 |ret u=>obtain⟨v,σ',H',I,r,q⟩:=h;exact⟨v,σ',H',I.unwish,r,q⟩
theorem PSs.nox {st:List Stmt} {t:TS} (h:PSs X.nox st t):PSs X st t:=λpins s σ H D I hw=>
 wpAny_mono (h pins s σ H D (I.wish _) hw) (λ_ _ q=>q.unwish) λ_ _ z=>False.elim z
end
section
variable {X:Cx} {st:Stmt} {rest:List Stmt} {t u:TS} {e:Expr} {te:TE} {pos:Pos}
def nC:TS:=λD σ H=>D.nx σ H
def AM (t u:TS):TS:=λD σ H=>t {D with nx:=u D} σ H
theorem aR:PSs X [] nC:=λ_ _ σ H _ I h=>wpAny_execs_nil ⟨σ,H,I,h⟩
theorem ae (h1:PS X st t) (h2:PSs X rest u):PSs X (st::rest) (AM t u):=by
 intro pins s σ H D I h
 refine wpAny_execs_cons (thn (h1 pins s σ H {D with nx:=u D} I h) λf s1 q=>?_)
 cases f with
 |next=>
  obtain⟨σ',H',I',q⟩:=q
  exact h2 pins s1 σ' H' D I' q
 |ret v=>exact q
 |brk=>exact q
 |cont=>exact q
theorem ah (h1:PS X st t):PSs X [st] t:=by
 intro pins s σ H D I h
 refine wpAny_execs_cons (thn (h1 pins s σ H D I h) λf s1 q=>?_)
 cases f with
 |next=>exact wpAny_execs_nil q
 |ret v=>exact q
 |brk=>exact q
 |cont=>exact q
theorem Inv.quiet {pins:List (Addr×Obj)} {σ:St} {H:Hp} {s:Shared} (I:Inv X pins σ H s):interactive X.env=false:=by simp[interactive,I.ok.kind]
def DP (te:TE):TS:=λD σ H=>te σ H λ_ H1=>D.nx σ H1
theorem aO (he:PE X e te) (hs:swapsWith e none pos.line X.env=pure false:=by rfl):PS X (.Expr e pos) (DP te):=by
 intro pins s σ H D I h
 exact wpAny_Expr_any (thn (he pins s σ H _ I h) λv s1 ⟨x,H1,I1,r1,q1⟩=>⟨σ,H1,I1,q1⟩) I.quiet hs
def tRet (te:TE):TS:=λD σ H=>te σ H D.rt
theorem aH (he:PE X e te):PS X (.Return (some e) pos) (tRet te):=by
 intro pins s σ H D I h
 exact wpAny_Return_some (thn (he pins s σ H _ I h) λv s1 ⟨x,H1,I1,r1,q1⟩=>⟨x,σ,H1,I1,r1,q1⟩)
def DK:TS:=λD _ H=>D.rt .non H
theorem ko:PS X (.Return none pos) DK:=λ_ _ σ H _ I h=>wpAny_Return_none ⟨.non,σ,H,I,rfl,h⟩
def CQ (c:TT) (t u:TS):TS:=λD σ H=>c σ H λb H1=>if b=true then t D σ H1 else u D σ H1
theorem bc {c:Expr} {a b:List Stmt} {tc:TT} (hc:PT X c tc) (ha:PSs X a t) (hb:PSs X b u):PS X (.If c a b pos) (CQ tc t u):=by
 intro pins s σ H D I h
 refine wpAny_If (thn (hc pins s σ H _ I h) λd s1 ⟨H1,I1,q1⟩=>?_)
 cases d with
 |true=>exact ha pins s1 σ H1 D I1 q1
 |false=>exact hb pins s1 σ H1 D I1 q1
end
abbrev TG:=V→St→Hp→(St→Hp→Prop)→Prop
abbrev TGs:=List V→St→Hp→(St→Hp→Prop)→Prop
def PG (X:Cx) (target:Expr) (t:TG):Prop:=
 ∀(pins:List (Addr×Obj)) (s:Shared) (σ:St) (H:Hp) (v:V) (u:Value) (Q:St→Hp→Prop),Inv X pins σ H s→RelV v u→t v σ H Q→
  wpAny (model X.prog X.w) X.A (assign target X.env u) (λ_ s'=>∃σ' H',Inv X pins σ' H' s'∧Q σ' H') X.xe s
def PGs (X:Cx) (ts:List Expr) (t:TGs):Prop:=
 ∀(pins:List (Addr×Obj)) (s:Shared) (σ:St) (H:Hp) (vs:List V) (us:List Value) (Q:St→Hp→Prop),Inv X pins σ H s→Vals vs us→t vs σ H Q→
  wpAny (model X.prog X.w) X.A (assignInOrder ((assignEach ts X.env).map (·.2)) us) (λ_ s'=>∃σ' H',Inv X pins σ' H' s'∧Q σ' H') X.xe s
abbrev DB:=V→V→V→Hp→(Hp→Prop)→Prop
def PSet (X:Cx) (t:DB):Prop:=
 ∀(pins:List (Addr×Obj)) (s:Shared) (σ:St) (H:Hp) (o i v:V) (ov iv u:Value) (Q:Hp→Prop),Inv X pins σ H s→RelV o ov→RelV i iv→RelV v u→t o i v H Q→
  wpAny (model X.prog X.w) X.A (setItem ov iv u) (λ_ s'=>∃H',Inv X pins σ H' s'∧Q H') X.xe s
abbrev TIp:=V→V→Hp→VK→Prop
def PIp (X:Cx) (op:Operator) (t:TIp):Prop:=
 ∀(pins:List (Addr×Obj)) (s:Shared) (σ:St) (H:Hp) (x y:V) (v u:Value) (Q:VK),Inv X pins σ H s→RelV x v→RelV y u→t x y H Q→
  wpAny (model X.prog X.w) X.A (inplaceOp op v u) (EP X pins σ Q) X.xe s
section
variable {X:Cx} {pos:Pos}
def kM (i:Nat):TG:=λv σ H Q=>Q (σ.set i (some v)) H
theorem bN {i:Nat} {x:Str} (hN:X.N.Nodup) (hi:X.N[i]?=some x) (hx:Loc X.env.scope x) (hf:X.fn x=true∨X.env.scope.names.lookup x=some .local:=by first|exact .inl rfl|exact .inr rfl|assumption):PG X (.Name x pos) (kM i):=by
 intro pins s σ H v u Q I r h
 exact wpAny_assign_Name (kf I hN hi hx r (λs' I'=>⟨_,H,I',h⟩) hf)
def gNil:TGs:=λvs σ H Q=>vs=[]∧Q σ H
def Eo (t:TG) (u:TGs):TGs:=λvs σ H Q=>∃v r,vs=v::r∧t v σ H λσ' H'=>u r σ' H' Q
theorem mW:PGs X [] gNil:=by
 intro pins s σ H vs us Q I r h
 obtain⟨e,h⟩:=h
 subst e
 cases r
 exact assignInOrder_nil ⟨σ,H,I,h⟩
theorem dq {e:Expr} {es:List Expr} {t:TG} {u:TGs} (h1:PG X e t) (h2:PGs X es u)
  (hs:(assignEach (e::es) X.env).map (·.2)=assign e X.env::(assignEach es X.env).map (·.2):=by rfl):PGs X (e::es) (Eo t u):=by
 intro pins s σ H vs us Q I r h
 obtain⟨v,vr,e1,h⟩:=h
 subst e1
 cases r with
 |cons r rr=>
  rw[hs]
  refine assignInOrder_cons (thn (h1 pins s σ H _ _ _ I r h) λ_ s1 hzz=>?_)
  obtain⟨σ1,H1,I1,q1⟩:=hzz
  exact h2 pins s1 σ1 H1 _ _ Q I1 rr q1
def gTup (K:PySem.W.Frag) (n:Nat) (t:TGs):TG:=λv σ H Q=>∃a xs,v= .ref a∧SqT K H a xs∧xs.length=n∧t xs σ H Q
theorem sF {es:List Expr} {k:Nat} {t:TGs} {n:Nat} (hc:X.calm=true) (h:PGs X es t)
  (hn:(assignEach es X.env).length=n:=by rfl) (hst:(assignEach es X.env).findIdx? (·.1)=none:=by rfl):PG X (.Tuple es k pos) (gTup X.K n t):=by
 intro pins s σ H v u Q I r hw
 obtain⟨a,xs,e1,hq,hl,hw⟩:=hw
 subst e1
 cases r
 obtain⟨its,rv,ht,hz⟩:=I.tuple hq
 refine assign_Tuple_tuple (I.ok.hd hc) ht (by simp[hn,←hl,rv.length]) hst λh' hx=>?_
 have I1:Inv X pins σ H {s with heap:=h'}:=I.kept (t':=s.toks) λb o e=>hx b o (Qw (Heap.lt_size e)) e
 exact h pins _ σ H xs _ Q I1 (by simpa using rv) hw
def gSub (to ti:TE) (t:DB):TG:=λv σ H Q=>to σ H λo H1=>ti σ H1 λi H2=>t o i v H2 λH3=>Q σ H3
theorem vm {o i:Expr} {to ti:TE} {t:DB} (ho:PE X o to) (hi:PE X i ti) (hs:PSet X t)
  (ha:∀v,assign (.Subscript o i pos) X.env v=(do
   let ov←holding [v] (eval o X.env)
   let iv←holding [v,ov] (eval i X.env)
   standAt pos
   holding [v,ov,iv] (setItem ov iv v)
   release [v,ov,iv] []):=by intro _;rfl):PG X (.Subscript o i pos) (gSub to ti t):=by
 intro pins s σ H v u Q I r h
 rw[ha]
 refine wpAny_bind (wpAny_holding (thn (ho pins s σ H _ I h) λov s1 hzz=>?_))
 obtain⟨x,H1,I1,r1,q1⟩:=hzz
 refine wpAny_bind (wpAny_holding (thn (hi pins s1 σ H1 _ I1 q1) λiv s2 hzz=>?_))
 obtain⟨y,H2,I2,r2,q2⟩:=hzz
 refine wpAny_bind (wpAny_standAt (wpAny_bind (wpAny_holding (thn (hs pins s2 σ H2 x y v ov iv u _ I2 r1 r2 r q2) λ_ s3 hzz=>?_))))
 obtain⟨H3,I3,q3⟩:=hzz
 exact wpAny_release ⟨σ,H3,I3,q3⟩
def AR (te:TE) (g:TG):TS:=λD σ H=>te σ H λx H1=>g x σ H1 D.nx
theorem vk {tg e:Expr} {te:TE} {g:TG} (he:PE X e te) (hg:PG X tg g) (hs:swapsWithSole [tg] e pos.line X.env=pure false:=by rfl) (hw:swappedStores [tg] e X.env=pure none:=by rfl)
  (h1:(assignEach [tg] X.env).map (·.2)=[assign tg X.env]:=by rfl):PS X (.Assign [tg] e pos) (AR te g):=by
 intro pins s σ H D I h
 refine wpAny_Assign_stores (thn (he pins s σ H _ I h) λv s1 hzz=>?_) hs hw
 obtain⟨x,H1,I1,r1,q1⟩:=hzz
 rw[h1]
 exact thn (hg pins s1 σ H1 x v _ I1 r1 q1) λ_ s2 q=>q
theorem aF {i:Nat} {x:Str} {e:Expr} {te:TE} {pos':Pos} (hN:X.N.Nodup) (hi:X.N[i]?=some x) (hx:Loc X.env.scope x) (he:PE X e te) (hs:swapsWith e (some (.Name x pos')) pos.line X.env=pure false:=by rfl) (hf:X.fn x=true∨X.env.scope.names.lookup x=some .local:=by first|exact .inl rfl|exact .inr rfl|assumption):
  PS X (.Assign [.Name x pos'] e pos) (AR te (kM i)):=by
 intro pins s σ H D I h
 refine wpAny_Assign_Name (thn (he pins s σ H _ I h) λv s1 hzz=>?_) hs
 obtain⟨y,H1,I1,r1,q1⟩:=hzz
 exact kf I1 hN hi hx r1 (λs2 I2=>⟨_,H1,I2,q1⟩) hf
def tAug (i:Nat) (te:TE) (ti:TIp):TS:=λD σ H=>∃x,σ[i]?=some (some x)∧te σ H λy H1=>ti x y H1 λz H2=>D.nx (σ.set i (some z)) H2
theorem yP {i:Nat} {x:Str} {e:Expr} {te:TE} {op:Operator} {ti:TIp} {pos':Pos} (hN:X.N.Nodup) (hi:X.N[i]?=some x) (hx:Loc X.env.scope x) (he:PE X e te) (ho:PIp X op ti) (hf:X.fn x=true∨X.env.scope.names.lookup x=some .local:=by first|exact .inl rfl|exact .inr rfl|assumption):
  PS X (.AugAssign (.Name x pos') op e pos) (tAug i te ti):=by
 intro pins s σ H D I h
 obtain⟨v,e1,h⟩:=h
 obtain⟨m,hn,hl⟩:=I.loc
 have vis:Vis X.env.scope x:=by rcases hx with k|k;exact .inl k;exact .inr (.inl k)
 obtain⟨u,r,l⟩:=hl i x v hi e1 vis
 refine wpAny_AugAssign_Name ?_
 have go:wpAny (model X.prog X.w) X.A (eval e X.env) (λw s₂=>wpAny (model X.prog X.w) X.A (inplaceOp op u w) (λr s₃=>wpAny (model X.prog X.w) X.A (storeName X.env x r) (λ_=>SP X pins D .next) X.xe s₃) X.xe s₂) X.xe s:=by
  refine thn (he pins s σ H _ I h) λw s1 hzz=>?_
  obtain⟨y,H1,I1,r1,q1⟩:=hzz
  refine thn (ho pins s1 σ H1 v y u w _ I1 r r1 q1) λz s2 hzz=>?_
  obtain⟨zv,H2,I2,r2,q2⟩:=hzz
  exact kf I2 hN hi hx r2 (λs3 I3=>⟨_,H2,I3,q2⟩) hf
 rcases l with⟨hk,hm⟩|⟨hk,c,hc,hcell⟩
 ·exact wpAny_loadName_local I.ok.kind hk hn hm go
 ·rcases hk with hk|hk
  ·exact wpAny_loadName_cell I.ok.kind hk hc hcell go
  ·rcases hx with k|k
   ·have:X.env.scope.names.lookup x=some .free:=hk
    rw[k]at this;cases this
   ·have:X.env.scope.names.lookup x=some .free:=hk
    rw[k]at this;cases this
def ipI (f:Int→Int→Int):TIp:=λx y H Q=>∃i j,x= .int i∧y= .int j∧Q (.int (f i j)) H
theorem zn:PIp X .Add (ipI λi j=>i+j):=by
 intro pins s σ H x y v u Q I r1 r2 h
 obtain⟨i,j,e1,e2,q⟩:=h
 subst e1;subst e2
 obtain⟨t,rfl⟩:=r1
 obtain⟨t',rfl⟩:=r2
 exact iadd_int ⟨.int _,H,I.tok _,⟨_,rfl⟩,q⟩
end
section
variable {X:Cx} {pos:Pos}
def CO (c:TT) (tb:TS):TS:=λD σ H=>∃W:Nat→St→Hp→Prop,(∃m,W m σ H)∧∀m σ H,W m σ H→
 c σ H λb H1=>if b=true then ∃N:St→Hp→Prop,(∀σ' H',N σ' H'→∃m',m'<m∧W m' σ' H')∧tb {D with nx:=N,ct:=N,bk:=D.nx} σ H1 else D.nx σ H1
theorem oH {c:Expr} {body:List Stmt} {tc:TT} {tb:TS} (hp:PassesOwn (model X.prog X.w) X.A X.env X.xe) (hc:PT X c tc) (hb:PSs X body tb):PS X (.While c body [] pos) (CO tc tb):=by
 intro pins s σ H D I h
 obtain⟨W,⟨m0,w0⟩,turn⟩:=h
 refine wpAny_While (codeAny_whileLoop (λn s'=>∃σ' H',Inv X pins σ' H' s'∧W n σ' H') ?_ m0 ⟨σ,H,I,w0⟩)
 rintro n s1 ⟨σ1,H1,I1,w1⟩
 refine wpAny_passesOwn hp (thn (hc pins s1 σ1 H1 _ I1 (turn n σ1 H1 w1)) λb s2 ⟨H2,I2,q2⟩=>?_)
 cases b with
 |true=>
  obtain⟨N,hN,q2⟩:=q2
  rw[if_pos rfl]
  refine wpAny_passesOwn hp (thn (hb pins s2 σ1 H2 _ I2 q2) λf s3 q3=>?_)
  cases f with
  |next=>
   obtain⟨σ3,H3,I3,n3⟩:=q3
   obtain⟨m',hm,w3⟩:=hN σ3 H3 n3
   exact⟨m',hm,σ3,H3,I3,w3⟩
  |cont=>
   obtain⟨σ3,H3,I3,n3⟩:=q3
   obtain⟨m',hm,w3⟩:=hN σ3 H3 n3
   exact⟨m',hm,σ3,H3,I3,w3⟩
  |brk=>exact q3
  |ret v=>exact q3
 |false=>
  rw[if_neg Qc]
  exact wpAny_execs_nil ⟨σ1,H2,I2,q2⟩
end
structure It where
 go:Nat→Hp→Prop
 yld:Nat→Hp→V→Hp→Prop
 stop:Nat→Hp→Prop
def hV (X:Cx) (pins:List (Addr×Obj)) (H:Hp) (b:Addr):Prop:=
 H b=none∧b≠X.env.locals∧b∉X.fs∧(b∈X.ex∨X.s₀.heap.objs.size≤b)∧(∀x c,X.env.cells.lookup x=some c→c≠b)∧∀p∈X.pn++pins,p.1≠b
theorem Inv.fpOk {X:Cx} {pins:List (Addr×Obj)} {σ:St} {H H':Hp} {s:Shared} {b:Addr} (I:Inv X pins σ H s) (hb:s.heap.objs.size≤b) (hn:H' b=none):hV X pins H' b:=by
 refine⟨hn,Xz (Qz I.lt hb),I.nofs hb,.inr (Z2 I.sz hb),λx c e z=>?_,λp hp z=>?_⟩
 ·obtain⟨v,q⟩:=I.cell x c e
  exact absurd (Qz q.lt (by rw[z];exact hb)) (Zr _)
 ·exact absurd (Qz (Heap.lt_size (I.pin p hp).1) (by rw[z];exact hb)) (Zr _)
structure vS (P:Program) (w:World) (K:PySem.W.Frag) (tg:Expr) (J:It) (fp:List Addr) (it:Addr) (tn:Nat→Heap→Prop):Prop where
 mem:it∈fp
 obj:∀i h,tn i h→∀b∈fp,∃o,h.get? b=some o∧∀v,o.data≠ .cell v
 keep:∀i h h',tn i h→(∀b∈fp,∀o,h.get? b=some o→h'.get? b=some o)→tn i h'
 item:∀(X:Cx),X.prog=P→X.w=w→X.K=K→X.calm=true→∀(i:Nat) (pins:List (Addr×Obj)) (s:Shared) (σ:St) (H:Hp) (E:Value→Shared→Prop),Inv X pins σ H s→(∀b∈fp,hV X pins H b)→tn i s.heap→J.go i H→
  wpAny (model P w) X.A (pyNext (.ref it)) (λr s1=>∃u,r=some u∧
   wpAny (model P w) X.A (letOwnedTupleGo tg (.ref it) u) (λ_ s2=>∃x H',Inv X pins σ H' s2∧RelV x u∧J.yld i H x H'∧tn (i+1) s2.heap∧∀b∈fp,H' b=none) E s1) E s
 done:∀(X:Cx),X.prog=P→X.w=w→X.K=K→X.calm=true→∀(i:Nat) (pins:List (Addr×Obj)) (s:Shared) (σ:St) (H:Hp) (E:Value→Shared→Prop),Inv X pins σ H s→(∀b∈fp,hV X pins H b)→tn i s.heap→J.stop i H→
  wpAny (model P w) X.A (pyNext (.ref it)) (λr s1=>r=none∧Inv X pins σ H s1) E s
 self:∀(A:Around) (i:Nat) (s:Shared) (Q:Value→Shared→Prop) (E:Value→Shared→Prop),tn i s.heap→Q (.ref it) s→wpAny (model P w) A (pyIter (.ref it)) Q E s
abbrev TI:=St→Hp→(It→Hp→Prop)→Prop
def PIE (X:Cx) (pins:List (Addr×Obj)) (σ:St) (tg:Expr) (R:It→Hp→Prop) (itv:Value) (s2:Shared):Prop:=
 ∃(it:Addr) (fp:List Addr) (tn:Nat→Heap→Prop) (J:It) (H':Hp),itv= .ref it∧Inv X pins σ H' s2∧vS X.prog X.w X.K tg J fp it tn∧tn 0 s2.heap∧(∀b∈fp,hV X pins H' b)∧R J H'
def PI (X:Cx) (tg iter:Expr) (wi:TI):Prop:=
 ∀(pins:List (Addr×Obj)) (s:Shared) (σ:St) (H:Hp) (R:It→Hp→Prop),Inv X pins σ H s→wi σ H R→
  wpAny (model X.prog X.w) X.A (eval iter X.env) (λv s1=>wpAny (model X.prog X.w) X.A (pyIter v) (PIE X pins σ tg R) X.xe s1) X.xe s
theorem wG {M:Model} {A:Around} {E:Value→Shared→Prop} {s:Shared} {tg:Expr} {it:Addr} {u:Value} {o:Obj} {n:String} {vs:Array Value} {Q:Unit→Shared→Prop} (ho:s.heap.get? it=some o) (hc:o.cls= .type n) (hd:o.data= .fields vs)
  (hn:["enumerate","zip","dict_itemiterator","dict_reverseitemiterator","odict_iterator","itertools.zip_longest","itertools.pairwise"].contains n=false) (hQ:Q () s):wpAny M A (letOwnedTupleGo tg (.ref it) u) Q E s:=by
 unfold letOwnedTupleGo
 cases tg<;>first
  |exact wpAny_pure hQ
  |(cases u<;>first
    |exact wpAny_pure hQ
    |(refine wpAny_bind (wpAny_load ho ?_)
      rw[hc,hd]
      show wpAny M A (if(["enumerate","zip","dict_itemiterator","dict_reverseitemiterator","odict_iterator","itertools.zip_longest","itertools.pairwise"].contains n&&vs[0]?==some (rawInt _))=true then _ else _) Q E s
      rw[if_neg (by intro h;rw[hn,Bool.false_and]at h;cases h)]
      exact wpAny_pure hQ))
def Itl (K:PySem.W.Frag) (a:Addr):It:=
 ⟨λi H=>∃xs x,SqL K H a xs∧xs[i]?=some x,λi H x H'=>H'=H∧∀xs,SqL K H a xs→xs[i]?=some x,λi H=>∃xs,SqL K H a xs∧xs.length≤i⟩
def Itr (lo:Int) (n:Nat):It:=⟨λi _=>i<n,λi H x H'=>H'=H∧x= .int (lo+i),λi _=>n≤i⟩
theorem xc {P:Program} {w:World} {K:PySem.W.Frag} {tg:Expr} (a it:Addr):vS P w K tg (Itl K a) [it] it (λi h=>h.IsListIter it a i) where
 mem:=by simp
 obj:=λi h st b hb=>by
  have e:b=it:=by simpa using hb
  subst e
  obtain⟨o,e,c,d⟩:=st
  exact⟨o,e,λv z=>by rw[d]at z;cases z⟩
 keep:=λi h h' st k=>st.at λo e=>k it (by simp) o e
 item:=by
  intro X hP hw hK hc i pins s σ H E I hf st hg
  subst hP hw hK
  obtain⟨xs,x,hq,hx⟩:=hg
  obtain⟨its,rv,p,hz⟩:=I.list hq
  obtain⟨u,hu,ru⟩:=rv.get hx
  obtain⟨f0,f1,f2,f3,f4,f5⟩:=hf it (by simp)
  refine wpAny_pyNext_list_item st p.isList (x:=u) (by simpa using hu) λh' st' sb=>?_
  have I1:Inv X pins σ H {s with heap:=h'}:=I.turned (t':=s.toks) (λb o hb e=>(sb.2 b hb).trans e) f0 f1 f3 f4 f5
  obtain⟨o,e,c,d⟩:=id st'
  exact⟨u,rfl,wG (s:={s with heap:=h'}) e c d (by decide) ⟨x,H,I1,ru,⟨rfl,λys hy=>by rw[I.list_inj hy hq];exact hx⟩,st',λb hb=>(hf b hb).1⟩⟩
 done:=by
  intro X hP hw hK hc i pins s σ H E I hf st hg
  subst hP hw hK
  obtain⟨xs,hq,hx⟩:=hg
  obtain⟨its,rv,p,hz⟩:=I.list hq
  obtain⟨f0,f1,f2,f3,f4,f5⟩:=hf it (by simp)
  have hl:=rv.length
  exact wpAny_pyNext_list_end (I.ok.hd hc) st p.isList (by simp;omega) λh' eb=>⟨rfl,I.turned (t':=s.toks) (λb o hb e=>eb b o hb e) f0 f1 f3 f4 f5⟩
 self:=λ_ _ _ _ _ st h=>wpAny_pyIter_listiter st h
theorem u8 {P:Program} {w:World} {K:PySem.W.Frag} {tg:Expr} (it:Addr) (lo:Int) (n:Nat):vS P w K tg (Itr lo n) [it] it (λi h=>IsRangeIter h it (lo+(i:Nat)*1) ((n:Int)-(i:Nat)) 1) where
 mem:=by simp
 obj:=λi h st b hb=>by
  have e:b=it:=by simpa using hb
  subst e
  exact⟨_,st,λv z=>by
   have z':Data.fields _=Data.cell v:=z
   cases z'⟩
 keep:=λi h h' st k=>k it (by simp) _ st
 item:=by
  intro X hP hw hK hc i pins s σ H E I hf st hg
  subst hP hw hK
  obtain⟨f0,f1,f2,f3,f4,f5⟩:=hf it (by simp)
  have W:=Walks.range (prog:=X.prog) (w:=X.w) (I.ok.hd hc) it lo 1 n
  refine W.item i s _ _ hg st λv h' tk hv st' kk=>?_
  obtain⟨t,rfl⟩:=hv
  have I1:Inv X pins σ H {s with heap:=h',toks:=tk}:=I.turned (λb o hb e=>kk b o (by simpa using hb) e) f0 f1 f3 f4 f5
  refine⟨_,rfl,wG (s:={s with heap:=h',toks:=tk}) (n:="range_iterator") st' rfl rfl (by decide) ⟨.int (lo+i),H,I1,⟨t,?_⟩,⟨rfl,rfl⟩,st',λb hb=>(hf b hb).1⟩⟩
  rw[Int.mul_one]
 done:=by
  intro X hP hw hK hc i pins s σ H E I hf st hg
  subst hP hw hK
  obtain⟨f0,f1,f2,f3,f4,f5⟩:=hf it (by simp)
  exact wpAny_pyNext_range_end (I.ok.hd hc) st (by have:n≤i:=hg;omega) λh' eb=>⟨rfl,I.turned (t':=s.toks) (λb o hb e=>eb b o hb e) f0 f1 f3 f4 f5⟩
 self:=λ_ _ _ _ _ st h=>wpAny_pyIter_rangeiter st h
end L2
namespace L2
open PySem PySem.Spec PyProof.Rows
section
variable {X:Cx} {tg:Expr}
def Ej (K:PySem.W.Frag) (tl:TE):TI:=λσ H R=>tl σ H λx H1=>∃a,x= .ref a∧(∃xs,SqL K H1 a xs)∧R (Itl K a) H1
theorem cm {l:Expr} {tl:TE} (hl:PE X l tl):PI X tg l (Ej X.K tl):=by
 intro pins s σ H R I h
 refine thn (hl pins s σ H _ I h) λv s1 hzz=>?_
 obtain⟨x,H1,I1,r1,q1⟩:=hzz
 obtain⟨a,e,⟨xs,hq⟩,q⟩:=q1
 subst e
 cases r1
 obtain⟨its,rv,p,hz⟩:=I1.list hq
 refine wpAny_pyIter_list p.isList ?_
 refine⟨s1.heap.objs.size,[s1.heap.objs.size],_,_,H1,rfl,I1.kept (t':=s1.toks) λb o e=>Heap.get?_push_of_some _ e,xc a _,⟨_,Heap.get?_push_size _ rfl,rfl,rfl⟩,λb hb=>?_,q⟩
 have e:b=s1.heap.objs.size:=by simpa using hb
 subst e
 exact I1.fpOk (Q6 _) (I1.hok.fresh (Q6 _))
theorem yK {pins:List (Addr×Obj)} {σ:St} {H:Hp} {s:Shared} {R:It→Hp→Prop} {E:Value→Shared→Prop} {lo hi:Int} {t u v:Tok} {tk:Nat} (I:Inv X pins σ H s) (h1: -(2^62)≤lo) (h2:lo<2^62) (h3: -(2^62)≤hi) (h4:hi<2^62)
  (q:R (Itr lo (hi-lo).toNat) H):wpAny (model X.prog X.w) X.A (pyIter (.ref s.heap.objs.size)) (PIE X pins σ tg R) E {s with heap:=s.heap.push {cls:= .type "range",data:= .fields #[.int lo t,.int hi u,.int 1 v]},toks:=tk}:=by
 refine wpAny_pyIter_range (IsRange.new ..) (small_one h1 h2 h3 h4) ?_
 have I1:Inv X pins σ H {s with heap:=s.heap.push {cls:= .type "range",data:= .fields #[.int lo t,.int hi u,.int 1 v]},toks:=tk}:=I.kept λb o e=>Heap.get?_push_of_some _ e
 refine⟨(s.heap.push {cls:= .type "range",data:= .fields #[.int lo t,.int hi u,.int 1 v]}).objs.size,[(s.heap.push {cls:= .type "range",data:= .fields #[.int lo t,.int hi u,.int 1 v]}).objs.size],_,_,H,rfl,
  I1.kept (t':=tk) λb o e=>Heap.get?_push_of_some _ e,u8 _ lo (hi-lo).toNat,?_,λb hb=>?_,q⟩
 ·have e1:lo+((0:Nat):Int)*1=lo:=by simp
  have e2:(((hi-lo).toNat:Nat):Int)-((0:Nat):Int)=Builtin.Range.rangeSize lo hi 1:=by rw[rangeSize_one];split<;>omega
  show IsRangeIter _ _ (lo+((0:Nat):Int)*1) ((((hi-lo).toNat:Nat):Int)-((0:Nat):Int)) 1
  rw[e1,e2]
  exact Heap.get?_push_size _ rfl
 ·have e:b=(s.heap.push {cls:= .type "range",data:= .fields #[.int lo t,.int hi u,.int 1 v]}).objs.size:=by simpa using hb
  subst e
  exact I1.fpOk (Q6 _) (I1.hok.fresh (Q6 _))
def Ei (ta:TA):TI:=λσ H R=>ta σ H λvs H1=>∃j:Int,vs=[.int j]∧-(2^62)≤j∧j<2^62∧R (Itr 0 j.toNat) H1
theorem lL {a:Expr} {ta:TA} {p pos:Pos} (hg:Gl X "range") (hm:X.mg "range"=none) (ha:PA X [a] ta) (hs:starEach [a] X.env=[(false,eval a X.env)]:=by rfl):PI X tg (.Call (.Name "range" p) [a] [] pos) (Ei ta):=by
 intro pins s σ H R I h
 refine Call_ (lV I hg hm boot_range (PyProof.Rows.callWith_type1 (thn (ha pos pins s σ H _ I h) λus s1 hzz=>?_) hs rfl))
 obtain⟨vs,H1,I1,r1,q1⟩:=hzz
 obtain⟨j,e,q1,q2,q⟩:=q1
 subst e
 cases r1 with
 |cons r rr=>
  cases rr
  obtain⟨t,rfl⟩:=r
  exact call_range_1 (yK I1 (by omega) (by omega) q1 q2 (by simpa using q))
def tFor (wi:TI) (g:TG) (tb:TS):TS:=λD σ H=>wi σ H λJ H1=>∃W:Nat→Nat→St→Hp→Prop,(∃m,W 0 m σ H1)∧∀i m σ H,W i m σ H→
 (J.stop i H∧D.nx σ H)∨(J.go i H∧∃N:St→Hp→Prop,(∀σ' H',N σ' H'→∃m',m'<m∧W (i+1) m' σ' H')∧∀x H',J.yld i H x H'→g x σ H' λσ2 H2=>tb {D with nx:=N,ct:=N,bk:=D.nx} σ2 H2)
def oI (fp:List Addr) (h:Heap):List (Addr×Obj):=fp.filterMap λb=>(h.get? b).map λo=>(b,o)
theorem gM {fp:List Addr} {h:Heap} {b:Addr} {o:Obj} (hb:b∈fp) (e:h.get? b=some o):(b,o)∈oI fp h:=List.mem_filterMap.mpr ⟨b,hb,by rw[e];rfl⟩
theorem xu {fp:List Addr} {h:Heap} {p:Addr×Obj} (hp:p∈oI fp h):p.1∈fp∧h.get? p.1=some p.2:=by
 obtain⟨b,hb,e⟩:=List.mem_filterMap.mp hp
 cases q:h.get? b with
 |none=>rw[q]at e;cases e
 |some o=>
  rw[q]at e
  have e':(b,o)=p:=Option.some.inj e
  subst e'
  exact⟨hb,q⟩
theorem Inv.pinned {pins:List (Addr×Obj)} {σ:St} {H:Hp} {s:Shared} {fp:List Addr} (I:Inv X pins σ H s) (hf:∀b∈fp,hV X pins H b) (ho:∀b∈fp,∃o,s.heap.get? b=some o∧∀v,o.data≠ .cell v):Inv X (pins++oI fp s.heap) σ H s:=
 I.pins_of λp hp=>(Q7.mp hp).elim (λz=>I.pin p (Qu _ z)) λz=>by
  obtain⟨hb,e⟩:=xu z
  obtain⟨f0,f1,f2,_⟩:=hf p.1 hb
  obtain⟨o,e',d⟩:=ho p.1 hb
  rw[e]at e';cases e'
  exact⟨e,f0,f1,f2,d⟩
theorem Inv.unpinned {pins pl:List (Addr×Obj)} {σ:St} {H:Hp} {s:Shared} (I:Inv X (pins++pl) σ H s):Inv X pins σ H s:=I.pins_of λp hp=>I.pin p (Qu _ (Z0 _ hp))
theorem fE {iter:Expr} {body:List Stmt} {wi:TI} {g:TG} {tb:TS} {pos:Pos} (hp:PassesOwn (model X.prog X.w) X.A X.env X.xe) (hc:X.calm=true) (hi:PI X tg iter wi) (hg:PG X tg g) (hb:PSs X body tb)
  (hs:∀x,foldedSetIterable iter X.env x=pure x:=by intro _;rfl):PS X (.For tg iter body [] pos) (tFor wi g tb):=by
 intro pins s σ H D I h
 refine wpAny_For (thn (hi pins s σ H _ I h) λv s1 h1=>thn h1 λitv s2 h2=>?_) hs
 obtain⟨it,fp,tn,J,H2,e,I2,T,st2,f2,W,⟨m0,w0⟩,turn⟩:=h2
 subst e
 have stat:∀{H':Hp},(∀b∈fp,H' b=none)→∀b∈fp,hV X pins H' b:=λhn b hb=>⟨hn b hb,(f2 b hb).2⟩
 refine codeAny_forLoop_any (λn s'=>∃i σ' H',Inv X pins σ' H' s'∧tn i s'.heap∧(∀b∈fp,H' b=none)∧W i n σ' H') ?_ m0 ⟨0,σ,H2,I2,st2,λb hb=>(f2 b hb).1,w0⟩
 rintro n s3 ⟨i,σ3,H3,I3,st3,fr3,w3⟩
 rcases turn i n σ3 H3 w3 with⟨stop,qn⟩|⟨go,N,hN,step⟩
 ·refine wpAny_passesOwn hp (thn (T.done X rfl rfl rfl hc i pins s3 σ3 H3 X.xe I3 (stat fr3) st3 stop) λr s4 ⟨hr,I4⟩=>?_)
  subst hr
  exact wpAny_execs_nil ⟨σ3,H3,I4,qn⟩
 ·refine wpAny_passesOwn hp (thn (T.item X rfl rfl rfl hc i pins s3 σ3 H3 X.xe I3 (stat fr3) st3 go) λr s4 ⟨u,hr,h4⟩=>?_)
  subst hr
  refine wpAny_passesOwn hp (thn h4 λ_ s5 hzz=>?_)
  obtain⟨x,H5,I5,r5,y5,st5,fr5⟩:=hzz
  have I5':=I5.pinned (stat fr5) (T.obj _ _ st5)
  refine wpAny_passesOwn hp (thn (hg _ s5 σ3 H5 x u _ I5' r5 (step x H5 y5)) λ_ s6 hzz=>?_)
  obtain⟨σ6,H6,I6,q6⟩:=hzz
  refine wpAny_passesOwn hp (thn (hb _ s6 σ6 H6 _ I6 q6) λf s7 q7=>?_)
  have again:∀{σ7:St} {H7:Hp},Inv X (pins++oI fp s5.heap) σ7 H7 s7→N σ7 H7→∃m,m<n∧∃i σ' H',Inv X pins σ' H' s7∧tn i s7.heap∧(∀b∈fp,H' b=none)∧W i m σ' H':=λ{σ7 H7} I7 n7=>by
   obtain⟨m',hm,w7⟩:=hN σ7 H7 n7
   refine⟨m',hm,i+1,σ7,H7,I7.unpinned,T.keep _ _ _ st5 λb hb o e=>(I7.pin (b,o) (Qu _ (Qu _ (gM hb e)))).1,λb hb=>?_,w7⟩
   obtain⟨o,e,d⟩:=T.obj _ _ st5 b hb
   exact(I7.pin (b,o) (Qu _ (Qu _ (gM hb e)))).2.1
  cases f with
  |next=>obtain⟨σ7,H7,I7,n7⟩:=q7;exact again I7 n7
  |cont=>obtain⟨σ7,H7,I7,n7⟩:=q7;exact again I7 n7
  |brk=>obtain⟨σ7,H7,I7,q7⟩:=q7;exact⟨σ7,H7,I7.unpinned,q7⟩
  |ret v=>obtain⟨x7,σ7,H7,I7,r7,q7⟩:=q7;exact⟨x7,σ7,H7,I7.unpinned,r7,q7⟩
end
theorem zC {K:PySem.W.Frag} {a:Addr} {xs:List V} {g:TG} {tb:TS} {D:Ends} {σ:St} {H:Hp} (Pv:Nat→St→Hp→Prop) (h0:Pv 0 σ H) (hl:∀i σ H,i≤xs.length→Pv i σ H→SqL K H a xs)
  (hs:∀i x σ H,xs[i]?=some x→Pv i σ H→g x σ H λσ2 H2=>tb {D with nx:=Pv (i+1),ct:=Pv (i+1),bk:=D.nx} σ2 H2) (hd:∀σ H,Pv xs.length σ H→D.nx σ H):
  ∃W:Nat→Nat→St→Hp→Prop,(∃m,W 0 m σ H)∧∀i m σ H,W i m σ H→
   ((Itl K a).stop i H∧D.nx σ H)∨((Itl K a).go i H∧∃N:St→Hp→Prop,(∀σ' H',N σ' H'→∃m',m'<m∧W (i+1) m' σ' H')∧∀x H',(Itl K a).yld i H x H'→g x σ H' λσ2 H2=>tb {D with nx:=N,ct:=N,bk:=D.nx} σ2 H2):=by
 refine⟨λi m σ H=>m=xs.length-i∧i≤xs.length∧Pv i σ H,⟨xs.length,by simp,Qh _,h0⟩,?_⟩
 rintro i m σ H ⟨rfl,hi,p⟩
 have q:=hl i σ H hi p
 by_cases hlt:i<xs.length
 ·refine .inr ⟨⟨xs,xs[i],q,by simp[hlt]⟩,Pv (i+1),λσ' H' p'=>⟨xs.length-(i+1),by omega,rfl,hlt,p'⟩,λx H' y=>?_⟩
  obtain⟨e,y⟩:=y
  subst e
  exact hs i x σ _ (y xs q) p
 ·have e:i=xs.length:=by omega
  subst e
  exact .inl ⟨⟨xs,q,Q6 _⟩,hd σ H p⟩
theorem xQ {lo:Int} {n:Nat} {g:TG} {tb:TS} {D:Ends} {σ:St} {H:Hp} (Pv:Nat→St→Hp→Prop) (h0:Pv 0 σ H)
  (hs:∀i σ H,i<n→Pv i σ H→g (.int (lo+i)) σ H λσ2 H2=>tb {D with nx:=Pv (i+1),ct:=Pv (i+1),bk:=D.nx} σ2 H2) (hd:∀σ H,Pv n σ H→D.nx σ H):
  ∃W:Nat→Nat→St→Hp→Prop,(∃m,W 0 m σ H)∧∀i m σ H,W i m σ H→
   ((Itr lo n).stop i H∧D.nx σ H)∨((Itr lo n).go i H∧∃N:St→Hp→Prop,(∀σ' H',N σ' H'→∃m',m'<m∧W (i+1) m' σ' H')∧∀x H',(Itr lo n).yld i H x H'→g x σ H' λσ2 H2=>tb {D with nx:=N,ct:=N,bk:=D.nx} σ2 H2):=by
 refine⟨λi m σ H=>m=n-i∧i≤n∧Pv i σ H,⟨n,by simp,Qh _,h0⟩,?_⟩
 rintro i m σ H ⟨rfl,hi,p⟩
 by_cases hlt:i<n
 ·refine .inr ⟨hlt,Pv (i+1),λσ' H' p'=>⟨n-(i+1),by omega,rfl,hlt,p'⟩,λx H' y=>?_⟩
  obtain⟨e,y⟩:=y
  subst e y
  exact hs i σ _ hlt p
 ·have e:i=n:=by omega
  subst e
  exact .inl ⟨Q6 _,hd σ H p⟩
end L2
namespace L2
open PySem PySem.Spec PyProof.Rows
abbrev R2:=V→V→Hp→VK→Prop
def OpR (X:Cx) (f:Value→Value→Sem Value) (r:R2):Prop:=
 ∀(pins:List (Addr×Obj)) (s:Shared) (σ:St) (H:Hp) (x y:V) (v u:Value) (Q:VK),Inv X pins σ H s→RelV x v→RelV y u→r x y H Q→
  wpAny (model X.prog X.w) X.A (f v u) (EP X pins σ Q) X.xe s
def UnR (X:Cx) (f:Value→Sem Value) (r:V→Hp→VK→Prop):Prop:=
 ∀(pins:List (Addr×Obj)) (s:Shared) (σ:St) (H:Hp) (x:V) (v:Value) (Q:VK),Inv X pins σ H s→RelV x v→r x H Q→
  wpAny (model X.prog X.w) X.A (f v) (EP X pins σ Q) X.xe s
def eJ (X:Cx) (f:Value) (r:List V→Hp→VK→Prop):Prop:=
 ∀(pins:List (Addr×Obj)) (s:Shared) (σ:St) (H:Hp) (xs:List V) (us:List Value) (Q:VK),Inv X pins σ H s→Vals xs us→r xs H Q→
  wpAny (model X.prog X.w) X.A (call f us) (EP X pins σ Q) X.xe s
def tOp (r:R2) (ta tb:TE):TE:=λσ H Q=>ta σ H λx H1=>tb σ H1 λy H2=>r x y H2 Q
def tUn (r:V→Hp→VK→Prop) (ta:TE):TE:=λσ H Q=>ta σ H λx H1=>r x H1 Q
def rI (C:Int→Int→Prop) (g:Int→Int→V):R2:=λx y H Q=>∃i j,x= .int i∧y= .int j∧C i j∧Q (g i j) H
def rI0 (g:Int→Int→V):R2:=λx y H Q=>∃i j,x= .int i∧y= .int j∧Q (g i j) H
def rU (g:Int→V):V→Hp→VK→Prop:=λx H Q=>∃i,x= .int i∧Q (g i) H
section
variable {X:Cx} {a b c:Expr} {ta tb tc:TE} {pos:Pos}
theorem Dz (ha:PE X a ta) (hb:PE X b tb) {pins:List (Addr×Obj)} {s:Shared} {σ:St} {H:Hp} {R:V→V→Hp→Prop} (I:Inv X pins σ H s)
  (h:ta σ H λx H1=>tb σ H1 λy H2=>R x y H2) {Q:Value→Shared→Prop} {f:Value→Value→Sem Value}
  (hf:∀v u s2 x y H2,Inv X pins σ H2 s2→RelV x v→RelV y u→R x y H2→wpAny (model X.prog X.w) X.A (f v u) Q X.xe s2):
  wpAny (model X.prog X.w) X.A (eval a X.env) (λv s₁=>wpAny (model X.prog X.w) X.A (eval b X.env) (λu s₂=>wpAny (model X.prog X.w) X.A (f v u) Q X.xe s₂) X.xe s₁) X.xe s:=by
 refine thn (ha pins s σ H _ I h) λv s1 hzz=>?_
 obtain⟨x,H1,I1,r1,q1⟩:=hzz
 refine thn (hb pins s1 σ H1 _ I1 q1) λu s2 hzz=>?_
 obtain⟨y,H2,I2,r2,q2⟩:=hzz
 exact hf v u s2 x y H2 I2 r1 r2 q2
theorem aJ {op:Operator} {r:R2} (ho:OpR X (binaryOp op) r) (ha:PE X a ta) (hb:PE X b tb):PE X (.BinOp a op b pos) (tOp r ta tb):=by
 intro pins s σ H Q I h
 exact wpAny_BinOp (Dz ha hb I h λv u s2 x y H2 I2 rx ry q=>ho pins s2 σ H2 x y v u Q I2 rx ry q)
theorem yR {op:UnaryOp} {r:V→Hp→VK→Prop} (ho:UnR X (unaryOp op) r) (ha:PE X a ta):PE X (.UnaryOp op a pos) (tUn r ta):=by
 intro pins s σ H Q I h
 exact UnaryOp_ (thn (ha pins s σ H _ I h) λv s1 ⟨x,H1,I1,r1,q1⟩=>ho pins s1 σ H1 x v Q I1 r1 q1)
theorem opI {f:Value→Value→Sem Value} {C:Int→Int→Prop} {g:Int→Int→Int}
  (rule:∀(i j:Int) (t u:Tok) (s:Shared) (Q:Value→Shared→Prop) (E:Value→Shared→Prop),C i j→Q (.int (g i j) s.toks) {s with toks:=s.toks+1}→wpAny (model X.prog X.w) X.A (f (.int i t) (.int j u)) Q E s):
  OpR X f (rI C λi j=> .int (g i j)):=by
 intro pins s σ H x y v u Q I rx ry h
 obtain⟨i,j,rfl,rfl,hc,q⟩:=h
 obtain⟨t,rfl⟩:=rx
 obtain⟨t',rfl⟩:=ry
 exact rule i j t t' s _ _ hc ⟨.int (g i j),H,I.tok _,⟨_,rfl⟩,q⟩
theorem opI0 {f:Value→Value→Sem Value} {g:Int→Int→Int}
  (rule:∀(i j:Int) (t u:Tok) (s:Shared) (Q:Value→Shared→Prop) (E:Value→Shared→Prop),Q (.int (g i j) s.toks) {s with toks:=s.toks+1}→wpAny (model X.prog X.w) X.A (f (.int i t) (.int j u)) Q E s):
  OpR X f (rI0 λi j=> .int (g i j)):=by
 intro pins s σ H x y v u Q I rx ry h
 obtain⟨i,j,rfl,rfl,q⟩:=h
 obtain⟨t,rfl⟩:=rx
 obtain⟨t',rfl⟩:=ry
 exact rule i j t t' s _ _ ⟨.int (g i j),H,I.tok _,⟨_,rfl⟩,q⟩
theorem Br {f:Value→Value→Sem Value} {g:Int→Int→Bool}
  (rule:∀(i j:Int) (t u:Tok) (s:Shared) (Q:Value→Shared→Prop) (E:Value→Shared→Prop),Q (.bool (g i j)) s→wpAny (model X.prog X.w) X.A (f (.int i t) (.int j u)) Q E s):
  OpR X f (rI0 λi j=> .bl (g i j)):=by
 intro pins s σ H x y v u Q I rx ry h
 obtain⟨i,j,rfl,rfl,q⟩:=h
 obtain⟨t,rfl⟩:=rx
 obtain⟨t',rfl⟩:=ry
 exact rule i j t t' s _ _ ⟨.bl (g i j),H,I,rfl,q⟩
def CDiv (i j:Int):Prop:=0<j∧j<1073741824
def CPow (i j:Int):Prop:=0≤j∧j≤1000000∧i.natAbs<2^64
def CMul (i j:Int):Prop:=(-(2^64)<i∧i<2^64)∨(-(2^64)<j∧j<2^64)
theorem CMul.ok {i j:Int} (h:CMul i j):IntMulOk i j:=by
 rcases h with⟨h1,h2⟩|⟨h1,h2⟩
 ·exact .of_left (intBits_le_64 h1 h2)
 ·exact .of_right (intBits_le_64 h1 h2)
theorem bJ:OpR X (binaryOp .Add) (rI0 λi j=> .int (i+j)):=opI0 λ_ _ _ _ _ _ _ q=>add_int q
theorem oM:OpR X (binaryOp .Sub) (rI0 λi j=> .int (i-j)):=opI0 λ_ _ _ _ _ _ _ q=>sub_int q
theorem fF:OpR X (binaryOp .Mult) (rI CMul λi j=> .int (i*j)):=opI λ_ _ _ _ _ _ _ hc q=>mul_int q hc.ok
theorem gL:OpR X (binaryOp .FloorDiv) (rI CDiv λi j=> .int (i/j)):=opI λi j _ _ _ _ _ hc q=>by
 have h1:(0:Int)<j:=hc.1
 have h2:j<1073741824:=hc.2
 exact floordiv_int (by omega) (by rw[Int.fdiv_eq_ediv_of_nonneg i (by omega)];exact q) (.inl (PyProof.noPylong_small (by omega)))
theorem bB:OpR X (binaryOp .Mod) (rI (λ_ j=>0<j) λi j=> .int (i%j)):=opI λi j _ _ _ _ _ hc q=>by
 have h1:(0:Int)<j:=hc
 exact mod_int' (by omega) (by rw[Int.fmod_eq_emod_of_nonneg i (by omega)];exact q)
theorem vp:OpR X (binaryOp .Pow) (rI CPow λi j=> .int (i^j.toNat)):=opI λ_ _ _ _ _ _ _ hc q=>pow_int_small hc.1 hc.2.1 hc.2.2 q
theorem unI {f:Value→Sem Value} {g:Int→Int}
  (rule:∀(i:Int) (t:Tok) (s:Shared) (Q:Value→Shared→Prop) (E:Value→Shared→Prop),Q (.int (g i) s.toks) {s with toks:=s.toks+1}→wpAny (model X.prog X.w) X.A (f (.int i t)) Q E s):
  UnR X f (rU λi=> .int (g i)):=by
 intro pins s σ H x v Q I rx h
 obtain⟨i,rfl,q⟩:=h
 obtain⟨t,rfl⟩:=rx
 exact rule i t s _ _ ⟨.int (g i),H,I.tok _,⟨_,rfl⟩,q⟩
theorem uZ:UnR X (unaryOp .USub) (rU λi=> .int (-i)):=unI λ_ _ _ _ _ q=>neg_int q
end
def scal:V→V→Bool
 | .non,.non=>true| .non,.int _=>true| .int _,.non=>true| .non,.bl _=>true| .bl _,.non=>true| .non,.str _=>true| .str _,.non=>true
 | .int _,.int _=>true| .bl _,.bl _=>true| .str _,.str _=>true| .byt _,.byt _=>true
 | .int _,.str _=>true| .str _,.int _=>true| .bl _,.str _=>true| .str _,.bl _=>true
 |_,_=>false
def rEq:R2:=λx y H Q=>scal x y=true∧Q (.bl (decide (x=y))) H
def rNe:R2:=λx y H Q=>scal x y=true∧Q (.bl (!decide (x=y))) H
theorem wL {i j:Int}:decide (V.int i=V.int j)=(i==j):=by
 rw[Xf]
 simp
theorem zL {i j:Bool}:decide (V.bl i=V.bl j)=(i==j):=by
 rw[Xf]
 simp
theorem wK {i j:Str}:decide (V.str i=V.str j)=(i==j):=by
 rw[Xf]
 simp
theorem wM {i j:Array UInt8}:decide (V.byt i=V.byt j)=(i.toList==j.toList):=by
 rw[Xf]
 cases i
 cases j
 simp
section
variable {X:Cx} {a b c:Expr} {ta tb tc:TE} {pos:Pos}
theorem a6 {pins:List (Addr×Obj)} {σ:St} {H:Hp} {s:Shared} {Q:VK} {k k':Bool} (I:Inv X pins σ H s) (q:Q (.bl k) H) (e:k=k'):EP X pins σ Q (.bool k') s:=by
 subst e
 exact⟨.bl k,H,I,rfl,q⟩
theorem cW:OpR X (compareOp .Eq) rEq:=by
 intro pins s σ H x y v u Q I rx ry h
 obtain⟨hs,q⟩:=h
 cases x with
 |non=>
  cases rx
  cases y with
  |non=>cases ry;exact PySem.EqNone.eq_none_none (a6 I q (by simp))
  |bl j=>cases ry;exact PySem.EqNone.eq_none_bool (a6 I q (by simp))
  |int j=>obtain⟨t',rfl⟩:=ry;exact PySem.EqNone.eq_none_int (a6 I q (by simp))
  |str j=>obtain⟨t',rfl⟩:=ry;exact PySem.EqNone.eq_none_str (a6 I q (by simp))
  |_=>exact absurd (show false=true from hs) Qc
 |bl i=>
  cases rx
  cases y with
  |non=>cases ry;exact PySem.EqNone.eq_bool_none (a6 I q (by simp))
  |bl j=>cases ry;exact eq_bool (a6 I q zL)
  |str j=>obtain⟨t',rfl⟩:=ry;exact PySem.EqMixed.eq_bool_str (a6 I q (by simp))
  |_=>exact absurd (show false=true from hs) Qc
 |int i=>
  obtain⟨t,rfl⟩:=rx
  cases y with
  |non=>cases ry;exact PySem.EqNone.eq_int_none (a6 I q (by simp))
  |int j=>obtain⟨t',rfl⟩:=ry;exact eq_int (a6 I q wL)
  |str j=>obtain⟨t',rfl⟩:=ry;exact PySem.EqMixed.eq_int_str (a6 I q (by simp))
  |_=>exact absurd (show false=true from hs) Qc
 |str i=>
  obtain⟨t,rfl⟩:=rx
  cases y with
  |non=>cases ry;exact PySem.EqNone.eq_str_none (a6 I q (by simp))
  |bl j=>cases ry;exact PySem.EqMixed.eq_str_bool (a6 I q (by simp))
  |int j=>obtain⟨t',rfl⟩:=ry;exact PySem.EqMixed.eq_str_int (a6 I q (by simp))
  |str j=>obtain⟨t',rfl⟩:=ry;exact eq_str (a6 I q wK)
  |_=>exact absurd (show false=true from hs) Qc
 |byt i=>
  obtain⟨t,rfl⟩:=rx
  cases y with
  |byt j=>obtain⟨t',rfl⟩:=ry;exact PySem.W.eq_bytes (a6 I q wM)
  |_=>exact absurd (show false=true from hs) Qc
 |_=>cases y<;>exact absurd (show false=true from hs) Qc
theorem qZ:OpR X (compareOp .NotEq) rNe:=by
 intro pins s σ H x y v u Q I rx ry h
 obtain⟨hs,q⟩:=h
 cases x with
 |non=>
  cases rx
  cases y with
  |non=>cases ry;exact PySem.EqNone.ne_none_none (a6 I q (by simp))
  |bl j=>cases ry;exact PySem.EqNone.ne_none_bool (a6 I q (by simp))
  |int j=>obtain⟨t',rfl⟩:=ry;exact PySem.EqNone.ne_none_int (a6 I q (by simp))
  |str j=>obtain⟨t',rfl⟩:=ry;exact PySem.EqNone.ne_none_str (a6 I q (by simp))
  |_=>exact absurd (show false=true from hs) Qc
 |bl i=>
  cases rx
  cases y with
  |non=>cases ry;exact PySem.EqNone.ne_bool_none (a6 I q (by simp))
  |bl j=>cases ry;exact ne_bool (a6 I q (congrArg not zL))
  |str j=>obtain⟨t',rfl⟩:=ry;exact PySem.EqMixed.ne_bool_str (a6 I q (by simp))
  |_=>exact absurd (show false=true from hs) Qc
 |int i=>
  obtain⟨t,rfl⟩:=rx
  cases y with
  |non=>cases ry;exact PySem.EqNone.ne_int_none (a6 I q (by simp))
  |int j=>obtain⟨t',rfl⟩:=ry;exact ne_int (a6 I q (congrArg not wL))
  |str j=>obtain⟨t',rfl⟩:=ry;exact PySem.EqMixed.ne_int_str (a6 I q (by simp))
  |_=>exact absurd (show false=true from hs) Qc
 |str i=>
  obtain⟨t,rfl⟩:=rx
  cases y with
  |non=>cases ry;exact PySem.EqNone.ne_str_none (a6 I q (by simp))
  |bl j=>cases ry;exact PySem.EqMixed.ne_str_bool (a6 I q (by simp))
  |int j=>obtain⟨t',rfl⟩:=ry;exact PySem.EqMixed.ne_str_int (a6 I q (by simp))
  |str j=>obtain⟨t',rfl⟩:=ry;exact ne_str (a6 I q (congrArg not wK))
  |_=>exact absurd (show false=true from hs) Qc
 |byt i=>
  obtain⟨t,rfl⟩:=rx
  cases y with
  |byt j=>obtain⟨t',rfl⟩:=ry;exact PySem.W.ne_bytes (a6 I q (congrArg not wM))
  |_=>exact absurd (show false=true from hs) Qc
 |_=>cases y<;>exact absurd (show false=true from hs) Qc
theorem eO:OpR X (compareOp .Lt) (rI0 λi j=> .bl (decide (i<j))):=Br λ_ _ _ _ _ _ _ q=>lt_int q
theorem Cr:OpR X (compareOp .LtE) (rI0 λi j=> .bl (decide (i≤j))):=Br λ_ _ _ _ _ _ _ q=>le_int q
theorem mt:OpR X (compareOp .Gt) (rI0 λi j=> .bl (decide (j<i))):=Br λ_ _ _ _ _ _ _ q=>gt_int q
theorem Ct:OpR X (compareOp .GtE) (rI0 λi j=> .bl (decide (j≤i))):=Br λ_ _ _ _ _ _ _ q=>ge_int q
theorem Bq:OpR X (compareOp .IsNot) (λx y H Q=>y= .non∧Q (.bl (!decide (x= .non))) H):=by
 intro pins s σ H x y v u Q I rx ry h
 obtain⟨rfl,q⟩:=h
 cases ry
 refine isnot_none_gen (a6 I q ?_)
 cases x<;>first
  |(cases rx;rfl)
  |(obtain⟨t,rfl⟩:=rx;rfl)
theorem aG (b:Expr) {op:CmpOp} (h:op≠ .In:=by decide) (h2:op≠ .NotIn:=by decide):behindInMarks op b=false:=by
 have e1:(op==CmpOp.In)=false:=by cases op<;>first|rfl|exact absurd rfl h
 have e2:(op==CmpOp.NotIn)=false:=by cases op<;>first|rfl|exact absurd rfl h2
 cases b<;>simp[behindInMarks,e1,e2]
theorem dE {op:CmpOp} {r:R2} (ho:OpR X (compareOp op) r) (ha:PE X a ta) (hb:PE X b tb) (hm:behindInMarks op b=false):PE X (.Compare a [op] [b] pos) (tOp r ta tb):=by
 intro pins s σ H Q I h
 exact wpAny_Compare1 (Dz ha hb I h λv u s2 x y H2 I2 rx ry q=>ho pins s2 σ H2 x y v u Q I2 rx ry q) hm
def Cf (t:TE):TT:=λσ H Q=>t σ H λx H'=>∃k,x= .bl k∧Q k H'
theorem aC {op:CmpOp} {r:R2} (ho:OpR X (compareOp op) r) (ha:PE X a ta) (hb:PE X b tb) (hm:behindInMarks op b=false):PT X (.Compare a [op] [b] pos) (Cf (tOp r ta tb)):=by
 intro pins s σ H Q I h
 refine wpAny_isTrue_Compare1 (thn (ha pins s σ H _ I h) λv s1 ⟨x,H1,I1,r1,q1⟩=>thn (hb pins s1 σ H1 _ I1 q1) λu s2 ⟨y,H2,I2,r2,q2⟩=>
  thn (ho pins s2 σ H2 x y v u _ I2 r1 r2 q2) λc s3 ⟨z,H3,I3,r3,k,e,q3⟩=>?_) hm
 subst e
 cases r3
 exact wpAny_truthy_bool ⟨H3,I3,q3⟩
def CT (r r':R2) (ta tb tc:TE):TE:=λσ H Q=>ta σ H λx H1=>tb σ H1 λy H2=>r x y H2 λz H3=>∃k,z= .bl k∧
 (if k=true then tc σ H3 λw' H4=>r' y w' H4 Q else Q (.bl false) H3)
theorem yN {op op':CmpOp} {r r':R2} (ho:OpR X (compareOp op) r) (ho':OpR X (compareOp op') r') (ha:PE X a ta) (hb:PE X b tb) (hc:PE X c tc)
  (hm:lastMarks [op,op'] [b,c]=false:=by with_unfolding_all rfl):PT X (.Compare a [op,op'] [b,c] pos) (Cf (CT r r' ta tb tc)):=by
 intro pins s σ H Q I h
 refine isTrue_chain (thn (ha pins s σ H _ I h) λv s1 ⟨x,H1,I1,r1,q1⟩=>test_link (thn (hb pins s1 σ H1 _ I1 q1) λu s2 ⟨y,H2,I2,r2,q2⟩=>
  thn (ho pins s2 σ H2 x y v u _ I2 r1 r2 q2) λd s3 ⟨z,H3,I3,r3,k,e,q3⟩=>?_)) hm
 subst e
 cases r3
 refine wpAny_truthy_bool ?_
 cases k with
 |false=>
  obtain⟨k',e',q'⟩:=q3
  cases e'
  exact ite_ff ⟨H3,I3,q'⟩
 |true=>
  refine ite_tt (test_last (thn (hc pins s3 σ H3 _ I3 q3) λw' s4 ⟨z',H4,I4,r4,q4⟩=>thn (ho' pins s4 σ H4 y z' u w' _ I4 r2 r4 q4) λd' s5 hzz=>?_))
  obtain⟨z2,H5,I5,r5,k2,e2,q5⟩:=hzz
  subst e2
  cases r5
  exact wpAny_truthy_bool ⟨H5,I5,q5⟩
theorem pq:(sizeLine:Nat)<2^63:=by rw[sizeLine_eq];decide
theorem j9 {x:V} {us:List Value} (r:Vals [x] us):∃u,us=[u]∧RelV x u:=by
 cases r with
 |cons r1 r2=>cases r2;exact⟨_,rfl,r1⟩
theorem j8 {x y:V} {us:List Value} (r:Vals [x,y] us):∃u w',us=[u,w']∧RelV x u∧RelV y w':=by
 cases r with
 |cons r1 r2=>
  cases r2 with
  |cons r3 r4=>cases r4;exact⟨_,_,rfl,r1,r3⟩
theorem x5 (hc:X.calm=true):eJ X (.builtin "max") (λxs H Q=>∃i j,xs=[.int i,.int j]∧Q (.int (if j>i then j else i)) H):=by
 intro pins s σ H xs us Q I r h
 obtain⟨i,j,rfl,q⟩:=h
 obtain⟨u,w',rfl,⟨t,rfl⟩,⟨t',rfl⟩⟩:=j8 r
 refine max_two_ints (I.ok.hd hc) λh' tk k=>⟨_,H,I.kept k,?_,q⟩
 by_cases hj:j>i
 ·rw[if_pos hj,if_pos hj];exact⟨_,rfl⟩
 ·rw[if_neg hj,if_neg hj];exact⟨_,rfl⟩
theorem rN (hc:X.calm=true):eJ X (.builtin "min") (λxs H Q=>∃i j,xs=[.int i,.int j]∧Q (.int (if j<i then j else i)) H):=by
 intro pins s σ H xs us Q I r h
 obtain⟨i,j,rfl,q⟩:=h
 obtain⟨u,w',rfl,⟨t,rfl⟩,⟨t',rfl⟩⟩:=j8 r
 refine min_two_ints (I.ok.hd hc) λh' tk k=>⟨_,H,I.kept k,?_,q⟩
 by_cases hj:j<i
 ·rw[if_pos hj,if_pos hj];exact⟨_,rfl⟩
 ·rw[if_neg hj,if_neg hj];exact⟨_,rfl⟩
end
end L2
namespace L2
open PySem PySem.Spec PyProof.Rows
structure ObjM (h:Heap) (x dx C:Addr) (mA:Str→Option Value):Prop where
 obj:h.get? x=some (PySem.W.instObj C dx)
 ns:h.Ns1 dx mA
 ne:dx≠x
theorem rj {h:Heap} {dx:Addr} {mA:Str→Option Value} (n:h.Ns1 dx mA):∃od,h.get? dx=some od∧∀name,PySem.W.lookIn name od=some (mA name):=by
 obtain⟨o,es,ep,ho,hd,hk,_,hm⟩:=n
 refine⟨o,ho,λname=>?_⟩
 have e:=hm name
 unfold nsFind findBy at e
 rw[←Array.find?_toList]at e
 unfold PySem.W.lookIn
 rw[hd]
 dsimp only
 split
 ·rename_i y q
  rw[q]at e
  exact congrArg some e
 ·rename_i q
  rw[q]at e
  have a:es.toList.any (·.refKey)=false:=by
   rw[List.any_eq_false]
   intro y hy
   obtain⟨z,t,hkey⟩:=hk y (Array.mem_toList_iff.mp hy)
   simp[DictEntry.refKey,hkey]
  have a':¬es.toList.any (·.refKey)=true:=by rw[a];exact Qc
  rw[if_neg a']
  exact congrArg some e
theorem ObjM.look {h:Heap} {x dx C:Addr} {mA:Str→Option Value} (I:ObjM h x dx C mA):∃od,PySem.W.InstAt h x (PySem.W.instObj C dx) C (some od)∧∀name,PySem.W.lookIn name od=some (mA name):=
 let⟨od,ho,hl⟩:=rj I.ns
 ⟨od,⟨I.obj,rfl,rfl,ho⟩,hl⟩
section
variable {prog:Program} {w:World} {A:Around} {E:Value→Shared→Prop} {s:Shared} {K:PySem.W.Frag} {x dx C f:Addr} {mA:Str→Option Value} {name:Str} {v:Value}
theorem BG {expr:Bool} {Q:Value→Shared→Prop} (X:K.In s.heap) (I:ObjM s.heap x dx C mA) (hg:PySem.W.plainGet K C name=true) (hh:PySem.W.hasDictIn K C=true)
  (ha:PySem.W.findIn K (.ref C) name=some none) (hv:mA name=some v) (hv':PySem.W.handedIn v=true) (h:Q v {s with toks:=s.toks+1}):
  wpAny (model prog w) A (getAttr (.ref x) name expr) Q E s:=by
 obtain⟨od,J,hl⟩:=I.look
 exact PySem.W.get_value X J (Xv hg).1 (PySem.W.findObj_own hh ha rfl (by rw[hl,hv])) hv' h
theorem zt {pl:Sem Bool} {Q:Value×List Value→Shared→Prop} (X:K.In s.heap) (I:ObjM s.heap x dx C mA) (hg:PySem.W.plainGet K C name=true)
  (hf:PySem.W.findIn K (.ref C) name=some (some (.ref f))) (ht:PySem.W.isFn K (.ref f)=true) (hv:mA name=none) (h:Q (.ref f,[.ref x]) s):
  wpAny (model prog w) A (getMethod (.ref x) name pl) Q E s:=by
 obtain⟨od,J,hl⟩:=I.look
 exact PySem.W.method_fn X J (Xv hg).1 (Xv hg).2 hf (beq_iff_eq.mp ht) (by show(PySem.W.lookIn name od).map (·.isSome)=some false;rw[hl,hv];rfl) h
theorem AV {ns:List Str} {Q:Unit→Shared→Prop} (X:K.In s.heap) (I:ObjM s.heap x dx C mA)
  (hs:PySem.W.findIn K (.ref C) "__setattr__"=some (some (.builtin "object.__setattr__"))) (hp:PySem.W.plainOver K C=true) (ht:PySem.W.takerIn K C name=some none) (hh:PySem.W.hasDictIn K C=true)
  (hw:PySem.Within mA ns) (hsz:ns.length≤sizeLine)
  (h:∀h',ObjM h' x dx C (λy=>if y=name then some v else mA y)→Heap.SameBut dx s.heap h'→Q () {s with heap:=h',toks:=s.toks+2}):
  wpAny (model prog w) A (setAttr (.ref x) name v) Q E s:=by
 obtain⟨od,J,hl⟩:=I.look
 refine PySem.W.set_plain X J hs (PySem.W.osa_open (s:={s with toks:=s.toks+1}) (r:=none) X J hp ht λb=>?_)
 obtain⟨cd,hc,hd'⟩:=PySem.W.any_some hh
 have hx:s.heap.get? x=some ⟨.ref C,some dx,.plain, #[]⟩:=I.obj
 refine wpAny_bind (wpAny_pure (wpAny_bind (wpAny_bind (wpAny_loadPart hx (wpAny_bind (PySem.W.Looks.here (s:={s with toks:=s.toks+1}) (PySem.W.looks_clsIn X hc) ?_))))))
 rw[hd']
 refine wpAny_pure (a:=some dx) (wpAny_bind (wpAny_pure (wpAny_bind ?_)))
 refine wpAny_nsSet1 (s:={s with toks:=s.toks+1}) I.ns λh' hn2 hs2=>?_
 obtain⟨oD,esD,epD,hoD,hdD,hcD⟩:=hn2.count (PySem.Within.cons name v hw)
 refine wpAny_bind (wpAny_lookBehind hoD (by rw[hdD];exact pastItsLine_dict (Z2 hcD (by rw[Qf];omega))) ?_)
 exact wpAny_pure (h _ ⟨(hs2.2 _ (Ne.symm I.ne)).trans I.obj,hn2,I.ne⟩ hs2)
theorem zg {R:Result→Shared→Prop} {vs:List Value} {kw:List (Str×Value)} (X:K.In s.heap) (hm:PySem.W.makesIn K C=true)
  (hi:PySem.W.findIn K (.ref C) "__init__"=some (some (.ref f))) (hf:PySem.W.typeIn K (.ref f)=some (.type "function"))
  (h:codeAny (model prog w) (A.under (.builtin "type.__call__" ⟨.ref C::vs,kw⟩)) (.call (.ref f) ⟨.ref (s.heap.objs.size+1)::vs,kw⟩) (PySem.W.InitBack (s.heap.objs.size+1) R)
   {s with heap:=(s.heap.push PySem.W.emptyDict).push (PySem.W.instObj C s.heap.objs.size)}):
  codeAny (model prog w) A (.call (.ref C) ⟨vs,kw⟩) R s:=by
 obtain⟨hh,g,d,t,os⟩:=s
 exact PySem.W.make_core (PySem.W.makes_of X hm) (PySem.W.looks_findIn X hi) (λself=>PySem.W.bind_fn X self hf) (.inl rfl) h
end
def aY (f:Str) (v:V):List (Str×V)→List (Str×V)
 | []=> [(f,v)]
 |(g,x)::r=>if g=f then(g,v)::r else(g,x)::aY f v r
theorem mB (f g:Str) (v:V):∀fs:List (Str×V),(aY f v fs).lookup g=if g=f then some v else fs.lookup g
 | []=>by
  show List.lookup g [(f,v)]=_
  by_cases h:g=f
  ·have hb:(g==f)=true:=beq_iff_eq.mpr h
   simp only[List.lookup,hb,if_pos h]
  ·have hb:(g==f)=false:=beq_eq_false_iff_ne.mpr h
   simp only[List.lookup,hb,if_neg h]
 |(k,x)::r=>by
  have ih:=mB f g v r
  rw[show aY f v ((k,x)::r)=(if k=f then(k,v)::r else(k,x)::aY f v r) from rfl]
  by_cases hk:k=f
  ·rw[if_pos hk]
   by_cases h:g=k
   ·have hb:(g==k)=true:=beq_iff_eq.mpr h
    simp only[List.lookup,hb,if_pos (h.trans hk)]
   ·have hb:(g==k)=false:=beq_eq_false_iff_ne.mpr h
    simp only[List.lookup,hb,if_neg (λe:g=f=>h (e.trans hk.symm))]
  ·rw[if_neg hk]
   by_cases h:g=k
   ·have hb:(g==k)=true:=beq_iff_eq.mpr h
    simp only[List.lookup,hb,if_neg (λe:g=f=>hk (h.symm.trans e))]
   ·have hb:(g==k)=false:=beq_eq_false_iff_ne.mpr h
    simp only[List.lookup,hb]
    exact ih
theorem lW (f:Str) (v:V):∀fs:List (Str×V),f∈(aY f v fs).map (·.1)∧∀g,g∈fs.map (·.1)→g∈(aY f v fs).map (·.1)
 | []=>⟨by simp[aY],λg h=>by simp at h⟩
 |(k,x)::r=>by
  obtain⟨i1,i2⟩:=lW f v r
  rw[show aY f v ((k,x)::r)=(if k=f then(k,v)::r else(k,x)::aY f v r) from rfl]
  by_cases hk:k=f
  ·rw[if_pos hk]
   subst hk
   exact⟨by simp,λg h=>by simpa using h⟩
  ·rw[if_neg hk]
   refine⟨?_,λg h=>?_⟩
   ·rw[Qr]
    exact Qa _ i1
   ·rw[Qr]at h⊢
    rcases Qe.mp h with e|e
    ·exact Qe.mpr (.inl e)
    ·exact Qa _ (i2 g e)
theorem mC (f:Str) (v:V):∀fs:List (Str×V),(aY f v fs).length≤fs.length+1
 | []=>by simp[aY]
 |(k,x)::r=>by
  have ih:=mC f v r
  rw[show aY f v ((k,x)::r)=(if k=f then(k,v)::r else(k,x)::aY f v r) from rfl]
  by_cases hk:k=f
  ·rw[if_pos hk,Qf,Qf];omega
  ·rw[if_neg hk,Qf,Qf];omega
theorem RelO.some_of {v:V} {o:Option Value} (r:RelO (some v) o):∃u,o=some u∧RelV v u:=by
 cases o with
 |none=>exact(show False from r).elim
 |some u=>exact⟨u,rfl,r⟩
theorem RelO.none_of {o:Option Value} (r:RelO none o):o=none:=by
 cases o with
 |none=>rfl
 |some u=>exact(show False from r).elim
theorem rA {v:V} {u:Value} (r:RelV v u):PySem.W.handedIn u=true:=by
 cases v with
 |non=>cases (show u=Value.none from r);rfl
 |bl b=>cases (show u=Value.bool b from r);rfl
 |int i=>obtain⟨t,e⟩:=(show ∃t,u=Value.int i t from r);cases e;rfl
 |str x=>obtain⟨t,e⟩:=(show ∃t,u=Value.str x t from r);cases e;rfl
 |byt b=>obtain⟨t,e⟩:=(show ∃t,u=Value.bytes b t from r);cases e;rfl
 |flt b=>obtain⟨t,e⟩:=(show ∃t,u=Value.float b t from r);cases e;rfl
 |ref a=>cases (show u=Value.ref a from r);rfl
 |ty n=>cases (show u=Value.type n from r);rfl
section
variable {P:Program} {w:World} {H H':Hp} {h h':Heap} {a C dx:Addr} {fs fs':List (Str×V)}
theorem ins_get (hok:HOk P w H h) (e:H a=some (.ins C dx fs)):∃mA,ObjM h a dx C mA∧(∀f,RelO (fs.lookup f) (mA f))∧PySem.Within mA (fs.map (·.1))∧fs.length≤1000∧H dx=some (.own a):=by
 obtain⟨d,z,ne,ob,mA,n,r,q⟩:=(show ObjOk P w H h a (.ins C dx fs) from hok a _ e)
 exact⟨mA,⟨ob,n,ne⟩,r,q,z,d⟩
end
structure Cls (K:PySem.W.Frag) (C:Addr):Prop where
 pg:PySem.W.plainGet K C Str.empty=true
 hd:PySem.W.hasDictIn K C=true
 po:PySem.W.plainOver K C=true
 sa:PySem.W.findIn K (.ref C) "__setattr__"=some (some (.builtin "object.__setattr__"))
theorem Cls.get {K:PySem.W.Frag} {C:Addr} (c:Cls K C) (f:Str):PySem.W.plainGet K C f=true:=c.pg
def NoAttr (K:PySem.W.Frag) (C:Addr) (f:Str):Prop:=PySem.W.findIn K (.ref C) f=some none
theorem NoAttr.taker {K:PySem.W.Frag} {C:Addr} {f:Str} (n:NoAttr K C f):PySem.W.takerIn K C f=some none:=by
 unfold PySem.W.takerIn
 rw[show PySem.W.findIn K (.ref C) f=some none from n]
 rfl
structure bS (K:PySem.W.Frag) (C:Addr) (m:Str) (f:Addr):Prop where
 at_:PySem.W.findIn K (.ref C) m=some (some (.ref f))
 fn:PySem.W.isFn K (.ref f)=true
 kp:PySem.W.keepIn K (.ref f)=true
section
variable {X:Cx} {pins:List (Addr×Obj)} {σ:St} {H:Hp} {s:Shared} {a C dx:Addr} {fs:List (Str×V)} {f:Str} {v:V} {A:Around} {E:Value→Shared→Prop}
theorem pD {b:Bool} {Q:Value→Shared→Prop} (I:Inv X pins σ H s) (e:H a=some (.ins C dx fs)) (c:Cls X.K C) (n:NoAttr X.K C f) (l:fs.lookup f=some v)
  (h:∀u s',Inv X pins σ H s'→RelV v u→Q u s'):wpAny (model X.prog X.w) A (getAttr (.ref a) f b) Q E s:=by
 obtain⟨mA,O,r,_,_,_⟩:=ins_get I.hok e
 obtain⟨u,hu,ru⟩:=RelO.some_of (v:=v) (o:=mA f) (by rw[←l];exact r f)
 exact BG I.kIn O (c.get f) c.hd n hu (rA ru) (h u _ (I.tok _) ru)
theorem gO {m:Str} {g:Addr} {pl:Sem Bool} {Q:Value×List Value→Shared→Prop} (I:Inv X pins σ H s) (e:H a=some (.ins C dx fs)) (c:Cls X.K C) (k:bS X.K C m g) (l:fs.lookup m=none)
  (h:Q (.ref g,[.ref a]) s):wpAny (model X.prog X.w) A (getMethod (.ref a) m pl) Q E s:=by
 obtain⟨mA,O,r,_,_,_⟩:=ins_get I.hok e
 have hn:mA m=none:=RelO.none_of (by rw[←l];exact r m)
 exact zt I.kIn O (c.get m) k.at_ k.fn hn h
theorem n8 {y:V} {u:Value} {Q:Unit→Shared→Prop} (I:Inv X pins σ H s) (e:H a=some (.ins C dx fs)) (c:Cls X.K C) (n:NoAttr X.K C f) (hl:fs.length<1000) (ry:RelV y u)
  (h:∀s',Inv X pins σ (upd H a (.ins C dx (aY f y fs))) s'→Q () s'):wpAny (model X.prog X.w) A (setAttr (.ref a) f u) Q E s:=by
 obtain⟨mA,O,r,wi,_,ho⟩:=ins_get I.hok e
 have hz:(fs.map (·.1)).length≤sizeLine:=by rw[Q0,sizeLine_eq];omega
 refine AV I.kIn O c.sa c.po n.taker c.hd wi hz λh' O' sb=>h _ ?_
 have hd:∃o,h'.get? dx=some o:=let⟨o,_,_,e',_⟩:=O'.ns;⟨o,e'⟩
 refine I.write (x:=a) (e:=dx) (by rw[e];exact True.intro) (.inr ho) (λb q hb z=>(sb.2 b hb).trans z) hd ?_
 refine⟨by rw[ac O.ne];exact ho,?_,O.ne,O'.obj,_,O'.ns,λg=>?_,λg hg=>?_⟩
 ·have:=mC f y fs;omega
 ·show RelO ((aY f y fs).lookup g) (if g=f then some u else mA g)
  rw[mB]
  by_cases q:g=f
  ·rw[if_pos q,if_pos q];exact ry
  ·rw[if_neg q,if_neg q];exact r g
 ·by_cases q:g=f
  ·rw[q];exact(lW f y fs).1
  ·refine(lW f y fs).2 g (wi g λz=>hg ?_)
   show(if g=f then some u else mA g)=none
   rw[if_neg q];exact z
theorem Inv.made (I:Inv X pins σ H s):Inv X pins σ (upd (upd H s.heap.objs.size (.own (s.heap.objs.size+1))) (s.heap.objs.size+1) (.ins C s.heap.objs.size []))
  {s with heap:=(s.heap.push PySem.W.emptyDict).push (PySem.W.instObj C s.heap.objs.size)}:=by
 have e1:(s.heap.push PySem.W.emptyDict).get? s.heap.objs.size=some PySem.W.emptyDict:=Heap.get?_push_size s.heap rfl
 have e2:((s.heap.push PySem.W.emptyDict).push (PySem.W.instObj C s.heap.objs.size)).get? (s.heap.objs.size+1)=some (PySem.W.instObj C s.heap.objs.size):=by
  have:=Heap.get?_push_size (s.heap.push PySem.W.emptyDict) (o:=PySem.W.instObj C s.heap.objs.size) rfl
  rwa [Heap.size_push]at this
 have e3:(s.heap.push PySem.W.emptyDict).Ns s.heap.objs.size (λ_=>none):=⟨PySem.W.emptyDict, #[],_,e1,rfl,(λe he=>absurd he (by simp)),λ_=>rfl⟩
 have I1:=I.laid (a:=s.heap.objs.size) (o:= .own (s.heap.objs.size+1)) (h':=s.heap.push PySem.W.emptyDict) (t':=s.toks) (λb u q=>Heap.get?_push_of_some _ q) (Q6 _) ⟨_,e1⟩
 refine I1.laid (a:=s.heap.objs.size+1) (o:= .ins C s.heap.objs.size []) (t':=s.toks) (λb u q=>Heap.get?_push_of_some _ q) (ZQ (Heap.size_push _ _)) ?_
 have ne:s.heap.objs.size≠s.heap.objs.size+1:=Qw (Xb _)
 refine⟨by rw[ac ne,af],Qh _,ne,e2,λ_=>none,(Heap.Ns1.of_empty e3).at λo q=>Heap.get?_push_of_some _ q,λ_=>True.intro,λy hy=>absurd rfl hy⟩
theorem wT {prog:Program} {w:World} {env:Env} {e:Expr} {f:Str} {pos:Pos} {s:Shared} {Q:Value→Shared→Prop} (hb:attributeBase e f env (eval e env)=eval e env)
  (h:wpAny (model prog w) A (eval e env) (λo s₁=>wpAny (model prog w) A (getAttr o f true) Q E s₁) E s):wpAny (model prog w) A (eval (.Attribute e f pos) env) Q E s:=
 Attribute_any_ h (by rw[arm_eval_Attribute,hb])
end
def tFld (K:PySem.W.Frag) (ta:TE) (f:Str):TE:=λσ H Q=>ta σ H λx H1=>∃a C dx fs v,x= .ref a∧H1 a=some (.ins C dx fs)∧Cls K C∧NoAttr K C f∧fs.lookup f=some v∧Q v H1
def sFld (K:PySem.W.Frag) (ta tv:TE) (f:Str):TS:=λD σ H=>tv σ H λy H1=>ta σ H1 λx H2=>∃a C dx fs,x= .ref a∧H2 a=some (.ins C dx fs)∧Cls K C∧NoAttr K C f∧fs.length<1000∧
 D.nx σ (upd H2 a (.ins C dx (aY f y fs)))
def DE (X:Cx) (op:Operator) (rd:V→V→Hp→VK→Prop):Prop:=
 ∀(pins:List (Addr×Obj)) (s:Shared) (σ:St) (H:Hp) (x y:V) (u v:Value) (Q:VK),Inv X pins σ H s→RelV x u→RelV y v→rd x y H Q→wpAny (model X.prog X.w) X.A (inplaceOp op u v) (EP X pins σ Q) X.xe s
def AW (K:PySem.W.Frag) (ta tv:TE) (rd:V→V→Hp→VK→Prop) (f:Str):TS:=λD σ H=>ta σ H λx H1=>∃a C dx fs v,x= .ref a∧H1 a=some (.ins C dx fs)∧Cls K C∧NoAttr K C f∧fs.lookup f=some v∧
 tv σ H1 λy H2=>rd v y H2 λz H3=>∃dx' fs',H3 a=some (.ins C dx' fs')∧fs'.length<1000∧D.nx σ (upd H3 a (.ins C dx' (aY f z fs')))
section
variable {X:Cx} {o e value:Expr} {f:Str} {pos pos' tpos:Pos} {ta tv:TE}
theorem av (he:PE X e ta) (hb:attributeBase e f X.env (eval e X.env)=eval e X.env):PE X (.Attribute e f pos) (tFld X.K ta f):=by
 intro pins s σ H Q I h
 refine wT hb (thn (he pins s σ H _ I h) λu s1 hzz=>?_)
 obtain⟨x,H1,I1,rx,a,C,dx,fs,v,ex,ea,c,n,l,q⟩:=hzz
 subst ex
 obtain rfl:u=Value.ref a:=rx
 exact pD I1 ea c n l λu' s2 I2 ru=>⟨v,H1,I2,ru,q⟩
theorem bY (ha:PE X o ta) (hv:PE X value tv) (hs:swapsWith value (some (.Attribute o f pos')) pos.line X.env=pure false):PS X (.Assign [.Attribute o f pos'] value pos) (sFld X.K ta tv f):=by
 intro pins s σ H D I h
 refine plainObj_wpAny_Assign_Attribute (thn (hv pins s σ H _ I h) λu s1 ⟨y,H1,I1,ry,q⟩=>thn (ha pins s1 σ H1 _ I1 q) λov s2 hzz=>?_) hs
 obtain⟨x,H2,I2,rx,a,C,dx,fs,ex,ea,c,n,l,q2⟩:=hzz
 subst ex
 obtain rfl:ov=Value.ref a:=rx
 exact n8 I2 ea c n l ry λs3 I3=>⟨σ,_,I3,q2⟩
theorem iS {op:Operator} {rd:V→V→Hp→VK→Prop} (ha:PE X o ta) (hv:PE X value tv) (hop:DE X op rd):PS X (.AugAssign (.Attribute o f tpos) op value pos) (AW X.K ta tv rd f):=by
 intro pins s σ H D I h
 refine wpAny_AugAssign_AttributeAny (thn (ha pins s σ H _ I h) λov s1 hzz=>?_)
 obtain⟨x,H1,I1,rx,a,C,dx,fs,v,ex,ea,c,n,l,q⟩:=hzz
 subst ex
 obtain rfl:ov=Value.ref a:=rx
 refine pD I1 ea c n l λu s2 I2 ru=>thn (hv pins s2 σ H1 _ I2 q) λw3 s3 ⟨y,H2,I3,ry,q3⟩=>thn (hop pins s3 σ H2 v y u w3 _ I3 ru ry q3) λw4 s4 hzz=>?_
 obtain⟨z,H3,I4,rz,dx',fs',ea',l',q4⟩:=hzz
 exact n8 I4 ea' c n l' rz λs5 I5=>⟨σ,_,I5,q4⟩
def rAdd:V→V→Hp→VK→Prop:=λx y H Q=>∃i j,x= .int i∧y= .int j∧Q (.int (i+j)) H
def rSub:V→V→Hp→VK→Prop:=λx y H Q=>∃i j,x= .int i∧y= .int j∧Q (.int (i-j)) H
theorem vJ:DE X .Add rAdd:=by
 rintro pins s σ H x y u v Q I rx ry ⟨i,j,rfl,rfl,q⟩
 obtain⟨t,rfl⟩:=(show ∃t,u=Value.int i t from rx)
 obtain⟨t',rfl⟩:=(show ∃t',v=Value.int j t' from ry)
 exact PyProof.Rows.iadd_int ⟨.int (i+j),H,I.tok _,⟨_,rfl⟩,q⟩
theorem Do:DE X .Sub rSub:=by
 rintro pins s σ H x y u v Q I rx ry ⟨i,j,rfl,rfl,q⟩
 obtain⟨t,rfl⟩:=(show ∃t,u=Value.int i t from rx)
 obtain⟨t',rfl⟩:=(show ∃t',v=Value.int j t' from ry)
 exact PyProof.Rows.isub_int ⟨.int (i-j),H,I.tok _,⟨_,rfl⟩,q⟩
theorem Cv {pl:Sem Bool} {m:Str} {apos:Pos} {args:List Expr} {pins:List (Addr×Obj)} {s:Shared} {σ:St} {H:Hp} {Q:Value→Shared→Prop} {te:TE} (he:PE X e te) (I:Inv X pins σ H s)
  (h:te σ H λx H1=>∃a C dx fs g,x= .ref a∧H1 a=some (.ins C dx fs)∧Cls X.K C∧bS X.K C m g∧fs.lookup m=none∧
   ∀s1,Inv X pins σ H1 s1→wpAny (model X.prog X.w) X.A (callWith pos (.ref g) [.ref a] (backTo pos (starEach args X.env)) (backToKw pos (keywordEach [] X.env))) Q X.xe s1)
  (ht:eval (.Call (.Attribute e m apos) args [] pos) X.env=(do
   let ov←eval e X.env
   standAt apos.atName
   let(f,first)←holding [ov] (getMethod ov m pl)
   callWith pos f first (backTo pos (starEach args X.env)) (backToKw pos (keywordEach [] X.env)))):
  wpAny (model X.prog X.w) X.A (eval (.Call (.Attribute e m apos) args [] pos) X.env) Q X.xe s:=by
 refine Zz (pl:=pl) (thn (he pins s σ H _ I h) λu s1 hzz=>?_) ht
 obtain⟨x,H1,I1,rx,a,C,dx,fs,g,ex,ea,c,k,l,q⟩:=hzz
 subst ex
 obtain rfl:u=Value.ref a:=rx
 exact gO I1 ea c k l (q s1 I1)
end
section
variable {X:Cx} {pins:List (Addr×Obj)} {σ:St} {H:Hp} {s:Shared} {A:Around} {E:Value→Shared→Prop} {Q:Value→Shared→Prop} {c:Value} {b:Bool}
inductive TyOf (K:PySem.W.Frag) (H:Hp):V→Value→Prop where
 |non:TyOf K H .non (.type "NoneType")
 |bl (x:Bool):TyOf K H (.bl x) (.type "bool")
 |int (i:Int):TyOf K H (.int i) (.type "int")
 |str (x:Str):TyOf K H (.str x) (.type "str")
 |flt (x:UInt64):TyOf K H (.flt x) (.type "float")
 |lst {a:Addr} {xs:List V} (e:H a=some (.lst xs)):TyOf K H (.ref a) (.type "list")
 |frz {a:Addr} {o:Obj} {xs:List V} (e:H a=some (.frz o (.lst xs))):TyOf K H (.ref a) (.type "list")
 |tup {a:Addr} {xs:List V} (e:H a=some (.tup xs)):TyOf K H (.ref a) (.type "tuple")
 |dK {a:Addr} {kvs:List (Key×V)} (e:H a=some (.dK kvs)):TyOf K H (.ref a) (.type "dict")
 |dT {a:Addr} {kvs:List (List Key×V)} (e:H a=some (.dT kvs)):TyOf K H (.ref a) (.type "dict")
 |ins {a C dx:Addr} {fs:List (Str×V)} (e:H a=some (.ins C dx fs)) (cl:Cls K C) (ha:PySem.W.findIn K (.ref C) "__class__"=some (some (.builtin "object.__class__")))
   (hn:PySem.W.specialIn K (.builtin "object.__class__") "__get__"=some (some (.builtin "getset_descriptor.__get__"))) (htk:PySem.W.takesIn K (.builtin "object.__class__")=some true)
   (hm:PySem.W.mroIn K C (.type "object")=some true):TyOf K H (.ref a) (.ref C)
theorem xJ {x:V} {u t:Value} (I:Inv X pins σ H s) (rx:RelV x u) (ty:TyOf X.K H x t) (e:PySem.W.kitOne X.K t c=some b) (h:∀tk,Q (.bool b) {s with toks:=tk}):
  wpAny (model X.prog X.w) A (call (.builtin "isinstance") [u,c]) Q E s:=by
 cases ty with
 |non=>cases (show u=Value.none from rx);exact QZ PySem.W.kitx_none I.kIn True.intro e (λz=>nomatch z) h
 |bl y=>cases (show u=Value.bool y from rx);exact QZ PySem.W.kitx_bool I.kIn True.intro e (λz=>nomatch z) h
 |int i=>obtain⟨t,q⟩:=(show ∃t,u=Value.int i t from rx);cases q;exact QZ PySem.W.kitx_int I.kIn True.intro e (λz=>nomatch z) h
 |str y=>obtain⟨t,q⟩:=(show ∃t,u=Value.str y t from rx);cases q;exact QZ PySem.W.kitx_str I.kIn True.intro e (λz=>nomatch z) h
 |flt y=>obtain⟨t,q⟩:=(show ∃t,u=Value.float y t from rx);cases q;exact QZ PySem.W.kitx_float I.kIn True.intro e (λz=>nomatch z) h
 | @lst a xs ea=>
  cases (show u=Value.ref a from rx)
  obtain⟨_,_,n,_,h1⟩:=(show ObjOk X.prog X.w H s.heap a (.lst xs) from I.hok a _ ea)
  exact QZ PySem.W.kitx_list I.kIn ⟨_,h1,rfl⟩ e (λz=>nomatch z) h
 | @frz a ob xs ea=>
  cases (show u=Value.ref a from rx)
  obtain⟨_,_,_,n,_,h1⟩:=(show ObjOk X.prog X.w H s.heap a (.frz ob (.lst xs)) from I.hok a _ ea)
  exact QZ PySem.W.kitx_list I.kIn ⟨_,h1,rfl⟩ e (λz=>nomatch z) h
 | @tup a xs ea=>
  cases (show u=Value.ref a from rx)
  obtain⟨_,_,_,p⟩:=(show ObjOk X.prog X.w H s.heap a (.tup xs) from I.hok a _ ea)
  obtain⟨o,h1,h2,_⟩:=p
  exact QZ PySem.W.kitx_tuple I.kIn ⟨o,h1,h2⟩ e (λz=>nomatch z) h
 | @dK a kvs ea=>
  cases (show u=Value.ref a from rx)
  obtain⟨_,_,vs,_,p⟩:=(show ObjOk X.prog X.w H s.heap a (.dK kvs) from I.hok a _ ea)
  obtain⟨o,es,ep,h1,h2,_⟩:=p
  exact QZ PySem.W.kitx_dict I.kIn ⟨o,h1,h2.1⟩ e (λz=>nomatch z) h
 | @dT a kvs ea=>
  cases (show u=Value.ref a from rx)
  obtain⟨_,_,xs,_,o,es,ep,h1,h2,_⟩:=(show ObjOk X.prog X.w H s.heap a (.dT kvs) from I.hok a _ ea)
  exact QZ PySem.W.kitx_dict I.kIn ⟨o,h1,h2.1⟩ e (λz=>nomatch z) h
 | @ins a C dx fs ea cl ha hn htk hm=>
  cases (show u=Value.ref a from rx)
  obtain⟨mA,O,_⟩:=ins_get I.hok ea
  obtain⟨od,J,_⟩:=O.look
  exact QZ (PySem.W.kitx_own (cl.get _) cl.hd ha hn htk hm) I.kIn J e (λz=>nomatch z) h
end
end L2
namespace L2
open PySem PySem.Spec PyProof.Rows
structure Room (k:Nat) (A:Around):Prop where
 hd:A.handled=none
 dp:A.depth+3*k+5<recursionLimit
 un:A.units+16*k+200<cLine
theorem Room.mono {j k:Nat} {A:Around} (r:Room k A) (h:j≤k):Room j A:=⟨r.hd,by have:=r.dp;omega,by have:=r.un;omega⟩
theorem Room.deeper {k:Nat} {A:Around} (r:Room (k+1) A) (env:Env):Room k (A.deeper env):=
 ⟨r.hd,by have:=r.dp;show A.depth+1+3*k+5<_;omega,by have:=r.un;show A.units+3+16*k+200<_;omega⟩
theorem vC {A:Around} {C:Addr} {us:List Value} {kw:List (Str×Value)}:(A.under (.builtin "type.__call__" ⟨.ref C::us,kw⟩)).depth=A.depth+1:=by
 first|rfl|simp[Around.under,Code.weight,Code.isCreation,Code.isGuard,Code.isCaller,Code.frames,Code.isFrame,guardIds]
theorem vB {A:Around} {C:Addr} {us:List Value} {kw:List (Str×Value)}:(A.under (.builtin "type.__call__" ⟨.ref C::us,kw⟩)).units=A.units+1:=by
 first|rfl|simp[Around.under,Code.cUnits,Code.frames,Code.isFrame]
theorem Room.make {k:Nat} {A:Around} (r:Room (k+1) A) (C:Addr) (us:List Value) (kw:List (Str×Value)):Room k (A.under (.builtin "type.__call__" ⟨.ref C::us,kw⟩)):=
 ⟨r.hd,by have:=r.dp;rw[vC];omega,by have:=r.un;rw[vB];omega⟩
theorem Room.depth {k:Nat} {A:Around} (r:Room k A):A.depth<recursionLimit:=by have:=r.dp;omega
theorem Room.units {k:Nat} {A:Around} (r:Room k A):A.units+64<cLine:=by have:=r.un;omega
def AO:TA:=λ_ H Q=>Q [] H
def Ci (ta:TE) (tr:TA):TA:=λσ H Q=>ta σ H λx H1=>tr σ H1 λxs H2=>Q (x::xs) H2
section
variable {X:Cx} {e:Expr} {es:List Expr} {te:TE} {t:TA} {pos:Pos}
theorem ag:PA X [] AO:=λ_ _ _ _ H Q I h=>Calls.spliced_nil ⟨[],H,I,.nil,h⟩
theorem aa (ha:PE X e te) (hr:PA X es t) (hs:starEach (e::es) X.env=(false,eval e X.env)::starEach es X.env:=by rfl):PA X (e::es) (Ci te t):=by
 intro pos pins s σ H Q I h
 rw[hs]
 show wpAny _ _ (spliced ((false,eval e X.env)::backTo pos (starEach es X.env))) _ _ s
 refine Calls.spliced_cons (thn (ha pins s σ H _ I h) λu s1 hzz=>?_)
 obtain⟨x,H1,I1,r1,q1⟩:=hzz
 exact thn (hr pos pins s1 σ H1 _ I1 q1) λus s2 ⟨xs,H2,I2,r2,q2⟩=>⟨x::xs,H2,I2,.cons r1 r2,q2⟩
def tTup (t:TA):TE:=λσ H Q=>t σ H λxs H1=>xs.length≤sizeLine∧∀p,H1 p=none→Q (.ref p) (upd H1 p (.tup xs))
def tLst (t:TA):TE:=λσ H Q=>t σ H λxs H1=>xs.length≤sizeLine∧∀p,H1 p=none→Q (.ref p) (upd H1 p (.lst xs))
theorem dW {x1} (h:PA X es t):PE X (.Tuple es x1 pos) (tTup t):=by
 intro pins s σ H Q I hq
 refine wpAny_Tuple_spliced (thn (h pos pins s σ H _ I hq) λus s1 ⟨xs,H1,I1,r,z,q⟩=>⟨by rw[←r.length];exact z,?_⟩)
 have hf:H1 s1.heap.objs.size=none:=I1.hok.fresh (Q6 _)
 refine⟨.ref s1.heap.objs.size,upd H1 s1.heap.objs.size (.tup xs),I1.laid (t':=s1.toks) (λb u e=>Heap.get?_push_of_some _ e) (Q6 _) ?_,rfl,q _ hf⟩
 exact⟨z,us,r,⟨_,Heap.get?_push_size _ rfl,rfl,_,rfl⟩⟩
theorem cu (h:PA X es t):PE X (.List es pos) (tLst t):=by
 intro pins s σ H Q I hq
 refine wpAny_List_spliced (thn (h pos pins s σ H _ I hq) λus s1 ⟨xs,H1,I1,r,z,q⟩=>⟨by rw[←r.length];exact z,?_⟩)
 have hf:H1 s1.heap.objs.size=none:=I1.hok.fresh (Q6 _)
 refine⟨.ref s1.heap.objs.size,upd H1 s1.heap.objs.size (.lst xs),I1.laid (t':=s1.toks) (λb u e=>Heap.get?_push_of_some _ e) (Q6 _) ?_,rfl,q _ hf⟩
 exact⟨z,us,0,r,Heap.get?_push_size _ rfl⟩
end
abbrev Sp:=List V→Hp→VK→XK→Prop
abbrev CXT:=List Env→Hp→Shared→XK→Value→Shared→Prop
structure Env0 (P:Program) (w:World) (K:PySem.W.Frag) (mg:Str→Option Value) (base:Heap) (A:Around) (outer:List Env) (s:Shared) (H:Hp):Prop where
 frames:A.frames=some outer
 mod:Mod K mg base
 bs:∀b o,base.get? b=some o→s.heap.get? b=some o∧H b=none
 bsz:base.objs.size≤s.heap.objs.size
 funs:s.heap.FunFrames base outer
 frf:∀b∈frs outer,H b=none
 hok:HOk P w H s.heap
 bare:AllBare s.gens
def CE (outer:List Env) (P:Program) (w:World) (H:Hp) (s:Shared) (Q:VK) (u:Value) (s':Shared):Prop:=
 ∃v H',s'.os=s.os∧AllBare s'.gens∧Un (frs outer) [] H H' s.heap s'.heap∧HOk P w H' s'.heap∧RelV v u∧Q v H'
def CR (CX:CXT) (outer:List Env) (P:Program) (w:World) (H:Hp) (s:Shared) (Q:VK) (E:XK) (r:Result) (s':Shared):Prop:=
 match r with
 | .ok (.ret u)=>CE outer P w H s Q u s'
 | .ok _=>False
 | .error e=>CX outer H s E e s'
structure aX (P:Program) (w:World) (K:PySem.W.Frag) (mg:Str→Option Value) (base:Heap) (CX:CXT) (k:Nat) (f:Addr) (fd:FuncData) (ps:List Str) (sp:Sp):Prop where
 len:∀vs H Q E,sp vs H Q E→vs.length=ps.length
 run:∀(A:Around) (outer:List Env) (s:Shared) (H:Hp) (args:Args) (us:List Value) (vs:List V) (Q:VK) (E:XK),Room k A→Env0 P w K mg base A outer s H→BindsTo s fd args (ps.zip us)→Vals vs us→sp vs H Q E→
  codeAny (model P w) A (.call (.ref f) args) (CR CX outer P w H s Q E) s
theorem Env0.make {P:Program} {w:World} {K:PySem.W.Frag} {mg:Str→Option Value} {base:Heap} {A:Around} {outer:List Env} {s:Shared} {H:Hp} (e:Env0 P w K mg base A outer s H) (C:Addr) (us:List Value) (kw:List (Str×Value)):
  Env0 P w K mg base (A.under (.builtin "type.__call__" ⟨.ref C::us,kw⟩)) outer s H:=⟨by first|exact e.frames|(simpa[Around.under,Code.envs,Code.isFrame,pushEnvs]using e.frames),e.mod,e.bs,e.bsz,e.funs,e.frf,e.hok,e.bare⟩
section
variable {X:Cx} {pins:List (Addr×Obj)} {σ:St} {H:Hp} {s s':Shared}
theorem Inv.env0 (I:Inv X pins σ H s):Env0 X.prog X.w X.K X.mg X.base X.A X.stack s H:=
 ⟨I.ok.frames,I.ok.mod,I.bs,Z2 I.ok.bsz I.sz,I.stack,I.stkFree,I.hok,I.bare⟩
theorem Inv.after {Q:VK} {u:Value} (I:Inv X pins σ H s) (h:CE X.stack X.prog X.w H s Q u s'):EP X pins σ Q u s':=by
 obtain⟨v,H',os,bare,un,hok,r,q⟩:=h
 obtain⟨hh,g,d,t,os'⟩:=s'
 obtain rfl:os'=s.os:=os
 exact⟨v,H',I.call (h':=hh) (g':=g) (d':=d) (t':=t) (ch:=[]) un hok bare (λb z=>absurd z (by simp)),r,q⟩
end
def DS (sp:Sp) (dvs:List V) (E:XK) (t:TA):TE:=λσ H Q=>t σ H λvs H1=>sp (vs++dvs) H1 Q E
def Cg (C:Addr) (m:Str) (sp:Sp) (dvs:List V) (E:XK) (ta:TE) (t:TA):TE:=λσ H Q=>ta σ H λx H1=>∃a dx fs,x= .ref a∧H1 a=some (.ins C dx fs)∧fs.lookup m=none∧
 t σ H1 λvs H2=>sp (x::(vs++dvs)) H2 Q E
def DO (C:Addr) (sp:Sp) (dvs:List V) (E:XK) (t:TA):TE:=λσ H Q=>t σ H λvs H1=>∀x dx,H1 x=none→H1 dx=none→dx≠x→
 sp (.ref x::(vs++dvs)) (upd (upd H1 dx (.own x)) x (.ins C dx [])) (λv H2=>v= .non∧Q (.ref x) H2) E
def Binds (K:PySem.W.Frag) (fd:FuncData) (ps:List Str) (ds:List Value):Prop:=
 ∀(s:Shared) (us:List Value),K.In s.heap→(us++ds).length=ps.length→BindsTo s fd ⟨us,[]⟩ (ps.zip (us++ds))
theorem Binds.all {K:PySem.W.Frag} {fd:FuncData} {ps:List Str} (h:∀us:List Value,us.length=ps.length→bindArgs fd ⟨us,[]⟩=pure (ps.zip us)):Binds K fd ps []:=λs us _ hl=>by
 rw[Xg]at hl⊢
 exact .of_eq (h us hl)
def eI (CX:CXT) (X:Cx) (E:XK):Prop:=∀(pins:List (Addr×Obj)) (σ:St) (H:Hp) (s:Shared) (e:Value) (s':Shared),Inv X pins σ H s→CX X.stack H s E e s'→X.xe e s'
section
variable {X:Cx} {CX:CXT} {k:Nat} {f C:Addr} {fd:FuncData} {ps:List Str} {sp:Sp} {dvs:List V} {ds:List Value} {E:XK} {x m:Str} {p pos apos:Pos} {e o:Expr} {es:List Expr} {ta:TE} {t:TA}
theorem vj {pins:List (Addr×Obj)} {σ:St} {H:Hp} {s:Shared} {Q:VK} {us:List Value} {vs:List V} (F:aX X.prog X.w X.K X.mg X.base CX k f fd ps sp) (hr:Room k X.A) (hb:Binds X.K fd ps ds) (hd:Vals dvs ds) (hx:eI CX X E)
  (I:Inv X pins σ H s) (r:Vals vs us) (h:sp (vs++dvs) H Q E):wpAny (model X.prog X.w) X.A (call (.ref f) us) (EP X pins σ Q) X.xe s:=by
 have r2:Vals (vs++dvs) (us++ds):=r.append hd
 have hl:(us++ds).length=ps.length:=by rw[←r2.length];exact F.len _ _ _ _ h
 refine wpAny_call (codeAny_mono (F.run X.A X.stack s H ⟨us,[]⟩ (us++ds) (vs++dvs) Q E hr I.env0 (hb s us I.kIn hl) r2 h) λr s' hq=>?_)
 cases r with
 |error e=>exact hx pins σ H s e s' I hq
 |ok fl=>
  cases fl with
  |ret u=>exact I.after hq
  |next=>exact False.elim hq
  |brk=>exact False.elim hq
  |cont=>exact False.elim hq
theorem aP (F:aX X.prog X.w X.K X.mg X.base CX k f fd ps sp) (hr:Room k X.A) (hg:Gl X x) (hm:X.mg x=some (.ref f)) (hk:PySem.W.keepIn X.K (.ref f)=true) (hb:Binds X.K fd ps ds) (hd:Vals dvs ds) (hx:eI CX X E)
  (ha:PA X (e::es) t) (hdb:(x==("__debug__":Str))=false:=by decide) (he:starEach (e::es) X.env=(false,eval e X.env)::starEach es X.env:=by rfl) (hpl:(backTo pos (starEach es X.env)).any (·.1)=false:=by rfl):
  PE X (.Call (.Name x p) (e::es) [] pos) (DS sp dvs E t):=by
 intro pins s σ H Q I h
 refine wpAny_Call_Name_kw (iU I hg hm ?_ hdb)
 refine X4 (h₀:=X.base) I.ok.mod.kin hk (thn (ha pos pins s σ H _ I h) λus s1 ⟨vs,H1,I1,r,q⟩=>⟨I1.kIn,?_⟩) he hpl
 exact vj F hr hb hd hx I1 r q
theorem aN {pl:Sem Bool} (he:PE X o ta) (c:Cls X.K C) (hm:bS X.K C m f) (F:aX X.prog X.w X.K X.mg X.base CX k f fd ps sp) (hr:Room k X.A) (hb:Binds X.K fd ps ds) (hd:Vals dvs ds) (hx:eI CX X E) (ha:PA X (e::es) t)
  (hst:starEach (e::es) X.env=(false,eval e X.env)::starEach es X.env:=by rfl) (hpl:(backTo pos (starEach es X.env)).any (·.1)=false:=by rfl)
  (ht:eval (.Call (.Attribute o m apos) (e::es) [] pos) X.env=(do
   let ov←eval o X.env
   standAt apos.atName
   let(f,first)←holding [ov] (getMethod ov m pl)
   callWith pos f first (backTo pos (starEach (e::es) X.env)) (backToKw pos (keywordEach [] X.env))):=by rfl):
  PE X (.Call (.Attribute o m apos) (e::es) [] pos) (Cg C m sp dvs E ta t):=by
 intro pins s σ H Q I h
 refine Zz (pl:=pl) (thn (he pins s σ H _ I h) λu s1 hzz=>?_) ht
 obtain⟨x,H1,I1,rx,a,dx,fs,ex,ea,l,q⟩:=hzz
 subst ex
 obtain rfl:u=Value.ref a:=rx
 refine gO I1 ea c hm l ?_
 refine X4 (first:=[.ref a]) (h₀:=X.base) I.ok.mod.kin hm.kp (thn (ha pos pins s1 σ H1 _ I1 q) λus s2 ⟨vs,H2,I2,r,q2⟩=>⟨I2.kIn,?_⟩) hst hpl
 exact vj (us:= .ref a::us) (vs:= .ref a::vs) F hr hb hd hx I2 (.cons rfl r) q2
theorem a8 {pl:Sem Bool} (he:PE X o ta) (c:Cls X.K C) (hm:bS X.K C m f) (F:aX X.prog X.w X.K X.mg X.base CX k f fd ps sp) (hr:Room k X.A) (hb:Binds X.K fd ps ds) (hd:Vals dvs ds) (hx:eI CX X E)
  (ht:eval (.Call (.Attribute o m apos) [] [] pos) X.env=(do
   let ov←eval o X.env
   standAt apos.atName
   let(f,first)←holding [ov] (getMethod ov m pl)
   callWith pos f first (backTo pos (starEach [] X.env)) (backToKw pos (keywordEach [] X.env))):=by rfl):
  PE X (.Call (.Attribute o m apos) [] [] pos) (Cg C m sp dvs E ta AO):=by
 intro pins s σ H Q I h
 refine Zz (pl:=pl) (thn (he pins s σ H _ I h) λu s1 hzz=>?_) ht
 obtain⟨x,H1,I1,rx,a,dx,fs,ex,ea,l,q⟩:=hzz
 subst ex
 obtain rfl:u=Value.ref a:=rx
 refine gO I1 ea c hm l ?_
 exact PySem.W.callWith_K0 (first:=[.ref a]) I1.kIn hm.kp (vj (us:=[.ref a]) (vs:=[.ref a]) F hr hb hd hx I1 (.cons rfl .nil) q)
structure Mk (K:PySem.W.Frag) (C f:Addr):Prop where
 makes:PySem.W.makesIn K C=true
 init:PySem.W.findIn K (.ref C) "__init__"=some (some (.ref f))
 fn:PySem.W.isFn K (.ref f)=true
 kp:PySem.W.keepIn K (.ref C)=true
theorem yI {pins:List (Addr×Obj)} {σ:St} {H:Hp} {s:Shared} {Q:VK} {us:List Value} {vs:List V} (M:Mk X.K C f) (F:aX X.prog X.w X.K X.mg X.base CX k f fd ps sp) (hr:Room (k+1) X.A) (hb:Binds X.K fd ps ds) (hd:Vals dvs ds)
  (hx:eI CX X E) (I:Inv X pins σ H s) (r:Vals vs us)
  (h:∀x dx,H x=none→H dx=none→dx≠x→sp (.ref x::(vs++dvs)) (upd (upd H dx (.own x)) x (.ins C dx [])) (λv H2=>v= .non∧Q (.ref x) H2) E):
  wpAny (model X.prog X.w) X.A (call (.ref C) us) (EP X pins σ Q) X.xe s:=by
 have hq:=h (s.heap.objs.size+1) s.heap.objs.size (I.hok.fresh (Z4 _)) (I.hok.fresh (Q6 _)) (Qw (Xb _))
 have I2:=Inv.made (C:=C) I
 have r2:Vals (V.ref (s.heap.objs.size+1)::(vs++dvs)) (Value.ref (s.heap.objs.size+1)::(us++ds)):= .cons rfl (r.append hd)
 have hl:(Value.ref (s.heap.objs.size+1)::us++ds).length=ps.length:=by
  have e:=r2.length
  rw[F.len _ _ _ _ hq]at e
  exact e.symm
 refine wpAny_call (zg (f:=f) I.kIn M.makes M.init (beq_iff_eq.mp M.fn) (codeAny_mono (F.run _ X.stack _ _ ⟨Value.ref (s.heap.objs.size+1)::us,[]⟩ (Value.ref (s.heap.objs.size+1)::(us++ds)) _ _ E (hr.make C us [])
  (I2.env0.make C us []) (hb _ (Value.ref (s.heap.objs.size+1)::us) I2.kIn hl) r2 hq) λr s' hq'=>?_))
 cases r with
 |error e=>exact hx pins σ _ _ e s' I2 hq'
 |ok fl=>
  cases fl with
  |ret u=>
   obtain⟨v,H',I3,rv,ev,q3⟩:=I2.after hq'
   subst ev
   exact⟨rv,⟨V.ref (s.heap.objs.size+1),H',I3,rfl,q3⟩⟩
  |next=>exact False.elim hq'
  |brk=>exact False.elim hq'
  |cont=>exact False.elim hq'
theorem ij (M:Mk X.K C f) (F:aX X.prog X.w X.K X.mg X.base CX k f fd ps sp) (hr:Room (k+1) X.A) (hg:Gl X x) (hm:X.mg x=some (.ref C)) (hb:Binds X.K fd ps ds) (hd:Vals dvs ds) (hx:eI CX X E)
  (hdb:(x==("__debug__":Str))=false:=by decide):PE X (.Call (.Name x p) [] [] pos) (DO C sp dvs E AO):=by
 intro pins s σ H Q I h
 refine wpAny_Call_Name_kw (iU I hg hm ?_ hdb)
 exact PySem.W.callWith_K0 I.kIn M.kp (yI (us:=[]) M F hr hb hd hx I .nil h)
end
structure ay (N P:List Str) (sc:Scope):Prop where
 kind:sc.kind= .function
 co:sc.isCoroutine=false
 gen:sc.isGenerator=false
 nd:N.Nodup
 pre:N.take P.length=P
 par:∀x∈P,sc.names.lookup x=some .local∨sc.names.lookup x=some .cell
 nofree:∀y∈sc.names,y.2≠ .free
theorem rP {kindOf:Str→Option NameKind} {x:Str}:∀{binds:List (Str×Value)} {m:Str→Option Value},(∀v,(x,v)∉binds)→bindL kindOf binds m x=m x
 | [],_,_=>rfl
 |(n,v)::r,m,h=>by
  unfold bindL
  rw[rP λw hw=>h w (Qa _ hw)]
  split
  ·have:x≠n:=by rintro rfl;exact h v Q8
   simp[this]
  ·rfl
theorem rR {kindOf:Str→Option NameKind} {x:Str}:∀{binds:List (Str×Value)} {m:Str→Option Value},(∀v,(x,v)∉binds)→bindC kindOf binds m x=m x
 | [],_,_=>rfl
 |(n,v)::r,m,h=>by
  unfold bindC
  rw[rR λw hw=>h w (Qa _ hw)]
  split
  ·rfl
  ·have:x≠n:=by rintro rfl;exact h v Q8
   simp[this]
theorem rQ {kindOf:Str→Option NameKind} {x:Str} {v:Value}:∀{P:List Str} {vs:List Value} {i:Nat} {m:Str→Option Value},P.Nodup→P[i]?=some x→vs[i]?=some v→kindOf x=some .local→
  bindL kindOf (P.zip vs) m x=some v
 | [],_,_,_,_,h,_,_=>by simp at h
 |_::_,[],_,_,_,_,h,_=>by simp at h
 |p::P,w::vs,0,m,nd,h1,h2,hk=>by
  simp at h1 h2;subst h1;subst h2
  show bindL kindOf ((p,w)::P.zip vs) m p=_
  unfold bindL
  rw[rP λv hv=>(QE.mp nd).1 (Xh hv).1,if_pos hk]
  simp
 |p::P,w::vs,i+1,m,nd,h1,h2,hk=>by
  show bindL kindOf ((p,w)::P.zip vs) m x=_
  unfold bindL
  exact rQ (i:=i) (QE.mp nd).2 (by simpa using h1) (by simpa using h2) hk
theorem rS {kindOf:Str→Option NameKind} {x:Str} {v:Value}:∀{P:List Str} {vs:List Value} {i:Nat} {m:Str→Option Value},P.Nodup→P[i]?=some x→vs[i]?=some v→kindOf x≠some .local→
  bindC kindOf (P.zip vs) m x=some v
 | [],_,_,_,_,h,_,_=>by simp at h
 |_::_,[],_,_,_,_,h,_=>by simp at h
 |p::P,w::vs,0,m,nd,h1,h2,hk=>by
  simp at h1 h2;subst h1;subst h2
  show bindC kindOf ((p,w)::P.zip vs) m p=_
  unfold bindC
  rw[rR λv hv=>(QE.mp nd).1 (Xh hv).1,if_neg hk]
  simp
 |p::P,w::vs,i+1,m,nd,h1,h2,hk=>by
  show bindC kindOf ((p,w)::P.zip vs) m x=_
  unfold bindC
  exact rS (i:=i) (QE.mp nd).2 (by simpa using h1) (by simpa using h2) hk
def start (N:List Str) (vs:List V):St:=vs.map some++List.replicate (N.length-vs.length) none
def pI (CX:CXT) (P:Program) (w:World) (K:PySem.W.Frag) (mg:Str→Option Value) (base:Heap) (N:List Str) (qual:Str) (scope:Scope) (f:Addr) (cd:Value) (A:Around) (outer:List Env) (s:Shared) (H:Hp) (E:XK):Cx where
 prog:=P
 w:=w
 K:=K
 mg:=mg
 base:=base
 A:=A.deeper (envOfC qual scope s.heap.objs.size f cd)
 N:=N
 s₀:=s
 H₀:=H
 env:=envOfC qual scope s.heap.objs.size f cd
 outer:=outer
 stack:=envOfC qual scope s.heap.objs.size f cd::outer
 ex:=[]
 calm:=true
 fn:=λ_=>true
 pn:=[]
 xe:=λe s'=>wpAny (model P w) (A.deeper (envOfC qual scope s.heap.objs.size f cd)) (leaving (envOfC qual scope s.heap.objs.size f cd) e) (λ_ s''=>CX outer H s E e s'') (λe' s''=>CX outer H s E e' s'') s'
theorem uJ {sc:Scope} {n:Nat} {x:Str} (h:sc.names.lookup x=some .cell):∃c,(cellsFrom n sc.names []).lookup x=some c:=by
 have q:=PySem.W.cellsFrom_some sc.names n [] (.inl h)
 exact Option.isSome_iff_exists.mp q
theorem xK {CX:CXT} {P:Program} {w:World} {K:PySem.W.Frag} {mg:Str→Option Value} {base:Heap} {N ps:List Str} {qual:Str} {scope:Scope} {f:Addr} {cd:Value} {A:Around} {outer:List Env} {s s1:Shared} {H:Hp} {E:XK} {us:List Value} {vs:List V}
  (S:ay N ps scope) (hd:A.handled=none) (e0:Env0 P w K mg base A outer s H) (hl:vs.length=ps.length) (r:Vals vs us)
  (x:InCallC s s.heap.objs.size (bindL (envOfC qual scope s.heap.objs.size f cd).kindOf (ps.zip us) λ_=>none) (cellsFrom (s.heap.objs.size+1) scope.names []) (bindC (envOfC qual scope s.heap.objs.size f cd).kindOf (ps.zip us) λ_=>none) s1):
  Inv (pI CX P w K mg base N qual scope f cd A outer s H E) [] (start N vs) H s1:=by
 have hpl:ps.length≤N.length:=by have:=congrArg List.length S.pre;rw[Qm]at this;omega
 obtain⟨h1,tk,rfl,hk⟩:=x.done
 have noA:∀b:Addr,b∉(pI CX P w K mg base N qual scope f cd A outer s H E).ex:=λb z=>absurd (show b∈([]:List Addr) from z) (by simp)
 refine⟨⟨e0.mod,S.kind,rfl,rfl,Q6 _,λy z c h1 h2=>?_,λy hy=>?_,λy c _ h=>?_,λ_=>hd,Around.frames_deeper e0.frames,.inr ⟨rfl,rfl⟩,λb z=>absurd z (noA b),e0.bs,e0.bsz,λb _ _=>noA b,λb z=>absurd z (noA b),e0.funs,e0.frf⟩,
  rfl,e0.bare,Un.kept hk,⟨_,x.toInCall.ns,λi y v h1 h2 h3=>?_⟩,λy c h=>⟨_,x.cell y c h⟩,e0.hok.fresh (Q6 _),λy c h=>?_,λp hp=>absurd (show p∈([]:List (Addr×Obj)) from hp) (by simp),e0.hok.kept hk,?_⟩
 ·exact name_of_addr x.apart (PySem.mem_of_lookup h1) (PySem.mem_of_lookup h2)
 ·have hy:scope.names.lookup y=some .cell∨scope.names.lookup y=some .free:=hy
  rcases hy with hy|hy
  ·exact uJ hy
  ·exact absurd rfl (S.nofree _ (PySem.mem_of_lookup hy))
 ·exact Zp (x.above y c (PySem.mem_of_lookup h))
 ·have hi:i<vs.length:=by
   unfold start at h2
   by_cases hi:i<vs.length
   ·exact hi
   ·rw[Zh (by simpa using hi)]at h2
    rw[List.getElem?_replicate]at h2
    split at h2<;>cases h2
  have ha:vs[i]?=some v:=by
   unfold start at h2
   rw[Zl (by simpa using hi),Ql]at h2
   cases e:vs[i]? with
   |none=>rw[e]at h2;cases h2
   |some a=>rw[e]at h2;cases h2;rfl
  obtain⟨u,hu,rv⟩:=r.get ha
  have hp:ps[i]?=some y:=by
   rw[←S.pre,List.getElem?_take_of_lt (by omega)];exact h1
  have ndP:ps.Nodup:=by rw[←S.pre];exact S.nd.sublist (List.take_sublist _ _)
  refine⟨u,rv,?_⟩
  rcases S.par y (Q3 hp)with k|k
  ·exact .inl ⟨k,rQ ndP hp hu k⟩
  ·obtain⟨c,e⟩:=uJ (n:=s.heap.objs.size+1) k
   refine .inr ⟨.inl k,c,e,?_⟩
   have q:=x.cell y c e
   rw[rS ndP hp hu (by show scope.names.lookup y≠_;rw[k];decide)]at q
   exact q
 ·exact e0.hok.fresh (Zp (x.above y c (PySem.mem_of_lookup h)))
 ·unfold start
  show _=N.length
  rw[Qg,Q0,Zj]
  omega
theorem Cz {CX:CXT} {P:Program} {w:World} {K:PySem.W.Frag} {mg:Str→Option Value} {base:Heap} {k:Nat} {f:Addr} {name qual:Str} {params:Arguments} {body:List Stmt} {scope:Scope} {dV kV doc pm cdv ct oc:Value} {an od:Option Addr}
  {osl:Array (Option Value)} {N ps:List Str} {sp:Sp} (lk:K.lookup f=some ⟨oc,od,.func (PySem.W.fnOf name qual params body scope dV kV doc pm an cdv ct),osl⟩) (hcd:PySem.W.codeIn K cdv qual=true) (S:ay N ps scope)
  (len:∀vs H Q E,sp vs H Q E→vs.length=ps.length)
  (hbody:∀(A:Around) (outer:List Env) (s:Shared) (H:Hp) (vs:List V) (Q:VK) (E:XK),Room k (A.deeper (envOfC qual scope s.heap.objs.size f cdv))→sp vs H Q E→
   ∃t,PSs (pI CX P w K mg base N qual scope f cdv A outer s H E) body t∧t {nx:=λ_ H'=>Q .non H',rt:=Q} (start N vs) H):
  aX P w K mg base CX (k+1) f (PySem.W.fnOf name qual params body scope dV kV doc pm an cdv ct) ps sp:=by
 refine⟨len,λA outer s H args us vs Q E hr e0 hb r hsp=>?_⟩
 have hl:=len _ _ _ _ hsp
 have KX:K.In s.heap:=e0.mod.kin.keeps λb o e=>(e0.bs b o e).1
 have lim:s.heap.NoLimit:=e0.mod.nolimit.keeps λb o e=>(e0.bs b o e).1
 have hkind:∀y∈ps.zip us,scope.names.lookup y.1=some .local∨(scope.names.lookup y.1=some .cell∧((cellsFrom (s.heap.objs.size+1) scope.names []).lookup y.1).isSome=true):=λ⟨n,v⟩ hy=>by
  rcases S.par n (Xh hy).1 with q|q
  ·exact .inl q
  ·exact .inr ⟨q,PySem.W.cellsFrom_some _ _ _ (.inl q)⟩
 refine codeAny_call_function hr.depth (KX _ _ lk) rfl S.co S.gen rfl (PySem.W.codeRec_of KX hcd) (hb _ _ _ _ ?_)
 refine wpAny_newFunctionEnv_cells S.kind hkind λenv he s1 x=>?_
 subst he
 refine⟨lim.keeps x.toInCall.keep,codeAny_func ?_⟩
 obtain⟨t,ht,hq⟩:=hbody A outer s H vs Q E (hr.deeper _) hsp
 have I:Inv (pI CX P w K mg base N qual scope f cdv A outer s H E) [] (start N vs) H s1:=xK S hr.hd e0 hl r x
 refine wpAny_mono (ht [] s1 (start N vs) H _ I hq) (λfl s' hs=>?_) λe s' hs=>hs
 have fin:∀{σ':St} {H':Hp} {v:V} {u:Value},Inv (pI CX P w K mg base N qual scope f cdv A outer s H E) [] σ' H' s'→RelV v u→Q v H'→CE outer P w H s Q u s':=
  λ{σ' H' v u} J rv q=>⟨v,H',J.os,J.bare,J.base,J.hok,rv,q⟩
 cases fl with
 |ret u=>
  obtain⟨v,σ',H',J,rv,q⟩:=hs
  exact fin J rv q
 |next=>
  obtain⟨σ',H',J,q⟩:=hs
  exact fin (v:=V.non) (u:=Value.none) J rfl q
 |brk=>
  obtain⟨_,_,_,q⟩:=hs
  exact False.elim q
 |cont=>
  obtain⟨_,_,_,q⟩:=hs
  exact False.elim q
end L2
namespace L2
open PySem PySem.Spec PyProof.Rows
section
variable {X:Cx} {x:Str} {p pos:Pos} {e:Expr} {es:List Expr} {t:TA} {id T:String} {r:List V→Hp→VK→Prop}
def tCB (r:List V→Hp→VK→Prop) (t:TA):TE:=λσ H Q=>t σ H λvs H1=>r vs H1 Q
theorem ax (hc:eJ X (.builtin id) r) (hg:Gl X x) (hm:X.mg x=none) (hv:bootBuiltins x=some (.builtin id)) (ha:PA X (e::es) t) (hn:x≠"__name__":=by decide) (hdb:(x==("__debug__":Str))=false:=by decide)
  (he:starEach (e::es) X.env=(false,eval e X.env)::starEach es X.env:=by rfl) (hpl:(backTo pos (starEach es X.env)).any (·.1)=false:=by rfl):PE X (.Call (.Name x p) (e::es) [] pos) (tCB r t):=by
 intro pins s σ H Q I h
 refine wpAny_Call_Name_kw (lV I hg hm hv ?_ hn hdb)
 exact PyProof.Rows.callWith_builtin1 (thn (ha pos pins s σ H _ I h) λus s1 ⟨vs,H1,I1,r1,q1⟩=>hc pins s1 σ H1 vs us Q I1 r1 q1) he hpl
end
end L2
namespace HT
open PySem PyProof.Rows
def lexLt:List Int→List Int→Bool
 | [],[]=>false
 | [],_::_=>true
 |_::_,[]=>false
 |x::xs,y::ys=>if x=y then lexLt xs ys else decide (x<y)
theorem lexLt_cons (x y:Int) (xs ys:List Int):lexLt (x::xs) (y::ys)=if x=y then lexLt xs ys else decide (x<y):=rfl
theorem lexLt_nil_nil:lexLt [] []=false:=rfl
theorem lexLt_nil_cons (y:Int) (ys:List Int):lexLt [] (y::ys)=true:=rfl
theorem lexLt_cons_nil (x:Int) (xs:List Int):lexLt (x::xs) []=false:=rfl
section
variable {prog:Program} {w:World} {A:Around} {E:Value→Shared→Prop} {s:Shared}
def sIx (n d:Nat):Option Int→Nat
 |none=>d
 |some v=>if v<0 then(v+(n:Int)).toNat else min v.toNat n
end
end HT
namespace L2
open PySem PySem.Spec PyProof.Rows
abbrev TO:=St→Hp→(Option Int→Hp→Prop)→Prop
def PO (X:Cx) (e:Option Expr) (t:TO):Prop:=
 ∀(pins:List (Addr×Obj)) (s:Shared) (σ:St) (H:Hp) (Q:Option Int→Hp→Prop),Inv X pins σ H s→t σ H Q→
  wpAny (model X.prog X.w) X.A (evalPart e X.env) (λu s'=>∃o H',Inv X pins σ H' s'∧IsPart u o∧Q o H') X.xe s
def AN:TO:=λ_ H Q=>Q none H
def DL (t:TE):TO:=λσ H Q=>t σ H λx H1=>∃i,x= .int i∧Q (some i) H1
theorem jU {ns:List Int}:∀{us:List Value},Vals (ns.map V.int) us→IntsAre us ns:=by
 induction ns with
 |nil=>intro us r;rw[List.map_nil]at r;cases r;exact .nil
 |cons n ns ih=>
  intro us r
  rw[Qr]at r
  cases r with
  |cons r1 r2=>
   obtain⟨t,e⟩:=r1
   subst e
   exact .cons n t (ih r2)
section
variable {X:Cx} {e:Expr} {te:TE} {lo hi:Option Expr} {tl th:TO} {pos p2:Pos}
theorem kr:PO X none AN:=by
 intro pins s σ H Q I h
 rw[evalPart_none]
 exact wpAny_pure ⟨none,H,I,.none,h⟩
theorem kq (h:PE X e te):PO X (some e) (DL te):=by
 intro pins s σ H Q I hw
 rw[evalPart_some]
 refine thn (h pins s σ H _ I hw) λu s1 hzz=>?_
 obtain⟨x,H1,I1,r1,q1⟩:=hzz
 obtain⟨i,rfl,q⟩:=q1
 obtain⟨t,rfl⟩:=r1
 exact⟨some i,H1,I1,.int i t,q⟩
def SlR (X:Cx) (r:V→Option Int→Option Int→Hp→VK→Prop):Prop:=
 ∀(pins:List (Addr×Obj)) (s:Shared) (σ:St) (H:Hp) (x:V) (v vl vu:Value) (lo hi:Option Int) (sl:Addr) (Q:VK),Inv X pins σ H s→RelV x v→s.heap.IsSliceOf sl vl vu .none→IsPart vl lo→IsPart vu hi→r x lo hi H Q→
  ∃T id,typeLookup (.type T) "__getitem__"=pure (some (.builtin id))∧s.TypeIs v T∧wpAny (model X.prog X.w) X.A (getItem v (.ref sl)) (EP X pins σ Q) X.xe s
def tSl (r:V→Option Int→Option Int→Hp→VK→Prop) (te:TE) (tl th:TO):TE:=λσ H Q=>te σ H λx H1=>tl σ H1 λl H2=>th σ H2 λu H3=>r x l u H3 Q
theorem ii {r:V→Option Int→Option Int→Hp→VK→Prop} (hr:SlR X r) (he:PE X e te) (hl:PO X lo tl) (hu:PO X hi th):PE X (.Subscript e (.Slice lo hi none p2) pos) (tSl r te tl th):=by
 intro pins s σ H Q I h
 refine Subscript_ (thn (he pins s σ H _ I h) λv s1 hzz=>?_)
 obtain⟨x,H1,I1,r1,q1⟩:=hzz
 refine wpAny_Slice (thn (hl pins s1 σ H1 _ I1 q1) λvl s2 ⟨l,H2,I2,pl,q2⟩=>thn (hu pins s2 σ H2 _ I2 q2) λvu s3 hzz=>?_)
 obtain⟨u,H3,I3,pu,q3⟩:=hzz
 rw[evalPart_none]
 refine wpAny_pure ?_
 have I4:Inv X pins σ H3 {s3 with heap:=s3.heap.push {cls:= .type "slice",data:= .fields #[vl,vu,.none]}}:=I3.kept (t':=s3.toks) λb ob q=>Heap.get?_push_of_some _ q
 obtain⟨T,id,hT,ht,hg⟩:=hr pins {s3 with heap:=s3.heap.push {cls:= .type "slice",data:= .fields #[vl,vu,.none]}} σ H3 x v vl vu l u s3.heap.objs.size Q I4 r1 (Heap.IsSliceOf.new ..) pl pu q3
 show wpAny (model X.prog X.w) X.A (subscriptTail e (.Slice lo hi none p2) v (.ref s3.heap.objs.size)) (EP X pins σ Q) X.xe {s3 with heap:=s3.heap.push {cls:= .type "slice",data:= .fields #[vl,vu,.none]}}
 exact tail_any (ops:=[.ref s3.heap.objs.size,v]) ht hT hg (by with_unfolding_all rfl)
def pK (xs:List V) (lo hi:Option Int):List V:=(xs.drop (HT.sIx xs.length 0 lo)).take (HT.sIx xs.length xs.length hi-HT.sIx xs.length 0 lo)
theorem uH (xs:List V) (lo hi:Option Int):(pK xs lo hi).length≤xs.length:=by
 unfold pK
 rw[Qm,QI]
 omega
end
end L2
namespace L2
open PySem PySem.Spec PyProof.Rows
def ixN (n:Nat) (i:Int):Option Nat:=if 0≤i then(if i<n then some i.toNat else none)else if-(n:Int)≤i then some (i+n).toNat else none
def atI {α:Type} (xs:List α) (i:Int):Option α:=(ixN xs.length i).bind λj=>xs[j]?
theorem wD {n:Nat} {i:Int} {j:Nat} (h:ixN n i=some j):seqIndex? i n=some j∧j<n∧-(n:Int)≤i∧i<n:=by
 unfold ixN at h
 by_cases h0:0≤i
 ·rw[if_pos h0]at h
  by_cases h1:i<n
  ·rw[if_pos h1]at h
   have e:i.toNat=j:=Option.some.inj h
   exact⟨by rw[seqIndex_of h0 h1,e],by omega,by omega,h1⟩
  ·rw[if_neg h1]at h;cases h
 ·rw[if_neg h0]at h
  by_cases h1: -(n:Int)≤i
  ·rw[if_pos h1]at h
   have e:(i+n).toNat=j:=Option.some.inj h
   exact⟨by rw[seqIndex_neg (by omega) h1,e],by omega,h1,by omega⟩
  ·rw[if_neg h1]at h;cases h
theorem wU {α:Type} {xs:List α} {i:Int} {v:α} (h:atI xs i=some v):∃j,seqIndex? i xs.length=some j∧xs[j]?=some v∧j<xs.length∧-(xs.length:Int)≤i∧i<xs.length:=by
 unfold atI at h
 cases e:ixN xs.length i with
 |none=>rw[e]at h;cases h
 |some j=>
  rw[e]at h
  obtain⟨h1,h2,h3,h4⟩:=wD e
  exact⟨j,h1,h,h2,h3,h4⟩
theorem tF {α:Type} {xs:List α} {j:Nat} {v:α} (h:xs[j]?=some v):atI xs (j:Int)=some v:=by
 have hj:j<xs.length:=(Q4.mp h).1
 have e:ixN xs.length (j:Int)=some j:=by
  unfold ixN
  rw[if_pos (by omega),if_pos (by omega)];simp
 unfold atI;rw[e];exact h
theorem zR {α:Type} (xs:List α) (v:α):atI (xs++ [v]) (-1)=some v:=by
 have hl:(xs++ [v]).length=xs.length+1:=by simp
 have e:ixN (xs++ [v]).length (-1)=some xs.length:=by
  unfold ixN
  rw[hl,if_neg (by decide),if_pos (by omega)]
  congr 1
  omega
 unfold atI
 rw[e]
 show(xs++ [v])[xs.length]?=some v
 simp
def BY (b:Expr):Prop:=∀o i,subscripted b false o i=operate [o,i] (getItem o i)
def IxR (X:Cx) (r:R2):Prop:=
 ∀(value slice:Expr) (pins:List (Addr×Obj)) (s:Shared) (σ:St) (H:Hp) (x y:V) (v u:Value) (Q:VK),Inv X pins σ H s→RelV x v→RelV y u→r x y H Q→
  subscripted slice false v u=operate [v,u] (getItem v u)→wpAny (model X.prog X.w) X.A (subscriptTail value slice v u) (EP X pins σ Q) X.xe s
def MtR (X:Cx) (id:String) (r:V→List V→Hp→VK→Prop):Prop:=
 ∀(pins:List (Addr×Obj)) (s:Shared) (σ:St) (H:Hp) (x:V) (xs:List V) (v:Value) (us:List Value) (Q:VK),Inv X pins σ H s→RelV x v→Vals xs us→r x xs H Q→
  wpAny (model X.prog X.w) X.A (call (.builtin id) (v::us)) (EP X pins σ Q) X.xe s
section
variable {X:Cx} {a b:Expr} {ta tb:TE} {pos:Pos}
theorem br {r:R2} (hr:IxR X r) (ha:PE X a ta) (hb:PE X b tb) (hs:BY b):PE X (.Subscript a b pos) (tOp r ta tb):=by
 intro pins s σ H Q I h
 exact Subscript_ (Dz ha hb I h λv u s2 x y H2 I2 rx ry q=>hr a b pins s2 σ H2 x y v u Q I2 rx ry q (hs _ _))
def rIxL (K:PySem.W.Frag):R2:=λx y H Q=>∃p xs i v,x= .ref p∧y= .int i∧SqL K H p xs∧atI xs i=some v∧Q v H
def rIxT (K:PySem.W.Frag):R2:=λx y H Q=>∃p xs i v,x= .ref p∧y= .int i∧SqT K H p xs∧atI xs i=some v∧Q v H
theorem a7:IxR X (rIxL X.K):=by
 intro value slice pins s σ H x y v u Q I rx ry h hs
 obtain⟨p,xs,i,z,rfl,rfl,hq,he,q⟩:=h
 cases rx
 obtain⟨t,rfl⟩:=ry
 obtain⟨its,r,pl,hz⟩:=I.list hq
 obtain⟨j,h1,h2,h3,h4,h5⟩:=wU he
 obtain⟨w,ew,rw'⟩:=r.get h2
 have hl:=r.length
 have hn:=pq
 have fin:EP X pins σ Q w s:=⟨z,H,I,rw',q⟩
 by_cases h0:0≤i
 ·have hj:i.toNat=j:=by
   rw[seqIndex_of h0 h5]at h1
   exact Option.some.inj h1
  exact item_listR pl.isList h0 (by omega) (by rw[hj];simpa using ew) fin hs
 ·have hj:(i+(its.toArray.size:Int)).toNat=j:=by
   rw[seqIndex_neg (by omega) h4]at h1
   rw[Qi,←hl]
   exact Option.some.inj h1
  exact subscriptTail_builtinR (x:=w) pl.isList.typeIs slot_list_getitem.lookup
   (wpAny_getItem_list_neg (Q:=λr s'=>r=w∧EP X pins σ Q r s') pl.isList (by omega) (by rw[Qi]<;>omega) (by omega) (by rw[hj];simpa using ew) ⟨rfl,fin⟩) hs
theorem sV:IxR X (rIxT X.K):=by
 intro value slice pins s σ H x y v u Q I rx ry h hs
 obtain⟨p,xs,i,z,rfl,rfl,hq,he,q⟩:=h
 cases rx
 obtain⟨t,rfl⟩:=ry
 obtain⟨its,r,pl,hz⟩:=I.tuple hq
 obtain⟨j,h1,h2,h3,h4,h5⟩:=wU he
 obtain⟨w,ew,rw'⟩:=r.get h2
 have hl:=r.length
 have hn:=pq
 have fin:EP X pins σ Q w s:=⟨z,H,I,rw',q⟩
 exact subscriptTail_builtinR (x:=w) pl.typeIs slot_tuple_getitem.lookup
  (getItem_tuple (j:=j) (Q:=λr s'=>r=w∧EP X pins σ Q r s') pl (by omega) (by omega) (by rw[Qi,←hl];exact h1) (by simpa using ew) ⟨rfl,fin⟩) hs
theorem vA (its:List Value) (n j:Nat) (u:Value):Obj.mapSeq (·.setIfInBounds j u) {cls:= .type "list",data:= .seq its.toArray n}={cls:= .type "list",data:= .seq (its.set j u).toArray n}:=by
 simp[Obj.mapSeq]
theorem Inv.lst {pins:List (Addr×Obj)} {σ:St} {H:Hp} {s:Shared} {p:Addr} {xs:List V} (I:Inv X pins σ H s) (h:H p=some (.lst xs)):
  ∃(its:List Value) (n:Nat),Vals xs its∧s.heap.get? p=some {cls:= .type "list",data:= .seq its.toArray n}∧xs.length≤sizeLine:=by
 obtain⟨z,its,n,r,e⟩:=I.hok p _ h
 exact⟨its,n,r,e,z⟩
theorem Inv.lstUpd {pins:List (Addr×Obj)} {σ:St} {H:Hp} {s:Shared} {p:Addr} {xs ys:List V} {its its':List Value} {n n':Nat} {f:Obj→Obj} (I:Inv X pins σ H s) (h:H p=some (.lst xs))
  (ho:s.heap.get? p=some {cls:= .type "list",data:= .seq its.toArray n}) (hf:f {cls:= .type "list",data:= .seq its.toArray n}={cls:= .type "list",data:= .seq its'.toArray n'}) (r:Vals ys its') (hz:ys.length≤sizeLine) (t:Nat):
  Inv X pins σ (upd H p (.lst ys)) {s with heap:=s.heap.update p f,toks:=t}:=by
 have e:(s.heap.update p f).get? p=some {cls:= .type "list",data:= .seq its'.toArray n'}:=by
  rw[Heap.get?_update_self f ho (by rw[hf]<;>rfl),hf]
 refine I.write (x:=p) (e:=p) (by rw[h];trivial) (.inl rfl) (λb u hb q=>(Heap.get?_update_other _ _ (Ne.symm hb)).trans q) ⟨_,e⟩ ?_
 exact⟨hz,its',n',r,e⟩
def D3:V→V→V→Hp→(Hp→Prop)→Prop:=λo i v H Q=>∃p xs k j,o= .ref p∧i= .int k∧H p=some (.lst xs)∧ixN xs.length k=some j∧Q (upd H p (.lst (xs.set j v)))
theorem n9:PSet X D3:=by
 intro pins s σ H o i v ov iv u Q I ro ri rv h
 obtain⟨p,xs,k,j,rfl,rfl,hp,hj,q⟩:=h
 cases ro
 obtain⟨t,rfl⟩:=ri
 obtain⟨its,n,r,ho,hz⟩:=I.lst hp
 obtain⟨h1,h2,h3,h4⟩:=wD hj
 have hl:=r.length
 have hn:=pq
 have I':Inv X pins σ (upd H p (.lst (xs.set j v))) {s with heap:=s.heap.update p (Obj.mapSeq (·.setIfInBounds j u))}:=
  I.lstUpd hp ho (vA its n j u) (r.set rv j) (by rw[QF];exact hz) s.toks
 by_cases h0:0≤k
 ·have hk:k.toNat=j:=by
   rw[seqIndex_of h0 h4]at h1
   exact Option.some.inj h1
  exact PySem.W.ki_setAt ho h0 (by omega) (by rw[Qi,←hl];exact h4) (by rw[hk];exact⟨_,I',q⟩)
 ·have hk:(k+(its.toArray.size:Int)).toNat=j:=by
   rw[seqIndex_neg (by omega) h3]at h1
   rw[Qi,←hl]
   exact Option.some.inj h1
  exact PySem.W.ki_setBack ho (by omega) (by rw[Qi,←hl];exact h3) (by omega) (by rw[hk];exact⟨_,I',q⟩)
theorem sk (lo hi:Option Int) (n:Nat):(sliceBounds lo hi none n).1=((HT.sIx n 0 lo:Nat):Int)∧(sliceBounds lo hi none n).2.1=((HT.sIx n n hi:Nat):Int)∧(sliceBounds lo hi none n).2.2=1:=by
 refine⟨?_,?_,rfl⟩
 ·cases lo with
  |none=>simp[sliceBounds,HT.sIx]
  |some i=>
   simp only[sliceBounds,HT.sIx,Option.getD_none,show(1:Int)>0 by decide,if_true]
   by_cases h:i<0
   ·simp only[h,if_true]<;>omega
   ·simp only[h,if_false]<;>omega
 ·cases hi with
  |none=>simp[sliceBounds,HT.sIx]
  |some i=>
   simp only[sliceBounds,HT.sIx,Option.getD_none,show(1:Int)>0 by decide,if_true]
   by_cases h:i<0
   ·simp only[h,if_true]<;>omega
   ·simp only[h,if_false]<;>omega
theorem qc (its:List Value) (lo hi:Option Int):slicePick its.toArray lo hi none=((its.drop (HT.sIx its.length 0 lo)).take (HT.sIx its.length its.length hi-HT.sIx its.length 0 lo)).toArray:=by
 obtain⟨h1,h2,h3⟩:=sk lo hi its.toArray.size
 unfold slicePick
 rw[h1,h2,h3]
 simp only[sliceRange_one,pick_run,Qi]<;>rfl
def rSlL (K:PySem.W.Frag):V→Option Int→Option Int→Hp→VK→Prop:=λx lo hi H Q=>∃a xs,x= .ref a∧SqL K H a xs∧∀p,H p=none→Q (.ref p) (upd H p (.lst (pK xs lo hi)))
theorem kh:SlR X (rSlL X.K):=by
 intro pins s σ H x v vl vu lo hi sl Q I rx hs pl pu h
 obtain⟨a,xs,rfl,hx,q⟩:=h
 cases rx
 obtain⟨its,r,ht,hz⟩:=I.list hx
 have hlen:=r.length
 refine⟨"list",_,slot_list_getitem.lookup,ht.isList.typeIs,?_⟩
 refine wpAny_getItem_list_slice ht.isList hs pl pu .none (by simp) ?_ (by rw[Qi]<;>omega)
 rw[qc,←hlen]
 refine⟨.ref s.heap.objs.size,_,I.laid (t':=s.toks) (o:= .lst (pK xs lo hi)) (λb ob q=>Heap.get?_push_of_some _ q) (Q6 _) ?_,rfl,q _ (I.hok.fresh (Q6 _))⟩
 exact⟨Z2 (uH xs lo hi) hz,_,0,(r.drop (HT.sIx xs.length 0 lo)).take (HT.sIx xs.length xs.length hi-HT.sIx xs.length 0 lo),Heap.get?_push_size _ rfl⟩
def kN:V→Bool
 | .non=>true
 | .bl _=>true
 | .int _=>true
 | .str _=>true
 |_=>false
def eqV:V→V→Bool
 | .non,.non=>true
 | .bl a,.bl b=>a==b
 | .bl a,.int b=>(if a then 1 else 0)==b
 | .int a,.bl b=>a==(if b then 1 else 0)
 | .int a,.int b=>a==b
 | .str a,.str b=>a==b
 |_,_=>false
theorem Dt {A:Around} {s:Shared} {y x:V} {u v:Value} (ry:RelV y u) (rx:RelV x v) (fy:kN y=true) (fx:kN x=true):SeqAt.EqAt A s u v (eqV y x):=by
 cases y with
 |non=>
  cases ry
  cases x with
  |non=>cases rx;exact SeqAt.EqAt.same _
  |bl b=>cases rx;exact SeqAt.EqAt.none_bool b
  |int b=>obtain⟨t,rfl⟩:=rx;exact SeqAt.EqAt.none_int b t
  |str b=>obtain⟨t,rfl⟩:=rx;exact SeqAt.EqAt.none_str b t
  |_=>exact absurd (show false=true from fx) Qc
 |bl a=>
  cases ry
  cases x with
  |non=>cases rx;exact SeqAt.EqAt.bool_none a
  |bl b=>cases rx;exact SeqAt.EqAt.bool_bool a b
  |int b=>obtain⟨t,rfl⟩:=rx;exact SeqAt.EqAt.bool_int a b t
  |str b=>obtain⟨t,rfl⟩:=rx;exact SeqAt.EqAt.bool_str a b t
  |_=>exact absurd (show false=true from fx) Qc
 |int a=>
  obtain⟨t',rfl⟩:=ry
  cases x with
  |non=>cases rx;exact SeqAt.EqAt.int_none a t'
  |bl b=>cases rx;exact SeqAt.EqAt.int_bool a t' b
  |int b=>obtain⟨t,rfl⟩:=rx;exact SeqAt.EqAt.int_int a t' b t
  |str b=>obtain⟨t,rfl⟩:=rx;exact SeqAt.EqAt.int_str a t' b t
  |_=>exact absurd (show false=true from fx) Qc
 |str a=>
  obtain⟨t',rfl⟩:=ry
  cases x with
  |non=>cases rx;exact SeqAt.EqAt.str_none a t'
  |bl b=>cases rx;exact SeqAt.EqAt.str_bool a t' b
  |int b=>obtain⟨t,rfl⟩:=rx;exact SeqAt.EqAt.str_int a t' b t
  |str b=>obtain⟨t,rfl⟩:=rx;exact SeqAt.EqAt.str_str a t' b t
  |_=>exact absurd (show false=true from fx) Qc
 |_=>exact absurd (show false=true from fy) Qc
def eqU (x:V) (u:Value):Bool:=match u with
 | .none=>eqV .non x
 | .bool b=>eqV (.bl b) x
 | .int i _=>eqV (.int i) x
 | .str z _=>eqV (.str z) x
 |_=>false
theorem zH {x y:V} {u:Value} (r:RelV y u) (f:kN y=true):eqU x u=eqV y x:=by
 cases y with
 |non=>cases r;rfl
 |bl b=>cases r;rfl
 |int i=>obtain⟨t,rfl⟩:=r;rfl
 |str z=>obtain⟨t,rfl⟩:=r;rfl
 |_=>exact absurd (show false=true from f) Qc
theorem tG {x:V}:∀{xs:List V} {us:List Value},Vals xs us→xs.all kN=true→us.any (eqU x)=xs.any λy=>eqV y x
 |_,_,.nil,_=>rfl
 |y::xs,u::us,.cons r t,f=>by
  rw[List.all_cons,Zt]at f
  rw[ZW,ZW,zH r f.1,tG t f.2]
theorem pe {A:Around} {s:Shared} {x:V} {v:Value} (rx:RelV x v) (fx:kN x=true):∀{xs:List V} {us:List Value},Vals xs us→xs.all kN=true→∀u∈us,SeqAt.EqAt A s u v (eqU x u)
 |_,_,.nil,_=>λu hu=>by cases hu
 |y::xs,u::us,.cons r t,f=>λu' hu=>by
  rw[List.all_cons,Zt]at f
  rcases Qe.mp hu with rfl|hu
  ·rw[zH r f.1];exact Dt r rx f.1 fx
  ·exact pe rx fx t f.2 u' hu
def inV (x:V) (xs:List V):Bool:=xs.any λy=>eqV y x
def rIn (K:PySem.W.Frag) (neg:Bool):R2:=λx y H Q=>∃p xs,y= .ref p∧(SqL K H p xs∨SqT K H p xs)∧kN x=true∧xs.all kN=true∧Q (.bl (if neg then !inV x xs else inV x xs)) H
theorem xt:OpR X (compareOp .In) (rIn X.K false):=by
 intro pins s σ H x y v u Q I rx ry h
 obtain⟨p,xs,rfl,hq,fx,fs,q⟩:=h
 cases ry
 rcases hq with hq|hq
 ·obtain⟨its,r,pl,hz⟩:=I.list hq
  refine SeqAt.in_listAt (eqU x) pl.isList (λw hw=>pe rx fx r fs w (by simpa using hw)) ⟨.bl _,H,I,rfl,?_⟩
  rw[show its.toArray.any (eqU x)=its.any (eqU x) by simp,tG r fs]
  exact q
 ·obtain⟨its,r,pl,hz⟩:=I.tuple hq
  refine SeqAt.in_tupleAt (eqU x) pl (λw hw=>pe rx fx r fs w (by simpa using hw)) ⟨.bl _,H,I,rfl,?_⟩
  rw[show its.toArray.any (eqU x)=its.any (eqU x) by simp,tG r fs]
  exact q
theorem aA:eJ X (.builtin "len") (λxs H Q=>∃p ys,xs=[.ref p]∧(SqL X.K H p ys∨SqT X.K H p ys)∧Q (.int ys.length) H):=by
 intro pins s σ H xs us Q I r h
 obtain⟨p,ys,rfl,hq,q⟩:=h
 obtain⟨u,rfl,rx⟩:=j9 r
 cases rx
 have hn:=pq
 rcases hq with hq|hq
 ·obtain⟨its,r',pl,hz⟩:=I.list hq
  have hlen:=r'.length
  exact Calls.call_len_list pl.isList (by simp only[Qi]<;>omega) ⟨.int ys.length,H,I.tok _,⟨s.toks+1,by rw[Qi,hlen]⟩,q⟩
 ·obtain⟨its,r',pl,hz⟩:=I.tuple hq
  have hlen:=r'.length
  exact len_tuple pl (by simp only[Qi]<;>omega) ⟨.int ys.length,H,I.tok _,⟨s.toks+1,by rw[Qi,hlen]⟩,q⟩
def tyV (K:PySem.W.Frag) (T:String) (x:V) (H:Hp):Prop:=match x with
 | .str _=>T="str"
 | .int _=>T="int"
 | .ref p=>(T="list"∧∃xs,SqL K H p xs)∨(T="tuple"∧∃o,K.lookup p=some o∧o.cls= .type "tuple"∧o.dict=none)∨
   (T="dict"∧((∃kvs,H p=some (.dK kvs))∨∃kvs,H p=some (.dT kvs)))∨(T="set"∧∃S n,H p=some (.set S n))
 |_=>False
theorem yq {pins:List (Addr×Obj)} {σ:St} {H:Hp} {s:Shared} {T:String} {x:V} {v:Value} (I:Inv X pins σ H s) (r:RelV x v) (ty:tyV X.K T x H):
  s.TypeIs v T∧∀a,v= .ref a→∃ob,s.heap.get? a=some ob∧ob.dict=none:=by
 cases x with
 |str z=>
  obtain⟨t,rfl⟩:=r
  cases (show T="str" from ty)
  exact⟨typeIs_str s z t,λ_ e=>nomatch e⟩
 |int i=>
  obtain⟨t,rfl⟩:=r
  cases (show T="int" from ty)
  exact⟨typeIs_int s i t,λ_ e=>nomatch e⟩
 |ref p=>
  cases r
  rcases ty with⟨rfl,xs,hq⟩|⟨rfl,o,hk,hc,hd⟩|⟨rfl,hk⟩|⟨rfl,S,n,hk⟩
  ·obtain⟨its,_,pl,_⟩:=I.list hq
   refine⟨pl.isList.typeIs,λa e=>?_⟩
   cases e
   obtain⟨o,n,e,c,hd,_⟩:=pl
   exact⟨o,e,hd⟩
  ·refine⟨⟨o,I.kIn p o hk,hc⟩,λa e=>?_⟩
   cases e
   exact⟨o,I.kIn _ o hk,hd⟩
  ·have z:∃o,s.heap.get? p=some o∧o.ExactDict:=by
    rcases hk with⟨kvs,hk⟩|⟨kvs,hk⟩
    ·obtain⟨_,_,_,_,o,_,_,e,ex,_⟩:=I.hok p _ hk
     exact⟨o,e,ex⟩
    ·obtain⟨_,_,_,_,o,_,_,e,ex,_⟩:=I.hok p _ hk
     exact⟨o,e,ex⟩
   obtain⟨o,e,ex⟩:=z
   refine⟨⟨o,e,ex.1⟩,λa e2=>?_⟩
   cases e2
   exact⟨o,e,ex.2.1⟩
  ·obtain⟨o,_,_,_,e,ex,_⟩:=I.hok p _ hk
   refine⟨⟨o,e,ex.1⟩,λa e2=>?_⟩
   cases e2
   exact⟨o,e,ex.2.1⟩
 |_=>exact False.elim ty
def tBM0 (K:PySem.W.Frag) (T:String) (r:V→List V→Hp→VK→Prop) (to:TE):TE:=λσ H Q=>to σ H λx H1=>tyV K T x H1∧r x [] H1 Q
def tBM (K:PySem.W.Frag) (T:String) (r:V→List V→Hp→VK→Prop) (to:TE) (t:TA):TE:=λσ H Q=>to σ H λx H1=>tyV K T x H1∧t σ H1 λxs H2=>r x xs H2 Q
variable {o e:Expr} {es:List Expr} {to:TE} {t:TA} {name:Str} {apos cpos:Pos} {T id:String} {r:V→List V→Hp→VK→Prop}
theorem lM (pa:PlainAttrs T) (slot:Slot T name id) (hty:typeOf (.builtin id)=pure (.type "method_descriptor")) (hm:MtR X id r) (ho:PE X o to)
  (hbase:attributeBase o name X.env (eval o X.env)=eval o X.env:=by rfl) (hline:(apos.endLine==cpos.line)=true:=by rfl):PE X (.Call (.Attribute o name apos) [] [] cpos) (tBM0 X.K T r to):=by
 intro pins s σ H Q I h
 refine wpAny_Call_method0_late hbase hline (thn (ho pins s σ H _ I h) λv s1 hzz=>?_)
 obtain⟨x,H1,I1,r1,ty,q1⟩:=hzz
 obtain⟨h1,h2⟩:=yq I1 r1 ty
 exact⟨T,id,pa,slot,hty,h1,h2,Calls.callWith_builtin rfl (PySem.evalArgs_none (hm pins s1 σ H1 x [] v [] Q I1 r1 .nil q1))⟩
theorem cM (pa:PlainAttrs T) (slot:Slot T name id) (hty:typeOf (.builtin id)=pure (.type "method_descriptor")) (hm:MtR X id r) (ho:PE X o to) (ha:PA X (e::es) t)
  (hbase:attributeBase o name X.env (eval o X.env)=eval o X.env:=by rfl)
  (hfew:((backTo cpos (starEach (e::es) X.env)).all (λx=>!x.1)&&(backToKw cpos (keywordEach [] X.env)).all (λx=>x.1.isSome)
   &&decide ((e::es).length+([]:List Keyword).length+(if([]:List Keyword).isEmpty then 0 else 1)<30))=true:=by rfl)
  (hline:(apos.endLine==cpos.line)=true:=by rfl) (hs:starEach (e::es) X.env=(false,eval e X.env)::starEach es X.env:=by rfl) (hplain:(backTo cpos (starEach es X.env)).any (·.1)=false:=by rfl):
  PE X (.Call (.Attribute o name apos) (e::es) [] cpos) (tBM X.K T r to t):=by
 intro pins s σ H Q I h
 refine wpAny_Call_method_late hbase hfew hline rfl (thn (ho pins s σ H _ I h) λv s1 hzz=>?_)
 obtain⟨x,H1,I1,r1,ty,q1⟩:=hzz
 obtain⟨h1,h2⟩:=yq I1 r1 ty
 refine⟨T,id,pa,slot,hty,h1,h2,?_⟩
 have hA:=ha cpos pins s1 σ H1 _ I1 q1
 rw[hs]at hA⊢
 refine Calls.callWith_builtin (by show(false||(backTo cpos (starEach es X.env)).any (·.1))=false;rw[hplain]<;>rfl) (Calls.evalArgs_plain ?_)
 exact thn hA λus s2 ⟨vs,H2,I2,r2,q2⟩=>hm pins s2 σ H2 x vs v us Q I2 r1 r2 q2
end
end L2
namespace L2
open PySem PySem.Spec PyProof.Rows
def MtM (X:Cx) (id:String) (r:V→List V→Hp→VK→Prop):Prop:=
 ∀(pins:List (Addr×Obj)) (s:Shared) (σ:St) (H:Hp) (x:V) (xs:List V) (v:Value) (us:List Value) (Q:VK),Inv X pins σ H s→RelV x v→Vals xs us→r x xs H Q→
  wpAny (model X.prog X.w) X.A (call (.builtin id) (v::us)) (EP X pins σ Q) X.xe s
theorem Vals.one:∀{x:V} {us:List Value},Vals [x] us→∃u,us=[u]∧RelV x u
 |_,_,.cons r .nil=>⟨_,rfl,r⟩
theorem Vals.two:∀{x y:V} {us:List Value},Vals [x,y] us→∃u v,us=[u,v]∧RelV x u∧RelV y v
 |_,_,_,.cons r (.cons q .nil)=>⟨_,_,rfl,r,q⟩
theorem Vals.eraseIdx:∀{xs:List V} {us:List Value} (i:Nat),Vals xs us→Vals (xs.eraseIdx i) (us.eraseIdx i)
 |_,_,_,.nil=> .nil
 |_,_,0,.cons _ t=>t
 |_,_,i+1,.cons r t=> .cons r (Vals.eraseIdx i t)
theorem lU {α:Type}:∀(l:List α) (i:Nat),(l.eraseIdx i).length≤l.length
 | [],_=>Q6 _
 |_::_,0=>Z4 _
 |_::r,i+1=>Nat.succ_le_succ (lU r i)
section
variable {X:Cx} {pins:List (Addr×Obj)} {σ:St} {H:Hp} {s:Shared} {l b:Addr} {xs ys zs:List V}
theorem Inv.lset {its its':List Value} {n:Nat} {f:Array Value→Array Value} {t':Nat} (I:Inv X pins σ H s) (hH:H l=some (.lst xs))
  (e:s.heap.get? l=some {cls:= .type "list",data:= .seq its.toArray n}) (hf:f its.toArray=its'.toArray) (hv:Vals ys its') (hz:ys.length≤sizeLine):
  Inv X pins σ (upd H l (.lst ys)) {s with heap:=s.heap.update l (Obj.mapSeq f),toks:=t'}:=by
 have q:=PySem.IsL.update e f
 rw[hf]at q
 refine I.write (x:=l) (e:=l) (by rw[hH];exact trivial) (.inl rfl) (λb' u hb hu=>(Heap.get?_update_other s.heap (Obj.mapSeq f) (Ne.symm hb)).trans hu) ⟨_,q⟩ ?_
 exact⟨hz,its',_,hv,q⟩
theorem Inv.lnew {its:List Value} {t':Nat} (I:Inv X pins σ H s) (hv:Vals ys its) (hz:ys.length≤sizeLine):
  Inv X pins σ (upd H s.heap.objs.size (.lst ys)) {s with heap:=s.heap.push {cls:= .type "list",data:= .seq its.toArray},toks:=t'}:=
 I.laid (λ_ _ q=>Heap.get?_push_of_some _ q) (Q6 _) ⟨hz,its,0,hv,Heap.get?_push_size _ rfl⟩
theorem Inv.fresh (I:Inv X pins σ H s):H s.heap.objs.size=none:=I.hok.fresh (Q6 _)
theorem Inv.lstM (I:Inv X pins σ H s) (hH:H l=some (.lst xs)):xs.length≤sizeLine∧∃(its:List Value) (n:Nat),Vals xs its∧xs.length=its.length∧s.heap.get? l=some {cls:= .type "list",data:= .seq its.toArray n}:=by
 obtain⟨z,its,n,r,e⟩:=I.hok l _ hH
 exact⟨z,its,n,r,r.length,e⟩
theorem yY {n:Nat} (h:n≤sizeLine):Builtin.List.listTooLong n=false:=by
 unfold Builtin.List.listTooLong
 exact decide_eq_false (by omega)
end
section
variable {X:Cx}
def Bf:V→List V→Hp→VK→Prop:=λx vs H Q=>∃l xs y,x= .ref l∧vs=[y]∧H l=some (.lst xs)∧xs.length<sizeLine∧Q .non (upd H l (.lst (xs++ [y])))
theorem cx:MtM X "list.append" Bf:=by
 intro pins s σ H x vs v us Q I rx rv h
 obtain⟨l,xs,y,rfl,rfl,hH,hz,q⟩:=h
 cases rx
 obtain⟨u,rfl,ru⟩:=rv.one
 obtain⟨z,its,n,r,hl,e⟩:=I.lstM hH
 refine call_meets F.slot_list_append ⟨_,e,rfl⟩ F.entry_list_append (F.args_list_append_2 _ _) (PySem.list_append l its.toArray n u (by rw[Qi];omega)) ⟨e,?_⟩
 refine⟨.non,_,I.lset (its':=its++ [u]) hH e (by simp) (r.append (.cons ru .nil)) ?_,rfl,q⟩
 rw[Qg,QW]
 omega
def Be:V→List V→Hp→VK→Prop:=λx vs H Q=>∃l b xs zs,x= .ref l∧vs=[.ref b]∧H l=some (.lst xs)∧H b=some (.lst zs)∧xs.length+zs.length≤sizeLine∧Q .non (upd H l (.lst (xs++zs)))
theorem rf:MtM X "list.extend" Be:=by
 intro pins s σ H x vs v us Q I rx rv h
 obtain⟨l,b,xs,zs,rfl,rfl,hH,hB,hz,q⟩:=h
 cases rx
 obtain⟨u,rfl,ru⟩:=rv.one
 cases ru
 obtain⟨z,its,n,r,hl,e⟩:=I.lstM hH
 obtain⟨z2,its2,n2,r2,hl2,e2⟩:=I.lstM hB
 have hsz:its.toArray.size+its2.toArray.size≤sizeLine:=by rw[Qi,Qi];omega
 have hlong:¬(!its.toArray.isEmpty&&Builtin.List.listTooLong (its.toArray.size+its2.toArray.size))=true:=by
  rw[yY hsz,K0]
  exact Qc
 refine call_meets F.slot_list_extend ⟨_,e,rfl⟩ F.entry_list_extend (F.args_list_extend_2 _ _)
  (AutoSeq1.list_extend_list_list_0 l its.toArray n b its2.toArray n2 hlong (by rw[Qi];omega) (by omega)) ⟨e,e2,?_⟩
 refine⟨.non,_,I.lset (its':=its++its2) hH e (by simp) (r.append r2) ?_,rfl,q⟩
 rw[Qg]
 omega
def CZ:V→List V→Hp→VK→Prop:=λx vs H Q=>∃l xs i k y,x= .ref l∧vs=[.int i]∧H l=some (.lst xs)∧-(2^63)≤i∧i<2^63∧seqIndex? i xs.length=some k∧xs[k]?=some y∧Q y (upd H l (.lst (xs.eraseIdx k)))
theorem uf:MtM X "list.pop" CZ:=by
 intro pins s σ H x vs v us Q I rx rv h
 obtain⟨l,xs,i,k,y,rfl,rfl,hH,h1,h2,hk,hy,q⟩:=h
 cases rx
 obtain⟨u,rfl,ru⟩:=rv.one
 obtain⟨t,rfl⟩:=ru
 obtain⟨z,its,n,r,hl,e⟩:=I.lstM hH
 obtain⟨w,hw,rw'⟩:=r.get hy
 refine call_meets F.slot_list_pop ⟨_,e,rfl⟩ F.entry_list_pop (F.args_list_pop_2 _ _)
  (MeetsSeq.list_pop_at l its.toArray n i t k w (fitsIndex_both h1 h2) (by rw[Qi,←hl];exact hk) (by rw[←QB];exact hw) (by rw[Qi];omega)) ⟨e,?_⟩
 refine⟨y,_,I.lset (its':=its.eraseIdx k) hH e ?_ (r.eraseIdx k) ?_,rw',q⟩
 ·show its.toArray.eraseIdxIfInBounds k=(its.eraseIdx k).toArray
  rw[XH]
 ·have:=lU xs k
  omega
def rCat:R2:=λx y H Q=>∃l b xs zs,x= .ref l∧y= .ref b∧H l=some (.lst xs)∧H b=some (.lst zs)∧xs.length+zs.length≤sizeLine∧∀p,H p=none→Q (.ref p) (upd H p (.lst (xs++zs)))
theorem Dd:OpR X (binaryOp .Add) rCat:=by
 intro pins s σ H x y v u Q I rx ry h
 obtain⟨l,b,xs,zs,rfl,rfl,hH,hB,hz,q⟩:=h
 cases rx
 cases ry
 obtain⟨z,its,n,r,hl,e⟩:=I.lstM hH
 obtain⟨z2,its2,n2,r2,hl2,e2⟩:=I.lstM hB
 refine PySem.P.add_list e e2 ?_ (by rw[Qi,Qi];omega)
 have ea:its.toArray++its2.toArray=(its++its2).toArray:=by simp
 rw[ea]
 exact⟨.ref _,_,I.lnew (t':=s.toks) (r.append r2) (by rw[Qg];omega),rfl,q _ I.fresh⟩
end
end L2
namespace L2
open PySem PySem.Spec PyProof.Rows
section
variable {κ:Type} [DecidableEq κ]
def aI (kvs:List (κ×V)) (k:κ):Option V:=(kvs.find? λkv=>decide (kv.1=k)).map (·.2)
def bg (kvs:List (κ×V)) (k:κ) (v:V):List (κ×V):=
 if(kvs.any λkv=>decide (kv.1=k))=true then kvs.map (λkv=>if kv.1=k then(kv.1,v)else kv)else kvs++ [(k,v)]
def bp (kvs:List (κ×V)) (k:κ):List (κ×V):=kvs.filter λkv=>decide (kv.1≠k)
theorem gg {k:κ}:aI ([]:List (κ×V)) k=none:=rfl
theorem aZ {p:κ×V} {r:List (κ×V)} {k:κ} (e:p.1=k):aI (p::r) k=some p.2:=by simp[aI,ZM,e]
theorem aW {p:κ×V} {r:List (κ×V)} {k:κ} (e:¬p.1=k):aI (p::r) k=aI r k:=by simp[aI,ZM,e]
theorem bV (k:κ):∀kvs:List (κ×V),(kvs.any λkv=>decide (kv.1=k))=(aI kvs k).isSome
 | []=>rfl
 |p::r=>by
  rw[ZW]
  by_cases e:p.1=k
  ·simp only[aZ e,decide_eq_true e,Bool.true_or,Option.isSome_some]
  ·rw[aW e,decide_eq_false e,Bool.false_or];exact bV k r
theorem tP (k j:κ) (y:V):∀kvs:List (κ×V),aI (kvs.map λkv=>if kv.1=k then(kv.1,y)else kv) j=(aI kvs j).map λx=>if j=k then y else x
 | []=>rfl
 |p::r=>by
  have ih:=tP k j y r
  rw[Qr]
  by_cases h:p.1=k
  ·rw[if_pos h]
   by_cases e:p.1=j
   ·rw[aZ (p:=(p.1,y)) e,aZ e,Xi,if_pos (e.symm.trans h)]
   ·rw[aW (p:=(p.1,y)) e,aW e,ih]
  ·rw[if_neg h]
   by_cases e:p.1=j
   ·rw[aZ (p:=p) e,aZ e,Xi,if_neg (λz=>h (e.trans z))]
   ·rw[aW (p:=p) e,aW e,ih]
theorem qQ (k j:κ) (y:V):∀kvs:List (κ×V),aI kvs k=none→aI (kvs++ [(k,y)]) j=if j=k then some y else aI kvs j
 | [],_=>by
  by_cases e:k=j
  ·rw[if_pos e.symm];exact aZ (p:=(k,y)) e
  ·rw[if_neg (λz=>e z.symm)];exact aW (p:=(k,y)) e
 |p::r,hn=>by
  rw[XI]
  have hk:¬p.1=k:=λz=>by rw[aZ z]at hn;cases hn
  rw[aW hk]at hn
  have ih:=qQ k j y r hn
  by_cases e:p.1=j
  ·rw[aZ e,aZ e,if_neg (λz=>hk (e.trans z))]
  ·rw[aW e,aW e,ih]
theorem dN (kvs:List (κ×V)) (k j:κ) (y:V):aI (bg kvs k y) j=if j=k then some y else aI kvs j:=by
 unfold bg
 by_cases a:(kvs.any λkv=>decide (kv.1=k))=true
 ·rw[if_pos a,tP]
  rw[bV]at a
  by_cases e:j=k
  ·obtain⟨x,hx⟩:=Option.isSome_iff_exists.mp a
   rw[if_pos e,e,hx,Xi,if_pos rfl]
  ·rw[if_neg e]
   cases aI kvs j with
   |none=>rfl
   |some x=>rw[Xi,if_neg e]
 ·rw[if_neg a]
  refine qQ k j y kvs ?_
  rw[bV]at a
  cases q:aI kvs k with
  |none=>rfl
  |some x=>rw[q]at a;exact(a rfl).elim
theorem bL (kvs:List (κ×V)) (k:κ) (v:V):(bg kvs k v).length≤kvs.length+1:=by
 unfold bg
 split
 ·rw[Q0];omega
 ·rw[Qg,Qf,XU];omega
theorem yM {kvs:List (κ×V)} {k:κ} (v:V) (h:aI kvs k=none):bg kvs k v=kvs++ [(k,v)]:=by
 unfold bg
 rw[bV,h]
 exact if_neg (by decide)
theorem RelO.isSome_eq {o:Option V} {u:Option Value} (r:RelO o u):o.isSome=u.isSome:=by
 cases o with
 |none=>cases u with
  |none=>rfl
  |some _=>exact(show False from r).elim
 |some _=>cases u with
  |none=>exact(show False from r).elim
  |some _=>rfl
theorem RelO.getD {o:Option V} {u:Option Value} {d:V} {d':Value} (r:RelO o u) (rd:RelV d d'):RelV (o.getD d) (u.getD d'):=by
 cases o with
 |none=>cases u with
  |none=>exact rd
  |some _=>exact(show False from r).elim
 |some _=>cases u with
  |none=>exact(show False from r).elim
  |some _=>exact r
theorem KV.val {kvs:List (κ×V)} {vs:List (κ×Value)} (r:KV kvs vs) (k:κ):RelO (aI kvs k) (valueAt vs k):=by
 unfold KV at r
 induction r with
 |nil=>exact True.intro
 | @cons p q ps qs h t ih=>
  obtain⟨h1,h2⟩:=h
  by_cases e:p.1=k
  ·have e':q.1=k:=h1.symm.trans e
   have b:valueAt (q::qs) k=some q.2:=by simp[valueAt,ZM,e']
   rw[aZ e,b];exact h2
  ·have e':¬q.1=k:=λz=>e (h1.trans z)
   have b:valueAt (q::qs) k=valueAt qs k:=by simp[valueAt,ZM,e']
   rw[aW e,b];exact ih
theorem KV.any {kvs:List (κ×V)} {vs:List (κ×Value)} (r:KV kvs vs) (k:κ):(kvs.any λkv=>decide (kv.1=k))=vs.any λkv=>decide (kv.1=k):=by
 unfold KV at r
 induction r with
 |nil=>rfl
 |cons h t ih=>rw[ZW,ZW,ih,h.1]
theorem KV.repl {kvs:List (κ×V)} {vs:List (κ×Value)} (r:KV kvs vs) (k:κ) {y:V} {u:Value} (ry:RelV y u):
  KV (kvs.map λkv=>if kv.1=k then(kv.1,y)else kv) (vs.map λkv=>if kv.1=k then(kv.1,u)else kv):=by
 unfold KV at r⊢
 induction r with
 |nil=>exact .nil
 | @cons p q ps qs h t ih=>
  rw[Qr,Qr]
  refine .cons ?_ ih
  obtain⟨h1,h2⟩:=h
  by_cases e:p.1=k
  ·rw[if_pos e,if_pos (h1.symm.trans e)];exact⟨h1,ry⟩
  ·rw[if_neg e,if_neg (λz=>e (h1.trans z))];exact⟨h1,h2⟩
theorem KV.put {kvs:List (κ×V)} {vs:List (κ×Value)} (r:KV kvs vs) (k:κ) {y:V} {u:Value} (ry:RelV y u):KV (bg kvs k y) (stored vs k u):=by
 unfold bg stored
 rw[r.any k]
 by_cases e:(vs.any λkv=>decide (kv.1=k))=true
 ·rw[if_pos e,if_pos e];exact r.repl k ry
 ·rw[if_neg e,if_neg e];exact Paired.snoc r ⟨rfl,ry⟩
theorem KV.drop {kvs:List (κ×V)} {vs:List (κ×Value)} (r:KV kvs vs) (k:κ):KV (bp kvs k) (without vs k):=by
 unfold KV at r⊢
 unfold bp without
 induction r with
 |nil=>exact .nil
 | @cons p q ps qs h t ih=>
  obtain⟨h1,h2⟩:=h
  rw[Zg,Zg]
  by_cases e:p.1=k
  ·have a:¬decide (p.1≠k)=true:=by simp[e]
   have b:¬decide (q.1≠k)=true:=by simp[h1.symm.trans e]
   rw[if_neg a,if_neg b];exact ih
  ·have e':¬q.1=k:=λz=>e (h1.trans z)
   have a:decide (p.1≠k)=true:=by simp[e]
   have b:decide (q.1≠k)=true:=by simp[e']
   rw[if_pos a,if_pos b];exact .cons ⟨h1,h2⟩ ih
theorem KV.length {kvs:List (κ×V)} {vs:List (κ×Value)} (r:KV kvs vs):kvs.length=vs.length:=Paired.length r
theorem zJ (kvs:List (κ×V)) (k:κ):(bp kvs k).length≤kvs.length:=QC _ _
end
theorem mD {P:Program} {w:World} {k:Key} {u:Value} (r:RelV (kV k) u):(aU P w).is k u=true:=by
 cases k with
 |inl i=>obtain⟨t,e⟩:=(show ∃t,u=Value.int i t from r);subst e;exact uk P w i t
 |inr x=>obtain⟨t,e⟩:=(show ∃t,u=Value.str x t from r);subst e;exact uj P w x t
theorem rp {P:Program} {w:World}:∀{ks:List Key} {us:List Value},Vals (ks.map kV) us→ItemsAre (aU P w) ks us
 | [],_,r=>by rw[List.map_nil]at r;cases r;exact .nil
 |k::ks,_,r=>by
  rw[Qr]at r
  cases r with
  |cons h t=>exact .cons (mD h) (rp t)
abbrev KT (H:Hp):List (List Key×V)→List (List Key×Addr×Value)→Prop:=Paired λp q=>p.1=q.1∧H q.2.1=some (.tup (p.1.map kV))∧RelV p.2 q.2.2
theorem KT.val {H:Hp} {kvs:List (List Key×V)} {xs:List (List Key×Addr×Value)} (r:KT H kvs xs) (k:List Key):RelO (aI kvs k) ((atKey xs k).map (·.2)):=by
 induction r with
 |nil=>exact True.intro
 | @cons p q ps qs h t ih=>
  obtain⟨h1,_,h2⟩:=h
  by_cases e:p.1=k
  ·have e':q.1=k:=h1.symm.trans e
   have b:atKey (q::qs) k=some q.2:=by simp[atKey,ZM,e']
   rw[aZ e,b];exact h2
  ·have e':¬q.1=k:=λz=>e (h1.trans z)
   have b:atKey (q::qs) k=atKey qs k:=by simp[atKey,ZM,e']
   rw[aW e,b];exact ih
theorem KT.repl {H:Hp} {kvs:List (List Key×V)} {xs:List (List Key×Addr×Value)} (r:KT H kvs xs) (k:List Key) {y:V} {u:Value} (ry:RelV y u):
  KT H (kvs.map λkv=>if kv.1=k then(kv.1,y)else kv) (xs.map (putAt k u)):=by
 induction r with
 |nil=>exact .nil
 | @cons p q ps qs h t ih=>
  rw[Qr,Qr]
  refine .cons ?_ ih
  obtain⟨h1,h2,h3⟩:=h
  unfold putAt
  by_cases e:p.1=k
  ·rw[if_pos e,if_pos (h1.symm.trans e)];exact⟨h1,h2,ry⟩
  ·rw[if_neg e,if_neg (λz=>e (h1.trans z))];exact⟨h1,h2,h3⟩
theorem KT.put {H:Hp} {kvs:List (List Key×V)} {xs:List (List Key×Addr×Value)} (r:KT H kvs xs) (k:List Key) {b:Addr} {y:V} {u:Value} (hb:H b=some (.tup (k.map kV))) (ry:RelV y u):
  KT H (bg kvs k y) (storedH xs k b u):=by
 have e:(kvs.any λkv=>decide (kv.1=k))=(atKey xs k).isSome:=by
  rw[bV,(r.val k).isSome_eq,XA]
 unfold bg storedH
 rw[e]
 by_cases q:(atKey xs k).isSome=true
 ·rw[if_pos q,if_pos q];exact r.repl k ry
 ·rw[if_neg q,if_neg q];exact Paired.snoc r ⟨rfl,hb,ry⟩
theorem KT.keeps {H H':Hp} {kvs:List (List Key×V)} {xs:List (List Key×Addr×Value)} (r:KT H kvs xs) (ht:∀b ys,H b=some (.tup ys)→H' b=some (.tup ys)):KT H' kvs xs:=
 Paired.mapP r λ_ _ z=>⟨z.1,ht _ _ z.2.1,z.2.2⟩
section
variable {P:Program} {w:World} {H:Hp} {h:Heap} {a:Addr}
theorem Ck {u:HO} (ok:HOk P w H h) (e:Rd H a u):ObjOk P w H h a u:=e.ok ok
theorem mE {kvs:List (Key×V)} (ok:HOk P w H h) (e:Rd H a (.dK kvs)):kvs.length≤sizeLine∧(a==sysModules)=false∧∃vs,KV kvs vs∧h.DictOf (aU P w) a vs:=
 show ObjOk P w H h a (.dK kvs) from Ck ok e
theorem jg {kvs:List (Key×V)} (ok:HOk P w H h) (e:H a=some (.dK kvs)):kvs.length≤sizeLine∧(a==sysModules)=false∧∃vs,KV kvs vs∧h.DictOf (aU P w) a vs:=mE ok (.inl e)
theorem lY {ks:List Key} (ok:HOk P w H h) (e:H a=some (.tup (ks.map kV))):(tupleKind (aU P w)).is h ks a:=by
 obtain⟨_,its,r,o,h1,h2,n,h3⟩:=(show ObjOk P w H h a (.tup (ks.map kV)) from ok a _ e)
 exact⟨o,its.toArray,n,h1,h2,h3,by simpa using rp r⟩
theorem rH {kvs:List (List Key×V)} (ok:HOk P w H h) (e:Rd H a (.dT kvs)):kvs.length≤sizeLine∧(a==sysModules)=false∧
  ∃xs,KT H kvs xs∧h.DictOfH (tupleKind (aU P w)) a xs:=by
 obtain⟨z,y,xs,r,o,es,ep,h1,h2,h3,h4,h5⟩:=(show ObjOk P w H h a (.dT kvs) from Ck ok e)
 refine⟨z,y,xs,r,o,es,ep,h1,h2,h3,h4,λx hx=>?_,h5⟩
 have all:∀{l:List (List Key×V)} {m:List (List Key×Addr×Value)},KT H l m→∀x∈m,(tupleKind (aU P w)).is h x.1 x.2.1:=by
  intro l m q
  induction q with
  |nil=>intro x hx;exact nomatch hx
  | @cons p q ps qs hq t ih=>
   intro x hx
   rcases Qe.mp hx with e|hx
   ·subst e
    exact lY ok (by rw[←hq.1];exact hq.2.1)
   ·exact ih x hx
 exact all r x hx
theorem Ep {kvs:List (List Key×V)} (ok:HOk P w H h) (e:H a=some (.dT kvs)):kvs.length≤sizeLine∧(a==sysModules)=false∧
  ∃xs,KT H kvs xs∧h.DictOfH (tupleKind (aU P w)) a xs:=rH ok (.inl e)
end
def DGet (H:Hp) (a:Addr) (y:V) (r:Option V):Prop:=
 (∃kvs k,Rd H a (.dK kvs)∧y=kV k∧r=aI kvs k)∨∃kvs k b,Rd H a (.dT kvs)∧y= .ref b∧H b=some (.tup (k.map kV))∧r=aI kvs k
def DPut (H:Hp) (a:Addr) (y v:V) (H':Hp):Prop:=
 (∃kvs k,H a=some (.dK kvs)∧y=kV k∧kvs.length<sizeLine∧H'=upd H a (.dK (bg kvs k v)))∨
 ∃kvs k b,H a=some (.dT kvs)∧y= .ref b∧H b=some (.tup (k.map kV))∧kvs.length<sizeLine∧H'=upd H a (.dT (bg kvs k v))
theorem DGet.k {H:Hp} {a:Addr} {kvs:List (Key×V)} {k:Key} (e:H a=some (.dK kvs)):DGet H a (kV k) (aI kvs k):= .inl ⟨kvs,k,.inl e,rfl,rfl⟩
theorem DPut.k {H:Hp} {a:Addr} {kvs:List (Key×V)} {k:Key} {v:V} (e:H a=some (.dK kvs)) (hl:kvs.length<sizeLine):DPut H a (kV k) v (upd H a (.dK (bg kvs k v))):= .inl ⟨kvs,k,e,rfl,hl,rfl⟩
section
variable {X:Cx} {pins:List (Addr×Obj)} {σ:St} {H:Hp} {s:Shared} {a:Addr} {y v:V} {u r:Value} {o:Option V} {A:Around} {E:Value→Shared→Prop}
theorem Inv.big (I:Inv X pins σ H s):sysModules<s.heap.objs.size:=by
 have h:mainGlobals<s.heap.objs.size:=(I.mod.glob.keeps I.bk).lt
 exact Nat.lt_trans (by decide) h
theorem xX {Q:Value→Shared→Prop} (hu:A.units+1<cLine) (I:Inv X pins σ H s) (g:DGet H a y (some v)) (ry:RelV y u) (h:∀w' s',Inv X pins σ H s'→RelV v w'→Q w' s'):
  wpAny (model X.prog X.w) A (getItem (.ref a) u) Q E s:=by
 rcases g with⟨kvs,k,e,ey,l⟩|⟨kvs,k,b,e,ey,eb,l⟩
 ·subst ey
  obtain⟨z,hd,vs,rel,dd⟩:=mE I.hok e
  obtain⟨w',hw,rw'⟩:=RelO.some_of (v:=v) (o:=valueAt vs k) (by rw[l];exact rel.val k)
  exact wpAny_getItem_of (mD ry) dd.mapOf hw (h w' _ (I.tok _) rw')
 ·subst ey
  cases (show u=Value.ref b from ry)
  obtain⟨z,hd,xs,rel,dd⟩:=rH I.hok e
  obtain⟨w',hw,rw'⟩:=RelO.some_of (v:=v) (o:=(atKey xs k).map (·.2)) (by rw[l];exact rel.val k)
  obtain⟨p,hp,hp2⟩:=Option.map_eq_some_iff.mp hw
  refine wpAny_getItem_heap (tupleKind_room_in1 hu) (lY I.hok eb) dd hp ?_
  rw[hp2]
  exact h w' _ (I.tok _) rw'
theorem d_in {Q:Value→Shared→Prop} (hu:A.units+1<cLine) (I:Inv X pins σ H s) (g:DGet H a y o) (ry:RelV y u) (h:∀s',Inv X pins σ H s'→Q (.bool o.isSome) s'):
  wpAny (model X.prog X.w) A (compareOp .In u (.ref a)) Q E s:=by
 rcases g with⟨kvs,k,e,ey,l⟩|⟨kvs,k,b,e,ey,eb,l⟩
 ·subst ey
  obtain⟨z,hd,vs,rel,dd⟩:=mE I.hok e
  refine wpAny_in_of (mD ry) hd dd.mapOf ?_
  rw[←(rel.val k).isSome_eq,←l]
  exact h _ (I.tok _)
 ·subst ey
  cases (show u=Value.ref b from ry)
  obtain⟨z,hd,xs,rel,dd⟩:=rH I.hok e
  refine wpAny_in_heap (tupleKind_room_in1 hu) (lY I.hok eb) hd dd ?_
  have q:=(rel.val k).isSome_eq
  rw[XA]at q
  rw[←q,←l]
  exact h _ (I.tok _)
theorem BN {Q:Value→Shared→Prop} (hu:A.units+1<cLine) (I:Inv X pins σ H s) (g:DGet H a y o) (ry:RelV y u) (h:∀s',Inv X pins σ H s'→Q (.bool (!o.isSome)) s'):
  wpAny (model X.prog X.w) A (compareOp .NotIn u (.ref a)) Q E s:=by
 rcases g with⟨kvs,k,e,ey,l⟩|⟨kvs,k,b,e,ey,eb,l⟩
 ·subst ey
  obtain⟨z,hd,vs,rel,dd⟩:=mE I.hok e
  refine wpAny_notIn_of (mD ry) hd dd.mapOf ?_
  rw[←(rel.val k).isSome_eq,←l]
  exact h _ (I.tok _)
 ·subst ey
  cases (show u=Value.ref b from ry)
  obtain⟨z,hd,xs,rel,dd⟩:=rH I.hok e
  refine wpAny_notIn_heap (tupleKind_room_in1 hu) (lY I.hok eb) hd dd ?_
  have q:=(rel.val k).isSome_eq
  rw[XA]at q
  rw[←q,←l]
  exact h _ (I.tok _)
theorem m5 {h':Heap} {t':Nat} {ob:HO} (I:Inv X pins σ H s) (mu:Mut (H a)) (hs:Heap.SameBut a s.heap h') (he:∃q,h'.get? a=some q) (new:ObjOk X.prog X.w (upd H a ob) h' a ob):
  Inv X pins σ (upd H a ob) {s with heap:=h',toks:=t'}:=
 I.write (x:=a) (e:=a) mu (.inl rfl) (λb q hb z=>(hs.2 b hb).trans z) he new
theorem vP {P:Program} {w:World} {H':Hp} {h':Heap} {kvs:List (Key×V)} {vs:List (Key×Value)} (z:kvs.length≤sizeLine) (hd:(a==sysModules)=false) (rel:KV kvs vs) (dd:h'.DictOf (aU P w) a vs):
  ObjOk P w H' h' a (.dK kvs):=⟨z,hd,vs,rel,dd⟩
theorem xW {H':Hp} {Q:Unit→Shared→Prop} (hu:A.units+1<cLine) (I:Inv X pins σ H s) (g:DPut H a y v H') (ry:RelV y u) (rv:RelV v r) (h:∀s',Inv X pins σ H' s'→Q () s'):
  wpAny (model X.prog X.w) A (setItem (.ref a) u r) Q E s:=by
 rcases g with⟨kvs,k,e,ey,l,eH⟩|⟨kvs,k,b,e,ey,eb,l,eH⟩
 ·subst ey eH
  obtain⟨z,hd,vs,rel,dd⟩:=jg I.hok e
  have hz:vs.length≤sizeLine:=by rw[←rel.length];exact z
  have hl:(bg kvs k v).length≤sizeLine:=by have:=bL kvs k v;omega
  refine wpAny_setItem_pairs (hsz:=hz) (mD ry) dd λh' dd' hs=>h _ ?_
  have he:∃q,h'.get? a=some q:=let⟨q,_,_,hq,_⟩:=dd';⟨q,hq⟩
  exact m5 I (by rw[e];exact True.intro) hs he (vP hl hd (rel.put k rv) dd')
 ·subst ey eH
  cases (show u=Value.ref b from ry)
  obtain⟨z,hd,xs,rel,dd⟩:=Ep I.hok e
  have hz:xs.length≤sizeLine:=by rw[←Paired.length rel];exact z
  have hl:(bg kvs k v).length≤sizeLine:=by have:=bL kvs k v;omega
  refine wpAny_setItem_heap (hsz:=hz) (tupleKind_room_in1 hu) (lY I.hok eb) dd λh' dd' hs=>h _ ?_
  obtain⟨q,es,ep,hq,h2,h3,h4,_,h5⟩:=dd'
  refine m5 I (by rw[e];exact True.intro) hs ⟨q,hq⟩ ⟨hl,hd,_,(rel.put k eb rv).keeps λc ys ec=>?_,q,es,ep,hq,h2,h3,h4,h5⟩
  rw[ac (bQ ec e (λz=>nomatch z))]
  exact ec
end
section
variable {X:Cx} {pins:List (Addr×Obj)} {σ:St} {H:Hp} {s:Shared} {a:Addr} {kvs:List (Key×V)} {k:Key} {u:Value} {A:Around} {E:Value→Shared→Prop}
theorem Er {v:V} {more:List Value} {Q:Value→Shared→Prop} (I:Inv X pins σ H s) (e:H a=some (.dK kvs)) (ry:RelV (kV k) u) (l:aI kvs k=some v) (hm:more=[]∨∃x,more=[x])
  (h:∀w' s',Inv X pins σ (upd H a (.dK (bp kvs k))) s'→RelV v w'→Q w' s'):wpAny (model X.prog X.w) A (call (.builtin "dict.pop") (.ref a::u::more)) Q E s:=by
 obtain⟨z,hd,vs,rel,dd⟩:=jg I.hok e
 obtain⟨w',hw,rw'⟩:=RelO.some_of (v:=v) (o:=valueAt vs k) (by rw[←l];exact rel.val k)
 have hp:(keyPart u).isSome=true:=by
  cases k with
  |inl i=>obtain⟨t,q⟩:=(show ∃t,u=Value.int i t from ry);subst q;rfl
  |inr x=>obtain⟨t,q⟩:=(show ∃t,u=Value.str x t from ry);subst q;rfl
 have ha:argsOk "dict.pop" ⟨.ref a::u::more,[]⟩:=by
  rcases hm with q|⟨x,q⟩
  ·subst q;exact PySem.F.args_dict_pop_2 _ _
  ·subst q;exact PySem.F.args_dict_pop_3 _ _ _
 refine call_meetsIn Xm dd.typeIs PySem.F.entry_dict_pop ha (meets_dict_pop_there (aU X.prog X.w) a (mD ry) more hm hp)
  ⟨vs,w',dd,by rw[←rel.length];exact z,hw,λh' dd' hs=>h w' _ ?_ rw'⟩
 have he:∃q,h'.get? a=some q:=let⟨q,_,_,hq,_⟩:=dd';⟨q,hq⟩
 exact m5 I (by rw[e];exact True.intro) hs he (vP (Z2 (zJ kvs k) z) hd (rel.drop k) dd')
theorem Es {Q:Value→Shared→Prop} (I:Inv X pins σ H s) (e:Rd H a (.dK kvs)) (h:∀t s',Inv X pins σ H s'→Q (.int kvs.length t) s'):wpAny (model X.prog X.w) A (call (.builtin "len") [.ref a]) Q E s:=by
 obtain⟨z,hd,vs,rel,dd⟩:=mE I.hok e
 refine call_len_dict hd dd (by rw[←rel.length];rw[sizeLine_eq]at z;omega) ?_
 rw[←rel.length]
 exact h _ _ (I.tok _)
end
def NoSl (i:Expr):Prop:=∀ov iv,subscripted i false ov iv=operate [ov,iv] (getItem ov iv)
theorem AU {prog:Program} {w:World} {A:Around} {E:Value→Shared→Prop} {s:Shared} {env:Env} {value slice:Expr} {pos:Pos} {T id:String} {Q:Value→Shared→Prop}
  (hl:typeLookup (.type T) "__getitem__"=pure (some (.builtin id))) (hs:NoSl slice)
  (h:wpAny (model prog w) A (eval value env) (λo s₁=>wpAny (model prog w) A (eval slice env) (λi s₂=>s₂.TypeIs o T∧wpAny (model prog w) A (getItem o i) Q E s₂) E s₁) E s):
  wpAny (model prog w) A (eval (.Subscript value slice pos) env) Q E s:=by
 refine Subscript_ (wpAny_mono h (λo s₁ h₁=>wpAny_mono h₁ (λi s₂ h₂=>?_) λ_ _ x=>x) λ_ _ x=>x)
 obtain⟨hT,h₂⟩:=h₂
 unfold subscriptTail
 refine wpAny_bind ?_
 rw[getitemInPython_of_ne hT.not_modules]
 refine wpAny_bind (wpAny_specialOf hT hl ?_)
 have fin:wpAny (model prog w) A (subscripted slice false o i) (λr s₃=>wpAny (model prog w) A (letTemporaryGo value o r>>=λ_=>pure r) Q E s₃) E s₂:=by
  rw[hs o i]
  exact wpAny_operating (wpAny_mono h₂ (λr s₃ h₃=>wpAny_bind (wpAny_letTemporaryGo (wpAny_pure h₃))) λ_ _ x=>x)
 first
  |exact wpAny_pure (wpAny_bind fin)
  |exact wpAny_bind (wpAny_pure (wpAny_bind fin))
  |exact wpAny_bind fin
theorem uF {X:Cx} {pins:List (Addr×Obj)} {σ:St} {H:Hp} {s:Shared} {a:Addr} {y:V} {o:Option V} (I:Inv X pins σ H s) (g:DGet H a y o):s.TypeIs (.ref a) "dict":=by
 rcases g with⟨kvs,k,e,_,_⟩|⟨kvs,k,b,e,_,_,_⟩
 ·obtain⟨_,_,vs,_,dd⟩:=mE I.hok e
  exact dd.typeIs
 ·obtain⟨_,_,xs,_,dd⟩:=rH I.hok e
  exact dd.typeIs
def DQ (td ty:TE):TE:=λσ H Q=>td σ H λx H1=>ty σ H1 λy H2=>∃a v,x= .ref a∧DGet H2 a y (some v)∧Q v H2
def tDIn (ty td:TE):TE:=λσ H Q=>ty σ H λy H1=>td σ H1 λx H2=>∃a o,x= .ref a∧DGet H2 a y o∧Q (.bl o.isSome) H2
def AQ (ty td:TE):TE:=λσ H Q=>ty σ H λy H1=>td σ H1 λx H2=>∃a o,x= .ref a∧DGet H2 a y o∧Q (.bl (!o.isSome)) H2
def DY (td ty tv:TE):TS:=λD σ H=>tv σ H λv H1=>td σ H1 λx H2=>ty σ H2 λy H3=>∃a H4,x= .ref a∧DPut H3 a y v H4∧D.nx σ H4
section
variable {X:Cx} {o i e value:Expr} {pos pos' tpos:Pos} {td ty tv:TE}
theorem wk (hu:X.A.units+1<cLine) (ho:PE X o td) (hi:PE X i ty) (hs:NoSl i):PE X (.Subscript o i pos) (DQ td ty):=by
 intro pins s σ H Q I h
 refine AU PySem.F.slot_dict_getitem.lookup hs (thn (ho pins s σ H _ I h) λu s1 ⟨x,H1,I1,rx,q1⟩=>thn (hi pins s1 σ H1 _ I1 q1) λiv s2 hzz=>?_)
 obtain⟨y,H2,I2,ry,a,v,ex,g,q2⟩:=hzz
 subst ex
 obtain rfl:u=Value.ref a:=rx
 exact⟨uF I2 g,xX hu I2 g ry λw' s3 I3 rw'=>⟨v,H2,I3,rw',q2⟩⟩
theorem vn (hu:X.A.units+1<cLine) (hi:PE X i ty) (ho:PE X o td):PC X .In i o (tDIn ty td):=by
 intro pins s σ H Q I h
 refine thn (hi pins s σ H _ I h) λiv s1 ⟨y,H1,I1,ry,q1⟩=>thn (ho pins s1 σ H1 _ I1 q1) λu s2 hzz=>?_
 obtain⟨x,H2,I2,rx,a,ov,ex,g,q2⟩:=hzz
 subst ex
 obtain rfl:u=Value.ref a:=rx
 exact d_in hu I2 g ry λs3 I3=>⟨.bl ov.isSome,H2,I3,rfl,q2⟩
theorem lN (hu:X.A.units+1<cLine) (hi:PE X i ty) (ho:PE X o td):PC X .NotIn i o (AQ ty td):=by
 intro pins s σ H Q I h
 refine thn (hi pins s σ H _ I h) λiv s1 ⟨y,H1,I1,ry,q1⟩=>thn (ho pins s1 σ H1 _ I1 q1) λu s2 hzz=>?_
 obtain⟨x,H2,I2,rx,a,ov,ex,g,q2⟩:=hzz
 subst ex
 obtain rfl:u=Value.ref a:=rx
 exact BN hu I2 g ry λs3 I3=>⟨.bl (!ov.isSome),H2,I3,rfl,q2⟩
theorem mV (hu:X.A.units+1<cLine) (ho:PE X o td) (hi:PE X i ty) (hv:PE X value tv) (hs:swapsWith value (some (.Subscript o i pos')) pos.line X.env=pure false):
  PS X (.Assign [.Subscript o i pos'] value pos) (DY td ty tv):=by
 intro pins s σ H D I h
 refine wpAny_Assign_Subscript (thn (hv pins s σ H _ I h) λr s1 ⟨v,H1,I1,rv,q1⟩=>thn (ho pins s1 σ H1 _ I1 q1) λu s2 ⟨x,H2,I2,rx,q2⟩=>thn (hi pins s2 σ H2 _ I2 q2) λiv s3 hzz=>?_) hs
 obtain⟨y,H3,I3,ry,a,H4,ex,g,q3⟩:=hzz
 subst ex
 obtain rfl:u=Value.ref a:=rx
 exact xW hu I3 g ry rv λs4 I4=>⟨σ,H4,I4,q3⟩
end
theorem zK {P:Program} {w:World} {H:Hp} (h:Heap) (hb:sysModules<h.objs.size):ObjOk P w H (h.push {cls:= .type "dict",data:= .dict #[]}) h.objs.size (.dK []):=
 ⟨Qh _,beq_eq_false_iff_ne.mpr (Ne.symm (Qw hb)),[],.nil,Heap.DictOf.new h⟩
def CS:TE:=λ_ H Q=>∀p,H p=none→Q (.ref p) (upd H p (.dK []))
section
variable {X:Cx} {pos:Pos}
theorem ik:PE X (.Dict [] [] pos) CS:=λpins s σ H Q I h=>
 wpAny_Dict_empty ⟨.ref s.heap.objs.size,_,I.laid (a:=s.heap.objs.size) (o:= .dK []) (t':=s.toks) (λ_ _ q=>Heap.get?_push_of_some _ q) (Q6 _) (zK s.heap I.big),rfl,h _ (I.hok.fresh (Q6 _))⟩
end
section
variable {X:Cx} {pins:List (Addr×Obj)} {σ:St} {H:Hp} {s:Shared} {a:Addr} {y d:V} {u r:Value} {o:Option V} {A:Around} {E:Value→Shared→Prop}
theorem Dw {Q:Value→Shared→Prop} (hu:A.units+1<cLine) (I:Inv X pins σ H s) (g:DGet H a y o) (ry:RelV y u) (rd:RelV d r) (h:∀w' s',Inv X pins σ H s'→RelV (o.getD d) w'→Q w' s'):
  wpAny (model X.prog X.w) A (call (.builtin "dict.get") [.ref a,u,r]) Q E s:=by
 rcases g with⟨kvs,k,e,ey,l⟩|⟨kvs,k,b,e,ey,eb,l⟩
 ·subst ey
  obtain⟨z,hd,vs,rel,dd⟩:=mE I.hok e
  refine call_meetsIn Xn dd.typeIs PySem.F.entry_dict_get (PySem.F.args_dict_get_3 _ _ _) (meets_dict_get_default (aU X.prog X.w) a (mD ry) hd r) ⟨_,dd.mapOf,h _ _ (I.tok _) ?_⟩
  rw[l]
  exact(rel.val k).getD rd
 ·subst ey
  cases (show u=Value.ref b from ry)
  obtain⟨z,hd,xs,rel,dd⟩:=rH I.hok e
  refine call_meetsIn Xn dd.typeIs PySem.F.entry_dict_get (PySem.F.args_dict_get_3 _ _ _) (meetsH_dict_get_default (tupleKind (aU X.prog X.w)) a b hd r) ⟨tupleKind_room_in1 hu,k,xs,lY I.hok eb,dd,h _ _ (I.tok _) ?_⟩
  rw[l]
  exact(rel.val k).getD rd
end
end L2
namespace Att
open PySem PySem.W PySem.Calls PyProof.Rows
theorem mT {P:Params} {h:Heap}:∀(ns:List Int) (vs:List Value),WellAll P h vs (ns.map WData.int)→IntsAre vs ns:=by
 intro ns
 induction ns with
 |nil=>
  intro vs w
  rw[List.map_nil]at w
  cases w
  exact .nil
 |cons n ns ih=>
  intro vs w
  rw[Qr]at w
  cases w with
  |cons a b=>
   cases a
   exact .cons _ _ (ih _ b)
theorem xj {l:OpenLaw} {n:Nat} (hn:l.most=some n) {P:Params} {h:Heap} {args:List WData} {vals:List Value}
  (hpre:l.row.toRowW.claim.pre args=true) (hwl:WellAll P h vals args):
  ∃a vs ns,vals=[Value.ref a]∧args=[WData.list (ns.map WData.int)]∧h.get? a=some {cls:= .type "list",data:= .seq vs.toArray}∧IntsAre vs ns∧ns.length≤n:=by
 have hsh:WShape.hasAll [] args [.list .int]=true:=(pre_splitW hpre).1
 have hc:l.pre.holds [] {args:=args}=true:=(pre_splitW hpre).2
 obtain⟨d,r,rfl,h1,h2⟩:=hasAllW_cons hsh
 obtain rfl:=hasAllW_nil h2
 obtain⟨xs,rfl,h3⟩:=hasW_list h1
 obtain⟨ns,rfl⟩:=items_int h3
 have hlen:ns.length≤n:=by
  unfold OpenLaw.pre at hc
  have h4:(WTm.not (.lt (.lit (.int (n:Int))) (.len (.arg 0)))).holds [] {args:=[.list (ns.map .int)]}=true:=by
   have h4:=(holds_andW hc).1
   rw[hn]at h4
   exact h4
  have h5:=condW_of h4 (w_not (w_lt w_lit (w_len_list (w_arg rfl))))
  rw[Q0]at h5
  refine Nat.le_of_not_lt λq=>?_
  have q':(n:Int)<((ns.length:Nat):Int):=by omega
  first
   |(rw[decide_eq_true q']at h5;exact absurd h5 (by decide))
   |(simp at h5;omega)
 cases hwl with
 |cons w1 w2=>
  cases w2
  cases w1 with
  |list ho hall=>exact⟨_,_,ns,rfl,rfl,ho,mT ns _ hall,hlen⟩
theorem xp (l:OpenLaw) (args:List WData):l.row.toRowW.claim.post args (.bool true) args=true:=
 postW_of (r:=l.row.toRowW) (X:=(true==true))
  (show WShape.has [] (.bool true) .bool=true by first|rfl|decide|simp[WShape.has,WShape.arms,WShape.armsAll])
  (show(WTm.eq .res (.lit (.bool true))).value [] {args:=args,res:=some (.bool true),after:=args}=some (.bool (true==true)) from w_eq_bool (w_res rfl) w_lit) rfl
theorem attach_call {l:OpenLaw} {n:Nat} {q:Program} {loose:List Str} {XP:(Str→Option Value)→Heap→Prop} {YP:World→Heap→Prop} {d:DefRec}
  (hn:l.most=some n) (hdf:d.params.defaults=[])
  (call:∀(w:World) (s₀ s₁:Shared) (mg mb:Str→Option Value) (fa:Addr) (o:Obj) (pm cd doc:Value) (a:Addr) (vs:List Value) (ns:List Int),
   Ground q loose [] XP w s₀ mg mb s₁.heap→YP w s₁.heap→
   s₁.heap.get? fa=some o→o.data= .func (docDef d.name d.params d.body d.scope pm cd doc)→s₁.heap.CodeRec cd d.name→mg d.name=some (.ref fa)→
   s₁.heap.get? a=some {cls:= .type "list",data:= .seq vs.toArray}→IntsAre vs ns→ns.length≤n→s₁.gens= #[]→
   codeAny (model l.prog w) callerA (.call (.ref fa) ⟨[.ref a],[]⟩) (λr s'=>r= .ok (.ret (.bool true))∧OldK s₁.heap s'.heap∧s'.os=s₁.os∧AllBare s'.gens) s₁):
  WalkO q loose XP YP l.row.toRowW d [] (λf vs=>PySem.call f vs):=by
 intro w s₀ s₁ mg mb G Y fa o pm cd doc dV kV ho hd hcd hD hmg hg args vals as hpre hlay hrd hwl hlo
 obtain rfl:dV= .none:=Dflts.none hD hdf
 obtain rfl:kV= .none:=Dflts.noKw hD
 obtain⟨a,vs,ns,rfl,rfl,hobj,hints,hlen⟩:=xj hn hpre hwl
 refine enter_call (codeAny_mono (call w s₀ s₁ mg mb fa o pm cd doc a vs ns G Y ho (fd_plain hd) hcd hmg hobj hints hlen hg) λr s' hq=>?_)
 obtain⟨rfl,h2,h3,h4⟩:=hq
 exact⟨.inl ⟨.bool true,.bool true,[],rfl,λ_=>rfl,.bool true,xp l _,λ_=>⟨List.Pairwise.nil,λ_ hm=>(nomatch hm)⟩⟩,h2,h3,h4⟩
end Att
namespace L2
open PySem PySem.Spec PyProof.Rows
theorem qP:∀{vs:List Value} {ns:List Int},IntsAre vs ns→Vals (ns.map V.int) vs
 |_,_,.nil=> .nil
 |_,_,.cons n t h=> .cons ⟨t,rfl⟩ (qP h)
def DD (H:Hp):Prop:=∀b,H b=none∨∃o xs,H b=some (.frz o (.lst xs))
theorem zl {P:Program} {w:World} {K:PySem.W.Frag} {mg mb:Str→Option Value} {CX:CXT} {k:Nat} {fa a:Addr} {fd:FuncData} {x:Str} {sp:Sp} {s₁:Shared} {vs:List Value} {ns:List Int}
  (KX:K.In s₁.heap) (hns:s₁.heap.Ns mainGlobals mg) (hb:s₁.heap.Ns builtinsNs mb) (hbb:∀x:Str,x≠"__name__"→mb x=bootBuiltins x) (hlim:s₁.heap.NoLimit) (hg:s₁.gens= #[])
  (ha:s₁.heap.get? a=some {cls:= .type "list",data:= .seq vs.toArray}) (hi:IntsAre vs ns) (hl:ns.length≤sizeLine) (hr:Room k callerA)
  (F:∀base:Heap,K.In base→base.Ns mainGlobals mg→aX P w K mg base CX k fa fd [x] sp) (hbind:∀(s:Shared) (u:Value),BindsTo s fd ⟨[u],[]⟩ [(x,u)])
  (hsp:∀H:Hp,DD H→SqL K H a (ns.map V.int)→sp [.ref a] H (λv _=>v= .bl true) λ_ _ _=>False)
  (hCX:∀H e s',CX [] H s₁ (λ_ _ _=>False) e s'→False):
  codeAny (model P w) callerA (.call (.ref fa) ⟨[.ref a],[]⟩) (λr s'=>r= .ok (.ret (.bool true))∧OldK s₁.heap s'.heap∧s'.os=s₁.os∧AllBare s'.gens) s₁:=by
 have rv:=qP hi
 have lenV:=hi.length
 have core:∀H:Hp,DD H→SqL K H a (ns.map V.int)→HOk P w H s₁.heap→(∀b,H b≠none→b=a)→(H a≠none→K.lookup a=none)→
   codeAny (model P w) callerA (.call (.ref fa) ⟨[.ref a],[]⟩) (λr s'=>r= .ok (.ret (.bool true))∧OldK s₁.heap s'.heap∧s'.os=s₁.os∧AllBare s'.gens) s₁:=by
  intro H hO hS hok hA hK
  have base_of:∀{b:Addr} {o:Obj},s₁.heap.get? b=some o→H b=none→(sX s₁.heap H).get? b=some o:=λe n=>zr e n
  have noA:∀{b:Addr} {o:Obj} {es:Array DictEntry} {ep:Nat},s₁.heap.get? b=some o→o.data= .dict es ep→H b=none:=λ{b o es ep} e d=>by
   cases q:H b with
   |none=>rfl
   |some u=>
    have e':b=a:=hA b (by rw[q];simp)
    subst e'
    rw[ha]at e;cases e
    have d':Data.seq vs.toArray _=Data.dict es ep:=d
    cases d'
  have nsK:∀{b:Addr} {m:Str→Option Value},s₁.heap.Ns b m→(sX s₁.heap H).Ns b m:=λ{b m} ⟨o,es,ep,e,d,r⟩=>⟨o,es,ep,base_of e (noA e d),d,r⟩
  have hKb:K.In (sX s₁.heap H):=λb o e=>base_of (KX b o e) (by
   cases q:H b with
   |none=>rfl
   |some u=>
    have e':b=a:=hA b (by rw[q];simp)
    subst e'
    rw[hK (by rw[q];simp)]at e;cases e)
  have hM:Mod K mg (sX s₁.heap H):=⟨hKb,nsK hns,⟨mb,nsK hb,hbb⟩,let⟨mc,h1,h2⟩:=hlim;⟨mc,nsK h1,h2⟩⟩
  have e0:Env0 P w K mg (sX s₁.heap H) callerA [] s₁ H:=⟨rfl,hM,λb o e=>Bt e,ZQ (xO _ _),trivial,λb hb=>absurd (show b∈([]:List Addr) from hb) (by simp),hok,.of_eq hg⟩
  refine codeAny_mono ((F _ hKb (nsK hns)).run callerA [] s₁ H ⟨[.ref a],[]⟩ [.ref a] [.ref a] _ _ hr e0 (hbind s₁ (.ref a)) (.cons rfl .nil) (hsp H hO hS)) λr s' h=>?_
  cases r with
  |error e=>exact(hCX H e s' h).elim
  |ok fl=>
   cases fl with
   |next=>exact False.elim h
   |brk=>exact False.elim h
   |cont=>exact False.elim h
   |ret u=>
    obtain⟨v,H',os,bare,un,hok',r',q⟩:=h
    have q':v= .bl true:=q
    subst q'
    obtain rfl:u=Value.bool true:=r'
    refine⟨rfl,OldK.of_keep λb o e=>?_,os,bare⟩
    cases q:H b with
    |none=>exact un.keep b o e q (by intro z;exact absurd (show b∈([]:List Addr) from z) (by simp)) (by simp)
    |some u=>
     rcases hO b with z|⟨ob,xs,z⟩
     ·rw[q]at z;cases z
     ·have z2:=un.frzs b ob _ z
      obtain⟨e1,_⟩:=hok b _ z
      obtain⟨e2,_⟩:=hok' b _ z2
      rw[e]at e1;cases e1
      exact e2
 cases hk:K.lookup a with
 |some o=>
  have e:=KX a o hk
  rw[ha]at e
  cases e
  refine core (λ_=>none) (λ_=> .inl rfl) (.inr ⟨_,vs.toArray,_,hk,rfl,rfl,rfl,by rw[Qi,lenV];exact hl,by simpa using rv⟩) (λb u z=>by have z':(none:Option HO)=some u:=z;cases z') (λb z=>absurd rfl z) λz=>absurd rfl z
 |none=>
  refine core (λb=>if b=a then some (.frz {cls:= .type "list",data:= .seq vs.toArray} (.lst (ns.map V.int)))else none) (λb=>?_) (.inl (.inr ⟨{cls:= .type "list",data:= .seq vs.toArray},if_pos rfl⟩)) (λb u z=>?_) (λb z=>?_) λ_=>hk
  ·by_cases hb:b=a
   ·exact .inr ⟨_,_,if_pos hb⟩
   ·exact .inl (if_neg hb)
  ·by_cases hb:b=a
   ·have z':=(if_pos hb).symm.trans z
    cases z'
    subst hb
    exact⟨ha,by rw[Q0];exact hl,vs,_,rv,ha⟩
   ·have z':=(if_neg hb).symm.trans z
    cases z'
  ·by_cases hb:b=a
   ·exact hb
   ·exact absurd (if_neg hb) z
end L2
namespace L2
open PySem PySem.Spec PyProof.Rows
theorem walk_of {l:PySem.W.OpenLaw} {n k:Nat} {q:Program} {loose:List Str} {XP:(Str→Option Value)→Heap→Prop} {YP:World→Heap→Prop} {d:DefRec} {K:Params→PySem.W.Frag} {CX:World→CXT} {sp:World→Sp} {x:Str}
  (hn:l.most=some n) (hn2:n≤sizeLine) (hdf:d.params.defaults=[]) (hr:Room k callerA)
  (hY:∀(w:World) (h:Heap),YP w h→(K w.params).In h)
  (F:∀(w:World) (mg:Str→Option Value) (fa:Addr) (h:Heap),(K w.params).In h→h.Ns mainGlobals mg→mg d.name=some (.ref fa)→
   ∃fd:FuncData,(∀(s:Shared) (u:Value),BindsTo s fd ⟨[u],[]⟩ [(x,u)])∧
    ∀base:Heap,(K w.params).In base→base.Ns mainGlobals mg→aX l.prog w (K w.params) mg base (CX w) k fa fd [x] (sp w))
  (hsp:∀(w:World) (H:Hp) (a:Addr) (ns:List Int),ns.length≤n→DD H→SqL (K w.params) H a (ns.map V.int)→sp w [.ref a] H (λv _=>v= .bl true) λ_ _ _=>False)
  (hCX:∀(w:World) (H:Hp) (s:Shared) (e:Value) (s':Shared),CX w [] H s (λ_ _ _=>False) e s'→False):
  PySem.W.WalkO q loose XP YP l.row.toRowW d [] (λf vs=>PySem.call f vs):=by
 refine Att.attach_call hn hdf λw s₀ s₁ mg mb fa o pm cd doc a vs ns G Y ho hd hcd hmg hobj hints hlen hg=>?_
 have KX:=hY w _ Y
 obtain⟨fd,hb,hF⟩:=F w mg fa _ KX G.T.g hmg
 exact zl KX G.T.g G.T.b G.T.builtins G.T.nolimit hg hobj hints (Z2 hlen hn2) hr hF hb (λH hO hS=>hsp w H a ns hlen hO hS) λH e s'=>hCX w H s₁ e s'
end L2
namespace L2
open PySem PySem.Spec PyProof.Rows
abbrev CX0:CXT:=λ_ _ _ _ _ _=>False
abbrev E0:XK:=λ_ _ _=>False
theorem az {X:Cx}:eI CX0 X E0:=λ_ _ _ _ _ _ _ h=>h.elim
structure Fun (K:PySem.W.Frag) (x qual:Str) (st:Stmt) (f:Addr) (fd:FuncData):Prop where
 ex:∃(oc:Value) (od:Option Addr) (kV doc pm:Value) (an:Option Addr) (cdv ct:Value) (osl:Array (Option Value)),
  fd=PySem.W.fnOf x qual (m4 st) (iY st) (am st) .none kV doc pm an cdv ct∧K.lookup f=some ⟨oc,od,.func fd,osl⟩∧PySem.W.codeIn K cdv qual=true
 kp:PySem.W.keepIn K (.ref f)=true
section
variable {P:Program} {w:World} {K:PySem.W.Frag} {mg:Str→Option Value} {base:Heap}
theorem Fun.ok {x qual:Str} {st:Stmt} {f:Addr} {fd:FuncData} {N ps:List Str} {k:Nat} {sp:Sp} (F:Fun K x qual st f fd) (S:ay N ps (am st)) (len:∀vs H Q E,sp vs H Q E→vs.length=ps.length)
  (hbody:∀(cdv:Value) (A:Around) (outer:List Env) (s:Shared) (H:Hp) (vs:List V) (Q:VK) (E:XK),Room k (A.deeper (envOfC qual (am st) s.heap.objs.size f cdv))→sp vs H Q E→
   ∃t,PSs (pI CX0 P w K mg base N qual (am st) f cdv A outer s H E).nox (iY st) t∧t {nx:=λ_ H'=>Q .non H',rt:=Q} (start N vs) H):aX P w K mg base CX0 (k+1) f fd ps sp:=by
 obtain⟨oc,od,kV,doc,pm,an,cdv,ct,osl,rfl,lk,hcd⟩:=F.ex
 refine Cz lk hcd S len λA outer s H vs Q E hr hsp=>?_
 obtain⟨t,h,q⟩:=hbody cdv A outer s H vs Q E hr hsp
 exact⟨t,h.nox,q⟩
theorem Dr {x qual:Str} {st:Stmt} {f:Addr} {oc:Value} {od an:Option Addr} {osl:Array (Option Value)} {kV doc pm cdv ct:Value} (l:K.lookup f=some ⟨oc,od,.func (PySem.W.fnOf x qual (m4 st) (iY st) (am st) .none kV doc pm an cdv ct),osl⟩)
  (c:PySem.W.codeIn K cdv qual=true) (k:PySem.W.keepIn K (.ref f)=true):Fun K x qual st f (PySem.W.fnOf x qual (m4 st) (iY st) (am st) .none kV doc pm an cdv ct):=⟨⟨oc,od,kV,doc,pm,an,cdv,ct,osl,rfl,l,c⟩,k⟩
end
theorem gi {A:Around} {k:Nat} (hr:Room k A):A.units+1<cLine:=X5 (Nat.add_le_add_left (by decide:1≤64) _) hr.units
theorem bK {n:Nat} (h:n≤1000):n<sizeLine:=X5 h (by decide)
section
variable {X:Cx}
theorem pv (i:Nat) {x:Str} {pos:Pos} (hN:X.N[i]?=some x:=by rfl) (hv:Vis X.env.scope x:=by first|exact Or.inl rfl|exact Or.inr (Or.inl rfl)|exact Or.inr (Or.inr rfl)) (hd:(x==("__debug__":Str))=false:=by decide)
  (hcd:(x==("__classdict__":Str))=false:=by decide):PE X (.Name x pos) (yv i):=C7 hN hv hd hcd
end
theorem cV {A B:Prop} (h:B):if false=true then A else B:=by
 rw[if_neg Qc]
 exact h
theorem cO {A B:Prop} (h:A):if true=true then A else B:=by
 rw[if_pos rfl]
 exact h
theorem lZ {c A B:Prop} [Decidable c] (h1:c→A) (h2:¬c→B):if c then A else B:=by
 by_cases h:c
 ·rw[if_pos h]
  exact h1 h
 ·rw[if_neg h]
  exact h2 h
theorem rq {c A B:Prop} [Decidable c] (hc:c) (h:B):if(!decide c)=true then A else B:=by
 rw[decide_eq_true hc]
 exact cV h
def Same (H H':Hp):Prop:=∀b o,H b=some o→H' b=some o
theorem Same.refl (H:Hp):Same H H:=λ_ _ h=>h
theorem Same.trans {H H1 H2:Hp} (a:Same H H1) (b:Same H1 H2):Same H H2:=λc o h=>b c o (a c o h)
end L2
namespace L2
open PySem PySem.Spec PyProof.Rows
section
variable {X:Cx}
theorem mj:eJ X (.builtin "len") (λxs H Q=>∃a kvs,xs=[V.ref a]∧H a=some (.dK kvs)∧Q (.int kvs.length) H):=by
 intro pins s σ H xs us Q I r h
 obtain⟨a,kvs,rfl,ha,q⟩:=h
 obtain⟨u,rfl,ru⟩:=j9 r
 cases ru
 exact Es I (.inl ha) λt s' I'=>⟨.int kvs.length,H,I',⟨t,rfl⟩,q⟩
end
section
variable {κ:Type} [DecidableEq κ]
theorem yp {kvs:List (κ×V)} {k:κ} (h:aI kvs k=none):¬k∈kvs.map (·.1):=by
 intro m
 obtain⟨p,hp,e⟩:=Qb.mp m
 have q:(kvs.any λkv=>decide (kv.1=k))=true:=List.any_eq_true.mpr ⟨p,hp,decide_eq_true e⟩
 rw[bV,h]at q
 exact absurd q (by simp)
theorem mU {kvs:List (κ×V)} {k:κ} {v:V} (h:aI kvs k=some v):k∈kvs.map (·.1):=by
 have q:(kvs.any λkv=>decide (kv.1=k))=true:=by
  rw[bV,h]
  all_goals rfl
 obtain⟨p,hp,e⟩:=List.any_eq_true.mp q
 exact Qb.mpr ⟨p,hp,of_decide_eq_true e⟩
theorem wo:∀{l:List κ} {k:κ},l.Nodup→¬k∈l→(l++ [k]).Nodup
 | [],k,_,_=>by simp
 |a::r,k,h,hk=>by
  obtain⟨h1,h2⟩:=QE.mp h
  show(a::(r++ [k])).Nodup
  refine QE.mpr ⟨λm=>?_,wo h2 λm=>hk (Qe.mpr (Or.inr m))⟩
  rcases Q7.mp m with q|q
  ·exact h1 q
  ·exact hk (Qe.mpr (Or.inl (Qd.mp q).symm))
theorem Bu {kvs:List (κ×V)} {k:κ} (v:V) (hn:(kvs.map (·.1)).Nodup) (h:aI kvs k=none):((bg kvs k v).map (·.1)).Nodup:=by
 rw[yM v h,Qk]
 exact wo hn (yp h)
theorem l6 {p:κ×V} {r:List (κ×V)} {k:κ} (e:p.1=k):bp (p::r) k=bp r k:=by
 unfold bp
 rw[Zg,if_neg (by simp[e])]
theorem iX {p:κ×V} {r:List (κ×V)} {k:κ} (e:¬p.1=k):bp (p::r) k=p::bp r k:=by
 unfold bp
 rw[Zg,if_pos (by simp[e])]
theorem uE:∀{kvs:List (κ×V)} {k:κ},¬k∈kvs.map (·.1)→bp kvs k=kvs
 | [],_,_=>rfl
 |p::r,k,h=>by
  have h':¬k∈r.map (·.1):=λm=>by
   obtain⟨q,hq,e⟩:=Qb.mp m
   exact h (Qb.mpr ⟨q,Qe.mpr (Or.inr hq),e⟩)
  rw[iX λe=>h (Qb.mpr ⟨p,Qe.mpr (Or.inl rfl),e⟩),uE h']
theorem rJ {kvs:List (κ×V)} {k:κ} {p:κ×V} (h:p∈bp kvs k):p∈kvs:=(Zc.mp h).1
theorem kC:∀{kvs:List (κ×V)} {k:κ},(kvs.map (·.1)).Nodup→((bp kvs k).map (·.1)).Nodup
 | [],_,_=>Zi
 |p::r,k,h=>by
  have h:(p.1::r.map (·.1)).Nodup:=h
  obtain⟨h1,h2⟩:=QE.mp h
  by_cases e:p.1=k
  ·rw[l6 e]
   exact kC h2
  ·rw[iX e]
   show(p.1::(bp r k).map (·.1)).Nodup
   refine QE.mpr ⟨λm=>h1 ?_,kC h2⟩
   obtain⟨q,hq,eq⟩:=Qb.mp m
   exact Qb.mpr ⟨q,rJ hq,eq⟩
theorem rK:∀{kvs:List (κ×V)} {k:κ},(kvs.map (·.1)).Nodup→k∈kvs.map (·.1)→(bp kvs k).length+1=kvs.length
 | [],_,_,m=>by simp at m
 |p::r,k,h,m=>by
  have h:(p.1::r.map (·.1)).Nodup:=h
  have m:k=p.1∨k∈r.map (·.1):=Qe.mp m
  obtain⟨h1,h2⟩:=QE.mp h
  by_cases e:p.1=k
  ·subst e
   rw[l6 rfl,uE h1]
   all_goals rfl
  ·have m':k∈r.map (·.1):=m.resolve_left λz=>e z.symm
   have q:=rK h2 m'
   rw[iX e,Qf,Qf]
   omega
end
end L2
namespace L2
open PySem PySem.Spec PyProof.Rows
theorem a9:bootBuiltins "len"=some (.builtin "len"):=by decide+kernel
theorem bz:bootBuiltins "isinstance"=some (.builtin "isinstance"):=by decide+kernel
theorem pP:bootBuiltins "min"=some (.builtin "min"):=by decide+kernel
theorem c8:bootBuiltins "sorted"=some (.builtin "sorted"):=by decide+kernel
theorem zN:bootBuiltins "int"=some (.type "int"):=by decide+kernel
theorem wP:bootBuiltins "bool"=some (.type "bool"):=by decide+kernel
theorem Dy:bootBuiltins "max"=some (.builtin "max"):=by decide+kernel
theorem qD:bootBuiltins "ValueError"=some (.type "ValueError"):=by decide+kernel
theorem vG {K:PySem.W.Frag}:PySem.W.kitOne K (.type "int") (.type "int")=some true:=by kernel_rfl
theorem vH {K:PySem.W.Frag}:PySem.W.kitOne K (.type "int") (.type "bool")=some false:=by kernel_rfl
theorem iF {c A B:Prop} [Decidable c] (hc:c) (h:A):if decide c=true then A else B:=by
 rw[decide_eq_true hc]
 exact cO h
theorem bR {c A B:Prop} [Decidable c] (hc:¬c) (h:B):if decide c=true then A else B:=by
 rw[decide_eq_false hc]
 exact cV h
theorem iV {K:PySem.W.Frag} {a:Addr} {xs:List V} {g:TG} {tb:TS} {nx:St→Hp→Prop} {rt:VK} {σ:St} {H:Hp} (Pv:Nat→St→Hp→Prop) (h0:Pv 0 σ H) (hl:∀i σ H,i≤xs.length→Pv i σ H→SqL K H a xs)
  (hs:∀i x σ H,xs[i]?=some x→Pv i σ H→g x σ H λσ2 H2=>tb ⟨Pv (i+1),rt,nx,Pv (i+1)⟩ σ2 H2) (hd:∀σ H,Pv xs.length σ H→nx σ H):
  ∃W:Nat→Nat→St→Hp→Prop,(∃m,W 0 m σ H)∧∀i m σ H,W i m σ H→
   ((Itl K a).stop i H∧nx σ H)∨((Itl K a).go i H∧∃N:St→Hp→Prop,(∀σ' H',N σ' H'→∃m',m'<m∧W (i+1) m' σ' H')∧∀x H',(Itl K a).yld i H x H'→g x σ H' λσ2 H2=>tb ⟨N,rt,nx,N⟩ σ2 H2):=
 zC (D:=⟨nx,rt,λ_ _=>False,λ_ _=>False⟩) Pv h0 hl hs hd
theorem uK {ns:List Int} {k:Int} (h0:0≤k) (h:k<(ns.length:Int)):atI (ns.map V.int) k=some (.int (ns.getD k.toNat 0)):=by
 obtain⟨j,rfl⟩:=Za h0
 refine tF ?_
 have hj:j<ns.length:=by omega
 rw[Ql,Q5 hj,QQ,Qn,Q5 hj]
 rfl
section
variable {X:Cx}
theorem eS:eJ X (.builtin "isinstance") (λxs H Q=>∃x n t b,xs=[x,.ty n]∧TyOf X.K H x t∧PySem.W.kitOne X.K t (.type n)=some b∧Q (.bl b) H):=by
 intro pins s σ H xs us Q I r h
 obtain⟨x,n,t,b,rfl,ty,e,q⟩:=h
 obtain⟨u,w',rfl,ru,rw'⟩:=j8 r
 cases (show w'=Value.type n from rw')
 exact xJ I ru ty e λtk=>⟨.bl b,H,I.tok _,rfl,q⟩
theorem q9:OpR X (compareOp .IsNot) (λx y H Q=>∃a b,x= .bl a∧y= .bl b∧Q (.bl (a !=b)) H):=by
 intro pins s σ H x y v u Q I rx ry h
 obtain⟨a,b,rfl,rfl,q⟩:=h
 cases rx
 cases ry
 exact isnot_bool (a6 I q rfl)
end
end L2
namespace SW
def rv:Nat→Nat→Nat
 |0,_=>0
 |k+1,n=>(n%2)*2^k+rv k (n/2)
theorem we:∀(k n:Nat),rv k n<2^k
 |0,_=>by simp[rv]
 |k+1,n=>by
  have h:=we k (n/2)
  have m:n%2<2:=Nat.mod_lt _ (by decide)
  have e:rv (k+1) n=(n%2)*2^k+rv k (n/2):=rfl
  have p:2^(k+1)=2*2^k:=by rw[ZR,X2]
  rw[e,p]
  rcases Nat.mod_two_eq_zero_or_one n with z|z<;>rw[z]<;>omega
theorem sw:∀(k n:Nat),rv (k+1) n=rv k n*2+(n/2^k)%2
 |0,n=>by simp[rv]
 |k+1,n=>by
  have h:=sw k (n/2)
  have e1:rv (k+2) n=(n%2)*2^(k+1)+rv (k+1) (n/2):=rfl
  have e2:rv (k+1) n=(n%2)*2^k+rv k (n/2):=rfl
  have d:n/2/2^k=n/2^(k+1):=by
   rw[Xd,ZR,X2]
  rw[e1,e2,h,d,ZR]
  rw[Nat.add_mul,Nat.mul_assoc]
  omega
theorem yH:∀(k n:Nat),rv k (n%2^k)=rv k n
 |0,_=>rfl
 |k+1,n=>by
  have p:2^(k+1)=2*2^k:=by rw[ZR,X2]
  have e1:n%2^(k+1)%2=n%2:=by
   rw[p];exact Nat.mod_mul_right_mod n 2 (2^k)
  have e2:n%2^(k+1)/2=n/2%2^k:=by
   rw[p];exact Nat.mod_mul_right_div_self n 2 (2^k)
  show(n%2^(k+1)%2)*2^k+rv k (n%2^(k+1)/2)=(n%2)*2^k+rv k (n/2)
  rw[e1,e2,yH k (n/2)]
theorem wc:∀k,rv k 0=0
 |0=>rfl
 |k+1=>by show(0%2)*2^k+rv k (0/2)=0;rw[Nat.zero_div,wc k];simp
theorem oC:∀(a b n:Nat),rv (a+b) n=rv a n*2^b+rv b (n/2^a)
 |0,b,n=>by simp[rv]
 |a+1,b,n=>by
  have h:=oC a b (n/2)
  have e:a+1+b=(a+b)+1:=by omega
  have d:n/2/2^a=n/2^(a+1):=by
   rw[Xd,ZR,X2]
  rw[e]
  show(n%2)*2^(a+b)+rv (a+b) (n/2)=((n%2)*2^a+rv a (n/2))*2^b+_
  rw[h,d,Nat.add_mul,Nat.mul_assoc,←Nat.pow_add]
  omega
theorem yG:∀(k n:Nat),rv k (rv k n)=n%2^k
 |0,n=>by simp[rv,Nat.mod_one]
 |k+1,n=>by
  have e:rv (k+1) n=rv k n*2+(n/2^k)%2:=sw k n
  have e1:(rv k n*2+(n/2^k)%2)%2=(n/2^k)%2:=by omega
  have e2:(rv k n*2+(n/2^k)%2)/2=rv k n:=by omega
  rw[e]
  show(rv k n*2+(n/2^k)%2)%2*2^k+rv k ((rv k n*2+(n/2^k)%2)/2)=n%2^(k+1)
  rw[e1,e2,yG k n,ZR,Nat.mod_mul,X2 (2^k)]
  omega
theorem CY {a b n:Nat}:rv (a+b) n/2^b=rv a n:=by
 have l:=we b (n/2^a)
 rw[oC a b n,X2,Nat.mul_add_div (Nat.two_pow_pos b),Nat.div_eq_of_lt l,ZS]
theorem AX {a b s:Nat} (h:s<2^a):rv (a+b) s=rv a s*2^b:=by
 rw[oC a b s,Nat.div_eq_of_lt h,wc,ZS]
@[irreducible] def tz (n:Int):Int:=((rv 16 n.toNat:Nat):Int)
@[irreducible] def rz (a:Nat) (n:Int):Int:=((rv a n.toNat:Nat):Int)
theorem lE (n:Int):0≤tz n:=by unfold tz;exact Int.natCast_nonneg _
theorem Cd (n:Int):tz n<65536:=by
 have h:=we 16 n.toNat
 have e:(2:Nat)^16=65536:=by decide
 unfold tz;omega
theorem vZ {n:Int} (h0:0≤n) (h1:n<65536):tz (tz n)=n:=by
 have h:=yG 16 n.toNat
 have e:(2:Nat)^16=65536:=by decide
 unfold tz
 rw[QQ,h,e]
 omega
theorem CL {n m:Int} (h0:0≤n) (h1:n<65536) (k0:0≤m) (k1:m<65536) (e:tz n=tz m):n=m:=by
 rw[←vZ h0 h1,←vZ k0 k1,e]
theorem xa (i:Nat) (m:Nat):((rv i m:Nat):Int)*2+((m/2^i:Nat):Int)%2=((rv (i+1) m:Nat):Int):=by
 rw[sw];omega
theorem xb (i:Nat) (m:Nat):((m/2^i:Nat):Int)/2=((m/2^(i+1):Nat):Int):=by
 have d:m/2^i/2=m/2^(i+1):=by rw[Xd,ZR]
 rw[←d];omega
theorem xk (a:Nat) (n:Int):0≤rz a n:=by unfold rz;exact Int.natCast_nonneg _
theorem D0 (a:Nat) (n:Int):rz a n<2^a:=by
 have h:=we a n.toNat
 unfold rz
 have c:((rv a n.toNat:Nat):Int)<((2^a:Nat):Int):=by exact_mod_cast h
 simpa using c
theorem DZ (a:Nat) {n:Int} (h0:0≤n) (h1:n<2^a):rz a (rz a n)=n:=by
 obtain⟨m,rfl⟩:=Za h0
 have h:=yG a m
 have h1':m<2^a:=by exact_mod_cast h1
 unfold rz
 rw[QQ,QQ,h,Nat.mod_eq_of_lt h1']
theorem AL {a b:Nat} (hab:a+b=16) {s:Int} (h0:0≤s) (h1:s<2^a):tz s=rz a s*2^b:=by
 obtain⟨m,rfl⟩:=Za h0
 have h1':m<2^a:=by exact_mod_cast h1
 have h:=AX (b:=b) h1'
 rw[hab]at h
 unfold tz rz
 rw[QQ,h]
 simp
theorem CK {a b:Nat} (hab:a+b=16) {m:Int} (h0:0≤m):tz m/2^b=rz a (m%2^a):=by
 obtain⟨n,rfl⟩:=Za h0
 have h:=CY (a:=a) (b:=b) (n:=n)
 rw[hab]at h
 have e:((n:Int)%2^a).toNat=n%2^a:=by
  have c:((n:Int)%2^a)=((n%2^a:Nat):Int):=by simp
  rw[c,QQ]
 unfold tz rz
 rw[QQ,e,yH,←h]
 simp
structure Row (S:Int) (a b:Nat):Prop where
 ab:a+b=16
 lo:2≤a
 hi:a≤9
 eq:S=2^a
section
variable {S:Int} {a b:Nat} (R:Row S a b)
include R
theorem Row.mul:S*2^b=65536:=by
 rw[R.eq,←Int.pow_add,R.ab];decide
theorem Row.wpos:(0:Int)<2^b:=Int.pow_pos (by decide)
theorem Row.pos:0<S:=by rw[R.eq];exact Int.pow_pos (by decide)
theorem Row.width:65536/S=2^b:=by
 rw[←R.mul,Int.mul_ediv_cancel_left _ (Z3 R.pos)]
theorem Row.wpos':0<65536/S:=by rw[R.width];exact R.wpos
theorem Row.slot {s:Int} (h0:0≤s) (h1:s<S):tz s=2^b*rz a s∧0≤rz a s∧rz a s<S∧rz a (rz a s)=s:=by
 have h1':s<2^a:=by rw[←R.eq];exact h1
 refine⟨by rw[AL R.ab h0 h1',XB],xk _ _,by rw[R.eq];exact D0 _ _,DZ _ h0 h1'⟩
theorem Row.top {m:Int} (h0:0≤m):2^b*rz a (m%S)≤tz m∧tz m<2^b*rz a (m%S)+2^b:=by
 have d:=CK R.ab h0
 rw[←R.eq]at d
 have e:=Xo (tz m) (2^b)
 have p:=Qs (tz m) (Z3 R.wpos)
 have q:=Qv (tz m) R.wpos
 rw[d]at e
 omega
theorem Row.mod0 (m:Int):0≤m%S:=Qs _ (Z3 R.pos)
theorem Row.mod1 (m:Int):m%S<S:=Qv _ R.pos
theorem Row.between {W x y p:Int} (hW:0<W) (h0:W*x≤p) (h1:p<W*x+W) (k0:W*y≤p) (k1:p<W*y+W):x=y:=by
 rcases Int.lt_trichotomy x y with h|h|h
 ·have:W*(x+1)≤W*y:=XT (by omega) (Int.le_of_lt hW)
  rw[Int.mul_add]at this;omega
 ·exact h
 ·have:W*(y+1)≤W*x:=XT (by omega) (Int.le_of_lt hW)
  rw[Int.mul_add]at this;omega
theorem Row.st_has {m:Int} (h0:0≤m):tz (m%S)≤tz m∧tz m<tz (m%S)+65536/S:=by
 obtain⟨e,_⟩:=R.slot (R.mod0 m) (R.mod1 m)
 have t:=R.top h0
 rw[R.width,e]
 exact t
end
theorem jK {k:Nat} (h:k≤6):Row (4*2^k) (k+2) (14-k):=by
 refine⟨by omega,by omega,by omega,?_⟩
 rw[Int.pow_add]
 omega
end SW
namespace L2
open PySem PySem.Spec PyProof.Rows
abbrev aM (C:Addr) (od:Option Addr) (vs:Array Value):Obj:={cls:= .ref C,dict:=od,data:= .fields vs}
def Trc (h:Heap) (e:Addr) (vs:Array Value) (T:Addr) (fl:Value):Prop:=
 vs[1]?=some (.ref T)∧T≠e∧∃oT ts,h.get? T=some oT∧oT.data= .fields ts∧ts[3]?=some fl
structure Noted (l:List Addr) (e:Addr) (old:Addr→Prop) (h h':Heap):Prop where
 keep:∀b o,h.get? b=some o→b∉l→b≠e→¬old b→h'.get? b=some o
 slot:∀b o,h.get? b=some o→b∈l→b≠e→¬old b→∃sl,h'.get? b=some {o with slots:=sl}
 there:∀b o,h.get? b=some o→∃o',h'.get? b=some o'
section
variable {M:Model} {A:Around} {E:Value→Shared→Prop} {s:Shared} {base:Heap} {env:Env} {outer:List Env} {L e C:Addr} {od:Option Addr} {vs:Array Value} {Q:Unit→Shared→Prop}
theorem Ds (hl:s.heap.FunFrames base (env::outer)) (he:s.heap.get? e=some (aM C od vs)):e∉frs (env::outer):=λhm=>by
 obtain⟨_,o,ho,hn⟩:=hl.mem hm
 cases he.symm.trans ho
 exact hn vs rfl
theorem o3 {head:Value} {had:Bool} (hfr:A.frames=some (env::outer)) (hl:s.heap.FunFrames base (env::outer)) (hf:env.frame=some L) (he:s.heap.get? e=some (aM C od vs)) (hsz:1<vs.size)
  (q:∀h' T vs',Noted (frs (env::outer)) e (λ_=>False) s.heap h'→h'.get? e=some (aM C od vs')→(vs'.size=vs.size∧vs'[2]?=vs[2]?)→s.heap.objs.size≤T→Trc h' e vs' T (rawInt L)→Q () {s with heap:=h'}):
  wpAny M A (do let a←frameOf env;let pl←entryPlaceOf L had;let b←EntryCells.newEntry head a .none (rawInt L) .none pl;setField (.ref e) 1 b) Q E s:=by
 have nf:e∉(env::outer).filterMap (·.frame):=Ds hl he
 refine wpAny_bind (wpAny_frameOf_fun hfr hl hf λh1 so=>?_)
 refine wpAny_bind (wpAny_entryPlaceOf λpl ip=>?_)
 unfold EntryCells.newEntry newFields
 refine wpAny_bind (wpAny_newObj_type ?_ (ip.sizeOk5 _ _ _ _ _))
 have e1:h1.get? e=some (aM C od vs):=(so.2.1 e nf).trans he
 have big:3<([head,Value.ref L,.none,rawInt L,.none]++(if pl.isEmpty then List.replicate 6 Value.none else pl)).toArray.size:=by
  simp only[Qi,Qg,Qf,XU]
  omega
 have at3:([head,Value.ref L,.none,rawInt L,.none]++(if pl.isEmpty then List.replicate 6 Value.none else pl)).toArray[3]?=some (rawInt L):=by simp
 generalize ([head,Value.ref L,.none,rawInt L,.none]++(if pl.isEmpty then List.replicate 6 Value.none else pl)).toArray=ts at big at3
 generalize eo:({cls:= .type "traceback",dict:=none,data:= .fields ts}:Obj)=oT
 have e2:(h1.push oT).get? e=some (aM C od vs):=Heap.get?_push_of_some _ e1
 have ne:h1.objs.size≠e:=Xz (Heap.lt_size e1)
 refine wpAny_setField e2 rfl hsz (q _ h1.objs.size (vs.setIfInBounds 1 (.ref h1.objs.size)) ⟨λb o g1 g2 g3 _=>?_,λb o g1 _ g3 _=>?_,λb o g1=>?_⟩ ?_ ⟨Array.size_setIfInBounds,by simp⟩ (ZQ so.1.symm) ⟨by simp[hsz],ne,oT,ts,?_,by rw[←eo],at3⟩)
 ·rw[Heap.get?_update_other _ _ (Ne.symm g3)]
  exact Heap.get?_push_of_some _ ((so.2.1 b g2).trans g1)
 ·obtain⟨sl,r⟩:=so.2.2 b o g1
  exact⟨sl,(Heap.get?_update_other _ _ (Ne.symm g3)).trans (Heap.get?_push_of_some _ r)⟩
 ·by_cases z:b=e
  ·subst z
   exact⟨_,Heap.get?_update_self _ e2 rfl⟩
  ·obtain⟨sl,r⟩:=so.2.2 b o g1
   exact⟨_,(Heap.get?_update_other _ _ (Ne.symm z)).trans (Heap.get?_push_of_some _ r)⟩
 ·exact Heap.get?_update_self _ e2 rfl
 ·rw[Heap.get?_update_other _ _ (Ne.symm ne),←eo]
  exact Heap.get?_push_size h1 rfl
theorem vt (hfr:A.frames=some (env::outer)) (hl:s.heap.FunFrames base (env::outer)) (hf:env.frame=some L) (he:s.heap.get? e=some (aM C od vs)) (h1:vs[1]?=some .none)
  (q:∀h' T vs',Noted (frs (env::outer)) e (λ_=>False) s.heap h'→h'.get? e=some (aM C od vs')→(vs'.size=vs.size∧vs'[2]?=vs[2]?)→s.heap.objs.size≤T→Trc h' e vs' T (rawInt L)→Q () {s with heap:=h'}):
  wpAny M A (noteFrame (.ref e) env) Q E s:=by
 unfold noteFrame
 simp only[hf]
 refine wpAny_bind (wpAny_field he rfl h1 ?_)
 rw[if_neg (by decide)]
 exact o3 hfr hl hf he (ZB.mp h1).1 q
theorem xv {T:Addr} (hfr:A.frames=some (env::outer)) (hl:s.heap.FunFrames base (env::outer)) (hf:env.frame=some L) (he:s.heap.get? e=some (aM C od vs)) (tr:Trc s.heap e vs T .none)
  (q:∀h' T' vs',Noted (frs (env::outer)) e (· =T) s.heap h'→h'.get? e=some (aM C od vs')→(vs'.size=vs.size∧vs'[2]?=vs[2]?)→s.heap.objs.size≤T'→Trc h' e vs' T' (rawInt L)→Q () {s with heap:=h'}):
  wpAny M A (noteFrame (.ref e) env) Q E s:=by
 obtain⟨h1,ne,oT,ts,hT,hd,h3⟩:=tr
 unfold noteFrame
 simp only[hf]
 refine wpAny_bind (wpAny_field he rfl h1 ?_)
 rw[if_pos (show(Value.ref T !=Value.none)=true by simp)]
 refine wpAny_bind (wpAny_field hT hd h3 ?_)
 rw[if_neg (show ¬(Value.none==rawInt L)=true by simp[rawInt])]
 have oth:∀b,b≠T→(s.heap.update T (Obj.mapFields (·.setIfInBounds 3 Value.none))).get? b=s.heap.get? b:=λb z=>Heap.get?_update_other _ _ (Ne.symm z)
 have nofr:∀b o,s.heap.get? b=some o→(∀ws,o.data≠ .fields ws)→b≠T:=λb o g1 g2 z=>by
  subst z
  cases hT.symm.trans g1
  exact g2 ts hd
 refine wpAny_bind (wpAny_setField hT hd (ZB.mp h3).1 ?_)
 refine o3 hfr (hl.of_keeps λb o g1 g2=>⟨o,(oth b (nofr b o g1 g2)).trans g1,rfl⟩) hf ((oth e (Ne.symm ne)).trans he) (ZB.mp h1).1 λh' T' vs' n g1 g2 g3 g4=>?_
 refine q h' T' vs' ⟨λb o k1 k2 k3 k4=>n.keep b o ((oth b k4).trans k1) k2 k3 id,λb o k1 k2 k3 k4=>n.slot b o ((oth b k4).trans k1) k2 k3 id,λb o k1=>?_⟩ g1 g2 (by rw[Heap.size_after_update]at g3;exact g3) g4
 by_cases z:b=T
 ·subst z
  exact n.there b _ (Heap.get?_update_self _ hT (Obj.isFreed_of_fields (Obj.data_mapFields hd _)))
 ·exact n.there b o ((oth b z).trans k1)
theorem jW {l:List Addr} {T:Addr} {fl:Value} (he:s.heap.get? e=some (aM C od vs)) (tr:Trc s.heap e vs T fl)
  (q:∀h',(∀b o,b≠T→s.heap.get? b=some o→h'.get? b=some o)→h'.get? e=some (aM C od vs)→(∃o,h'.get? T=some o)→h'.objs.size=s.heap.objs.size→Trc h' e vs T .none→Q () {s with heap:=h'}):
  wpAny M A (setFlight (.ref e) none) Q E s:=by
 obtain⟨h1,ne,oT,ts,hT,hd,h3⟩:=tr
 have big:3<ts.size:=(ZB.mp h3).1
 unfold setFlight
 refine wpAny_bind (wpAny_field he rfl h1 ?_)
 rw[if_pos (show(Value.ref T !=Value.none)=true by simp)]
 have oth:∀b,b≠T→(s.heap.update T (Obj.mapFields (·.setIfInBounds 3 ((none:Option Addr).elim Value.none λf=>rawInt f)))).get? b=s.heap.get? b:=λb z=>Heap.get?_update_other _ _ (Ne.symm z)
 have new:=Heap.get?_update_self (Obj.mapFields (·.setIfInBounds 3 ((none:Option Addr).elim Value.none λf=>rawInt f))) hT (Obj.isFreed_of_fields (Obj.data_mapFields hd _))
 exact wpAny_setField hT hd big (q _ (λb o z g=>(oth b z).trans g) ((oth e (Ne.symm ne)).trans he) ⟨_,new⟩ (Heap.size_after_update ..) ⟨h1,ne,_,_,new,Obj.data_mapFields hd _,by simp[big]⟩)
end
end L2
namespace L2
open PySem PySem.Spec PyProof.Rows
def XN (e C:Addr) (od:Option Addr):HO:= .ext λh=>∃t,h.get? e=some (aM C od #[.ref t,.none,.none,.none,.bool false,.none])
def XO (e C:Addr) (od:Option Addr):HO:= .ext λh=>∃vs,h.get? e=some (aM C od vs)∧1<vs.size
section
variable {P:Program} {w:World} {H:Hp} {h h':Heap} {e C:Addr} {od:Option Addr} {vs:Array Value}
theorem yh {t:Addr} (k:h.get? e=some (aM C od #[.ref t,.none,.none,.none,.bool false,.none])):ObjOk P w H h e (XN e C od):=
 ⟨⟨t,k⟩,⟨_,k⟩,λ_ _ ⟨t,k⟩ st=>⟨t,st _ k⟩⟩
theorem Cb (k:h.get? e=some (aM C od vs)) (z:1<vs.size):ObjOk P w H h e (XO e C od):=
 ⟨⟨vs,k,z⟩,⟨_,k⟩,λ_ _ ⟨vs,k,z⟩ st=>⟨vs,st _ k,z⟩⟩
theorem yi (ok:HOk P w H h) (q:H e=some (XN e C od)):∃t,h.get? e=some (aM C od #[.ref t,.none,.none,.none,.bool false,.none]):=(ok e _ q).1
theorem yg (ok:HOk P w H h) (q:H e=some (XO e C od)):∃vs,h.get? e=some (aM C od vs)∧1<vs.size:=(ok e _ q).1
theorem Noted.hok {l:List Addr} {old:Addr→Prop} {φ:Heap→Prop} (n:Noted l e old h h') (ok:HOk P w H h) (hl:∀b∈l,H b=none) (ho:∀b,old b→H b=none) (he:H e=some (.ext φ))
  (new:h'.get? e=some (aM C od vs)) (z:1<vs.size):HOk P w (upd H e (XO e C od)) h':=λb u q=>by
 by_cases hb:b=e
 ·subst hb
  rw[af]at q
  cases q
  exact Cb new z
 ·rw[ac hb]at q
  have oth:∀c v,H c=some v→c≠e→∀o,h.get? c=some o→h'.get? c=some o:=λc v r ne o g=>
   n.keep c o g (λm=>by rw[hl c m]at r;cases r) ne λm=>by rw[ho c m]at r;cases r
  refine(ok b u q).stay (λc v hc r=>?_) (λc r=>?_) λc xs r=>?_
  ·rcases hc with rfl|hc
   ·exact oth _ _ q hb v r
   ·exact oth _ _ hc (λm=>by rw[m,he]at hc;cases hc) v r
  ·rw[ac (λm=>by rw[m,he]at r;cases r)]
   exact r
  ·rw[ac (λm=>by rw[m,he]at r;cases r)]
   exact r
theorem Noted.un {l:List Addr} {old:Addr→Prop} {ch:List Addr} {φ:Heap→Prop} {o':HO} (n:Noted l e old h h') (hc:∀b,old b→b∈ch) (he:H e=some (.ext φ)):Un l ch H (upd H e o') h h':=by
 have ne:∀b,H b=none→b≠e:=λb r z=>by rw[z,he]at r;cases r
 refine⟨λb o g r m k=>n.keep b o g m (ne b r) λz=>k (hc b z),λb o g r m k=>n.slot b o g m (ne b r) λz=>k (hc b z),λb o _ r _=>by rw[ac (ne b r)];exact r,λb o g _=>n.there b o g,λb xs r=>?_,λb o u r=>?_,λb ps r=>⟨#[],?_⟩⟩
 ·rw[ac (λm=>by rw[m,he]at r;cases r)]
  exact r
 ·rw[ac (λm=>by rw[m,he]at r;cases r)]
  exact r
 ·rw[ac (λm=>by rw[m,he]at r;cases r),r]
  simp
end
def CX1 (P:Program) (w:World):CXT:=λouter H s E e s'=>∃(ea C:Addr) (od:Option Addr) (vs:Array Value) (T:Addr) (H':Hp),
 e= .ref ea∧s'.os=s.os∧AllBare s'.gens∧Un (frs outer) [] H H' s.heap s'.heap∧HOk P w H' s'.heap∧H' ea=some (XO ea C od)∧s'.heap.get? ea=some (aM C od vs)∧1<vs.size∧
 Trc s'.heap ea vs T .none∧H' T=none∧s.heap.objs.size≤T∧E (.ref ea) od H'
end L2
namespace L2
open PySem PySem.Spec PyProof.Rows
theorem ni {H:Hp} {a:Addr} {o:HO} (h:H a=some o):upd H a o=H:=by
 funext b
 by_cases z:b=a
 ·subst z;rw[af,h]
 ·rw[ac z]
def wV (X:Cx) (E:St→XK) (e:Value) (s:Shared):Prop:=∃(pins:List (Addr×Obj)) (σ:St) (H:Hp) (ea C:Addr) (od:Option Addr) (vs:Array Value) (φ:Heap→Prop),
 e= .ref ea∧Inv X pins σ H s∧H ea=some (.ext φ)∧s.heap.get? ea=some (aM C od vs)∧1<vs.size∧(vs[1]?=some .none∨∃T,Trc s.heap ea vs T .none∧hV X pins H T)∧E σ (.ref ea) od (upd H ea (XO ea C od))
section
variable {X:Cx} {pins:List (Addr×Obj)} {σ:St} {H:Hp} {s:Shared} {M:Model} {A:Around} {W:Value→Shared→Prop}
theorem vq {ea C:Addr} {od:Option Addr} {vs:Array Value} {φ:Heap→Prop} {Q:Unit→Shared→Prop} (I:Inv X pins σ H s) (hst:X.stack=X.env::X.outer) (hf:X.env.frame=some X.env.locals) (hA:A.frames=some X.stack)
  (hx:H ea=some (.ext φ)) (hr:s.heap.get? ea=some (aM C od vs)) (hz:1<vs.size) (ht:vs[1]?=some .none∨(∃T,Trc s.heap ea vs T .none∧hV X pins H T)∨∃T,Trc s.heap ea vs T (rawInt X.env.locals)∧hV X pins H T)
  (q:∀s' vs' T,Inv X pins σ (upd H ea (XO ea C od)) s'→s'.heap.get? ea=some (aM C od vs')→1<vs'.size→Trc s'.heap ea vs' T .none→hV X pins (upd H ea (XO ea C od)) T→vs'[2]?=vs[2]?→Q () s'):
  wpAny M A (noteFrame (.ref ea) X.env) (λ_ s1=>wpAny M A (setFlight (.ref ea) none) Q W s1) W s:=by
 rw[hst]at hA
 have hl:s.heap.FunFrames X.base (X.env::X.outer):=hst▸I.stack
 have hfree:∀b∈frs (X.env::X.outer),H b=none:=hst▸I.stkFree
 have fin:∀(old:Addr→Prop) (ch:List Addr) (h1:Heap) (T':Addr) (vs':Array Value),(∀b,old b↔b∈ch)→(∀b∈ch,hV X pins H b)→Noted (frs (X.env::X.outer)) ea old s.heap h1→h1.get? ea=some (aM C od vs')→(vs'.size=vs.size∧vs'[2]?=vs[2]?)→
   s.heap.objs.size≤T'→Trc h1 ea vs' T' (rawInt X.env.locals)→wpAny M A (setFlight (.ref ea) none) Q W {s with heap:=h1}:=by
  intro old ch h1 T' vs' hoc hch n g1 g2 g3 g4
  refine jW (l:=[]) (s:={s with heap:=h1}) g1 g4 λh2 k1 k2 k3 k4 k5=>?_
  have nT:∀b o,s.heap.get? b=some o→b≠T':=λb o g z=>absurd (Heap.lt_size g) (Xx.mpr (z▸g3))
  have n2:Noted (frs (X.env::X.outer)) ea old s.heap h2:=⟨λb o r1 r2 r3 r4=>k1 b o (nT b o r1) (n.keep b o r1 r2 r3 r4),λb o r1 r2 r3 r4=>by
    obtain⟨sl,r⟩:=n.slot b o r1 r2 r3 r4
    exact⟨sl,k1 b _ (nT b o r1) r⟩,λb o r1=>by
    obtain⟨o',r⟩:=n.there b o r1
    exact⟨o',k1 b _ (nT b o r1) r⟩⟩
  have hok2:HOk X.prog X.w (upd H ea (XO ea C od)) h2:=n2.hok I.hok hfree (λb z=>(hch b ((hoc b).mp z)).1) hx k2 (g2.1▸hz)
  have un2:Un (frs X.stack) ch H (upd H ea (XO ea C od)) s.heap h2:=by
   rw[hst]
   exact n2.un (λb z=>(hoc b).mp z) hx
  have I2:Inv X pins σ (upd H ea (XO ea C od)) {s with heap:=h2}:=I.call' (s':={s with heap:=h2}) rfl un2 hok2 I.bare λb hb=>by
   obtain⟨z1,z2,z3,z4,z5,z6⟩:=hch b hb
   exact⟨z4,z2,z5,z6⟩
  refine q _ vs' T' I2 k2 (g2.1▸hz) k5 (I.fpOk g3 ?_) g2.2
  have neT:T'≠ea:=Ne.symm (nT ea _ hr)
  rw[ac neT]
  exact I.hok.fresh g3
 rcases ht with h1|⟨T,tr,fp⟩|⟨T,tr,fp⟩
 ·exact vt hA hl hf hr h1 λh1 T' vs' n g1 g2 g3 g4=>fin (λ_=>False) [] h1 T' vs' (λb=>by simp) (λb z=>nomatch z) n g1 g2 g3 g4
 ·exact xv hA hl hf hr tr λh1 T' vs' n g1 g2 g3 g4=>fin (· =T) [T] h1 T' vs' (λb=>by simp) (λb z=>by rw[Qd.mp z];exact fp) n g1 g2 g3 g4
 ·obtain⟨h1,ne,oT,ts,hT,hd,h3⟩:=id tr
  refine wpAny_noteFrame_inFlight hf hr rfl h1 hT hd h3 ?_
  refine jW (l:=[]) hr tr λh' k1 k2 k3 k4 k5=>?_
  have I1:Inv X pins σ H {s with heap:=h'}:=I.turned (t':=s.toks) (it:=T) k1 fp.1 fp.2.1 fp.2.2.2.1 fp.2.2.2.2.1 fp.2.2.2.2.2
  have I2:Inv X pins σ (upd H ea (XO ea C od)) {s with heap:=h'}:=I1.write (x:=ea) (e:=ea) (t':=s.toks) (by rw[hx];exact True.intro) (.inl rfl) (λ_ _ _ e=>e) ⟨_,k2⟩ (Cb k2 hz)
  exact q _ vs T I2 k2 hz k5 ⟨by rw[ac ne];exact fp.1,fp.2.1,fp.2.2.1,fp.2.2.2.1,fp.2.2.2.2.1,fp.2.2.2.2.2⟩ rfl
theorem rc {ea C:Addr} {od:Option Addr} {vs:Array Value} {φ:Heap→Prop} {Q:Unit→Shared→Prop} (I:Inv X pins σ H s) (hst:X.stack=X.env::X.outer) (hf:X.env.frame=some X.env.locals) (hA:A.frames=some X.stack)
  (hx:H ea=some (.ext φ)) (hr:s.heap.get? ea=some (aM C od vs)) (hz:1<vs.size) (ht:vs[1]?=some .none∨∃T,Trc s.heap ea vs T .none∧hV X pins H T)
  (q:∀s' vs' T,Inv X pins σ (upd H ea (XO ea C od)) s'→s'.heap.get? ea=some (aM C od vs')→1<vs'.size→Trc s'.heap ea vs' T .none→hV X pins (upd H ea (XO ea C od)) T→Q () s'):
  wpAny M A (noteFrame (.ref ea) X.env) (λ_ s1=>wpAny M A (setFlight (.ref ea) none) Q W s1) W s:=
 vq I hst hf hA hx hr hz (ht.imp id .inl) λs' vs' T I' r z t f _=>q s' vs' T I' r z t f
theorem Inv.thrown {E:XK} {e:Value} {s':Shared} (I:Inv X pins σ H s) (h:CX1 X.prog X.w X.stack H s E e s'):∃(ea C:Addr) (od:Option Addr) (vs:Array Value) (H':Hp),e= .ref ea∧Inv X pins σ H' s'∧H' ea=some (XO ea C od)∧
  s'.heap.get? ea=some (aM C od vs)∧1<vs.size∧(∃T,Trc s'.heap ea vs T .none∧hV X pins H' T)∧E (.ref ea) od H':=by
 obtain⟨ea,C,od,vs,T,H',rfl,os,bare,un,hok,hx,hr,hz,tr,hT,hn,q⟩:=h
 exact⟨ea,C,od,vs,H',rfl,I.call' os un hok bare λb z=>absurd z (by simp),hx,hr,hz,⟨T,tr,I.fpOk hn hT⟩,q⟩
theorem Inv.flies {E:XK} {F:St→XK} {e:Value} {s':Shared} (I:Inv X pins σ H s) (h:CX1 X.prog X.w X.stack H s E e s') (k:∀v od H',E v od H'→F σ v od H'):wV X F e s':=by
 obtain⟨ea,C,od,vs,H',rfl,I',hx,hr,hz,ht,q⟩:=I.thrown h
 exact⟨pins,σ,H',ea,C,od,vs,_,rfl,I',hx,hr,hz,.inr ht,by rw[ni hx];exact k _ _ _ q⟩
end
section
variable {P:Program} {w:World} {K:PySem.W.Frag} {mg:Str→Option Value} {base:Heap} {N:List Str} {qual:Str} {scope:Scope} {f:Addr} {cd:Value} {A:Around} {outer:List Env} {s:Shared} {H:Hp} {E:XK}
theorem ut {e:Value} {s':Shared} (h:wV (pI (CX1 P w) P w K mg base N qual scope f cd A outer s H E) (λ_=>E) e s'):(pI (CX1 P w) P w K mg base N qual scope f cd A outer s H E).xe e s':=by
 obtain⟨pins,σ,H1,ea,C,od,vs,φ,rfl,I,hx,hr,hz,ht,q⟩:=h
 show wpAny _ _ (leaving _ (.ref ea)) _ _ s'
 unfold leaving
 refine wpAny_bind (rc I rfl rfl I.ok.frames hx hr hz ht λs2 vs2 T I2 r2 z2 t2 f2=>?_)
 refine⟨ea,C,od,vs2,T,_,rfl,I2.os,I2.bare,I2.base,I2.hok,af,r2,z2,t2,f2.1,?_,q⟩
 rcases f2.2.2.2.1 with z|z
 ·exact absurd (show T∈([]:List Addr) from z) (by simp)
 ·exact z
theorem Cq:eI (CX1 P w) (pI (CX1 P w) P w K mg base N qual scope f cd A outer s H E) E:=
 λ_ _ _ _ _ _ I h=>ut (I.flies h λ_ _ _ q=>q)
theorem Fun.okX {x qual:Str} {st:Stmt} {f:Addr} {fd:FuncData} {N ps:List Str} {k:Nat} {sp:Sp} (F:Fun K x qual st f fd) (S:ay N ps (am st)) (len:∀vs H Q E,sp vs H Q E→vs.length=ps.length)
  (hbody:∀(cdv:Value) (A:Around) (outer:List Env) (s:Shared) (H:Hp) (vs:List V) (Q:VK) (E:XK),Room k (A.deeper (envOfC qual (am st) s.heap.objs.size f cdv))→sp vs H Q E→
   ∃t,PSs (pI (CX1 P w) P w K mg base N qual (am st) f cdv A outer s H E) (iY st) t∧t {nx:=λ_ H'=>Q .non H',rt:=Q} (start N vs) H):aX P w K mg base (CX1 P w) (k+1) f fd ps sp:=by
 obtain⟨oc,od,kV,doc,pm,an,cdv,ct,osl,rfl,lk,hcd⟩:=F.ex
 exact Cz lk hcd S len λA outer s H vs Q E hr hsp=>hbody cdv A outer s H vs Q E hr hsp
end
end L2
namespace L2
open PySem PySem.Spec PyProof.Rows
abbrev vBase:List Value:=[.type "ValueError",.type "Exception",.type "BaseException",.type "object"]
def ExcMro (bm:List Value):Prop:=∃ups:List Addr,bm=ups.map Value.ref++vBase
theorem ExcMro.typ {bm:List Value} (B:ExcMro bm) (T:String):bm.contains (.type T)=vBase.contains (.type T):=by
 obtain⟨ups,rfl⟩:=B
 induction ups with
 |nil=>rfl
 |cons a r ih=>rw[Qr,XI,QR,ih];rfl
theorem ExcMro.val {bm:List Value} (B:ExcMro bm):bm.contains (.type "ValueError")=true:=(B.typ _).trans (by decide+kernel)
theorem ExcMro.bas {bm:List Value} (B:ExcMro bm):bm.contains (.type "BaseException")=true:=(B.typ _).trans (by decide+kernel)
theorem ExcMro.att {bm:List Value} (B:ExcMro bm):bm.contains (.type "AttributeError")=false:=(B.typ _).trans (by decide+kernel)
theorem ExcMro.nam {bm:List Value} (B:ExcMro bm):bm.contains (.type "NameError")=false:=(B.typ _).trans (by decide+kernel)
theorem ExcMro.obj {bm:List Value} (B:ExcMro bm):bm.contains (.type "object")=true:=(B.typ _).trans (by decide+kernel)
theorem ExcMro.pass {bm:List Value} (B:ExcMro bm) (self:Value):refuseLoop self "__setattr__" bm=pure ():=by
 obtain⟨ups,rfl⟩:=B
 induction ups with
 |nil=>exact PySem.F.store_ValueError.passes self
 |cons a r ih=>rw[Qr,XI,refuseLoop_ref];exact ih
structure XCls (K:PySem.W.Frag) (C:Addr) (bm:List Value):Prop where
 ob:∃nm q N bs sn sub ab col dd k0 k1 k2 k3 k5,K.lookup C=some (excClassObj nm q C N bs bm true sn sub ab col dd k0 k1 k2 k3 k5 "ValueError.__new__")
 mro:ExcMro bm
 kp:PySem.W.keepIn K (.ref C)=true
 ga:PySem.W.findIn K (.ref C) "__getattribute__"=some (some (.builtin "BaseException.__getattribute__"))
 gn:PySem.W.findIn K (.ref C) "__getattr__"=some none
 sa:PySem.W.findIn K (.ref C) "__setattr__"=some (some (.builtin "object.__setattr__"))
section
variable {prog:Program} {w:World} {A:Around} {h:Heap} {g:Array GenState} {d:Drawn} {t:Nat} {os:OsState}
variable {nm q:Str} {C N:Addr} {bs bm:List Value} {sn:List Str} {sub:List Value} {ab:Bool} {col:Option Bool} {dd:Option Addr} {k0 k1 k2 k3 k5:Option Value}
abbrev b3 (C t:Addr):Obj:=aM C none #[.ref t,.none,.none,.none,.bool false,.none]
abbrev gs (us:List Value):Obj:={cls:= .type "tuple",data:= .seq us.toArray}
theorem BK {rest:List Value} {R:Result→Shared→Prop} (B:ExcMro bm) (hC:h.get? C=some (excClassObj nm q C N bs bm true sn sub ab col dd k0 k1 k2 k3 k5 "ValueError.__new__")) (hz:rest.length≤sizeLine)
  (hq:R (.ok (.ret (.ref (h.objs.size+1)))) ⟨(h.push (gs rest)).push (b3 C h.objs.size),g,d,t,os⟩):
  codeAny (model prog w) A (.call (.builtin "ValueError.__new__") ⟨.ref C::rest,[]⟩) R ⟨h,g,d,t,os⟩:=by
 have F:=K3
 have c1:(Value.ref C::bm).contains (.type "ValueError")=true:=by rw[QR,B.val,X3]
 have c2:(Value.ref C::bm).contains (.type "AttributeError")=false:=by rw[QR,B.att];rfl
 have c3:(Value.ref C::bm).contains (.type "NameError")=false:=by rw[QR,B.nam];rfl
 have st:=F.noStar
 have en:=F.ends
 refine codeAny_call_builtin_code (Code.quiet_builtin _ F.quiet) ?_
 simp only[checkBuiltinCall,F.newKind,F.newSplit,F.newRow]
 repeat (first|refine wpAny_loadPart_at hC ?_|(refine wpAny_isSubtype_exc hC ?_;rw[c1])|refine wpAny_staticBase_exc hC ?_|refine wpAny_madeBy_exc hC ?_|simp only[bne_self_eq_false,QM,if_false]|wp_step)
 refine codeAny_builtinAt F.entry ?_
 unfold Builtin.«BaseException.__new__»
 refine PySem.wpAt_bind ?_
 show PySem.wpAt _ _ _ (stack>>=_) _ _ _
 refine PySem.wpAt_bind (PySem.wpAt_stack λp below=>PySem.wpAt_of_wpAny ?_)
 wp_walk
 refine PySem.wpAt_of_wpAny ?_
 rw[F.owner]
 repeat (first|with_reducible refine wpAny_madeHere_exc F.canon hC ?_|with_reducible refine wpAny_loadPart_at hC ?_|(with_reducible refine wpAny_isSubtype_exc hC ?_;first|rw[c1]|rw[c2]|rw[c3])|wp_step)
 show R _ _
 rw[Heap.size_push]
 exact hq
open PySem.W in
theorem zE {K:PySem.W.Frag} {fi:Value} {us:List Value} {R:Result→Shared→Prop} (X:K.In h) (Y:XCls K C bm) (hz:us.length≤sizeLine) (hi:findIn K (.ref C) "__init__"=some (some fi)) (hf:∀self,Looks (model prog w) h (bindSpecial fi self) (fi,[self]))
  (hq:codeAny (model prog w) (A.under (.builtin "type.__call__" ⟨.ref C::us,[]⟩)) (.call fi ⟨.ref (h.objs.size+1)::us,[]⟩) (InitBack (h.objs.size+1) R) ⟨(h.push (gs us)).push (b3 C h.objs.size),g,d,t,os⟩):
  codeAny (model prog w) A (.call (.ref C) ⟨us,[]⟩) R ⟨h,g,d,t,os⟩:=by
 obtain⟨nm,q,N,bs,sn,sub,ab,col,dd,k0,k1,k2,k3,k5,hK⟩:=Y.ob
 have hC:=X _ _ hK
 have B:=Y.mro
 have cC:(Value.ref C::bm).contains (.ref C)=true:=by simp
 have hl:=looks_findIn (M:=model prog w) X hi
 have f1:=tc_lookup
 have f2:=tc_bind (.ref C)
 have hT:(⟨h,g,d,t,os⟩:Shared).TypeIs (.ref C) "type":=⟨_,hC,rfl⟩
 refine codeAny_of_tree ?_
 show wpAny _ _ (callAny (.ref C) _) _ _ _
 repeat (any_goals (first|assumption|with_reducible refine wpAny_loadPart_at hC ?_|wp_step))
 refine⟨rfl,?_⟩
 refine codeAny_call_builtin_at (Code.quiet_builtin _ (by decide+kernel)) entry_typeCall (wpAny_check_type_call_sub hC ?_)
 repeat (first|with_reducible refine wpAny_loadPart_at hC ?_|with_reducible refine wpAny_madeBy_exc hC ?_|wp_step)
 refine BK B hC hz ?_
 show wpAny _ (A.under (.builtin "type.__call__" ⟨.ref C::us,[]⟩)) _ _ _ ⟨(h.push (gs us)).push (b3 C h.objs.size),g,d,t,os⟩
 have k:∀b o,h.get? b=some o→((h.push (gs us)).push (b3 C h.objs.size)).get? b=some o:=λb o e=>Heap.get?_push_of_some _ (Heap.get?_push_of_some _ e)
 have he:((h.push (gs us)).push (b3 C h.objs.size)).get? (h.objs.size+1)=some (b3 C h.objs.size):=by heap_get
 have hC1:=k _ _ hC
 have hl1:=hl.keeps k
 have fb:=(hf (.ref (h.objs.size+1))).keeps k
 have t1:Looks (model prog w) ((h.push (gs us)).push (b3 C h.objs.size)) (typeOf (.ref (h.objs.size+1))) (.ref C):=(Looks.ld he).andThen .now
 have s1:Looks (model prog w) ((h.push (gs us)).push (b3 C h.objs.size)) (isSubtype (.ref C) (.ref C)) true:=λA' Q' E' s' kk z=>by
  obtain⟨hp,g',d',t',os'⟩:=s'
  exact wpAny_isSubtype_exc (kk _ _ hC1) (by rw[cC];exact z)
 unfold isInstance callSpecial? specialOf
 repeat (first|simp only[cC,Bool.not_true,QM,if_false]|with_reducible refine wpAny_call ?_|lk)
 refine codeAny_mono hq λr s' z=>?_
 rcases r with e|(v|_|_|_)<;>first|exact z|exact z.elim|skip
 obtain⟨rfl,z⟩:=z
 exact wpAny_pure (wpAny_pure z)
end
end L2
namespace L2
open PySem PySem.Spec PyProof.Rows
section
variable {prog:Program} {w:World} {A:Around} {h:Heap} {g:Array GenState} {d:Drawn} {t:Nat} {os:OsState}
variable {nm q:Str} {C N:Addr} {bs bm:List Value} {sn:List Str} {sub:List Value} {ab:Bool} {col:Option Bool} {dd:Option Addr} {k0 k1 k2 k3 k5:Option Value}
theorem zF {e:Addr} {od:Option Addr} {t0:Addr} {us:List Value} {R:Result→Shared→Prop} (B:ExcMro bm) (hC:h.get? C=some (excClassObj nm q C N bs bm true sn sub ab col dd k0 k1 k2 k3 k5 "ValueError.__new__"))
  (he:h.get? e=some (aM C od #[.ref t0,.none,.none,.none,.bool false,.none])) (hz:us.length≤sizeLine)
  (hq:∀h',(∀b o,b≠e→h.get? b=some o→h'.get? b=some o)→h'.get? e=some (aM C od #[.ref h.objs.size,.none,.none,.none,.bool false,.none])→R (.ok (.ret .none)) ⟨h',g,d,t,os⟩):
  codeAny (model prog w) A (.call (.builtin "ValueError.__init__") ⟨.ref e::us,[]⟩) R ⟨h,g,d,t,os⟩:=by
 have F:=K3
 have c1:(Value.ref C::bm).contains (.type "ValueError")=true:=by rw[QR,B.val,X3]
 have st:=F.noStar
 refine codeAny_call_builtin F.init.plain F.initEntry ?_
 simp only[checkBuiltinCall,F.initKind,F.initSplit,F.initRow]
 repeat (first|with_reducible refine wpAny_loadPart_at he ?_|with_reducible refine wpAny_loadPart_at hC ?_|(with_reducible refine wpAny_isSubtype_exc hC ?_;rw[c1])|wp_step)
 refine wpAny_onRaise ?_
 rw[show ∀(a b:String) (n:Nat),Bind.check ⟨.positional,"*","ValueError",.self,[⟨"args",.varPos,false⟩]⟩ a b n (List.map (λx=>x.fst) ({pos:=Value.ref e::us}:Args).kw)=pure () from λa b n=>check_star_args _ _ _ _ _ _]
 refine wpAny_pure ?_
 wp_walk
 have he1:(h.push (gs us)).get? e=some (aM C od #[.ref t0,.none,.none,.none,.bool false,.none]):=Heap.get?_push_of_some _ he
 refine hq _ (λb o z k=>?_) ?_
 ·rw[Heap.get?_update_other _ _ (Ne.symm z)]
  exact Heap.get?_push_of_some _ k
 ·exact Heap.get?_update_self _ he1 rfl
end
end L2
namespace L2
open PySem PySem.Spec PyProof.Rows PySem.W
section
variable {prog:Program} {w:World} {A:Around} {E:Value→Shared→Prop} {s:Shared} {K:PySem.W.Frag} {e C:Addr} {bm:List Value}
theorem XCls.cd (Y:XCls K C bm):∃cd,clsIn K C=some cd∧cd.mro= .ref C::bm∧cd.hasDict=true:=by
 obtain⟨nm,q,N,bs,sn,sub,ab,col,dd,k0,k1,k2,k3,k5,hK⟩:=Y.ob
 exact⟨_,by unfold clsIn;rw[hK],rfl,rfl⟩
theorem XCls.inst (Y:XCls K C bm) (X:K.In s.heap) {od:Option Addr} {vs:Array Value} (he:s.heap.get? e=some (aM C od vs)) (T:String) (hT:bm.contains (.type T)=true):Looks (model prog w) s.heap (isInstance (.ref e) (.type T)) true:=by
 obtain⟨cd,hc,hm,_⟩:=Y.cd
 refine((Looks.ld he).andThen .now:Looks (model prog w) s.heap (typeOf (.ref e)) (.ref C)).andThen (looks_mroIn X ?_)
 unfold mroIn
 rw[hc,Zu,if_neg (by rw[hm];exact Qc),hm,QR,hT,X3]
theorem BJ {vs:Array Value} {name:Str} {v:Value} {Q:Unit→Shared→Prop} (X:K.In s.heap) (Y:XCls K C bm) (hn:findIn K (.ref C) name=some none) (he:s.heap.get? e=some (aM C none vs))
  (hq:∀h' tk,(∀b o,b≠e→s.heap.get? b=some o→h'.get? b=some o)→h'.get? e=some (aM C (some s.heap.objs.size) vs)→h'.Ns1 s.heap.objs.size (λy=>if y=name then some v else none)→Q () {s with heap:=h',toks:=tk}):
  wpAny (model prog w) A (setAttr (.ref e) name v) Q E s:=by
 have SF:=PySem.F.store_object
 obtain⟨cd,hc,hm,hd⟩:=Y.cd
 have I:InstAt s.heap e (aM C none vs) C none:=⟨he,rfl,rfl,True.intro⟩
 have ty:Looks (model prog w) s.heap (typeOf (.ref e)) (.ref C):=I.type
 have mo:Looks (model prog w) s.heap (mroOf (.ref C)) (.ref C::bm):=hm▸(looks_clsIn X hc).andThen .now
 refine set_plain X I Y.sa (codeAny_call_builtin SF.slot.plain SF.entry (@check_slot (model prog w) _ _ {s with toks:=s.toks+1} "object.__setattr__" "object" "__setattr__" (.ref e) [.str name s.toks,v] [] _ SF.kind SF.split (Y.inst X he "object" Y.mro.obj) (SF.args (.ref e) (.str name s.toks) v) ?_))
 obtain⟨h,g,d,t,os⟩:=s
 rw[osa_eq,refuse_eq]
 refine wpAny_bind (wpAny_bind (ty.at (wpAny_bind (mo.at ?_))))
 rw[refuseLoop_ref,Y.mro.pass]
 have lk1:=looks_findIn (M:=model prog w) (h:=h) X hn
 refine wpAny_pure (wpAny_bind (ty.at (wpAny_bind (lk1.at (wpAny_bind (wpAny_pure ?_))))))
 have e1:(h.push {cls:= .type "dict",data:= .dict #[]}).get? e=some (aM C none vs):=Heap.get?_push_of_some _ he
 have ne:e≠h.objs.size:=Qw (Heap.lt_size he)
 have C1:=looks_clsIn (M:=model prog w) (h:=h) X hc
 show wpAny _ _ (Builtin.ObjectAttr.storeInOwnDict _ _ _ _ _ _) _ _ _
 unfold Builtin.ObjectAttr.storeInOwnDict Builtin.ObjectAttr.ownDictForStores
 repeat (first|with_reducible refine wpAny_loadPart_at he ?_|lk|wp_step)
 have eg:((h.push {cls:= .type "dict",data:= .dict #[]}).update e λo=>{cls:=o.cls,dict:=some h.objs.size,data:=o.data,slots:=o.slots}).get? h.objs.size=some {cls:= .type "dict",data:= .dict #[]}:=
  (Heap.get?_update_ne _ _ _ _ ne.symm).trans (Heap.get?_push_at rfl rfl)
 have en:((h.push {cls:= .type "dict",data:= .dict #[]}).update e λo=>{cls:=o.cls,dict:=some h.objs.size,data:=o.data,slots:=o.slots}).Ns h.objs.size (λ_=>none):=
  ⟨_, #[],_,eg,rfl,λx hx=>absurd hx (by simp),λ_=>rfl⟩
 have ee:((h.push {cls:= .type "dict",data:= .dict #[]}).update e λo=>{cls:=o.cls,dict:=some h.objs.size,data:=o.data,slots:=o.slots}).get? e=some (aM C (some h.objs.size) vs):=Heap.get?_update_self _ e1 rfl
 refine wpAny_update' e1 ?_
 refine wpAny_pure ?_
 show wpAny _ _ (Builtin.ObjectAttr.storeInDict h.objs.size (.str name t) name v) _ _ _
 unfold Builtin.ObjectAttr.storeInDict Builtin.ObjectAttr.newKeyGuard
 refine wpAny_bind (wpAny_pure (wpAny_bind (wpAny_nsSet1 (Heap.Ns1.of_empty en) λh2 n2 sb=>?_)))
 obtain⟨oD,esD,epD,hoD,hdD,hcD⟩:=n2.count (Within.cons name v Within.nil)
 refine wpAny_bind (wpAny_lookBehind hoD (by rw[hdD];exact pastItsLine_dict (Z2 hcD (by rw[Qf,XU,sizeLine_eq];omega))) (wpAny_pure ?_))
 exact hq h2 _ (λb o z k=>(sb.2 b (Qw (Heap.lt_size k))).trans ((Heap.get?_update_ne _ _ _ _ z).trans (Heap.get?_push_of_some _ k))) ((sb.2 e ne).trans ee) n2
end
end L2
namespace L2
open PySem PySem.Spec PyProof.Rows PySem.W
section
variable {prog:Program} {w:World} {A:Around} {E:Value→Shared→Prop} {s:Shared} {K:PySem.W.Frag} {e C:Addr} {bm:List Value}
theorem bga_slot:Slot "ValueError" "__getattribute__" "BaseException.__getattribute__":=
 .of (owner:="BaseException") (n:="__getattribute__") (by rw[typeLookup_type,builtinLookup_eq_fast];kernel_rfl) (by decide+kernel) (by decide+kernel) (by decide+kernel)
  (by first|exact .inl (by decide+kernel)|exact .inr (by decide+kernel)) (by rw[isSubtype_type];kernel_rfl)
theorem uC {vs:Array Value} {odx:Option Addr} {od:Option Obj} {name:Str} {expr fill:Bool} {tk:Tok} {r:Builtin.ObjectAttr.Found} {Q:Value→Shared→Prop} (X:K.In s.heap) (Y:XCls K C bm) (I:InstAt s.heap e (aM C odx vs) C od)
  (hf:findObj K C od name=some r)
  (hq:wpAny (model prog w) A.in1 (match r with| .value v=>ret v| .bind g a=>Builtin.ObjectAttr.bindTo g a (.ref e) (.ref C)| .missing=>ret .none) (λfin s'=>match fin with| .done (.ret v)=>wpAny (model prog w) A (handedOut v) Q E s'|_=>False) (λ_ _=>False) s)
  (hr:r≠ .missing):wpAny (model prog w) A (getAttrBy (.ref e) (.str name tk) fill expr) Q E s:=by
 obtain⟨h,g,d,t,os⟩:=s
 have L0:=I.type (M:=model prog w)
 have L1:=looks_findIn (M:=model prog w) (h:=h) X Y.ga
 have L2:=looks_findIn (M:=model prog w) (h:=h) X Y.gn
 have L3:=looks_find (M:=model prog w) (h:=h) X I hf
 unfold getAttrBy
 refine wpAny_holding (wpAny_bind (L0.at (wpAny_bind (L1.at ?_))))
 dsimp only
 have n2:(Value.builtin "BaseException.__getattribute__"==Value.builtin "object.__getattribute__")=false:=by decide+kernel
 rw[n2,K0,if_neg Qc]
 unfold getAttrByItsOwn hookBefore
 rw[if_pos (show onTheHeap (.ref C)=true from rfl)]
 refine wpAny_bind (L2.at (wpAny_bind (wpAny_attempt (wpAny_holding ?_))))
 unfold callGetattribute
 rw[show(expr&&onTheHeap (Value.builtin "BaseException.__getattribute__"))=false from K0 _,if_neg Qc]
 unfold boundAndCalled
 rw[bga_slot.bind]
 refine wpAny_bind (wpAny_pure ?_)
 show wpAny _ _ (call (.builtin "BaseException.__getattribute__") [.ref e,.str name tk]) _ _ _
 refine wpAny_call (codeAny_call_builtin bga_slot.plain PySem.F.entry_bexc_ga (@check_slot (model prog w) _ _ ⟨h,g,d,t,os⟩ "BaseException.__getattribute__" "BaseException" "__getattribute__" (.ref e) [.str name tk] [] _ (by decide+kernel) (by decide+kernel) (Y.inst (s:=⟨h,g,d,t,os⟩) X I.at_ "BaseException" Y.mro.bas) (PySem.F.args_bexc_ga _ _) ?_))
 unfold Builtin.«object.__getattribute__»
 refine wpAny_bind (wpAny_pure (wpAny_bind (wpAny_pure (wpAny_bind (L0.at (wpAny_bind (L3.at ?_)))))))
 cases r with
 |missing=>exact absurd rfl hr
 |value v=>
  refine wpAny_mono hq (λfin s' z=>?_) λ_ _ z=>z.elim
  rcases fin with(_|_|_|_)|_<;>first|exact z|exact z.elim
 |bind g' a=>
  refine wpAny_mono hq (λfin s' z=>?_) λ_ _ z=>z.elim
  rcases fin with(_|_|_|_)|_<;>first|exact z|exact z.elim
theorem BL {vs:Array Value} {dx:Addr} {mA:Str→Option Value} {name:Str} {v:Value} {expr:Bool} {Q:Value→Shared→Prop} (X:K.In s.heap) (Y:XCls K C bm) (hn:findIn K (.ref C) name=some none) (he:s.heap.get? e=some (aM C (some dx) vs))
  (hd:s.heap.Ns1 dx mA) (hv:mA name=some v) (hh:handedIn v=true) (hq:Q v {s with toks:=s.toks+1}):wpAny (model prog w) A (getAttr (.ref e) name expr) Q E s:=by
 obtain⟨cd,hc,hm,hdc⟩:=Y.cd
 obtain⟨od,ho,hl⟩:=rj hd
 have I:InstAt s.heap e (aM C (some dx) vs) C (some od):=⟨he,rfl,rfl,ho⟩
 refine wpAny_bind (wpAny_mkText ?_)
 refine uC (s:={s with toks:=s.toks+1}) (od:=some od) X Y I (findObj_own (by show(clsIn K C).any (·.hasDict)=true;rw[hc];exact hdc) hn rfl (by rw[hl,hv])) ?_ (by intro z;cases z)
 exact wpAny_pure (by show wpAny _ _ (handedOut v) _ _ _;rw[handedOut_of hh];exact wpAny_pure hq)
structure XIs (K:PySem.W.Frag) (C:Addr):Prop where
 ha:findIn K (.ref C) "__class__"=some (some (.builtin "object.__class__"))
 hn:specialIn K (.builtin "object.__class__") "__get__"=some (some (.builtin "getset_descriptor.__get__"))
 tk:takesIn K (.builtin "object.__class__")=some true
 hm:mroIn K C (.type "object")=some true
theorem xU {vs:Array Value} {odx:Option Addr} {od:Option Obj} {Q:Option Value→Shared→Prop} (X:K.In s.heap) (Y:XCls K C bm) (Z:XIs K C) (I:InstAt s.heap e (aM C odx vs) C od) (h:Q (some (.ref C)) {s with toks:=s.toks+1}):
  wpAny (model prog w) A (getAttr? (.ref e) "__class__") Q E s:=by
 obtain⟨cd,hc,hm,hdc⟩:=Y.cd
 have hf:findObj K C od "__class__"=some (.bind (.builtin "getset_descriptor.__get__") (.builtin "object.__class__")):=by
  unfold findObj
  rw[hc,Zu,Z.ha,Zu]
  dsimp only
  rw[Z.hn,Zu]
  dsimp only
  rw[Z.tk]
  rfl
 unfold getAttr? getAttrBy?
 refine wpAny_bind (wpAny_mkText (wpAny_bind (wpAny_attempt ?_)))
 refine uC (s:={s with toks:=s.toks+1}) X Y I hf ?_ (by intro z;cases z)
 show wpAny _ _ (holding [.builtin "object.__class__"] (call (.builtin "getset_descriptor.__get__") [.builtin "object.__class__",.ref e,.ref C])>>=ret) _ _ _
 refine wpAny_bind (wpAny_holding (wpAny_call (class_get (s:={s with toks:=s.toks+1}) X I Z.hm ?_)))
 exact wpAny_pure (by show wpAny _ _ (handedOut _) _ _ _;rw[handedOut_of rfl];exact wpAny_pure (wpAny_pure h))
theorem uv {vs:Array Value} {odx:Option Addr} {od:Option Obj} (Y:XCls K C bm) (Z:XIs K C):KitX K (.ref e) (.ref C) (λh=>InstAt h e (aM C odx vs) C od) where
 ty:=λ_ _ _ I=>I.type
 it:=λ_ _ X _=>by
  obtain⟨nm,q,N,bs,sn,sub,ab,col,dd,k0,k1,k2,k3,k5,hK⟩:=Y.ob
  intro A' Q' E' s' k q
  unfold isType loadHead
  exact wpAny_bind (wpAny_loadPart (k _ _ (X _ _ hK)) (wpAny_pure q))
 ne:=λh tp dd its n sl X htp=>by
  obtain⟨nm,q,N,bs,sn,sub,ab,col,dd,k0,k1,k2,k3,k5,hK⟩:=Y.ob
  refine Bool.eq_false_iff.mpr λq=>?_
  obtain rfl:C=tp:=Value.ref.inj (beq_iff_eq.mp q)
  have z:=congrArg Obj.cls (Option.some.inj ((X _ _ hK).symm.trans htp))
  exact absurd (Value.type.inj z) (by decide+kernel)
 ca:=λX I k=>xU X Y Z I k
end
end L2
namespace L2
open PySem PySem.Spec PyProof.Rows PySem.W
def ExcAt (H:Hp) (e:Addr) (od:Option Addr) (C:Addr) (fs:List (Str×V)):Prop:=H e=some (XO e C od)∧((fs=[]∧od=none)∨∃dx,od=some dx∧H dx=some (.xd fs))
section
variable {X:Cx} {pins:List (Addr×Obj)} {σ:St} {H:Hp} {s:Shared}
theorem ExcAt.inst {e:Addr} {od:Option Addr} {C:Addr} {fs:List (Str×V)} (I:Inv X pins σ H s) (h:ExcAt H e od C fs):∃vs odo,InstAt s.heap e (aM C od vs) C odo:=by
 obtain⟨h1,h2⟩:=h
 obtain⟨vs,r,_⟩:=yg I.hok h1
 rcases h2 with⟨_,rfl⟩|⟨dx,rfl,hd⟩
 ·exact⟨vs,none,r,rfl,rfl,True.intro⟩
 ·obtain⟨mA,⟨o,es,ep,ho,_⟩,_⟩:=(show ObjOk X.prog X.w H s.heap dx (.xd fs) from I.hok dx _ hd)
  exact⟨vs,some o,r,rfl,rfl,ho⟩
theorem sS {K:PySem.W.Frag} {C D:Addr} {bm bm':List Value} {b:Bool} (Y:XCls K C bm) (Z:XCls K D bm') (h:subIn K (.ref C) (.ref D)=some b):kitOne K (.ref C) (.ref D)=some b:=by
 unfold kitOne
 obtain⟨cd,hc,hm,_⟩:=Y.cd
 obtain⟨cd',hc',_,_⟩:=Z.cd
 by_cases z:((Value.ref C:Value)== .ref D)=true
 ·rw[if_pos z]
  obtain rfl:C=D:=Value.ref.inj (beq_iff_eq.mp z)
  have:subIn K (.ref C) (.ref C)=some true:=by
   show mroIn K C (.ref C)=some true
   unfold mroIn
   rw[hc,Zu,if_neg (by rw[hm];exact Qc),hm,QR]
   simp
  rw[h]at this
  rw[this]
 ·rw[if_neg z]
  obtain⟨nm,q,N,bs,sn,sub,ab,col,dd,k0,k1,k2,k3,k5,hK⟩:=Z.ob
  have ht:typeIn K (.ref D)=some (.type "type"):=by
   show(K.lookup D).map (·.cls)=_
   rw[hK]
   rfl
  show(if((clsIn K D).isSome&&typeIn K (.ref D)==some (.type "type"))=true then subIn K (.ref C) (.ref D)else none)=some b
  rw[if_pos (by rw[hc',ht];simp),h]
theorem BF {K:PySem.W.Frag} {C:Addr} {bm:List Value} (Y:XCls K C bm):kitOne K (.ref C) (.type "ValueError")=some true:=by
 unfold kitOne
 obtain⟨cd,hc,hm,_⟩:=Y.cd
 rw[if_neg (by intro z;cases beq_iff_eq.mp z)]
 show(if kitMeta "ValueError"=true then subIn K (.ref C) (.type "ValueError")else none)=some true
 rw[if_pos (by decide+kernel)]
 show mroIn K C (.type "ValueError")=some true
 unfold mroIn
 rw[hc,Zu,if_neg (by rw[hm];exact Qc),hm,QR,Y.mro.val,X3]
theorem f9 (K:PySem.W.Frag) (hK:X.K=K):eJ X (.builtin "isinstance") (λxs H Q=>∃e od C fs bm D b,xs=[.ref e,.ref D]∧ExcAt H e od C fs∧XCls K C bm∧XIs K C∧kitOne K (.ref C) (.ref D)=some b∧Q (.bl b) H):=by
 subst hK
 intro pins s σ H xs us Q I r h
 obtain⟨e,od,C,fs,bm,D,b,rfl,hx,Y,Z,hk,q⟩:=h
 obtain⟨u0,u1,rfl,r0,r1⟩:=j8 r
 cases (show u0=Value.ref e from r0)
 cases (show u1=Value.ref D from r1)
 obtain⟨vs,odo,J⟩:=hx.inst I
 exact kia_one (uv Y Z) I.kIn J hk (λz=>by cases z) λtk=>⟨.bl b,H,I.tok _,rfl,q⟩
theorem qC (K:PySem.W.Frag) (hK:X.K=K):eJ X (.builtin "isinstance") (λxs H Q=>∃e od C fs bm n b,xs=[.ref e,.ty n]∧ExcAt H e od C fs∧XCls K C bm∧XIs K C∧kitOne K (.ref C) (.type n)=some b∧Q (.bl b) H):=by
 subst hK
 intro pins s σ H xs us Q I r h
 obtain⟨e,od,C,fs,bm,n,b,rfl,hx,Y,Z,hk,q⟩:=h
 obtain⟨u0,u1,rfl,r0,r1⟩:=j8 r
 cases (show u0=Value.ref e from r0)
 cases (show u1=Value.type n from r1)
 obtain⟨vs,odo,J⟩:=hx.inst I
 exact kia_one (uv Y Z) I.kIn J hk (λz=>by cases z) λtk=>⟨.bl b,H,I.tok _,rfl,q⟩
def Ch (K:PySem.W.Frag) (ta:TE) (f:Str):TE:=λσ H Q=>ta σ H λx H1=>∃e C dx fs bm v,x= .ref e∧H1 e=some (XO e C (some dx))∧H1 dx=some (.xd fs)∧XCls K C bm∧NoAttr K C f∧fs.lookup f=some v∧Q v H1
theorem Bo {o:Expr} {ta:TE} {f:Str} {pos:Pos} (he:PE X o ta) (hb:attributeBase o f X.env (eval o X.env)=eval o X.env):PE X (.Attribute o f pos) (Ch X.K ta f):=by
 intro pins s σ H Q I h
 refine wT hb (thn (he pins s σ H _ I h) λu s1 hzz=>?_)
 obtain⟨x,H1,I1,rx,e,C,dx,fs,bm,v,ex,ea,ed,Y,n,l,q⟩:=hzz
 subst ex
 obtain rfl:u=Value.ref e:=rx
 obtain⟨vs,r,_⟩:=yg I1.hok ea
 obtain⟨mA,hA,ro⟩:=(show ObjOk X.prog X.w H1 s1.heap dx (.xd fs) from I1.hok dx _ ed)
 obtain⟨w',hu,ru⟩:=RelO.some_of (v:=v) (o:=mA f) (by rw[←l];exact ro f)
 exact BL I1.kIn Y n r hA hu (rA ru) ⟨v,H1,I1.tok _,ru,q⟩
end
end L2
namespace L2
open PySem PySem.Spec PyProof.Rows PySem.W
section
variable {X:Cx} {pins:List (Addr×Obj)} {σ:St} {H:Hp} {s:Shared}
theorem Inv.madeX {C:Addr} {us:List Value} (I:Inv X pins σ H s):Inv X pins σ (upd H (s.heap.objs.size+1) (XN (s.heap.objs.size+1) C none)) {s with heap:=(s.heap.push (gs us)).push (b3 C s.heap.objs.size)}:=
 I.laid (t':=s.toks) (λb o e=>Heap.get?_push_of_some _ (Heap.get?_push_of_some _ e)) (Z4 _) (yh (t:=s.heap.objs.size) (by heap_get))
def yw (C:Addr) (sp:Sp) (dvs:List V) (E:XK) (t:TA):TE:=λσ H Q=>t σ H λvs H1=>vs.length≤1000∧∀e,H1 e=none→sp (.ref e::(vs++dvs)) (upd H1 e (XN e C none)) (λv H2=>v= .non∧Q (.ref e) H2) E
variable {CX:CXT} {k:Nat} {f C:Addr} {fd:FuncData} {ps:List Str} {sp:Sp} {dvs:List V} {ds:List Value} {E:XK} {x m:Str} {p pos apos:Pos} {e o:Expr} {es:List Expr} {ta:TE} {t:TA} {bm:List Value}
theorem xl {Q:VK} {us:List Value} {vs:List V} (Y:XCls X.K C bm) (hi:findIn X.K (.ref C) "__init__"=some (some (.ref f))) (hf:isFn X.K (.ref f)=true) (F:aX X.prog X.w X.K X.mg X.base CX k f fd ps sp) (hr:Room (k+1) X.A) (hb:Binds X.K fd ps ds) (hd:Vals dvs ds)
  (hx:eI CX X E) (I:Inv X pins σ H s) (r:Vals vs us) (hz:vs.length≤1000)
  (h:∀e,H e=none→sp (.ref e::(vs++dvs)) (upd H e (XN e C none)) (λv H2=>v= .non∧Q (.ref e) H2) E):wpAny (model X.prog X.w) X.A (call (.ref C) us) (EP X pins σ Q) X.xe s:=by
 have hq:=h (s.heap.objs.size+1) (I.hok.fresh (Z4 _))
 have I2:=Inv.madeX (C:=C) (us:=us) I
 have r2:Vals (V.ref (s.heap.objs.size+1)::(vs++dvs)) (Value.ref (s.heap.objs.size+1)::(us++ds)):= .cons rfl (r.append hd)
 have hl:(Value.ref (s.heap.objs.size+1)::us++ds).length=ps.length:=by
  have z:=r2.length
  rw[F.len _ _ _ _ hq]at z
  exact z.symm
 have hz2:us.length≤sizeLine:=by rw[←r.length];exact Zp (bK hz)
 obtain⟨h0,g0,d0,t0,o0⟩:=s
 refine wpAny_call (zE I.kIn Y hz2 hi (λself=>bind_fn I.kIn self (beq_iff_eq.mp hf)) (codeAny_mono (F.run _ X.stack _ _ ⟨Value.ref (h0.objs.size+1)::us,[]⟩ (Value.ref (h0.objs.size+1)::(us++ds)) _ _ E (hr.make C us [])
  (I2.env0.make C us []) (hb _ (Value.ref (h0.objs.size+1)::us) I2.kIn hl) r2 hq) λr s' hq'=>?_))
 cases r with
 |error e=>exact hx pins σ _ _ e s' I2 hq'
 |ok fl=>
  cases fl with
  |ret u=>
   obtain⟨v,H',I3,rv,ev,q3⟩:=I2.after hq'
   subst ev
   exact⟨rv,⟨V.ref (h0.objs.size+1),H',I3,rfl,q3⟩⟩
  |next=>exact False.elim hq'
  |brk=>exact False.elim hq'
  |cont=>exact False.elim hq'
theorem ua (Y:XCls X.K C bm) (hi:findIn X.K (.ref C) "__init__"=some (some (.ref f))) (hf:isFn X.K (.ref f)=true) (F:aX X.prog X.w X.K X.mg X.base CX k f fd ps sp) (hr:Room (k+1) X.A) (hg:Gl X x) (hm:X.mg x=some (.ref C)) (hb:Binds X.K fd ps ds) (hd:Vals dvs ds) (hx:eI CX X E)
  (ha:PA X (e::es) t) (hdb:(x==("__debug__":Str))=false:=by decide) (he:starEach (e::es) X.env=(false,eval e X.env)::starEach es X.env:=by rfl) (hpl:(backTo pos (starEach es X.env)).any (·.1)=false:=by rfl):
  PE X (.Call (.Name x p) (e::es) [] pos) (yw C sp dvs E t):=by
 intro pins s σ H Q I h
 refine wpAny_Call_Name_kw (iU I hg hm ?_ hdb)
 refine X4 (h₀:=X.base) I.ok.mod.kin Y.kp (thn (ha pos pins s σ H _ I h) λus s1 ⟨vs,H1,I1,r,hz,q⟩=>⟨I1.kIn,?_⟩) he hpl
 exact xl Y hi hf F hr hb hd hx I1 r hz q
theorem Inv.rewrite {ea:Addr} {φ:Heap→Prop} {od:Option Addr} {t1:Addr} {h':Heap} {tk:Nat} (I:Inv X pins σ H s) (hx:H ea=some (.ext φ)) (k:∀b o,b≠ea→s.heap.get? b=some o→h'.get? b=some o)
  (new:h'.get? ea=some (aM C od #[.ref t1,.none,.none,.none,.bool false,.none])):Inv X pins σ (upd H ea (XN ea C od)) {s with heap:=h',toks:=tk}:=
 I.write (x:=ea) (e:=ea) (by rw[hx];exact True.intro) (.inl rfl) k ⟨_,new⟩ (yh new)
end
end L2
namespace L2
open PySem PySem.Spec PyProof.Rows PySem.W
structure CH (K:PySem.W.Frag) (C:Addr) (m:Str) (v:Value):Prop where
 sp:specialIn K (.ref C) "__getattribute__"=some (some (.builtin "type.__getattribute__"))
 rd:readsIn K C (.type "type")=true
 at_:findCls K (.ref C) (.type "type") m=some (.val v)
section
variable {X:Cx} {pins:List (Addr×Obj)} {σ:St} {H:Hp} {s:Shared}
variable {CX:CXT} {k:Nat} {f C:Addr} {fd:FuncData} {ps:List Str} {sp:Sp} {dvs:List V} {ds:List Value} {E:XK} {x m:Str} {p pos apos:Pos} {e o:Expr} {es:List Expr} {ta:TE} {t:TA} {bm:List Value}
def DT (K:PySem.W.Frag) (t:TA):TE:=λσ H Q=>t σ H λvs H1=>∃ea C od r bm,vs= .ref ea::r∧r.length≤1000∧H1 ea=some (XN ea C od)∧XCls K C bm∧Q .non H1
theorem Bp {pl:Sem Bool} (hg:Gl X x) (hm:X.mg x=some (.ref C)) (hc:CH X.K C m (.builtin "ValueError.__init__")) (ha:PA X (e::es) t)
  (hdb:(x==("__debug__":Str))=false:=by decide)
  (hst:starEach (e::es) X.env=(false,eval e X.env)::starEach es X.env:=by rfl) (hpl:(backTo pos (starEach es X.env)).any (·.1)=false:=by rfl)
  (ht:eval (.Call (.Attribute (.Name x p) m apos) (e::es) [] pos) X.env=(do
   let ov←eval (.Name x p) X.env
   standAt apos.atName
   let(f,first)←holding [ov] (getMethod ov m pl)
   callWith pos f first (backTo pos (starEach (e::es) X.env)) (backToKw pos (keywordEach [] X.env))):=by rfl):
  PE X (.Call (.Attribute (.Name x p) m apos) (e::es) [] pos) (DT X.K t):=by
 intro pins s σ H Q I h
 refine Zz (pl:=pl) (iU I hg hm ?_ hdb) ht
 refine method_cls I.kIn hc.sp (cls_value I.kIn hc.rd hc.at_ (by decide+kernel) ?_)
 have hA:=ha pos pins _ σ H _ (I.tok (s.toks+1)) h
 show wpAny _ _ (callWith pos (.builtin "ValueError.__init__") [] (backTo pos (starEach (e::es) X.env)) []) _ _ _
 rw[hst]at hA⊢
 refine Calls.callWith_builtin (by show(false||(backTo pos (starEach es X.env)).any (·.1))=false;rw[hpl]<;>rfl) (Calls.evalArgs_plain ?_)
 refine thn hA λus s2 hzz=>?_
 obtain⟨vs,H2,I2,r2,ea,C',od,r,bm,ev,hz,hx,Y,q2⟩:=hzz
 subst ev
 obtain⟨nm,q',N,bs,sn,sub,ab,col,dd,k0,k1,k2,k3,k5,hK⟩:=Y.ob
 have hC:=I2.kIn _ _ hK
 cases r2 with
 | @cons _ u _ us' r0 r1=>
  cases (show u=Value.ref ea from r0)
  obtain⟨t0,he⟩:=yi I2.hok hx
  obtain⟨h0,g0,d0,tk0,o0⟩:=s2
  refine wpAny_call (zF (us:=us') Y.mro hC he (by rw[←r1.length];exact Zp (bK hz)) λh' k' n'=>?_)
  have I3:=I2.rewrite (C:=C') (od:=od) (tk:=tk0) hx k' n'
  rw[ni hx]at I3
  exact⟨V.non,H2,I3,rfl,q2⟩
theorem Inv.newfld {ea:Addr} {t1:Addr} {fn:Str} {y:V} {u:Value} {h':Heap} {tk:Nat} (I:Inv X pins σ H s) (hx:H ea=some (XN ea C none)) (k:∀b o,b≠ea→s.heap.get? b=some o→h'.get? b=some o)
  (new:h'.get? ea=some (aM C (some s.heap.objs.size) #[.ref t1,.none,.none,.none,.bool false,.none])) (hn:h'.Ns1 s.heap.objs.size (λz=>if z=fn then some u else none)) (ry:RelV y u):
  Inv X pins σ (upd (upd H s.heap.objs.size (.xd [(fn,y)])) ea (XN ea C (some s.heap.objs.size))) {s with heap:=h',toks:=tk}:=by
 have nd:H s.heap.objs.size=none:=I.hok.fresh (Q6 _)
 have ne:ea≠s.heap.objs.size:=λz=>by rw[z,nd]at hx;cases hx
 have ub:∀b v,H b=some v→b≠ea→upd (upd H s.heap.objs.size (.xd [(fn,y)])) ea (XN ea C (some s.heap.objs.size)) b=some v:=λb v q z=>by
  rw[ac z,ac (ai q nd)]
  exact q
 have un:∀b,H b=none→b≠s.heap.objs.size→upd (upd H s.heap.objs.size (.xd [(fn,y)])) ea (XN ea C (some s.heap.objs.size)) b=none:=λb q z=>by
  rw[ac (λw=>by rw[w,hx]at q;cases q),ac z]
  exact q
 have nea:∀b,H b=none→b≠ea:=λb q z=>by rw[z,hx]at q;cases q
 have lt:∀b o,s.heap.get? b=some o→b≠s.heap.objs.size:=λb o q=>Qw (Heap.lt_size q)
 refine I.un (t':=tk) ⟨λb o g1 g2 _ _=>k b o (nea b g2) g1,λb o g1 g2 _ _=>⟨o.slots,k b o (nea b g2) g1⟩,λb o g1 g2 _=>un b g2 (lt b o g1),λb o g1 _=>?_,λb xs g1=>ub b _ g1 λz=>(by rw[z,hx]at g1;cases g1),λb o v g1=>ub b _ g1 λz=>(by rw[z,hx]at g1;cases g1),λb ps g1=>⟨#[],?_⟩⟩ λb v q=>?_
 ·by_cases z:b=ea
  ·exact⟨_,z▸new⟩
  ·exact⟨o,k b o z g1⟩
 ·rw[ub b _ g1 λz=>(by rw[z,hx]at g1;cases g1)]
  simp
 ·by_cases z:b=ea
  ·subst z
   rw[af]at q
   cases q
   exact yh new
  ·rw[ac z]at q
   by_cases z2:b=s.heap.objs.size
   ·subst z2
    rw[af]at q
    cases q
    refine⟨_,hn,λg=>?_⟩
    show RelO (List.lookup g [(fn,y)]) (if g=fn then some u else none)
    by_cases z3:g=fn
    ·subst z3
     rw[if_pos rfl]
     show RelO (match g==g with|true=>some y|false=>none) (some u)
     rw[beq_self_eq_true]
     exact ry
    ·rw[if_neg z3]
     show RelO (match g==fn with|true=>some y|false=>none) none
     rw[beq_eq_false_iff_ne.mpr z3]
     exact True.intro
   ·rw[ac z2]at q
    refine(I.hok b v q).stay (λc w hc r=>k c w ?_ r) (λc r=>ub c _ r λz=>(by rw[z,hx]at r;cases r)) λc xs r=>ub c _ r λz=>(by rw[z,hx]at r;cases r)
    rcases hc with rfl|hc
    ·exact z
    ·exact λz=>by rw[z,hx]at hc;cases hc
def DX (K:PySem.W.Frag) (ta tv:TE) (f:Str):TS:=λD σ H=>tv σ H λy H1=>ta σ H1 λx H2=>∃ea C bm,x= .ref ea∧H2 ea=some (XN ea C none)∧XCls K C bm∧NoAttr K C f∧∀dx,H2 dx=none→D.nx σ (upd (upd H2 dx (.xd [(f,y)])) ea (XN ea C (some dx)))
theorem Bi {o value:Expr} {ta tv:TE} {f:Str} {pos pos':Pos} (ha:PE X o ta) (hv:PE X value tv) (hs:swapsWith value (some (.Attribute o f pos')) pos.line X.env=pure false):PS X (.Assign [.Attribute o f pos'] value pos) (DX X.K ta tv f):=by
 intro pins s σ H D I h
 refine plainObj_wpAny_Assign_Attribute (thn (hv pins s σ H _ I h) λu s1 ⟨y,H1,I1,ry,q⟩=>thn (ha pins s1 σ H1 _ I1 q) λov s2 hzz=>?_) hs
 obtain⟨x,H2,I2,rx,ea,C,bm,ex,hx,Y,n,q2⟩:=hzz
 subst ex
 obtain rfl:ov=Value.ref ea:=rx
 obtain⟨t1,he⟩:=yi I2.hok hx
 refine BJ I2.kIn Y n he λh' tk k1 k2 k3=>⟨σ,_,I2.newfld hx k1 k2 k3 ry,q2 _ (I2.hok.fresh (Q6 _))⟩
theorem xo {env:Env} {y:Sem Value} {Q:Flow→Shared→Prop} {M:Model} {A:Around} {W:Value→Shared→Prop} (hh:A.handled=none)
  (h:wpAny M A y (λv s1=>∃ea C od t nm q N bs bm sn sub ab col dd k0 k1 k2 k3 k5,v= .ref ea∧s1.heap.get? C=some (excClassObj nm q C N bs bm true sn sub ab col dd k0 k1 k2 k3 k5 "ValueError.__new__")∧ExcMro bm∧
   s1.heap.get? ea=some (aM C od #[.ref t,.none,.none,.none,.bool false,.none])∧W (.ref ea) s1) W s):wpAny M A (raiseStmt env (some y) none) Q W s:=by
 unfold raiseStmt
 refine wpAny_bind (wpAny_mono h (λv s1 z=>?_) λ_ _ z=>z)
 obtain⟨ea,C,od,t,nm,q,N,bs,bm,sn,sub,ab,col,dd,k0,k1,k2,k3,k5,rfl,hC,B,he,hE⟩:=z
 have cB:(Value.ref C::bm).contains (.type "BaseException")=true:=by rw[QR,B.bas,X3]
 obtain⟨hp,g,d,tk,os⟩:=s1
 repeat (first|with_reducible refine wpAny_loadPart_at he ?_|with_reducible refine wpAny_loadPart_at hC ?_|(with_reducible refine wpAny_isSubtype_exc hC ?_;rw[cB])|wp_step)
 exact wpAny_raiseNew_none hh hE
def zW (X:Cx) (E:XK):Prop:=∀e s,wV X (λ_=>E) e s→X.xe e s
def yF (K:PySem.W.Frag) (te:TE) (E:XK):TS:=λ_ σ H=>te σ H λv H1=>∃ea C od bm,v= .ref ea∧H1 ea=some (XN ea C od)∧XCls K C bm∧E (.ref ea) od (upd H1 ea (XO ea C od))
theorem tY {ex:Expr} {te:TE} {pos:Pos} (hc:X.calm=true) (hx:zW X E) (he:PE X ex te):PS X (.Raise (some ex) none pos) (yF X.K te E):=by
 intro pins s σ H D I h
 rw[arm_exec_Raise]
 simp only[evalOpt,Option.map]
 refine wpAny_bind (wpAny_standAt (xo (I.ok.hd hc) (wpAny_bind (thn (he pins s σ H _ I h) λv s1 ⟨y,H1,I1,ry,ea,C,od,bm,ev,hn,Y,q⟩=>wpAny_bind (wpAny_standAt (wpAny_pure ?_))))))
 subst ev
 cases (show v=Value.ref ea from ry)
 obtain⟨nm,q',N,bs,sn,sub,ab,col,dd,k0,k1,k2,k3,k5,hK⟩:=Y.ob
 obtain⟨t,he'⟩:=yi I1.hok hn
 exact⟨ea,C,od,t,nm,q',N,bs,bm,sn,sub,ab,col,dd,k0,k1,k2,k3,k5,rfl,I1.kIn _ _ hK,Y.mro,he',hx _ _ ⟨pins,σ,H1,ea,C,od,_,_,rfl,I1,hn,he',(by show 1<6;decide),.inl rfl,q⟩⟩
end
theorem v9 {P:Program} {w:World} {K:PySem.W.Frag} {mg:Str→Option Value} {base:Heap} {N:List Str} {qual:Str} {scope:Scope} {f:Addr} {cd:Value} {A:Around} {outer:List Env} {s:Shared} {H:Hp} {E:XK}:
  zW (pI (CX1 P w) P w K mg base N qual scope f cd A outer s H E) E:=λ_ _ h=>ut h
end L2
namespace L2
open PySem PySem.Spec PyProof.Rows PySem.W
section
variable {M:Model} {A:Around} {W:Value→Shared→Prop} {s:Shared}
variable {nm q nm' q':Str} {C N C' N':Addr} {bs bm bs' bm':List Value} {sn sn':List Str} {sub sub':List Value} {ab ab':Bool} {col col':Option Bool} {dd dd':Option Addr} {k0 k1 k2 k3 k5 k0' k1' k2' k3' k5':Option Value}
theorem xT {e:Addr} {od:Option Addr} {vs:Array Value} {b:Bool} {Q:Bool→Shared→Prop} (hC:s.heap.get? C=some (excClassObj nm q C N bs bm true sn sub ab col dd k0 k1 k2 k3 k5 "ValueError.__new__"))
  (hD:s.heap.get? C'=some (excClassObj nm' q' C' N' bs' bm' true sn' sub' ab' col' dd' k0' k1' k2' k3' k5' "ValueError.__new__")) (B:ExcMro bm') (he:s.heap.get? e=some (aM C od vs)) (hb:(Value.ref C::bm).contains (.ref C')=b)
  (hq:Q b s):wpAny M A (excMatches (.ref e) (.ref C')) Q W s:=by
 have cB:(Value.ref C'::bm').contains (.type "BaseException")=true:=by rw[QR,B.bas,X3]
 have f:=tc_notTuple
 obtain⟨hp,g,d,t,os⟩:=s
 unfold excMatches
 repeat (first|with_reducible refine wpAny_loadPart_at he ?_|with_reducible refine wpAny_loadPart_at hD ?_|(with_reducible refine wpAny_isSubtype_exc hD ?_;rw[cB])|(with_reducible refine wpAny_isSubtype_exc hC ?_;rw[hb])|wp_step)
 cases b<;>(wp_walk;exact hq)
end
abbrev Cx.sui (X:Cx) (ea:Addr):Cx:={X with A:=X.A.mark (some (.ref ea)),calm:=false,xe:=λ_ _=>False}
abbrev Cx.tr (X:Cx) (pn:List (Addr×Obj)) (E:St→XK):Cx:={X with pn:=X.pn++pn,xe:=wV {X with pn:=X.pn++pn} E}
section
variable {X:Cx} {pins:List (Addr×Obj)} {σ:St} {H:Hp} {s:Shared}
theorem Cx.Ok.sui (ok:X.Ok) (ea:Addr):(X.sui ea).Ok:=
 ⟨ok.mod,ok.kind,ok.glob,ok.blt,ok.above,ok.inj,ok.has,ok.cab,λz=>absurd z Qc,ok.frames,ok.stk,ok.exf,ok.bs,ok.bsz,ok.noex,ok.exfs,ok.funs,ok.frf⟩
theorem Inv.sui (I:Inv X pins σ H s) (ea:Addr):Inv (X.sui ea) pins σ H s:=⟨I.ok.sui ea,I.os,I.bare,I.base,I.loc,I.cell,I.free,I.freeC,I.pin,I.hok,I.len⟩
theorem Inv.back {ea:Addr} (ok:X.Ok) (I:Inv (X.sui ea) pins σ H s):Inv X pins σ H s:=⟨ok,I.os,I.bare,I.base,I.loc,I.cell,I.free,I.freeC,I.pin,I.hok,I.len⟩
theorem Cx.Ok.tr (ok:X.Ok) (pn:List (Addr×Obj)) (E:St→XK):(X.tr pn E).Ok:=
 ⟨ok.mod,ok.kind,ok.glob,ok.blt,ok.above,ok.inj,ok.has,ok.cab,ok.hd,ok.frames,ok.stk,ok.exf,ok.bs,ok.bsz,ok.noex,ok.exfs,ok.funs,ok.frf⟩
theorem Inv.tr (I:Inv X pins σ H s) (E:St→XK):Inv (X.tr pins E) [] σ H s:=⟨I.ok.tr pins E,I.os,I.bare,I.base,I.loc,I.cell,I.free,I.freeC,λp hp=>I.pin p (by simpa using hp),I.hok,I.len⟩
theorem Inv.untr {pn:List (Addr×Obj)} (ok:X.Ok) (I:Inv {X with pn:=X.pn++pn} pins σ H s):Inv X pn σ H s:=
 ⟨ok,I.os,I.bare,I.base,I.loc,I.cell,I.free,I.freeC,λp hp=>I.pin p (Z0 _ hp),I.hok,I.len⟩
theorem Inv.untr' {pn:List (Addr×Obj)} {E:St→XK} (ok:X.Ok) (I:Inv (X.tr pn E) pins σ H s):Inv X pn σ H s:=
 ⟨ok,I.os,I.bare,I.base,I.loc,I.cell,I.free,I.freeC,λp hp=>I.pin p (Z0 _ hp),I.hok,I.len⟩
theorem iQ {M:Model} {A:Around} {W:Value→Shared→Prop} {i:Nat} {x:Str} {pos:Pos} {Q:Unit→Shared→Prop} (I:Inv X pins σ H s) (hN:X.N.Nodup) (hi:X.N[i]?=some x) (hk:X.env.scope.names.lookup x=some .local)
  (h:∀s',Inv X pins (σ.set i none) H s'→Q () s'):wpAny M A (do bindName X.env x .none;unbindBehindTheSuite X.env x pos) Q W s:=by
 obtain⟨m,hn,hl⟩:=id I.loc
 have hiσ:i<σ.length:=by rw[I.len];exact(Q4.mp hi).1
 have above:∀b o,X.s₀.heap.get? b=some o→b≠X.env.locals:=λb o e=>Qw (Qz (Heap.lt_size e) I.ok.above)
 refine wpAny_nameGoes_keeps hk hn (by rw[I.ok.kind];rfl) λh' v hn' hs=>h _ ?_
 have cl:∀y c,X.env.cells.lookup y=some c→∀w,s.heap.IsCell c w→h'.IsCell c w:=λy c e w z=>z.sameBut hs (I.cne y c e)
 refine⟨I.ok,I.os,I.bare,⟨λb o e n hb hx=>(hs.2 b (above b o e)).trans (I.base.keep b o e n hb hx),λb o e n hb hx=>?_,I.base.free,λb o e hx=>?_,I.base.tups,I.base.frzs,I.base.tbls⟩,⟨_,hn',λj y v' e1 e2 e3=>?_⟩,λy c e=>?_,I.free,I.freeC,λp hp=>?_,λb ob e=>?_,by simpa using I.len⟩
 ·obtain⟨sl,r⟩:=I.base.slot b o e n hb hx
  exact⟨sl,(hs.2 b (above b o e)).trans r⟩
 ·obtain⟨o',r⟩:=I.base.there b o e hx
  exact⟨o',(hs.2 b (above b o e)).trans r⟩
 ·have hj:j≠i:=λz=>by rw[z,ZP hiσ]at e2;cases e2
  rw[Xq (Ne.symm hj)]at e2
  obtain⟨u,r,q⟩:=hl j y v' e1 e2 e3
  refine⟨u,r,?_⟩
  rcases q with⟨k,e⟩|⟨k,c,e,z⟩
  ·have ny:y≠x:=λz=>hj (o7 hN e1 (z▸hi))
   exact .inl ⟨k,by simp[ny,e]⟩
  ·exact .inr ⟨k,c,e,cl y c e _ z⟩
 ·obtain⟨w',z⟩:=I.cell y c e
  exact⟨w',cl y c e w' z⟩
 ·obtain⟨e,n,ne,nf,d⟩:=I.pin p hp
  exact⟨(hs.2 p.1 ne).trans e,n,ne,nf,d⟩
 ·refine(I.hok b ob e).stay (λc w' hc r=>(hs.2 c ?_).trans r) (λ_ r=>r) λ_ _ r=>r
  rintro rfl
  have fr:=I.free
  rcases hc with rfl|hc
  ·rw[fr]at e;cases e
  ·rw[fr]at hc;cases hc
end
end L2
namespace L2
open PySem PySem.Spec PyProof.Rows PySem.W
abbrev TH:=Ends→St→Hp→Addr→Addr→Option Addr→Prop
def PH (X:Cx) (hs:List ExceptHandler) (t:TH):Prop:=∀(pins:List (Addr×Obj)) (s:Shared) (σ:St) (H:Hp) (D:Ends) (ea C:Addr) (od:Option Addr) (vs:Array Value) (T:Addr),Inv X pins σ H s→H ea=some (XO ea C od)→
 s.heap.get? ea=some (aM C od vs)→Trc s.heap ea vs T .none→hV X pins H T→t D σ H ea C od→wpAny (model X.prog X.w) X.A (handleBy (.ref ea) X.env hs) (SP X pins D) X.xe s
def El:TH:=λ_ _ _ _ _ _=>False
def Ends.gone (D:Ends) (i:Nat):Ends:=⟨λσ H=>D.nx (σ.set i none) H,D.rt,λσ H=>D.bk (σ.set i none) H,λσ H=>D.ct (σ.set i none) H⟩
def hAs (K:PySem.W.Frag) (Dc:Addr) (i:Nat) (ts:TS) (tr:TH):TH:=λD σ H ea C od=>∃bm b,XCls K C bm∧subIn K (.ref C) (.ref Dc)=some b∧if b=true then ts (D.gone i) (σ.set i (some (.ref ea))) H else tr D σ H ea C od
section
variable {X:Cx} {x n:Str} {np pos:Pos} {b0:Stmt} {suite:List Stmt} {rest:List ExceptHandler} {i:Nat} {ts:TS} {tr:TH} {Dc:Addr} {bm':List Value}
theorem Bm {hs:List ExceptHandler}:PH X hs El:=λ_ _ _ _ _ _ _ _ _ _ _ _ _ _ _ h=>h.elim
theorem AT {K:PySem.W.Frag} {C D:Addr} {bm:List Value} {b:Bool} (Y:XCls K C bm) (h:subIn K (.ref C) (.ref D)=some b):(Value.ref C::bm).contains (.ref D)=b:=by
 obtain⟨cd,hc,hm,_⟩:=Y.cd
 have h:mroIn K C (.ref D)=some b:=h
 unfold mroIn at h
 rw[hc,Zu,if_neg (by rw[hm];exact Qc),hm]at h
 exact Option.some.inj h
theorem Bl {name:Option Str} {pins:List (Addr×Obj)} {s:Shared} {σ:St} {H:Hp} {ea C:Addr} {od:Option Addr} {vs:Array Value} {bm:List Value} {b:Bool} {Q:Flow→Shared→Prop} (I:Inv X pins σ H s) (hr:s.heap.get? ea=some (aM C od vs)) (hg:Gl X x) (hm:X.mg x=some (.ref Dc)) (Z:XCls X.K Dc bm')
  (Y:XCls X.K C bm) (hb:subIn X.K (.ref C) (.ref Dc)=some b) (hdb:(x==("__debug__":Str))=false)
  (h1:b=true→codeAny (model X.prog X.w) (X.A.mark (some (.ref ea))) (.handlers (.ref ea) [.ExceptHandler none name (b0::suite) pos] X.env) (λr s2=>match r with
     | .ok f=>(match name with
      |none=>Q f s2
      |some n=>wpAny (model X.prog X.w) X.A (do bindName X.env n .none;unbindBehindTheSuite X.env n pos) (λ_ s3=>Q f s3) X.xe s2)
     | .error x=>cameBackBy (model X.prog X.w) X.A X.env X.xe x s2) s)
  (h2:b=false→wpAny (model X.prog X.w) X.A (handleBy (.ref ea) X.env rest) Q X.xe s):
  wpAny (model X.prog X.w) X.A (handleBy (.ref ea) X.env (.ExceptHandler (some (.Name x np)) name (b0::suite) pos::rest)) Q X.xe s:=by
 obtain⟨nm,q1,N,bs,sn,sub,ab,col,dd,k0,k1,k2,k3,k5,hK⟩:=Y.ob
 obtain⟨nm',q1',N',bs',sn',sub',ab',col',dd',k0',k1',k2',k3',k5',hK'⟩:=Z.ob
 refine wpAny_handleBy_cons (codeAny_handlers_test (iU (X:=X.sui ea) (I.sui ea) hg hm ?_ hdb)) (by intro q;cases q)
 refine xT (I.kIn _ _ hK) (I.kIn _ _ hK') Z.mro hr (AT Y hb) ?_
 cases b with
 |true=>exact h1 rfl
 |false=>exact h2 rfl
theorem Ea (hN:X.N.Nodup) (hi:X.N[i]?=some n) (hk:X.env.scope.names.lookup n=some .local) (hg:Gl X x) (hm:X.mg x=some (.ref Dc)) (Z:XCls X.K Dc bm') (hs:∀ea,PSs (X.sui ea) (b0::suite) ts) (hr:PH X rest tr) (hdb:(x==("__debug__":Str))=false:=by decide):
  PH X (.ExceptHandler (some (.Name x np)) (some n) (b0::suite) pos::rest) (hAs X.K Dc i ts tr):=by
 intro pins s σ H D ea C od vs T I hx hre htr hfp h
 obtain⟨bm,b,Y,hb,h⟩:=h
 refine Bl I hre hg hm Z Y hb hdb (λz=>?_) (λz=>?_)
 ·subst z
  rw[if_pos rfl]at h
  refine codeAny_handlers_suite_as (jW (l:=[]) hre htr λh' g1 g2 g3 g4 g5=>?_)
  have I1:Inv X pins σ H {s with heap:=h'}:=I.turned (t':=s.toks) (it:=T) g1 hfp.1 hfp.2.1 hfp.2.2.2.1 hfp.2.2.2.2.1 hfp.2.2.2.2.2
  refine kf (v:= .ref ea) I1 hN hi (.inl hk) rfl (λs2 I2=>?_) (.inr hk)
  refine wpAny_mono (hs ea pins s2 _ H (D.gone i) (I2.sui ea) h) (λf s4 z=>?_) λ_ _ z=>z.elim
  cases f with
  |next=>
   obtain⟨σ',H',I',q⟩:=z
   exact iQ (I'.back I.ok) hN hi hk λs5 I5=>⟨_,H',I5,q⟩
  |brk=>
   obtain⟨σ',H',I',q⟩:=z
   exact iQ (I'.back I.ok) hN hi hk λs5 I5=>⟨_,H',I5,q⟩
  |cont=>
   obtain⟨σ',H',I',q⟩:=z
   exact iQ (I'.back I.ok) hN hi hk λs5 I5=>⟨_,H',I5,q⟩
  |ret u=>
   obtain⟨v,σ',H',I',rv,q⟩:=z
   exact iQ (I'.back I.ok) hN hi hk λs5 I5=>⟨v,_,H',I5,rv,q⟩
 ·subst z
  rw[if_neg Qc]at h
  exact hr pins s σ H D ea C od vs T I hx hre htr hfp h
def sTry (tb:(St→XK)→TS) (th:TH):TS:=λD σ H=>tb (λσ1 v od H1=>∃ea C,v= .ref ea∧H1 ea=some (XO ea C od)∧th D σ1 H1 ea C od) D σ H
theorem C5 {body:List Stmt} {h0:ExceptHandler} {hs:List ExceptHandler} {tb:(St→XK)→TS} {th:TH} (hst:X.stack=X.env::X.outer) (hf:X.env.frame=some X.env.locals) (hb:∀pn E,PSs (X.tr pn E) body (tb E)) (hh:PH X (h0::hs) th):
  PS X (.Try body (h0::hs) [] [] pos) (sTry tb th):=by
 intro pins s σ H D I h
 refine wpAny_Try_except (wpAny_mono (hb pins _ [] s σ H D (I.tr _) h) (λf s1 z=>?_) λe s1 z=>?_)
 ·cases f with
  |next=>
   obtain⟨σ',H',I',q⟩:=z
   exact wpAny_execs_nil ⟨σ',H',I'.untr' I.ok,q⟩
  |brk=>
   obtain⟨σ',H',I',q⟩:=z
   exact⟨σ',H',I'.untr' I.ok,q⟩
  |cont=>
   obtain⟨σ',H',I',q⟩:=z
   exact⟨σ',H',I'.untr' I.ok,q⟩
  |ret u=>
   obtain⟨v,σ',H',I',rv,q⟩:=z
   exact⟨v,σ',H',I'.untr' I.ok,rv,q⟩
 ·obtain⟨pins1,σ1,H1,ea,C,od,vs,φ,rfl,I1,hx,hr,hz,ht,ea',C',e1,e2,q⟩:=z
  obtain rfl:ea=ea':=Value.ref.inj e1
  refine rc (X:={X with pn:=X.pn++pins}) I1 hst hf I1.ok.frames hx hr hz ht λs2 vs2 T I2 r2 z2 t2 f2=>?_
  obtain⟨vs3,r3,_⟩:=yg I2.hok e2
  obtain rfl:C=C':=by
   have z:=congrArg Obj.cls (Option.some.inj (r2.symm.trans r3))
   exact Value.ref.inj z
  exact hh pins s2 σ1 _ D ea C od vs2 T (I2.untr I.ok) e2 r2 t2 ⟨f2.1,f2.2.1,f2.2.2.1,f2.2.2.2.1,f2.2.2.2.2.1,λp hp=>f2.2.2.2.2.2 p (Z0 _ hp)⟩ q
end
end L2
namespace L2
open PySem PySem.Spec PyProof.Rows PySem.W
def tH (CX:CXT) (X:Cx) (E:St→XK):Prop:=∀(pins:List (Addr×Obj)) (σ:St) (H:Hp) (s:Shared) (e:Value) (s':Shared),Inv X pins σ H s→CX X.stack H s (E σ) e s'→X.xe e s'
theorem Cp {X:Cx} {pn:List (Addr×Obj)} {E:St→XK}:tH (CX1 X.prog X.w) (X.tr pn E) E:=λpins σ H s e s' I h=>by
 have ok:Cx.Ok {X with pn:=X.pn++pn}:=⟨I.ok.mod,I.ok.kind,I.ok.glob,I.ok.blt,I.ok.above,I.ok.inj,I.ok.has,I.ok.cab,I.ok.hd,I.ok.frames,I.ok.stk,I.ok.exf,I.ok.bs,I.ok.bsz,I.ok.noex,I.ok.exfs,I.ok.funs,I.ok.frf⟩
 have I':Inv {X with pn:=X.pn++pn} pins σ H s:=⟨ok,I.os,I.bare,I.base,I.loc,I.cell,I.free,I.freeC,I.pin,I.hok,I.len⟩
 exact I'.flies h λ_ _ _ q=>q
def CP (C:Addr) (m:Str) (sp:Sp) (dvs:List V) (E:St→XK) (ta:TE) (t:TA):TE:=λσ H Q=>ta σ H λx H1=>∃a dx fs,x= .ref a∧H1 a=some (.ins C dx fs)∧fs.lookup m=none∧
 t σ H1 λvs H2=>sp (x::(vs++dvs)) H2 Q (E σ)
section
variable {X:Cx} {CX:CXT} {k:Nat} {f C:Addr} {fd:FuncData} {ps:List Str} {sp:Sp} {dvs:List V} {ds:List Value} {E:St→XK} {x m:Str} {p pos apos:Pos} {e o:Expr} {es:List Expr} {ta:TE} {t:TA}
theorem AY {pins:List (Addr×Obj)} {σ:St} {H:Hp} {s:Shared} {Q:VK} {us:List Value} {vs:List V} (F:aX X.prog X.w X.K X.mg X.base CX k f fd ps sp) (hr:Room k X.A) (hb:Binds X.K fd ps ds) (hd:Vals dvs ds) (hx:tH CX X E)
  (I:Inv X pins σ H s) (r:Vals vs us) (h:sp (vs++dvs) H Q (E σ)):wpAny (model X.prog X.w) X.A (call (.ref f) us) (EP X pins σ Q) X.xe s:=by
 have r2:Vals (vs++dvs) (us++ds):=r.append hd
 have hl:(us++ds).length=ps.length:=by rw[←r2.length];exact F.len _ _ _ _ h
 refine wpAny_call (codeAny_mono (F.run X.A X.stack s H ⟨us,[]⟩ (us++ds) (vs++dvs) Q (E σ) hr I.env0 (hb s us I.kIn hl) r2 h) λr s' hq=>?_)
 cases r with
 |error e=>exact hx pins σ H s e s' I hq
 |ok fl=>cases fl<;>first|exact I.after hq|exact False.elim hq
theorem t9 {pl:Sem Bool} (he:PE X o ta) (c:Cls X.K C) (hm:bS X.K C m f) (F:aX X.prog X.w X.K X.mg X.base CX k f fd ps sp) (hr:Room k X.A) (hb:Binds X.K fd ps ds) (hd:Vals dvs ds) (hx:tH CX X E) (ha:PA X (e::es) t)
  (hst:starEach (e::es) X.env=(false,eval e X.env)::starEach es X.env:=by rfl) (hpl:(backTo pos (starEach es X.env)).any (·.1)=false:=by rfl)
  (ht:eval (.Call (.Attribute o m apos) (e::es) [] pos) X.env=(do
   let ov←eval o X.env
   standAt apos.atName
   let(f,first)←holding [ov] (getMethod ov m pl)
   callWith pos f first (backTo pos (starEach (e::es) X.env)) (backToKw pos (keywordEach [] X.env))):=by rfl):
  PE X (.Call (.Attribute o m apos) (e::es) [] pos) (CP C m sp dvs E ta t):=by
 intro pins s σ H Q I h
 refine Zz (pl:=pl) (thn (he pins s σ H _ I h) λu s1 hzz=>?_) ht
 obtain⟨x,H1,I1,rx,a,dx,fs,ex,ea,l,q⟩:=hzz
 subst ex
 obtain rfl:u=Value.ref a:=rx
 refine gO I1 ea c hm l ?_
 refine X4 (first:=[.ref a]) (h₀:=X.base) I.ok.mod.kin hm.kp (thn (ha pos pins s1 σ H1 _ I1 q) λus s2 ⟨vs,H2,I2,r,q2⟩=>⟨I2.kIn,?_⟩) hst hpl
 exact AY (us:= .ref a::us) (vs:= .ref a::vs) F hr hb hd hx I2 (.cons rfl r) q2
end
end L2
namespace L2
open PySem PySem.Spec PyProof.Rows PySem.W
theorem sG {X:Cx} {P:Program} {w:World}:eI (CX1 P w) X E0:=λ_ _ _ _ _ _ _ ⟨_,_,_,_,_,_,_,_,_,_,_,_,_,_,_,_,_,z⟩=>z.elim
end L2
namespace L2
open PySem PySem.Spec PyProof.Rows
inductive DV where
 |non|bl (b:Bool)|int (i:Int)|str (x:Str)|lst (xs:List DV)|tup (xs:List DV)
end L2
namespace L2
open PySem PySem.Spec PyProof.Rows
end L2
namespace L2
open PySem PySem.Spec PyProof.Rows SeqAt
section
variable {X:Cx}
theorem wj {st:Stmt}:PS X st (λ_ _ _=>False):=λ_ _ _ _ _ _ h=>h.elim
theorem PlainL.isL {h:Heap} {a:Addr} {xs:Array Value} (p:PlainL h a xs):h.IsList a xs:=by
 obtain⟨o,n,e,c,_,d⟩:=p
 exact⟨o,e,c,n,d⟩
def rEqN (K:PySem.W.Frag) (f:Bool):R2:=λx y H Q=>∃a b xs,x= .ref a∧y= .ref b∧SqL K H a xs∧SqL K H b []∧Q (.bl (xs.isEmpty !=f)) H
theorem C9 (K:PySem.W.Frag) (hK:X.K=K) (hu:X.A.units+20<cLine):OpR X (compareOp .NotEq) (rEqN K true):=by
 subst hK
 intro pins s σ H x y v u Q I rx ry h
 obtain⟨a,b,xs,rfl,rfl,h1,h2,q⟩:=h
 cases rx
 cases ry
 obtain⟨i1,r1,p1,z1⟩:=I.list h1
 obtain⟨i2,r2,p2,z2⟩:=I.list h2
 have hu0:X.A.units<cLine:=by omega
 cases r2
 cases r1 with
 |nil=>exact RcNeAt.lists (A:=X.A) (e:=λ_=>true) (PlainL.isL p1) (PlainL.isL p2) rfl hu0 (λj h1=>absurd h1 (Xj _)) _ _ _ _ ⟨.bl _,H,I,rfl,q⟩
 |cons r t=>exact RcNeAt.lists_lengths (PlainL.isL p1) (PlainL.isL p2) (by simp) hu0 _ _ _ _ ⟨.bl _,H,I,rfl,q⟩
end
section
variable {K:PySem.W.Frag} {H:Hp} {x y:Addr} {ns:List Int} {Q:VK}
theorem y3 (h1:SqL K H x (ns.map V.int)) (h2:SqL K H y []) (q:Q (.bl (!decide (ns=[]))) H):rEqN K true (.ref x) (.ref y) H Q:=by
 refine⟨x,y,_,rfl,rfl,h1,h2,?_⟩
 cases ns with
 |nil=>exact q
 |cons n ns=>rw[decide_eq_false (by simp)]at q;exact q
end
end L2
namespace L2
open PySem PySem.Spec PyProof.Rows SeqAt
def Fl:V→Prop
 | .int _=>True| .str _=>True| .non=>True|_=>False
section
variable {X:Cx} {pins:List (Addr×Obj)} {σ:St} {H:Hp} {s:Shared}
theorem tj {A:Around} {x:V} {u v:Value} (h:Fl x) (r1:RelV x u) (r2:RelV x v):EqAt A s u v true:=by
 cases x with
 |int n=>
  obtain⟨t1,rfl⟩:=r1
  obtain⟨t2,rfl⟩:=r2
  have:=EqAt.int_int (A:=A) (s:=s) n t1 n t2
  rwa [beq_self_eq_true]at this
 |str n=>
  obtain⟨t1,rfl⟩:=r1
  obtain⟨t2,rfl⟩:=r2
  have:=EqAt.str_str (A:=A) (s:=s) n t1 n t2
  rwa [beq_self_eq_true]at this
 |non=>
  cases (show u=Value.none from r1)
  cases (show v=Value.none from r2)
  exact EqAt.same _
 |_=>exact h.elim
theorem pF {A:Around}:∀{xs:List V} {us vs:List Value},Vals xs us→Vals xs vs→(∀x∈xs,Fl x)→us.length=vs.length∧∀(j:Nat) (h1:j<us.length) (h2:j<vs.length),EqAt A s us[j] vs[j] true
 | [],_,_,.nil,.nil,_=>⟨rfl,λj h=>absurd h (Xj _)⟩
 |x::xs,_,_,.cons r1 t1,.cons r2 t2,h=>by
  obtain⟨l,g⟩:=pF (A:=A) t1 t2 λy hy=>h y (Qa _ hy)
  refine⟨by rw[Qf,Qf,l],λj h1 h2=>?_⟩
  cases j with
  |zero=>exact tj (h x Q8) r1 r2
  |succ j=>exact g j (by simpa using h1) (by simpa using h2)
def rEqF (K:PySem.W.Frag) (f:Bool):R2:=λx y H Q=>∃a b xs,x= .ref a∧y= .ref b∧SqL K H a xs∧SqL K H b xs∧(∀v∈xs,Fl v)∧Q (.bl (!f)) H
theorem Db (K:PySem.W.Frag) (hK:X.K=K) (hu:X.A.units+20<cLine):OpR X (compareOp .Eq) (rEqF K false):=by
 subst hK
 intro pins s σ H x y v u Q I rx ry h
 obtain⟨a,b,xs,rfl,rfl,h1,h2,fl,q⟩:=h
 cases rx
 cases ry
 obtain⟨i1,r1,p1,z1⟩:=I.list h1
 obtain⟨i2,r2,p2,z2⟩:=I.list h2
 obtain⟨l,g⟩:=pF (A:=X.A.in1) (s:=s) r1 r2 fl
 exact RcAt.lists (A:=X.A) (e:=λ_=>true) (PlainL.isL p1) (PlainL.isL p2) (by simpa using l) (by omega) (λj a b=>by simpa using g j (by simpa using a) (by simpa using b)) _ _ _ _ ⟨.bl _,H,I,rfl,by rw[QK.mpr λ_ _=>rfl];exact q⟩
theorem Da (K:PySem.W.Frag) (hK:X.K=K) (hu:X.A.units+20<cLine):OpR X (compareOp .NotEq) (rEqF K true):=by
 subst hK
 intro pins s σ H x y v u Q I rx ry h
 obtain⟨a,b,xs,rfl,rfl,h1,h2,fl,q⟩:=h
 cases rx
 cases ry
 obtain⟨i1,r1,p1,z1⟩:=I.list h1
 obtain⟨i2,r2,p2,z2⟩:=I.list h2
 obtain⟨l,g⟩:=pF (A:=X.A.in1) (s:=s) r1 r2 fl
 exact RcNeAt.lists (A:=X.A) (e:=λ_=>true) (PlainL.isL p1) (PlainL.isL p2) (by simpa using l) (by omega) (λj a b=>by simpa using g j (by simpa using a) (by simpa using b)) _ _ _ _ ⟨.bl _,H,I,rfl,by rw[QK.mpr λ_ _=>rfl];exact q⟩
end
end L2
namespace L2
open PySem PySem.Spec PyProof.Rows SeqAt
def Alk (K:PySem.W.Frag) (H:Hp):Nat→V→V→Prop
 |0,x,y=>Fl x∧x=y
 |n+1,x,y=>(Fl x∧x=y)∨∃a b xs ys,x= .ref a∧y= .ref b∧(SqL K H a xs∧SqL K H b ys∨SqT K H a xs∧SqT K H b ys)∧xs.length=ys.length∧∀(j:Nat) (u v:V),xs[j]?=some u→ys[j]?=some v→Alk K H n u v
theorem pR:∀{xs:List V} {us:List Value},Vals xs us→∀(j:Nat) (h:j<us.length),∃x,xs[j]?=some x∧RelV x us[j]
 |_,_,.nil,_,h=>absurd h (Xj _)
 |_,_,.cons r _,0,_=>⟨_,rfl,r⟩
 |_,_,.cons _ r,j+1,h=>pR r j (Nat.lt_of_succ_lt_succ h)
section
variable {X:Cx} {pins:List (Addr×Obj)} {σ:St} {H:Hp} {s:Shared}
theorem zV (I:Inv X pins σ H s):∀(n:Nat) {A:Around} {x y:V} {u v:Value},A.units+n<cLine→Alk X.K H n x y→RelV x u→RelV y v→EqAt A s u v true
 |0,_,_,_,_,_,_,⟨f,e⟩,r1,r2=>tj f r1 (e▸r2)
 |n+1,A,x,y,u,v,hu,h,r1,r2=>by
  rcases h with⟨f,e⟩|⟨a,b,xs,ys,rfl,rfl,o,l,g⟩
  ·exact tj f r1 (e▸r2)
  cases r1
  cases r2
  by_cases e:a=b
  ·subst e
   exact EqAt.same _
  have it:∀{us vs:List Value},Vals xs us→Vals ys vs→∀(j:Nat) (h1:j<us.length) (h2:j<vs.length),EqAt A.in1 s us[j] vs[j] true:=λv1 v2 j h1 h2=>by
   obtain⟨x,e1,q1⟩:=pR v1 j h1
   obtain⟨y,e2,q2⟩:=pR v2 j h2
   exact zV I n (by show A.units+1+n<cLine;omega) (g j x y e1 e2) q1 q2
  refine EqAt.of_refs e ?_
  rcases o with⟨h1,h2⟩|⟨h1,h2⟩
  ·obtain⟨i1,v1,p1,_⟩:=I.list h1
   obtain⟨i2,v2,p2,_⟩:=I.list h2
   have:=RcAt.lists (A:=A) (e:=λ_=>true) (PlainL.isL p1) (PlainL.isL p2) (by simpa[←v1.length,←v2.length]using l) (by omega) (λj a b=>by simpa using it v1 v2 j (by simpa using a) (by simpa using b))
   rw[QK.mpr λ_ _=>rfl]at this
   exact this
  ·obtain⟨i1,v1,p1,_⟩:=I.tuple h1
   obtain⟨i2,v2,p2,_⟩:=I.tuple h2
   have:=RcAt.tuples (A:=A) (e:=λ_=>true) p1 p2 (by omega) (λj a b=>by simpa using it v1 v2 j (by simpa using a) (by simpa using b))
   rw[QK.mpr λ_ _=>rfl]at this
   simpa[←v1.length,←v2.length,l]using this
def rAlk (K:PySem.W.Frag) (f:Bool):R2:=λx y H Q=>∃(a b:Addr) (xs ys:List V),x= .ref a∧y= .ref b∧(SqL K H a xs∧SqL K H b ys∨SqT K H a xs∧SqT K H b ys)∧xs.length=ys.length∧(∀(j:Nat) (u v:V),xs[j]?=some u→ys[j]?=some v→Alk K H 4 u v)∧Q (.bl (!f)) H
theorem yW (K:PySem.W.Frag) (hK:X.K=K) (hu:X.A.units+20<cLine):OpR X (compareOp .Eq) (rAlk K false):=by
 subst hK
 intro pins s σ H x y v u Q I rx ry h
 obtain⟨a,b,xs,ys,rfl,rfl,o,l,g,q⟩:=h
 cases rx
 cases ry
 have it:∀{us vs:List Value},Vals xs us→Vals ys vs→∀(j:Nat) (h1:j<us.length) (h2:j<vs.length),EqAt X.A.in1 s us[j] vs[j] true:=λv1 v2 j h1 h2=>by
  obtain⟨x,e1,q1⟩:=pR v1 j h1
  obtain⟨y,e2,q2⟩:=pR v2 j h2
  exact zV I 4 (by show X.A.units+1+4<cLine;omega) (g j x y e1 e2) q1 q2
 rcases o with⟨h1,h2⟩|⟨h1,h2⟩
 ·obtain⟨i1,v1,p1,_⟩:=I.list h1
  obtain⟨i2,v2,p2,_⟩:=I.list h2
  have:=RcAt.lists (A:=X.A) (e:=λ_=>true) (PlainL.isL p1) (PlainL.isL p2) (by simpa[←v1.length,←v2.length]using l) (by omega) (λj a b=>by simpa using it v1 v2 j (by simpa using a) (by simpa using b))
  rw[QK.mpr λ_ _=>rfl]at this
  exact this _ _ _ _ ⟨.bl _,H,I,rfl,q⟩
 ·obtain⟨i1,v1,p1,_⟩:=I.tuple h1
  obtain⟨i2,v2,p2,_⟩:=I.tuple h2
  have:=RcAt.tuples (A:=X.A) (e:=λ_=>true) p1 p2 (by omega) (λj a b=>by simpa using it v1 v2 j (by simpa using a) (by simpa using b))
  rw[QK.mpr λ_ _=>rfl,show(true&&i1.toArray.size==i2.toArray.size)=true by simp[←v1.length,←v2.length,l]]at this
  exact this _ _ _ _ ⟨.bl _,H,I,rfl,q⟩
end
end L2
namespace L2
open PySem PySem.Spec PyProof.Rows
theorem pC {x y:V} {A B:Prop} (e:x=y) (h:A):if decide (x=y)=true then A else B:=by
 rw[decide_eq_true e]
 exact cO h
theorem ao {H:Hp} {p:Addr} {o:HO} (h:H p=none):Same H (upd H p o):=λb u e=>by
 rw[ac (ai e h)]
 exact e
def AllI (P:Int→Prop):List V→Prop
 | []=>True
 | .int m::r=>P m∧AllI P r
 |_::_=>False
theorem AllI.ints {P:Int→Prop}:∀{L:List V},AllI P L→∃ns:List Int,L=ns.map V.int∧∀m∈ns,P m
 | [],_=>⟨[],rfl,λ_ z=>nomatch z⟩
 | .int m::r,h=>by
  obtain⟨ns,e,q⟩:=AllI.ints h.2
  refine⟨m::ns,by rw[e];rfl,λx hx=>?_⟩
  rcases Qe.mp hx with rfl|hx
  ·exact h.1
  ·exact q x hx
theorem D9 {P:Int→Prop} {L:List V} {c n:Int} (h:AllI P L) (hn:(L.length:Int)=n) (hp:0<n):∃m,atI L (c%n)=some (.int m)∧P m:=by
 obtain⟨ns,e,q⟩:=h.ints
 subst e
 have a:=Qs c (Z3 hp)
 have b:=Qv c hp
 rw[Q0]at hn
 have hlt:(c%n).toNat<ns.length:=by omega
 refine⟨_,uK a (by omega),q _ ?_⟩
 rw[Qn,Q5 hlt]
 exact Zv hlt
theorem D8 {L:List V} {c n:Int} (hn:(L.length:Int)=n) (hp:0<n):∃v,atI L (c%n)=some v∧v∈L:=by
 have a:=Qs c (Z3 hp)
 have b:=Qv c hp
 have hlt:(c%n).toNat<L.length:=by omega
 refine⟨L[(c%n).toNat],?_,Zv hlt⟩
 unfold atI ixN
 rw[if_pos a,if_pos (by omega)]
 exact Q5 hlt
theorem cE {H H':Hp} {l:Addr} {o:HO} (s:Same H H') (n:H l=none):Same H (upd H' l o):=λb u e=>by
 rw[ac (ai e n)]
 exact s b u e
theorem Room.u20 {k:Nat} {A:Around} (r:Room k A):A.units+20<cLine:=by have:=r.un;omega
section
variable {X:Cx} {k:Nat} {f C:Addr} {fd:FuncData} {ps:List Str} {sp:Sp} {dvs:List V} {ds:List Value} {E:XK} {x m:Str} {p pos apos:Pos} {e o:Expr} {es:List Expr} {ta:TE} {t:TA}
theorem yU (K:PySem.W.Frag) (hK:X.K=K) {f:Str} (he:PE X o ta) (hb:attributeBase o f X.env (eval o X.env)=eval o X.env):PE X (.Attribute o f pos) (Ch K ta f):=by
 subst hK
 exact Bo he hb
end
end L2
namespace Srt
open PySem PyProof.Rows
abbrev dk:Keyed:=(Value.none,Value.none)
def g (xs:Array Keyed) (i:Nat):Keyed:=xs[i]?.getD dk
theorem b7 {xs:Array Keyed} {i:Nat} (h:i<xs.size):xs[i]?=some (g xs i):=by
 unfold g;rw[getElem?_pos xs i h];rfl
theorem kL {xs ys:Array Keyed} {i j:Nat} (h:xs[i]?=ys[j]?):g xs i=g ys j:=by unfold g;rw[h]
theorem rC {xs:Array Keyed} {i:Nat} (h:i<xs.size):g xs i∈xs:=by
 have e:=b7 h
 exact Array.mem_of_getElem? e
structure Cmp (blt:Keyed→Keyed→Bool):Prop where
 asym:∀x y,blt x y=true→blt y x=false
 tr:∀x y z,blt y x=false→blt z y=false→blt z x=false
section
variable {blt:Keyed→Keyed→Bool} (C:Cmp blt)
abbrev le (blt:Keyed→Keyed→Bool) (x y:Keyed):Prop:=blt y x=false
include C
theorem Cmp.trans {x y z:Keyed} (h1:le blt x y) (h2:le blt y z):le blt x z:=C.tr x y z h1 h2
theorem Cmp.of_lt {x y:Keyed} (h:blt x y=true):le blt x y:=C.asym _ _ h
end
def On (blt:Keyed→Keyed→Bool) (xs:Array Keyed) (lo hi:Nat):Prop:=∀i j,lo≤i→i<j→j<hi→le blt (g xs i) (g xs j)
def Off (blt:Keyed→Keyed→Bool) (xs:Array Keyed) (lo hi:Nat):Prop:=∀i j,lo≤i→i<j→j<hi→le blt (g xs j) (g xs i)
theorem On.one {blt:Keyed→Keyed→Bool} {xs:Array Keyed} {lo:Nat}:On blt xs lo (lo+1):=λi j h1 h2 h3=>by omega
theorem Off.one {blt:Keyed→Keyed→Bool} {xs:Array Keyed} {lo:Nat}:Off blt xs lo (lo+1):=λi j h1 h2 h3=>by omega
theorem On.congr {blt:Keyed→Keyed→Bool} {xs ys:Array Keyed} {lo hi:Nat} (h:On blt xs lo hi) (e:∀k,lo≤k→k<hi→g ys k=g xs k):On blt ys lo hi:=λi j h1 h2 h3=>by
 rw[e i h1 (by omega),e j (by omega) h3];exact h i j h1 h2 h3
theorem On.sub {blt:Keyed→Keyed→Bool} {xs:Array Keyed} {lo hi lo' hi':Nat} (h:On blt xs lo hi) (h1:lo≤lo') (h2:hi'≤hi):On blt xs lo' hi':=λi j a b c=>h i j (by omega) b (by omega)
section
variable {blt:Keyed→Keyed→Bool} (C:Cmp blt)
include C
theorem On.snoc {xs:Array Keyed} {lo n:Nat} (h:On blt xs lo (lo+n)) (hn:1≤n) (e:le blt (g xs (lo+n-1)) (g xs (lo+n))):On blt xs lo (lo+(n+1)):=λi j h1 h2 h3=>by
 by_cases z:j<lo+n
 ·exact h i j h1 h2 z
 ·have ej:j=lo+n:=by omega
  subst ej
  by_cases y:i=lo+n-1
  ·subst y;exact e
  ·exact C.trans (h i (lo+n-1) h1 (by omega) (by omega)) e
theorem Off.snoc {xs:Array Keyed} {lo n:Nat} (h:Off blt xs lo (lo+n)) (hn:1≤n) (e:le blt (g xs (lo+n)) (g xs (lo+n-1))):Off blt xs lo (lo+(n+1)):=λi j h1 h2 h3=>by
 by_cases z:j<lo+n
 ·exact h i j h1 h2 z
 ·have ej:j=lo+n:=by omega
  subst ej
  by_cases y:i=lo+n-1
  ·subst y;exact e
  ·exact C.trans e (h i (lo+n-1) h1 (by omega) (by omega))
end
theorem zu {xs:Array Keyed} {i j:Nat} (hj:j≤xs.size) (k:Nat):g (mirror xs i j ((j-i)/2)) k=if i≤k∧k<j then g xs (i+j-1-k)else g xs k:=by
 have e:=getElem?_mirror_all (i:=i) hj k
 by_cases h1:i≤k∧k<j
 ·rw[if_pos h1]at e⊢;exact kL e
 ·rw[if_neg h1]at e⊢;exact kL e
theorem zw {xs:Array Keyed} {src d:Nat} (hs:src<xs.size) (hd:d≤src) (k:Nat):g (bubble xs src d) k=if k=src-d then g xs src else if src-d<k∧k≤src then g xs (k-1)else g xs k:=by
 have e:=getElem?_bubble hs d hd k
 by_cases h1:k=src-d
 ·rw[if_pos h1]at e⊢;exact kL e
 ·rw[if_neg h1]at e⊢
  by_cases h2:src-d<k∧k≤src
  ·rw[if_pos h2]at e⊢;exact kL e
  ·rw[if_neg h2]at e⊢;exact kL e
section
variable {prog:Program} {w:World} {A:Around} {E:Value→Shared→Prop} {s:Shared} {a₀:Array Keyed} {κ:SortKind} {blt:Keyed→Keyed→Bool}
def qM (prog:Program) (w:World) (A:Around) (E:Value→Shared→Prop) (s:Shared) (a₀:Array Keyed) (κ:SortKind) (blt:Keyed→Keyed→Bool):Prop:=
 ∀(x y:Keyed) (st:SortSt) (Q:Option Bool→SortSt→Prop),x∈a₀→y∈a₀→kindOf st=κ→Q (some (blt x y)) st→wpS (model prog w) A E s (lt' x y) Q st
structure Base (a₀:Array Keyed) (κ:SortKind) (st:SortSt):Prop where
 kind:kindOf st=κ
 fine:failedOf st=none
 perm:(arrOf st).Perm a₀
theorem Base.size {st:SortSt} (B:Base a₀ κ st):(arrOf st).size=a₀.size:=B.perm.size_eq
theorem Base.mem {st:SortSt} (B:Base a₀ κ st) {i:Nat} (h:i<a₀.size):g (arrOf st) i∈a₀:=(B.perm.mem_iff).mp (rC (by rw[B.size];exact h))
variable (L:qM prog w A E s a₀ κ blt)
include L
theorem j7 {st:SortSt} {i j:Nat} {Q:Option Bool→SortSt→Prop} (B:Base a₀ κ st) (hi:i<a₀.size) (hj:j<a₀.size) (h:Q (some (blt (g (arrOf st) i) (g (arrOf st) j))) st):
  wpS (model prog w) A E s (ltAt' i j) Q st:=by
 rw[ltAt'_eq]
 refine wpS_bind (wpS_get ?_)
 show wpS _ _ _ _ (do let x←elem' (arrOf st) i;let y←elem' (arrOf st) j;lt' x y) Q st
 rw[elem'_eq,elem'_eq,b7 (by rw[B.size];exact hi),b7 (by rw[B.size];exact hj)]
 refine wpS_bind (wpS_pure (wpS_bind (wpS_pure ?_)))
 exact L _ _ st Q (B.mem hi) (B.mem hj) B.kind h
omit L in
theorem yo {α:Type} {m m':StateT SortSt Sem α} {Q:α→SortSt→Prop} {st:SortSt} (e:m=m') (h:wpS (model prog w) A E s m' Q st):wpS (model prog w) A E s m Q st:=by rw[e];exact h
abbrev yc (lo:Nat) (xs ys:Array Keyed):Prop:=∀k,k<lo→g ys k=g xs k
theorem dM {st:SortSt} {i j:Nat} {Q:Unit→SortSt→Prop} (B:Base a₀ κ st) (hj:j≤a₀.size)
  (h:∀st',Base a₀ κ st'→pendingOf st'=pendingOf st→(∀k,g (arrOf st') k=if i≤k∧k<j then g (arrOf st) (i+j-1-k)else g (arrOf st) k)→Q () st'):
  wpS (model prog w) A E s (reverseSlice' i j) Q st:=by
 rw[reverseSlice'_eq]
 refine wpS_modify (h _ ⟨B.kind,B.fine,(mirror_perm _ _ _ _).trans B.perm⟩ rfl λk=>?_)
 exact zu (by rw[B.size];exact hj) k
theorem ym {st:SortSt} {lo a nrem:Nat} {γ:Type} {f:Nat→Option γ×Nat→StateT SortSt Sem (ForInStep (Option γ×Nat))} {Q:Option γ×Nat→SortSt→Prop} (C:Cmp blt) (B:Base a₀ κ st) (ha:1≤a) (han:a≤nrem) (hz:lo+nrem≤a₀.size) (hs:On blt (arrOf st) lo (lo+a))
  (hf:∀(i n:Nat) (R:ForInStep (Option γ×Nat)→SortSt→Prop),n<nrem→1≤n→(blt (g (arrOf st) (lo+n)) (g (arrOf st) (lo+n-1))=true→R (.done (none,n)) st)→(blt (g (arrOf st) (lo+n)) (g (arrOf st) (lo+n-1))=false→R (.yield (none,n+1)) st)→wpS (model prog w) A E s (f i (none,n)) R st)
  (h:∀n,a≤n→n≤nrem→On blt (arrOf st) lo (lo+n)→(n<nrem→blt (g (arrOf st) (lo+n)) (g (arrOf st) (lo+n-1))=true)→Q (none,n) st):
  wpS (model prog w) A E s (forIn [a:nrem] (none,a) f) Q st:=by
 refine wpS_forRange (I:=λi c st'=>st'=st∧c=(none,i)∧a≤i∧i≤nrem∧On blt (arrOf st) lo (lo+i)) ?_ ?_ ⟨rfl,rfl,Q6 _,han,hs⟩
 ·rintro i c st' h1 h2 ⟨rfl,rfl,h3,h4,h5⟩
  refine hf i i _ h2 (by omega) (λe=>?_) (λe=>?_)
  ·exact h i h3 h4 h5 λ_=>e
  ·exact⟨rfl,rfl,by omega,by omega,h5.snoc C (by omega) e⟩
 ·rintro c st' ⟨rfl,rfl,h3,h4,h5⟩
  have e:max a nrem=nrem:=QL han
  rw[e]at h5⊢
  exact h nrem han (Q6 _) h5 λz=>absurd z (Zr _)
omit L in
theorem lP {xs ys:Array Keyed} {lo b e:Nat} (hb:lo≤b) (h:Off blt xs lo e) (o:On blt xs b e) (hy:∀k,g ys k=if b≤k∧k<e then g xs (b+e-1-k)else g xs k):Off blt ys lo e:=λi j h1 h2 h3=>by
 rw[hy i,hy j]
 by_cases jb:b≤j
 ·rw[if_pos ⟨jb,h3⟩]
  by_cases ib:b≤i
  ·rw[if_pos ⟨ib,by omega⟩]
   exact o _ _ (by omega) (by omega) (by omega)
  ·rw[if_neg (by omega)]
   exact h _ _ h1 (by omega) (by omega)
 ·rw[if_neg (by omega),if_neg (by omega)]
  exact h i j h1 h2 h3
omit L in
theorem Df {xs ys:Array Keyed} {lo e:Nat} (h:Off blt xs lo e) (hy:∀k,g ys k=if lo≤k∧k<e then g xs (lo+e-1-k)else g xs k):On blt ys lo e:=λi j h1 h2 h3=>by
 rw[hy i,hy j,if_pos ⟨h1,by omega⟩,if_pos ⟨by omega,h3⟩]
 exact h _ _ (by omega) (by omega) (by omega)
omit L in
theorem Bs {xs ys:Array Keyed} {lo e:Nat} (h:On blt xs lo e) (hy:∀k,g ys k=if lo≤k∧k<e then g xs (lo+e-1-k)else g xs k):Off blt ys lo e:=λi j h1 h2 h3=>by
 rw[hy i,hy j,if_pos (show lo≤j∧j<e by omega),if_pos (show lo≤i∧i<e by omega)]
 exact h _ _ (by omega) (by omega) (by omega)
def zS (lo:Nat):Nat→Option (Option Nat)×Nat→StateT SortSt Sem (ForInStep (Option (Option Nat)×Nat)):=λ_ __s=>do
 let __x←ltAt' (lo+__s.snd) (lo+__s.snd-1)
 match __x with
 |some smaller=>if smaller=true then pure (ForInStep.done (none,__s.snd))else pure (ForInStep.yield (none,__s.snd+1))
 |_=>pure (ForInStep.done (some none,__s.snd))
def qR (lo n nrem:Nat):StateT SortSt Sem (Option Nat):=do
 reverseSlice' lo (lo+n)
 let __s←forIn [n:nrem] (none,n) (zS lo)
 match __s.fst with
 |some r=>pure r
 |none=>pure (some __s.snd)
def wJ (lo:Nat):Nat→Option (Option Nat)×Nat×Nat→StateT SortSt Sem (ForInStep (Option (Option Nat)×Nat×Nat)):=λ_ __s=>do
 let __x←ltAt' (lo+__s.snd.fst) (lo+__s.snd.fst-1)
 match __x with
 |some smaller=>
  if smaller=true then
   if __s.snd.snd>0 then do
    reverseSlice' (lo+__s.snd.fst-(__s.snd.snd+1)) (lo+__s.snd.fst)
    pure (ForInStep.yield (none,__s.snd.fst+1,0))
   else pure (ForInStep.yield (none,__s.snd.fst+1,0))
  else do
   let __x←ltAt' (lo+__s.snd.fst-1) (lo+__s.snd.fst)
   match __x with
   |some larger=>
    if larger=true then pure (ForInStep.done (none,__s.snd.fst,__s.snd.snd))
    else pure (ForInStep.yield (none,__s.snd.fst+1,__s.snd.snd+1))
   |_=>pure (ForInStep.done (some none,__s.snd.fst,__s.snd.snd))
 |_=>pure (ForInStep.done (some none,__s.snd.fst,__s.snd.snd))
def rL (lo n nrem:Nat):StateT SortSt Sem (Option Nat):=do
 liftM (rule "list.sort.descending-run")
 let __s←forIn [n+1:nrem] (none,n+1,0) (wJ lo)
 match __s.fst with
 |some r=>pure r
 |none=>
  if __s.snd.snd>0 then do
   reverseSlice' (lo+__s.snd.fst-(__s.snd.snd+1)) (lo+__s.snd.fst)
   qR lo __s.snd.fst nrem
  else qR lo __s.snd.fst nrem
theorem vY {st:SortSt} {lo nrem i n:Nat} {R:ForInStep (Option (Option Nat)×Nat)→SortSt→Prop} (B:Base a₀ κ st) (hz:lo+nrem≤a₀.size) (hn:n<nrem) (h1:1≤n)
  (ht:blt (g (arrOf st) (lo+n)) (g (arrOf st) (lo+n-1))=true→R (.done (none,n)) st) (hf:blt (g (arrOf st) (lo+n)) (g (arrOf st) (lo+n-1))=false→R (.yield (none,n+1)) st):wpS (model prog w) A E s (zS lo i (none,n)) R st:=by
 unfold zS
 refine wpS_bind (j7 L B (by dsimp only;omega) (by dsimp only;omega) ?_)
 dsimp only
 cases e:blt (g (arrOf st) (lo+n)) (g (arrOf st) (lo+n-1))with
 |true=>exact wpS_pure (ht e)
 |false=>exact wpS_pure (hf e)
theorem j6 {st:SortSt} {lo n nrem:Nat} {Q:Option Nat→SortSt→Prop} (C:Cmp blt) (B:Base a₀ κ st) (h1:1≤n) (hn:n≤nrem) (hz:lo+nrem≤a₀.size) (ho:Off blt (arrOf st) lo (lo+n))
  (h:∀m st',Base a₀ κ st'→pendingOf st'=pendingOf st→1≤m→m≤nrem→On blt (arrOf st') lo (lo+m)→yc lo (arrOf st) (arrOf st')→Q (some m) st'):wpS (model prog w) A E s (qR lo n nrem) Q st:=by
 unfold qR
 refine wpS_bind (dM L B (by omega) λst' B' hp hy=>?_)
 refine wpS_bind (ym L C B' h1 hn hz (Df ho hy) (λi n R hn h1 ht hf=>vY L B' (i:=i) hz hn h1 ht hf) (λm ha hm hs _=>?_))
 exact wpS_pure (h m st' B' hp (by omega) hm hs λk hk=>by rw[hy k,if_neg (by omega)])
theorem tO {st:SortSt} {lo n nrem:Nat} {Q:Option Nat→SortSt→Prop} (C:Cmp blt) (B:Base a₀ κ st) (h1:1≤n) (hn:n+1≤nrem) (hz:lo+nrem≤a₀.size) (ho:Off blt (arrOf st) lo (lo+(n+1)))
  (h:∀m st',Base a₀ κ st'→pendingOf st'=pendingOf st→1≤m→m≤nrem→On blt (arrOf st') lo (lo+m)→yc lo (arrOf st) (arrOf st')→Q (some m) st'):wpS (model prog w) A E s (rL lo n nrem) Q st:=by
 unfold rL
 refine wpS_bind (wpS_lift (wpAny_rule ⟨rfl,?_⟩))
 refine wpS_bind (wpS_forRange (I:=λi c st'=>∃q,c=(none,i,q)∧Base a₀ κ st'∧pendingOf st'=pendingOf st∧yc lo (arrOf st) (arrOf st')∧n+1≤i∧i≤nrem∧q+1≤i∧Off blt (arrOf st') lo (lo+i)∧On blt (arrOf st') (lo+i-(q+1)) (lo+i)) ?_ ?_
  ⟨0,rfl,B,rfl,λ_ _=>rfl,Q6 _,hn,by omega,ho,λi j a b c=>by omega⟩)
 ·rintro i c st' hi1 hi2 ⟨q,rfl,B',hp,hk,h2,h3,h4,off,on⟩
  unfold wJ
  refine wpS_bind (j7 L B' (by dsimp only;omega) (by dsimp only;omega) ?_)
  dsimp only
  cases e:blt (g (arrOf st') (lo+i)) (g (arrOf st') (lo+i-1))with
  |true=>
   by_cases q0:q>0
   ·rw[if_pos rfl,if_pos q0]
    refine wpS_bind (dM L B' (by omega) λst2 B2 hp2 hy=>?_)
    refine wpS_pure ⟨0,rfl,B2,hp2.trans hp,λk hk2=>by rw[hy k,if_neg (by omega)];exact hk k hk2,by omega,by omega,by omega,?_,λi j a b c=>by omega⟩
    refine(lP (by omega) off on hy).snoc C (by omega) ?_
    rw[hy,hy,if_neg (by omega),if_pos (by omega)]
    have z:lo+i-(q+1)+(lo+i)-1-(lo+i-1)=lo+i-(q+1):=by omega
    rw[z]
    exact C.trans (C.of_lt e) (off _ _ (by omega) (by omega) (by omega))
   ·rw[if_pos rfl,if_neg q0]
    exact wpS_pure ⟨0,rfl,B',hp,hk,by omega,by omega,by omega,off.snoc C (by omega) (C.of_lt e),λi j a b c=>by omega⟩
  |false=>
   simp only[QM,if_false]
   refine wpS_bind (j7 L B' (by omega) (by omega) ?_)
   dsimp only
   cases e2:blt (g (arrOf st') (lo+i-1)) (g (arrOf st') (lo+i))with
   |true=>
    simp only[if_true]
    refine wpS_pure ?_
    dsimp only
    by_cases q0:q>0
    ·rw[if_pos q0]
     refine wpS_bind (dM L B' (by omega) λst2 B2 hp2 hy=>?_)
     refine j6 L C B2 (by omega) h3 hz (lP (by omega) off on hy) λm st3 B3 hp3 a b c d=>h m st3 B3 (hp3.trans (hp2.trans hp)) a b c λk hk2=>?_
     rw[d k hk2,hy k,if_neg (by omega)]
     exact hk k hk2
    ·rw[if_neg q0]
     exact j6 L C B' (by omega) h3 hz off λm st3 B3 hp3 a b c d=>h m st3 B3 (hp3.trans hp) a b c λk hk2=>(d k hk2).trans (hk k hk2)
   |false=>
    simp only[QM,if_false]
    refine wpS_pure ⟨q+1,rfl,B',hp,hk,by omega,by omega,by omega,off.snoc C (by omega) e2,?_⟩
    have z:lo+(i+1)-(q+1+1)=lo+i-(q+1):=by omega
    rw[z]
    intro x y hx hy hz'
    by_cases hyi:y<lo+i
    ·exact on x y hx hy hyi
    ·have ey:y=lo+i:=by omega
     subst ey
     by_cases hxi:x=lo+i-1
     ·subst hxi;exact e
     ·exact C.trans (on x (lo+i-1) hx (by omega) (by omega)) e
 ·rintro c st' ⟨q,rfl,B',hp,hk,h2,h3,h4,off,on⟩
  have em:max (n+1) nrem=nrem:=QL hn
  rw[em]at h3 h4 off on⊢
  dsimp only
  by_cases q0:q>0
  ·rw[if_pos q0]
   refine wpS_bind (dM L B' (by omega) λst2 B2 hp2 hy=>?_)
   refine j6 L C B2 (by omega) h3 hz (lP (by omega) off on hy) λm st3 B3 hp3 a b c d=>h m st3 B3 (hp3.trans (hp2.trans hp)) a b c λk hk2=>?_
   rw[d k hk2,hy k,if_neg (by omega)]
   exact hk k hk2
  ·rw[if_neg q0]
   exact j6 L C B' (by omega) h3 hz off λm st3 B3 hp3 a b c d=>h m st3 B3 (hp3.trans hp) a b c λk hk2=>(d k hk2).trans (hk k hk2)
theorem yk {st:SortSt} {lo nrem:Nat} {Q:Option Nat→SortSt→Prop} (C:Cmp blt) (B:Base a₀ κ st) (h1:1≤nrem) (hz:lo+nrem≤a₀.size)
  (h:∀n st',Base a₀ κ st'→pendingOf st'=pendingOf st→1≤n→n≤nrem→On blt (arrOf st') lo (lo+n)→yc lo (arrOf st) (arrOf st')→Q (some n) st'):wpS (model prog w) A E s (countRun' lo nrem) Q st:=by
 rw[countRun'_eq]
 dsimp only
 refine wpS_bind (ym L C B (Q6 1) h1 hz On.one (λi n R hn h1 ht hf=>vY L B (i:=i) hz hn h1 ht hf) (λn ha hn hs hlt=>?_))
 dsimp only
 by_cases en:n=nrem
 ·subst en
  simp only[beq_self_eq_true,if_true]
  exact wpS_pure (h n st B rfl ha hn hs λ_ _=>rfl)
 ·have eb:(n==nrem)=false:=beq_eq_false_iff_ne.mpr en
  simp only[eb,QM,if_false]
  have fall:=hlt (by omega)
  by_cases n1:n>1
  ·rw[if_pos n1]
   refine wpS_bind (j7 L B (by omega) (by omega) ?_)
   dsimp only
   cases e:blt (g (arrOf st) lo) (g (arrOf st) (lo+n-1))with
   |true=>
    simp only[if_true]
    exact wpS_pure (h n st B rfl ha hn hs λ_ _=>rfl)
   |false=>
    simp only[QM,if_false]
    refine wpS_bind (dM L B (by omega) λst2 B2 hp2 hy=>?_)
    have off:Off blt (arrOf st2) lo (lo+(n+1)):=by
     refine(Bs hs hy).snoc C ha ?_
     rw[hy,hy,if_neg (by omega),if_pos (by omega)]
     have z:lo+(lo+n)-1-(lo+n-1)=lo:=by omega
     rw[z]
     exact C.trans (C.of_lt fall) e
    refine yo (m':=rL lo n nrem) (by
      unfold rL qR zS wJ
      congr 1;funext _u;congr 1;funext s2;obtain⟨r2,n2,q2⟩:=s2
      cases r2 with
      |some r2=>rfl
      |none=>
       dsimp only
       split
       ·congr 1;funext _v;congr 1;funext _w;congr 1;funext s3;obtain⟨r3,n3⟩:=s3;cases r3<;>rfl
       ·congr 1;funext _w;congr 1;funext s3;obtain⟨r3,n3⟩:=s3;cases r3<;>rfl) (tO L C B2 ha (by omega) hz off λm st3 B3 hp3 a b c d=>h m st3 B3 (hp3.trans hp2) a b c λk hk=>by rw[d k hk,hy k,if_neg (by omega)])
  ·rw[if_neg n1]
   have e1:n=1:=by omega
   subst e1
   refine yo (m':=rL lo 1 nrem) (by
      unfold rL qR zS wJ
      congr 1;funext _u;congr 1;funext s2;obtain⟨r2,n2,q2⟩:=s2
      cases r2 with
      |some r2=>rfl
      |none=>
       dsimp only
       split
       ·congr 1;funext _v;congr 1;funext _w;congr 1;funext s3;obtain⟨r3,n3⟩:=s3;cases r3<;>rfl
       ·congr 1;funext _w;congr 1;funext s3;obtain⟨r3,n3⟩:=s3;cases r3<;>rfl) (tO L C B ha (by omega) hz (Off.one.snoc C (Q6 1) (C.of_lt fall)) h)
omit L in
theorem vX {st:SortSt} {k l:Nat} {Q:Unit→SortSt→Prop} (B:Base a₀ κ st) (hk:k<a₀.size) (hl:l≤k)
  (h:∀st',Base a₀ κ st'→pendingOf st'=pendingOf st→(∀j,g (arrOf st') j=if j=l then g (arrOf st) k else if l<j∧j≤k then g (arrOf st) (j-1)else g (arrOf st) j)→Q () st'):
  wpS (model prog w) A E s (moveDown' k l) Q st:=by
 rw[moveDown'_eq]
 refine wpS_modify (h _ ⟨B.kind,B.fine,(bubble_perm _ _ _).trans B.perm⟩ rfl λj=>?_)
 have e:=zw (xs:=arrOf st) (src:=k) (d:=k-l) (by rw[B.size];exact hk) (by omega) j
 have z:k-(k-l)=l:=by omega
 rw[z]at e
 exact e
theorem w5 {st:SortSt} {lo n ok:Nat} {Q:Bool→SortSt→Prop} (C:Cmp blt) (B:Base a₀ κ st) (h1:1≤ok) (hok:ok≤n) (hz:lo+n≤a₀.size) (hs:On blt (arrOf st) lo (lo+ok))
  (h:∀st',Base a₀ κ st'→pendingOf st'=pendingOf st→On blt (arrOf st') lo (lo+n)→yc lo (arrOf st) (arrOf st')→Q true st'):wpS (model prog w) A E s (binarySort' lo n ok) Q st:=by
 rw[binarySort'_eq]
 dsimp only
 have em:max ok 1=ok:=Nat.max_eq_left h1
 rw[em]
 refine wpS_bind (wpS_forRange (I:=λi c st'=>c=(none,())∧Base a₀ κ st'∧pendingOf st'=pendingOf st∧yc lo (arrOf st) (arrOf st')∧ok≤i∧i≤n∧On blt (arrOf st') lo (lo+i)) ?_ ?_
  ⟨rfl,B,rfl,λ_ _=>rfl,Q6 _,hok,hs⟩)
 ·rintro k c st' hk1 hk2 ⟨rfl,B',hp,hk,h2,h3,on⟩
  refine wpS_bind (wpS_forRange (I:=λi c st2=>st2=st'∧∃l r,c=(none,l,r)∧l≤r∧r≤k∧r-l≤k-i∧(∀j,j<l→le blt (g (arrOf st') (lo+j)) (g (arrOf st') (lo+k)))∧(∀j,r≤j→j<k→le blt (g (arrOf st') (lo+k)) (g (arrOf st') (lo+j)))) ?_ ?_
   ⟨rfl,0,k,rfl,Qh _,Q6 _,Q6 _,λj hj=>absurd hj (Xj _),λj a b=>by omega⟩)
  ·rintro i c st2 hi1 hi2 ⟨rfl,l,r,rfl,hlr,hrk,hm,below,above⟩
   dsimp only
   by_cases hge:l≥r
   ·rw[if_pos hge]
    refine wpS_pure ?_
    dsimp only
    have elr:l=r:=by omega
    refine wpS_bind (vX B' (by omega) (by omega) λst3 B3 hp3 hy=>wpS_pure ⟨rfl,B3,hp3.trans hp,λq hq=>?_,by omega,by omega,?_⟩)
    ·rw[hy q,if_neg (by omega),if_neg (by omega)];exact hk q hq
    ·intro a b ha hab hb
     rw[hy a,hy b]
     by_cases b1:b=lo+l
     ·rw[if_pos b1,if_neg (by omega),if_neg (by omega)]
      have:=below (a-lo) (by omega)
      rwa [show lo+(a-lo)=a by omega]at this
     ·rw[if_neg b1]
      by_cases b2:lo+l<b∧b≤lo+k
      ·rw[if_pos b2]
       by_cases a1:a=lo+l
       ·rw[if_pos a1]
        have:=above (b-1-lo) (by omega) (by omega)
        rwa [show lo+(b-1-lo)=b-1 by omega]at this
       ·rw[if_neg a1]
        by_cases a2:lo+l<a∧a≤lo+k
        ·rw[if_pos a2];exact on _ _ (by omega) (by omega) (by omega)
        ·rw[if_neg a2];exact on _ _ (by omega) (by omega) (by omega)
      ·rw[if_neg b2,if_neg (by omega),if_neg (by omega)]
       exact on _ _ ha hab (by omega)
   ·rw[if_neg hge]
    refine wpS_bind (j7 L B' (by omega) (by omega) ?_)
    dsimp only
    cases e:blt (g (arrOf st2) (lo+k)) (g (arrOf st2) (lo+(l+r)/2))with
    |true=>
     rw[if_pos rfl]
     refine wpS_pure ⟨rfl,l,(l+r)/2,rfl,by omega,by omega,by omega,below,λj a b=>?_⟩
     by_cases ej:j=(l+r)/2
     ·subst ej;exact C.of_lt e
     ·exact C.trans (C.of_lt e) (on _ _ (by omega) (by omega) (by omega))
    |false=>
     rw[if_neg (by decide)]
     refine wpS_pure ⟨rfl,(l+r)/2+1,r,rfl,by omega,by omega,by omega,λj a=>?_,above⟩
     by_cases ej:j=(l+r)/2
     ·subst ej;exact e
     ·exact C.trans (on _ _ (by omega) (by omega) (by omega)) e
  ·rintro c st2 ⟨rfl,l,r,rfl,hlr,hrk,hm,below,above⟩
   have ek:max 0 k=k:=QL (Qh _)
   rw[ek]at hm
   have elr:l=r:=by omega
   dsimp only
   refine wpS_bind (vX B' (by omega) (by omega) λst3 B3 hp3 hy=>wpS_pure ⟨rfl,B3,hp3.trans hp,λq hq=>?_,by omega,by omega,?_⟩)
   ·rw[hy q,if_neg (by omega),if_neg (by omega)];exact hk q hq
   ·intro a b ha hab hb
    rw[hy a,hy b]
    by_cases b1:b=lo+l
    ·rw[if_pos b1,if_neg (by omega),if_neg (by omega)]
     have:=below (a-lo) (by omega)
     rwa [show lo+(a-lo)=a by omega]at this
    ·rw[if_neg b1]
     by_cases b2:lo+l<b∧b≤lo+k
     ·rw[if_pos b2]
      by_cases a1:a=lo+l
      ·rw[if_pos a1]
       have:=above (b-1-lo) (by omega) (by omega)
       rwa [show lo+(b-1-lo)=b-1 by omega]at this
      ·rw[if_neg a1]
       by_cases a2:lo+l<a∧a≤lo+k
       ·rw[if_pos a2];exact on _ _ (by omega) (by omega) (by omega)
       ·rw[if_neg a2];exact on _ _ (by omega) (by omega) (by omega)
     ·rw[if_neg b2,if_neg (by omega),if_neg (by omega)]
      exact on _ _ ha hab (by omega)
 ·rintro c st' ⟨rfl,B',hp,hk,h2,h3,on⟩
  have e:max ok n=n:=QL hok
  rw[e]at on
  exact wpS_pure (h st' B' hp on hk)
def BH:Bool→Keyed→Array Keyed→Nat→Nat→Nat→StateT SortSt Sem (Option Nat):=sortPriv%PySem.Builtin.gallop
omit L in
theorem qN {γ:Type} {st:SortSt} {n lo hi:Nat} {f:Nat→Option γ×Nat×Nat→StateT SortSt Sem (ForInStep (Option γ×Nat×Nat))} {Q:Option γ×Nat×Nat→SortSt→Prop} (be:Nat→Bool) (mono:∀i j,i≤j→j<n→be j=true→be i=true)
  (hf:∀(i lo hi:Nat) (R:ForInStep (Option γ×Nat×Nat)→SortSt→Prop),hi≤n→(lo≥hi→R (.done (none,lo,hi)) st)→(lo<hi→be (lo+(hi-lo)/2)=true→R (.yield (none,lo+(hi-lo)/2+1,hi)) st)→(lo<hi→be (lo+(hi-lo)/2)=false→R (.yield (none,lo,lo+(hi-lo)/2)) st)→wpS (model prog w) A E s (f i (none,lo,hi)) R st)
  (h1:lo≤hi) (h2:hi≤n) (ht:∀i,i<lo→be i=true) (hF:∀i,hi≤i→i<n→be i=false)
  (h:∀k,k≤n→(∀i,i<k→be i=true)→(∀i,k≤i→i<n→be i=false)→Q (none,k,k) st):wpS (model prog w) A E s (forIn [0:n] (none,lo,hi) f) Q st:=by
 refine wpS_forRange (I:=λi c st'=>st'=st∧∃lo hi,c=(none,lo,hi)∧lo≤hi∧hi≤n∧hi-lo≤n-i∧(∀i,i<lo→be i=true)∧(∀i,hi≤i→i<n→be i=false)) ?_ ?_
  ⟨rfl,lo,hi,rfl,h1,h2,by omega,ht,hF⟩
 ·rintro i c st' hi1 hi2 ⟨rfl,lo,hi,rfl,g1,g2,g3,g4,g5⟩
  refine hf i lo hi _ g2 (λz=>?_) (λz e=>?_) (λz e=>?_)
  ·have e:lo=hi:=by omega
   subst e
   exact h lo g2 g4 g5
  ·exact⟨rfl,_,_,rfl,by omega,g2,by omega,λj hj=>mono j _ (by omega) (by omega) e,g5⟩
  ·refine⟨rfl,_,_,rfl,by omega,by omega,by omega,g4,λj a b=>?_⟩
   cases q:be j with
   |false=>rfl
   |true=>rw[mono _ j a b q]at e;cases e
 ·rintro c st' ⟨rfl,lo,hi,rfl,g1,g2,g3,g4,g5⟩
  have em:max 0 n=n:=QL (Qh _)
  rw[em]at g3
  have e:lo=hi:=by omega
  subst e
  exact h lo g2 g4 g5
theorem dI {left:Bool} {key:Keyed} {arr:Array Keyed} {base n hint:Nat} {st:SortSt} {Q:Option Nat→SortSt→Prop} (hK:kindOf st=κ) (hk:key∈a₀) (ha:∀i,i<n→base+i<arr.size∧g arr (base+i)∈a₀) (hh:hint<n)
  (be:Nat→Bool) (hbe:∀i,i<n→be i=if left=true then blt (g arr (base+i)) key else !blt key (g arr (base+i))) (mono:∀i j,i≤j→j<n→be j=true→be i=true)
  (h:∀k,k≤n→(∀i,i<k→be i=true)→(∀i,k≤i→i<n→be i=false)→Q (some k) st):wpS (model prog w) A E s (BH left key arr base n hint) Q st:=by
 have bey:∀(i:Nat) (R:Option Bool→SortSt→Prop),i<n→R (some (be i)) st→wpS (model prog w) A E s (elem' arr (base+i)>>=λx=>if left=true then lt' x key else lt' key x>>=λr=>pure (r.map λx=>!x)) R st:=by
  intro i R hi q
  obtain⟨h1,h2⟩:=ha i hi
  rw[elem'_eq,b7 h1]
  refine wpS_bind (wpS_pure ?_)
  have e:=hbe i hi
  cases left with
  |true=>
   rw[if_pos rfl]at e⊢
   exact L _ _ st R h2 hk hK (by rw[←e];exact q)
  |false=>
   rw[if_neg (by decide)]at e⊢
   refine wpS_bind (L _ _ st _ hk h2 hK (wpS_pure ?_))
   show R (some (!blt key (g arr (base+i)))) st
   rw[←e];exact q
 refine wpS_bind ?_
 dsimp only
 refine bey hint _ hh ?_
 dsimp only
 cases e0:be hint with
 |true=>
  rw[if_pos rfl]
  refine wpS_bind (wpS_mono (wpS_forRange (I:=λi c st'=>st'=st∧∃la ofs,c=(none,la,ofs)∧la<ofs∧i+1≤ofs∧hint+la<n∧be (hint+la)=true)
   (Q:=λc st'=>st'=st∧∃la ofs,c=(none,la,ofs)∧la<ofs∧hint+la<n∧be (hint+la)=true∧(n-hint≤ofs∨(hint+ofs<n∧be (hint+ofs)=false))) ?_ ?_ ⟨rfl,0,1,rfl,by omega,by omega,by omega,e0⟩) ?_)
  ·rintro i c st' hi1 hi2 ⟨rfl,la,ofs,rfl,a1,a2,a3,a4⟩
   dsimp only
   by_cases z:ofs≥n-hint
   ·rw[if_pos z]
    exact wpS_pure ⟨rfl,la,ofs,rfl,a1,a3,a4,.inl z⟩
   ·rw[if_neg z]
    refine wpS_bind (bey (hint+ofs) _ (by omega) ?_)
    dsimp only
    cases e:be (hint+ofs)with
    |false=>
     rw[if_pos (by decide)]
     exact wpS_pure ⟨rfl,la,ofs,rfl,a1,a3,a4,.inr ⟨by omega,e⟩⟩
    |true=>
     rw[if_neg (by decide)]
     exact wpS_pure ⟨rfl,ofs,2*ofs+1,rfl,by omega,by omega,by omega,e⟩
  ·rintro c st' ⟨rfl,la,ofs,rfl,a1,a2,a3,a4⟩
   have em:max 0 n=n:=QL (Qh _)
   rw[em]at a2
   exact⟨rfl,la,ofs,rfl,a1,a3,a4,.inl (by omega)⟩
  ·rintro c st' ⟨rfl,la,ofs,rfl,a1,a3,a4,a5⟩
   dsimp only
   refine wpS_bind (qN be mono (λi lo hi R hn c1 c2 c3=>?_) (by omega) (by omega) (λi hi=>mono i (hint+la) (by omega) a3 a4) (λi h1 h2=>?_) λk h1 h2 h3=>?_)
   ·dsimp only
    by_cases z:lo≥hi
    ·rw[if_pos z];exact wpS_pure (c1 z)
    ·rw[if_neg z]
     refine wpS_bind (bey _ _ (by omega) ?_)
     dsimp only
     cases e:be (lo+(hi-lo)/2)with
     |true=>rw[if_pos rfl];exact wpS_pure (c2 (by omega) e)
     |false=>rw[if_neg (by decide)];exact wpS_pure (c3 (by omega) e)
   ·rcases a5 with z|⟨z1,z2⟩
    ·omega
    ·cases q:be i with
     |false=>rfl
     |true=>rw[mono (hint+ofs) i (by omega) h2 q]at z2;cases z2
   ·exact wpS_pure (h k h1 h2 h3)
 |false=>
  rw[if_neg (by decide)]
  refine wpS_bind (wpS_mono (wpS_forRange (I:=λi c st'=>st'=st∧∃la ofs,c=(none,la,ofs)∧la<ofs∧i+1≤ofs∧la≤hint∧be (hint-la)=false)
   (Q:=λc st'=>st'=st∧∃la ofs,c=(none,la,ofs)∧la<ofs∧la≤hint∧be (hint-la)=false∧(hint+1≤ofs∨(ofs≤hint∧be (hint-ofs)=true))) ?_ ?_ ⟨rfl,0,1,rfl,by omega,by omega,by omega,e0⟩) ?_)
  ·rintro i c st' hi1 hi2 ⟨rfl,la,ofs,rfl,a1,a2,a3,a4⟩
   dsimp only
   by_cases z:ofs≥hint+1
   ·rw[if_pos z]
    exact wpS_pure ⟨rfl,la,ofs,rfl,a1,a3,a4,.inl z⟩
   ·rw[if_neg z]
    refine wpS_bind (bey (hint-ofs) _ (by omega) ?_)
    dsimp only
    cases e:be (hint-ofs)with
    |true=>
     rw[if_pos rfl]
     exact wpS_pure ⟨rfl,la,ofs,rfl,a1,a3,a4,.inr ⟨by omega,e⟩⟩
    |false=>
     rw[if_neg (by decide)]
     exact wpS_pure ⟨rfl,ofs,2*ofs+1,rfl,by omega,by omega,by omega,e⟩
  ·rintro c st' ⟨rfl,la,ofs,rfl,a1,a2,a3,a4⟩
   have em:max 0 n=n:=QL (Qh _)
   rw[em]at a2
   exact⟨rfl,la,ofs,rfl,a1,a3,a4,.inl (by omega)⟩
  ·rintro c st' ⟨rfl,la,ofs,rfl,a1,a3,a4,a5⟩
   dsimp only
   refine wpS_bind (qN be mono (λi lo hi R hn c1 c2 c3=>?_) (by omega) (by omega) (λi hi=>?_) (λi h1 h2=>?_) λk h1 h2 h3=>?_)
   ·dsimp only
    by_cases z:lo≥hi
    ·rw[if_pos z];exact wpS_pure (c1 z)
    ·rw[if_neg z]
     refine wpS_bind (bey _ _ (by omega) ?_)
     dsimp only
     cases e:be (lo+(hi-lo)/2)with
     |true=>rw[if_pos rfl];exact wpS_pure (c2 (by omega) e)
     |false=>rw[if_neg (by decide)];exact wpS_pure (c3 (by omega) e)
   ·rcases a5 with z|⟨z1,z2⟩
    ·omega
    ·exact mono i (hint-ofs) (by omega) (by omega) z2
   ·cases q:be i with
    |false=>rfl
    |true=>rw[mono (hint-la) i (by omega) h2 q]at a4;cases a4
   ·exact wpS_pure (h k h1 h2 h3)
end
end Srt
namespace Srt
open PySem PyProof.Rows
def za:Array Keyed→Array Keyed→StateT SortSt Sem (Array Keyed):=sortPriv%PySem.Builtin.mergeLo
def zb:Array Keyed→Array Keyed→StateT SortSt Sem (Array Keyed):=sortPriv%PySem.Builtin.mergeHi
section
variable {blt:Keyed→Keyed→Bool}
abbrev PW (blt:Keyed→Keyed→Bool) (l:List Keyed):Prop:=l.Pairwise (le blt)
structure Lo (blt:Keyed→Keyed→Bool) (all o ra rb:List Keyed):Prop where
 perm:(o++(ra++rb)).Perm all
 srt:PW blt o
 low:∀x∈o,∀y∈ra++rb,le blt x y
theorem Lo.a {all o ca ra rb:List Keyed} (h:Lo blt all o (ca++ra) rb) (hs:PW blt (ca++ra)) (hc:∀x∈ca,∀y∈rb,le blt x y):Lo blt all (o++ca) ra rb where
 perm:=by
  refine List.Perm.trans ?_ h.perm
  rw[Qo,Qo]
 srt:=Qj.mpr ⟨h.srt,(Qj.mp hs).1,λx hx y hy=>h.low x hx y (by simp[hy])⟩
 low:=λx hx y hy=>by
  rcases Q7.mp hx with q|q
  ·exact h.low x q y (by rcases Q7.mp hy with z|z<;>simp[z])
  ·rcases Q7.mp hy with z|z
   ·exact(Qj.mp hs).2.2 x q y z
   ·exact hc x q y z
theorem Lo.b {all o ra cb rb:List Keyed} (h:Lo blt all o ra (cb++rb)) (hs:PW blt (cb++rb)) (hc:∀x∈cb,∀y∈ra,le blt x y):Lo blt all (o++cb) ra rb where
 perm:=by
  refine List.Perm.trans ?_ h.perm
  rw[Qo]
  refine List.Perm.append_left o ?_
  rw[←Qo,←Qo]
  exact List.Perm.append_right rb ZU
 srt:=Qj.mpr ⟨h.srt,(Qj.mp hs).1,λx hx y hy=>h.low x hx y (by simp[hy])⟩
 low:=λx hx y hy=>by
  rcases Q7.mp hx with q|q
  ·exact h.low x q y (by rcases Q7.mp hy with z|z<;>simp[z])
  ·rcases Q7.mp hy with z|z
   ·exact hc x q y z
   ·exact(Qj.mp hs).2.2 x q y z
theorem Lo.endA {all o ra:List Keyed} (h:Lo blt all o ra []) (hs:PW blt ra):(o++ra).Perm all∧PW blt (o++ra):=
 ⟨by simpa using h.perm,Qj.mpr ⟨h.srt,hs,λx hx y hy=>h.low x hx y (by simp[hy])⟩⟩
theorem Lo.endB {all o rb:List Keyed} {z:Keyed} (h:Lo blt all o [z] rb) (hs:PW blt rb) (hz:∀x∈rb,le blt x z):(o++(rb++ [z])).Perm all∧PW blt (o++(rb++ [z])):=by
 refine⟨List.Perm.trans (List.Perm.append_left o ZU) h.perm,Qj.mpr ⟨h.srt,Qj.mpr ⟨hs,Z1 _ _,λx hx y hy=>?_⟩,λx hx y hy=>h.low x hx y ?_⟩⟩
 ·rw[Qd.mp hy];exact hz x hx
 ·rcases Q7.mp hy with q|q<;>simp_all
theorem pG {a:Array Keyed} {i:Nat} (h:i<a.size):a.toList.drop i=g a i::a.toList.drop (i+1):=by
 have e:=b7 h
 rw[←QB]at e
 obtain⟨h1,h2⟩:=Q4.mp e
 rw[Zm h1,h2]
theorem gN {a:Array Keyed} {i:Nat} {x:Keyed} (h:x∈a.toList.drop i):∃j,i≤j∧j<a.size∧x=g a j:=by
 obtain⟨k,hk,e⟩:=ZC.mp h
 rw[QI]at hk
 have hs:i+k<a.size:=by rw[←Q9];omega
 refine⟨i+k,by omega,hs,?_⟩
 have e2:=b7 hs
 rw[←QB]at e2
 rw[ZA]at e
 rw[Q5 (by rw[Q9];exact hs)]at e2
 rw[←e]
 exact Option.some.inj e2
theorem dU {a:Array Keyed} (h:On blt a 0 a.size) (i:Nat):PW blt (a.toList.drop i):=by
 refine Z5.mpr λj k hj hk hjk=>?_
 rw[QI,Q9]at hj hk
 have e1:=b7 (xs:=a) (i:=i+j) (by omega)
 have e2:=b7 (xs:=a) (i:=i+k) (by omega)
 rw[←QB,Q5 (by rw[Q9];omega)]at e1 e2
 rw[ZA,ZA,Option.some.inj e1,Option.some.inj e2]
 exact h _ _ (Qh _) (by omega) (by omega)
theorem yX {a:Array Keyed} (h:PW blt a.toList):On blt a 0 a.size:=λi j _ hij hj=>by
 have e1:=b7 (xs:=a) (i:=i) (by omega)
 have e2:=b7 (xs:=a) (i:=j) hj
 rw[←QB,Q5 (by rw[Q9];omega)]at e1 e2
 rw[←Option.some.inj e1,←Option.some.inj e2]
 exact Z5.mp h i j _ _ hij
theorem kO (a:Array Keyed) (i k:Nat):(a.extract i (i+k)).toList=(a.toList.drop i).take k:=by
 rw[Z9,QV]
 congr 1
 omega
theorem dJ (a:Array Keyed) (i:Nat):(a.extract i).toList=a.toList.drop i:=by
 rw[Z9,QV,QN]
 rw[QI,Q9]
 exact Q6 _
theorem uD (l:List Keyed) (i k:Nat):l.drop i=(l.drop i).take k++l.drop (i+k):=by
 rw[←K4,QJ]
end
structure Like (st st':SortSt):Prop where
 kind:kindOf st'=kindOf st
 arr:arrOf st'=arrOf st
 pend:pendingOf st'=pendingOf st
 fail:failedOf st'=failedOf st
theorem Like.refl (st:SortSt):Like st st:=⟨rfl,rfl,rfl,rfl⟩
section
variable {prog:Program} {w:World} {A:Around} {E:Value→Shared→Prop} {s:Shared} {a₀:Array Keyed} {κ:SortKind} {blt:Keyed→Keyed→Bool}
theorem bn {arr:Array Keyed} {i:Nat} {st:SortSt} {R:Keyed→SortSt→Prop} (h:i<arr.size) (q:R (g arr i) st):wpS (model prog w) A E s (elem' arr i) R st:=by
 rw[elem'_eq,b7 h]
 exact wpS_pure q
def vf:Nat→StateT SortSt Sem Unit:=sortPriv%PySem.Builtin.setMinGallop
theorem yj {m:Nat} {st:SortSt} {Q:Unit→SortSt→Prop} (h:∀st',Like st st'→Q () st'):wpS (model prog w) A E s (vf m) Q st:=wpS_modify (h _ ⟨rfl,rfl,rfl,rfl⟩)
variable (L:qM prog w A E s a₀ κ blt)
include L
theorem uV {a b:Array Keyed} {st:SortSt} {Q:Array Keyed→SortSt→Prop} (C:Cmp blt) (hK:kindOf st=κ) (hm:∀x,x∈a.toList++b.toList→x∈a₀) (oa:On blt a 0 a.size) (ob:On blt b 0 b.size) (ha:0<a.size) (hb:0<b.size)
  (hfirst:blt (g b 0) (g a 0)=true) (hlast:∀j,j<b.size→blt (g b j) (g a (a.size-1))=true)
  (h:∀res st',Like st st'→res.toList.Perm (a.toList++b.toList)→PW blt res.toList→Q res st'):wpS (model prog w) A E s (za a b) Q st:=by
 have ma:∀i,i<a.size→g a i∈a₀:=λi hi=>hm _ (by have:=rC hi;simp[this])
 have mb:∀i,i<b.size→g b i∈a₀:=λi hi=>hm _ (by have:=rC hi;simp[this])
 have doneA:∀(o:List Keyed) (ia:Nat) (st':SortSt) (res:Array Keyed),Like st st'→Lo blt (a.toList++b.toList) o (a.toList.drop ia) []→res.toList=o++a.toList.drop ia→Q res st':=λo ia st' res lk lo e=>by
  obtain⟨p1,p2⟩:=lo.endA (dU oa ia)
  exact h res st' lk (by rw[e];exact p1) (by rw[e];exact p2)
 have doneB:∀(o:List Keyed) (ib:Nat) (st':SortSt) (res:Array Keyed),Like st st'→Lo blt (a.toList++b.toList) o (a.toList.drop (a.size-1)) (b.toList.drop ib)→res.toList=o++(b.toList.drop ib++a.toList.drop (a.size-1))→Q res st':=λo ib st' res lk lo e=>by
  have ez:a.toList.drop (a.size-1)=[g a (a.size-1)]:=by
   rw[pG (by omega),Zf (by rw[Q9];omega)]
  rw[ez]at lo e
  obtain⟨p1,p2⟩:=lo.endB (dU ob ib) (λx hx=>by
   obtain⟨j,_,hj,rfl⟩:=gN hx
   exact C.of_lt (hlast j hj))
  exact h res st' lk (by rw[e];exact p1) (by rw[e];exact p2)
 have chunkA:∀(out:Array Keyed) (ia ib k:Nat),ia+k≤a.size→ib<b.size→Lo blt (a.toList++b.toList) out.toList (a.toList.drop ia) (b.toList.drop ib)→(∀i,i<k→blt (g b ib) (g a (ia+i))=false)→
   Lo blt (a.toList++b.toList) (out++a.extract ia (ia+k)).toList (a.toList.drop (ia+k)) (b.toList.drop ib):=λout ia ib k h1 h2 lo hk=>by
  rw[QH,kO]
  have pa:=dU oa ia
  rw[uD a.toList ia k]at lo pa
  refine lo.a pa λx hx y hy=>?_
  obtain⟨i,hi,e⟩:=ZC.mp hx
  rw[Qm,QI,Q9]at hi
  have ex:x=g a (ia+i):=by
   have e2:=b7 (xs:=a) (i:=ia+i) (by omega)
   rw[←QB,Q5 (by rw[Q9];omega)]at e2
   rw[ZT,ZA]at e
   rw[←e];exact Option.some.inj e2
  obtain⟨j,hj1,hj2,rfl⟩:=gN hy
  have l1:le blt x (g b ib):=by rw[ex];exact hk i (by omega)
  by_cases ej:j=ib
  ·rw[ej];exact l1
  ·exact C.trans l1 (ob ib j (Qh _) (by omega) hj2)
 have chunkB:∀(out:Array Keyed) (ia ib k:Nat),ib+k≤b.size→ia<a.size→Lo blt (a.toList++b.toList) out.toList (a.toList.drop ia) (b.toList.drop ib)→(∀i,i<k→blt (g b (ib+i)) (g a ia)=true)→
   Lo blt (a.toList++b.toList) (out++b.extract ib (ib+k)).toList (a.toList.drop ia) (b.toList.drop (ib+k)):=λout ia ib k h1 h2 lo hk=>by
  rw[QH,kO]
  have pb:=dU ob ib
  rw[uD b.toList ib k]at lo pb
  refine lo.b pb λx hx y hy=>?_
  obtain⟨i,hi,e⟩:=ZC.mp hx
  rw[Qm,QI,Q9]at hi
  have ex:x=g b (ib+i):=by
   have e2:=b7 (xs:=b) (i:=ib+i) (by omega)
   rw[←QB,Q5 (by rw[Q9];omega)]at e2
   rw[ZT,ZA]at e
   rw[←e];exact Option.some.inj e2
  obtain⟨j,hj1,hj2,rfl⟩:=gN hy
  have l1:le blt x (g a ia):=by rw[ex];exact C.of_lt (hk i (by omega))
  by_cases ej:j=ia
  ·rw[ej];exact l1
  ·exact C.trans l1 (oa ia j (Qh _) (by omega) hj2)
 have one:∀(x:Array Keyed) (i:Nat),i<x.size→(x.extract i (i+1))= #[g x i]:=λx i hi=>by
  apply Array.ext'
  rw[kO,pG hi]
  rfl
 have stepB:∀(out:Array Keyed) (ia ib:Nat),ia<a.size→ib<b.size→Lo blt (a.toList++b.toList) out.toList (a.toList.drop ia) (b.toList.drop ib)→blt (g b ib) (g a ia)=true→
   Lo blt (a.toList++b.toList) (out.push (g b ib)).toList (a.toList.drop ia) (b.toList.drop (ib+1)):=λout ia ib h1 h2 lo hk=>by
  have:=chunkB out ia ib 1 (by omega) h1 lo λi hi=>by rw[show ib+i=ib by omega];exact hk
  rwa [one b ib h2,←ZZ]at this
 have stepA:∀(out:Array Keyed) (ia ib:Nat),ia<a.size→ib<b.size→Lo blt (a.toList++b.toList) out.toList (a.toList.drop ia) (b.toList.drop ib)→blt (g b ib) (g a ia)=false→
   Lo blt (a.toList++b.toList) (out.push (g a ia)).toList (a.toList.drop (ia+1)) (b.toList.drop ib):=λout ia ib h1 h2 lo hk=>by
  have:=chunkA out ia ib 1 (by omega) h2 lo λi hi=>by rw[show ia+i=ia by omega];exact hk
  rwa [one a ia h1,←ZZ]at this
 have endA:∀(out:Array Keyed) (ia ib:Nat) (st':SortSt),Like st st'→b.size≤ib→Lo blt (a.toList++b.toList) out.toList (a.toList.drop ia) (b.toList.drop ib)→Q (out++a.extract ia++b.extract ib) st':=λout ia ib st' lk hb lo=>by
  have en:b.toList.drop ib=[]:=Zf (by rw[Q9];omega)
  rw[en]at lo
  refine doneA _ ia st' _ lk lo ?_
  rw[QH,QH,dJ,dJ,en,Xg]
 have endB:∀(out:Array Keyed) (ia ib:Nat) (st':SortSt),Like st st'→ia+1=a.size→Lo blt (a.toList++b.toList) out.toList (a.toList.drop ia) (b.toList.drop ib)→Q (out++b.extract ib++a.extract ia) st':=λout ia ib st' lk ha lo=>by
  have en:ia=a.size-1:=by omega
  refine doneB out.toList ib st' _ lk (by rw[←en];exact lo) ?_
  rw[QH,QH,dJ,dJ,←en,Qo]
 have monoA:∀(ka:Nat) (x:Keyed) (i j:Nat),i≤j→ka+j<a.size→(!blt x (g a (ka+j)))=true→(!blt x (g a (ka+i)))=true:=λka x i j h1 h2 h3=>by
  have h3:blt x (g a (ka+j))=false:=by simpa using h3
  by_cases e:i=j
  ·subst e;simpa using h3
  ·have:=C.trans (oa (ka+i) (ka+j) (Qh _) (by omega) h2) h3
   simpa using this
 have monoB:∀(kb:Nat) (x:Keyed) (i j:Nat),i≤j→kb+j<b.size→blt (g b (kb+j)) x=true→blt (g b (kb+i)) x=true:=λkb x i j h1 h2 h3=>by
  by_cases e:i=j
  ·subst e;exact h3
  ·have q:=ob (kb+i) (kb+j) (Qh _) (by omega) h2
   cases z:blt (g b (kb+i)) x with
   |true=>rfl
   |false=>
    have f:blt (g b (kb+j)) x=false:=C.trans z q
    rw[h3]at f
    cases f
 refine wpS_bind ?_
 dsimp only
 refine wpS_lift (wpAny_rule ⟨rfl,?_⟩)
 refine wpS_bind (bn hb ?_)
 have start:Lo blt (a.toList++b.toList) [g b 0] (a.toList.drop 0) (b.toList.drop 1):=by
  have l0:Lo blt (a.toList++b.toList) [] (a.toList.drop 0) ([g b 0]++b.toList.drop 1):=by
   refine⟨?_,List.Pairwise.nil,λx hx=>absurd hx QU⟩
   have e:=pG hb
   rw[ZD]at e
   rw[ZD,List.nil_append,List.singleton_append,←e]
  have:=l0.b (by have:=dU ob 0;rw[pG hb]at this;exact this) (λx hx y hy=>by
   rw[Qd.mp hx]
   obtain⟨j,_,hj,rfl⟩:=gN hy
   by_cases j0:j=0
   ·rw[j0];exact C.of_lt hfirst
   ·exact C.trans (C.of_lt hfirst) (oa 0 j (Q6 _) (by omega) hj))
  simpa using this
 by_cases b1:1=b.size
 ·have eb:(1==b.size)=true:=beq_iff_eq.mpr b1
  rw[if_pos eb]
  refine wpS_pure ?_
  have en:b.toList.drop 1=[]:=Zf (by rw[Q9];omega)
  rw[en]at start
  refine doneA _ 0 st _ (Like.refl _) start ?_
  simp[b1]
 ·have eb:¬(1==b.size)=true:=by simpa using b1
  rw[if_neg eb]
  by_cases a1:0+1=a.size
  ·have ea:(0+1==a.size)=true:=beq_iff_eq.mpr a1
   rw[if_pos ea]
   refine wpS_pure ?_
   have e0:a.size-1=0:=by omega
   refine doneB [g b 0] 1 st _ (Like.refl _) (by rw[e0];exact start) ?_
   rw[e0,QH,QH,dJ,dJ,Qo]
  ·have ea:¬(0+1==a.size)=true:=by simpa using a1
   rw[if_neg ea]
   refine wpS_bind (wpS_get ?_)
   refine wpS_bind (wpS_mono (wpS_forRange (I:=λi c st'=>Like st st'∧∃out ia ib mg,c=(none,out,ia,ib,mg)∧ia+1<a.size∧ib<b.size∧i≤ia+ib∧Lo blt (a.toList++b.toList) out.toList (a.toList.drop ia) (b.toList.drop ib))
    (Q:=λc st'=>∃res,c.1=some res∧Q res st') ?_ ?_ ⟨Like.refl _, #[g b 0],0,1,_,rfl,by omega,by omega,by omega,start⟩) ?_)
   ·rintro i c st' hi1 hi2 ⟨lk,out,ia,ib,mg,rfl,ha1,hb1,hi,lo⟩
    have hK':kindOf st'=κ:=lk.kind.trans hK
    refine wpS_bind (wpS_mono (wpS_forRange (I:=λj c st2=>st2=st'∧∃out ja jb p q,c=(none,out,ja,jb,p,q)∧ja+1<a.size∧jb<b.size∧ia+ib≤ja+jb∧Lo blt (a.toList++b.toList) out.toList (a.toList.drop ja) (b.toList.drop jb))
     (Q:=λc st2=>st2=st'∧((∃res,c.1=some res∧Q res st')∨∃out ja jb p q,c=(none,out,ja,jb,p,q)∧ja+1<a.size∧jb<b.size∧ia+ib≤ja+jb∧Lo blt (a.toList++b.toList) out.toList (a.toList.drop ja) (b.toList.drop jb))) ?_ ?_
     ⟨rfl,out,ia,ib,0,0,rfl,ha1,hb1,Q6 _,lo⟩) ?_)
    ·rintro j c st2 hj1 hj2 ⟨rfl,out,ja,jb,p,q,rfl,hja,hjb,hij,lo⟩
     dsimp only
     refine wpS_bind (bn hjb (wpS_bind (bn (by omega) (wpS_bind (L _ _ _ _ (mb jb hjb) (ma ja (by omega)) hK' ?_)))))
     dsimp only
     cases e:blt (g b jb) (g a ja)with
     |true=>
      rw[if_pos rfl]
      have lo':=stepB out ja jb (by omega) hjb lo e
      refine wpS_bind (bn hjb ?_)
      by_cases z:jb+1=b.size
      ·rw[if_pos (beq_iff_eq.mpr z)]
       exact wpS_pure ⟨rfl,.inl ⟨_,rfl,endA _ ja (jb+1) _ lk (by omega) lo'⟩⟩
      ·rw[if_neg (by simpa using z)]
       by_cases y:q+1≥mg
       ·rw[if_pos y]
        exact wpS_pure ⟨rfl,.inr ⟨_,_,_,_,_,rfl,hja,by omega,by omega,lo'⟩⟩
       ·rw[if_neg y]
        exact wpS_pure ⟨rfl,_,_,_,_,_,rfl,hja,by omega,by omega,lo'⟩
     |false=>
      rw[if_neg (by decide)]
      have lo':=stepA out ja jb (by omega) hjb lo e
      refine wpS_bind (bn (by omega) ?_)
      by_cases z:ja+1+1=a.size
      ·rw[if_pos (beq_iff_eq.mpr z)]
       exact wpS_pure ⟨rfl,.inl ⟨_,rfl,endB _ (ja+1) jb _ lk z lo'⟩⟩
      ·rw[if_neg (by simpa using z)]
       by_cases y:p+1≥mg
       ·rw[if_pos y]
        exact wpS_pure ⟨rfl,.inr ⟨_,_,_,_,_,rfl,by omega,hjb,by omega,lo'⟩⟩
       ·rw[if_neg y]
        exact wpS_pure ⟨rfl,_,_,_,_,_,rfl,by omega,hjb,by omega,lo'⟩
    ·rintro c st2 ⟨rfl,out,ja,jb,p,q,rfl,hja,hjb,hij,lo⟩
     exact⟨rfl,.inr ⟨_,_,_,_,_,rfl,hja,hjb,hij,lo⟩⟩
    ·rintro ⟨r,c⟩ st2 ⟨rfl,⟨res,e,q⟩|⟨out,ja,jb,p,q,e,hja,hjb,hij,lo⟩⟩
     ·dsimp only at e
      subst e
      exact wpS_pure ⟨res,rfl,q⟩
     ·obtain⟨rfl,rfl⟩:=Prod.mk.inj e
      dsimp only
      refine wpS_bind (wpS_lift (wpAny_rule ⟨rfl,?_⟩))
      refine wpS_bind (wpS_mono (wpS_forRange (I:=λj c st3=>Like st st3∧∃out ka kb m' p q,c=(none,out,ka,kb,m',p,q)∧ka+1<a.size∧kb<b.size∧ia+ib+j≤ka+kb∧Lo blt (a.toList++b.toList) out.toList (a.toList.drop ka) (b.toList.drop kb))
       (Q:=λc st3=>Like st st3∧((∃res,c.1=some res∧Q res st3)∨∃out ka kb m' p q,c=(none,out,ka,kb,m',p,q)∧ka+1<a.size∧kb<b.size∧ia+ib+1≤ka+kb∧Lo blt (a.toList++b.toList) out.toList (a.toList.drop ka) (b.toList.drop kb))) ?_ ?_
       ⟨lk,out,ja,jb,_,_,_,rfl,hja,hjb,by omega,lo⟩) ?_)
      ·rintro j c st3 hj1 hj2 ⟨lk3',out,ka,kb,m',p,q,rfl,hka,hkb,hij,lo⟩
       dsimp only
       by_cases m1:m'>1
       case' pos=>rw[if_pos m1]
       case' neg=>rw[if_neg m1]
       all_goals
        refine wpS_bind (yj λst4 lk3=>?_)
        have lk4:Like st st4:=⟨lk3.kind.trans lk3'.kind,lk3.arr.trans lk3'.arr,lk3.pend.trans lk3'.pend,lk3.fail.trans lk3'.fail⟩
        have hK4:kindOf st4=κ:=lk4.kind.trans hK
        refine wpS_bind (bn hkb ?_)
        refine wpS_bind (dI L hK4 (mb kb hkb) (λi hi=>⟨by omega,ma _ (by omega)⟩) (by omega) (λi=>!blt (g b kb) (g a (ka+i))) (λi hi=>rfl) (λi j h1 h2 h3=>monoA ka _ i j h1 (by omega) h3) λk hk1 hk2 hk3=>?_)
        dsimp only
        have klt:k<a.size-ka:=by
         rcases Nat.lt_or_ge k (a.size-ka)with z|z
         ·exact z
         ·have f:=hk2 (a.size-1-ka) (by omega)
          rw[show ka+(a.size-1-ka)=a.size-1 by omega,hlast kb hkb]at f
          cases f
        have hk2':∀i,i<k→blt (g b kb) (g a (ka+i))=false:=λi hi=>by have:=hk2 i hi;simpa using this
        have bw:blt (g b kb) (g a (ka+k))=true:=by have:=hk3 k (Q6 _) klt;simpa using this
        have lo1:=lo
        by_cases k0:k>0
        case' pos=>
         rw[if_pos k0]
         replace lo1:=chunkA out ka kb k (by omega) hkb lo hk2'
         by_cases z:ka+k+1=a.size
         case pos=>
          rw[if_pos (beq_iff_eq.mpr z)]
          exact wpS_pure ⟨lk4,.inl ⟨_,rfl,endB _ (ka+k) kb _ lk4 z lo1⟩⟩
         have zz:¬ka+k=a.size:=by omega
         rw[if_neg (by simpa using z),if_neg (by simpa using zz)]
         obtain⟨kc,ek⟩:∃kc,kc=ka+k:=⟨_,rfl⟩
        case' neg=>
         rw[if_neg k0]
         rw[show k=0 by omega,ZS]at bw
         obtain⟨kc,ek⟩:∃kc,kc=ka:=⟨_,rfl⟩
        all_goals
         rw[←ek]at lo1 bw⊢
         refine wpS_bind (bn hkb ?_)
         have lo2:=stepB _ kc kb (by omega) hkb lo1 bw
         by_cases z2:kb+1=b.size
         case pos=>
          rw[if_pos (beq_iff_eq.mpr z2)]
          exact wpS_pure ⟨lk4,.inl ⟨_,rfl,endA _ kc (kb+1) _ lk4 (by omega) lo2⟩⟩
         rw[if_neg (by simpa using z2)]
         refine wpS_bind (bn (by omega) ?_)
         refine wpS_bind (dI L hK4 (ma _ (by omega)) (λi hi=>⟨by omega,mb _ (by omega)⟩) (by omega) (λi=>blt (g b (kb+1+i)) (g a kc)) (λi hi=>rfl) (λi j h1 h2 h3=>monoB (kb+1) _ i j h1 (by omega) h3) λk2 h1 h2 h3=>?_)
         dsimp only
         have lo3:=lo2
         by_cases q0:k2>0
         case' pos=>
          rw[if_pos q0]
          replace lo3:=chunkB _ kc (kb+1) k2 (by omega) (by omega) lo2 h2
          by_cases z3:kb+1+k2=b.size
          case pos=>
           rw[if_pos (beq_iff_eq.mpr z3)]
           exact wpS_pure ⟨lk4,.inl ⟨_,rfl,endA _ kc (kb+1+k2) _ lk4 (by omega) lo3⟩⟩
          rw[if_neg (by simpa using z3)]
          have w3:=h3 k2 (Q6 _) (by omega)
          obtain⟨kd,ed⟩:∃kd,kd=kb+1+k2:=⟨_,rfl⟩
         case' neg=>
          rw[if_neg q0]
          have w3:blt (g b (kb+1)) (g a kc)=false:=h3 0 (by omega) (by omega)
          obtain⟨kd,ed⟩:∃kd,kd=kb+1:=⟨_,rfl⟩
         all_goals
          rw[←ed]at lo3 w3⊢
          refine wpS_bind (bn (by omega) ?_)
          have lo4:=stepA _ kc kd (by omega) (by omega) lo3 w3
          by_cases z4:kc+1+1=a.size
          case pos=>
           rw[if_pos (beq_iff_eq.mpr z4)]
           exact wpS_pure ⟨lk4,.inl ⟨_,rfl,endB _ (kc+1) kd _ lk4 z4 lo4⟩⟩
          rw[if_neg (by simpa using z4)]
          split
          ·exact wpS_pure ⟨lk4,.inr ⟨_,_,_,_,_,_,rfl,by omega,by omega,by omega,lo4⟩⟩
          ·exact wpS_pure ⟨lk4,_,_,_,_,_,_,rfl,by omega,by omega,by omega,lo4⟩
      ·rintro c st3 ⟨lk3,out,ka,kb,m',p,q,rfl,hka,hkb,hij,lo⟩
       have em:max 0 (a.size+b.size)=a.size+b.size:=QL (Qh _)
       rw[em]at hij
       omega
      ·rintro ⟨r,c⟩ st3 ⟨lk3,⟨res,e,q⟩|⟨out,ka,kb,m',p,q,e,hka,hkb,hij,lo⟩⟩
       ·dsimp only at e
        subst e
        exact wpS_pure ⟨res,rfl,q⟩
       ·obtain⟨rfl,rfl⟩:=Prod.mk.inj e
        dsimp only
        refine wpS_bind (wpS_modify (wpS_pure ⟨⟨lk3.kind,lk3.arr,lk3.pend,lk3.fail⟩,_,_,_,_,rfl,hka,hkb,by omega,lo⟩))
   ·rintro c st' ⟨lk,out,ia,ib,mg,rfl,ha1,hb1,hi,lo⟩
    have em:max 0 (a.size+b.size)=a.size+b.size:=QL (Qh _)
    rw[em]at hi
    omega
   ·rintro ⟨r,c⟩ st' ⟨res,e,q⟩
    dsimp only at e
    subst e
    exact wpS_pure q
end
section
variable {blt:Keyed→Keyed→Bool}
structure Hi (blt:Keyed→Keyed→Bool) (all o ra rb:List Keyed):Prop where
 perm:((ra++rb)++o).Perm all
 srt:PW blt o
 high:∀x∈ra++rb,∀y∈o,le blt x y
theorem Hi.a {all o ca ra rb:List Keyed} (h:Hi blt all o (ra++ca) rb) (hs:PW blt (ra++ca)) (hc:∀x∈rb,∀y∈ca,le blt x y):Hi blt all (ca++o) ra rb where
 perm:=by
  refine List.Perm.trans ?_ h.perm
  rw[←Qo]
  refine List.Perm.append_right o ?_
  rw[Qo,Qo]
  exact List.Perm.append_left ra ZU
 srt:=Qj.mpr ⟨(Qj.mp hs).2.1,h.srt,λx hx y hy=>h.high x (by simp[hx]) y hy⟩
 high:=λx hx y hy=>by
  rcases Q7.mp hy with q|q
  ·rcases Q7.mp hx with z|z
   ·exact(Qj.mp hs).2.2 x z y q
   ·exact hc x z y q
  ·exact h.high x (by rcases Q7.mp hx with z|z<;>simp[z]) y q
theorem Hi.b {all o ra cb rb:List Keyed} (h:Hi blt all o ra (rb++cb)) (hs:PW blt (rb++cb)) (hc:∀x∈ra,∀y∈cb,le blt x y):Hi blt all (cb++o) ra rb where
 perm:=by
  refine List.Perm.trans ?_ h.perm
  rw[←Qo]
  refine List.Perm.append_right o ?_
  rw[Qo]
 srt:=Qj.mpr ⟨(Qj.mp hs).2.1,h.srt,λx hx y hy=>h.high x (by simp[hx]) y hy⟩
 high:=λx hx y hy=>by
  rcases Q7.mp hy with q|q
  ·rcases Q7.mp hx with z|z
   ·exact hc x z y q
   ·exact(Qj.mp hs).2.2 x z y q
  ·exact h.high x (by rcases Q7.mp hx with z|z<;>simp[z]) y q
theorem yu {a:Array Keyed} {i:Nat} (h:i<a.size):a.toList.take (i+1)=a.toList.take i++ [g a i]:=by
 have e:=b7 h
 rw[←QB]at e
 rw[QA,e]
 rfl
theorem dZ {a:Array Keyed} {n:Nat} {x:Keyed} (h:x∈a.toList.take n):∃j,j<n∧j<a.size∧x=g a j:=by
 obtain⟨k,hk,e⟩:=ZC.mp h
 rw[Qm,Q9]at hk
 refine⟨k,by omega,by omega,?_⟩
 have e2:=b7 (xs:=a) (i:=k) (by omega)
 rw[←QB,Q5 (by rw[Q9];omega)]at e2
 rw[ZT]at e
 rw[←e]
 exact Option.some.inj e2
theorem cy {a:Array Keyed} {i n:Nat} {x:Keyed} (h:x∈(a.extract i n).toList):∃j,i≤j∧j<n∧j<a.size∧x=g a j:=by
 rw[Z9,QV]at h
 obtain⟨k,hk,e⟩:=ZC.mp h
 rw[Qm,QI,Q9]at hk
 refine⟨i+k,by omega,by omega,by omega,?_⟩
 have e2:=b7 (xs:=a) (i:=i+k) (by omega)
 rw[←QB,Q5 (by rw[Q9];omega)]at e2
 rw[ZT,ZA]at e
 rw[←e]
 exact Option.some.inj e2
theorem iR {a:Array Keyed} (h:On blt a 0 a.size) (n:Nat):PW blt (a.toList.take n):=by
 have:=dU h 0
 rw[ZD]at this
 exact List.Pairwise.sublist (List.take_sublist _ _) this
theorem tS {a:Array Keyed} {i n:Nat} (h:i≤n):a.toList.take n=a.toList.take i++(a.extract i n).toList:=by
 rw[Z9,QV]
 obtain⟨k,rfl⟩:∃k,n=i+k:=⟨n-i,by omega⟩
 rw[List.take_add,show i+k-i=k by omega]
theorem BO (a:Array Keyed) (n:Nat):(a.extract 0 n).toList=a.toList.take n:=by
 rw[Z9,QV,ZD,Nat.sub_zero]
end
section
variable {prog:Program} {w:World} {A:Around} {E:Value→Shared→Prop} {s:Shared} {a₀:Array Keyed} {κ:SortKind} {blt:Keyed→Keyed→Bool}
variable (L:qM prog w A E s a₀ κ blt)
include L
theorem uW {a b:Array Keyed} {st:SortSt} {Q:Array Keyed→SortSt→Prop} (C:Cmp blt) (hK:kindOf st=κ) (hm:∀x,x∈a.toList++b.toList→x∈a₀) (oa:On blt a 0 a.size) (ob:On blt b 0 b.size) (ha:0<a.size) (hb:0<b.size)
  (hfirst:blt (g b 0) (g a 0)=true) (hlast:∀j,j<b.size→blt (g b j) (g a (a.size-1))=true)
  (h:∀res st',Like st st'→res.toList.Perm (a.toList++b.toList)→PW blt res.toList→Q res st'):wpS (model prog w) A E s (zb a b) Q st:=by
 have ma:∀i,i<a.size→g a i∈a₀:=λi hi=>hm _ (by have:=rC hi;simp[this])
 have mb:∀i,i<b.size→g b i∈a₀:=λi hi=>hm _ (by have:=rC hi;simp[this])
 have bfirst:∀i,i<a.size→blt (g b 0) (g a i)=true:=λi hi=>by
  by_cases i0:i=0
  ·rw[i0];exact hfirst
  ·cases z:blt (g b 0) (g a i)with
   |true=>rfl
   |false=>
    have f:blt (g b 0) (g a 0)=false:=C.trans (oa 0 i (Q6 _) (by omega) hi) z
    rw[hfirst]at f
    cases f
 have chunkA:∀(out:Array Keyed) (na nb k:Nat),k≤na→na≤a.size→1≤nb→nb≤b.size→Hi blt (a.toList++b.toList) out.reverse.toList (a.toList.take na) (b.toList.take nb)→(∀i,k≤i→i<na→blt (g b (nb-1)) (g a i)=true)→
   Hi blt (a.toList++b.toList) (out++(a.extract k na).reverse).reverse.toList (a.toList.take k) (b.toList.take nb):=λout na nb k h1 h2 h3 h4 lo hk=>by
  have er:(out++(a.extract k na).reverse).reverse.toList=(a.extract k na).toList++out.reverse.toList:=by simp
  have pa:=iR oa na
  rw[tS h1]at lo pa
  rw[er]
  refine lo.a pa λx hx y hy=>?_
  obtain⟨i,hi1,hi2,hi3,rfl⟩:=cy hy
  obtain⟨j,hj1,hj2,rfl⟩:=dZ hx
  have l1:=C.of_lt (hk i hi1 hi2)
  by_cases ej:j=nb-1
  ·rw[ej];exact l1
  ·exact C.trans (ob j (nb-1) (Qh _) (by omega) (by omega)) l1
 have chunkB:∀(out:Array Keyed) (na nb k:Nat),k≤nb→nb≤b.size→1≤na→na≤a.size→Hi blt (a.toList++b.toList) out.reverse.toList (a.toList.take na) (b.toList.take nb)→(∀i,k≤i→i<nb→blt (g b i) (g a (na-1))=false)→
   Hi blt (a.toList++b.toList) (out++(b.extract k nb).reverse).reverse.toList (a.toList.take na) (b.toList.take k):=λout na nb k h1 h2 h3 h4 lo hk=>by
  have er:(out++(b.extract k nb).reverse).reverse.toList=(b.extract k nb).toList++out.reverse.toList:=by simp
  have pb:=iR ob nb
  rw[tS h1]at lo pb
  rw[er]
  refine lo.b pb λx hx y hy=>?_
  obtain⟨i,hi1,hi2,hi3,rfl⟩:=cy hy
  obtain⟨j,hj1,hj2,rfl⟩:=dZ hx
  have l1:le blt (g a (na-1)) (g b i):=hk i hi1 hi2
  by_cases ej:j=na-1
  ·rw[ej];exact l1
  ·exact C.trans (oa j (na-1) (Qh _) (by omega) (by omega)) l1
 have one:∀(x:Array Keyed) (i:Nat),i<x.size→(x.extract i (i+1)).reverse= #[g x i]:=λx i hi=>by
  have:x.extract i (i+1)= #[g x i]:=by
   apply Array.ext'
   rw[kO,pG hi]
   rfl
  rw[this]
  rfl
 have stepA:∀(out:Array Keyed) (na nb:Nat),1≤na→na≤a.size→1≤nb→nb≤b.size→Hi blt (a.toList++b.toList) out.reverse.toList (a.toList.take na) (b.toList.take nb)→blt (g b (nb-1)) (g a (na-1))=true→
   Hi blt (a.toList++b.toList) (out.push (g a (na-1))).reverse.toList (a.toList.take (na-1)) (b.toList.take nb):=λout na nb h1 h2 h3 h4 lo hk=>by
  have:=chunkA out na nb (na-1) (by omega) h2 h3 h4 lo λi hi hj=>by rw[show i=na-1 by omega];exact hk
  rwa [show a.extract (na-1) na=a.extract (na-1) (na-1+1) by rw[show na-1+1=na by omega],one a (na-1) (by omega),←ZZ]at this
 have stepB:∀(out:Array Keyed) (na nb:Nat),1≤na→na≤a.size→1≤nb→nb≤b.size→Hi blt (a.toList++b.toList) out.reverse.toList (a.toList.take na) (b.toList.take nb)→blt (g b (nb-1)) (g a (na-1))=false→
   Hi blt (a.toList++b.toList) (out.push (g b (nb-1))).reverse.toList (a.toList.take na) (b.toList.take (nb-1)):=λout na nb h1 h2 h3 h4 lo hk=>by
  have:=chunkB out na nb (nb-1) (by omega) h4 h1 h2 lo λi hi hj=>by rw[show i=nb-1 by omega];exact hk
  rwa [show b.extract (nb-1) nb=b.extract (nb-1) (nb-1+1) by rw[show nb-1+1=nb by omega],one b (nb-1) (by omega),←ZZ]at this
 have endA:∀(out:Array Keyed) (na nb:Nat) (st':SortSt),Like st st'→na=0→nb≤b.size→Hi blt (a.toList++b.toList) out.reverse.toList (a.toList.take na) (b.toList.take nb)→Q (a.extract 0 na++b.extract 0 nb++out.reverse) st':=λout na nb st' lk hn hb2 lo=>by
  subst hn
  have e:(a.extract 0 0++b.extract 0 nb++out.reverse).toList=b.toList.take nb++out.reverse.toList:=by
   rw[QH,QH,BO,BO]
   rfl
  refine h _ st' lk ?_ ?_
  ·rw[e];exact lo.perm
  ·rw[e];exact Qj.mpr ⟨iR ob nb,lo.srt,λx hx y hy=>lo.high x (by simp[hx]) y hy⟩
 have endB:∀(out:Array Keyed) (na nb:Nat) (st':SortSt),Like st st'→nb=1→na≤a.size→Hi blt (a.toList++b.toList) out.reverse.toList (a.toList.take na) (b.toList.take nb)→Q (b.extract 0 nb++a.extract 0 na++out.reverse) st':=λout na nb st' lk hn ha2 lo=>by
  subst hn
  have e:(b.extract 0 1++a.extract 0 na++out.reverse).toList=(b.toList.take 1++a.toList.take na)++out.reverse.toList:=by
   rw[QH,QH,BO,BO]
  refine h _ st' lk ?_ ?_
  ·rw[e];exact List.Perm.trans (List.Perm.append_right _ ZU) lo.perm
  ·rw[e]
   refine Qj.mpr ⟨Qj.mpr ⟨iR ob 1,iR oa na,λx hx y hy=>?_⟩,lo.srt,λx hx y hy=>lo.high x ?_ y hy⟩
   ·obtain⟨i,hi1,hi2,rfl⟩:=dZ hx
    obtain⟨j,hj1,hj2,rfl⟩:=dZ hy
    rw[show i=0 by omega]
    exact C.of_lt (bfirst j hj2)
   ·rcases Q7.mp hx with z|z
    ·exact Q7.mpr (.inr z)
    ·exact Q7.mpr (.inl z)
 have monoA:∀(ka:Nat) (x:Keyed) (i j:Nat),i≤j→ka+j<a.size→(!blt x (g a (ka+j)))=true→(!blt x (g a (ka+i)))=true:=λka x i j h1 h2 h3=>by
  have h3:blt x (g a (ka+j))=false:=by simpa using h3
  by_cases e:i=j
  ·subst e;simpa using h3
  ·have:=C.trans (oa (ka+i) (ka+j) (Qh _) (by omega) h2) h3
   simpa using this
 have monoB:∀(kb:Nat) (x:Keyed) (i j:Nat),i≤j→kb+j<b.size→blt (g b (kb+j)) x=true→blt (g b (kb+i)) x=true:=λkb x i j h1 h2 h3=>by
  by_cases e:i=j
  ·subst e;exact h3
  ·have q:=ob (kb+i) (kb+j) (Qh _) (by omega) h2
   cases z:blt (g b (kb+i)) x with
   |true=>rfl
   |false=>
    have f:blt (g b (kb+j)) x=false:=C.trans z q
    rw[h3]at f
    cases f
 refine wpS_bind ?_
 dsimp only
 refine wpS_lift (wpAny_rule ⟨rfl,?_⟩)
 refine wpS_bind (bn (by omega) ?_)
 have start:Hi blt (a.toList++b.toList) (#[g a (a.size-1)]:Array Keyed).reverse.toList (a.toList.take (a.size-1)) (b.toList.take b.size):=by
  have l0:Hi blt (a.toList++b.toList) [] (a.toList.take (a.size-1)++ [g a (a.size-1)]) (b.toList.take b.size):=by
   refine⟨?_,List.Pairwise.nil,λx _ y hy=>absurd hy QU⟩
   rw[←yu (by omega),show a.size-1+1=a.size by omega,Xg]
   have e1:a.toList.take a.size=a.toList:=QN (by rw[Q9];exact Q6 _)
   have e2:b.toList.take b.size=b.toList:=QN (by rw[Q9];exact Q6 _)
   rw[e1,e2]
  have:=l0.a (by rw[←yu (by omega)];exact iR oa _) (λx hx y hy=>by
   rw[Qd.mp hy]
   obtain⟨j,_,hj,rfl⟩:=dZ hx
   exact C.of_lt (hlast j hj))
  exact this
 by_cases a1:a.size-1=0
 ·rw[if_pos (beq_iff_eq.mpr a1)]
  exact wpS_pure (endA _ (a.size-1) b.size st (Like.refl _) a1 (Q6 _) start)
 ·rw[if_neg (by simpa using a1)]
  by_cases b1:b.size=1
  ·rw[if_pos (beq_iff_eq.mpr b1)]
   exact wpS_pure (endB _ (a.size-1) b.size st (Like.refl _) b1 (by omega) start)
  ·rw[if_neg (by simpa using b1)]
   refine wpS_bind (wpS_get ?_)
   refine wpS_bind (wpS_mono (wpS_forRange (I:=λi c st'=>Like st st'∧∃na nb out mg,c=(none,na,nb,out,mg)∧1≤na∧na≤a.size∧2≤nb∧nb≤b.size∧na+nb+i≤a.size+b.size∧Hi blt (a.toList++b.toList) out.reverse.toList (a.toList.take na) (b.toList.take nb))
    (Q:=λc st'=>∃res,c.1=some res∧Q res st') ?_ ?_ ⟨Like.refl _,_,_, #[g a (a.size-1)],_,rfl,by omega,by omega,by omega,Q6 _,by omega,start⟩) ?_)
   ·rintro i c st' hi1 hi2 ⟨lk,na,nb,out,mg,rfl,ha1,ha2,hb1,hb2,hi,lo⟩
    have hK':kindOf st'=κ:=lk.kind.trans hK
    refine wpS_bind (wpS_mono (wpS_forRange (I:=λj c st2=>st2=st'∧∃ja jb out p q,c=(none,ja,jb,out,p,q)∧1≤ja∧ja≤a.size∧2≤jb∧jb≤b.size∧ja+jb≤na+nb∧Hi blt (a.toList++b.toList) out.reverse.toList (a.toList.take ja) (b.toList.take jb))
     (Q:=λc st2=>st2=st'∧((∃res,c.1=some res∧Q res st')∨∃ja jb out p q,c=(none,ja,jb,out,p,q)∧1≤ja∧ja≤a.size∧2≤jb∧jb≤b.size∧ja+jb≤na+nb∧Hi blt (a.toList++b.toList) out.reverse.toList (a.toList.take ja) (b.toList.take jb))) ?_ ?_
     ⟨rfl,na,nb,out,0,0,rfl,ha1,ha2,hb1,hb2,Q6 _,lo⟩) ?_)
    ·rintro j c st2 hj1 hj2 ⟨rfl,ja,jb,out,p,q,rfl,hja,hja2,hjb,hjb2,hij,lo⟩
     dsimp only
     refine wpS_bind (bn (by omega) (wpS_bind (bn (by omega) (wpS_bind (L _ _ _ _ (mb (jb-1) (by omega)) (ma (ja-1) (by omega)) hK' ?_)))))
     dsimp only
     cases e:blt (g b (jb-1)) (g a (ja-1))with
     |true=>
      rw[if_pos rfl]
      have lo':=stepA out ja jb (by omega) hja2 (by omega) hjb2 lo e
      refine wpS_bind (bn (by omega) ?_)
      by_cases z:ja-1=0
      ·rw[if_pos (beq_iff_eq.mpr z)]
       exact wpS_pure ⟨rfl,.inl ⟨_,rfl,endA _ (ja-1) jb _ lk z hjb2 lo'⟩⟩
      ·rw[if_neg (by simpa using z)]
       by_cases y:p+1≥mg
       ·rw[if_pos y]
        exact wpS_pure ⟨rfl,.inr ⟨_,_,_,_,_,rfl,by omega,by omega,hjb,hjb2,by omega,lo'⟩⟩
       ·rw[if_neg y]
        exact wpS_pure ⟨rfl,_,_,_,_,_,rfl,by omega,by omega,hjb,hjb2,by omega,lo'⟩
     |false=>
      rw[if_neg (by decide)]
      have lo':=stepB out ja jb (by omega) hja2 (by omega) hjb2 lo e
      refine wpS_bind (bn (by omega) ?_)
      by_cases z:jb-1=1
      ·rw[if_pos (beq_iff_eq.mpr z)]
       exact wpS_pure ⟨rfl,.inl ⟨_,rfl,endB _ ja (jb-1) _ lk z hja2 lo'⟩⟩
      ·rw[if_neg (by simpa using z)]
       by_cases y:q+1≥mg
       ·rw[if_pos y]
        exact wpS_pure ⟨rfl,.inr ⟨_,_,_,_,_,rfl,hja,hja2,by omega,by omega,by omega,lo'⟩⟩
       ·rw[if_neg y]
        exact wpS_pure ⟨rfl,_,_,_,_,_,rfl,hja,hja2,by omega,by omega,by omega,lo'⟩
    ·rintro c st2 ⟨rfl,ja,jb,out,p,q,rfl,hja,hja2,hjb,hjb2,hij,lo⟩
     exact⟨rfl,.inr ⟨_,_,_,_,_,rfl,hja,hja2,hjb,hjb2,hij,lo⟩⟩
    ·rintro ⟨r,c⟩ st2 ⟨rfl,⟨res,e,q⟩|⟨ja,jb,out,p,q,e,hja,hja2,hjb,hjb2,hij,lo⟩⟩
     ·dsimp only at e
      subst e
      exact wpS_pure ⟨res,rfl,q⟩
     ·obtain⟨rfl,rfl⟩:=Prod.mk.inj e
      dsimp only
      refine wpS_bind (wpS_lift (wpAny_rule ⟨rfl,?_⟩))
      refine wpS_bind (wpS_mono (wpS_forRange (I:=λj c st3=>Like st st3∧∃ka kb out m' p q,c=(none,ka,kb,out,m',p,q)∧1≤ka∧ka≤a.size∧2≤kb∧kb≤b.size∧ka+kb+j≤na+nb∧Hi blt (a.toList++b.toList) out.reverse.toList (a.toList.take ka) (b.toList.take kb))
       (Q:=λc st3=>Like st st3∧((∃res,c.1=some res∧Q res st3)∨∃ka kb out m' p q,c=(none,ka,kb,out,m',p,q)∧1≤ka∧ka≤a.size∧2≤kb∧kb≤b.size∧ka+kb+1≤na+nb∧Hi blt (a.toList++b.toList) out.reverse.toList (a.toList.take ka) (b.toList.take kb))) ?_ ?_
       ⟨lk,ja,jb,out,_,_,_,rfl,hja,hja2,hjb,hjb2,by omega,lo⟩) ?_)
      ·rintro j c st3 hj1 hj2 ⟨lk3',ka,kb,out,m',p,q,rfl,hka,hka2,hkb,hkb2,hij,lo⟩
       dsimp only
       by_cases m1:m'>1
       case' pos=>rw[if_pos m1]
       case' neg=>rw[if_neg m1]
       all_goals
        refine wpS_bind (yj λst4 lk3=>?_)
        have lk4:Like st st4:=⟨lk3.kind.trans lk3'.kind,lk3.arr.trans lk3'.arr,lk3.pend.trans lk3'.pend,lk3.fail.trans lk3'.fail⟩
        have hK4:kindOf st4=κ:=lk4.kind.trans hK
        refine wpS_bind (bn (by omega) ?_)
        refine wpS_bind (dI L hK4 (mb (kb-1) (by omega)) (λi hi=>⟨by omega,ma _ (by omega)⟩) (by omega) (λi=>!blt (g b (kb-1)) (g a (0+i))) (λi hi=>rfl) (λi j h1 h2 h3=>monoA 0 _ i j h1 (by omega) h3) λk hk1 hk2 hk3=>?_)
        dsimp only
        have hk2':∀i,i<k→blt (g b (kb-1)) (g a i)=false:=λi hi=>by have f:=hk2 i hi;rw[XC]at f;simpa using f
        have hk3':∀i,k≤i→i<ka→blt (g b (kb-1)) (g a i)=true:=λi hi hj=>by have f:=hk3 i hi hj;rw[XC]at f;simpa using f
        have lo1:=lo
        by_cases k0:ka-k>0
        case' pos=>
         rw[if_pos k0]
         replace lo1:=chunkA out ka kb k (by omega) (by omega) (by omega) (by omega) lo hk3'
         by_cases z:k=0
         case pos=>
          rw[if_pos (beq_iff_eq.mpr z)]
          exact wpS_pure ⟨lk4,.inl ⟨_,rfl,endA _ k kb _ lk4 z (by omega) lo1⟩⟩
         rw[if_neg (by simpa using z)]
        case' neg=>
         rw[if_neg k0]
         have e0:k=ka:=by omega
         subst e0
        all_goals
         refine wpS_bind (bn (by omega) ?_)
         have lo2:=stepB _ k kb (by omega) (by omega) (by omega) (by omega) lo1 (hk2' (k-1) (by omega))
         by_cases z2:kb-1=1
         case pos=>
          rw[if_pos (beq_iff_eq.mpr z2)]
          exact wpS_pure ⟨lk4,.inl ⟨_,rfl,endB _ k (kb-1) _ lk4 z2 (by omega) lo2⟩⟩
         rw[if_neg (by simpa using z2)]
         refine wpS_bind (bn (by omega) ?_)
         refine wpS_bind (dI L hK4 (ma _ (by omega)) (λi hi=>⟨by omega,mb _ (by omega)⟩) (by omega) (λi=>blt (g b (0+i)) (g a (k-1))) (λi hi=>rfl) (λi j h1 h2 h3=>monoB 0 _ i j h1 (by omega) h3) λk2 h1 h2 h3=>?_)
         dsimp only
         have k2p:0<k2:=by
          rcases ZN k2 with z|z
          ·have f:blt (g b (0+0)) (g a (k-1))=false:=h3 0 (by omega) (by omega)
           rw[ZS,bfirst (k-1) (by omega)]at f
           cases f
          ·exact z
         have h2':∀i,i<k2→blt (g b i) (g a (k-1))=true:=λi hi=>by have f:=h2 i hi;rwa [XC]at f
         have h3':∀i,k2≤i→i<kb-1→blt (g b i) (g a (k-1))=false:=λi hi hj=>by have f:=h3 i hi hj;rwa [XC]at f
         have lo3:=lo2
         by_cases q0:kb-1-k2>0
         case' pos=>
          rw[if_pos q0]
          replace lo3:=chunkB _ k (kb-1) k2 (by omega) (by omega) (by omega) (by omega) lo2 h3'
          by_cases z3:k2=1
          case pos=>
           rw[if_pos (beq_iff_eq.mpr z3)]
           exact wpS_pure ⟨lk4,.inl ⟨_,rfl,endB _ k k2 _ lk4 z3 (by omega) lo3⟩⟩
          have zz:¬k2=0:=by omega
          rw[if_neg (by simpa using z3),if_neg (by simpa using zz)]
         case' neg=>
          rw[if_neg q0]
          have e2:kb-1=k2:=by omega
          rw[e2]at lo3⊢
         all_goals
          refine wpS_bind (bn (by omega) ?_)
          have lo4:=stepA _ k k2 (by omega) (by omega) (by omega) (by omega) lo3 (h2' (k2-1) (by omega))
          by_cases z4:k-1=0
          case pos=>
           rw[if_pos (beq_iff_eq.mpr z4)]
           exact wpS_pure ⟨lk4,.inl ⟨_,rfl,endA _ (k-1) k2 _ lk4 z4 (by omega) lo4⟩⟩
          rw[if_neg (by simpa using z4)]
          split
          ·exact wpS_pure ⟨lk4,.inr ⟨_,_,_,_,_,_,rfl,by omega,by omega,by omega,by omega,by omega,lo4⟩⟩
          ·exact wpS_pure ⟨lk4,_,_,_,_,_,_,rfl,by omega,by omega,by omega,by omega,by omega,lo4⟩
      ·rintro c st3 ⟨lk3,ka,kb,out,m',p,q,rfl,hka,hka2,hkb,hkb2,hij,lo⟩
       have em:max 0 (a.size+b.size)=a.size+b.size:=QL (Qh _)
       rw[em]at hij
       omega
      ·rintro ⟨r,c⟩ st3 ⟨lk3,⟨res,e,q⟩|⟨ka,kb,out,m',p,q,e,hka,hka2,hkb,hkb2,hij,lo⟩⟩
       ·dsimp only at e
        subst e
        exact wpS_pure ⟨res,rfl,q⟩
       ·obtain⟨rfl,rfl⟩:=Prod.mk.inj e
        dsimp only
        refine wpS_bind (wpS_modify (wpS_pure ⟨⟨lk3.kind,lk3.arr,lk3.pend,lk3.fail⟩,_,_,_,_,rfl,hka,hka2,hkb,hkb2,by omega,lo⟩))
   ·rintro c st' ⟨lk,na,nb,out,mg,rfl,ha1,ha2,hb1,hb2,hi,lo⟩
    have em:max 0 (a.size+b.size)=a.size+b.size:=QL (Qh _)
    rw[em]at hi
    omega
   ·rintro ⟨r,c⟩ st' ⟨res,e,q⟩
    dsimp only at e
    subst e
    exact wpS_pure q
end
end Srt
namespace Srt
open PySem PyProof.Rows
section
variable {blt:Keyed→Keyed→Bool}
def lay (arr:Array Keyed) (at_:Nat) (m:Array Keyed):Array Keyed:=m.toList.zipIdx.foldl (λa p=>a.setIfInBounds (at_+p.2) p.1) arr
theorem zk:∀(l:List Keyed) (j:Nat) (arr:Array Keyed) (at_:Nat),at_+j+l.length≤arr.size→
  ((l.zipIdx j).foldl (λa p=>a.setIfInBounds (at_+p.2) p.1) arr).toList=arr.toList.take (at_+j)++l++arr.toList.drop (at_+j+l.length)
 | [],j,arr,at_,h=>by simp
 |x::l,j,arr,at_,h=>by
  rw[List.zipIdx_cons,List.foldl_cons]
  have hl:at_+j<arr.size:=by simp at h;omega
  have ih:=zk l (j+1) (arr.setIfInBounds (at_+j) x) at_ (by simp at h⊢;omega)
  rw[ih,K5]
  have e1:(arr.toList.set (at_+j) x).take (at_+(j+1))=arr.toList.take (at_+j)++ [x]:=by
   rw[show at_+(j+1)=at_+j+1 by omega,QA,List.take_set_of_le (Q6 _),ZP (by rw[Q9];exact hl)]
   rfl
  have e2:(arr.toList.set (at_+j) x).drop (at_+(j+1)+l.length)=arr.toList.drop (at_+j+(x::l).length):=by
   rw[List.drop_set_of_lt (by omega)]
   congr 1
   simp
   omega
  rw[e1,e2,Qo,Qo,Qo]
  rfl
theorem uu {arr m:Array Keyed} {at_:Nat} (h:at_+m.size≤arr.size):(lay arr at_ m).toList=arr.toList.take at_++m.toList++arr.toList.drop (at_+m.size):=by
 have:=zk m.toList 0 arr at_ (by simpa using h)
 simpa[lay]using this
theorem sY (xs:Array Keyed) (k:Nat):g xs k=(xs.toList[k]?).getD dk:=by unfold g;rw[QB]
theorem Em {arr m:Array Keyed} {at_:Nat} (h:at_+m.size≤arr.size) (k:Nat):g (lay arr at_ m) k=if at_≤k∧k<at_+m.size then g m (k-at_)else g arr k:=by
 rw[sY,uu h]
 have l1:(arr.toList.take at_).length=at_:=by rw[Qm,Q9];omega
 by_cases a:k<at_
 ·rw[if_neg (by omega),Qo,Zl (by omega),List.getElem?_take_of_lt a,←sY]
 ·by_cases b:k<at_+m.size
  ·rw[if_pos ⟨by omega,b⟩,Qo,Zh (by omega),l1,Zl (by rw[Q9];omega),←sY]
  ·rw[if_neg (by omega),Zh (by rw[Qg,l1,Q9];omega),Qg,l1,Q9,X6,show at_+m.size+(k-(at_+m.size))=k by omega,←sY]
theorem zj {arr m:Array Keyed} {at_:Nat} (h:at_+m.size≤arr.size) (p:m.toList.Perm ((arr.toList.drop at_).take m.size)):(lay arr at_ m).Perm arr:=by
 rw[ZE,uu h]
 have e:arr.toList=arr.toList.take at_++((arr.toList.drop at_).take m.size++arr.toList.drop (at_+m.size)):=by
  rw[←K4,QJ,QJ]
 refine List.Perm.trans ?_ (List.Perm.of_eq e.symm)
 rw[Qo]
 exact List.Perm.append_left _ (List.Perm.append_right _ p)
theorem jf {arr:Array Keyed} {i n:Nat} (h:n≤arr.size) {k:Nat} (hk:k<n-i):g (arr.extract i n) k=g arr (i+k):=by
 unfold g
 rw[Array.getElem?_extract,if_pos (by omega)]
theorem n6 {arr:Array Keyed} {i n:Nat} (h:n≤arr.size):(arr.extract i n).size=n-i:=by rw[Array.size_extract];omega
theorem sJ {arr:Array Keyed} {i n:Nat} (h:n≤arr.size) (o:On blt arr i n):On blt (arr.extract i n) 0 (arr.extract i n).size:=λa b _ hab hb=>by
 rw[n6 h]at hb
 rw[jf h (by omega),jf h hb]
 exact o _ _ (by omega) (by omega) (by omega)
end
section
variable {prog:Program} {w:World} {A:Around} {E:Value→Shared→Prop} {s:Shared} {a₀:Array Keyed} {κ:SortKind} {blt:Keyed→Keyed→Bool}
theorem AK {x st:SortSt} {Q:PUnit→SortSt→Prop} (h:Q ⟨⟩ x):wpS (model prog w) A E s (set x:StateT SortSt Sem PUnit) Q st:=by
 unfold wpS;rw[StateT.run_set];exact wpAny_pure ⟨rfl,h⟩
variable (L:qM prog w A E s a₀ κ blt)
include L
theorem uX {st:SortSt} {i sa na pa sb nb pb:Nat} {Q:Bool→SortSt→Prop} (C:Cmp blt) (B:Base a₀ κ st) (hi:(pendingOf st)[i]?=some (sa,na,pa)) (hj:(pendingOf st)[i+1]?=some (sb,nb,pb)) (hb:sb=sa+na) (h1:1≤na) (h2:1≤nb) (hz:sb+nb≤a₀.size)
  (oa:On blt (arrOf st) sa (sa+na)) (ob:On blt (arrOf st) sb (sb+nb))
  (h:∀st',Base a₀ κ st'→pendingOf st'=((pendingOf st).setIfInBounds i (sa,na+nb,pa)).eraseIdxIfInBounds (i+1)→On blt (arrOf st') sa (sa+(na+nb))→(∀k,k<sa∨sa+(na+nb)≤k→g (arrOf st') k=g (arrOf st) k)→Q true st'):
  wpS (model prog w) A E s (mergeAt' i) Q st:=by
 subst hb
 have hsz:=B.size
 have hsz':((sortPriv%PySem.Builtin.SortState.a) st).size=a₀.size:=B.size
 refine wpS_bind (wpS_get ?_)
 dsimp only
 rw[hi,hj]
 dsimp only
 refine wpS_bind (AK ?_)
 have B1:Base a₀ κ (SortSt.mk' (kindOf st) (arrOf st) (((pendingOf st).setIfInBounds i (sa,na+nb,pa)).eraseIdxIfInBounds (i+1)) (gallopOf st) (failedOf st)):=⟨B.kind,B.fine,B.perm⟩
 refine wpS_bind (bn (by omega) ?_)
 refine wpS_bind (dI L B1.kind (B.mem (by omega)) (λj hj=>⟨by omega,B.mem (by omega)⟩) (by omega) (λj=>!blt (g (arrOf st) (sa+na)) (g (arrOf st) (sa+j))) (λj hj=>rfl) (λx y h3 h4 h5=>?_) λk hk1 hk2 hk3=>?_)
 ·have h5:blt (g (arrOf st) (sa+na)) (g (arrOf st) (sa+y))=false:=by simpa using h5
  by_cases e:x=y
  ·subst e;simpa using h5
  ·have:=C.trans (oa (sa+x) (sa+y) (by omega) (by omega) (by omega)) h5
   simpa using this
 ·dsimp only
  have low:∀j,j<k→le blt (g (arrOf st) (sa+j)) (g (arrOf st) (sa+na)):=λj hj=>by have:=hk2 j hj;simpa using this
  have up:∀j,k≤j→j<na→blt (g (arrOf st) (sa+na)) (g (arrOf st) (sa+j))=true:=λj hj hj2=>by have:=hk3 j hj hj2;simpa using this
  have lowB:∀j x,j<k→sa+na≤x→x<sa+na+nb→le blt (g (arrOf st) (sa+j)) (g (arrOf st) x):=λj x hj hx hx2=>by
   by_cases e:x=sa+na
   ·rw[e];exact low j hj
   ·exact C.trans (low j hj) (ob (sa+na) x (Q6 _) (by omega) hx2)
  by_cases n0:na-k=0
  ·rw[if_pos (beq_iff_eq.mpr n0)]
   refine wpS_pure (h _ B1 rfl (λx y hx hxy hy=>?_) λ_ _=>rfl)
   by_cases c:y<sa+na
   ·exact oa x y hx hxy c
   ·by_cases d:x<sa+na
    ·have:=lowB (x-sa) y (by omega) (by omega) (by omega)
     rwa [show sa+(x-sa)=x by omega]at this
    ·exact ob x y (by omega) hxy (by omega)
  ·rw[if_neg (by simpa using n0)]
   refine wpS_bind (bn (by omega) ?_)
   rw[show sa+k+(na-k)-1=sa+na-1 by omega]
   refine wpS_bind (dI L B1.kind (B.mem (by omega)) (λj hj=>⟨by omega,B.mem (by omega)⟩) (by omega) (λj=>blt (g (arrOf st) (sa+na+j)) (g (arrOf st) (sa+na-1))) (λj hj=>rfl) (λx y h3 h4 h5=>?_) λm hm1 hm2 hm3=>?_)
   ·by_cases e:x=y
    ·subst e;exact h5
    ·cases z:blt (g (arrOf st) (sa+na+x)) (g (arrOf st) (sa+na-1))with
     |true=>rfl
     |false=>
      have f:blt (g (arrOf st) (sa+na+y)) (g (arrOf st) (sa+na-1))=false:=C.trans z (ob (sa+na+x) (sa+na+y) (by omega) (by omega) (by omega))
      rw[h5]at f
      cases f
   ·dsimp only
    have hk2':∀j,j<m→blt (g (arrOf st) (sa+na+j)) (g (arrOf st) (sa+na-1))=true:=hm2
    have first:blt (g (arrOf st) (sa+na+0)) (g (arrOf st) (sa+k+0))=true:=by
     rw[ZS,ZS];exact up k (Q6 _) (by omega)
    have mp:0<m:=by
     rcases ZN m with z|z
     ·have f:blt (g (arrOf st) (sa+na+0)) (g (arrOf st) (sa+na-1))=false:=hm3 0 (by omega) (by omega)
      have q:=up (na-1) (by omega) (by omega)
      rw[show sa+(na-1)=sa+na-1 by omega]at q
      rw[ZS,q]at f
      cases f
     ·exact z
    have high:∀x,sa+na+m≤x→x<sa+na+nb→le blt (g (arrOf st) (sa+na-1)) (g (arrOf st) x):=λx hx hx2=>by
     have f:blt (g (arrOf st) (sa+na+(x-(sa+na)))) (g (arrOf st) (sa+na-1))=false:=hm3 (x-(sa+na)) (by omega) (by omega)
     rwa [show sa+na+(x-(sa+na))=x by omega]at f
    have highA:∀y x,sa≤y→y<sa+na→sa+na+m≤x→x<sa+na+nb→le blt (g (arrOf st) y) (g (arrOf st) x):=λy x hy hy2 hx hx2=>by
     by_cases e:y=sa+na-1
     ·rw[e];exact high x hx hx2
     ·exact C.trans (oa y (sa+na-1) hy (by omega) (by omega)) (high x hx hx2)
    rw[if_neg (by have:¬m=0:=by omega
                  simpa using this)]
    have sx:((arrOf st).extract (sa+k) (sa+na)).size=sa+na-(sa+k):=n6 (by omega)
    have sy:((arrOf st).extract (sa+na) (sa+na+m)).size=sa+na+m-(sa+na):=n6 (by omega)
    have oa':On blt (arrOf st) (sa+k) (sa+na):=oa.sub (by omega) (by omega)
    have ob':On blt (arrOf st) (sa+na) (sa+na+m):=ob.sub (by omega) (by omega)
    have tail:∀(res:Array Keyed) (st2:SortSt),Like (SortSt.mk' (kindOf st) (arrOf st) (((pendingOf st).setIfInBounds i (sa,na+nb,pa)).eraseIdxIfInBounds (i+1)) (gallopOf st) (failedOf st)) st2→res.toList.Perm (((arrOf st).extract (sa+k) (sa+na)).toList++((arrOf st).extract (sa+na) (sa+na+m)).toList)→PW blt res.toList→
      wpS (model prog w) A E s (modify (λs=>SortSt.mk' (kindOf s) (lay (arrOf s) (sa+k) res) (pendingOf s) (gallopOf s) (failedOf s))>>=λ_=>get>>=λx=>pure (failedOf x).isNone) Q st2:=λres st2 lk pm pw=>by
     have rs:res.size=na-k+m:=by
      have:=pm.length_eq
      rw[Qg,Q9,Q9,Q9,sx,sy]at this
      omega
     have rm:∀j,j<res.size→∃x,sa+k≤x∧x<sa+na+m∧g res j=g (arrOf st) x:=λj hj=>by
      have mem:g res j∈res.toList:=by have:=rC hj;simpa using this
      rcases Q7.mp (pm.mem_iff.mp mem)with q|q
      ·obtain⟨x,x1,x2,_,x4⟩:=cy q
       exact⟨x,by omega,by omega,x4⟩
      ·obtain⟨x,x1,x2,_,x4⟩:=cy q
       exact⟨x,by omega,by omega,x4⟩
     have fit:sa+k+res.size≤(arrOf st2).size:=by rw[lk.arr];show sa+k+res.size≤(arrOf st).size;omega
     refine wpS_bind (wpS_modify ?_)
     refine wpS_bind (wpS_get (wpS_pure ?_))
     have hg:∀x,g (lay (arrOf st2) (sa+k) res) x=if sa+k≤x∧x<sa+k+res.size then g res (x-(sa+k))else g (arrOf st) x:=λx=>by
      rw[Em fit,lk.arr]
     have ef:(failedOf st2).isNone=true:=by
      rw[lk.fail];show(failedOf st).isNone=true;rw[B.fine];rfl
     show Q (failedOf st2).isNone _
     rw[ef]
     have on:=yX pw
     refine h _ ⟨lk.kind.trans B.kind,lk.fail.trans B.fine,?_⟩ lk.pend ?_ ?_
     ·refine(zj fit ?_).trans (by rw[lk.arr];exact B.perm)
      rw[lk.arr]
      show res.toList.Perm (((arrOf st).toList.drop (sa+k)).take res.size)
      refine pm.trans (List.Perm.of_eq ?_)
      rw[Z9,Z9,QV,QV,rs,show sa+na-(sa+k)=na-k by omega,show sa+na+m-(sa+na)=m by omega,List.take_add,K4,show sa+k+(na-k)=sa+na by omega]
     ·intro x y hx hxy hy
      show le blt (g (lay (arrOf st2) (sa+k) res) x) (g (lay (arrOf st2) (sa+k) res) y)
      rw[hg x,hg y]
      by_cases y1:sa+k≤y∧y<sa+k+res.size
      ·rw[if_pos y1]
       by_cases x1:sa+k≤x∧x<sa+k+res.size
       ·rw[if_pos x1]
        exact on _ _ (Qh _) (by omega) (by omega)
       ·rw[if_neg x1]
        obtain⟨z,z1,z2,z3⟩:=rm (y-(sa+k)) (by omega)
        rw[z3]
        by_cases zz:z<sa+na
        ·exact oa x z hx (by omega) zz
        ·have:=lowB (x-sa) z (by omega) (by omega) (by omega)
         rwa [show sa+(x-sa)=x by omega]at this
      ·rw[if_neg y1]
       by_cases x1:sa+k≤x∧x<sa+k+res.size
       ·rw[if_pos x1]
        obtain⟨z,z1,z2,z3⟩:=rm (x-(sa+k)) (by omega)
        rw[z3]
        by_cases zz:z<sa+na
        ·exact highA z y (by omega) zz (by omega) (by omega)
        ·exact ob z y (by omega) (by omega) (by omega)
       ·rw[if_neg x1]
        by_cases yy:y<sa+na
        ·exact oa x y hx hxy yy
        ·by_cases xx:x<sa+na
         ·exact highA x y hx xx (by omega) (by omega)
         ·exact ob x y (by omega) hxy (by omega)
     ·intro x hx
      show g (lay (arrOf st2) (sa+k) res) x=g (arrOf st) x
      rw[hg x,if_neg (by omega)]
    by_cases c:na-k≤m
    ·rw[if_pos c]
     refine wpS_bind (uV L C B1.kind (λx hx=>?_) (sJ (by omega) oa') (sJ (by omega) ob') (by rw[sx];omega) (by rw[sy];omega) ?_ ?_ λres st2 lk pm pw=>?_)
     ·rcases Q7.mp hx with q|q
      ·obtain⟨j,_,_,hj3,rfl⟩:=cy q
       exact B.mem (by omega)
      ·obtain⟨j,_,_,hj3,rfl⟩:=cy q
       exact B.mem (by omega)
     ·rw[jf (by omega) (by omega),jf (by omega) (by omega)]
      exact first
     ·intro j hj
      rw[sy]at hj
      rw[sx,jf (by omega) (by omega),jf (by omega) (by omega),show sa+k+(sa+na-(sa+k)-1)=sa+na-1 by omega]
      exact hk2' j (by omega)
     ·exact tail res st2 lk pm pw
    ·rw[if_neg c]
     refine wpS_bind (uW L C B1.kind (λx hx=>?_) (sJ (by omega) oa') (sJ (by omega) ob') (by rw[sx];omega) (by rw[sy];omega) ?_ ?_ λres st2 lk pm pw=>?_)
     ·rcases Q7.mp hx with q|q
      ·obtain⟨j,_,_,hj3,rfl⟩:=cy q
       exact B.mem (by omega)
      ·obtain⟨j,_,_,hj3,rfl⟩:=cy q
       exact B.mem (by omega)
     ·rw[jf (by omega) (by omega),jf (by omega) (by omega)]
      exact first
     ·intro j hj
      rw[sy]at hj
      rw[sx,jf (by omega) (by omega),jf (by omega) (by omega),show sa+k+(sa+na-(sa+k)-1)=sa+na-1 by omega]
      exact hk2' j (by omega)
     ·exact tail res st2 lk pm pw
end
section
variable {blt:Keyed→Keyed→Bool}
def Stack (blt:Keyed→Keyed→Bool) (xs:Array Keyed):List (Nat×Nat×Nat)→Nat→Nat→Prop
 | [],f,t=>f=t
 |(st,len,_)::r,f,t=>st=f∧1≤len∧On blt xs st (st+len)∧Stack blt xs r (st+len) t
theorem Stack.le {xs:Array Keyed}:∀{l:List (Nat×Nat×Nat)} {f t:Nat},Stack blt xs l f t→f+l.length≤t
 | [],f,t,h=>by cases h;simp
 |(st,len,p)::r,f,t,h=>by
  obtain⟨rfl,h1,_,h3⟩:=h
  have:=Stack.le h3
  simp
  omega
theorem Stack.app {xs:Array Keyed}:∀{l r:List (Nat×Nat×Nat)} {f t:Nat},Stack blt xs (l++r) f t↔∃m,Stack blt xs l f m∧Stack blt xs r m t
 | [],r,f,t=>⟨λh=>⟨f,rfl,h⟩,λ⟨m,e,h⟩=>by cases e;exact h⟩
 |(st,len,p)::l,r,f,t=>by
  constructor
  ·rintro ⟨h1,h2,h3,h4⟩
   obtain⟨m,a,b⟩:=Stack.app.mp h4
   exact⟨m,⟨h1,h2,h3,a⟩,b⟩
  ·rintro ⟨m,⟨h1,h2,h3,a⟩,b⟩
   exact⟨h1,h2,h3,Stack.app.mpr ⟨m,a,b⟩⟩
theorem Stack.congr {xs ys:Array Keyed}:∀{l:List (Nat×Nat×Nat)} {f t:Nat},Stack blt xs l f t→(∀k,f≤k→k<t→g ys k=g xs k)→Stack blt ys l f t
 | [],f,t,h,_=>h
 |(st,len,p)::r,f,t,h,e=>by
  obtain⟨rfl,h1,h2,h3⟩:=h
  have:=h3.le
  exact⟨rfl,h1,h2.congr λk a b=>e k a (by omega),h3.congr λk a b=>e k (by omega) b⟩
theorem Stack.pw {xs:Array Keyed} {l:List (Nat×Nat×Nat)} {a b p q:Nat} {f t:Nat} (h:Stack blt xs (l++ [(a,b,p)]) f t):Stack blt xs (l++ [(a,b,q)]) f t:=by
 obtain⟨m,h1,h2⟩:=Stack.app.mp h
 exact Stack.app.mpr ⟨m,h1,h2⟩
theorem gJ {xs:Array Keyed} {p:Array (Nat×Nat×Nat)} {lo n q:Nat} (S:Stack blt xs p.toList 0 lo) (h:1≤n) (o:On blt xs lo (lo+n)):Stack blt xs (p.push (lo,n,q)).toList 0 (lo+n):=by
 rw[XD]
 exact Stack.app.mpr ⟨lo,S,rfl,h,o,rfl⟩
theorem ui {α:Type} (q:Array α) (x:α) (f:α→α):(q.push x).modify ((q.push x).size-1) f=q.push (f x):=by
 have e:(q.push x).size-1=q.size:=by simp
 rw[e]
 apply Array.ext
 ·simp
 ·intro i h1 h2
  rw[Array.getElem_modify]
  by_cases hi:q.size=i
  ·subst hi;simp
  ·rw[if_neg hi]
   have:i<q.size:=by simp at h2;omega
   rw[Xp this,Xp this]
theorem kE {xs:Array Keyed} {p:Array (Nat×Nat×Nat)} {lo pw:Nat} (z:1≤p.size) (S:Stack blt xs p.toList 0 lo):Stack blt xs (p.modify (p.size-1) λx=>(x.1,x.2.1,pw)).toList 0 lo:=by
 obtain⟨q,x,rfl⟩:∃q x,p=q.push x:=⟨p.pop,p[p.size-1],by
  apply Array.ext
  ·simp;omega
  ·intro i h1 h2
   by_cases hi:i<p.pop.size
   ·rw[Xp hi];simp
   ·have:i=p.size-1:=by simp at h2 hi;omega
    subst this
    rw[Array.getElem_push]
    rw[dif_neg (by simp)]⟩
 rw[ui,XD]
 rw[XD]at S
 obtain⟨a,b,c⟩:=x
 exact S.pw
theorem yB {α:Type} {l:List α} {i:Nat} {x y:α} (h1:l[i]?=some x) (h2:l[i+1]?=some y):∃p r,l=p++x::y::r∧p.length=i:=by
 obtain⟨a1,e1⟩:=Q4.mp h1
 obtain⟨a2,e2⟩:=Q4.mp h2
 refine⟨l.take i,l.drop (i+2),?_,by rw[Qm];omega⟩
 have d1:=Zm a1
 have d2:=Zm a2
 rw[e1]at d1
 rw[e2]at d2
 calc l=l.take i++l.drop i:=(QJ _ _).symm
  _=_:=by rw[d1,d2]
theorem zG {α:Type} {p r:List α} {x y v:α}:((p++x::y::r).set p.length v).eraseIdx (p.length+1)=p++v::r:=by
 rw[List.set_append_right _ _ (Q6 _),Nat.sub_self]
 rw[Xy (by omega),show p.length+1-p.length=1 by omega]
 rfl
end
section
variable {prog:Program} {w:World} {A:Around} {E:Value→Shared→Prop} {s:Shared} {a₀:Array Keyed} {κ:SortKind} {blt:Keyed→Keyed→Bool}
variable (L:qM prog w A E s a₀ κ blt)
include L
theorem lD {st:SortSt} {i lo:Nat} {Q:Bool→SortSt→Prop} (C:Cmp blt) (B:Base a₀ κ st) (S:Stack blt (arrOf st) (pendingOf st).toList 0 lo) (hlo:lo≤a₀.size) (hi:i+1<(pendingOf st).size)
  (h:∀st',Base a₀ κ st'→Stack blt (arrOf st') (pendingOf st').toList 0 lo→(pendingOf st').size+1=(pendingOf st).size→(∀k,lo≤k→g (arrOf st') k=g (arrOf st) k)→Q true st'):
  wpS (model prog w) A E s (mergeAt' i) Q st:=by
 have q1:(pendingOf st)[i]?=some ((pendingOf st)[i]'(by omega)):=getElem?_pos _ _ _
 have q2:(pendingOf st)[i+1]?=some ((pendingOf st)[i+1]'hi):=getElem?_pos _ _ _
 obtain⟨⟨sa,na,pa⟩,e1⟩:∃x,x=(pendingOf st)[i]'(by omega):=⟨_,rfl⟩
 obtain⟨⟨sb,nb,pb⟩,e2⟩:∃x,x=(pendingOf st)[i+1]'hi:=⟨_,rfl⟩
 rw[←e1]at q1
 rw[←e2]at q2
 have t1:=q1
 have t2:=q2
 rw[←QB]at t1 t2
 obtain⟨p,r,el,pl⟩:=yB t1 t2
 rw[el]at S
 obtain⟨m,S1,S2⟩:=Stack.app.mp S
 obtain⟨rfl,n1,o1,rfl,n2,o2,S3⟩:=S2
 have l3:=S3.le
 have l1:=S1.le
 refine uX L C B q1 q2 rfl n1 n2 (by omega) o1 o2 λst' B' hp on keep=>?_
 have ep:(pendingOf st').toList=p++(sa,na+nb,pa)::r:=by
  rw[hp,Array.toList_eraseIdxIfInBounds,K5,el,←pl,zG]
 have kz:∀k,k<sa∨sa+na+nb≤k→g (arrOf st') k=g (arrOf st) k:=λk hk=>keep k (by omega)
 refine h st' B' ?_ ?_ λk hk=>kz k (by omega)
 ·rw[ep]
  refine Stack.app.mpr ⟨sa,S1.congr λk a b=>kz k (.inl b),rfl,by omega,on,?_⟩
  rw[show sa+(na+nb)=sa+na+nb by omega]
  exact S3.congr λk a b=>kz k (.inr a)
 ·have a:=congrArg List.length ep
  have b:=congrArg List.length el
  simp at a b
  omega
theorem tN {st:SortSt} {Q:Unit→SortSt→Prop} (C:Cmp blt) (B:Base a₀ κ st) (hp:pendingOf st= #[]) (h2:1≤a₀.size)
  (h:∀st',Base a₀ κ st'→On blt (arrOf st') 0 a₀.size→Q () st'):wpS (model prog w) A E s sortRuns' Q st:=by
 rw[sortRuns'_eq]
 refine wpS_bind (wpS_get ?_)
 dsimp only
 have hsz:=B.size
 rw[hsz]
 refine wpS_bind (wpS_mono (wpS_forRange
  (I:=λi c st'=>∃lo,c=(none,lo)∧i≤lo∧lo≤a₀.size∧Base a₀ κ st'∧Stack blt (arrOf st') (pendingOf st').toList 0 lo)
  (Q:=λc st'=>c=(none,a₀.size)∧Base a₀ κ st'∧Stack blt (arrOf st') (pendingOf st').toList 0 a₀.size) ?step ?fin ⟨0,rfl,Q6 _,Qh _,B,by rw[hp];exact rfl⟩) ?post)
 case fin=>
  rintro c st' ⟨lo,rfl,h1,h3,B',S⟩
  have em:max 0 a₀.size=a₀.size:=QL (Qh _)
  rw[em]at h1
  have e:lo=a₀.size:=by omega
  subst e
  exact⟨rfl,B',S⟩
 case step=>
  rintro i c st' _ hi ⟨lo,rfl,h1,h3,B',S⟩
  dsimp only
  by_cases z:lo≥a₀.size
  ·rw[if_pos z]
   have e:lo=a₀.size:=by omega
   subst e
   exact wpS_pure ⟨rfl,B',S⟩
  ·rw[if_neg z]
   refine wpS_bind (yk L C B' (by omega) (by omega) λn st2 B2 p2 m1 m2 O2 k2=>?_)
   dsimp only
   have S2:Stack blt (arrOf st2) (pendingOf st2).toList 0 lo:=by
    rw[p2]
    exact S.congr λk _ b=>k2 k b
   by_cases small:n<minRun' a₀.size a₀.size 0
   ·rw[if_pos small]
    refine wpS_bind (wpS_lift (wpAny_rule ⟨rfl,?_⟩))
    refine wpS_bind (w5 L C B2 m1 (by omega) (by omega) O2 λst3 B3 p3 O3 k3=>?_)
    rw[if_neg (by decide)]
    have S3:Stack blt (arrOf st3) (pendingOf st3).toList 0 lo:=by
     rw[p3]
     exact S2.congr λk _ b=>k3 k b
    generalize hn:min (a₀.size-lo) (minRun' a₀.size a₀.size 0)=n' at O3
    have n1':1≤n':=by omega
    have n2':lo+n'≤a₀.size:=by omega
    refine wpS_bind (wpS_get ?_)
    cases eb:(pendingOf st3).back? with
    |none=>
     dsimp only
     exact wpS_bind (wpS_modify (wpS_pure ⟨lo+n',rfl,by omega,by omega,⟨B3.kind,B3.fine,B3.perm⟩,gJ S3 (by omega) O3⟩))
    |some tt=>
     obtain⟨s1,n1,p1⟩:=tt
     dsimp only
     have hsz3:1≤(pendingOf st3).size:=by
      rcases ZN (pendingOf st3).size with q|q
      ·rw[Array.size_eq_zero_iff.mp q]at eb
       cases eb
      ·exact q
     refine wpS_bind (wpS_mono (wpS_forRange (I:=λ_ c st4=>c=(none,())∧Base a₀ κ st4∧Stack blt (arrOf st4) (pendingOf st4).toList 0 lo∧On blt (arrOf st4) lo (lo+n')∧1≤(pendingOf st4).size)
      (Q:=λc st4=>c=(none,())∧Base a₀ κ st4∧Stack blt (arrOf st4) (pendingOf st4).toList 0 lo∧On blt (arrOf st4) lo (lo+n')∧1≤(pendingOf st4).size) ?_ (λ_ _ q=>q) ⟨rfl,B3,S3,O3,hsz3⟩) ?_)
     ·rintro j c st4 _ _ ⟨rfl,B4,S4,O4,z4⟩
      refine wpS_bind (wpS_get ?_)
      by_cases big:(pendingOf st4).size>1
      ·rw[if_pos big,getElem?_pos (pendingOf st4) ((pendingOf st4).size-2) (by omega)]
       obtain⟨⟨u1,u2,older⟩,eu⟩:∃x,x=(pendingOf st4)[(pendingOf st4).size-2]'(by(clear big hsz3 eb n2' n1' hn p3 small m2 m1 p2 z h3 h1 hi hsz h2 hp;omega (config:={}))):=⟨_,rfl⟩
       rw[←eu]
       dsimp only
       split
       ·exact wpS_pure ⟨rfl,B4,S4,O4,z4⟩
       ·refine wpS_bind (lD L C B4 S4 (by omega) (by omega) λst5 B5 S5 z5 k5=>?_)
        rw[if_neg (by decide)]
        exact wpS_pure ⟨rfl,B5,S5,O4.congr λk a b=>k5 k a,by omega⟩
      ·rw[if_neg big]
       exact wpS_pure ⟨rfl,B4,S4,O4,z4⟩
     ·rintro c st4 ⟨rfl,B4,S4,O4,z4⟩
      dsimp only
      refine wpS_bind (wpS_modify (wpS_bind (wpS_modify (wpS_pure ⟨lo+n',rfl,by omega,by omega,⟨B4.kind,B4.fine,B4.perm⟩,?_⟩))))
      exact gJ (kE z4 S4) (by omega) O4
   ·rw[if_neg small]
    have B3:=B2
    have S3:=S2
    have O3:=O2
    obtain⟨st3,e3⟩:∃x,x=st2:=⟨_,rfl⟩
    rw[←e3]at B3 S3 O3⊢
    refine wpS_bind (wpS_get ?_)
    cases eb:(pendingOf st3).back? with
    |none=>
     dsimp only
     exact wpS_bind (wpS_modify (wpS_pure ⟨lo+n,rfl,by omega,by omega,⟨B3.kind,B3.fine,B3.perm⟩,gJ S3 (by omega) O3⟩))
    |some tt=>
     obtain⟨s1,n1,p1⟩:=tt
     dsimp only
     have hsz3:1≤(pendingOf st3).size:=by
      rcases ZN (pendingOf st3).size with q|q
      ·rw[Array.size_eq_zero_iff.mp q]at eb
       cases eb
      ·exact q
     refine wpS_bind (wpS_mono (wpS_forRange (I:=λ_ c st4=>c=(none,())∧Base a₀ κ st4∧Stack blt (arrOf st4) (pendingOf st4).toList 0 lo∧On blt (arrOf st4) lo (lo+n)∧1≤(pendingOf st4).size)
      (Q:=λc st4=>c=(none,())∧Base a₀ κ st4∧Stack blt (arrOf st4) (pendingOf st4).toList 0 lo∧On blt (arrOf st4) lo (lo+n)∧1≤(pendingOf st4).size) ?_ (λ_ _ q=>q) ⟨rfl,B3,S3,O3,hsz3⟩) ?_)
     ·rintro j c st4 _ _ ⟨rfl,B4,S4,O4,z4⟩
      refine wpS_bind (wpS_get ?_)
      by_cases big:(pendingOf st4).size>1
      ·rw[if_pos big,getElem?_pos (pendingOf st4) ((pendingOf st4).size-2) (by omega)]
       obtain⟨⟨u1,u2,older⟩,eu⟩:∃x,x=(pendingOf st4)[(pendingOf st4).size-2]'(by omega (config:={})):=⟨_,rfl⟩
       rw[←eu]
       dsimp only
       split
       ·exact wpS_pure ⟨rfl,B4,S4,O4,z4⟩
       ·refine wpS_bind (lD L C B4 S4 (by omega) (by omega) λst5 B5 S5 z5 k5=>?_)
        rw[if_neg (by decide)]
        exact wpS_pure ⟨rfl,B5,S5,O4.congr λk a b=>k5 k a,by omega⟩
      ·rw[if_neg big]
       exact wpS_pure ⟨rfl,B4,S4,O4,z4⟩
     ·rintro c st4 ⟨rfl,B4,S4,O4,z4⟩
      dsimp only
      refine wpS_bind (wpS_modify (wpS_bind (wpS_modify (wpS_pure ⟨lo+n,rfl,by omega,by omega,⟨B4.kind,B4.fine,B4.perm⟩,?_⟩))))
      exact gJ (kE z4 S4) (by omega) O4
 case post=>
  rintro c st' ⟨rfl,B',S⟩
  dsimp only
  have lenS:=S.le
  refine wpS_bind (wpS_mono (wpS_forRange (I:=λi c st2=>c=(none,())∧Base a₀ κ st2∧Stack blt (arrOf st2) (pendingOf st2).toList 0 a₀.size∧(pendingOf st2).size+i≤a₀.size+1)
   (Q:=λc st2=>c=(none,())∧Base a₀ κ st2∧Stack blt (arrOf st2) (pendingOf st2).toList 0 a₀.size∧(pendingOf st2).size≤1) ?_ ?_ ⟨rfl,B',S,by rw[Q9]at lenS;omega⟩) ?_)
  ·rintro i c st2 _ hi ⟨rfl,B2,S2,z2⟩
   refine wpS_bind (wpS_get ?_)
   by_cases one:(pendingOf st2).size≤1
   ·rw[if_pos one]
    exact wpS_pure ⟨rfl,B2,S2,one⟩
   ·rw[if_neg one]
    generalize hix:(if Option.any _ _=true then(pendingOf st2).size-2-1 else(pendingOf st2).size-2)=ix
    have gen:∀bb:Bool,(if bb=true then(pendingOf st2).size-2-1 else(pendingOf st2).size-2)+1<(pendingOf st2).size:=λbb=>by
     cases bb with
     |true=>rw[if_pos rfl];omega
     |false=>rw[if_neg (by decide)];omega
    have hx:ix+1<(pendingOf st2).size:=by
     rw[←hix]
     exact gen _
    refine wpS_bind (lD L C B2 S2 (Q6 _) hx λst3 B3 S3 z3 k3=>?_)
    rw[if_neg (by decide)]
    exact wpS_pure ⟨rfl,B3,S3,by omega⟩
  ·rintro c st2 ⟨rfl,B2,S2,z2⟩
   have em:max 0 a₀.size=a₀.size:=QL (Qh _)
   rw[em]at z2
   exact⟨rfl,B2,S2,by omega⟩
  ·rintro c st2 ⟨rfl,B2,S2,z2⟩
   dsimp only
   refine wpS_pure (h st2 B2 ?_)
   match hl:(pendingOf st2).toList,S2 with
   | [],S2=>
    have e:0=a₀.size:=S2
    omega
   | [(a,b,p)],S2=>
    obtain⟨rfl,_,o,e⟩:=S2
    have e:0+b=a₀.size:=e
    rw[e]at o
    exact o
   |_::_::_,_=>
    have:=congrArg List.length hl
    simp at this
    omega
end
end Srt
namespace Srt
open PySem PyProof.Rows
section
variable {prog:Program} {w:World} {A:Around} {E:Value→Shared→Prop} {s:Shared} {κ:SortKind} {blt:Keyed→Keyed→Bool}
abbrev But (a:Addr) (s s':Shared):Prop:=∀b o,b≠a→s.heap.get? b=some o→s'.heap.get? b=some o
theorem lG {a:Addr} {vs:List Value} {n:Nat} {P:PySem.Fin→Shared→Prop} (ho:s.heap.get? a=some (seqObj "list" vs.toArray n)) (hz:vs.length≤sizeLine) (C:Cmp blt)
  (hkk:∀h':Heap,But a s {s with heap:=h'}→2≤vs.length→∀Q':SortKind→Shared→Prop,Q' κ {s with heap:=h'}→wpAny (model prog w) A (keyKind' vs.toArray) Q' E {s with heap:=h'})
  (L:∀h':Heap,But a s {s with heap:=h'}→qM prog w A E {s with heap:=h'} (pairsOf vs) κ blt)
  (h:∀out:Array Keyed,out.Perm (pairsOf vs)→PW blt out.toList→P (.done (.ret .none)) {s with heap:=sortedHeap s.heap a vs (out.map (·.2))}):wpAny (model prog w) A (Builtin.«list.sort» ⟨[.ref a],[]⟩) P E s:=by
 have hv:vs.toArray.size=vs.length:=Qi
 have ha:=Heap.lt_size ho
 rw[list_sort_plain]
 refine wpAny_bind (listItems_at ho rfl (wpAny_bind (listUpdate_at ho rfl ?_ (hsz:=by rw[hv];exact hz))))
 obtain⟨e1,ho1⟩:∃k,(s.heap.update a (Obj.mapSeq λ_=> #[])).get? a=some (seqObj "list" #[] k):=⟨_,get?_update_seq ho (λ_=> #[])⟩
 refine wpAny_bind (seqEpoch_at ho1 rfl (wpAny_bind (wpAny_newTuple ?_ (hsz:=hz))))
 refine wpAny_bind (wpAny_newList (wpAny_holding ?_))
 generalize hh:((s.heap.update a (Obj.mapSeq λ_=> #[])).push (seqObj "tuple" vs.toArray 0)).push (seqObj "list" #[] 0)=h6
 have up:∀b o,(s.heap.update a (Obj.mapSeq λ_=> #[])).get? b=some o→h6.get? b=some o:=λb o e=>by
  rw[←hh]
  exact Heap.get?_push_of_some _ (Heap.get?_push_of_some _ e)
 have ho6:=up a _ ho1
 have but:But a s {s with heap:=h6}:=λb o hb e=>up b o (by exact(Heap.get?_update_other _ _ (Ne.symm hb)).trans e)
 have fin:∀out:Array Keyed,out.Perm (pairsOf vs)→PW blt out.toList→P (.done (.ret .none)) {s with heap:=h6.update a (Obj.mapSeq λ_=>out.map (·.2))}:=λout p q=>by
  have:=h out p q
  unfold sortedHeap at this
  rw[hh]at this
  exact this
 have hsz2:∀out:Array Keyed,out.Perm (pairsOf vs)→(out.map (·.2)).size≤sizeLine+1:=λout p=>by
  have:=p.size_eq
  rw[pairsOf_size]at this
  rw[Array.size_map]
  omega
 dsimp only
 by_cases h2:vs.toArray.size<2
 ·rw[if_pos h2,if_pos h2]
  refine wpAny_bind (wpAny_pure ?_)
  rw[StateT.run_pure]
  refine wpAny_bind (wpAny_pure ?_)
  dsimp only
  have pr:(SortSt.mk' general' (vs.toArray.zip vs.toArray) #[] 7 none|>arrOf).Perm (pairsOf vs):=Array.Perm.refl _
  refine wpAny_bind (seqEpoch_at ho6 rfl (wpAny_bind (listUpdate_at ho6 rfl ?_ (hsz:=Qh _) (hsz2:=hsz2 _ pr))))
  simp only[bne_self_eq_false,QM,if_false]
  refine wpAny_pure (fin _ pr ?_)
  have l1:(vs.toArray.zip vs.toArray).toList.length≤1:=by simp at h2⊢;omega
  show PW blt (vs.toArray.zip vs.toArray).toList;revert l1
  generalize (vs.toArray.zip vs.toArray).toList=l
  rcases l with _|⟨x,_|⟨y,t⟩⟩<;>intro l1<;>first|exact List.Pairwise.nil|exact Z1 _ _|exact absurd l1 (Nat.not_le_of_lt (Nat.succ_lt_succ (Nat.succ_pos _)))
 ·rw[if_neg h2,if_neg h2]
  refine wpAny_bind (hkk h6 but (by omega) _ ?_)
  refine wpAny_bind (wpAny_mono (tN (L h6 but) (st:=SortSt.mk' κ (vs.toArray.zip vs.toArray) #[] 7 none) (Q:=λ_ st'=>Base (pairsOf vs) κ st'∧On blt (arrOf st') 0 (pairsOf vs).size) C
   ⟨rfl,rfl,Array.Perm.refl _⟩ rfl (by rw[pairsOf_size];omega) λst' B O=>⟨B,O⟩) ?_ λ_ _ e=>e)
  rintro ⟨⟨⟩,st'⟩ s' ⟨rfl,B,O⟩
  dsimp only
  refine wpAny_bind (seqEpoch_at ho6 rfl (wpAny_bind (listUpdate_at ho6 rfl ?_ (hsz:=Qh _) (hsz2:=hsz2 _ B.perm))))
  rw[B.fine]
  simp only[bne_self_eq_false,QM,if_false]
  refine wpAny_pure (fin _ B.perm ?_)
  have:=dU (a:=arrOf st') (blt:=blt) (by rw[B.size];exact O) 0
  rwa [ZD]at this
theorem sorted_any {l:Addr} {vs:List Value} {Q:Value→Shared→Prop} (hl:s.heap.IsList l vs.toArray) (hz:vs.length≤sizeLine) (C:Cmp blt)
  (hkk:∀h':Heap,(∀b o,s.heap.get? b=some o→h'.get? b=some o)→2≤vs.length→∀Q':SortKind→Shared→Prop,Q' κ {s with heap:=h'}→wpAny (model prog w) A.in1.in1 (keyKind' vs.toArray) Q' (λ_ _=>False) {s with heap:=h'})
  (L:∀h':Heap,(∀b o,s.heap.get? b=some o→h'.get? b=some o)→qM prog w A.in1.in1 (λ_ _=>False) {s with heap:=h'} (pairsOf vs) κ blt)
  (h:∀out:Array Keyed,out.Perm (pairsOf vs)→PW blt out.toList→Q (.ref (s.heap.objs.size+1)) {s with heap:=sortedAll s.heap vs (out.map (·.2))}):wpAny (model prog w) A (call (.builtin "sorted") [.ref l]) Q E s:=by
 refine Calls.call_function_entry kind_sorted plain_sorted entry_sorted (args_sorted1 _) ?_
 unfold Builtin.«sorted»
 refine wpAny_bind (m:=checkCount "sorted" 1 1 _) (wpAny_pure (wpAny_bind (collect_list hl ?_ (hsz:=hz))))
 refine wpAny_bind (wpAny_newList ?_ (hsz:=hz))
 generalize hh:(s.heap.push (seqObj "list" #[] 0)).update s.heap.objs.size (Obj.mapSeq (· ++vs.toArray))=h1
 have hs1:h1.objs.size=s.heap.objs.size+1:=by rw[←hh,Heap.size_update,size_push']
 have old:∀b o,s.heap.get? b=some o→(h1.push (seqObj "list" vs.toArray 0)).get? b=some o:=λb o e=>by
  refine Heap.get?_push_of_some _ ?_
  rw[←hh]
  exact(Heap.get?_update_other _ _ (Ne.symm (Qw (Heap.lt_size e)))).trans (Heap.get?_push_of_some _ e)
 have new:(h1.push (seqObj "list" vs.toArray 0)).get? (s.heap.objs.size+1)=some (seqObj "list" vs.toArray 0):=by
  rw[←hs1]
  exact Heap.get?_push_size _ rfl
 have keep:∀h':Heap,But (s.heap.objs.size+1) {s with heap:=h1.push (seqObj "list" vs.toArray 0)} {s with heap:=h'}→∀b o,s.heap.get? b=some o→h'.get? b=some o:=λh' k b o e=>
  k b o (Qw (XE (Heap.lt_size e))) (old b o e)
 show wpAny _ _ _ _ _ {s with heap:=h1.push (seqObj "list" vs.toArray 0)}
 rw[hs1]
 refine wpAny_bind (wpAny_holding (wpAny_mono (wpAny_call_entry (E:=λ_ _=>False) slot_list_sort ⟨_,new,rfl⟩ entry_list_sort (lG (κ:=κ) (blt:=blt) new hz C (λh' k=>hkk h' (keep h' k)) (λh' k=>L h' (keep h' k)) λout p q=>⟨_,rfl,?_⟩) (args_list_sort _)) (λ_ _ q=>q) λ_ _ f=>f.elim))
 refine wpAny_pure ⟨_,rfl,?_⟩
 have:=h out p q
 unfold sortedAll at this
 rw[hh]at this
 exact this
end
end Srt
namespace Srt
open PySem PyProof.Rows
theorem ur:∀(a b:List Int),HT.lexLt a b=true→HT.lexLt b a=false
 | [],[],h=>rfl
 | [],_::_,_=>rfl
 |_::_,[],h=>by rw[HT.lexLt_cons_nil]at h;cases h
 |x::xs,y::ys,h=>by
  rw[HT.lexLt_cons]at h⊢
  by_cases e:x=y
  ·rw[if_pos e]at h
   rw[if_pos e.symm]
   exact ur xs ys h
  ·rw[if_neg e]at h
   rw[if_neg (Ne.symm e)]
   have:=of_decide_eq_true h
   exact decide_eq_false (by omega)
theorem zi:∀(a b c:List Int),HT.lexLt b a=false→HT.lexLt c b=false→HT.lexLt c a=false
 | [],b,[],_,_=>rfl
 |x::xs,[],c,h,_=>by rw[HT.lexLt_nil_cons]at h;cases h
 |a,y::ys,[],_,h=>by rw[HT.lexLt_nil_cons]at h;cases h
 | [],_,_::_,_,_=>HT.lexLt_cons_nil _ _
 |x::xs,y::ys,z::zs,h1,h2=>by
  rw[HT.lexLt_cons]at h1 h2⊢
  by_cases e1:y=x
  ·rw[if_pos e1]at h1
   by_cases e2:z=y
   ·rw[if_pos e2]at h2
    rw[if_pos (e2.trans e1)]
    exact zi xs ys zs h1 h2
   ·rw[if_neg e2]at h2
    rw[if_neg (by rw[←e1];exact e2)]
    have:=of_decide_eq_false h2
    exact decide_eq_false (by omega)
  ·rw[if_neg e1]at h1
   have g1:=of_decide_eq_false h1
   by_cases e2:z=y
   ·rw[if_pos e2]at h2
    rw[if_neg (by omega)]
    exact decide_eq_false (by omega)
   ·rw[if_neg e2]at h2
    have g2:=of_decide_eq_false h2
    by_cases e3:z=x
    ·omega
    ·rw[if_neg e3]
     exact decide_eq_false (by omega)
theorem cmp_of (k:Keyed→List Int):Cmp λp q=>HT.lexLt (k p) (k q):=⟨λx y h=>ur _ _ h,λx y z h1 h2=>zi _ _ _ h1 h2⟩
theorem runs_of {prog:Program} {w:World} {A:Around} {E:Value→Shared→Prop} {s:Shared} {a₀:Array Keyed} {κ:SortKind} {blt:Keyed→Keyed→Bool}
  (h:∀(x y:Keyed) (E':Value→Shared→Prop) (Q:Bool→Shared→Prop),x∈a₀→y∈a₀→Q (blt x y) s→wpAny (model prog w) A (keyLt' κ x.1 y.1) Q E' s):qM prog w A E s a₀ κ blt:=by
 intro x y st Q hx hy hk q
 rw[lt'_eq]
 refine wpS_bind (wpS_get ?_)
 rw[hk]
 refine wpS_bind (wpS_lift (wpAny_attempt (h x y _ _ hx hy ⟨rfl,?_⟩)))
 exact wpS_pure q
end Srt
namespace L2
open PySem PySem.Spec PyProof.Rows
def unV (u:Value):V:=(absV u).getD .non
theorem nq {x:V} {u:Value} (r:RelV x u):unV u=x:=by unfold unV;rw[r.abs];rfl
theorem se:∀{xs:List V} {us:List Value},Vals xs us→us.map unV=xs
 |_,_,.nil=>rfl
 |_,_,.cons r t=>by rw[Qr,nq r,se t]
theorem hX {xs:List V} {us:List Value} (h:Vals xs us) {u:Value} (hu:u∈us):∃x∈xs,RelV x u:=by
 induction h with
 |nil=>exact absurd hu QU
 |cons r t ih=>
  rcases Qe.mp hu with e|e
  ·subst e;exact⟨_,Q8,r⟩
  ·obtain⟨x,h1,h2⟩:=ih e
   exact⟨x,Qa _ h1,h2⟩
theorem sf:∀{us:List Value},(∀u∈us,RelV (unV u) u)→Vals (us.map unV) us
 | [],_=> .nil
 |u::r,h=> .cons (h u Q8) (sf λv hv=>h v (Qa _ hv))
section
variable {X:Cx}
theorem qT {pins:List (Addr×Obj)} {s:Shared} {σ:St} {H:Hp} {Q:VK} {p:Addr} {xs:List V} {its:List Value} {κ:SortKind} {ky:V→List Int} (I:Inv X pins σ H s) (hz:xs.length≤sizeLine) (rv:Vals xs its) (hl:s.heap.IsList p its.toArray)
  (hkk:∀h':Heap,(∀b o,s.heap.get? b=some o→h'.get? b=some o)→2≤its.length→∀Q':SortKind→Shared→Prop,Q' κ {s with heap:=h'}→wpAny (model X.prog X.w) X.A.in1.in1 (keyKind' its.toArray) Q' (λ_ _=>False) {s with heap:=h'})
  (hlt:∀h':Heap,(∀b o,s.heap.get? b=some o→h'.get? b=some o)→∀(x y:V) (u v:Value) (E':Value→Shared→Prop) (Q':Bool→Shared→Prop),x∈xs→y∈xs→RelV x u→RelV y v→Q' (HT.lexLt (ky x) (ky y)) {s with heap:=h'}→wpAny (model X.prog X.w) X.A.in1.in1 (keyLt' κ u v) Q' E' {s with heap:=h'})
  (q:∀l ys,H l=none→ys.Perm xs→ys.Pairwise (λa b=>HT.lexLt (ky b) (ky a)=false)→Q (.ref l) (upd H l (.lst ys))):
  wpAny (model X.prog X.w) X.A (call (.builtin "sorted") [.ref p]) (EP X pins σ Q) X.xe s:=by
 have hi:its.length≤sizeLine:=by rw[←rv.length];exact hz
 have mem:∀z:Keyed,z∈pairsOf its→z.1=z.2∧z.1∈its:=λz hz=>by
  have:z∈(pairsOf its).toList:=by simpa using hz
  rw[pairsOf_toList]at this
  exact mem_zip_self this
 refine Srt.sorted_any (κ:=κ) (blt:=λa b=>HT.lexLt (ky (unV a.1)) (ky (unV b.1))) hl hi (Srt.cmp_of λa=>ky (unV a.1)) hkk (λh' k=>Srt.runs_of λx y E' Q' hx hy q'=>?_) λout pm pw=>?_
 ·obtain⟨x',hx1,hx2⟩:=hX rv (mem x hx).2
  obtain⟨y',hy1,hy2⟩:=hX rv (mem y hy).2
  rw[nq hx2,nq hy2]at q'
  exact hlt h' k x' y' x.1 y.1 E' Q' hx1 hy1 hx2 hy2 q'
 ·have pml:out.toList.Perm (its.zip its):=by
   have:=ZE.mp pm
   rwa [pairsOf_toList]at this
  have eqs:∀z∈out.toList,z.1=z.2∧z.1∈its:=λz hz=>mem_zip_self (pml.mem_iff.mp hz)
  have e2:(out.map (·.2)).toList=out.toList.map (·.2):=XJ
  have pv:((out.map (·.2)).toList).Perm its:=by
   rw[e2]
   refine(pml.map _).trans (List.Perm.of_eq ?_)
   exact XM (Q6 _)
  have hu:∀u∈(out.map (·.2)).toList,RelV (unV u) u:=λu hu=>by
   obtain⟨x,_,r⟩:=hX rv (pv.mem_iff.mp hu)
   rw[nq r]
   exact r
  have vy:=sf hu
  have fresh:H (s.heap.objs.size+1)=none:=I.hok.fresh (Z4 _)
  have py:((out.map (·.2)).toList.map unV).Perm xs:=by
   rw[←se rv]
   exact pv.map _
  obtain⟨e,at_⟩:=sortedAll_at s.heap its (out.map (·.2))
  refine⟨.ref (s.heap.objs.size+1),upd H (s.heap.objs.size+1) (.lst ((out.map (·.2)).toList.map unV)),I.laid (t':=s.toks) (λb o q=>sortedAll_old q) (Z4 _) ⟨?_,_,e,vy,?_⟩,rfl,q _ _ fresh py ?_⟩
  ·rw[py.length_eq];exact hz
  ·rw[at_,ZY]
  ·rw[e2,Qy]
   refine Qp.mpr (pw.imp_of_mem λ{a b} ha hb h=>?_)
   show HT.lexLt (ky (unV b.2)) (ky (unV a.2))=false
   rw[←(eqs a ha).1,←(eqs b hb).1]
   exact h
def sU:V→List Int
 | .int i=> [i]
 |_=> []
theorem xr {ns:List Int} {ys:List V} (h:ys.Perm (ns.map V.int)):∃ms:List Int,ys=ms.map V.int∧ms.Perm ns:=by
 have e:ys=(ys.map λy=>match y with| .int i=>i|_=>0).map V.int:=by
  rw[Qy]
  refine(XF ys).symm.trans (Zd λy hy=>?_)
  obtain⟨i,_,rfl⟩:=Qb.mp (h.mem_iff.mp hy)
  rfl
 refine⟨_,e,?_⟩
 refine(h.map λy=>match y with| .int i=>i|_=>0).trans (List.Perm.of_eq ?_)
 rw[Qy]
 exact XF ns
def K2 (H:Hp) (a:Addr) (k:List Int):Prop:=∃i j:Int,H a=some (.tup [.int i,.int j])∧k=[i,j]
def kRef (ky:Addr→List Int):V→List Int
 | .ref a=>ky a
 |_=> []
theorem qX {as:List Addr} {ys:List V} (h:ys.Perm (as.map V.ref)):∃bs:List Addr,ys=bs.map V.ref∧bs.Perm as:=by
 have e:ys=(ys.map λy=>match y with| .ref i=>i|_=>0).map V.ref:=by
  rw[Qy]
  refine(XF ys).symm.trans (Zd λy hy=>?_)
  obtain⟨i,_,rfl⟩:=Qb.mp (h.mem_iff.mp hy)
  rfl
 refine⟨_,e,?_⟩
 refine(h.map λy=>match y with| .ref i=>i|_=>0).trans (List.Perm.of_eq ?_)
 rw[Qy]
 exact XF as
theorem lF {pins:List (Addr×Obj)} {s:Shared} {σ:St} {H:Hp} {a:Addr} {xs:List V} (I:Inv X pins σ H s) (h:H a=some (.tup xs)) {h':Heap} (k:∀b o,s.heap.get? b=some o→h'.get? b=some o):
  ∃(o:Obj) (its:List Value) (n:Nat),Vals xs its∧h'.get? a=some o∧o.cls= .type "tuple"∧o.data= .seq its.toArray n:=by
 obtain⟨_,its,rv,o,e,c,n,d⟩:=(show ObjOk X.prog X.w H s.heap a (.tup xs) from I.hok a _ h)
 exact⟨o,its,n,rv,k _ _ e,c,d⟩
theorem u7 {x y:V} {its:List Value} (r:Vals [x,y] its):∃u v,its=[u,v]∧RelV x u∧RelV y v:=j8 r
theorem tq:eJ X (.builtin "sorted") (λvs H Q=>∃(p:Addr) (as:List Addr) (ky:Addr→List Int),vs=[.ref p]∧SqL X.K H p (as.map V.ref)∧(∀a∈as,K2 H a (ky a))∧
  ∀(l:Addr) (bs:List Addr),H l=none→bs.Perm as→bs.Pairwise (λa b=>HT.lexLt (ky b) (ky a)=false)→Q (.ref l) (upd H l (.lst (bs.map V.ref)))):=by
 intro pins s σ H xs us Q I r h
 obtain⟨p,as,ky,rfl,hq,hk,q⟩:=h
 obtain⟨u,rfl,ru⟩:=j9 r
 cases ru
 obtain⟨its,rv,pl,hz⟩:=I.list hq
 refine qT (κ:=tuples' (Value.type "int" !=Value.type "tuple")) (ky:=kRef ky) I hz rv pl.isList (λh' k h2 Q' hQ=>?_) (λh' k x y u v E' Q' hx hy rx ry hQ=>?_) λl ys hl pm pw=>?_
 ·have tups:∀(bs:List Addr) (ws:List Value),(∀a∈bs,K2 H a (ky a))→Vals (bs.map V.ref) ws→∃fs:List Value,PySem.W.KatTups h' ws fs∧(∀f∈fs,∃i t,f=Value.int i t)∧fs.length=ws.length:=by
   intro bs
   induction bs with
   |nil=>intro ws _ r;cases r;exact⟨[],.nil,λ_ h=>absurd h QU,rfl⟩
   |cons a bs ih=>
    intro ws hk r
    cases r with
    |cons r1 r2=>
     cases r1
     obtain⟨fs,t,hi,hl⟩:=ih _ (λb hb=>hk b (Qa _ hb)) r2
     obtain⟨i,j,ha,_⟩:=hk a Q8
     obtain⟨o,its2,n,rv2,e,c,d⟩:=lF I ha k
     obtain⟨u1,u2,rfl,q1,q2⟩:=u7 rv2
     obtain⟨t1,rfl⟩:=q1
     refine⟨Value.int i t1::fs,.cons e c d rfl t,λf hf=>?_,by rw[Qf,Qf,hl]⟩
     rcases Qe.mp hf with z|z
     ·exact⟨i,t1,z⟩
     ·exact hi f z
  obtain⟨fs,t,hi,hl⟩:=tups as its hk rv
  refine XQ (T:= .type "int") t (by omega) (λv hv=>?_) (by decide+kernel) hQ
  obtain⟨i,t,rfl⟩:=hi v hv
  exact PySem.W.Looks.of_pure rfl
 ·obtain⟨a,ha,rfl⟩:=Qb.mp hx
  obtain⟨b,hb,rfl⟩:=Qb.mp hy
  cases rx
  cases ry
  obtain⟨i,j,ea,ka⟩:=hk a ha
  obtain⟨i',j',eb,kb⟩:=hk b hb
  have hQ:Q' (HT.lexLt (ky a) (ky b)) {s with heap:=h'}:=hQ
  rw[ka,kb,HT.lexLt_cons,HT.lexLt_cons,HT.lexLt_nil_nil]at hQ
  obtain⟨o,its1,n,rv1,e1,c1,d1⟩:=lF I ea k
  obtain⟨u1,u2,rfl,⟨t1,rfl⟩,⟨t2,rfl⟩⟩:=u7 rv1
  obtain⟨o',its2,n',rv2,e2,c2,d2⟩:=lF I eb k
  obtain⟨w1,w2,rfl,⟨t3,rfl⟩,⟨t4,rfl⟩⟩:=u7 rv2
  refine K7 e1 d1 e2 d2 (Zw (SeqAt.EqAt.int_int _ _ _ _ _ _ _ _ (ZF (λe=>Zy ?_) (λe=>ZG ?_))))
  ·rw[if_pos (beq_iff_eq.mp e)]at hQ
   refine Zw (SeqAt.EqAt.int_int _ _ _ _ _ _ _ _ (ZF (λe=>Zy ?_) (λe=>ZG ?_)))
   ·rw[if_pos (beq_iff_eq.mp e)]at hQ
    exact XV (by simpa using hQ)
   ·rw[if_neg (beq_eq_false_iff_ne.mp e)]at hQ
    exact Xk _ _ (lt_int hQ)
  ·rw[if_neg (beq_eq_false_iff_ne.mp e)]at hQ
   exact oneLt_int hQ
 ·obtain⟨bs,rfl,pm'⟩:=qX pm
  exact q l bs hl pm' (Qp.mp pw)
end
end L2
namespace Srt
open PySem PyProof.Rows
section
variable {prog:Program} {w:World} {A:Around} {E:Value→Shared→Prop} {s:Shared} {κ:SortKind} {blt:Keyed→Keyed→Bool}
theorem sorted_src {r:Value} {G:List Value→Prop} {Q:Value→Shared→Prop}
  (hc:∀(R:List Value→Shared→Prop) (E':Value→Shared→Prop),(∀(h1:Heap) (tk:Nat) (vs:List Value),(∀b o,s.heap.get? b=some o→h1.get? b=some o)→G vs→R vs {s with heap:=h1,toks:=tk})→wpAny (model prog w) A.in1 (collect r) R E' s)
  (hz:∀vs,G vs→vs.length≤sizeLine) (C:Cmp blt)
  (hkk:∀(vs:List Value) (h':Heap) (tk:Nat),G vs→(∀b o,s.heap.get? b=some o→h'.get? b=some o)→2≤vs.length→∀Q':SortKind→Shared→Prop,Q' κ {s with heap:=h',toks:=tk}→wpAny (model prog w) A.in1.in1 (keyKind' vs.toArray) Q' (λ_ _=>False) {s with heap:=h',toks:=tk})
  (L:∀(vs:List Value) (h':Heap) (tk:Nat),G vs→(∀b o,s.heap.get? b=some o→h'.get? b=some o)→qM prog w A.in1.in1 (λ_ _=>False) {s with heap:=h',toks:=tk} (pairsOf vs) κ blt)
  (h:∀(vs:List Value) (h1 h2:Heap) (tk e:Nat) (out:Array Keyed),G vs→(∀b o,s.heap.get? b=some o→h1.get? b=some o)→(∀b o,h1.get? b=some o→h2.get? b=some o)→h2.get? h1.objs.size=some (seqObj "list" (out.map (·.2)) e)→out.Perm (pairsOf vs)→PW blt out.toList→Q (.ref h1.objs.size) {s with heap:=h2,toks:=tk}):
  wpAny (model prog w) A (call (.builtin "sorted") [r]) Q E s:=by
 refine Calls.call_function_entry kind_sorted plain_sorted entry_sorted (args_sorted1 _) ?_
 unfold Builtin.«sorted»
 refine wpAny_bind (m:=checkCount "sorted" 1 1 _) (wpAny_pure (wpAny_bind (hc _ _ λh1 tk vs k1 g=>?_)))
 refine wpAny_bind (wpAny_newList ?_ (hsz:=hz vs g))
 have new:(h1.push (seqObj "list" vs.toArray 0)).get? h1.objs.size=some (seqObj "list" vs.toArray 0):=Heap.get?_push_size _ rfl
 have keep:∀h':Heap,But h1.objs.size {s with heap:=h1.push (seqObj "list" vs.toArray 0),toks:=tk} {s with heap:=h',toks:=tk}→∀b o,s.heap.get? b=some o→h'.get? b=some o:=λh' k b o e=>
  k b o (Qw (Heap.lt_size (k1 b o e))) (Heap.get?_push_of_some _ (k1 b o e))
 show wpAny _ _ _ _ _ {s with heap:=h1.push (seqObj "list" vs.toArray 0),toks:=tk}
 refine wpAny_bind (wpAny_holding (wpAny_mono (wpAny_call_entry (E:=λ_ _=>False) slot_list_sort ⟨_,new,rfl⟩ entry_list_sort (lG (s:={s with heap:=h1.push (seqObj "list" vs.toArray 0),toks:=tk}) (κ:=κ) (blt:=blt) new (hz vs g) C (λh' k=>hkk vs h' tk g (keep h' k)) (λh' k=>L vs h' tk g (keep h' k)) λout p q=>⟨_,rfl,?_⟩) (args_list_sort _)) (λ_ _ q=>q) λ_ _ f=>f.elim))
 refine wpAny_pure ⟨_,rfl,?_⟩
 obtain⟨e,at_⟩:=sortedHeap_at (out:=out.map (·.2)) new
 refine h vs h1 _ tk e out g k1 (λb o q=>?_) at_ p q
 have lt:=Heap.lt_size q
 rw[sortedHeap_old (Qw lt) (by rw[size_push'];exact XE lt)]
 exact Heap.get?_push_of_some _ q
end
end Srt
namespace L2
open PySem PySem.Spec PyProof.Rows
section
variable {X:Cx}
theorem sT {P:Program} {w:World} {k:Key} {v:Value} (h:(aU P w).is k v=true):RelV (kV k) v:=by
 rw[vz]at h
 cases k with
 |inl i=>
  cases v with
  |int j t=>exact⟨t,by simp[iE,Value.isInt]at h;rw[h]⟩
  |_=>simp[iE,Value.isInt]at h
 |inr x=>
  cases v with
  |str y t=>exact⟨t,by simp[iE,Value.isStrOf]at h;rw[h]⟩
  |_=>simp[iE,Value.isStrOf]at h
def iD (kvs:List (Key×V)):List V:=kvs.map λp=>kV p.1
theorem uY {kvs:List (Key×V)} {vs:List (Key×Value)} {acc:List Value} {P:Program} {w:World} (rel:KV kvs vs) (hl:acc.length=vs.length)
  (hv:∀(j:Nat) (v:Value),acc[j]?=some v→∃k x,vs[j]?=some (k,x)∧(aU P w).is k v=true):Vals (iD kvs) acc:=by
 induction rel generalizing acc with
 |nil=>cases acc with
  |nil=>exact .nil
  |cons a b=>simp at hl
 |cons r t ih=>
  rename_i p q ps qs
  cases acc with
  |nil=>simp at hl
  |cons a b=>
   refine .cons ?_ (ih (by simpa using hl) λj v e=>?_)
   ·obtain⟨k,x,e1,e2⟩:=hv 0 a rfl
    simp at e1
    subst e1
    show RelV (kV p.1) a
    rw[r.1]
    exact sT e2
   ·exact hv (j+1) v (by simpa using e)
theorem mq {pins:List (Addr×Obj)} {s:Shared} {σ:St} {H:Hp} {Q:VK} {T:String} {r d:Addr} {OK:Heap→Prop} {kvs:List (Key×V)} {vs:List (Key×Value)} {ns:List Int} (hh:X.A.handled=none) (I:Inv X pins σ H s) (rel:KV kvs vs) (z:kvs.length≤sizeLine)
  (src:PySem.W.KdlSrc X.prog X.w T r d vs.length (λi v=>∃k x,vs[i]?=some (k,x)∧(aU X.prog X.w).is k v=true) OK) (hok:OK s.heap) (hns:iD kvs=ns.map V.int)
  (q:∀(l:Addr) (ms:List Int),H l=none→ms.Perm ns→ms.Pairwise (· ≤ ·)→Q (.ref l) (upd H l (.lst (ms.map V.int)))):wpAny (model X.prog X.w) X.A (call (.builtin "sorted") [.ref r]) (EP X pins σ Q) X.xe s:=by
 have hlen:kvs.length=vs.length:=rel.length
 have hlk:(iD kvs).length=kvs.length:=Q0 _
 have allI:∀its:List Value,Vals (iD kvs) its→∀v∈its,∃i t,v=Value.int i t:=λits rv v hv=>by
  obtain⟨x,hx,rx⟩:=hX rv hv
  rw[hns]at hx
  obtain⟨i,_,rfl⟩:=Qb.mp hx
  obtain⟨t,e⟩:=rx
  exact⟨i,t,e⟩
 have mem:∀(its:List Value) (z:Keyed),z∈pairsOf its→z.1=z.2∧z.1∈its:=λits z hz=>by
  have:z∈(pairsOf its).toList:=by simpa using hz
  rw[pairsOf_toList]at this
  exact mem_zip_self this
 refine Srt.sorted_src (G:=λits=>Vals (iD kvs) its) (κ:=oneType') (blt:=λa b=>HT.lexLt (sU (unV a.1)) (sU (unV b.1))) (λR E' k=>?_) (λits rv=>by rw[←rv.length,hlk];exact z) (Srt.cmp_of λa=>sU (unV a.1))
  (λits h' tk rv k h2 Q' hQ=>?_) (λits h' tk rv k=>Srt.runs_of λx y E' Q' hx hy hQ=>?_) (λits h1 h2 tk e out rv k1 k2 at_ pm pw=>?_)
 ·refine PySem.W.kdu_collect src hh hok (by omega) λh' tk acc hk hacc=>k h' tk acc.toList hk ?_
  exact uY rel (by rw[Q9];exact hacc.1) λj v e=>hacc.2 j v (by rw[←QB];exact e)
 ·refine PySem.W.kas_kind (T:= .type "int") h2 (λv hv=>?_) (by decide+kernel) (by decide+kernel) hQ
  obtain⟨i,t,rfl⟩:=allI its rv v hv
  exact PySem.W.Looks.of_pure rfl
 ·obtain⟨i,t,e1⟩:=allI its rv _ (mem its x hx).2
  obtain⟨j,t',e2⟩:=allI its rv _ (mem its y hy).2
  rw[e1,e2]at hQ⊢
  refine PySem.W.kat_lt_int ?_
  have e:HT.lexLt (sU (unV (.int i t))) (sU (unV (.int j t')))=decide (i<j):=by
   show HT.lexLt [i] [j]=_
   rw[HT.lexLt_cons]
   by_cases z:i=j
   ·rw[if_pos z,HT.lexLt_nil_nil,decide_eq_false (by omega)]
   ·rw[if_neg z]
  rw[e]at hQ
  exact hQ
 ·have pml:out.toList.Perm (its.zip its):=by
   have:=ZE.mp pm
   rwa [pairsOf_toList]at this
  have eqs:∀z∈out.toList,z.1=z.2∧z.1∈its:=λz hz=>mem_zip_self (pml.mem_iff.mp hz)
  have e2:(out.map (·.2)).toList=out.toList.map (·.2):=XJ
  have pv:((out.map (·.2)).toList).Perm its:=by
   rw[e2]
   refine(pml.map _).trans (List.Perm.of_eq ?_)
   exact XM (Q6 _)
  have hu:∀u∈(out.map (·.2)).toList,RelV (unV u) u:=λu hu=>by
   obtain⟨x,_,r⟩:=hX rv (pv.mem_iff.mp hu)
   rw[nq r]
   exact r
  have vy:=sf hu
  have I1:Inv X pins σ H {s with heap:=h1,toks:=tk}:=I.kept k1
  have py:((out.map (·.2)).toList.map unV).Perm (ns.map V.int):=by
   rw[←hns,←se rv]
   exact pv.map _
  have pw2:((out.map (·.2)).toList.map unV).Pairwise (λa b=>HT.lexLt (sU b) (sU a)=false):=by
   rw[e2,Qy]
   refine Qp.mpr (pw.imp_of_mem λ{a b} ha hb h=>?_)
   show HT.lexLt (sU (unV b.2)) (sU (unV a.2))=false
   rw[←(eqs a ha).1,←(eqs b hb).1]
   exact h
  have lz:((out.map (·.2)).toList.map unV).length≤sizeLine:=by
   rw[py.length_eq,←hns,hlk];exact z
  obtain⟨ms,em,pm'⟩:=xr py
  rw[em]at vy pw2 lz
  refine⟨.ref h1.objs.size,upd H h1.objs.size (.lst (ms.map V.int)),I1.laid (t':=tk) k2 (Q6 _) ⟨lz,_,e,vy,?_⟩,rfl,q _ _ (I1.hok.fresh (Q6 _)) pm' ?_⟩
  ·rw[at_,ZY]
  ·refine(Qp.mp pw2).imp λ{a b} h=>?_
   have h:HT.lexLt [b] [a]=false:=h
   rw[HT.lexLt_cons]at h
   by_cases z:b=a
   ·omega
   ·rw[if_neg z]at h
    have:=of_decide_eq_false h
    omega
theorem kQ (hh:X.A.handled=none):eJ X (.builtin "sorted") (λxs H Q=>∃(a:Addr) (kvs:List (Key×V)) (ns:List Int),xs=[.ref a]∧Rd H a (.dK kvs)∧iD kvs=ns.map V.int∧
  ∀(l:Addr) (ms:List Int),H l=none→ms.Perm ns→ms.Pairwise (· ≤ ·)→Q (.ref l) (upd H l (.lst (ms.map V.int)))):=by
 intro pins s σ H xs us Q I r h
 obtain⟨a,kvs,ns,rfl,hd,hns,q⟩:=h
 obtain⟨u,rfl,ru⟩:=j9 r
 cases ru
 obtain⟨z,lo,vs,rel,dd⟩:=mE I.hok hd
 obtain⟨ep,hat⟩:=dd.dictAt
 exact mq hh I rel z (PySem.W.kdl_dict (knd:=aU X.prog X.w) (kvs:=vs) (ep:=ep) lo) hat hns q
def D5:V→List V→Hp→VK→Prop:=λx vs H Q=>∃a kvs k v,x= .ref a∧vs=[kV k]∧H a=some (.dK kvs)∧aI kvs k=some v∧Q v (upd H a (.dK (bp kvs k)))
theorem wt:MtR X "dict.pop" D5:=by
 intro pins s σ H x vs v us Q I rx rv h
 obtain⟨a,kvs,k,y,rfl,rfl,hH,hl,q⟩:=h
 cases rx
 obtain⟨u,rfl,ru⟩:=rv.one
 exact Er I hH ru hl (.inl rfl) λw' s' I' r'=>⟨y,_,I',r',q⟩
end
end L2
namespace L2
open PySem PySem.Spec PyProof.Rows
theorem j3 {env:Env}:∀(l:List (Str×NameKind)) (cs:List (Str×Addr)),(∀p∈l,p.2= .free→∃c,env.cells.lookup p.1=some c)→
  ∃cl,(forIn l cs (λp cs=>if(p.2==NameKind.free)=true then cellOf env p.1>>=λa=>pure (ForInStep.yield ((p.1,a)::cs))else pure (ForInStep.yield cs)):Sem _)=pure cl∧
   (∀y c,cl.lookup y=some c→cs.lookup y=some c∨env.cells.lookup y=some c)∧(∀y c,cs.lookup y=some c→∃c',cl.lookup y=some c')∧(∀y,(y,NameKind.free)∈l→∃c,cl.lookup y=some c)
 | [],cs,_=>⟨cs,by rw[List.forIn_nil],λy c h=> .inl h,λy c h=>⟨c,h⟩,λy h=>nomatch h⟩
 |(n,k)::r,cs,h=>by
  rw[List.forIn_cons]
  by_cases hk:k= .free
  ·subst hk
   obtain⟨c,hc⟩:=h (n,.free) Q8 rfl
   have hc:env.cells.lookup n=some c:=hc
   have e:cellOf env n=pure c:=by unfold cellOf;rw[hc]
   obtain⟨cl,h1,h2,h3,h4⟩:=j3 r ((n,c)::cs) λp hp=>h p (Qa _ hp)
   refine⟨cl,?_,λy c' hy=>?_,λy c' hy=>?_,λy hy=>?_⟩
   ·simp only[beq_self_eq_true,if_true,e,pure_bind]
    exact h1
   ·rcases h2 y c' hy with q|q
    ·rw[ZJ]at q
     split at q
     ·rename_i z
      cases q
      rw[beq_iff_eq]at z
      subst z
      exact .inr hc
     ·exact .inl q
    ·exact .inr q
   ·by_cases z:y=n
    ·exact h3 y c (by rw[ZJ,z];simp)
    ·exact h3 y c' (by rw[ZJ,beq_eq_false_iff_ne.mpr z];exact hy)
   ·rcases Qe.mp hy with q|q
    ·have e1:y=n:=(Prod.mk.inj q).1
     exact h3 y c (by rw[ZJ,e1];simp)
    ·exact h4 y q
  ·have hb:(k==NameKind.free)=false:=by simpa using hk
   obtain⟨cl,h1,h2,h3,h4⟩:=j3 r cs λp hp=>h p (Qa _ hp)
   refine⟨cl,?_,h2,h3,λy hy=>?_⟩
   ·simp only[hb,QM,if_false,pure_bind]
    exact h1
   ·rcases Qe.mp hy with q|q
    ·exact absurd (Prod.mk.inj q).2.symm hk
    ·exact h4 y q
theorem pN {env:Env} {scope:Scope} (h:∀p∈scope.names,p.2= .free→∃c,env.cells.lookup p.1=some c):
  ∃cl,closureFor scope env=pure cl∧(∀y c,cl.lookup y=some c→env.cells.lookup y=some c)∧(∀y,(y,NameKind.free)∈scope.names→∃c,cl.lookup y=some c):=by
 obtain⟨cl,h1,h2,_,h4⟩:=j3 scope.names [] h
 refine⟨cl,?_,λy c hy=>(h2 y c hy).resolve_left λz=>by simp at z,h4⟩
 unfold closureFor
 simp only[bind_pure]
 exact h1
def cCx (X:Cx) (M N':List Str) (scope:Scope) (cl:List (Str×Addr)) (C:Addr) (s₂:Shared) (H₂:Hp) (fp:List Addr):Cx:=
 {X with N:=M++N',s₀:=s₂,H₀:=H₂,env:=compEnvC scope cl C X.env,outer:=X.stack,stack:=X.stack,ex:=fp,fn:=λ_=>false,pn:=[],xe:=λ_ _=>False}
structure CScope (X:Cx) (M N':List Str) (scope:Scope):Prop where
 kind:scope.kind= .function
 nd:(M++N').Nodup
 ln:N'.length=X.N.length
 own:∀x∈M,scope.names.lookup x=some .local
 nocell:∀y∈scope.names,y.2≠ .cell
 names:∀y∈scope.names,y.2= .local→scope.names.lookup y.1=some .local
 free:∀y∈scope.names,y.2= .free→X.env.kindOf y.1=some .cell
 vis:∀(j:Nat) (y:Str),N'[j]?=some y→Vis (relabel scope X.env) y→X.N[j]?=some y∧(y,NameKind.free)∈scope.names∧(relabel scope X.env).names.lookup y=some .cell
 cells:∀y,((relabel scope X.env).names.lookup y=some .cell∨(relabel scope X.env).names.lookup y=some .free)→(y,NameKind.free)∈scope.names
def uL (n:Nat) (g:TG) (tc:TT) (te:TE) (σ:St) (Q:VK) (J:It) (H1:Hp):Prop:=∀D,H1 D=none→∃W:Nat→Nat→St→List V→Hp→Prop,(∃m,W 0 m (List.replicate n none++σ) [] (upd H1 D (.lst [])))∧∀i m τ ys H2,W i m τ ys H2→H2 D=some (.lst ys)→
 (J.stop i H2∧Q (.ref D) H2)∨(J.go i H2∧∀x H3,J.yld i H2 x H3→∃G:St→Hp→Prop,(∀τ2 H4,G τ2 H4→∃(Ny:VK) (Ns:Hp→Prop),(∀y H6,Ny y H6→H6 D=some (.lst ys)∧ys.length<sizeLine∧∃m',m'<m∧W (i+1) m' τ2 (ys++ [y]) (upd H6 D (.lst (ys++ [y]))))∧
  (∀H5,Ns H5→H5 D=some (.lst ys)∧∃m',m'<m∧W (i+1) m' τ2 ys H5)∧tc τ2 H4 λb H5=>if b=true then te τ2 H5 Ny else Ns H5)∧g x τ H3 G)
def Ce:TT:=λ_ H Q=>Q true H
def PTs (X:Cx) (ifs:List Expr) (tc:TT):Prop:=∀(pins:List (Addr×Obj)) (s:Shared) (σ:St) (H:Hp) (Q:Bool→Hp→Prop),Inv X pins σ H s→tc σ H Q→
 wpAny (model X.prog X.w) X.A (forIn ifs true λc r=>if r=true then do let ok←isTrue c X.env (eval c X.env);pure (ForInStep.yield ok)else pure (ForInStep.yield r)) (λb s'=>∃H',Inv X pins σ H' s'∧Q b H') X.xe s
section
variable {X:Cx}
theorem Bh:PTs X [] Ce:=λ_ _ _ H _ I h=>wpAny_tests_nil ⟨H,I,h⟩
theorem wg {c:Expr} {tc:TT} (h:PT X c tc):PTs X [c] tc:=λpins s σ H Q I q=>wpAny_tests_one (h pins s σ H Q I q)
theorem CScope.pg {M N':List Str} {scope:Scope} {cl:List (Str×Addr)} {C:Addr} {s₂:Shared} {H₂:Hp} {fp:List Addr} {i:Nat} {x:Str} {px:Pos} (S:CScope X M N' scope) (h:M[i]?=some x):PG (cCx X M N' scope cl C s₂ H₂ fp) (.Name x px) (kM i):=
 bN S.nd (by show(M++N')[i]?=_;rw[Zl (Q4.mp h).1];exact h) (.inl (lookup_relabel_local (S.own x (Q3 h)))) (.inr (lookup_relabel_local (S.own x (Q3 h))))
structure CI (X:Cx) (pins:List (Addr×Obj)) (H:Hp) (C:Addr):Prop where
 no:H C=none
 fr:C≠X.env.locals
 ab:X.s₀.heap.objs.size≤C
 ce:∀x c,X.env.cells.lookup x=some c→c≠C
 pi:∀p∈X.pn++pins,p.1≠C
theorem rM {elt iter tg:Expr} {ifs:List Expr} {M N':List Str} {pos:Pos} {scope:Scope} {wi:TI} {g:TG} {tc:TT} {te:TE} {cl:List (Str×Addr)} {pins:List (Addr×Obj)} {s:Shared} {σ:St} {H:Hp} {Q:VK} {RR:Value→Addr→Result→Shared→Prop} (hc:X.calm=true) (S:CScope X M N' scope) (hi:PI X tg iter wi)
  (hg:∀cl C s₂ H₂ fp,PG (cCx X M N' scope cl C s₂ H₂ fp) tg g) (hcn:∀cl C s₂ H₂ fp,PTs (cCx X M N' scope cl C s₂ H₂ fp) ifs tc) (he:∀cl C s₂ H₂ fp,PE (cCx X M N' scope cl C s₂ H₂ fp) elt te)
  (cl1:∀y c,cl.lookup y=some c→X.env.cells.lookup y=some c) (cl2:∀y,(y,NameKind.free)∈scope.names→∃c,cl.lookup y=some c) (I:Inv X pins σ H s) {R:It→Hp→Prop} (h:wi σ H R) (hB:∀J H,R J H→uL M.length g tc te σ Q J H)
  (hR:∀D C s4 H',Inv X pins σ H' s4→(∃m,s4.heap.Ns C m)→CI X pins H' C→Q (.ref D) H'→RR (.ref D) C (.ok .next) s4):
  wpAny (model X.prog X.w) X.A (eval iter X.env) (λv s1=>wpAny (model X.prog X.w) X.A (pyIter v) (λitv s2=>wpAny (model X.prog X.w) X.A (newList []) (λacc s3=>
   wpAny (model X.prog X.w) X.A (newFunctionEnv scope X.env.globals cl [] X.env.qual none .none (some X.env)) (λcenv s4=>
    codeAny (model X.prog X.w) X.A (.compStart (.ListComp elt [⟨tg,iter,ifs,0⟩] scope pos) 0 itv acc {cenv with scope:=relabel scope X.env}) (RR acc cenv.locals) s4) X.xe s3) X.xe s2) X.xe s1) X.xe s:=by
 refine thn (hi pins s σ H _ I h) λv s1 h1=>thn h1 λitv s2 h2=>?_
 obtain⟨it,fp,tn,J,H2,e,I2,T,st2,f2,h⟩:=h2
 subst e
 refine wpAny_newObj_type (wpAny_newFunctionEnv S.nocell (by intro y hy;simp at hy) (λh₁ hns₁ hsb₁=>?_) S.kind)
 dsimp only at hns₁ hsb₁⊢
 generalize hD:s2.heap.objs.size=D at*
 generalize hH3:s2.heap.push {cls:= .type "list",dict:=none,data:= .seq ([]:List Value).toArray}=h3 at hns₁ hsb₁⊢
 have hCs:h3.objs.size=D+1:=by rw[←hH3,Heap.size_push,hD]
 have fD:H2 D=none:=I2.hok.fresh (ZQ hD)
 obtain⟨W,⟨m0,w0⟩,turn⟩:=hB _ _ h D fD
 generalize hC:h3.objs.size=C at*
 have gD:s2.heap.get? D=none:=Heap.get?_none_of_le (ZQ hD)
 have gC:s2.heap.get? C=none:=Heap.get?_none_of_le (by rw[hD,hCs];exact Z4 _)
 have DC:D≠C:=by rw[hCs];exact Qw (Xb _)
 have up3:∀b o,s2.heap.get? b=some o→h3.get? b=some o:=λb o e=>by rw[←hH3];exact Heap.get?_push_of_some _ e
 have hold:∀b o,h3.get? b=some o→h₁.get? b=some o:=λb o e=>hsb₁.extBut b o (by intro z;have:=Heap.lt_size e;rw[z,hC]at this;exact absurd this (Zr _)) (Heap.get?_push_of_some _ e)
 have up:∀b o,s2.heap.get? b=some o→h₁.get? b=some o:=λb o e=>hold b o (up3 b o e)
 have oD:h₁.get? D=some {cls:= .type "list",dict:=none,data:= .seq ([]:List Value).toArray}:=hold _ _ (by rw[←hH3,←hD];exact Heap.get?_push_size _ rfl)
 have fpo:∀b∈fp,b≠C∧b∉frs X.stack:=λb hb=>by
  obtain⟨o,e,_⟩:=T.obj _ _ st2 b hb
  refine⟨λz=>(by rw[z,gC]at e;cases e),λz=>?_⟩
  rcases Qe.mp (I2.stkSub b z)with q|q
  ·exact(f2 b hb).2.1 q
  ·exact(f2 b hb).2.2.1 q
 have fC:H2 C=none:=I2.hok.fresh (by rw[hD,hCs];exact Z4 _)
 have ok:(cCx X M N' scope cl C s2 H2 fp).Ok:=
  {mod:=I2.ok.mod,kind:=S.kind,glob:=I2.ok.glob,blt:=I2.ok.blt,above:=by show s2.heap.objs.size≤C;rw[hD,hCs];exact Z4 _
   inj:=λy z c h1 h2=>I2.ok.inj y z c (cl1 _ _ h1) (cl1 _ _ h2),has:=λy hy=>cl2 y (S.cells y hy),cab:=λy c z=>by cases z
   hd:=I2.ok.hd,frames:=I2.ok.frames,stk:= .inl rfl,exf:=λb hb=>⟨(fpo b hb).1,λy c e=>(f2 b hb).2.2.2.2.1 y c (cl1 y c e)⟩
   bs:=I2.bs,bsz:=Z2 I2.ok.bsz I2.sz
   noex:=λb o e hb=>by
    rcases(f2 b hb).2.2.2.1 with q|q
    ·exact I2.ok.noex b o e q
    ·exact absurd (Qz (Heap.lt_size e) (Z2 I2.ok.bsz q)) (Zr _)
   exfs:=λb hb=>(fpo b hb).2,funs:=I2.stack,frf:=I2.stkFree}
 have ne2:∀b u,H2 b=some u→b≠D:=λb u e=>ai e fD
 have I3:Inv (cCx X M N' scope cl C s2 H2 fp) [] (List.replicate M.length none++σ) (upd H2 D (.lst [])) {s2 with heap:=h₁,toks:=s2.toks+([]:List (Str×Value)).length}:=
  {ok:=ok,os:=rfl,bare:=I2.bare,base:=Un.laid up (ZQ hD) fD
   loc:=⟨_,hns₁,λi y v e1 e2 e3=>by
    by_cases lt:i<M.length
    ·have e2:(List.replicate M.length none++σ)[i]?=some (some v):=e2
     rw[Zl (by rw[Zj];exact lt),List.getElem?_replicate,if_pos lt]at e2
     cases e2
    ·have e1:(M++N')[i]?=some y:=e1
     have e2:(List.replicate M.length none++σ)[i]?=some (some v):=e2
     rw[Zh (Xx.mp lt)]at e1
     rw[Zh (by rw[Zj];exact Xx.mp lt),Zj]at e2
     generalize i-M.length=j at e1 e2
     obtain⟨e1,q1,q2⟩:=S.vis j y e1 e3
     have kc:=S.free _ q1 rfl
     obtain⟨m,hn,hl⟩:=I2.loc
     obtain⟨u,r,l⟩:=hl j y v e1 e2 (.inr (.inl kc))
     refine⟨u,r,?_⟩
     rcases l with⟨k,_⟩|⟨_,c,e,z⟩
     ·rw[kc]at k;cases k
     ·obtain⟨c',e'⟩:=cl2 y q1
      have ee:=cl1 _ _ e'
      rw[e]at ee
      cases ee
      obtain⟨o,ho,hd⟩:=z
      exact .inr ⟨.inl q2,c,e',o,up _ _ ho,hd⟩⟩
   cell:=λy c e=>by
    obtain⟨v,o,ho,hd⟩:=I2.cell y c (cl1 _ _ e)
    exact⟨v,o,up _ _ ho,hd⟩
   free:=by show upd H2 D (.lst []) C=none;rw[ac DC.symm];exact fC
   freeC:=λy c e=>by
    have q:=I2.freeC y c (cl1 _ _ e)
    obtain⟨v,o,ho,hd⟩:=I2.cell y c (cl1 _ _ e)
    rw[ac (λz=>by rw[z,gD]at ho;cases ho)]
    exact q
   pin:=λp hp=>absurd (show p∈([]:List (Addr×Obj)) from hp) (by simp)
   hok:=I2.hok.laid up (ZQ hD) ⟨Qh _,[],0,.nil,oD⟩
   len:=by show(List.replicate M.length none++σ).length=(M++N').length;rw[Qg,Qg,Zj,I2.len,S.ln]}
 have stat:∀{H':Hp},(∀b∈fp,H' b=none)→∀b∈fp,hV (cCx X M N' scope cl C s2 H2 fp) [] H' b:=λhn b hb=>
  ⟨hn b hb,(fpo b hb).1,(fpo b hb).2,.inl hb,λy c e=>(f2 b hb).2.2.2.2.1 y c (cl1 _ _ e),λp hp=>absurd (show p∈([]:List (Addr×Obj)) from hp) (by simp)⟩
 have st3:tn 0 h₁:=T.keep _ _ _ st2 λb hb o e=>up b o e
 have loop:∀s3:Shared,s3={s2 with heap:=h₁,toks:=s2.toks+([]:List (Str×Value)).length}→
   codeAny (model X.prog X.w) X.A (.compLoop (.ListComp elt [⟨tg,iter,ifs,0⟩] scope pos) 0 (.ref it) (.ref D) (compEnvC scope cl C X.env)) (RR (.ref D) C) s3:=by
  rintro s3 rfl
  refine codeAny_loop rfl (λn s'=>∃i τ ys H',Inv (cCx X M N' scope cl C s2 H2 fp) [] τ H' s'∧tn i s'.heap∧(∀b∈fp,H' b=none)∧H' D=some (.lst ys)∧W i n τ ys H') ?_ m0
   ⟨0,_,[],_,I3,st3,λb hb=>by rw[ac (λz=>by obtain⟨o,e,_⟩:=T.obj _ _ st2 b hb;rw[z,gD]at e;cases e)];exact(f2 b hb).1,af,w0⟩
  rintro n s' ⟨i,τ,ys,H',I',st',fr',hD',w'⟩
  show wpAny _ X.A ((compTurn (.ListComp elt [⟨tg,iter,ifs,0⟩] scope pos) 0 (.ref it) (.ref D) (compEnvC scope cl C X.env)).onRaise (λx=>do noteFrame x (compEnvC scope cl C X.env);theTreesLotGoes x)) _ _ s'
  refine wpAny_noted ?_
  rw[compTurn_list]
  refine wpAny_bind (wpAny_standAt (wpAny_bind ?_))
  rcases turn i n τ ys H' w' hD' with⟨stop,qn⟩|⟨go,step⟩
  ·refine thn (T.done (cCx X M N' scope cl C s2 H2 fp) rfl rfl rfl hc i [] s' _ H' _ I' (stat fr') st' stop) λr s4 ⟨hr,I4⟩=>?_
   subst hr
   refine wpAny_pure ?_
   obtain⟨m,hn,_⟩:=I4.loc
   have IX:Inv X pins σ H' s4:=I2.call' (s':=s4) I4.os (show Un (frs X.stack) fp H2 H' s2.heap s4.heap from I4.base) I4.hok I4.bare λb hb=>⟨(f2 b hb).2.2.2.1,(f2 b hb).2.1,(f2 b hb).2.2.2.2.1,(f2 b hb).2.2.2.2.2⟩
   refine hR D C s4 H' IX ⟨m,hn⟩ ⟨I4.free,λz=>?_,?_,λy c e z=>?_,λp hp z=>?_⟩ qn
   ·have:=I2.lt
    rw[←z,hCs,hD]at this
    exact absurd this (Xx.mpr (Z4 _))
   ·refine Z2 I2.sz ?_
    rw[hD,hCs]
    exact Z4 _
   ·obtain⟨v,o,ho,_⟩:=I2.cell y c e
    rw[z,gC]at ho
    cases ho
   ·have ho:=(I2.pin p hp).1
    rw[z,gC]at ho
    cases ho
  ·refine thn (T.item (cCx X M N' scope cl C s2 H2 fp) rfl rfl rfl hc i [] s' _ H' _ I' (stat fr') st' go) λr s4 ⟨u,hr,h4⟩=>?_
   subst hr
   refine wpAny_bind (thn h4 λ_ s5 hzz=>?_)
   obtain⟨y,H5,I5,r5,y5,st5,fr5⟩:=hzz
   have I5':=I5.pinned (stat fr5) (T.obj _ _ st5)
   obtain⟨G,hG,gq⟩:=step y H5 y5
   refine wpAny_bind (wpAny_mono (hg cl C s2 H2 fp _ s5 _ H5 y _ _ I5' r5 gq) (λ_ s6 hzz=>?_) λ_ _ f=>f.elim)
   obtain⟨τ6,H6,I6,q6⟩:=hzz
   have fin:∀{τ7:St} {H7:Hp} {s7:Shared},Inv (cCx X M N' scope cl C s2 H2 fp) ([]++oI fp s5.heap) τ7 H7 s7→tn (i+1) s7.heap∧∀b∈fp,H7 b=none:=λ{τ7 H7 s7} I7=>by
    refine⟨T.keep _ _ _ st5 λb hb o e=>(I7.pin (b,o) (Qu _ (Qu _ (gM hb e)))).1,λb hb=>?_⟩
    obtain⟨o,e,d⟩:=T.obj _ _ st5 b hb
    exact(I7.pin (b,o) (Qu _ (Qu _ (gM hb e)))).2.1
   obtain⟨Ny,Ns,hy,hn,q6⟩:=hG _ _ q6
   refine wpAny_bind (wpAny_mono (hcn cl C s2 H2 fp _ s6 _ H6 _ I6 q6) (λb s7 ⟨H7,I7,q7⟩=>?_) λ_ _ f=>f.elim)
   cases b with
   |false=>
    rw[if_neg Qc]at q7
    obtain⟨hD7,m',hm',w7⟩:=hn _ q7
    exact wpAny_pure (show _∧_ from⟨rfl,m',hm',i+1,τ6,ys,_,I7.unpinned,(fin I7).1,(fin I7).2,hD7,w7⟩)
   |true=>
    rw[if_pos rfl]at q7
    refine wpAny_bind (wpAny_bind (wpAny_mono (he cl C s2 H2 fp _ s7 _ H7 _ I7 q7) (λz s8 hzz=>?_) λ_ _ f=>f.elim))
    obtain⟨y',H8,I8,r8,q8⟩:=hzz
    obtain⟨hD8,hl8,m',hm',w8⟩:=hy _ _ q8
    refine wpAny_bind (wpAny_mono (cx (X:=cCx X M N' scope cl C s2 H2 fp) _ s8 _ H8 (.ref D) [y'] (.ref D) [z] (λ_ H9=>H9=upd H8 D (.lst (ys++ [y']))) I8 rfl (.cons r8 .nil) ⟨D,ys,y',rfl,rfl,hD8,hl8,rfl⟩) (λz9 s9 hzz=>?_) λ_ _ f=>f.elim)
    obtain⟨_,H9,I9,_,e9⟩:=hzz
    subst e9
    exact wpAny_pure (wpAny_pure ⟨rfl,m',hm',i+1,τ6,ys++ [y'],_,I9.unpinned,(fin I9).1,(fin I9).2,af,w8⟩)
 exact codeAny_compStart_list (loop _ rfl) (T.self _ 0 _ _ _ st3 (loop _ rfl))
theorem Inv.loose {pins:List (Addr×Obj)} {s:Shared} {σ:St} {H:Hp} {C:Addr} {h':Heap} (I:Inv X pins σ H s) (l:CI X pins H C) (sb:Heap.SameBut C s.heap h'):Inv X pins σ H {s with heap:=h'}:=
 I.turned (t':=s.toks) (λb o hb e=>(sb.2 b hb).trans e) l.no l.fr (.inr l.ab) l.ce l.pi
section
variable {elt iter tg:Expr} {ifs:List Expr} {M N':List Str} {y:Str} {py pos spos:Pos} {scope:Scope} {wi:TI} {g:TG} {tc:TT} {te:TE} {i:Nat}
theorem uc {B:St→VK→It→Hp→Prop} (hB:∀σ Q J H,B σ Q J H→uL M.length g tc te σ Q J H) (hc:X.calm=true) (S:CScope X M N' scope) (hi:PI X tg iter wi) (hg:CScope X M N' scope→∀cl C s₂ H₂ fp,PG (cCx X M N' scope cl C s₂ H₂ fp) tg g) (hcn:∀cl C s₂ H₂ fp,PTs (cCx X M N' scope cl C s₂ H₂ fp) ifs tc) (he:∀cl C s₂ H₂ fp,PE (cCx X M N' scope cl C s₂ H₂ fp) elt te)
  (hs:∀x,foldedSetIterable iter X.env x=pure x:=by intro _;rfl):PE X (.ListComp elt [⟨tg,iter,ifs,0⟩] scope pos) (λσ H Q=>wi σ H (B σ Q)):=by
 intro pins s σ H Q I h
 obtain⟨cl,hclos,cl1,cl2⟩:=pN (env:=X.env) (scope:=scope) λp hp hf=>I.ok.has p.1 (.inl (S.free p hp hf))
 rw[eval_ListComp]
 refine wpAny_comprehension_free (use:=none) rfl hs hclos S.kind S.names (rM hc S hi (hg S) hcn he cl1 cl2 I h (hB _ _) λD C s4 H' I4 hn l q=>?_)
 obtain⟨m,hn⟩:=hn
 exact⟨m,hn,λh' sb=>⟨.ref D,H',I4.loose l sb,rfl,q⟩⟩
theorem yO {B:St→VK→It→Hp→Prop} (hB:∀σ Q J H,B σ Q J H→uL M.length g tc te σ Q J H) (hc:X.calm=true) (S:CScope X M N' scope) (hi:PI X tg iter wi) (hg:CScope X M N' scope→∀cl C s₂ H₂ fp,PG (cCx X M N' scope cl C s₂ H₂ fp) tg g) (hcn:∀cl C s₂ H₂ fp,PTs (cCx X M N' scope cl C s₂ H₂ fp) ifs tc) (he:∀cl C s₂ H₂ fp,PE (cCx X M N' scope cl C s₂ H₂ fp) elt te)
  (hN:X.N.Nodup) (hy:X.N[i]?=some y) (hk:X.env.scope.names.lookup y=some .local) (hsw:swapsWith (.ListComp elt [⟨tg,iter,ifs,0⟩] scope pos) (some (.Name y py)) spos.line X.env=pure true:=by rfl)
  (hs:∀x,foldedSetIterable iter X.env x=pure x:=by intro _;rfl):PS X (.Assign [.Name y py] (.ListComp elt [⟨tg,iter,ifs,0⟩] scope pos) spos) (AR (λσ H Q=>wi σ H (B σ Q)) (kM i)):=by
 intro pins s σ H D I h
 obtain⟨cl,hclos,cl1,cl2⟩:=pN (env:=X.env) (scope:=scope) λp hp hf=>I.ok.has p.1 (.inl (S.free p hp hf))
 rw[exec_Assign_Name_used _ _ _ _ hsw]
 refine wpAny_bind (wpAny_standAt (wpAny_bind ?_))
 show wpAny _ X.A (do let _←comprehension (.ListComp elt [⟨tg,iter,ifs,0⟩] scope pos) scope X.env _ (newList []) false (eval iter X.env) (some (assign (.Name y py) X.env))) _ _ s
 refine wpAny_bind (thn (wpAny_comprehension_free (use:=some (assign (.Name y py) X.env)) (Q:=λ_ s'=>SP X pins D .next s') rfl hs hclos S.kind S.names
  (rM (Q:=λv H'=>D.nx (σ.set i (some v)) H') hc S hi (hg S) hcn he cl1 cl2 I h (hB _ _) λD' C s4 H' I4 hn l q=>?_)) λ_ s' hq=>wpAny_pure (wpAny_pure hq))
 obtain⟨m,hn⟩:=hn
 show wpAny _ X.A (assign (.Name y py) X.env (.ref D')) _ _ _
 refine wpAny_assign_Name (qS (v:= .ref D') I4 hN hy (.inl hk) rfl (λs5 I5 hzz=>?_) (.inr hk))
 obtain⟨a,sb,ha⟩:=hzz
 have ne:C≠a:=by
  rcases ha with z|z
  ·rw[z];exact l.fr
  ·exact Ne.symm (l.ce _ _ z)
 exact⟨m,hn.sameBut sb ne,λh' sb'=>⟨_,H',I5.loose l sb',q⟩⟩
end
def vQ (te:TE) (σ:St) (Q:VK) (J:It) (H1:Hp):Prop:=∀D,H1 D=none→∃W:Nat→Nat→List V→Hp→Prop,(∃m,W 0 m [] (upd H1 D (.lst [])))∧∀i m ys H2,W i m ys H2→H2 D=some (.lst ys)→
 (J.stop i H2∧Q (.ref D) H2)∨(J.go i H2∧∀x H3,J.yld i H2 x H3→te (some x::σ) H3 λy H4=>H4 D=some (.lst ys)∧ys.length<sizeLine∧∃m',m'<m∧W (i+1) m' (ys++ [y]) (upd H4 D (.lst (ys++ [y]))))
def DR (wi:TI) (te:TE):TE:=λσ H Q=>wi σ H (vQ te σ Q)
theorem Et {te:TE} {σ:St} {Q:VK} {J:It} {H1:Hp} (h:vQ te σ Q J H1):uL 1 (kM 0) Ce te σ Q J H1:=λD hD=>by
 obtain⟨W,⟨m0,w0⟩,turn⟩:=h D hD
 refine⟨λi m τ ys H=>(∃v,τ=v::σ)∧W i m ys H,⟨m0,⟨none,rfl⟩,w0⟩,λi m τ ys H2 w e=>?_⟩
 obtain⟨⟨v,rfl⟩,w⟩:=w
 rcases turn i m ys H2 w e with z|⟨go,z⟩
 ·exact .inl z
 ·refine .inr ⟨go,λx H3 y=>⟨λτ2 H4=>τ2=some x::σ∧H4=H3,λτ2 H4 e=>?_,rfl,rfl⟩⟩
  obtain⟨rfl,rfl⟩:=e
  refine⟨λy H6=>H6 D=some (.lst ys)∧ys.length<sizeLine∧∃m',m'<m∧W (i+1) m' (ys++ [y]) (upd H6 D (.lst (ys++ [y]))),λ_=>False,λy H6 n=>?_,λ_ n=>n.elim,?_⟩
  ·obtain⟨n1,n2,m',n3,n4⟩:=n
   exact⟨n1,n2,m',n3,⟨_,rfl⟩,n4⟩
  ·exact cO (B:=False) (z x _ y)
theorem ku {elt iter:Expr} {N':List Str} {x:Str} {px pos:Pos} {scope:Scope} {wi:TI} {te:TE} (hc:X.calm=true) (S:CScope X [x] N' scope) (hi:PI X (.Name x px) iter wi) (he:∀cl C s₂ H₂ fp,PE (cCx X [x] N' scope cl C s₂ H₂ fp) elt te)
  (hs:∀x,foldedSetIterable iter X.env x=pure x:=by intro _;rfl):PE X (.ListComp elt [⟨.Name x px,iter,[],0⟩] scope pos) (DR wi te):=
 uc (B:=vQ te) (λ_ _ _ _=>Et) hc S hi (λS _ _ _ _ _=>S.pg rfl) (λ_ _ _ _ _=>Bh) he hs
end
def tX (scope dsc:Scope):List (Str×NameKind):=scope.names.map λp=>if(p.2==NameKind.free&&dsc.kind==ScopeKind.function&&dsc.names.lookup p.1==some NameKind.cell)=true then(p.1,NameKind.cell)else(p.1,p.2)
def CA (M N N':List Str) (dsc:Scope) (scope:Scope):Bool:=
 (scope.kind==ScopeKind.function)&&decide (M++N').Nodup&&(M.all λx=>scope.names.lookup x==some NameKind.local)&&(scope.names.all λy=>y.2 !=NameKind.cell)&&(scope.names.all λy=>y.2 !=NameKind.local||scope.names.lookup y.1==some NameKind.local)
 &&(scope.names.all λy=>y.2 !=NameKind.free||dsc.names.lookup y.1==some NameKind.cell)&&(N'.all λy=>(tX scope dsc).lookup y !=some NameKind.local&&(tX scope dsc).lookup y !=some NameKind.free)&&decide (N'.length=N.length)&&(N'.zip N).all λp=>p.1==p.2||(tX scope dsc).lookup p.1==none
theorem km {dsc:Scope}:∀{l:List (Str×NameKind)} {y:Str} {k:NameKind},(∀p∈l,p.2≠NameKind.cell)→(l.map λp=>if(p.2==NameKind.free&&dsc.kind==ScopeKind.function&&dsc.names.lookup p.1==some NameKind.cell)=true then(p.1,NameKind.cell)else(p.1,p.2)).lookup y=some k→(k= .cell∨k= .free)→(y,NameKind.free)∈l
 | [],y,k,_,h,_=>by simp at h
 |(n,kk)::r,y,k,hn,h,hk=>by
  rw[Qr]at h
  by_cases c:(kk==NameKind.free&&dsc.kind==ScopeKind.function&&dsc.names.lookup n==some NameKind.cell)=true
  ·dsimp only at h
   rw[if_pos c,ZJ]at h
   split at h
   ·rename_i z
    rw[beq_iff_eq]at z
    subst z
    have:kk= .free:=by
     rw[Zt,Zt]at c
     simpa using c.1.1
    rw[this]
    exact Q8
   ·exact Qa _ (km (λp hp=>hn p (Qa _ hp)) h hk)
  ·dsimp only at h
   rw[if_neg c,ZJ]at h
   split at h
   ·rename_i z
    rw[beq_iff_eq]at z
    subst z
    cases h
    rcases hk with e|e
    ·exact absurd e (hn _ Q8)
    ·rw[e];exact Q8
   ·exact Qa _ (km (λp hp=>hn p (Qa _ hp)) h hk)
theorem CScope.of {X:Cx} {scope dsc:Scope} {M N N':List Str} (eN:X.N=N) (ed:X.env.scope=dsc) (h:CA M N N' dsc scope=true):CScope X M N' scope:=by
 unfold CA at h
 simp only[Zt]at h
 obtain⟨⟨⟨⟨⟨⟨⟨⟨h1,h2⟩,h3⟩,h4⟩,h5⟩,h6⟩,h7⟩,h8⟩,h9⟩:=h
 have hrel:(relabel scope X.env).names=tX scope dsc:=by rw[←ed];rfl
 have nocell:∀y∈scope.names,y.2≠NameKind.cell:=λy hy=>by have:=QK.mp h4 y hy;simpa using this
 refine⟨by simpa using h1,of_decide_eq_true h2,by rw[eN];exact of_decide_eq_true h8,λx hx=>by simpa using QK.mp h3 x hx,nocell,λy hy e=>?_,λy hy e=>?_,λj y hj v=>?_,λy e=>?_⟩
 ·have:=QK.mp h5 y hy
  rw[e]at this
  simpa using this
 ·have:=QK.mp h6 y hy
  rw[e]at this
  show X.env.scope.names.lookup y.1=_
  rw[ed]
  simpa using this
 ·have nl:=QK.mp h7 y (Q3 hj)
  have hz:∃z,N[j]?=some z∧(y,z)∈N'.zip N:=by
   have lj:=(Q4.mp hj).1
   have l8:N'.length=N.length:=of_decide_eq_true h8
   refine⟨N[j]'(by omega),Q5 _,?_⟩
   refine Q3 (i:=j) ?_
   rw[List.getElem?_zip_eq_some]
   exact⟨hj,Q5 _⟩
  obtain⟨z,hz,mz⟩:=hz
  have e9:=QK.mp h9 _ mz
  unfold Vis at v
  rw[hrel]at v⊢
  have nl:¬(tX scope dsc).lookup y=some NameKind.local∧¬(tX scope dsc).lookup y=some NameKind.free:=by simpa using nl
  rcases v with v|v|v
  ·exact absurd v nl.1
  ·refine⟨?_,km nocell v (.inl rfl),v⟩
   rw[eN,hz]
   dsimp only at e9
   rw[v,Bool.or_eq_true]at e9
   rcases e9 with e9|e9
   ·rw[beq_iff_eq]at e9;rw[e9]
   ·cases e9
  ·exact absurd v nl.2
 ·have e:(tX scope dsc).lookup y=some .cell∨(tX scope dsc).lookup y=some .free:=by rw[←hrel];exact e
  rcases e with e|e
  ·exact km nocell e (.inl rfl)
  ·exact km nocell e (.inr rfl)
def CNext (n i:Nat) (ys:List V) (D:Addr) (Pv:Nat→List V→Hp→Prop):VK:=λy H4=>H4 D=some (.lst ys)∧ys.length<sizeLine∧∃m',m'<n-i∧m'=n-(i+1)∧i+1≤n∧Pv (i+1) (ys++ [y]) (upd H4 D (.lst (ys++ [y])))
theorem CNext.mk {n i:Nat} {ys:List V} {D:Addr} {Pv:Nat→List V→Hp→Prop} {y:V} {H4:Hp} (hi:i<n) (h1:H4 D=some (.lst ys)) (h2:ys.length<sizeLine) (h3:Pv (i+1) (ys++ [y]) (upd H4 D (.lst (ys++ [y])))):CNext n i ys D Pv y H4:=
 ⟨h1,h2,n-(i+1),by omega,rfl,hi,h3⟩
theorem mi {K:PySem.W.Frag} {a D:Addr} {xs:List V} {te:TE} {σ:St} {H1:Hp} {Fin:Hp→Prop} (Pv:Nat→List V→Hp→Prop) (h0:Pv 0 [] (upd H1 D (.lst []))) (hl:∀i ys H,i≤xs.length→Pv i ys H→SqL K H a xs)
  (hs:∀i x ys H2,xs[i]?=some x→Pv i ys H2→H2 D=some (.lst ys)→te (some x::σ) H2 (CNext xs.length i ys D Pv))
  (hd:∀ys H2,Pv xs.length ys H2→H2 D=some (.lst ys)→Fin H2):
  ∃W:Nat→Nat→List V→Hp→Prop,(∃m,W 0 m [] (upd H1 D (.lst [])))∧∀i m ys H2,W i m ys H2→H2 D=some (.lst ys)→
   ((Itl K a).stop i H2∧Fin H2)∨((Itl K a).go i H2∧∀x H3,(Itl K a).yld i H2 x H3→te (some x::σ) H3 λy H4=>H4 D=some (.lst ys)∧ys.length<sizeLine∧∃m',m'<m∧W (i+1) m' (ys++ [y]) (upd H4 D (.lst (ys++ [y])))):=by
 refine⟨λi m ys H=>m=xs.length-i∧i≤xs.length∧Pv i ys H,⟨xs.length,by simp,Qh _,h0⟩,?_⟩
 rintro i m ys H ⟨rfl,hi,p⟩ hD
 have q:=hl i ys H hi p
 by_cases lt:i<xs.length
 ·refine .inr ⟨⟨xs,xs[i],q,by simp[lt]⟩,λx H' y=>?_⟩
  obtain⟨e,y⟩:=y
  subst e
  exact hs i x ys _ (y xs q) p hD
 ·have e:i=xs.length:=by omega
  subst e
  exact .inl ⟨⟨xs,q,Q6 _⟩,hd ys H p hD⟩
theorem pL {lo:Int} {n:Nat} {D:Addr} {te:TE} {σ:St} {H1:Hp} {Fin:Hp→Prop} (Pv:Nat→List V→Hp→Prop) (h0:Pv 0 [] (upd H1 D (.lst [])))
  (hs:∀i ys H2,i<n→Pv i ys H2→H2 D=some (.lst ys)→te (some (.int (lo+i))::σ) H2 (CNext n i ys D Pv))
  (hd:∀ys H2,Pv n ys H2→H2 D=some (.lst ys)→Fin H2):
  ∃W:Nat→Nat→List V→Hp→Prop,(∃m,W 0 m [] (upd H1 D (.lst [])))∧∀i m ys H2,W i m ys H2→H2 D=some (.lst ys)→
   ((Itr lo n).stop i H2∧Fin H2)∨((Itr lo n).go i H2∧∀x H3,(Itr lo n).yld i H2 x H3→te (some x::σ) H3 λy H4=>H4 D=some (.lst ys)∧ys.length<sizeLine∧∃m',m'<m∧W (i+1) m' (ys++ [y]) (upd H4 D (.lst (ys++ [y])))):=by
 refine⟨λi m ys H=>m=n-i∧i≤n∧Pv i ys H,⟨n,by simp,Qh _,h0⟩,?_⟩
 rintro i m ys H ⟨rfl,hi,p⟩ hD
 by_cases lt:i<n
 ·refine .inr ⟨lt,λx H' y=>?_⟩
  obtain⟨e,y⟩:=y
  subst e y
  exact hs i ys _ lt p hD
 ·have e:i=n:=by omega
  subst e
  exact .inl ⟨Q6 _,hd ys H p hD⟩
end L2
namespace L2
open PySem PySem.Spec PyProof.Rows
def pO (tc:TT) (te:TE) (σ:St) (Q:VK) (J:It) (H1:Hp):Prop:=∀D,H1 D=none→∃W:Nat→Nat→List V→Hp→Prop,(∃m,W 0 m [] (upd H1 D (.lst [])))∧∀i m ys H2,W i m ys H2→H2 D=some (.lst ys)→
 (J.stop i H2∧Q (.ref D) H2)∨(J.go i H2∧∀x H3,J.yld i H2 x H3→tc (some x::σ) H3 λb H4=>if b=true then te (some x::σ) H4 λy H5=>H5 D=some (.lst ys)∧ys.length<sizeLine∧∃m',m'<m∧W (i+1) m' (ys++ [y]) (upd H5 D (.lst (ys++ [y])))else H4 D=some (.lst ys)∧∃m',m'<m∧W (i+1) m' ys H4)
def yx (wi:TI) (tc:TT) (te:TE):TE:=λσ H Q=>wi σ H (pO tc te σ Q)
theorem CB {tc:TT} {te:TE} {σ:St} {Q:VK} {J:It} {H1:Hp} (h:pO tc te σ Q J H1):uL 1 (kM 0) tc te σ Q J H1:=λD hD=>by
 obtain⟨W,⟨m0,w0⟩,turn⟩:=h D hD
 refine⟨λi m τ ys H=>(∃v,τ=v::σ)∧W i m ys H,⟨m0,⟨none,rfl⟩,w0⟩,λi m τ ys H2 w e=>?_⟩
 obtain⟨⟨v,rfl⟩,w⟩:=w
 rcases turn i m ys H2 w e with z|⟨go,z⟩
 ·exact .inl z
 ·refine .inr ⟨go,λx H3 y=>⟨λτ2 H4=>τ2=some x::σ∧H4=H3,λτ2 H4 e=>?_,rfl,rfl⟩⟩
  obtain⟨rfl,rfl⟩:=e
  refine⟨_,_,λy H6 n=>?_,λH5 n=>?_,z x _ y⟩
  ·obtain⟨n1,n2,m',n3,n4⟩:=n
   exact⟨n1,n2,m',n3,⟨_,rfl⟩,n4⟩
  ·obtain⟨n1,m',n3,n4⟩:=n
   exact⟨n1,m',n3,⟨_,rfl⟩,n4⟩
section
variable {X:Cx}
theorem oK {elt iter cnd:Expr} {N':List Str} {x:Str} {px pos:Pos} {scope:Scope} {wi:TI} {te:TE} {tc:TT} (hc:X.calm=true) (S:CScope X [x] N' scope) (hi:PI X (.Name x px) iter wi) (hcn:∀cl C s₂ H₂ fp,PT (cCx X [x] N' scope cl C s₂ H₂ fp) cnd tc) (he:∀cl C s₂ H₂ fp,PE (cCx X [x] N' scope cl C s₂ H₂ fp) elt te)
  (hs:∀x,foldedSetIterable iter X.env x=pure x:=by intro _;rfl):PE X (.ListComp elt [⟨.Name x px,iter,[cnd],0⟩] scope pos) (yx wi tc te):=
 uc (B:=pO tc te) (λ_ _ _ _=>CB) hc S hi (λS _ _ _ _ _=>S.pg rfl) (λ_ _ _ _ _=>wg (hcn _ _ _ _ _)) he hs
theorem tZ {elt iter cnd:Expr} {N':List Str} {x y:Str} {px py pos spos:Pos} {scope:Scope} {wi:TI} {te:TE} {tc:TT} {i:Nat} (hc:X.calm=true) (S:CScope X [x] N' scope) (hi:PI X (.Name x px) iter wi) (hcn:∀cl C s₂ H₂ fp,PT (cCx X [x] N' scope cl C s₂ H₂ fp) cnd tc) (he:∀cl C s₂ H₂ fp,PE (cCx X [x] N' scope cl C s₂ H₂ fp) elt te)
  (hN:X.N.Nodup) (hy:X.N[i]?=some y) (hk:X.env.scope.names.lookup y=some .local) (hsw:swapsWith (.ListComp elt [⟨.Name x px,iter,[cnd],0⟩] scope pos) (some (.Name y py)) spos.line X.env=pure true:=by rfl)
  (hs:∀x,foldedSetIterable iter X.env x=pure x:=by intro _;rfl):PS X (.Assign [.Name y py] (.ListComp elt [⟨.Name x px,iter,[cnd],0⟩] scope pos) spos) (AR (yx wi tc te) (kM i)):=
 yO (B:=pO tc te) (λ_ _ _ _=>CB) hc S hi (λS _ _ _ _ _=>S.pg rfl) (λ_ _ _ _ _=>wg (hcn _ _ _ _ _)) he hN hy hk hsw hs
end
def CSkip (n i:Nat) (ys:List V) (D:Addr) (Pv:Nat→List V→Hp→Prop) (H4:Hp):Prop:=H4 D=some (.lst ys)∧∃m',m'<n-i∧m'=n-(i+1)∧i+1≤n∧Pv (i+1) ys H4
theorem CSkip.mk {n i:Nat} {ys:List V} {D:Addr} {Pv:Nat→List V→Hp→Prop} {H4:Hp} (hi:i<n) (h1:H4 D=some (.lst ys)) (h3:Pv (i+1) ys H4):CSkip n i ys D Pv H4:=⟨h1,n-(i+1),by omega,rfl,hi,h3⟩
theorem g8 {K:PySem.W.Frag} {a D:Addr} {xs:List V} {te:TE} {tc:TT} {σ:St} {H1:Hp} {Fin:Hp→Prop} (Pv:Nat→List V→Hp→Prop) (h0:Pv 0 [] (upd H1 D (.lst []))) (hl:∀i ys H,i≤xs.length→Pv i ys H→SqL K H a xs)
  (hs:∀i x ys H2,xs[i]?=some x→Pv i ys H2→H2 D=some (.lst ys)→tc (some x::σ) H2 λb H4=>if b=true then te (some x::σ) H4 (CNext xs.length i ys D Pv)else CSkip xs.length i ys D Pv H4)
  (hd:∀ys H2,Pv xs.length ys H2→H2 D=some (.lst ys)→Fin H2):
  ∃W:Nat→Nat→List V→Hp→Prop,(∃m,W 0 m [] (upd H1 D (.lst [])))∧∀i m ys H2,W i m ys H2→H2 D=some (.lst ys)→
   ((Itl K a).stop i H2∧Fin H2)∨((Itl K a).go i H2∧∀x H3,(Itl K a).yld i H2 x H3→tc (some x::σ) H3 λb H4=>if b=true then te (some x::σ) H4 λy H5=>H5 D=some (.lst ys)∧ys.length<sizeLine∧∃m',m'<m∧W (i+1) m' (ys++ [y]) (upd H5 D (.lst (ys++ [y])))else H4 D=some (.lst ys)∧∃m',m'<m∧W (i+1) m' ys H4):=by
 refine⟨λi m ys H=>m=xs.length-i∧i≤xs.length∧Pv i ys H,⟨xs.length,by simp,Qh _,h0⟩,?_⟩
 rintro i m ys H ⟨rfl,hi,p⟩ hD
 have q:=hl i ys H hi p
 by_cases lt:i<xs.length
 ·refine .inr ⟨⟨xs,xs[i],q,by simp[lt]⟩,λx H' y=>?_⟩
  obtain⟨e,y⟩:=y
  subst e
  exact hs i x ys _ (y xs q) p hD
 ·have e:i=xs.length:=by omega
  subst e
  exact .inl ⟨⟨xs,q,Q6 _⟩,hd ys H p hD⟩
end L2
namespace L2
open PySem PySem.Spec PyProof.Rows
def Ite (K:PySem.W.Frag) (a:Addr):It:=
 ⟨λi H=>∃xs x,SqL K H a xs∧xs[i]?=some x,λi H x H'=>∃p y,x= .ref p∧H p=none∧(∀xs,SqL K H a xs→xs[i]?=some y)∧H'=upd H p (.tup [.int (i:Int),y]),λi H=>∃xs,SqL K H a xs∧xs.length≤i⟩
theorem xf {P:Program} {w:World} {K:PySem.W.Frag} {elts:List Expr} {x1} {pos:Pos} (a e it:Addr) (hne:e≠it):
  vS P w K (.Tuple elts x1 pos) (Ite K a) [e,it] e (λi h=>(∃old,IsEnum h e it i old)∧h.IsListIter it a i) where
 mem:=by simp
 obj:=λi h st b hb=>by
  obtain⟨⟨old,he⟩,st⟩:=st
  rcases Qe.mp hb with rfl|hb
  ·exact⟨_,he,λv z=>by cases z⟩
  ·have z:b=it:=by simpa using hb
   subst z
   obtain⟨o,q,c,d⟩:=st
   exact⟨o,q,λv z=>by rw[d]at z;cases z⟩
 keep:=λi h h' st k=>⟨let⟨old,he⟩:=st.1;⟨old,k e (by simp) _ he⟩,st.2.at λo q=>k it (by simp) o q⟩
 item:=by
  intro X hP hw hK hc i pins s σ H E I hf st hg
  subst hP hw hK
  obtain⟨⟨old,he⟩,st⟩:=st
  obtain⟨xs,x,hq,hx⟩:=hg
  obtain⟨its,rv,p,hz⟩:=I.list hq
  obtain⟨u,hu,ru⟩:=rv.get hx
  have fe:=hf e (by simp)
  have fi:=hf it (by simp)
  refine wpAny_pyNext_enum_item he st p.isList (x:=u) (by simpa using hu) hne λh' g1 g2 g3 g4 g5=>⟨_,rfl,?_⟩
  refine wpAny_letOwnedTupleGo_enum g1 λh2 k1 k2=>?_
  have np:H s.heap.objs.size=none:=I.hok.fresh (Q6 _)
  have nee:s.heap.objs.size≠e:=Xz (Heap.lt_size he)
  have keep:∀b o,b≠e→b≠it→s.heap.get? b=some o→h2.get? b=some o:=λb o z1 z2 q=>(k2.2 b z1).trans (g5 b o z1 z2 q)
  have tupAt:h2.get? s.heap.objs.size=some {cls:= .type "tuple",data:= .seq #[.int i s.toks,u]}:=(k2.2 _ nee).trans g3
  have trk:∀b v,H b=some v→b≠e∧b≠it:=λb v q=>⟨(λz=>by rw[z,fe.1]at q;cases q),(λz=>by rw[z,fi.1]at q;cases q)⟩
  have un:Un (frs X.stack) [e,it] H (upd H s.heap.objs.size (.tup [.int (i:Int),x])) s.heap h2:=by
   refine⟨λb o q n hb hx=>keep b o (λz=>hx (by simp[z])) (λz=>hx (by simp[z])) q,λb o q n hb hx=>⟨o.slots,keep b o (λz=>hx (by simp[z])) (λz=>hx (by simp[z])) q⟩,λb o q n hx=>?_,
    λb o q hx=>⟨o,keep b o (λz=>hx (by simp[z])) (λz=>hx (by simp[z])) q⟩,λb ys q=>?_,λb o v q=>?_,λb ps q=>⟨#[],?_⟩⟩
   ·rw[ac (Qw (Heap.lt_size q))];exact n
   ·rw[ac (ai q np)];exact q
   ·rw[ac (ai q np)];exact q
   ·rw[ac (ai q np),q];simp
  have hok:HOk X.prog X.w (upd H s.heap.objs.size (.tup [.int (i:Int),x])) h2:=λb v q=>by
   by_cases z:b=s.heap.objs.size
   ·subst z
    rw[af]at q
    cases q
    exact⟨by show 2≤sizeLine;decide,[.int i s.toks,u],.cons ⟨_,rfl⟩ (.cons ru .nil),_,tupAt,rfl,_,rfl⟩
   ·rw[ac z]at q
    refine(I.hok b v q).stay (λc o hc r=>?_) (λc r=>by rw[ac (ai r np)];exact r) λc ys r=>by rw[ac (ai r np)];exact r
    rcases hc with rfl|hc
    ·exact keep _ _ (trk _ _ q).1 (trk _ _ q).2 r
    ·exact keep _ _ (trk _ _ hc).1 (trk _ _ hc).2 r
  have I2:Inv X pins σ (upd H s.heap.objs.size (.tup [.int (i:Int),x])) {s with heap:=h2,toks:=s.toks+1}:=I.call' (s':={s with heap:=h2,toks:=s.toks+1}) rfl un hok I.bare λb hb=>by
   have z:hV X pins H b:=hf b hb
   exact⟨z.2.2.2.1,z.2.1,z.2.2.2.2.1,z.2.2.2.2.2⟩
  refine⟨.ref s.heap.objs.size,_,I2,rfl,⟨_,x,rfl,np,λys hy=>by rw[I.list_inj hy hq];exact hx,rfl⟩,⟨⟨u,?_⟩,?_⟩,λb hb=>?_⟩
  ·have:=k1
   rwa [show((i:Int)+1)=((i+1:Nat):Int) by omega]at this
  ·obtain⟨o,q,r⟩:=g2
   exact⟨o,(k2.2 it (Ne.symm hne)).trans q,r⟩
  ·have ob:∃o,s.heap.get? b=some o:=by
    rcases Qe.mp hb with rfl|hb
    ·exact⟨_,he⟩
    ·have z:b=it:=by simpa using hb
     subst z
     obtain⟨o,q,_⟩:=st
     exact⟨o,q⟩
   obtain⟨o,q⟩:=ob
   rw[ac (Qw (Heap.lt_size q))]
   exact(hf b hb).1
 done:=by
  intro X hP hw hK hc i pins s σ H E I hf st hg
  subst hP hw hK
  obtain⟨⟨old,he⟩,st⟩:=st
  obtain⟨xs,hq,hx⟩:=hg
  obtain⟨its,rv,p,hz⟩:=I.list hq
  obtain⟨f0,f1,f2,f3,f4,f5⟩:=hf it (by simp)
  have hl:=rv.length
  exact wpAny_pyNext_enum_end (I.ok.hd hc) he st p.isList (by simp;omega) λh' eb=>⟨rfl,I.turned (t':=s.toks) (λb o hb e=>eb b o hb e) f0 f1 f3 f4 f5⟩
 self:=λ_ _ _ _ _ st h=>let⟨old,he⟩:=st.1;wpAny_pyIter_enum he h
section
variable {X:Cx}
def Ek (K:PySem.W.Frag) (ta:TA):TI:=λσ H R=>ta σ H λvs H1=>∃a,vs=[.ref a]∧(∃xs,SqL K H1 a xs)∧R (Ite K a) H1
theorem Bk {a:Expr} {ta:TA} {p pos pos':Pos} {elts:List Expr} {x1} (hg:Gl X "enumerate") (hm:X.mg "enumerate"=none) (ha:PA X [a] ta) (hs:starEach [a] X.env=[(false,eval a X.env)]:=by rfl):PI X (.Tuple elts x1 pos') (.Call (.Name "enumerate" p) [a] [] pos) (Ek X.K ta):=by
 intro pins s σ H R I h
 refine Call_ (lV I hg hm Boot.«enumerate» (PyProof.Rows.callWith_type1 (thn (ha pos pins s σ H _ I h) λus s1 hzz=>?_) hs rfl))
 obtain⟨vs,H1,I1,r1,q1⟩:=hzz
 obtain⟨b,e,⟨xs,hq⟩,q⟩:=q1
 subst e
 cases r1 with
 |cons r rr=>
  cases rr
  cases r
  obtain⟨its,rv,p,hz⟩:=I1.list hq
  refine call_enumerate_list p.isList λh' g1 g2 g3 g4=>?_
  refine wpAny_pyIter_enum g1 ?_
  refine⟨s1.heap.objs.size+1,[s1.heap.objs.size+1,s1.heap.objs.size],_,_,H1,rfl,I1.kept (t':=s1.toks) g4,xf b _ _ (Nat.succ_ne_self _),⟨⟨_,g1⟩,g2⟩,λb hb=>?_,q⟩
  rcases Qe.mp hb with rfl|hb
  ·exact I1.fpOk (Z4 _) (I1.hok.fresh (Z4 _))
  ·have z:b=s1.heap.objs.size:=by simpa using hb
   subst z
   exact I1.fpOk (Q6 _) (I1.hok.fresh (Q6 _))
end
theorem xR {K:PySem.W.Frag} {a:Addr} {xs:List V} {g:TG} {tb:TS} {nx:St→Hp→Prop} {rt:VK} {σ:St} {H:Hp} (Pv:Nat→St→Hp→Prop) (h0:Pv 0 σ H) (hl:∀i σ H,i≤xs.length→Pv i σ H→SqL K H a xs)
  (hs:∀i x p σ H,xs[i]?=some x→Pv i σ H→H p=none→g (.ref p) σ (upd H p (.tup [.int (i:Int),x])) λσ2 H2=>tb ⟨Pv (i+1),rt,nx,Pv (i+1)⟩ σ2 H2) (hd:∀σ H,Pv xs.length σ H→nx σ H):
  ∃W:Nat→Nat→St→Hp→Prop,(∃m,W 0 m σ H)∧∀i m σ H,W i m σ H→
   ((Ite K a).stop i H∧nx σ H)∨((Ite K a).go i H∧∃N:St→Hp→Prop,(∀σ' H',N σ' H'→∃m',m'<m∧W (i+1) m' σ' H')∧∀x H',(Ite K a).yld i H x H'→g x σ H' λσ2 H2=>tb ⟨N,rt,nx,N⟩ σ2 H2):=by
 refine⟨λi m σ H=>m=xs.length-i∧i≤xs.length∧Pv i σ H,⟨xs.length,by simp,Qh _,h0⟩,?_⟩
 rintro i m σ H ⟨rfl,hi,p⟩
 have q:=hl i σ H hi p
 by_cases lt:i<xs.length
 ·refine .inr ⟨⟨xs,xs[i],q,by simp[lt]⟩,Pv (i+1),λσ' H' z=>⟨xs.length-(i+1),by omega,rfl,lt,z⟩,λx H' y=>?_⟩
  obtain⟨pp,yy,rfl,np,e,rfl⟩:=y
  exact hs i yy pp σ H (e xs q) p np
 ·have e:i=xs.length:=by omega
  subst e
  exact .inl ⟨⟨xs,q,Q6 _⟩,hd σ H p⟩
end L2
namespace L2
open PySem PySem.Spec PyProof.Rows
def vwO (a d:Addr):HO:= .ext λh=>h.IsItemsView a d
def Itd (ob:Obj) (d:Addr) (kvs:List (Key×V)):It:=
 ⟨λi H=>H d=some (.frz ob (.dK kvs))∧i<kvs.length,λi H x H'=>∃p k v,x= .ref p∧H p=none∧kvs[i]?=some (k,v)∧H'=upd H p (.tup [kV k,v]),λi H=>H d=some (.frz ob (.dK kvs))∧kvs.length≤i⟩
def DObj (P:Program) (w:World) (ob:Obj) (d:Addr) (kvs:List (Key×V)) (vs:List (Key×Value)) (ep:Nat):Prop:=
 KV kvs vs∧∀h:Heap,h.get? d=some ob→h.DictAt (aU P w) d vs ep
theorem KV.getI {kvs:List (Key×V)} {vs:List (Key×Value)} (h:KV kvs vs):∀{i:Nat} {k:Key} {v:V},kvs[i]?=some (k,v)→∃u,vs[i]?=some (k,u)∧RelV v u:=by
 induction h with
 |nil=>intro i k v e;simp at e
 |cons r t ih=>
  rename_i p q ps qs
  intro i k v e
  cases i with
  |zero=>
   simp at e
   subst e
   exact⟨q.2,by simp[show k=q.1 from r.1],r.2⟩
  |succ j=>
   obtain⟨u,h1,h2⟩:=ih (i:=j) (by simpa using e)
   exact⟨u,by simpa using h1,h2⟩
theorem u9 {P:Program} {w:World} {K:PySem.W.Frag} {elts:List Expr} {x1} {pos:Pos} {ob:Obj} {d:Addr} {kvs:List (Key×V)} {vs:List (Key×Value)} {ep:Nat} (it:Addr) (D:DObj P w ob d kvs vs ep):
  vS P w K (.Tuple elts x1 pos) (Itd ob d kvs) [it] it (λi h=>∃ok ov,IsItemIter h it d i vs.length ep ok ov) where
 mem:=by simp
 obj:=λi h st b hb=>by
  obtain⟨ok,ov,st⟩:=st
  have z:b=it:=by simpa using hb
  subst z
  exact⟨_,st,λv z=>by cases z⟩
 keep:=λi h h' st k=>by
  obtain⟨ok,ov,st⟩:=st
  exact⟨ok,ov,k it (by simp) _ st⟩
 item:=by
  intro X hP hw hK hc i pins s σ H E I hf st hg
  subst hP hw hK
  obtain⟨ok,ov,st⟩:=st
  obtain⟨hq,hi⟩:=hg
  have fi:=hf it (by simp)
  obtain⟨hob,_⟩:=I.hok d _ hq
  have hat:=D.2 s.heap hob
  obtain⟨⟨k,v⟩,hx⟩:∃kv,kvs[i]?=some kv:=⟨kvs[i],by simp[hi]⟩
  obtain⟨u,hu,ru⟩:=KV.getI D.1 hx
  refine wpAny_pyNext_items_item st hat hu λkey h' hkey g1 g3 gz g5=>⟨_,rfl,?_⟩
  refine wpAny_letOwnedTupleGo_items g1 λh2 k1 k2=>?_
  have rk:RelV (kV k) key:=sT hkey
  have np:H s.heap.objs.size=none:=I.hok.fresh (Q6 _)
  have nit:s.heap.objs.size≠it:=Xz (Heap.lt_size st)
  have keep:∀b o,b≠it→s.heap.get? b=some o→h2.get? b=some o:=λb o z q=>(k2.2 b z).trans (g5 b o z q)
  have tupAt:h2.get? s.heap.objs.size=some {cls:= .type "tuple",data:= .seq #[key,u]}:=(k2.2 _ nit).trans g3
  have trk:∀b v,H b=some v→b≠it:=λb v q z=>by rw[z,fi.1]at q;cases q
  have un:Un (frs X.stack) [it] H (upd H s.heap.objs.size (.tup [kV k,v])) s.heap h2:=by
   refine⟨λb o q n hb hx=>keep b o (λz=>hx (by simp[z])) q,λb o q n hb hx=>⟨o.slots,keep b o (λz=>hx (by simp[z])) q⟩,λb o q n hx=>?_,
    λb o q hx=>⟨o,keep b o (λz=>hx (by simp[z])) q⟩,λb ys q=>?_,λb o v q=>?_,λb ps q=>⟨#[],?_⟩⟩
   ·rw[ac (Qw (Heap.lt_size q))];exact n
   ·rw[ac (ai q np)];exact q
   ·rw[ac (ai q np)];exact q
   ·rw[ac (ai q np),q];simp
  have hok:HOk X.prog X.w (upd H s.heap.objs.size (.tup [kV k,v])) h2:=λb v' q=>by
   by_cases z:b=s.heap.objs.size
   ·subst z
    rw[af]at q
    cases q
    exact⟨by show 2≤sizeLine;decide,[key,u],.cons rk (.cons ru .nil),_,tupAt,rfl,_,rfl⟩
   ·rw[ac z]at q
    refine(I.hok b v' q).stay (λc o hc r=>?_) (λc r=>by rw[ac (ai r np)];exact r) λc ys r=>by rw[ac (ai r np)];exact r
    rcases hc with rfl|hc
    ·exact keep _ _ (trk _ _ q) r
    ·exact keep _ _ (trk _ _ hc) r
  have I2:Inv X pins σ (upd H s.heap.objs.size (.tup [kV k,v])) {s with heap:=h2}:=I.call' (s':={s with heap:=h2}) rfl un hok I.bare λb hb=>by
   have z:hV X pins H b:=hf b hb
   exact⟨z.2.2.2.1,z.2.1,z.2.2.2.2.1,z.2.2.2.2.2⟩
  refine⟨.ref s.heap.objs.size,_,I2,rfl,⟨_,k,v,rfl,np,hx,rfl⟩,⟨key,u,k1⟩,λb hb=>?_⟩
  have z:b=it:=by simpa using hb
  subst z
  rw[ac (Ne.symm nit)]
  exact fi.1
 done:=by
  intro X hP hw hK hc i pins s σ H E I hf st hg
  subst hP hw hK
  obtain⟨ok,ov,st⟩:=st
  obtain⟨hq,hi⟩:=hg
  obtain⟨hob,_⟩:=I.hok d _ hq
  have hat:=D.2 s.heap hob
  obtain⟨f0,f1,f2,f3,f4,f5⟩:=hf it (by simp)
  have hl:kvs.length=vs.length:=D.1.length
  exact wpAny_pyNext_items_end (I.ok.hd hc) st hat (by simp;omega) λh' eb=>⟨rfl,I.turned (t':=s.toks) (λb o hb e=>eb b o hb e) f0 f1 f3 f4 f5⟩
 self:=λ_ _ _ _ _ st h=>let⟨_,_,st⟩:=st;PySem.W.kcp_self st h
section
variable {X:Cx}
def C2:V→List V→Hp→VK→Prop:=λx vs H Q=>∃d kvs,x= .ref d∧vs=[]∧H d=some (.dK kvs)∧∀a,H a=none→Q (.ref a) (upd H a (vwO a d))
theorem o8:MtR X "dict.items" C2:=by
 intro pins s σ H x vs v us Q I rx rv h
 obtain⟨d,kvs,rfl,rfl,hd,q⟩:=h
 cases rx
 cases rv
 obtain⟨z,lo,ws,rel,dd⟩:=jg I.hok hd
 refine call_meetsIn ZO dd.typeIs PySem.F.entry_dict_items (PySem.F.args_dict_items_1 _) (meets_dict_items (aU X.prog X.w) d lo) ⟨⟨ws,dd⟩,?_⟩
 have new:(s.heap.push {cls:= .type "dict_items",data:= .fields #[.ref d]}).get? s.heap.objs.size=some {cls:= .type "dict_items",data:= .fields #[.ref d]}:=Heap.get?_push_size _ rfl
 refine⟨.ref s.heap.objs.size,_,I.laid (t':=s.toks) (λb o e=>Heap.get?_push_of_some _ e) (Q6 _) (show ObjOk X.prog X.w _ _ _ (vwO s.heap.objs.size d) from⟨⟨_,new,rfl,rfl⟩,⟨_,new⟩,λh1 h2 p k=>?_⟩),rfl,q _ (I.hok.fresh (Q6 _))⟩
 obtain⟨o,e,c⟩:=p
 exact⟨o,k o e,c⟩
theorem Inv.freeze {pins:List (Addr×Obj)} {σ:St} {H:Hp} {s:Shared} {d:Addr} {kvs:List (Key×V)} {ob:Obj} (I:Inv X pins σ H s) (hd:H d=some (.dK kvs)) (ho:s.heap.get? d=some ob):Inv X pins σ (upd H d (.frz ob (.dK kvs))) s:=by
 have own:∀b y,H b=some (.own y)→upd H d (.frz ob (.dK kvs)) b=some (.own y):=λb y q=>by rw[ac (λz=>by rw[z,hd]at q;cases q)];exact q
 have tup:∀b xs,H b=some (.tup xs)→upd H d (.frz ob (.dK kvs)) b=some (.tup xs):=λb xs q=>by rw[ac (λz=>by rw[z,hd]at q;cases q)];exact q
 have non:∀b,H b=none→upd H d (.frz ob (.dK kvs)) b=none:=λb q=>by rw[ac (λz=>by rw[z,hd]at q;cases q)];exact q
 refine⟨I.ok,I.os,I.bare,⟨I.base.keep,I.base.slot,λb o e n hx=>non b (I.base.free b o e n hx),I.base.there,λb xs e=>tup b xs (I.base.tups b xs e),λb o u e=>?_,λb ps e=>?_⟩,I.loc,I.cell,non _ I.free,λx c e=>non c (I.freeC x c e),λp hp=>?_,λb o e=>?_,I.len⟩
 ·have:=I.base.frzs b o u e
  rw[ac (λz=>by rw[z,hd]at this;cases this)];exact this
 ·obtain⟨m,q⟩:=I.base.tbls b ps e
  exact⟨m,by rw[ac (λz=>by rw[z,hd]at q;cases q)];exact q⟩
 ·obtain⟨h1,h2,h3⟩:=I.pin p hp
  exact⟨h1,non _ h2,h3⟩
 ·by_cases z:b=d
  ·subst z
   rw[af]at e
   cases e
   exact⟨ho,(I.hok b _ hd).stay (λ_ _ _ q=>q) (λc q=>own c b q) tup⟩
  ·rw[ac z]at e
   exact(I.hok b o e).stay (λ_ _ _ q=>q) (λc q=>own c b q) tup
theorem Inv.thaw {pins:List (Addr×Obj)} {σ:St} {H:Hp} {s:Shared} {d:Addr} {kvs:List (Key×V)} {ob:Obj} (I:Inv X pins σ H s) (hd:H d=some (.frz ob (.dK kvs))) (h0:∀o u,X.H₀ d≠some (.frz o u)):Inv X pins σ (upd H d (.dK kvs)) s:=by
 have own:∀b y,H b=some (.own y)→upd H d (.dK kvs) b=some (.own y):=λb y q=>by rw[ac (λz=>by rw[z,hd]at q;cases q)];exact q
 have tup:∀b xs,H b=some (.tup xs)→upd H d (.dK kvs) b=some (.tup xs):=λb xs q=>by rw[ac (λz=>by rw[z,hd]at q;cases q)];exact q
 have non:∀b,H b=none→upd H d (.dK kvs) b=none:=λb q=>by rw[ac (λz=>by rw[z,hd]at q;cases q)];exact q
 refine⟨I.ok,I.os,I.bare,⟨I.base.keep,I.base.slot,λb o e n hx=>non b (I.base.free b o e n hx),I.base.there,λb xs e=>tup b xs (I.base.tups b xs e),λb o u e=>?_,λb ps e=>?_⟩,I.loc,I.cell,non _ I.free,λx c e=>non c (I.freeC x c e),λp hp=>?_,λb o e=>?_,I.len⟩
 ·have:=I.base.frzs b o u e
  rw[ac (λz=>by rw[z]at e;exact h0 _ _ e)];exact this
 ·obtain⟨m,q⟩:=I.base.tbls b ps e
  exact⟨m,by rw[ac (λz=>by rw[z,hd]at q;cases q)];exact q⟩
 ·obtain⟨h1,h2,h3⟩:=I.pin p hp
  exact⟨h1,non _ h2,h3⟩
 ·by_cases z:b=d
  ·subst z
   rw[af]at e
   cases e
   obtain⟨_,q⟩:=I.hok b _ hd
   exact ObjOk.stay (show ObjOk X.prog X.w H s.heap b (.dK kvs) from q) (λ_ _ _ q=>q) (λc q=>own c b q) tup
  ·rw[ac z]at e
   exact(I.hok b o e).stay (λ_ _ _ q=>q) (λc q=>own c b q) tup
theorem Inv.noFrz {pins:List (Addr×Obj)} {σ:St} {H:Hp} {s:Shared} {d:Addr} {kvs:List (Key×V)} (I:Inv X pins σ H s) (hd:H d=some (.dK kvs)):∀o u,X.H₀ d≠some (.frz o u):=λo u e=>by
 have:=I.base.frzs d o u e
 rw[hd]at this
 cases this
def Dp (te:TE):TI:=λσ H R=>te σ H λx H1=>∃a d kvs,x= .ref a∧H1 a=some (vwO a d)∧H1 d=some (.dK kvs)∧∀ob,R (Itd ob d kvs) (upd H1 d (.frz ob (.dK kvs)))
theorem t7 {l:Expr} {te:TE} {elts:List Expr} {x1} {pos:Pos} (hl:PE X l te):PI X (.Tuple elts x1 pos) l (Dp te):=by
 intro pins s σ H R I h
 refine thn (hl pins s σ H _ I h) λv s1 hzz=>?_
 obtain⟨x,H1,I1,r1,q1⟩:=hzz
 obtain⟨a,d,kvs,e,ha,hd,q⟩:=q1
 subst e
 cases r1
 obtain⟨z,lo,vs,rel,dd⟩:=jg I1.hok hd
 obtain⟨ep,hat⟩:=dd.dictAt
 obtain⟨vw,_,_⟩:=(show ObjOk X.prog X.w H1 s1.heap a (vwO a d) from I1.hok a _ ha)
 obtain⟨ob,es,hob,rest⟩:=id hat
 refine wpAny_pyIter_items vw hat ?_
 have If:=I1.freeze hd hob
 refine⟨s1.heap.objs.size,[s1.heap.objs.size],_,_,_,rfl,If.kept (t':=s1.toks) λb o e=>Heap.get?_push_of_some _ e,u9 _ ⟨rel,λh e=>⟨ob,es,e,rest⟩⟩,⟨_,_,Heap.get?_push_size _ rfl⟩,λb hb=>?_,q ob⟩
 have e:b=s1.heap.objs.size:=by simpa using hb
 subst e
 exact If.fpOk (Q6 _) (If.hok.fresh (Q6 _))
def DJ (t:TS):TS:=λD σ H=>∃d kvs,H d=some (.dK kvs)∧t ⟨λσ' H'=>∃ob,H' d=some (.frz ob (.dK kvs))∧D.nx σ' (upd H' d (.dK kvs)),λv H'=>∃ob,H' d=some (.frz ob (.dK kvs))∧D.rt v (upd H' d (.dK kvs)),
 λσ' H'=>∃ob,H' d=some (.frz ob (.dK kvs))∧D.bk σ' (upd H' d (.dK kvs)),λσ' H'=>∃ob,H' d=some (.frz ob (.dK kvs))∧D.ct σ' (upd H' d (.dK kvs))⟩ σ H
theorem sE {st:Stmt} {t:TS} (h:PS X st t):PS X st (DJ t):=by
 intro pins s σ H D I ⟨d,kvs,hd,q⟩
 have h0:=I.noFrz hd
 refine thn (h pins s σ H _ I q) λf s1 q1=>?_
 cases f with
 |next=>obtain⟨σ7,H7,I7,ob,e,q7⟩:=q1;exact⟨σ7,_,I7.thaw e h0,q7⟩
 |cont=>obtain⟨σ7,H7,I7,ob,e,q7⟩:=q1;exact⟨σ7,_,I7.thaw e h0,q7⟩
 |brk=>obtain⟨σ7,H7,I7,ob,e,q7⟩:=q1;exact⟨σ7,_,I7.thaw e h0,q7⟩
 |ret v=>obtain⟨x7,σ7,H7,I7,r7,ob,e,q7⟩:=q1;exact⟨x7,σ7,_,I7.thaw e h0,r7,q7⟩
end
theorem pE {ob:Obj} {d:Addr} {kvs:List (Key×V)} {g:TG} {tb:TS} {nx:St→Hp→Prop} {rt:VK} {σ:St} {H:Hp} (Pv:Nat→St→Hp→Prop) (h0:Pv 0 σ H) (hl:∀i σ H,i≤kvs.length→Pv i σ H→H d=some (.frz ob (.dK kvs)))
  (hs:∀i k v p σ H,kvs[i]?=some (k,v)→Pv i σ H→H p=none→g (.ref p) σ (upd H p (.tup [kV k,v])) λσ2 H2=>tb ⟨Pv (i+1),rt,nx,Pv (i+1)⟩ σ2 H2) (hd:∀σ H,Pv kvs.length σ H→nx σ H):
  ∃W:Nat→Nat→St→Hp→Prop,(∃m,W 0 m σ H)∧∀i m σ H,W i m σ H→
   ((Itd ob d kvs).stop i H∧nx σ H)∨((Itd ob d kvs).go i H∧∃N:St→Hp→Prop,(∀σ' H',N σ' H'→∃m',m'<m∧W (i+1) m' σ' H')∧∀x H',(Itd ob d kvs).yld i H x H'→g x σ H' λσ2 H2=>tb ⟨N,rt,nx,N⟩ σ2 H2):=by
 refine⟨λi m σ H=>m=kvs.length-i∧i≤kvs.length∧Pv i σ H,⟨kvs.length,by simp,Qh _,h0⟩,?_⟩
 rintro i m σ H ⟨rfl,hi,p⟩
 have q:=hl i σ H hi p
 by_cases lt:i<kvs.length
 ·refine .inr ⟨⟨q,lt⟩,Pv (i+1),λσ' H' z=>⟨kvs.length-(i+1),by omega,rfl,lt,z⟩,λx H' y=>?_⟩
  obtain⟨pp,k,v,rfl,np,e,rfl⟩:=y
  exact hs i k v pp σ H e p np
 ·have e:i=kvs.length:=by omega
  subst e
  exact .inl ⟨⟨q,Q6 _⟩,hd σ H p⟩
end L2
namespace L2
open PySem PySem.Spec PyProof.Rows
section
variable {X:Cx} (K:PySem.W.Frag) (hK:X.K=K)
include hK
theorem qB:eJ X (.builtin "len") (λxs H Q=>∃p ys,xs=[.ref p]∧(SqL K H p ys∨SqT K H p ys)∧Q (.int ys.length) H):=by subst hK;exact aA
theorem kJ:IxR X (rIxT K):=by subst hK;exact sV
end
section
variable {X:Cx}
theorem rO (hc:X.calm=true):eJ X (.builtin "min") (λxs H Q=>∃(p:Addr) (ns:List Int),xs=[.ref p]∧SqL X.K H p (ns.map V.int)∧0<ns.length∧∀M,M∈ns→(∀a∈ns,M≤a)→Q (.int M) H):=by
 intro pins s σ H xs us Q I r h
 obtain⟨p,ns,rfl,hq,hne,q⟩:=h
 obtain⟨u,rfl,ru⟩:=j9 r
 cases ru
 obtain⟨its,rv,pl,hz⟩:=I.list hq
 have hi:IntsAre its ns:=jU rv
 obtain⟨xs,e⟩:=hi.allInts.items
 have hns:ns=xs.toList.map (·.1):=by
  rw[←hi.numsOf,←nums_intItems,←e]
 have hsz:0<xs.size:=by
  have h3:=hne;rw[hns,Q0,Q9]at h3;exact h3
 have hl:=pl.isList
 rw[e]at hl
 refine min_intList (I.ok.hd hc) hl hsz λv h' tk hv hk=>?_
 obtain⟨t,rfl⟩:=intItems_at hv
 obtain⟨h1,h2⟩:=argBest_lt (numAt xs) (xs.size-1)
 refine⟨.int _,H,I.kept (t':=tk) hk,⟨t,rfl⟩,q _ ?_ λa ha=>?_⟩
 ·rw[hns,numAt_eq];exact getD_mem (by rw[Q0,Q9];omega)
 ·rw[hns]at ha
  obtain⟨j,hj,rfl⟩:=mem_getD ha
  rw[Q0,Q9]at hj
  rw[←numAt_eq];exact h2 j (by omega)
end
end L2
namespace L2
open PySem PySem.Spec PyProof.Rows
theorem re {y:Int}:∀{ns:List Int} {m:Nat},m<ns.idxOf y→(h:m<ns.length)→ns[m]≠y
 | [],m,_,h=>by simp at h
 |a::r,m,lt,h=>by
  rw[List.idxOf_cons]at lt
  by_cases c:a=y
  ·rw[c]at lt;simp at lt
  ·have:(a==y)=false:=beq_eq_false_iff_ne.mpr c
   rw[this]at lt
   cases m with
   |zero=>exact c
   |succ j=>exact re (ns:=r) (m:=j) (by simpa using lt) (by simpa using h)
theorem rF:∀(ns:List Int) (i:Nat),(ns.eraseIdx i).map V.int=(ns.map V.int).eraseIdx i
 | [],_=>rfl
 |_::_,0=>rfl
 |a::r,i+1=>by
  show V.int a::(r.eraseIdx i).map V.int=V.int a::(r.map V.int).eraseIdx i
  rw[rF r i]
section
variable {X:Cx}
def Bd:V→List V→Hp→VK→Prop:=λx vs H Q=>∃(l:Addr) (xs:List V) (k:Int) (y:V),x= .ref l∧vs=[.int k,y]∧H l=some (.lst xs)∧0≤k∧k≤(xs.length:Int)∧xs.length<sizeLine∧Q .non (upd H l (.lst (xs.take k.toNat++y::xs.drop k.toNat)))
theorem lR:MtM X "list.insert" Bd:=by
 intro pins s σ H x vs v us Q I rx rv h
 obtain⟨l,xs,k,y,rfl,rfl,hH,h0,hk,hz,q⟩:=h
 cases rx
 obtain⟨u1,u,rfl,⟨t,rfl⟩,ru⟩:=rv.two
 obtain⟨z,its,n,r,hl,e⟩:=I.lstM hH
 have fits:¬(!Builtin.List.listFitsIndex k)=true:=by
  have line:=pq
  rw[fitsIndex_both (by omega) (by omega)]
  exact Qc
 have hsz:its.toArray.size≤sizeLine:=by rw[Qi];omega
 refine call_meets F.slot_list_insert ⟨_,e,rfl⟩ F.entry_list_insert (F.args_list_insert_3 _ _ _) (AutoListH.list_insert_list_int_val_1 l its.toArray n k t u fits hsz) ⟨e,?_⟩
 refine⟨.non,_,I.lset (its':=its.take k.toNat++u::its.drop k.toNat) hH e ?_ ((r.take k.toNat).append (.cons ru (r.drop k.toNat))) ?_,rfl,q⟩
 ·have e0:(if k<0 then(k+((its.toArray.size:Nat):Int)).toNat else min k.toNat its.toArray.size)=k.toNat:=by
   rw[if_neg (by omega),Qi]
   omega
  show(its.toArray.extract 0 _).push u++its.toArray.extract _=_
  rw[e0]
  simp
  exact QN (by rw[QI];omega)
 ·rw[Qg,Qf,Qm,QI]
  omega
def Bc:V→List V→Hp→VK→Prop:=λx vs H Q=>∃(l:Addr) (ns:List Int) (y:Int),x= .ref l∧vs=[.int y]∧H l=some (.lst (ns.map V.int))∧y∈ns∧Q .non (upd H l (.lst ((ns.erase y).map V.int)))
theorem xB:MtM X "list.remove" Bc:=by
 intro pins s σ H x vs v us Q I rx rv h
 obtain⟨l,ns,y,rfl,rfl,hH,hy,q⟩:=h
 cases rx
 obtain⟨u,rfl,ru⟩:=rv.one
 obtain⟨t,rfl⟩:=ru
 obtain⟨z,its,n,r,hl,e⟩:=I.lstM hH
 have hi:IntsAre its ns:=jU r
 have at_:∀(m:Nat) (hm:m<its.toArray.size),∃t',its.toArray[m]=Value.int (ns.getD m 0) t':=λm hm=>by
  have hm':m<ns.length:=by rw[Qi,←hl,Q0]at hm;exact hm
  obtain⟨w,hw,rw'⟩:=r.get (i:=m) (x:= .int (ns.getD m 0)) (by rw[Ql,Q5 hm',Qn,Q5 hm'];rfl)
  obtain⟨t',rfl⟩:=rw'
  refine⟨t',?_⟩
  have:=(Q4.mp hw).2
  simpa using this
 have hx:ns.idxOf y<ns.length:=List.idxOf_lt_length_of_mem hy
 have ga:∀m,m<ns.length→ns.getD m 0=ns[m]!:=λm hm=>by simp[hm]
 refine call_meets F.slot_list_remove ⟨_,e,rfl⟩ F.entry_list_remove (F.args_list_remove_2 _ _) (MeetsSeq.list_remove l its.toArray n (.int y t) (λv=>match v with| .int i _=>i==y|_=>false) (λv hv=>?_) (ns.idxOf y) (by rw[Qi,←hl,Q0];exact hx) ?_ (λm hm lt=>?_) (by rw[Qi];omega)) ⟨e,?_⟩
 ·obtain⟨m,hm,em⟩:=Array.getElem_of_mem hv
  obtain⟨t',et⟩:=at_ m hm
  rw[←em,et]
  exact MeetsSeq.EqGives.int _ _ _ _
 ·obtain⟨t',et⟩:=at_ (ns.idxOf y) (by rw[Qi,←hl,Q0];exact hx)
  rw[et]
  show(ns.getD (ns.idxOf y) 0==y)=true
  rw[Qn,Q5 hx,Option.getD_some,List.getElem_idxOf hx]
  exact beq_self_eq_true y
 ·obtain⟨t',et⟩:=at_ m hm
  rw[et]
  show(ns.getD m 0==y)=false
  have hm':m<ns.length:=by omega
  rw[Qn,Q5 hm',Option.getD_some]
  exact beq_eq_false_iff_ne.mpr (λw=>re lt hm' w)
 ·have ee:ns.erase y=ns.eraseIdx (ns.idxOf y):=(List.erase_eq_eraseIdx_of_idxOf rfl)
  have em:(ns.eraseIdx (ns.idxOf y)).map V.int=(ns.map V.int).eraseIdx (ns.idxOf y):=rF _ _
  rw[ee,em]at q
  refine⟨.non,_,I.lset (its':=its.eraseIdx (ns.idxOf y)) hH e ?_ (r.eraseIdx (ns.idxOf y)) ?_,rfl,q⟩
  ·show its.toArray.eraseIdxIfInBounds (ns.idxOf y)=(its.eraseIdx (ns.idxOf y)).toArray
   rw[XH]
  ·have:=lU (ns.map V.int) (ns.idxOf y)
   omega
end
end L2
namespace L2
open PySem PySem.Spec PyProof.Rows
end L2
namespace L2
open PySem PySem.Spec PyProof.Rows
section
variable {X:Cx}
theorem qO:∀as:List Addr,Vals (as.map V.ref) (as.map Value.ref)
 | []=> .nil
 |_::as=> .cons rfl (qO as)
theorem tM:∀{as:List Addr} {kvs:List (Key×V)} {j:Nat} {a:Addr} {kv:Key×V},as.Pairwise (· < ·)→as[j]?=some a→kvs[j]?=some kv→(as.zip kvs).find? (λp=>decide (p.1=a))=some (a,kv)
 | [],_,_,_,_,_,h,_=>by simp at h
 |_::_,[],_,_,_,_,_,h=>by simp at h
 |b::as,kv'::kvs,0,a,kv,_,h1,h2=>by
  simp at h1 h2
  subst h1 h2
  rw[List.zip_cons_cons,List.find?_cons_of_pos (by simp)]
 |b::as,kv'::kvs,j+1,a,kv,up,h1,h2=>by
  rw[Zb]at h1 h2
  rw[Z7]at up
  have lt:b<a:=up.1 a (Q3 h1)
  rw[List.zip_cons_cons,List.find?_cons_of_neg (by simp;exact Qw lt)]
  exact tM up.2 h1 h2
theorem m8 {as:List Addr} {kvs:List (Key×V)} {a:Addr} (h:a∉as):(as.zip kvs).find? (λp=>decide (p.1=a))=none:=by
 refine List.find?_eq_none.mpr λp hp=>?_
 have:=(Xh (a:=p.1) (b:=p.2) hp).1
 simp
 intro e
 exact h (e▸this)
theorem Un.many {fs ex:List Addr} {H H':Hp} {h h':Heap} (k:∀b u,h.get? b=some u→h'.get? b=some u) (hs:Same H H') (hn:∀b,b<h.objs.size→H' b=H b):Un fs ex H H' h h' where
 keep:=λb u q _ _ _=>k b u q
 slot:=λb u q _ _ _=>⟨u.slots,k b u q⟩
 free:=λb u q n _=>by rw[hn b (Heap.lt_size q)];exact n
 there:=λb u q _=>⟨u,k b u q⟩
 tups:=λb xs q=>hs _ _ q
 frzs:=λb u xs q=>hs _ _ q
 tbls:=λb ps q=>⟨#[],by rw[hs _ _ q];simp⟩
end
end L2
namespace Srt
open PySem PySem.Calls PySem.Spec PyProof.Rows
section
variable {prog:Program} {w:World} {A:Around} {E:Value→Shared→Prop} {s:Shared} {κ:SortKind} {blt:Heap→Keyed→Keyed→Bool}
theorem sorted_src2 {r:Value} {G:Heap→List Value→Prop} {Q:Value→Shared→Prop}
  (hc:∀(R:List Value→Shared→Prop) (E':Value→Shared→Prop),(∀(h1:Heap) (tk:Nat) (vs:List Value),(∀b o,s.heap.get? b=some o→h1.get? b=some o)→G h1 vs→R vs {s with heap:=h1,toks:=tk})→wpAny (model prog w) A.in1 (collect r) R E' s)
  (hz:∀h vs,G h vs→vs.length≤sizeLine) (C:∀h,Cmp (blt h))
  (hkk:∀(vs:List Value) (h1 h':Heap) (tk:Nat),G h1 vs→(∀b o,h1.get? b=some o→h'.get? b=some o)→2≤vs.length→∀Q':SortKind→Shared→Prop,Q' κ {s with heap:=h',toks:=tk}→wpAny (model prog w) A.in1.in1 (keyKind' vs.toArray) Q' (λ_ _=>False) {s with heap:=h',toks:=tk})
  (L:∀(vs:List Value) (h1 h':Heap) (tk:Nat),G h1 vs→(∀b o,h1.get? b=some o→h'.get? b=some o)→qM prog w A.in1.in1 (λ_ _=>False) {s with heap:=h',toks:=tk} (pairsOf vs) κ (blt h1))
  (h:∀(vs:List Value) (h1 h2:Heap) (tk e:Nat) (out:Array Keyed),G h1 vs→(∀b o,s.heap.get? b=some o→h1.get? b=some o)→(∀b o,h1.get? b=some o→h2.get? b=some o)→h2.get? h1.objs.size=some (seqObj "list" (out.map (·.2)) e)→out.Perm (pairsOf vs)→PW (blt h1) out.toList→Q (.ref h1.objs.size) {s with heap:=h2,toks:=tk}):
  wpAny (model prog w) A (call (.builtin "sorted") [r]) Q E s:=by
 refine Calls.call_function_entry kind_sorted plain_sorted entry_sorted (args_sorted1 _) ?_
 unfold Builtin.«sorted»
 refine wpAny_bind (m:=checkCount "sorted" 1 1 _) (wpAny_pure (wpAny_bind (hc _ _ λh1 tk vs k1 g=>?_)))
 refine wpAny_bind (wpAny_newList ?_ (hsz:=hz h1 vs g))
 have new:(h1.push (seqObj "list" vs.toArray 0)).get? h1.objs.size=some (seqObj "list" vs.toArray 0):=Heap.get?_push_size _ rfl
 have keep:∀h':Heap,But h1.objs.size {s with heap:=h1.push (seqObj "list" vs.toArray 0),toks:=tk} {s with heap:=h',toks:=tk}→∀b o,h1.get? b=some o→h'.get? b=some o:=λh' k b o e=>
  k b o (Qw (Heap.lt_size e)) (Heap.get?_push_of_some _ e)
 show wpAny _ _ _ _ _ {s with heap:=h1.push (seqObj "list" vs.toArray 0),toks:=tk}
 refine wpAny_bind (wpAny_holding (wpAny_mono (wpAny_call_entry (E:=λ_ _=>False) slot_list_sort ⟨_,new,rfl⟩ entry_list_sort (lG (s:={s with heap:=h1.push (seqObj "list" vs.toArray 0),toks:=tk}) (κ:=κ) (blt:=blt h1) new (hz h1 vs g) (C h1) (λh' k=>hkk vs h1 h' tk g (keep h' k)) (λh' k=>L vs h1 h' tk g (keep h' k)) λout p q=>⟨_,rfl,?_⟩) (args_list_sort _)) (λ_ _ q=>q) λ_ _ f=>f.elim))
 refine wpAny_pure ⟨_,rfl,?_⟩
 obtain⟨e,at_⟩:=sortedHeap_at (out:=out.map (·.2)) new
 refine h vs h1 _ tk e out g k1 (λb o q=>?_) at_ p q
 have lt:=Heap.lt_size q
 rw[sortedHeap_old (Qw lt) (by rw[size_push'];exact XE lt)]
 exact Heap.get?_push_of_some _ q
end
end Srt
namespace L2
open PySem PySem.Spec PyProof.Rows Srt
section
variable {X:Cx}
def layT (H:Hp) (as:List Addr) (kvs:List (Key×V)):Hp:=λb=>match (as.zip kvs).find? (λp=>decide (p.1=b))with
 |some p=>some (.tup [kV p.2.1,p.2.2])
 |none=>H b
def ivs (ns:List (Int×Int)):List (Key×V):=ns.map λp=>(Sum.inl p.1,V.int p.2)
def kyP (h:Heap):Value→List Int
 | .ref b=>match h.get? b with
  |some o=>match o.data with
   | .seq xs _=>match xs.toList with
    | [.int i _,.int j _]=> [i,j]
    |_=> []
   |_=> []
  |none=> []
 |_=> []
theorem sR {h:Heap} {b:Addr} {i j:Int} {t t':Tok} (e:h.get? b=some {cls:= .type "tuple",data:= .seq #[Value.int i t,Value.int j t']}):kyP h (.ref b)=[i,j]:=by
 simp only[kyP,e]
theorem qz (hh:X.A.handled=none):eJ X (.builtin "sorted") (λxs H Q=>∃(a d:Addr) (ns:List (Int×Int)),xs=[.ref a]∧H a=some (vwO a d)∧H d=some (.dK (ivs ns))∧
  ∀(H':Hp) (l:Addr) (es:List (Addr×Int×Int)),Same H H'→H l=none→H' l=some (.lst (es.map λe=>V.ref e.1))→(∀e∈es,H e.1=none∧H' e.1=some (.tup [.int e.2.1,.int e.2.2]))→(es.map (·.2)).Perm ns→(es.map (·.2)).Pairwise (λp q=>HT.lexLt [q.1,q.2] [p.1,p.2]=false)→Q (.ref l) H'):=by
 intro pins s σ H xs us Q I r h
 obtain⟨a,d,ns,rfl,ha,hd,q⟩:=h
 obtain⟨u,rfl,ru⟩:=j9 r
 cases ru
 obtain⟨z,lo,vs,rel,dd⟩:=jg I.hok hd
 obtain⟨ep,hat⟩:=dd.dictAt
 obtain⟨vw,_,_⟩:=(show ObjOk X.prog X.w H s.heap a (vwO a d) from I.hok a _ ha)
 have hlen:(ivs ns).length=vs.length:=rel.length
 have hln:(ivs ns).length=ns.length:=Q0 _
 have pr:∀{h1 h':Heap} {as:List Addr},PySem.W.KdxG (aU X.prog X.w) vs s.heap.objs.size h1 as→as.length=vs.length→(∀b o,h1.get? b=some o→h'.get? b=some o)→∀(j:Nat) (b:Addr),as[j]?=some b→∃(p:Int×Int) (t t':Tok),ns[j]?=some p∧h'.get? b=some {cls:= .type "tuple",data:= .seq #[Value.int p.1 t,Value.int p.2 t']}:=λ{h1 h' as} g gl k j b hb=>by
  obtain⟨key,k0,x,e1,e2,e3⟩:=g.pairs j b hb
  have jl:j<ns.length:=by
   have:=(Q4.mp hb).1
   omega
  have e4:(ivs ns)[j]?=some (Sum.inl ns[j].1,V.int ns[j].2):=by
   unfold ivs
   rw[Ql,Q5 jl]
   rfl
  obtain⟨u,e5,ru⟩:=KV.getI rel e4
  rw[e1]at e5
  cases e5
  obtain⟨t',rfl⟩:=ru
  obtain⟨t,rfl⟩:=(show RelV (.int ns[j].1) key from sT e2)
  exact⟨ns[j],t,t',Q5 jl,k _ _ e3⟩
 refine Srt.sorted_src2 (G:=λh its=>∃as:List Addr,its=as.map Value.ref∧as.length=vs.length∧PySem.W.KdxG (aU X.prog X.w) vs s.heap.objs.size h as) (κ:=tuples' (Value.type "int" !=Value.type "tuple")) (blt:=λh a b=>HT.lexLt (kyP h a.1) (kyP h b.1)) (λR E' k=>?_) (λh its g=>?_) (λh=>Srt.cmp_of λa=>kyP h a.1)
  (λits h1 h' tk g k h2 Q' hQ=>?_) (λits h1 h' tk g k=>Srt.runs_of λx y E' Q' hx hy hQ=>?_) (λits h1 h2 tk e out g k1 k2 at_ pm pw=>?_)
 ·exact PySem.W.kdx_collect (knd:=aU X.prog X.w) hh vw hat (by omega) λh' tk as hk hl G=>k h' tk _ hk ⟨as,rfl,hl,G⟩
 ·obtain⟨as,rfl,hl,_⟩:=g
  rw[Q0]
  omega
 ·obtain⟨as,rfl,hl,G⟩:=g
  have pr:=pr G hl k
  have tups:∀(bs:List Addr),(∀b∈bs,∃(p:Int×Int) (t t':Tok),h'.get? b=some {cls:= .type "tuple",data:= .seq #[Value.int p.1 t,Value.int p.2 t']})→∃fs:List Value,PySem.W.KatTups h' (bs.map Value.ref) fs∧(∀f∈fs,∃i t,f=Value.int i t)∧fs.length=bs.length:=by
   intro bs
   induction bs with
   |nil=>intro _;exact⟨[],.nil,λ_ h=>absurd h QU,rfl⟩
   |cons b bs ih=>
    intro hb
    obtain⟨fs,t,hi,hl⟩:=ih λc hc=>hb c (Qa _ hc)
    obtain⟨p,t1,t2,e⟩:=hb b Q8
    refine⟨Value.int p.1 t1::fs,.cons e rfl rfl rfl t,λf hf=>?_,by rw[Qf,Qf,hl]⟩
    rcases Qe.mp hf with z|z
    ·exact⟨p.1,t1,z⟩
    ·exact hi f z
  obtain⟨fs,t,hi,hl2⟩:=tups as λb hb=>by
   obtain⟨j,hj⟩:=Zk.mp hb
   obtain⟨p,t,t',_,e⟩:=pr j b hj
   exact⟨p,t,t',e⟩
  refine XQ (T:= .type "int") t (by rw[Q0]at h2;omega) (λv hv=>?_) (by decide+kernel) hQ
  obtain⟨i,t,rfl⟩:=hi v hv
  exact PySem.W.Looks.of_pure rfl
 ·obtain⟨as,rfl,hl,G⟩:=g
  have mem:∀{z:Keyed},z∈pairsOf (as.map Value.ref)→∃b∈as,z.1=Value.ref b:=λ{z} hz=>by
   have:z∈(pairsOf (as.map Value.ref)).toList:=by simpa using hz
   rw[pairsOf_toList]at this
   obtain⟨b,hb,e⟩:=Qb.mp (mem_zip_self this).2
   exact⟨b,hb,e.symm⟩
  obtain⟨b,hb,eb⟩:=mem hx
  obtain⟨c,hc,ec⟩:=mem hy
  obtain⟨j,hj⟩:=Zk.mp hb
  obtain⟨j',hj'⟩:=Zk.mp hc
  obtain⟨p,t1,t2,_,e1⟩:=pr G hl (λ_ _ h=>h) j b hj
  obtain⟨p',t3,t4,_,e2⟩:=pr G hl (λ_ _ h=>h) j' c hj'
  have hQ:Q' (HT.lexLt (kyP h1 x.1) (kyP h1 y.1)) {s with heap:=h',toks:=tk}:=hQ
  rw[eb,ec,sR e1,sR e2,HT.lexLt_cons,HT.lexLt_cons,HT.lexLt_nil_nil]at hQ
  rw[eb,ec]
  refine K7 (k _ _ e1) rfl (k _ _ e2) rfl (Zw (SeqAt.EqAt.int_int _ _ _ _ _ _ _ _ (ZF (λe=>Zy ?_) (λe=>ZG ?_))))
  ·rw[if_pos (beq_iff_eq.mp e)]at hQ
   refine Zw (SeqAt.EqAt.int_int _ _ _ _ _ _ _ _ (ZF (λe=>Zy ?_) (λe=>ZG ?_)))
   ·rw[if_pos (beq_iff_eq.mp e)]at hQ
    exact XV (by simpa using hQ)
   ·rw[if_neg (beq_eq_false_iff_ne.mp e)]at hQ
    exact Xk _ _ (lt_int hQ)
  ·rw[if_neg (beq_eq_false_iff_ne.mp e)]at hQ
   exact oneLt_int hQ
 ·obtain⟨as,rfl,hl,G⟩:=g
  have na:∀b∈as,H b=none:=λb hb=>I.hok.fresh (Zp (G.above b hb))
  have sm:Same H (layT H as (ivs ns)):=λb o e=>by
   unfold layT
   rw[m8 λz=>ai e (na b z) rfl]
   exact e
  have lo':∀b,b<s.heap.objs.size→layT H as (ivs ns) b=H b:=λb hb=>by
   unfold layT
   rw[m8 λz=>absurd (G.above b z) (Xx.mpr (Zp hb))]
  have at2:∀(j:Nat) (b:Addr) (p:Int×Int),as[j]?=some b→ns[j]?=some p→layT H as (ivs ns) b=some (.tup [.int p.1,.int p.2]):=λj b p h1 h2=>by
   unfold layT
   have e:(ivs ns)[j]?=some (Sum.inl p.1,V.int p.2):=by
    unfold ivs
    rw[Ql,h2]
    rfl
   rw[tM G.rise h1 e]
   rfl
  have hok:HOk X.prog X.w (layT H as (ivs ns)) h1:=λb o e=>by
   by_cases c2:b∈as
   ·obtain⟨j,hj⟩:=Zk.mp c2
    obtain⟨p,t,t',e1,e2⟩:=pr G hl (λ_ _ h=>h) j b hj
    rw[at2 j b p hj e1]at e
    cases e
    exact⟨by show 2≤sizeLine;decide,[Value.int p.1 t,Value.int p.2 t'],.cons ⟨t,rfl⟩ (.cons ⟨t',rfl⟩ .nil),_,e2,rfl,_,rfl⟩
   ·have:layT H as (ivs ns) b=H b:=by
     unfold layT
     rw[m8 c2]
    rw[this]at e
    exact(I.hok b o e).stay (λc v _ q=>k1 c v q) (λc q=>sm _ _ q) λc xs q=>sm _ _ q
  have I1:Inv X pins σ (layT H as (ivs ns)) {s with heap:=h1,toks:=tk}:=I.un (t':=tk) (Un.many k1 sm lo') hok
  have pml:out.toList.Perm ((as.map Value.ref).zip (as.map Value.ref)):=by
   have:=ZE.mp pm
   rwa [pairsOf_toList]at this
  have eqs:∀z∈out.toList,z.1=z.2:=λz hz=>(mem_zip_self (pml.mem_iff.mp hz)).1
  have e2:(out.map (·.2)).toList=out.toList.map (·.2):=XJ
  have pv:((out.map (·.2)).toList).Perm (as.map Value.ref):=by
   rw[e2]
   exact(pml.map _).trans (List.Perm.of_eq (XM (Q6 _)))
  obtain⟨bs,eb,pb⟩:∃bs:List Addr,(out.map (·.2)).toList=bs.map Value.ref∧bs.Perm as:=by
   refine⟨(out.map (·.2)).toList.map λv=>match v with| .ref b=>b|_=>0,?_,?_⟩
   ·rw[Qy]
    refine(List.map_id _).symm.trans (Zd λv hv=>?_)
    obtain⟨b,_,rfl⟩:=Qb.mp (pv.mem_iff.mp hv)
    rfl
   ·have:=pv.map λv:Value=>match v with| .ref b=>b|_=>0
    rw[Qy]at this
    exact this.trans (List.Perm.of_eq (List.map_id _))
  let gp:Addr→Int×Int:=λb=>((kyP h1 (.ref b)).getD 0 0,(kyP h1 (.ref b)).getD 1 0)
  have ga:∀(j:Nat) (b:Addr),as[j]?=some b→ns[j]?=some (gp b):=λj b hb=>by
   obtain⟨p,t,t',e1,e3⟩:=pr G hl (λ_ _ h=>h) j b hb
   show ns[j]?=some ((kyP h1 (.ref b)).getD 0 0,(kyP h1 (.ref b)).getD 1 0)
   rw[sR e3]
   exact e1
  have gk:∀b∈as,kyP h1 (.ref b)=[(gp b).1,(gp b).2]:=λb hb=>by
   obtain⟨j,hj⟩:=Zk.mp hb
   obtain⟨p,t,t',e1,e3⟩:=pr G hl (λ_ _ h=>h) j b hj
   have:=ga j b hj
   rw[e1]at this
   rw[sR e3,←Option.some.inj this]
  have gn:as.map gp=ns:=by
   refine List.ext_getElem? λj=>?_
   rw[Ql]
   cases c:as[j]? with
   |none=>
    have:=Z6.mp c
    rw[List.getElem?_eq_none (by omega)]
    rfl
   |some b=>exact(ga j b c).symm
  have lz:(bs.map V.ref).length≤sizeLine:=by
   rw[Q0,pb.length_eq]
   omega
  have fl:=I1.hok.fresh (Q6 h1.objs.size)
  have nl:H h1.objs.size=none:=by
   cases c:H h1.objs.size with
   |none=>rfl
   |some o=>rw[sm _ _ c]at fl;cases fl
  refine⟨.ref h1.objs.size,upd (layT H as (ivs ns)) h1.objs.size (.lst (bs.map V.ref)),I1.laid (t':=tk) k2 (Q6 _) ⟨lz,bs.map Value.ref,e,qO bs,?_⟩,rfl,q _ _ (bs.map λb=>(b,gp b)) (sm.trans (λb o eb=>by rw[ac (ai eb fl)];exact eb)) nl ?_ (λx hx=>?_) ?_ ?_⟩
  ·rw[at_,←eb,ZY]
  ·rw[af,Qy]
   rfl
  ·obtain⟨b,hb,rfl⟩:=Qb.mp hx
   have hb:=pb.mem_iff.mp hb
   obtain⟨j,hj⟩:=Zk.mp hb
   refine⟨na b hb,?_⟩
   have e5:=at2 j b (gp b) hj (ga j b hj)
   rw[ac (ai e5 fl)]
   exact e5
  ·rw[Qy]
   exact(pb.map gp).trans (List.Perm.of_eq gn)
  ·rw[Qy]
   refine Qp.mpr ?_
   have pw2:(bs.map Value.ref).Pairwise (λa b=>HT.lexLt (kyP h1 b) (kyP h1 a)=false):=by
    rw[←eb,e2]
    refine Qp.mpr (pw.imp_of_mem λ{a b} ha hb h=>?_)
    show HT.lexLt (kyP h1 b.2) (kyP h1 a.2)=false
    rw[←eqs a ha,←eqs b hb]
    exact h
   refine(Qp.mp pw2).imp_of_mem λ{a b} ha hb h=>?_
   rw[gk a (pb.mem_iff.mp ha),gk b (pb.mem_iff.mp hb)]at h
   exact h
end
end L2
namespace L2
open PySem PySem.Spec PyProof.Rows
section
variable {X:Cx}
def Bb:V→List V→Hp→VK→Prop:=λx vs H Q=>∃a kvs k y,x= .ref a∧vs=[kV k,y]∧H a=some (.dK kvs)∧kvs.length<sizeLine∧(∀v,aI kvs k=some v→Q v H)∧(aI kvs k=none→Q y (upd H a (.dK (bg kvs k y))))
theorem xA:MtR X "dict.setdefault" Bb:=by
 intro pins s σ H x vs v us Q I rx rv h
 obtain⟨a,kvs,k,y,rfl,rfl,hH,hl,q1,q2⟩:=h
 cases rx
 obtain⟨u,r,rfl,ru,rr⟩:=j8 rv
 obtain⟨z,hd,ws,rel,dd⟩:=jg I.hok hH
 have rk:=rel.val k
 refine call_meetsIn XW dd.typeIs PySem.F.entry_dict_setdefault (PySem.F.args_dict_setdefault_3 _ _ _) (kt_meets_setdefault (aU X.prog X.w) a (mD ru) hd r) ⟨ws,dd,by rw[←rel.length];exact z,λv hv=>?_,λhn h' dd' hs=>?_⟩
 ·rw[hv]at rk
  cases e:aI kvs k with
  |none=>rw[e]at rk;exact rk.elim
  |some x=>
   rw[e]at rk
   exact⟨x,H,I.tok _,rk,q1 x e⟩
 ·rw[hn]at rk
  cases e:aI kvs k with
  |some x=>rw[e]at rk;exact rk.elim
  |none=>
   have he:∃q,h'.get? a=some q:=let⟨q,_,_,hq,_⟩:=dd';⟨q,hq⟩
   have lp:=bL kvs k y
   exact⟨y,_,m5 I (by rw[hH];exact True.intro) hs he (vP (by omega) hd (rel.put k rr) dd'),rr,q2 e⟩
end
end L2
namespace L2
open PySem PySem.Spec PyProof.Rows
def vwV (a d:Addr):HO:= .ext λh=>h.IsValuesView a d
def Itw (ob:Obj) (d:Addr) (kvs:List (Key×V)):It:=
 ⟨λi H=>H d=some (.frz ob (.dK kvs))∧i<kvs.length,λi H x H'=>H'=H∧∃k,kvs[i]?=some (k,x),λi H=>H d=some (.frz ob (.dK kvs))∧kvs.length≤i⟩
theorem w6 {P:Program} {w:World} {K:PySem.W.Frag} {tg:Expr} {ob:Obj} {d:Addr} {kvs:List (Key×V)} {vs:List (Key×Value)} {ep:Nat} (it:Addr) (D:DObj P w ob d kvs vs ep):
  vS P w K tg (Itw ob d kvs) [it] it (λi h=>h.IsValIter it d i vs.length ep) where
 mem:=by simp
 obj:=λi h st b hb=>by
  have z:b=it:=by simpa using hb
  subst z
  obtain⟨o,e,c,dd⟩:=st
  exact⟨o,e,λv z=>by rw[dd]at z;cases z⟩
 keep:=λi h h' st k=>by
  obtain⟨o,e,r⟩:=st
  exact⟨o,k it (by simp) _ e,r⟩
 item:=by
  intro X hP hw hK hc i pins s σ H E I hf st hg
  subst hP hw hK
  obtain⟨hq,hi⟩:=hg
  obtain⟨f0,f1,f2,f3,f4,f5⟩:=hf it (by simp)
  obtain⟨hob,_⟩:=I.hok d _ hq
  have hat:=D.2 s.heap hob
  obtain⟨⟨k,v⟩,hx⟩:∃kv,kvs[i]?=some kv:=⟨kvs[i],by simp[hi]⟩
  obtain⟨u,hu,ru⟩:=KV.getI D.1 hx
  refine wpAny_pyNext_values_item st hat hu λh' st' sb=>?_
  have I1:Inv X pins σ H {s with heap:=h'}:=I.turned (t':=s.toks) (λb o hb e=>(sb.2 b hb).trans e) f0 f1 f3 f4 f5
  obtain⟨o,e,c,dd⟩:=id st'
  exact⟨u,rfl,wG (s:={s with heap:=h'}) e c dd (by decide) ⟨v,H,I1,ru,⟨rfl,k,hx⟩,st',λb hb=>(hf b hb).1⟩⟩
 done:=by
  intro X hP hw hK hc i pins s σ H E I hf st hg
  subst hP hw hK
  obtain⟨hq,hi⟩:=hg
  obtain⟨hob,_⟩:=I.hok d _ hq
  have hat:=D.2 s.heap hob
  obtain⟨f0,f1,f2,f3,f4,f5⟩:=hf it (by simp)
  have hl:kvs.length=vs.length:=D.1.length
  exact wpAny_pyNext_values_end (I.ok.hd hc) st hat (by simp;omega) λh' eb=>⟨rfl,I.turned (t':=s.toks) (λb o hb e=>eb b o hb e) f0 f1 f3 f4 f5⟩
 self:=λ_ _ _ _ _ st h=>wpAny_pyIter_valiter st h
section
variable {X:Cx} {tg:Expr}
def D1:V→List V→Hp→VK→Prop:=λx vs H Q=>∃d kvs,x= .ref d∧vs=[]∧H d=some (.dK kvs)∧∀a,H a=none→Q (.ref a) (upd H a (vwV a d))
theorem xz:MtR X "dict.values" D1:=by
 intro pins s σ H x vs v us Q I rx rv h
 obtain⟨d,kvs,rfl,rfl,hd,q⟩:=h
 cases rx
 cases rv
 obtain⟨z,lo,ws,rel,dd⟩:=jg I.hok hd
 refine call_meetsIn PySem.F.slot_dict_values dd.typeIs PySem.F.entry_dict_values (PySem.F.args_dict_values_1 _) (meets_dict_values (aU X.prog X.w) d lo) ⟨⟨ws,dd⟩,?_⟩
 have new:(s.heap.push {cls:= .type "dict_values",data:= .fields #[.ref d]}).get? s.heap.objs.size=some {cls:= .type "dict_values",data:= .fields #[.ref d]}:=Heap.get?_push_size _ rfl
 refine⟨.ref s.heap.objs.size,_,I.laid (t':=s.toks) (λb o e=>Heap.get?_push_of_some _ e) (Q6 _) (show ObjOk X.prog X.w _ _ _ (vwV s.heap.objs.size d) from⟨⟨_,new,rfl,rfl⟩,⟨_,new⟩,λh1 h2 p k=>?_⟩),rfl,q _ (I.hok.fresh (Q6 _))⟩
 obtain⟨o,e,c⟩:=p
 exact⟨o,k o e,c⟩
def Eg (te:TE):TI:=λσ H R=>te σ H λx H1=>∃a d kvs,x= .ref a∧H1 a=some (vwV a d)∧H1 d=some (.dK kvs)∧∀ob,R (Itw ob d kvs) (upd H1 d (.frz ob (.dK kvs)))
theorem Bj {l:Expr} {te:TE} (hl:PE X l te):PI X tg l (Eg te):=by
 intro pins s σ H R I h
 refine thn (hl pins s σ H _ I h) λv s1 hzz=>?_
 obtain⟨x,H1,I1,r1,q1⟩:=hzz
 obtain⟨a,d,kvs,e,ha,hd,q⟩:=q1
 subst e
 cases r1
 obtain⟨z,lo,vs,rel,dd⟩:=jg I1.hok hd
 obtain⟨ep,hat⟩:=dd.dictAt
 obtain⟨vw,_,_⟩:=(show ObjOk X.prog X.w H1 s1.heap a (vwV a d) from I1.hok a _ ha)
 obtain⟨ob,es,hob,rest⟩:=id hat
 refine wpAny_pyIter_values vw hat ?_
 have If:=I1.freeze hd hob
 refine⟨s1.heap.objs.size,[s1.heap.objs.size],_,_,_,rfl,If.kept (t':=s1.toks) λb o e=>Heap.get?_push_of_some _ e,w6 _ ⟨rel,λh e=>⟨ob,es,e,rest⟩⟩,⟨_,Heap.get?_push_size _ rfl,rfl,rfl⟩,λb hb=>?_,q ob⟩
 have e:b=s1.heap.objs.size:=by simpa using hb
 subst e
 exact If.fpOk (Q6 _) (If.hok.fresh (Q6 _))
theorem Bv (hu:X.A.units+1<cLine):MtR X "dict.get" (λx vs H Q=>∃a y o z,x= .ref a∧vs=[y,z]∧DGet H a y o∧Q (o.getD z) H):=by
 intro pins s σ H x vs v us Q I rx rv h
 obtain⟨a,y,o,z,rfl,rfl,g,q⟩:=h
 cases rx
 obtain⟨u,r,rfl,ru,rr⟩:=j8 rv
 exact Dw hu I g ru rr λw' s' I' r'=>⟨_,H,I',r',q⟩
end
theorem zB {ob:Obj} {d:Addr} {kvs:List (Key×V)} {g:TG} {tb:TS} {nx:St→Hp→Prop} {rt:VK} {σ:St} {H:Hp} (Pv:Nat→St→Hp→Prop) (h0:Pv 0 σ H) (hl:∀i σ H,i≤kvs.length→Pv i σ H→H d=some (.frz ob (.dK kvs)))
  (hs:∀i k v σ H,kvs[i]?=some (k,v)→Pv i σ H→g v σ H λσ2 H2=>tb ⟨Pv (i+1),rt,nx,Pv (i+1)⟩ σ2 H2) (hd:∀σ H,Pv kvs.length σ H→nx σ H):
  ∃W:Nat→Nat→St→Hp→Prop,(∃m,W 0 m σ H)∧∀i m σ H,W i m σ H→
   ((Itw ob d kvs).stop i H∧nx σ H)∨((Itw ob d kvs).go i H∧∃N:St→Hp→Prop,(∀σ' H',N σ' H'→∃m',m'<m∧W (i+1) m' σ' H')∧∀x H',(Itw ob d kvs).yld i H x H'→g x σ H' λσ2 H2=>tb ⟨N,rt,nx,N⟩ σ2 H2):=by
 refine⟨λi m σ H=>m=kvs.length-i∧i≤kvs.length∧Pv i σ H,⟨kvs.length,by simp,Qh _,h0⟩,?_⟩
 rintro i m σ H ⟨rfl,hi,p⟩
 have q:=hl i σ H hi p
 by_cases lt:i<kvs.length
 ·refine .inr ⟨⟨q,lt⟩,Pv (i+1),λσ' H' z=>⟨kvs.length-(i+1),by omega,rfl,lt,z⟩,λx H' y=>?_⟩
  obtain⟨rfl,k,e⟩:=y
  exact hs i k x σ _ e p
 ·have e:i=kvs.length:=by omega
  subst e
  exact .inl ⟨⟨q,Q6 _⟩,hd σ H p⟩
end L2
namespace L2
open PySem PySem.Spec PyProof.Rows
section
variable {X:Cx}
def vwK (a d:Addr):HO:= .ext λh=>PySem.W.KdlKeysView h a d
def D4:V→List V→Hp→VK→Prop:=λx vs H Q=>∃d kvs,x= .ref d∧vs=[]∧H d=some (.dK kvs)∧∀a,H a=none→Q (.ref a) (upd H a (vwK a d))
theorem wq:MtR X "dict.keys" D4:=by
 intro pins s σ H x vs v us Q I rx rv h
 obtain⟨d,kvs,rfl,rfl,hd,q⟩:=h
 cases rx
 cases rv
 obtain⟨z,lo,ws,rel,dd⟩:=jg I.hok hd
 refine call_meetsIn Xe dd.typeIs PySem.F.entry_dict_keys (PySem.F.args_dict_keys_1 _) (PySem.W.kdl_meets_keys (aU X.prog X.w) d lo) ⟨⟨ws,dd⟩,?_⟩
 have new:(s.heap.push {cls:= .type "dict_keys",data:= .fields #[.ref d]}).get? s.heap.objs.size=some {cls:= .type "dict_keys",data:= .fields #[.ref d]}:=Heap.get?_push_size _ rfl
 refine⟨.ref s.heap.objs.size,_,I.laid (t':=s.toks) (λb o e=>Heap.get?_push_of_some _ e) (Q6 _) (show ObjOk X.prog X.w _ _ _ (vwK s.heap.objs.size d) from⟨⟨_,new,rfl,rfl⟩,⟨_,new⟩,λh1 h2 p k=>?_⟩),rfl,q _ (I.hok.fresh (Q6 _))⟩
 obtain⟨o,e,c⟩:=p
 exact⟨o,k o e,c⟩
theorem kP (hh:X.A.handled=none):eJ X (.builtin "sorted") (λxs H Q=>∃(a d:Addr) (kvs:List (Key×V)) (ns:List Int),xs=[.ref a]∧H a=some (vwK a d)∧H d=some (.dK kvs)∧iD kvs=ns.map V.int∧
  ∀(l:Addr) (ms:List Int),H l=none→ms.Perm ns→ms.Pairwise (· ≤ ·)→Q (.ref l) (upd H l (.lst (ms.map V.int)))):=by
 intro pins s σ H xs us Q I r h
 obtain⟨a,d,kvs,ns,rfl,ha,hd,hns,q⟩:=h
 obtain⟨u,rfl,ru⟩:=j9 r
 cases ru
 obtain⟨z,lo,vs,rel,dd⟩:=jg I.hok hd
 obtain⟨ep,hat⟩:=dd.dictAt
 obtain⟨vw,_,_⟩:=(show ObjOk X.prog X.w H s.heap a (vwK a d) from I.hok a _ ha)
 exact mq hh I rel z (PySem.W.kdl_keys (knd:=aU X.prog X.w) (kvs:=vs) (ep:=ep)) ⟨vw,hat⟩ hns q
end
end L2
namespace L2
open PySem PySem.Spec PyProof.Rows
theorem ya (a d:Value):argsOk "min" ⟨[a],[("default",d)]⟩:=by unfold argsOk;kernel_rfl
section
variable {prog:Program} {w:World} {A:Around}
theorem Bw {R:Result→Shared→Prop} {I S:Addr} {fp wr:List Addr} {n:Nat} {P:Nat→Value→Prop} {St:Nat→Heap→Prop} {d:Value} {bt:Nat→Nat→Bool} (W:Walks prog w A.in1 I fp wr n P St) (hcmp:CmpOf prog w A.in1 .Lt P bt) (hSf:S∉fp):
  ∀(k j:Nat) (s:Shared) (old:List Value) (c:Nat),n-j=k→j≤n→St j s.heap→(j=0∧old=[]∨∃i vb,j=i+1∧old=[vb,vb]∧P (argBest bt i) vb)→
  s.heap.get? S=some {cls:= .type "list",dict:=none,data:= .seq old.toArray c,slots:= #[]}→
  (∀v h' tk,(n=0∧v=d∨0<n∧P (argBest bt (n-1)) v)→(∀b o,b∉wr→b≠S→s.heap.get? b=some o→h'.get? b=some o)→R (.ok (.ret v)) {s with heap:=h',toks:=tk})→
  codeAny (model prog w) A (.builtin "min.loop" ⟨[.ref I,.none,.ref S],[("default",d)]⟩) R s:=by
 have hSw:S∉wr:=λh=>hSf (W.sub _ h)
 have hname:(toString "min"++toString ".loop":String)="min.loop":=by decide
 intro k
 induction k with
 |zero=>
  intro j s old c hk hj hst ho hS hR
  have hin:j=n:=by omega
  refine codeAny_builtin F.entry_min_loop ?_
  rw[Around.under_plainId F.plain_min_loop _]
  show wpAny _ A.in1 (seqItems? (.ref S)>>=_) _ _ s
  refine wpAny_bind (wpAny_seqItems hS rfl ?_)
  show wpAny _ A.in1 (tryCatch (pyNext (.ref I)) _>>=_) _ _ s
  refine wpAny_bind (wpAny_tryCatch (W.done s _ _ (hin▸hst) λh' tk hk'=>?_))
  have hS':=hk' S _ hSw hS
  rcases ho with⟨h0,rfl⟩|⟨i,vb,h0,rfl,hP⟩
  ·refine wpAny_bind (wpAny_rule (wpAny_pure (hR d _ tk (.inl ⟨by omega,rfl⟩) λb o hbw _ e=>hk' b o hbw e)))
  ·show wpAny _ A.in1 (updateSeq S (λ_=> #[])>>=_) _ _ _
   refine wpAny_bind (wpAny_updateSeq hS' rfl (wpAny_bind (wpAny_letGo (wpAny_pure (hR vb _ tk (.inr ⟨by omega,?_⟩) λb o hbw hbS e=>(Heap.get?_update_other _ _ (Ne.symm hbS)).trans (hk' b o hbw e))))))
   have:n-1=i:=by omega
   rw[this]
   exact hP
 |succ k ih=>
  intro j s old c hk hj hst ho hS hR
  have hlt:j<n:=by omega
  refine codeAny_builtin F.entry_min_loop ?_
  rw[Around.under_plainId F.plain_min_loop _]
  show wpAny _ A.in1 (seqItems? (.ref S)>>=_) _ _ s
  refine wpAny_bind (wpAny_seqItems hS rfl ?_)
  show wpAny _ A.in1 (tryCatch (pyNext (.ref I)) _>>=_) _ _ s
  refine wpAny_bind (wpAny_tryCatch (W.item j s _ _ hlt hst λv h' tk hP hst' hk'=>?_))
  have hS':=hk' S _ hSw hS
  have up:∀{o:Obj→Obj},(∀v' h'' tk'',(n=0∧v'=d∨0<n∧P (argBest bt (n-1)) v')→(∀b o',b∉wr→b≠S→(h'.update S o).get? b=some o'→h''.get? b=some o')→R (.ok (.ret v')) {s with heap:=h'',toks:=tk''}):=λ{o} v' h'' tk'' hP' hk''=>
   hR v' h'' tk'' hP' λb o' hbw hbS e=>hk'' b o' hbw hbS ((Heap.get?_update_other _ _ (Ne.symm hbS)).trans (hk' b o' hbw e))
  have fr:∀{o:Obj→Obj},St (j+1) (h'.update S o):=λ{o}=>W.frame _ _ _ hst' λb hbf o e=>(Heap.get?_update_other _ _ (λh:S=b=>hSf (by rw[h];exact hbf))).trans e
  rcases ho with⟨rfl,rfl⟩|⟨i,vb,rfl,rfl,hPb⟩
  ·show wpAny _ A.in1 (updateSeq S (λ_=> #[v,v])>>=_) _ _ _
   refine wpAny_bind (wpAny_updateSeq hS' rfl ?_)
   rw[hname]
   exact wpAny_pure ⟨plainId_quiet F.plain_min_loop _,ih 1 _ [v,v] _ (by omega) hlt fr (.inr ⟨0,v,rfl,rfl,hP⟩) (Heap.get?_update_self _ hS' rfl) up⟩
  ·show wpAny _ A.in1 (tryCatch (holding [v,v] (richCompare .Lt v vb>>=_)) _>>=_) _ _ _
   refine wpAny_bind (wpAny_tryCatch (wpAny_holding (wpAny_bind (hcmp (i+1) (argBest bt i) v vb _ _ _ hP hPb ?_))))
   refine wpAny_bind (wpAny_holding (wpAny_truthy_bool ?_))
   refine wpAny_bind (wpAny_letGo (wpAny_pure ?_))
   cases hb:bt (i+1) (argBest bt i)with
   |true=>
    simp only[if_true]
    refine wpAny_bind (wpAny_updateSeq hS' rfl (wpAny_bind (wpAny_letGo ?_)))
    rw[hname]
    exact wpAny_pure ⟨plainId_quiet F.plain_min_loop _,ih (i+2) _ [v,v] _ (by omega) hlt fr (.inr ⟨i+1,v,rfl,rfl,by simp only[argBest,hb,if_true];exact hP⟩) (Heap.get?_update_self _ hS' rfl) up⟩
   |false=>
    simp only[QM,if_false]
    refine wpAny_bind (wpAny_letGo ?_)
    rw[hname]
    exact wpAny_pure ⟨plainId_quiet F.plain_min_loop _,ih (i+2) _ [vb,vb] c (by omega) hlt hst' (.inr ⟨i+1,vb,rfl,rfl,by simp only[argBest,hb,QM,if_false];exact hPb⟩) hS' λv' h'' tk'' hP' hk''=>hR v' h'' tk'' hP' λb o hbw hbS e=>hk'' b o hbw hbS (hk' b o hbw e)⟩
theorem xZ {E:Value→Shared→Prop} {s:Shared} {l:Addr} {xs:Array (Int×Tok)} {d:Value} {Q:Value→Shared→Prop} (hh:A.handled=none) (hl:s.heap.IsList l (intItems xs))
  (h:∀v h' tk,(xs.size=0∧v=d∨0<xs.size∧(intItems xs)[argBest (λi j=>decide (numAt xs i<numAt xs j)) (xs.size-1)]?=some v)→(∀b o,s.heap.get? b=some o→h'.get? b=some o)→Q v {s with heap:=h',toks:=tk}):
  wpAny (model prog w) A (call (.builtin "min") [.ref l] [("default",d)]) Q E s:=by
 have hname:(toString "min"++toString ".loop":String)="min.loop":=by decide
 refine wpAny_call (codeAny_call_builtin F.plain_min F.entry_min ?_)
 simp only[checkBuiltinCall,F.kind_min]
 have hc:wpAny (model prog w) A.in1 (Builtin.«min» ⟨[.ref l],[("default",d)]⟩) (λfin s'=>match fin with
   | .done f=>(match (Except.ok f:Result)with| .ok (.ret v)=>Q v s'| .ok _=>False| .error e=>E e s')
   | .again c'=>c'.quiet=true∧codeAny (model prog w) A c' (λr s'=>match r with| .ok (.ret v)=>Q v s'| .ok _=>False| .error e=>E e s') s') E s:=by
  show wpAny _ A.in1 (Builtin.Builtins.bindParams "min" ["key","default"] 0 ⟨[],[("default",d)]⟩>>=_) _ _ s
  refine wpAny_bind (wpAny_of_eq (show Builtin.Builtins.bindParams "min" ["key","default"] 0 ⟨[],[("default",d)]⟩=pure [none,some d] from rfl) ?_)
  refine wpAny_bind (wpAny_pure (wpAny_bind (iter_intList hl λs₂ e st hfp hlI=>?_)))
  subst e
  refine wpAny_bind (wpAny_newObj_type ?_)
  rw[hname]
  have W:=Walks.list (prog:=prog) (w:=w) (A:=A.in1) hh _ l hlI (intItems xs)
  have hSf:=λhm=>Zr _ (hfp _ hm)
  refine wpAny_pure ⟨plainId_quiet F.plain_min_loop _,Bw W (CmpOf.ints_lt (numAt xs) (λ_ _=>intItems_at)) hSf _ 0 _ [] 0 rfl (Qh _) (W.frame _ _ _ st λb _ o e=>Heap.get?_push_of_some _ e) (.inl ⟨rfl,rfl⟩) (Heap.get?_push_size _ rfl) λv h' tk hP hk=>?_⟩
  refine h v h' tk (by simpa[intItems]using hP) (old_kept λb o hbw e=>hk b o hbw (Qw (Heap.lt_size e)) (Heap.get?_push_of_some _ e))
 cases hsig:Manifest.signature? "min" with
 |none=>exact wpAny_pure hc
 |some sig=>
  have ha:=ya (.ref l) d
  simp only[argsOk,hsig]at ha
  simp only[ha]
  exact wpAny_pure hc
end
section
variable {X:Cx} {e v:Expr} {te td:TE} {p kp pos:Pos}
def DN (K:PySem.W.Frag) (te td:TE):TE:=λσ H Q=>te σ H λx H1=>td σ H1 λy H2=>∃(p:Addr) (ns:List Int),x= .ref p∧SqL K H2 p (ns.map V.int)∧(ns=[]→Q y H2)∧∀M,M∈ns→(∀a∈ns,M≤a)→Q (.int M) H2
theorem Bn (K:PySem.W.Frag) (hK:X.K=K) (hc:X.calm=true) (hg:Gl X "min") (hm:X.mg "min"=none) (he:PE X e te) (hd:PE X v td) (h1:starEach [e] X.env=(false,eval e X.env)::starEach [] X.env:=by rfl) (h2:backTo pos (starEach [e] X.env)=(false,eval e X.env)::backTo pos (starEach [] X.env):=by rfl) (h3:(backTo pos (starEach [e] X.env)).any (·.1)=false:=by rfl):
  PE X (.Call (.Name "min" p) [e] [⟨some "default",v,kp⟩] pos) (DN K te td):=by
 subst hK
 intro pins s σ H Q I h
 refine wpAny_Call_Name_kw (lV I hg hm pP ?_ (by decide) (by decide))
 refine callWith_kw (thn (aa he ag h1 pos pins s σ H (λvs H1=>match vs with| [x]=>td σ H1 λy H2=>∃(p:Addr) (ns:List Int),x= .ref p∧SqL X.K H2 p (ns.map V.int)∧(ns=[]→Q y H2)∧∀M,M∈ns→(∀a∈ns,M≤a)→Q (.int M) H2|_=>False) I ?_) λus s1 ⟨vs,H1,I1,r1,q1⟩=>?_) h2 h3
 ·exact h
 ·match vs,r1,q1 with
  | [x],r1,q1=>
   obtain⟨u,rfl,ru⟩:=j9 r1
   refine kws_cons (thn (hd pins s1 σ H1 _ I1 q1) λu2 s2 ⟨y,H2,I2,ry,q2⟩=>kws_nil ?_)
   obtain⟨l,ns,rfl,hq,q3,q4⟩:=q2
   cases ru
   obtain⟨its,rv,pl,hz⟩:=I2.list hq
   have hi:IntsAre its ns:=jU rv
   obtain⟨xs,e⟩:=hi.allInts.items
   have hns:ns=xs.toList.map (·.1):=by
    rw[←hi.numsOf,←nums_intItems,←e]
   have hl:=pl.isList
   rw[e]at hl
   have hsz:ns.length=xs.size:=by rw[hns,Q0,Q9]
   refine xZ (I2.ok.hd hc) hl λw h' tk hw hk=>?_
   rcases hw with⟨h0,rfl⟩|⟨h0,hw⟩
   ·exact⟨y,H2,I2.kept (t':=tk) hk,ry,q3 (Zx.mp (by omega))⟩
   ·obtain⟨t,rfl⟩:=intItems_at hw
    obtain⟨g1,g2⟩:=argBest_lt (numAt xs) (xs.size-1)
    refine⟨.int _,H2,I2.kept (t':=tk) hk,⟨t,rfl⟩,q4 _ ?_ λa ha=>?_⟩
    ·rw[hns,numAt_eq];exact getD_mem (by rw[Q0,Q9];omega)
    ·rw[hns]at ha
     obtain⟨j,hj,rfl⟩:=mem_getD ha
     rw[Q0,Q9]at hj
     rw[←numAt_eq];exact g2 j (by omega)
end
end L2
namespace L2
open PySem PySem.Spec PyProof.Rows
def yd (lo st:Int) (n:Nat):It:=⟨λi _=>i<n,λi H x H'=>H'=H∧x= .int (lo+i*st),λi _=>n≤i⟩
theorem tQ {P:Program} {w:World} {K:PySem.W.Frag} {tg:Expr} (it:Addr) (lo st:Int) (n:Nat):vS P w K tg (yd lo st n) [it] it (λi h=>IsRangeIter h it (lo+(i:Nat)*st) ((n:Int)-(i:Nat)) st) where
 mem:=by simp
 obj:=λi h hst b hb=>by
  have e:b=it:=by simpa using hb
  subst e
  exact⟨_,hst,λv z=>by
   have z':Data.fields _=Data.cell v:=z
   cases z'⟩
 keep:=λi h h' hst k=>k it (by simp) _ hst
 item:=by
  intro X hP hw hK hc i pins s σ H E I hf hst hg
  subst hP hw hK
  obtain⟨f0,f1,f2,f3,f4,f5⟩:=hf it (by simp)
  have W:=Walks.range (prog:=X.prog) (w:=X.w) (I.ok.hd hc) it lo st n
  refine W.item i s _ _ hg hst λv h' tk hv st' kk=>?_
  obtain⟨t,rfl⟩:=hv
  have I1:Inv X pins σ H {s with heap:=h',toks:=tk}:=I.turned (λb o hb e=>kk b o (by simpa using hb) e) f0 f1 f3 f4 f5
  exact⟨_,rfl,wG (s:={s with heap:=h',toks:=tk}) (n:="range_iterator") st' rfl rfl (by decide) ⟨.int (lo+i*st),H,I1,⟨t,rfl⟩,⟨rfl,rfl⟩,st',λb hb=>(hf b hb).1⟩⟩
 done:=by
  intro X hP hw hK hc i pins s σ H E I hf hst hg
  subst hP hw hK
  obtain⟨f0,f1,f2,f3,f4,f5⟩:=hf it (by simp)
  exact wpAny_pyNext_range_end (I.ok.hd hc) hst (by have:n≤i:=hg;omega) λh' eb=>⟨rfl,I.turned (t':=s.toks) (λb o hb e=>eb b o hb e) f0 f1 f3 f4 f5⟩
 self:=λ_ _ _ _ _ hst h=>wpAny_pyIter_rangeiter hst h
def j2 (lo hi st:Int):Nat:=(Builtin.Range.rangeSize lo hi st).toNat
theorem i8 {lo hi st:Int} (h:0<st):Builtin.Range.rangeSize lo hi st=if lo<hi then(hi-lo-1)/st+1 else 0:=by
 unfold Builtin.Range.rangeSize
 rw[if_pos h]
theorem sC {lo hi st:Int} (h:0<st) (h0:0≤lo) (h1:0≤hi):0≤Builtin.Range.rangeSize lo hi st∧Builtin.Range.rangeSize lo hi st≤hi:=by
 rw[i8 h]
 split
 ·have a:0≤(hi-lo-1)/st:=XX (by omega) (by omega)
  have b:(hi-lo-1)/st≤hi-lo-1:=Int.ediv_le_self _ (by omega)
  omega
 ·omega
section
variable {X:Cx} {tg:Expr}
theorem xn {pins:List (Addr×Obj)} {σ:St} {H:Hp} {s:Shared} {R:It→Hp→Prop} {E:Value→Shared→Prop} {lo hi st:Int} {t u v:Tok} {tk:Nat} (I:Inv X pins σ H s) (h1:0≤lo) (h2:lo<2^30) (h3:0≤hi) (h4:hi<2^30) (h5:0<st) (h6:st<2^30)
  (q:R (yd lo st (j2 lo hi st)) H):wpAny (model X.prog X.w) X.A (pyIter (.ref s.heap.objs.size)) (PIE X pins σ tg R) E {s with heap:=s.heap.push {cls:= .type "range",data:= .fields #[.int lo t,.int hi u,.int st v]},toks:=tk}:=by
 have bd:=sC (lo:=lo) (hi:=hi) h5 h1 h3
 refine wpAny_pyIter_range (IsRange.new ..) ?_ ?_
 ·unfold Builtin.Range.small
  simp only[Builtin.Range.rangeFitsLong,Zt,Bool.or_eq_true,decide_eq_true_eq,beq_iff_eq,h5,if_true]
  generalize Builtin.Range.rangeSize lo hi st=n at bd⊢
  have p63:(2:Int)^63=9223372036854775808:=by decide
  have p30:(2:Int)^30=1073741824:=by decide
  rw[p30]at h2 h4 h6
  try rw[p63]
  omega
 have I1:Inv X pins σ H {s with heap:=s.heap.push {cls:= .type "range",data:= .fields #[.int lo t,.int hi u,.int st v]},toks:=tk}:=I.kept λb o e=>Heap.get?_push_of_some _ e
 refine⟨(s.heap.push {cls:= .type "range",data:= .fields #[.int lo t,.int hi u,.int st v]}).objs.size,[(s.heap.push {cls:= .type "range",data:= .fields #[.int lo t,.int hi u,.int st v]}).objs.size],_,_,H,rfl,
  I1.kept (t':=tk) λb o e=>Heap.get?_push_of_some _ e,tQ _ lo st (j2 lo hi st),?_,λb hb=>?_,q⟩
 ·have e1:lo+((0:Nat):Int)*st=lo:=by simp
  have e2:((j2 lo hi st:Nat):Int)-((0:Nat):Int)=Builtin.Range.rangeSize lo hi st:=by unfold j2;omega
  show IsRangeIter _ _ (lo+((0:Nat):Int)*st) (((j2 lo hi st:Nat):Int)-((0:Nat):Int)) st
  rw[e1,e2]
  exact Heap.get?_push_size _ rfl
 ·have e:b=(s.heap.push {cls:= .type "range",data:= .fields #[.int lo t,.int hi u,.int st v]}).objs.size:=by simpa using hb
  subst e
  exact I1.fpOk (Q6 _) (I1.hok.fresh (Q6 _))
def Eh (ta:TA):TI:=λσ H R=>ta σ H λvs H1=>∃i j k:Int,vs=[.int i,.int j,.int k]∧(0≤i∧i<2^30∧0≤j∧j<2^30∧0<k∧k<2^30)∧R (yd i k (j2 i j k)) H1
theorem xq {a b c:Expr} {ta:TA} {p pos:Pos} (hg:Gl X "range") (hm:X.mg "range"=none) (ha:PA X [a,b,c] ta) (hs:starEach [a,b,c] X.env=[(false,eval a X.env),(false,eval b X.env),(false,eval c X.env)]:=by rfl)
  (hs2:starEach [b,c] X.env=[(false,eval b X.env),(false,eval c X.env)]:=by rfl):PI X tg (.Call (.Name "range" p) [a,b,c] [] pos) (Eh ta):=by
 intro pins s σ H R I h
 refine Call_ (lV I hg hm boot_range (PyProof.Rows.callWith_type1 (thn (ha pos pins s σ H _ I h) λus s1 hzz=>?_) (by rw[hs,hs2]) (by rw[hs2];rfl)))
 obtain⟨vs,H1,I1,r1,q1⟩:=hzz
 obtain⟨i,j,k,e,⟨q1,q2,q3,q4,q5,q6⟩,q⟩:=q1
 subst e
 cases r1 with
 |cons r rr=>
  cases rr with
  |cons r' rr=>
   cases rr with
   |cons r'' rr=>
    cases rr
    obtain⟨t,rfl⟩:=r
    obtain⟨t',rfl⟩:=r'
    obtain⟨t'',rfl⟩:=r''
    exact call_range_3 (by omega) (xn I1 q1 q2 q3 q4 q5 q6 q) (.inl (PyProof.noPylong_small (by omega)))
end
theorem uA {lo st:Int} {n:Nat} {g:TG} {tb:TS} {nx:St→Hp→Prop} {rt:VK} {σ:St} {H:Hp} (Pv:Nat→St→Hp→Prop) (h0:Pv 0 σ H)
  (hs:∀i σ H,i<n→Pv i σ H→g (.int (lo+i*st)) σ H λσ2 H2=>tb ⟨Pv (i+1),rt,nx,Pv (i+1)⟩ σ2 H2) (hd:∀σ H,Pv n σ H→nx σ H):
  ∃W:Nat→Nat→St→Hp→Prop,(∃m,W 0 m σ H)∧∀i m σ H,W i m σ H→
   ((yd lo st n).stop i H∧nx σ H)∨((yd lo st n).go i H∧∃N:St→Hp→Prop,(∀σ' H',N σ' H'→∃m',m'<m∧W (i+1) m' σ' H')∧∀x H',(yd lo st n).yld i H x H'→g x σ H' λσ2 H2=>tb ⟨N,rt,nx,N⟩ σ2 H2):=by
 refine⟨λi m σ H=>m=n-i∧i≤n∧Pv i σ H,⟨n,by simp,Qh _,h0⟩,?_⟩
 rintro i m σ H ⟨rfl,hi,p⟩
 by_cases hlt:i<n
 ·refine .inr ⟨hlt,Pv (i+1),λσ' H' p'=>⟨n-(i+1),by omega,rfl,hlt,p'⟩,λx H' y=>?_⟩
  obtain⟨e,y⟩:=y
  subst e y
  exact hs i σ _ hlt p
 ·have e:i=n:=by omega
  subst e
  exact .inl ⟨Q6 _,hd σ H p⟩
end L2
namespace L2
open PySem PySem.Spec PyProof.Rows Srt
section
variable {X:Cx}
def K3f (H:Hp) (a:Addr) (k:List Int):Prop:=∃i j m:Int,H a=some (.tup [.int i,.int j,.int m])∧k=[i,j,m]
theorem nB {x y z:V} {its:List Value} (r:Vals [x,y,z] its):∃u v w,its=[u,v,w]∧RelV x u∧RelV y v∧RelV z w:=by
 cases r with
 |cons r1 r=>
  obtain⟨v,w,rfl,h2,h3⟩:=j8 r
  exact⟨_,v,w,rfl,r1,h2,h3⟩
theorem qA:eJ X (.builtin "sorted") (λvs H Q=>∃(p:Addr) (as:List Addr) (ky:Addr→List Int),vs=[.ref p]∧SqL X.K H p (as.map V.ref)∧(∀a∈as,K3f H a (ky a))∧
  ∀(l:Addr) (bs:List Addr),H l=none→bs.Perm as→bs.Pairwise (λa b=>HT.lexLt (ky b) (ky a)=false)→Q (.ref l) (upd H l (.lst (bs.map V.ref)))):=by
 intro pins s σ H xs us Q I r h
 obtain⟨p,as,ky,rfl,hq,hk,q⟩:=h
 obtain⟨u,rfl,ru⟩:=j9 r
 cases ru
 obtain⟨its,rv,pl,hz⟩:=I.list hq
 refine qT (κ:=tuples' (Value.type "int" !=Value.type "tuple")) (ky:=kRef ky) I hz rv pl.isList (λh' k h2 Q' hQ=>?_) (λh' k x y u v E' Q' hx hy rx ry hQ=>?_) λl ys hl pm pw=>?_
 ·have tups:∀(bs:List Addr) (ws:List Value),(∀a∈bs,K3f H a (ky a))→Vals (bs.map V.ref) ws→∃fs:List Value,PySem.W.KatTups h' ws fs∧(∀f∈fs,∃i t,f=Value.int i t)∧fs.length=ws.length:=by
   intro bs
   induction bs with
   |nil=>intro ws _ r;cases r;exact⟨[],.nil,λ_ h=>absurd h QU,rfl⟩
   |cons a bs ih=>
    intro ws hk r
    cases r with
    |cons r1 r2=>
     cases r1
     obtain⟨fs,t,hi,hl⟩:=ih _ (λb hb=>hk b (Qa _ hb)) r2
     obtain⟨i,j,m,ha,_⟩:=hk a Q8
     obtain⟨o,its2,n,rv2,e,c,d⟩:=lF I ha k
     obtain⟨u1,u2,u3,rfl,q1,q2,q3⟩:=nB rv2
     obtain⟨t1,rfl⟩:=q1
     refine⟨Value.int i t1::fs,.cons e c d rfl t,λf hf=>?_,by rw[Qf,Qf,hl]⟩
     rcases Qe.mp hf with z|z
     ·exact⟨i,t1,z⟩
     ·exact hi f z
  obtain⟨fs,t,hi,hl⟩:=tups as its hk rv
  refine XQ (T:= .type "int") t (by omega) (λv hv=>?_) (by decide+kernel) hQ
  obtain⟨i,t,rfl⟩:=hi v hv
  exact PySem.W.Looks.of_pure rfl
 ·obtain⟨a,ha,rfl⟩:=Qb.mp hx
  obtain⟨b,hb,rfl⟩:=Qb.mp hy
  cases rx
  cases ry
  obtain⟨i,j,m,ea,ka⟩:=hk a ha
  obtain⟨i',j',m',eb,kb⟩:=hk b hb
  have hQ:Q' (HT.lexLt (ky a) (ky b)) {s with heap:=h'}:=hQ
  rw[ka,kb,HT.lexLt_cons,HT.lexLt_cons,HT.lexLt_cons,HT.lexLt_nil_nil]at hQ
  obtain⟨o,its1,n,rv1,e1,c1,d1⟩:=lF I ea k
  obtain⟨u1,u2,u3,rfl,⟨t1,rfl⟩,⟨t2,rfl⟩,⟨t5,rfl⟩⟩:=nB rv1
  obtain⟨o',its2,n',rv2,e2,c2,d2⟩:=lF I eb k
  obtain⟨w1,w2,w3,rfl,⟨t3,rfl⟩,⟨t4,rfl⟩,⟨t6,rfl⟩⟩:=nB rv2
  refine K7 e1 d1 e2 d2 (Zw (SeqAt.EqAt.int_int _ _ _ _ _ _ _ _ (ZF (λe=>Zy ?_) (λe=>ZG ?_))))
  ·rw[if_pos (beq_iff_eq.mp e)]at hQ
   refine Zw (SeqAt.EqAt.int_int _ _ _ _ _ _ _ _ (ZF (λe=>Zy ?_) (λe=>ZG ?_)))
   ·rw[if_pos (beq_iff_eq.mp e)]at hQ
    refine Zw (SeqAt.EqAt.int_int _ _ _ _ _ _ _ _ (ZF (λe=>Zy ?_) (λe=>ZG ?_)))
    ·rw[if_pos (beq_iff_eq.mp e)]at hQ
     exact XV (by simpa using hQ)
    ·rw[if_neg (beq_eq_false_iff_ne.mp e)]at hQ
     exact Xk _ _ (lt_int hQ)
   ·rw[if_neg (beq_eq_false_iff_ne.mp e)]at hQ
    exact Xk _ _ (lt_int hQ)
  ·rw[if_neg (beq_eq_false_iff_ne.mp e)]at hQ
   exact oneLt_int hQ
 ·obtain⟨bs,rfl,pm'⟩:=qX pm
  exact q l bs hl pm' (Qp.mp pw)
end
end L2
namespace L2
open PySem PySem.Spec PyProof.Rows
end L2
namespace L2
open PySem PySem.Spec PyProof.Rows
end L2
namespace SW
open PySem L2
set_option maxHeartbeats 0
structure Txt (K:PySem.W.Frag) (mg:Str→Option Value) (t:Adr):Prop where
 sN:mg "WalkError"=some (.ref t.bH)
 uo:mg "NoKey"=some (.ref t.bP)
 Ed:mg "Twice"=some (.ref t.m7)
 Cu:mg "NoMoment"=some (.ref t.g9)
 DG:mg "Leaves"=some (.ref t.bI)
 Ee:mg "Makes"=some (.ref t.dH)
 y9:mg "Slots"=some (.ref t.aQ)
 Ef:mg "House"=some (.ref t.aB)
 Ax:Fun K "__init__" "NoKey.__init__" fj t.gc t.fR
 qH:Binds K t.fR ["self","key"] []
 EC:Fun K "__init__" "Twice.__init__" i7 t.Aq t.jh
 EA:Binds K t.jh ["self","key"] []
 ED:Fun K "__init__" "NoMoment.__init__" gh t.yb t.gj
 EB:Binds K t.gj ["self","moment"] []
 uq:mg "turned"=some (.ref t.uN)
 pU:Fun K "turned" "turned" oB t.uN t.pH
 uM:Binds K t.pH ["number"] []
 xD:mg "mark_of"=some (.ref t.rX)
 rZ:Fun K "mark_of" "mark_of" lJ t.rX t.mh
 x9:Binds K t.mh ["key"] []
 Dh:mg "place_of"=some (.ref t.pS)
 vT:Fun K "place_of" "place_of" jI t.pS t.jY
 DA:Binds K t.jY ["key"] []
 rh:mg "slot_of"=some (.ref t.rV)
 mm:Fun K "slot_of" "slot_of" lH t.rV t.l7
 rT:Binds K t.l7 ["key","size"] []
 BB:mg "stretch_of"=some (.ref t.kT)
 tI:Fun K "stretch_of" "stretch_of" gu t.kT t.gP
 BP:Binds K t.gP ["slot","size"] []
 xC:mg "slot_at"=some (.ref t.rW)
 rY:Fun K "slot_at" "slot_at" lI t.rW t.mf
 x6:Binds K t.mf ["place","size"] []
 z7:Fun K "__init__" "Leaves.__init__" dR t.iN t.eB
 zP:Binds K t.eB ["self"] []
 AB:Fun K "add" "Leaves.add" dh t.ju t.fV
 Am:Binds K t.fV ["self","key"] []
 wZ:Fun K "discard" "Leaves.discard" cJ t.eX t.cT
 wS:Binds K t.cT ["self","key"] []
 AA:Fun K "has" "Leaves.has" fq t.jt t.fU
 qI:Binds K t.fU ["self","key"] []
 wY:Fun K "from_on" "Leaves.from_on" bT t.eV t.cR
 wR:Binds K t.cR ["self","key","most"] []
 wX:Fun K "leaf_of" "Leaves.leaf_of" cI t.eU t.cQ
 cU:Binds K t.cQ ["self","key"] []
 uU:Fun K "part_leaf" "Leaves.part_leaf" b5 t.dC t.b8
 uT:Binds K t.b8 ["self","at"] []
 uQ:Fun K "join_small" "Leaves.join_small" bX t.du t.bZ
 iI:Binds K t.bZ ["self","at"] []
 Az:Fun K "__init__" "Makes.__init__" fo t.js t.fT
 Al:Binds K t.fT ["self"] []
 Ay:Fun K "note" "Makes.note" fk t.jr t.fS
 Ak:Binds K t.fS ["self","moment","value"] []
 zZ:Fun K "sweep" "Makes.sweep" bW t.iM t.d9
 zO:Binds K t.d9 ["self","floor"] []
 my:mg "empty_row"=some (.ref t.mG)
 iP:Fun K "empty_row" "empty_row" eL t.mG t.iG
 mF:Binds K t.iG ["size"] []
 Av:Fun K "__init__" "Slots.__init__" fg t.jp t.fP
 qF:Binds K t.fP ["self"] []
 BZ:Fun K "put" "Slots.put" gA t.k7 t.gV
 tD:Binds K t.gV ["self","key","value"] []
 Aw:Fun K "drop" "Slots.drop" fh t.jq t.fQ
 qG:Binds K t.fQ ["self","key"] []
 B6:Fun K "get" "Slots.get" gE t.lg t.gX
 BU:Binds K t.gX ["self","key"] []
 B0:Fun K "has" "Slots.has" gB t.k8 t.gW
 kR:Binds K t.gW ["self","key"] []
 Au:Fun K "many" "Slots.many" fc t.jo t.fO
 Aj:Binds K t.fO ["self"] []
 At:Fun K "rows" "Slots.rows" de t.jn t.fN
 gb:Binds K t.fN ["self"] []
 zX:Fun K "moved" "Slots.moved" dP t.iJ t.d7
 eE:Binds K t.d7 ["self"] []
 zY:Fun K "cells" "Slots.cells" dQ t.iK t.d8
 pQ:Binds K t.d8 ["self"] []
 As:Fun K "span" "Slots.span" cc t.jk t.fL
 Ai:Binds K t.fL ["self","low","high"] []
 Ar:Fun K "stop" "Slots.stop" e7 t.jj t.fK
 Ah:Binds K t.fK ["self","place"] []
 ye:Fun K "cell_of" "Slots.cell_of" cY t.gr t.c7
 da:Binds K t.c7 ["self","key"] []
 wW:Fun K "lying_at" "Slots.lying_at" cH t.eT t.cP
 wQ:Binds K t.cP ["self","place"] []
 vU:Fun K "move_slot" "Slots.move_slot" cp t.eF t.cv
 j4:Binds K t.cv ["self"] []
 vV:Fun K "begin_row" "Slots.begin_row" cq t.eG t.cw
 j5:Binds K t.cw ["self"] []
 AD:Fun K "__init__" "House.__init__" fu t.jw t.fX
 An:Binds K t.fX ["self"] []
 B7:Fun K "put" "House.put" gF t.lq t.gY
 BV:Binds K t.gY ["self","key","value"] []
 AG:Fun K "drop" "House.drop" fz t.jz t.f7
 qK:Binds K t.f7 ["self","key"] []
 B9:Fun K "get" "House.get" gH t.lB t.g7
 tE:Binds K t.g7 ["self","key"] []
 B8:Fun K "has" "House.has" gG t.lu t.gZ
 kS:Binds K t.gZ ["self","key"] []
 AC:Fun K "many" "House.many" ft t.jv t.fW
 qJ:Binds K t.fW ["self"] []
 AE:Fun K "hold" "House.hold" fv t.jx t.fY
 Ao:Binds K t.fY ["self"] []
 AF:Fun K "held" "House.held" fw t.jy t.fZ
 Ap:Binds K t.fZ ["self"] []
 z8:Fun K "sweep" "House.sweep" dS t.iO t.eC
 zQ:Binds K t.eC ["self"] []
 AH:Fun K "done" "House.done" fA t.jB t.f8
 qL:Binds K t.f8 ["self","row","value"] []
 bv:mg "_law_drawn"=some (.ref t.kX)
 bi:Fun K "_law_drawn" "_law_drawn" gx t.kX t.gS
 bx:Binds K t.gS ["_law_cell","_law_k"] []
 vD:mg "_law_key"=some (.ref t.pT)
 pV:Fun K "_law_key" "_law_key" jJ t.pT t.jZ
 vR:Binds K t.jZ ["_law_cell"] []
 BC:mg "_law_value"=some (.ref t.kU)
 tJ:Fun K "_law_value" "_law_value" gv t.kU t.gQ
 BQ:Binds K t.gQ ["_law_cell"] []
 BD:mg "_law_deeds"=some (.ref t.kY)
 tK:Fun K "_law_deeds" "_law_deeds" cG t.kY t.gT
 BR:Binds K t.gT ["_law_cell","_law_plain"] []
 qy:mg "_law_no_key"=some (.ref t.ji)
 jD:Fun K "_law_no_key" "_law_no_key" eZ t.ji t.fJ
 qE:Binds K t.fJ ["_law_house","_law_key_here","_law_word"] []
 Cw:mg "_law_done"=some (.ref t.mH)
 uP:Fun K "_law_done" "_law_done" ie t.mH t.iH
 CC:Binds K t.iH ["_law_house","_law_plain","_law_word","_law_key_here","_law_value_here"] []
 sQ:mg "_law_right"=some (.ref t.kW)
 lC:Fun K "_law_right" "_law_right" gw t.kW t.gR
 tx:Binds K t.gR ["_law_house","_law_plain","_law_key_here"] []
 BE:mg "_law_alike"=some (.ref t.kZ)
 tL:Fun K "_law_alike" "_law_alike" gy t.kZ t.gU
 BS:Binds K t.gU ["_law_house","_law_beside","_law_cell"] []
 Ex:mg "law"=some (.ref t.CD)
 Eu:Fun K "law" "law" yE t.CD t.wO
 b_law:Binds K t.wO ["_law_script"] []
 AJ:XCls K t.bH (([]:List Addr).map Value.ref++vBase)
 kD:NoAttr K t.bP "key"
 bF:XCls K t.bP (([t.bH]:List Addr).map Value.ref++vBase)
 m9:XIs K t.bP
 xM:PySem.W.findIn K (.ref t.bP) "__init__"=some (some (.ref t.gc))
 xN:PySem.W.isFn K (.ref t.gc)=true
 Ey:NoAttr K t.m7 "key"
 DI:XCls K t.m7 (([t.bH]:List Addr).map Value.ref++vBase)
 Ez:NoAttr K t.g9 "moment"
 Cc:XCls K t.g9 (([t.bH]:List Addr).map Value.ref++vBase)
 au:NoAttr K t.bI "leaves"
 aD:Cls K t.bI
 DF:Mk K t.bI t.iN
 Ae:bS K t.bI "add" t.ju
 wy:bS K t.bI "discard" t.eX
 qt:bS K t.bI "has" t.jt
 ww:bS K t.bI "from_on" t.eV
 cN:bS K t.bI "leaf_of" t.eU
 uS:bS K t.bI "part_leaf" t.dC
 iC:bS K t.bI "join_small" t.du
 cf:NoAttr K t.dH "made"
 eD:Cls K t.dH
 Eb:Mk K t.dH t.js
 Ad:bS K t.dH "note" t.jr
 ze:bS K t.dH "sweep" t.iM
 aK:NoAttr K t.aQ "table"
 bh:NoAttr K t.aQ "shifted"
 ba:NoAttr K t.aQ "kept"
 aq:Cls K t.aQ
 y7:Mk K t.aQ t.jp
 sO:bS K t.aQ "put" t.k7
 qr:bS K t.aQ "drop" t.jq
 Bz:bS K t.aQ "get" t.lg
 kG:bS K t.aQ "has" t.k8
 Ac:bS K t.aQ "many" t.jo
 fI:bS K t.aQ "rows" t.jn
 d6:bS K t.aQ "moved" t.iJ
 pf:bS K t.aQ "cells" t.iK
 Ab:bS K t.aQ "span" t.jk
 Aa:bS K t.aQ "stop" t.jj
 c6:bS K t.aQ "cell_of" t.gr
 wv:bS K t.aQ "lying_at" t.eT
 jQ:bS K t.aQ "move_slot" t.eF
 jR:bS K t.aQ "begin_row" t.eG
 aS:NoAttr K t.aB "now"
 dY:NoAttr K t.aB "floor"
 aV:NoAttr K t.aB "slots"
 dw:NoAttr K t.aB "leaves"
 lQ:NoAttr K t.aB "written"
 y4:NoAttr K t.aB "marks"
 jd:NoAttr K t.aB "past"
 cZ:NoAttr K t.aB "holders"
 ar:Cls K t.aB
 Ec:Mk K t.aB t.jw
 BA:bS K t.aB "put" t.lq
 qv:bS K t.aB "drop" t.jz
 sP:bS K t.aB "get" t.lB
 kH:bS K t.aB "has" t.lu
 qu:bS K t.aB "many" t.jv
 Af:bS K t.aB "hold" t.jx
 Ag:bS K t.aB "held" t.jy
 zf:bS K t.aB "sweep" t.iO
 qw:bS K t.aB "done" t.jB
 wn:CH K t.bH "__init__" (.builtin "ValueError.__init__")
 yA:PySem.W.subIn K (.ref t.bP) (.ref t.bP)=some true
 wb:PySem.W.subIn K (.ref t.bP) (.ref t.g9)=some false
 yz:PySem.W.subIn K (.ref t.bP) (.ref t.m7)=some false
 va:PySem.W.subIn K (.ref t.bP) (.ref t.bH)=some true
 Ev:∃tk,mg "BITS"=some (.int 16 tk)
 uz:∃tk,mg "PLACES"=some (.int 65536 tk)
 zx:∃tk,mg "MOST_IN_LEAF"=some (.int 8 tk)
 zy:∃tk,mg "LEAST_IN_TWO"=some (.int 5 tk)
 sZ:∃tk,mg "LEAST_SIZE"=some (.int 4 tk)
 yf:∃tk,mg "GREATEST_SIZE"=some (.int 256 tk)
 AI:mg "ValueError"=none
 CJ:mg "bool"=none
 Ca:mg "enumerate"=none
 DH:mg "int"=none
 bM:mg "isinstance"=none
 bE:mg "len"=none
 Ew:mg "max"=none
 vW:mg "min"=none
 r9:mg "range"=none
 gd:mg "sorted"=none
theorem oo:ay ["self","key"] ["self","key"] (am fj):=⟨rfl,rfl,rfl,by decide+kernel,rfl,by decide+kernel,by decide+kernel⟩
theorem sc_turned:ay ["number","told","rest","step"] ["number"] (am oB):=⟨rfl,rfl,rfl,by decide+kernel,rfl,by decide+kernel,by decide+kernel⟩
theorem vi:ay ["key"] ["key"] (am lJ):=⟨rfl,rfl,rfl,by decide+kernel,rfl,by decide+kernel,by decide+kernel⟩
theorem tV:ay ["key"] ["key"] (am jI):=⟨rfl,rfl,rfl,by decide+kernel,rfl,by decide+kernel,by decide+kernel⟩
theorem vg:ay ["key","size"] ["key","size"] (am lH):=⟨rfl,rfl,rfl,by decide+kernel,rfl,by decide+kernel,by decide+kernel⟩
theorem sc_stretch_of:ay ["slot","size","low"] ["slot","size"] (am gu):=⟨rfl,rfl,rfl,by decide+kernel,rfl,by decide+kernel,by decide+kernel⟩
theorem vh:ay ["place","size"] ["place","size"] (am lI):=⟨rfl,rfl,rfl,by decide+kernel,rfl,by decide+kernel,by decide+kernel⟩
theorem mO:ay ["self"] ["self"] (am dR):=⟨rfl,rfl,rfl,by decide+kernel,rfl,by decide+kernel,by decide+kernel⟩
theorem sc_Leaves__add:ay ["self","key","at","leaf"] ["self","key"] (am dh):=⟨rfl,rfl,rfl,by decide+kernel,rfl,by decide+kernel,by decide+kernel⟩
theorem sc_Leaves__discard:ay ["self","key","at"] ["self","key"] (am cJ):=⟨rfl,rfl,rfl,by decide+kernel,rfl,by decide+kernel,by decide+kernel⟩
theorem sc_Leaves__has:ay ["self","key","at"] ["self","key"] (am fq):=⟨rfl,rfl,rfl,by decide+kernel,rfl,by decide+kernel,by decide+kernel⟩
theorem sc_Leaves__from_on:ay ["self","key","most","told","at"] ["self","key","most"] (am bT):=⟨rfl,rfl,rfl,by decide+kernel,rfl,by decide+kernel,by decide+kernel⟩
theorem sc_Leaves__leaf_of:ay ["self","key","low","high","middle"] ["self","key"] (am cI):=⟨rfl,rfl,rfl,by decide+kernel,rfl,by decide+kernel,by decide+kernel⟩
theorem sc_Leaves__part_leaf:ay ["self","at","leaf","middle"] ["self","at"] (am b5):=⟨rfl,rfl,rfl,by decide+kernel,rfl,by decide+kernel,by decide+kernel⟩
theorem sc_Leaves__join_small:ay ["self","at","both"] ["self","at"] (am bX):=⟨rfl,rfl,rfl,by decide+kernel,rfl,by decide+kernel,by decide+kernel⟩
theorem ot:ay ["self"] ["self"] (am fo):=⟨rfl,rfl,rfl,by decide+kernel,rfl,by decide+kernel,by decide+kernel⟩
theorem oq:ay ["self","moment","value"] ["self","moment","value"] (am fk):=⟨rfl,rfl,rfl,by decide+kernel,rfl,by decide+kernel,by decide+kernel⟩
theorem sc_Makes__sweep:ay ["self","floor","old","stay","thrown"] ["self","floor"] (am bW):=⟨rfl,rfl,rfl,by decide+kernel,rfl,by decide+kernel,by decide+kernel⟩
theorem ss:ay ["size"] ["size"] (am eL):=⟨rfl,rfl,rfl,by decide+kernel,rfl,by decide+kernel,by decide+kernel⟩
theorem oi:ay ["self"] ["self"] (am fg):=⟨rfl,rfl,rfl,by decide+kernel,rfl,by decide+kernel,by decide+kernel⟩
theorem sc_Slots__put:ay ["self","key","value","cell"] ["self","key","value"] (am gA):=⟨rfl,rfl,rfl,by decide+kernel,rfl,by decide+kernel,by decide+kernel⟩
theorem oj:ay ["self","key"] ["self","key"] (am fh):=⟨rfl,rfl,rfl,by decide+kernel,rfl,by decide+kernel,by decide+kernel⟩
theorem sc_Slots__get:ay ["self","key","cell"] ["self","key"] (am gE):=⟨rfl,rfl,rfl,by decide+kernel,rfl,by decide+kernel,by decide+kernel⟩
theorem qf:ay ["self","key"] ["self","key"] (am gB):=⟨rfl,rfl,rfl,by decide+kernel,rfl,by decide+kernel,by decide+kernel⟩
theorem oh:ay ["self"] ["self"] (am fc):=⟨rfl,rfl,rfl,by decide+kernel,rfl,by decide+kernel,by decide+kernel⟩
theorem oe:ay ["self"] ["self"] (am de):=⟨rfl,rfl,rfl,by decide+kernel,rfl,by decide+kernel,by decide+kernel⟩
theorem mN:ay ["self"] ["self"] (am dP):=⟨rfl,rfl,rfl,by decide+kernel,rfl,by decide+kernel,by decide+kernel⟩
theorem sc_Slots__cells:ay ["self","told","row","slot","cell"] ["self"] (am dQ):=⟨rfl,rfl,rfl,by decide+kernel,rfl,by decide+kernel,by decide+kernel⟩
theorem sc_Slots__span:ay ["self","low","high","found","reached","end","inside"] ["self","low","high"] (am cc):=⟨rfl,rfl,rfl,by decide+kernel,rfl,by decide+kernel,by decide+kernel⟩
theorem sc_Slots__stop:ay ["self","place","size"] ["self","place"] (am e7):=⟨rfl,rfl,rfl,by decide+kernel,rfl,by decide+kernel,by decide+kernel⟩
theorem sc_Slots__cell_of:ay ["self","key","old","slot","new"] ["self","key"] (am cY):=⟨rfl,rfl,rfl,by decide+kernel,rfl,by decide+kernel,by decide+kernel⟩
theorem sc_Slots__lying_at:ay ["self","place","size","found","row","slot","key","value"] ["self","place"] (am cH):=⟨rfl,rfl,rfl,by decide+kernel,rfl,by decide+kernel,by decide+kernel⟩
theorem sc_Slots__move_slot:ay ["self","old","new","key","value"] ["self"] (am cp):=⟨rfl,rfl,rfl,by decide+kernel,rfl,by decide+kernel,by decide+kernel⟩
theorem sc_Slots__begin_row:ay ["self","size"] ["self"] (am cq):=⟨rfl,rfl,rfl,by decide+kernel,rfl,by decide+kernel,by decide+kernel⟩
theorem ox:ay ["self"] ["self"] (am fu):=⟨rfl,rfl,rfl,by decide+kernel,rfl,by decide+kernel,by decide+kernel⟩
theorem qg:ay ["self","key","value"] ["self","key","value"] (am gF):=⟨rfl,rfl,rfl,by decide+kernel,rfl,by decide+kernel,by decide+kernel⟩
theorem oA:ay ["self","key"] ["self","key"] (am fz):=⟨rfl,rfl,rfl,by decide+kernel,rfl,by decide+kernel,by decide+kernel⟩
theorem qi:ay ["self","key"] ["self","key"] (am gH):=⟨rfl,rfl,rfl,by decide+kernel,rfl,by decide+kernel,by decide+kernel⟩
theorem qh:ay ["self","key"] ["self","key"] (am gG):=⟨rfl,rfl,rfl,by decide+kernel,rfl,by decide+kernel,by decide+kernel⟩
theorem ou:ay ["self"] ["self"] (am ft):=⟨rfl,rfl,rfl,by decide+kernel,rfl,by decide+kernel,by decide+kernel⟩
theorem oy:ay ["self"] ["self"] (am fv):=⟨rfl,rfl,rfl,by decide+kernel,rfl,by decide+kernel,by decide+kernel⟩
theorem oz:ay ["self"] ["self"] (am fw):=⟨rfl,rfl,rfl,by decide+kernel,rfl,by decide+kernel,by decide+kernel⟩
theorem sc_House__sweep:ay ["self","thrown","of_key"] ["self"] (am dS):=⟨rfl,rfl,rfl,by decide+kernel,rfl,by decide+kernel,by decide+kernel⟩
theorem sc_House__done:ay ["self","row","value","key"] ["self","row","value"] (am fA):=⟨rfl,rfl,rfl,by decide+kernel,rfl,by decide+kernel,by decide+kernel⟩
theorem sc__law_drawn:ay ["_law_cell","_law_k","_law_number"] ["_law_cell","_law_k"] (am gx):=⟨rfl,rfl,rfl,by decide+kernel,rfl,by decide+kernel,by decide+kernel⟩
theorem sc__law_key:ay ["_law_cell","_law_number","_law_way"] ["_law_cell"] (am jJ):=⟨rfl,rfl,rfl,by decide+kernel,rfl,by decide+kernel,by decide+kernel⟩
theorem qd:ay ["_law_cell"] ["_law_cell"] (am gv):=⟨rfl,rfl,rfl,by decide+kernel,rfl,by decide+kernel,by decide+kernel⟩
theorem sc__law_deeds:ay ["_law_cell","_law_plain","_law_way","_law_key_here","_law_some","_law_step"] ["_law_cell","_law_plain"] (am cG):=⟨rfl,rfl,rfl,by decide+kernel,rfl,by decide+kernel,by decide+kernel⟩
theorem sc__law_no_key:ay ["_law_house","_law_key_here","_law_word","e"] ["_law_house","_law_key_here","_law_word"] (am eZ):=⟨rfl,rfl,rfl,by decide+kernel,rfl,by decide+kernel,by decide+kernel⟩
theorem sc__law_done:ay ["_law_house","_law_plain","_law_word","_law_key_here","_law_value_here","_law_due","_law_found"] ["_law_house","_law_plain","_law_word","_law_key_here","_law_value_here"] (am ie):=⟨rfl,rfl,rfl,by decide+kernel,rfl,by decide+kernel,by decide+kernel⟩
theorem sc__law_right:ay ["_law_house","_law_plain","_law_key_here","_law_found"] ["_law_house","_law_plain","_law_key_here"] (am gw):=⟨rfl,rfl,rfl,by decide+kernel,rfl,by decide+kernel,by decide+kernel⟩
theorem qe:ay ["_law_house","_law_beside","_law_cell"] ["_law_house","_law_beside","_law_cell"] (am gy):=⟨rfl,rfl,rfl,by decide+kernel,rfl,by decide+kernel,by decide+kernel⟩
theorem sc_law:ay ["_law_script","_law_house","_law_beside","_law_plain","_law_cell","_law_word","_law_key_here","_law_now","_law_value_here","_law_rows"] ["_law_script"] (am yE):=⟨rfl,rfl,rfl,by decide+kernel,rfl,by decide+kernel,by decide+kernel⟩
def Fr (F F':Addr→Prop) (H H':Hp):Prop:=∀b o,¬F b→H b=some o→H' b=some o∧¬F' b
theorem Fr.refl {F:Addr→Prop} {H:Hp}:Fr F F H H:=λ_ _ n e=>⟨e,n⟩
theorem Fr.trans {F F' F'':Addr→Prop} {H H' H'':Hp} (x:Fr F F' H H') (y:Fr F' F'' H' H''):Fr F F'' H H'':=λb o n e=>y b o (x b o n e).2 (x b o n e).1
theorem Fr.of_same {F:Addr→Prop} {H H':Hp} (s:Same H H'):Fr F F H H':=λb o n e=>⟨s b o e,n⟩
def aE (kv:List (Int×V)):List (Key×V):=kv.map λp=>(Sum.inl p.1,p.2)
theorem liftK_val {kv:List (Int×V)} {k:Int}:aI (aE kv) (Sum.inl k:Key)=aI kv k:=by
 induction kv with
 |nil=>rfl
 |cons p r ih=>
  show aI ((Sum.inl p.1,p.2)::aE r) (Sum.inl k:Key)=_
  by_cases e:p.1=k
  ·rw[aZ e,aZ (by show(Sum.inl p.1:Key)=_;rw[e])]
  ·rw[aW e,aW (by show ¬(Sum.inl p.1:Key)=_;exact λz=>e (Sum.inl.inj z)),ih]
theorem xE {kv:List (Int×V)} {k:Int}:((aE kv).any λx=>decide (x.1=(Sum.inl k:Key)))=kv.any λx=>decide (x.1=k):=by
 rw[bV,bV,liftK_val]
theorem dL {kv:List (Int×V)} {k:Int} {v:V}:bg (aE kv) (Sum.inl k:Key) v=aE (bg kv k v):=by
 unfold bg
 rw[xE]
 by_cases c:(kv.any λx=>decide (x.1=k))=true
 ·rw[if_pos c,if_pos c]
  unfold aE
  rw[Qy,Qy]
  refine Zd λp _=>?_
  show(if(Sum.inl p.1:Key)=Sum.inl k then _ else _)=_
  by_cases e:p.1=k
  ·rw[if_pos (by rw[e])];simp[e]
  ·rw[if_neg λz=>e (Sum.inl.inj z)];simp[e]
 ·rw[if_neg c,if_neg c]
  unfold aE
  rw[Qk]
  rfl
theorem pz {kv:List (Int×V)} {k:Int}:bp (aE kv) (Sum.inl k:Key)=aE (bp kv k):=by
 unfold bp aE
 rw[List.filter_map]
 congr 1
 refine List.filter_congr λp _=>?_
 show decide ((Sum.inl p.1:Key)≠Sum.inl k)=_
 by_cases e:p.1=k
 ·rw[e];simp
 ·have:¬(Sum.inl p.1:Key)=Sum.inl k:=λz=>e (Sum.inl.inj z)
  simp[e,this]
theorem bC {kv:List (Int×V)}:(aE kv).length=kv.length:=Q0 _
theorem oG {f:Str} {v:V}:∀fs:List (Str×V),(aY f v fs).length≤fs.length+1
 | []=>Q6 _
 |(g,x)::r=>by
  rw[aY]
  split
  ·rw[Qf,Qf];omega
  ·have:=oG (f:=f) (v:=v) r
   rw[Qf,Qf];omega
section
variable {κ:Type} [DecidableEq κ] {kv:List (κ×V)} {k j:κ} {v:V}
theorem cX:∀{kv:List (κ×V)},aI (bp kv k) j=if j=k then none else aI kv j
 | []=>by
  show aI ([]:List (κ×V)) j=_
  rw[gg]
  split<;>rfl
 |p::r=>by
  by_cases e:p.1=k
  ·rw[l6 e,cX]
   by_cases z:j=k
   ·rw[if_pos z,if_pos z]
   ·rw[if_neg z,if_neg z,aW λy=>z (y.symm.trans e)]
  ·rw[iX e]
   by_cases y:p.1=j
   ·rw[aZ y,aZ y,if_neg λz=>e (y.trans z)]
   ·rw[aW y,aW y,cX]
theorem mem_keys:∀{kv:List (κ×V)},k∈kv.map (·.1)↔(aI kv k).isSome=true
 | []=>by simp[gg]
 |p::r=>by
  by_cases e:p.1=k
  ·rw[aZ e];simp[e]
  ·rw[aW e,←mem_keys]
   simp[Ne.symm e]
theorem kI:(bg kv k v).map (·.1)=if(aI kv k).isSome=true then kv.map (·.1)else kv.map (·.1)++ [k]:=by
 unfold bg
 rw[bV]
 by_cases c:(aI kv k).isSome=true
 ·rw[if_pos c,if_pos c,Qy]
  refine Zd λp _=>?_
  show(if p.1=k then(p.1,v)else p).1=p.1
  split<;>rfl
 ·rw[if_neg c,if_neg c,Qk]
  rfl
theorem sL (h:(kv.map (·.1)).Nodup):((bg kv k v).map (·.1)).Nodup:=by
 cases e:aI kv k with
 |none=>exact Bu v h e
 |some x=>rw[kI,e];exact h
theorem kB:∀{l S:List κ},l.Nodup→(∀x∈l,x∈S)→l.length≤S.length
 | [],_,_,_=>Qh _
 |x::xs,S,hn,hs=>by
  obtain⟨h1,h2⟩:=QE.mp hn
  have hx:x∈S:=hs x Q8
  have:=kB (S:=S.erase x) h2 λy hy=>(List.mem_erase_of_ne λz=>h1 (by rw[←z];exact hy)).mpr (hs y (Qa _ hy))
  rw[List.length_erase_of_mem hx]at this
  have:=List.length_pos_of_mem hx
  rw[Qf]
  omega
end
def SqF (K:PySem.W.Frag) (F:Addr→Prop) (H:Hp) (a:Addr) (xs:List V):Prop:=(Rd H a (.lst xs)∧¬F a)∨∀H',SqL K H' a xs
theorem SqF.sq {K:PySem.W.Frag} {F:Addr→Prop} {H:Hp} {a:Addr} {xs:List V} (h:SqF K F H a xs):SqL K H a xs:=by
 rcases h with h|h
 ·exact .inl h.1
 ·exact h H
theorem SqF.of {K:PySem.W.Frag} {F:Addr→Prop} {H:Hp} {a:Addr} {xs:List V} (h:SqL K H a xs) (n:∀o,H a=some o→¬F a):SqF K F H a xs:=by
 rcases h with h|h
 ·rcases h with h|⟨o,h⟩
  ·exact .inl ⟨.inl h,n _ h⟩
  ·exact .inl ⟨.inr ⟨o,h⟩,n _ h⟩
 ·exact .inr λ_=> .inr h
theorem SqF.fr {K:PySem.W.Frag} {F F':Addr→Prop} {H H':Hp} {a:Addr} {xs:List V} (h:SqF K F H a xs) (f:Fr F F' H H'):SqF K F' H' a xs:=by
 rcases h with⟨h,n⟩|h
 ·rcases h with h|⟨o,h⟩
  ·exact .inl ⟨.inl (f _ _ n h).1,(f _ _ n h).2⟩
  ·exact .inl ⟨.inr ⟨o,(f _ _ n h).1⟩,(f _ _ n h).2⟩
 ·exact .inr h
structure SSt where
 kv:List (Int×V)
 size:Int
 nxt:Option Int
 mv:Int
def SSt.new:SSt:=⟨[],4,none,0⟩
def SSt.one (s:SSt):SSt:=match s.nxt with
 |none=>s
 |some m=>if s.mv+1=s.size then{s with size:=m,nxt:=none,mv:=0}else{s with mv:=s.mv+1}
def SSt.three (s:SSt):SSt:=match s.nxt with
 |some _=>s
 |none=>if s.size<(s.kv.length:Int)∧s.size<256 then{s with nxt:=some (2*s.size),mv:=0}else if 4*(s.kv.length:Int)<s.size∧4<s.size then{s with nxt:=some (s.size/2),mv:=0}else s
def SSt.put (s:SSt) (k:Int) (v:V):SSt:=SSt.three {s.one with kv:=bg s.kv k v}
def SSt.drop (s:SSt) (k:Int):SSt:=SSt.three {s.one with kv:=bp s.kv k}
def SSt.rows (s:SSt):List Int:=match s.nxt with
 |none=> [s.size]
 |some m=> [s.size,m]
def SSt.moved (s:SSt):Int:=match s.nxt with
 |none=>0
 |some _=>s.mv
structure SlD where
 tb:Addr
 r0:Addr
 r1:Addr
 A0:List Addr
 A1:List Addr
 C0:List (List (Int×V))
 C1:List (List (Int×V))
 n:Int
def slF (tb:Addr) (sh n:Int):List (Str×V):=[("table",.ref tb),("shifted",.int sh),("kept",.int n)]
theorem dn {k:Str} {v:V} {r:List (Str×V)}:((k,v)::r).lookup k=some v:=by
 have hb:(k==k)=true:=beq_iff_eq.mpr rfl
 simp only[List.lookup,hb]
theorem bf {k m:Str} {v:V} {r:List (Str×V)} (h:m≠k):((k,v)::r).lookup m=r.lookup m:=by
 have hb:(m==k)=false:=beq_eq_false_iff_ne.mpr h
 simp only[List.lookup,hb]
section
variable {tb tb':Addr} {sh sh' n n':Int} {m:Str}
theorem dO:(slF tb sh n).lookup ("table":Str)=some (.ref tb):=dn
theorem qU:(slF tb sh n).lookup ("shifted":Str)=some (.int sh):=by unfold slF;rw[bf (by decide+kernel),dn]
theorem i6:(slF tb sh n).lookup ("kept":Str)=some (.int n):=by unfold slF;rw[bf (by decide+kernel),bf (by decide+kernel),dn]
def NoM (m:Str):Prop:=m≠("table":Str)∧m≠("shifted":Str)∧m≠("kept":Str)
instance:Decidable (NoM m):=by unfold NoM;infer_instance
theorem Cj (h:NoM m):(slF tb sh n).lookup m=none:=by unfold slF;rw[bf h.1,bf h.2.1,bf h.2.2];rfl
theorem D7:aY ("table":Str) (.ref tb') (slF tb sh n)=slF tb' sh n:=by unfold slF;rw[aY,if_pos rfl]
theorem Cn:aY ("shifted":Str) (.int sh') (slF tb sh n)=slF tb sh' n:=by unfold slF;rw[aY,if_neg (by decide+kernel),aY,if_pos rfl]
theorem Co:aY ("kept":Str) (.int n') (slF tb sh n)=slF tb sh n':=by unfold slF;rw[aY,if_neg (by decide+kernel),aY,if_neg (by decide+kernel),aY,if_pos rfl]
theorem ki:(slF tb sh n).length<1000:=by show 3<1000;decide
end
structure RowOk (H:Hp) (r:Addr) (A:List Addr) (C:List (List (Int×V))) (sz:Int):Prop where
 lst:H r=some (.lst (A.map V.ref))
 la:(A.length:Int)=sz
 lc:(C.length:Int)=sz
 cell:∀(j:Nat) (b:Addr) (kv:List (Int×V)),A[j]?=some b→C[j]?=some kv→H b=some (.dK (aE kv))
 ndk:∀(j:Nat) (kv:List (Int×V)),C[j]?=some kv→(kv.map (·.1)).Nodup
 inj:∀(i j:Nat) (b:Addr),A[i]?=some b→A[j]?=some b→i=j
 home:∀(j:Nat) (kv:List (Int×V)),C[j]?=some kv→∀p∈kv,p.1%65536%sz=(j:Int)
theorem RowOk.has {H:Hp} {r:Addr} {A:List Addr} {C:List (List (Int×V))} {sz:Int} (h:RowOk H r A C sz) {b:Addr} (hb:b∈A):∃(j:Nat) (kv:List (Int×V)),A[j]?=some b∧C[j]?=some kv∧H b=some (.dK (aE kv)):=by
 obtain⟨j,hj,e⟩:=QD hb
 have hc:j<C.length:=by have:=h.la;have:=h.lc;omega
 have e1:A[j]?=some b:=by rw[Q5 hj,e]
 have e2:C[j]?=some C[j]:=Q5 hc
 exact⟨j,C[j],e1,e2,h.cell j b _ e1 e2⟩
theorem RowOk.frame {H H':Hp} {r:Addr} {A:List Addr} {C:List (List (Int×V))} {sz:Int} (h:RowOk H r A C sz) (f:∀b,b=r∨b∈A→H' b=H b):RowOk H' r A C sz:=
 ⟨by rw[f r (.inl rfl)];exact h.lst,h.la,h.lc,λj b kv e1 e2=>by rw[f b (.inr (Q3 e1))];exact h.cell j b kv e1 e2,h.ndk,h.inj,h.home⟩
theorem RowOk.notr {H:Hp} {r:Addr} {A:List Addr} {C:List (List (Int×V))} {sz:Int} (h:RowOk H r A C sz) {b:Addr} (hb:b∈A) {o:HO} {x:Addr} (e:H x=some o) (ne:∀kvs,o≠ .dK kvs):b≠x:=λz=>by
 obtain⟨j,kv,_,_,q⟩:=h.has hb
 rw[z,e]at q
 cases q
 exact ne _ rfl
theorem RowOk.set {H:Hp} {r c:Addr} {A:List Addr} {C:List (List (Int×V))} {sz:Int} {j:Nat} {kv':List (Int×V)} (h:RowOk H r A C sz) (ea:A[j]?=some c) (nd:(kv'.map (·.1)).Nodup) (hm:∀p∈kv',p.1%65536%sz=(j:Int)):
  RowOk (upd H c (.dK (aE kv'))) r A (C.set j kv') sz:=by
 have hc:r≠c:=(h.notr (Q3 ea) h.lst (λ_ z=>by cases z)).symm
 refine⟨by rw[ac hc];exact h.lst,h.la,by rw[QF];exact h.lc,λi b kv e1 e2=>?_,λi kv e=>?_,h.inj,λi kv e=>?_⟩
 ·rw[Qx]at e2
  by_cases z:j=i
  ·subst z
   rw[ea]at e1
   cases e1
   rw[if_pos rfl]at e2
   split at e2
   ·cases e2;exact af
   ·cases e2
  ·rw[if_neg z]at e2
   rw[ac λy=>z (h.inj j i c ea (by rw[←y];exact e1))]
   exact h.cell i b kv e1 e2
 ·rw[Qx]at e
  by_cases z:j=i
  ·rw[if_pos z]at e
   split at e
   ·cases e;exact nd
   ·cases e
  ·rw[if_neg z]at e
   exact h.ndk i kv e
 ·rw[Qx]at e
  by_cases z:j=i
  ·subst z
   rw[if_pos rfl]at e
   split at e
   ·cases e;exact hm
   ·cases e
  ·rw[if_neg z]at e
   exact h.home i kv e
def SlF (a:Addr) (st:SSt) (d:SlD):Addr→Prop:=λb=>b=a∨b=d.tb∨b=d.r0∨b∈d.A0∨(st.nxt.isSome=true∧b=d.r1)∨b∈d.A1
def IsCell (d:SlD) (st:SSt) (k:Int) (c:Addr) (kv:List (Int×V)):Prop:=
 (st.moved≤k%65536%st.size∧d.A0[(k%65536%st.size).toNat]?=some c∧d.C0[(k%65536%st.size).toNat]?=some kv)∨
 (∃m,st.nxt=some m∧k%65536%st.size<st.moved∧d.A1[(k%65536%m).toNat]?=some c∧d.C1[(k%65536%m).toNat]?=some kv)
structure SzOk (st:SSt):Prop where
 pw:st.size∈([4,8,16,32,64,128,256]:List Int)
 nx:∀m,st.nxt=some m→m∈([4,8,16,32,64,128,256]:List Int)∧0≤st.mv∧st.mv<st.size∧(m=2*st.size∨2*m=st.size)
theorem ig {x:Int} (h:x∈([4,8,16,32,64,128,256]:List Int)):x=4∨x=8∨x=16∨x=32∨x=64∨x=128∨x=256:=by simpa using h
theorem bu {x:Int} (h:x∈([4,8,16,32,64,128,256]:List Int)):4≤x∧x≤256:=by
 rcases ig h with h|h|h|h|h|h|h<;>omega
structure SlB (t:Adr) (H:Hp) (a:Addr) (st:SSt) (d:SlD):Prop where
 obj:∃dx,H a=some (.ins t.aQ dx (slF d.tb st.moved d.n))
 tbl:H d.tb=some (.lst (match st.nxt with|none=> [.ref d.r0]|some _=> [.ref d.r0,.ref d.r1]))
 row0:RowOk H d.r0 d.A0 d.C0 st.size
 row1:match st.nxt with|none=>d.A1=[]∧d.C1=[]|some m=>RowOk H d.r1 d.A1 d.C1 m
 dis:∀b,b∈d.A0→b∉d.A1
 tr:d.tb≠d.r0
 tr1:st.nxt.isSome=true→d.tb≠d.r1∧d.r0≠d.r1
 old:∀(j:Nat) (kv:List (Int×V)),d.C0[j]?=some kv→(j:Int)<st.moved→kv=[]
 new:∀(j:Nat) (kv:List (Int×V)),d.C1[j]?=some kv→∀p∈kv,p.1%65536%st.size<st.moved
 val:∀(k:Int) (c:Addr) (kv:List (Int×V)),IsCell d st k c kv→aI kv k=aI st.kv k
section
variable {t:Adr} {H H':Hp} {a b:Addr} {st:SSt} {d:SlD}
theorem SlB.frame (h:SlB t H a st d) (f:∀b,SlF a st d b→H' b=H b):SlB t H' a st d:=by
 obtain⟨dx,ho⟩:=h.obj
 refine⟨⟨dx,by rw[f a (.inl rfl)];exact ho⟩,by rw[f d.tb (.inr (.inl rfl))];exact h.tbl,h.row0.frame λb hb=>f b ?_,?_,h.dis,h.tr,h.tr1,h.old,h.new,h.val⟩
 ·rcases hb with hb|hb
  ·exact .inr (.inr (.inl hb))
  ·exact .inr (.inr (.inr (.inl hb)))
 ·have r1:=h.row1
  have ff:=f
  unfold SlF at ff
  cases e:st.nxt with
  |none=>rw[e]at r1;exact r1
  |some m=>
   rw[e]at r1
   refine RowOk.frame (H:=H) r1 λb hb=>f b ?_
   unfold SlF
   rw[e]
   rcases hb with hb|hb
   ·exact .inr (.inr (.inr (.inr (.inl ⟨rfl,hb⟩))))
   ·exact .inr (.inr (.inr (.inr (.inr hb))))
theorem SlB.dom (h:SlB t H a st d) (hb:SlF a st d b):∃o,H b=some o:=by
 obtain⟨dx,ho⟩:=h.obj
 rcases hb with rfl|rfl|rfl|hb|⟨hs,rfl⟩|hb
 ·exact⟨_,ho⟩
 ·exact⟨_,h.tbl⟩
 ·exact⟨_,h.row0.lst⟩
 ·obtain⟨_,_,_,_,q⟩:=h.row0.has hb;exact⟨_,q⟩
 ·have r1:=h.row1
  cases e:st.nxt with
  |none=>rw[e]at hs;cases hs
  |some m=>rw[e]at r1;exact⟨_,r1.lst⟩
 ·have r1:=h.row1
  cases e:st.nxt with
  |none=>rw[e]at r1;rw[r1.1]at hb;cases hb
  |some m=>rw[e]at r1;obtain⟨_,_,_,_,q⟩:=r1.has hb;exact⟨_,q⟩
theorem SlB.at (h:SlB t H a st d) {k:Int} {c:Addr} {kv:List (Int×V)} (ic:IsCell d st k c kv):H c=some (.dK (aE kv))∧SlF a st d c∧(kv.map (·.1)).Nodup:=by
 rcases ic with⟨_,e1,e2⟩|⟨m,em,_,e1,e2⟩
 ·exact⟨h.row0.cell _ _ _ e1 e2,.inr (.inr (.inr (.inl (Q3 e1)))),h.row0.ndk _ _ e2⟩
 ·have r1:=h.row1
  rw[em]at r1
  exact⟨r1.cell _ _ _ e1 e2,.inr (.inr (.inr (.inr (.inr (Q3 e1))))),r1.ndk _ _ e2⟩
theorem lT {k m:Int} (hm:4≤m):0≤k%65536%m∧k%65536%m<m∧((k%65536%m).toNat:Int)=k%65536%m:=by
 have h1:=Qs (k%65536) (show m≠0 by omega)
 have h2:=Qv (k%65536) (show 0<m by omega)
 exact⟨h1,h2,Xw h1⟩
theorem b6 {α:Type} {l:List α} {z:Int} (h0:0≤z) (h1:z<(l.length:Int)):∃x,l[z.toNat]?=some x:=⟨l[z.toNat]'(by omega),Q5 (by omega)⟩
theorem SlB.cell (h:SlB t H a st d) (z:SzOk st) (k:Int):∃c kv,IsCell d st k c kv:=by
 obtain⟨s4,_⟩:=bu z.pw
 obtain⟨m0,m1,m2⟩:=lT (k:=k) s4
 by_cases c:st.moved≤k%65536%st.size
 ·obtain⟨x,e1⟩:=b6 (l:=d.A0) m0 (by rw[h.row0.la];exact m1)
  obtain⟨y,e2⟩:=b6 (l:=d.C0) m0 (by rw[h.row0.lc];exact m1)
  exact⟨x,y,.inl ⟨c,e1,e2⟩⟩
 ·cases e:st.nxt with
  |none=>
   exfalso
   have:st.moved=0:=by unfold SSt.moved;rw[e]
   omega
  |some m=>
   obtain⟨pm,_⟩:=z.nx m e
   obtain⟨s5,_⟩:=bu pm
   obtain⟨n0,n1,n2⟩:=lT (k:=k) s5
   have r1:=h.row1
   rw[e]at r1
   obtain⟨x,e1⟩:=b6 (l:=d.A1) n0 (by rw[r1.la];exact n1)
   obtain⟨y,e2⟩:=b6 (l:=d.C1) n0 (by rw[r1.lc];exact n1)
   exact⟨x,y,.inr ⟨m,e,by omega,e1,e2⟩⟩
theorem IsCell.uniq {k:Int} {c c':Addr} {kv kv':List (Int×V)} (x:IsCell d st k c kv) (y:IsCell d st k c' kv'):c=c'∧kv=kv':=by
 rcases x with⟨h0,e1,e2⟩|⟨m,em,h0,e1,e2⟩<;>rcases y with⟨g0,f1,f2⟩|⟨m',em',g0,f1,f2⟩
 ·rw[e1]at f1;rw[e2]at f2;cases f1;cases f2;exact⟨rfl,rfl⟩
 ·omega
 ·omega
 ·rw[em]at em';cases em';rw[e1]at f1;rw[e2]at f2;cases f1;cases f2;exact⟨rfl,rfl⟩
theorem SlB.setN (h:SlB t H a st d) {dx:Addr} {n:Int}:SlB t (upd H a (.ins t.aQ dx (slF d.tb st.moved n))) a st {d with n:=n}:=by
 obtain⟨dy,ho⟩:=h.obj
 have n1:d.tb≠a:=bQ h.tbl ho (by intro z;cases z)
 refine⟨⟨dx,af⟩,by show upd H a _ d.tb=_;rw[ac n1];exact h.tbl,h.row0.frame λb hb=>ac ?_,?_,h.dis,h.tr,h.tr1,h.old,h.new,h.val⟩
 ·rcases hb with rfl|hb
  ·exact bQ h.row0.lst ho (by intro z;cases z)
  ·exact h.row0.notr hb ho (λ_ z=>by cases z)
 ·have r1:=h.row1
  cases e:st.nxt with
  |none=>rw[e]at r1;exact r1
  |some m=>
   rw[e]at r1
   refine RowOk.frame (H:=H) r1 λb hb=>ac ?_
   rcases hb with rfl|hb
   ·exact bQ r1.lst ho (by intro z;cases z)
   ·exact r1.notr hb ho (λ_ z=>by cases z)
theorem SlB.setCell (h:SlB t H a st d) (z:SzOk st) {k:Int} {c:Addr} {kv kv' kvs:List (Int×V)} (ic:IsCell d st k c kv) (nd:(kv'.map (·.1)).Nodup) (hm:∀p∈kv',p∈kv∨p.1=k)
  (hk:aI kv' k=aI kvs k) (ho:∀j,j≠k→aI kv' j=aI kv j∧aI kvs j=aI st.kv j):
  ∃d',SlB t (upd H c (.dK (aE kv'))) a {st with kv:=kvs} d'∧d'.n=d.n∧∀b,SlF a {st with kv:=kvs} d' b↔SlF a st d b:=by
 obtain⟨hc,hf,_⟩:=h.at ic
 obtain⟨dx,hob⟩:=h.obj
 obtain⟨s4,_⟩:=bu z.pw
 obtain⟨m0,m1,m2⟩:=lT (k:=k) s4
 have na:a≠c:=bQ hob hc (by intro z;cases z)
 have nt:d.tb≠c:=bQ h.tbl hc (by intro z;cases z)
 have nr:d.r0≠c:=bQ h.row0.lst hc (by intro z;cases z)
 have vals:∀(d':SlD) (j:Int) (b:Addr) (x:List (Int×V)),IsCell d' {st with kv:=kvs} j b x→(∀y,IsCell d st j b y→(x=y∧b≠c)∨(x=kv'∧y=kv))→(∃y,IsCell d st j b y)→aI x j=aI kvs j:=λd' j b x hx f ⟨y,hy⟩=>by
  by_cases e:j=k
  ·subst e
   obtain⟨rfl,rfl⟩:=IsCell.uniq hy ic
   rcases f y hy with⟨_,z⟩|⟨rfl,_⟩
   ·exact absurd rfl z
   ·exact hk
  ·rw[(ho j e).2]
   rcases f y hy with⟨rfl,_⟩|⟨rfl,rfl⟩
   ·exact h.val j b x hy
   ·rw[(ho j e).1];exact h.val j b y hy
 rcases ic with⟨h0,e1,e2⟩|⟨m,em,h0,e1,e2⟩
 ·have hin:c∈d.A0:=Q3 e1
  have hmem:∀p∈kv',p.1%65536%st.size=((k%65536%st.size).toNat:Int):=λp hp=>by
   rcases hm p hp with q|q
   ·exact h.row0.home _ _ e2 p q
   ·rw[q,m2]
  refine⟨{d with C0:=d.C0.set (k%65536%st.size).toNat kv'},⟨⟨dx,by rw[ac na];exact hob⟩,by show upd H c _ d.tb=_;rw[ac nt];exact h.tbl,h.row0.set e1 nd hmem,?_,h.dis,h.tr,h.tr1,λj x e lt=>?_,h.new,λj b x hx=>?_⟩,rfl,λb=>Iff.rfl⟩
  ·have r1:=h.row1
   show match st.nxt with|none=>_|some m=>_
   cases e:st.nxt with
   |none=>rw[e]at r1;exact r1
   |some m=>
    rw[e]at r1
    refine RowOk.frame (H:=H) r1 λb hb=>ac ?_
    rcases hb with rfl|hb
    ·exact bQ r1.lst hc (by intro z;cases z)
    ·exact λy=>h.dis c hin (y▸hb)
  ·have e:(d.C0.set (k%65536%st.size).toNat kv')[j]?=some x:=e
   have lt:(j:Int)<st.moved:=lt
   rw[Qx]at e
   by_cases q:(k%65536%st.size).toNat=j
   ·exfalso;omega
   ·rw[if_neg q]at e;exact h.old j x e lt
  ·refine vals _ j b x hx (λy hy=>?_) ?_
   ·rcases hx with⟨g0,f1,f2⟩|⟨m',em',g0,f1,f2⟩
    ·have f2:(d.C0.set (k%65536%st.size).toNat kv')[(j%65536%st.size).toNat]?=some x:=f2
     have f1:d.A0[(j%65536%st.size).toNat]?=some b:=f1
     have g0:st.moved≤j%65536%st.size:=g0
     rcases hy with⟨_,y1,y2⟩|⟨_,_,y0,_,_⟩
     ·rw[Qx]at f2
      by_cases q:(k%65536%st.size).toNat=(j%65536%st.size).toNat
      ·rw[if_pos q]at f2
       split at f2
       ·cases f2
        rw[←q,e2]at y2
        cases y2
        exact .inr ⟨rfl,rfl⟩
       ·cases f2
      ·rw[if_neg q,y2]at f2
       cases f2
       exact .inl ⟨rfl,λw=>q (h.row0.inj _ _ c e1 (by rw[←w];exact f1))⟩
     ·omega
    ·have f1:d.A1[(j%65536%m').toNat]?=some b:=f1
     have f2:d.C1[(j%65536%m').toNat]?=some x:=f2
     have g0:j%65536%st.size<st.moved:=g0
     have em':st.nxt=some m':=em'
     rcases hy with⟨y0,_,_⟩|⟨m2,e3,y0,y1,y2⟩
     ·omega
     ·rw[em']at e3;cases e3
      rw[f2]at y2;cases y2
      exact .inl ⟨rfl,λw=>h.dis c hin (w▸Q3 f1)⟩
   ·obtain⟨b',y,hy⟩:=h.cell z j
    have:b'=b:=by
     rcases hx with⟨g0,f1,f2⟩|⟨m',em',g0,f1,f2⟩<;>rcases hy with⟨y0,y1,y2⟩|⟨m3,e3,y0,y1,y2⟩
     ·have f1:d.A0[(j%65536%st.size).toNat]?=some b:=f1
      rw[y1]at f1;exact Option.some.inj f1
     ·have g0:st.moved≤j%65536%st.size:=g0
      omega
     ·have g0:j%65536%st.size<st.moved:=g0
      omega
     ·have em':st.nxt=some m':=em'
      rw[em']at e3;cases e3
      have f1:d.A1[(j%65536%m').toNat]?=some b:=f1
      rw[y1]at f1;exact Option.some.inj f1
    subst this
    exact⟨y,hy⟩
 ·have r1:=h.row1
  rw[em]at r1
  have hin:c∈d.A1:=Q3 e1
  obtain⟨pm,_⟩:=z.nx m em
  obtain⟨s5,_⟩:=bu pm
  obtain⟨n0,n1,n2⟩:=lT (k:=k) s5
  have hmem:∀p∈kv',p.1%65536%m=((k%65536%m).toNat:Int):=λp hp=>by
   rcases hm p hp with q|q
   ·exact r1.home _ _ e2 p q
   ·rw[q,n2]
  refine⟨{d with C1:=d.C1.set (k%65536%m).toNat kv'},⟨⟨dx,by rw[ac na];exact hob⟩,by show upd H c _ d.tb=_;rw[ac nt];exact h.tbl,h.row0.frame λb hb=>ac ?_,?_,h.dis,h.tr,h.tr1,h.old,λj x e p hp=>?_,λj b x hx=>?_⟩,rfl,λb=>Iff.rfl⟩
  ·rcases hb with rfl|hb
   ·exact nr
   ·exact λy=>h.dis b hb (y▸hin)
  ·show match st.nxt with|none=>_|some m=>_
   rw[em]
   exact r1.set e1 nd hmem
  ·have e:(d.C1.set (k%65536%m).toNat kv')[j]?=some x:=e
   show p.1%65536%st.size<st.moved
   rw[Qx]at e
   by_cases q:(k%65536%m).toNat=j
   ·rw[if_pos q]at e
    split at e
    ·cases e
     rcases hm p hp with q|q
     ·exact h.new _ _ e2 p q
     ·rw[q];exact h0
    ·cases e
   ·rw[if_neg q]at e;exact h.new j x e p hp
  ·refine vals _ j b x hx (λy hy=>?_) ?_
   ·rcases hx with⟨g0,f1,f2⟩|⟨m',em',g0,f1,f2⟩
    ·have f1:d.A0[(j%65536%st.size).toNat]?=some b:=f1
     have f2:d.C0[(j%65536%st.size).toNat]?=some x:=f2
     have g0:st.moved≤j%65536%st.size:=g0
     rcases hy with⟨_,y1,y2⟩|⟨_,_,y0,_,_⟩
     ·rw[f2]at y2;cases y2
      exact .inl ⟨rfl,λw=>h.dis b (Q3 f1) (w▸hin)⟩
     ·omega
    ·have em':st.nxt=some m':=em'
     rw[em]at em'
     cases em'
     have f2:(d.C1.set (k%65536%m).toNat kv')[(j%65536%m).toNat]?=some x:=f2
     have f1:d.A1[(j%65536%m).toNat]?=some b:=f1
     have g0:j%65536%st.size<st.moved:=g0
     rcases hy with⟨y0,_,_⟩|⟨m2,e3,y0,y1,y2⟩
     ·omega
     ·rw[em]at e3;cases e3
      rw[Qx]at f2
      by_cases q:(k%65536%m).toNat=(j%65536%m).toNat
      ·rw[if_pos q]at f2
       split at f2
       ·cases f2
        rw[←q,e2]at y2
        cases y2
        exact .inr ⟨rfl,rfl⟩
       ·cases f2
      ·rw[if_neg q,y2]at f2
       cases f2
       exact .inl ⟨rfl,λw=>q (r1.inj _ _ c e1 (by rw[←w];exact f1))⟩
   ·obtain⟨b',y,hy⟩:=h.cell z j
    have:b'=b:=by
     rcases hx with⟨g0,f1,f2⟩|⟨m',em',g0,f1,f2⟩<;>rcases hy with⟨y0,y1,y2⟩|⟨m3,e3,y0,y1,y2⟩
     ·have f1:d.A0[(j%65536%st.size).toNat]?=some b:=f1
      rw[y1]at f1;exact Option.some.inj f1
     ·have g0:st.moved≤j%65536%st.size:=g0
      omega
     ·have g0:j%65536%st.size<st.moved:=g0
      omega
     ·have em':st.nxt=some m':=em'
      rw[em']at e3;cases e3
      have f1:d.A1[(j%65536%m').toNat]?=some b:=f1
      rw[y1]at f1;exact Option.some.inj f1
    subst this
    exact⟨y,hy⟩
end
theorem pc {kv:List (Int×V)} {k:Int} {v:V} {p:Int×V} (h:p∈bg kv k v):p∈kv∨p.1=k:=by
 unfold bg at h
 split at h
 ·obtain⟨q,hq,e⟩:=Qb.mp h
  by_cases z:q.1=k
  ·rw[if_pos z]at e;rw[←e];exact .inr z
  ·rw[if_neg z]at e;rw[←e];exact .inl hq
 ·rcases Q7.mp h with h|h
  ·exact .inl h
  ·rw[Qd.mp h];exact .inr rfl
theorem Bx {kv:List (Int×V)} {p:Int×V} (h:p∈kv):(aI kv p.1).isSome=true:=mem_keys.mp (Qb.mpr ⟨p,h,rfl⟩)
def dz (m:Int) (C:List (List (Int×V))) (p:Int×V):List (List (Int×V)):=C.set (p.1%65536%m).toNat (bg (C.getD (p.1%65536%m).toNat []) p.1 p.2)
theorem y6 {m:Int} {C:List (List (Int×V))} {p:Int×V}:(dz m C p).length=C.length:=QF
theorem wu {m:Int}:∀{kv:List (Int×V)} {C:List (List (Int×V))},(kv.foldl (dz m) C).length=C.length
 | [],_=>rfl
 |p::r,C=>by rw[List.foldl_cons,wu,y6]
theorem uh {m:Int} {C:List (List (Int×V))} {p:Int×V} {j:Nat} {y:List (Int×V)} (e:C[j]?=some y):(dz m C p)[j]?=some (if(p.1%65536%m).toNat=j then bg y p.1 p.2 else y):=by
 unfold dz
 rw[Qx]
 by_cases z:(p.1%65536%m).toNat=j
 ·have hj:j<C.length:=(Q4.mp e).1
  rw[if_pos z,if_pos z,if_pos (by rw[z];exact hj),Qn,z,e]
  rfl
 ·rw[if_neg z,if_neg z,e]
theorem sM {m:Int}:∀{kv:List (Int×V)} {C:List (List (Int×V))} {j:Nat} {y:List (Int×V)},(kv.map (·.1)).Nodup→C[j]?=some y→∃x,(kv.foldl (dz m) C)[j]?=some x∧
  (∀p∈x,p∈y∨p.1∈kv.map (·.1))∧∀k,aI x k=if(k%65536%m).toNat=j then(aI kv k).or (aI y k)else aI y k
 | [],C,j,y,_,e=>⟨y,e,λp hp=> .inl hp,λk=>by rw[gg];simp⟩
 |p::r,C,j,y,nd,e=>by
  obtain⟨n1,n2⟩:=QE.mp (show(p.1::r.map (·.1)).Nodup from nd)
  obtain⟨x,h1,h2,h3⟩:=sM (m:=m) n2 (uh (m:=m) (p:=p) e)
  refine⟨x,h1,λq hq=>?_,λk=>?_⟩
  ·rcases h2 q hq with z|z
   ·split at z
    ·rcases pc z with z|z
     ·exact .inl z
     ·exact .inr (Qb.mpr ⟨p,Q8,z.symm⟩)
    ·exact .inl z
   ·exact .inr (Qa _ z)
  ·rw[h3 k]
   by_cases z:(k%65536%m).toNat=j
   ·rw[if_pos z,if_pos z]
    by_cases w:p.1=k
    ·subst w
     have:aI r p.1=none:=by
      cases q:aI r p.1 with
      |none=>rfl
      |some v=>exact absurd (mU q) n1
     rw[this,aZ rfl,if_pos z,dN,if_pos rfl]
     rfl
    ·rw[aW w]
     congr 1
     split
     ·rw[dN,if_neg (Ne.symm w)]
     ·rfl
   ·rw[if_neg z,if_neg z]
    split
    ·rename_i w
     rw[dN,if_neg (λy=>z (by rw[y];exact w))]
    ·rfl
theorem RowOk.mov {H:Hp} {r c:Addr} {A:List Addr} {C:List (List (Int×V))} {sz k:Int} {v:V} {y:List (Int×V)} (h:RowOk H r A C sz) (s4:4≤sz) (ea:A[(k%65536%sz).toNat]?=some c) (ey:C[(k%65536%sz).toNat]?=some y):
  RowOk (upd H c (.dK (aE (bg y k v)))) r A (dz sz C (k,v)) sz:=by
 have e:dz sz C (k,v)=C.set (k%65536%sz).toNat (bg y k v):=by
  unfold dz
  rw[Qn]
  show C.set (k%65536%sz).toNat (bg (C[(k%65536%sz).toNat]?.getD []) k v)=_
  rw[ey]
  rfl
 rw[e]
 obtain⟨m0,m1,m2⟩:=lT (k:=k) s4
 refine h.set ea (sL (h.ndk _ _ ey)) λp hp=>?_
 rcases pc hp with z|z
 ·exact h.home _ _ ey p z
 ·rw[z,m2]
section
variable {t:Adr} {H H':Hp} {a:Addr} {st:SSt} {d:SlD}
theorem SSt.moved_some {st:SSt} {m:Int} (e:st.nxt=some m):st.moved=st.mv:=by unfold SSt.moved;rw[e]
theorem SSt.moved_none {st:SSt} (e:st.nxt=none):st.moved=0:=by unfold SSt.moved;rw[e]
theorem SlB.movVal (h:SlB t H a st d) (z:SzOk st) {m:Int} (em:st.nxt=some m) {kv:List (Int×V)} (ek:d.C0[st.mv.toNat]?=some kv) {k:Int} (hk:k%65536%st.size≤st.mv) {x:List (Int×V)}
  (ex:(kv.foldl (dz m) d.C1)[(k%65536%m).toNat]?=some x):aI x k=aI st.kv k:=by
 obtain⟨pm,v0,v1,_⟩:=z.nx m em
 obtain⟨s4,_⟩:=bu z.pw
 obtain⟨s5,_⟩:=bu pm
 have r1:=h.row1
 rw[em]at r1
 obtain⟨n0,n1,n2⟩:=lT (k:=k) s5
 obtain⟨m0,m1,m2⟩:=lT (k:=k) s4
 obtain⟨y,ey⟩:=b6 (l:=d.C1) n0 (by rw[r1.lc];exact n1)
 obtain⟨c1,ec1⟩:=b6 (l:=d.A1) n0 (by rw[r1.la];exact n1)
 obtain⟨x',e',_,hv⟩:=sM (m:=m) (h.row0.ndk _ _ ek) ey
 rw[ex]at e'
 cases e'
 rw[hv k,if_pos rfl]
 have hm:=SSt.moved_some em
 by_cases c:k%65536%st.size=st.mv
 ·obtain⟨b0,eb0⟩:=b6 (l:=d.A0) m0 (by rw[h.row0.la];exact m1)
  have ic:IsCell d st k b0 kv:= .inl ⟨by omega,eb0,by rw[c];exact ek⟩
  have yn:aI y k=none:=by
   cases q:aI y k with
   |none=>rfl
   |some v=>
    obtain⟨p,hp,e⟩:=Qb.mp (mU q)
    have:=h.new _ _ ey p hp
    rw[e]at this
    omega
  rw[h.val k b0 kv ic,yn]
  simp
 ·have ic:IsCell d st k c1 y:= .inr ⟨m,em,by omega,ec1,ey⟩
  have kn:aI kv k=none:=by
   cases q:aI kv k with
   |none=>rfl
   |some v=>
    obtain⟨p,hp,e⟩:=Qb.mp (mU q)
    have:=h.row0.home _ _ ek p hp
    rw[e]at this
    omega
  rw[kn,h.val k c1 y ic]
  rfl
theorem cj {α:Type} {l:List α} {i j:Nat} {x y:α} (e:(l.set i x)[j]?=some y):(i=j∧y=x)∨(i≠j∧l[j]?=some y):=by
 rw[Qx]at e
 by_cases z:i=j
 ·rw[if_pos z]at e
  split at e
  ·cases e;exact .inl ⟨z,rfl⟩
  ·cases e
 ·rw[if_neg z]at e
  exact .inr ⟨z,e⟩
theorem SlB.one (h:SlB t H a st d) (z:SzOk st) {m:Int} (em:st.nxt=some m) {kv:List (Int×V)} (ek:d.C0[st.mv.toNat]?=some kv) {b' dx:Addr} (nl:st.mv+1≠st.size)
  (ha:H' a=some (.ins t.aQ dx (slF d.tb (st.mv+1) d.n))) (ht:H' d.tb=H d.tb) (h0:H' d.r0=some (.lst ((d.A0.set st.mv.toNat b').map V.ref))) (hb:H' b'=some (.dK [])) (hF:¬SlF a st d b')
  (hA:∀(j:Nat) b,d.A0[j]?=some b→j≠st.mv.toNat→H' b=H b) (hr:RowOk H' d.r1 d.A1 (kv.foldl (dz m) d.C1) m):
  SlB t H' a st.one {d with A0:=d.A0.set st.mv.toNat b',C0:=d.C0.set st.mv.toNat [],C1:=kv.foldl (dz m) d.C1}:=by
 obtain⟨pm,v0,v1,_⟩:=z.nx m em
 have hone:st.one={st with mv:=st.mv+1}:=by unfold SSt.one;rw[em];exact if_neg nl
 have hmv:({st with mv:=st.mv+1}:SSt).moved=st.mv+1:=SSt.moved_some (st:={st with mv:=st.mv+1}) em
 have hm:=SSt.moved_some em
 have nA0:b'∉d.A0:=λq=>hF (.inr (.inr (.inr (.inl q))))
 have nA1:b'∉d.A1:=λq=>hF (.inr (.inr (.inr (.inr (.inr q)))))
 rw[hone]
 have r1:=h.row1
 rw[em]at r1
 refine⟨⟨dx,by rw[hmv];exact ha⟩,by rw[ht];exact h.tbl,⟨h0,by rw[QF];exact h.row0.la,by rw[QF];exact h.row0.lc,λj b x e1 e2=>?_,λj x e=>?_,λi j b e1 e2=>?_,λj x e p hp=>?_⟩,?_,λb hb0 hb1=>?_,h.tr,h.tr1,λj x e lt=>?_,λj x e p hp=>?_,λk c x ic=>?_⟩
 ·rcases cj e1 with⟨q,rfl⟩|⟨q,e1⟩
  ·rcases cj e2 with⟨_,rfl⟩|⟨q2,_⟩
   ·exact hb
   ·exact absurd q q2
  ·rcases cj e2 with⟨q2,_⟩|⟨_,e2⟩
   ·exact absurd q2 q
   ·rw[hA j b e1 (Ne.symm q)];exact h.row0.cell j b x e1 e2
 ·rcases cj e with⟨_,rfl⟩|⟨_,e⟩
  ·exact Zi
  ·exact h.row0.ndk j x e
 ·have e1:(d.A0.set st.mv.toNat b')[i]?=some b:=e1
  have e2:(d.A0.set st.mv.toNat b')[j]?=some b:=e2
  rcases cj e1 with⟨q,y1⟩|⟨q,f1⟩<;>rcases cj e2 with⟨q2,y2⟩|⟨q2,f2⟩
  ·exact q.symm.trans q2
  ·rw[y1]at f2;exact absurd (Q3 f2) nA0
  ·rw[y2]at f1;exact absurd (Q3 f1) nA0
  ·exact h.row0.inj i j b f1 f2
 ·rcases cj e with⟨_,rfl⟩|⟨_,e⟩
  ·cases hp
  ·exact h.row0.home j x e p hp
 ·show match st.nxt with|none=>_|some m=>_
  rw[em]
  exact hr
 ·obtain⟨j,hj,e⟩:=QD (show b∈d.A0.set st.mv.toNat b' from hb0)
  rcases cj (Q4.mpr ⟨hj,e⟩)with⟨_,rfl⟩|⟨_,e⟩
  ·exact nA1 hb1
  ·exact h.dis b (Q3 e) hb1
 ·rw[hmv]at lt
  rcases cj e with⟨_,rfl⟩|⟨q,e⟩
  ·rfl
  ·exact h.old j x e (by omega)
 ·rw[hmv]
  show p.1%65536%st.size<st.mv+1
  obtain⟨y,ey⟩:∃y,d.C1[j]?=some y:=by
   have hj:j<(kv.foldl (dz m) d.C1).length:=(Q4.mp e).1
   rw[wu]at hj
   exact⟨_,Q5 hj⟩
  obtain⟨x',e',hp',_⟩:=sM (m:=m) (h.row0.ndk _ _ ek) ey
  have e:(kv.foldl (dz m) d.C1)[j]?=some x:=e
  rw[e]at e'
  cases e'
  rcases hp' p hp with q|q
  ·have:=h.new j y ey p q
   omega
  ·obtain⟨p',hp',e3⟩:=Qb.mp q
   have:=h.row0.home _ _ ek p' hp'
   rw[e3]at this
   omega
 ·show aI x k=aI st.kv k
  rcases ic with⟨g0,f1,f2⟩|⟨m',em',g0,f1,f2⟩
  ·rw[hmv]at g0
   have g0:st.mv+1≤k%65536%st.size:=g0
   have f1:(d.A0.set st.mv.toNat b')[(k%65536%st.size).toNat]?=some c:=f1
   have f2:(d.C0.set st.mv.toNat [])[(k%65536%st.size).toNat]?=some x:=f2
   rcases cj f1 with⟨q,_⟩|⟨_,f1⟩
   ·omega
   ·rcases cj f2 with⟨q,_⟩|⟨_,f2⟩
    ·omega
    ·exact h.val k c x (.inl ⟨by omega,f1,f2⟩)
  ·rw[hmv]at g0
   have em':st.nxt=some m':=em'
   rw[em]at em'
   cases em'
   have g0:k%65536%st.size<st.mv+1:=g0
   exact h.movVal z em ek (by omega) f2
theorem SlB.last (h:SlB t H a st d) (z:SzOk st) {m:Int} (em:st.nxt=some m) {kv:List (Int×V)} (ek:d.C0[st.mv.toNat]?=some kv) {tb' dx:Addr} (l:st.mv+1=st.size)
  (ha:H' a=some (.ins t.aQ dx (slF tb' 0 d.n))) (ht:H' tb'=some (.lst [.ref d.r1])) (hn:tb'≠d.r1) (hr:RowOk H' d.r1 d.A1 (kv.foldl (dz m) d.C1) m):
  SlB t H' a st.one ⟨tb',d.r1,d.r1,d.A1,[],kv.foldl (dz m) d.C1,[],d.n⟩:=by
 have hone:st.one={st with size:=m,nxt:=none,mv:=0}:=by unfold SSt.one;rw[em];exact if_pos l
 obtain⟨s4,_⟩:=bu z.pw
 rw[hone]
 refine⟨⟨dx,ha⟩,ht,hr,⟨rfl,rfl⟩,(λb _ q=>by cases q),hn,(λq=>by cases q),λj x e lt=>?_,(λj x e=>by simp at e),λk c x ic=>?_⟩
 ·have lt:(j:Int)<0:=lt
  omega
 ·rcases ic with⟨g0,f1,f2⟩|⟨m',em',_⟩
  ·have f2:(kv.foldl (dz m) d.C1)[(k%65536%m).toNat]?=some x:=f2
   obtain⟨m0,m1,m2⟩:=lT (k:=k) s4
   exact h.movVal z em ek (by omega) f2
  ·cases em'
theorem SlB.begin (h:SlB t H a st d) (en:st.nxt=none) {m:Int} {r:Addr} {A:List Addr} (ha:H' a=H a) (ht:H' d.tb=some (.lst [.ref d.r0,.ref r])) (h0:∀b,b=d.r0∨b∈d.A0→H' b=H b)
  (hr:RowOk H' r A (List.replicate m.toNat []) m) (nr:¬SlF a st d r) (nA:∀b∈A,¬SlF a st d b):SlB t H' a {st with nxt:=some m,mv:=0} {d with r1:=r,A1:=A,C1:=List.replicate m.toNat []}:=by
 obtain⟨dx,ho⟩:=h.obj
 have hm:=SSt.moved_none en
 refine⟨⟨dx,by rw[ha];rw[hm]at ho;exact ho⟩,ht,h.row0.frame h0,hr,λb q q2=>nA b q2 (.inr (.inr (.inr (.inl q)))),h.tr,λ_=>⟨λq=>nr (.inr (.inl q.symm)),λq=>nr (.inr (.inr (.inl q.symm)))⟩,λj x e lt=>?_,λj x e p hp=>?_,λk c x ic=>?_⟩
 ·have lt:(j:Int)<0:=lt
  omega
 ·have:=Zs (Q3 e)
  subst this
  cases hp
 ·rcases ic with⟨g0,f1,f2⟩|⟨m',em',g0,f1,f2⟩
  ·refine h.val k c x (.inl ⟨?_,f1,f2⟩)
   rw[hm]
   exact g0
  ·have g0:k%65536%st.size<0:=g0
   have f2:(List.replicate m.toNat ([]:List (Int×V)))[(k%65536%m').toNat]?=some x:=f2
   have:0≤k%65536%st.size:=by
    have hpos:(0:Int)≤st.size:=by rw[←h.row0.la];omega
    rcases Int.lt_or_eq_of_le hpos with q|q
    ·exact Qs _ (by omega)
    ·rw[←q,Int.emod_zero];exact Qs _ (by decide)
   omega
theorem SlB.fresh {dx tb r:Addr} {A:List Addr} (ha:H a=some (.ins t.aQ dx (slF tb 0 0))) (ht:H tb=some (.lst [.ref r])) (hr:RowOk H r A (List.replicate 4 []) 4) (n:tb≠r):SlB t H a SSt.new ⟨tb,r,r,A,[],List.replicate 4 [],[],0⟩:=by
 refine⟨⟨dx,ha⟩,ht,hr,⟨rfl,rfl⟩,(λb _ q=>by cases q),n,(λq=>by cases q),λj x e lt=>?_,(λj x e=>by simp at e),λk c x ic=>?_⟩
 ·have lt:(j:Int)<0:=lt
  omega
 ·rcases ic with⟨g0,f1,f2⟩|⟨m',em',_⟩
  ·have f2:(List.replicate 4 ([]:List (Int×V)))[(k%65536%4).toNat]?=some x:=f2
   have:=Zs (Q3 f2)
   subst this
   rfl
  ·cases em'
theorem SlB.short (h:SlB t H a st d) (z:SzOk st) {k:Int} {c:Addr} {kv:List (Int×V)} (ic:IsCell d st k c kv):kv.length≤st.kv.length:=by
 obtain⟨_,_,nd⟩:=h.at ic
 have sub:∀x∈kv.map (·.1),x∈st.kv.map (·.1):=λx hx=>by
  obtain⟨p,hp,e⟩:=Qb.mp hx
  subst e
  refine mem_keys.mpr ?_
  have hs:=Bx hp
  have:∃c',IsCell d st p.1 c' kv:=by
   rcases ic with⟨g0,f1,f2⟩|⟨m,em,g0,f1,f2⟩
   ·obtain⟨s4,_⟩:=bu z.pw
    obtain⟨m0,m1,m2⟩:=lT (k:=k) s4
    have e:=h.row0.home _ _ f2 p hp
    rw[m2]at e
    exact⟨c,.inl ⟨by rw[e];exact g0,by rw[e];exact f1,by rw[e];exact f2⟩⟩
   ·obtain⟨pm,_⟩:=z.nx m em
    obtain⟨s5,_⟩:=bu pm
    obtain⟨n0,n1,n2⟩:=lT (k:=k) s5
    have r1:=h.row1
    rw[em]at r1
    have e:=r1.home _ _ f2 p hp
    rw[n2]at e
    exact⟨c,.inr ⟨m,em,h.new _ _ f2 p hp,by rw[e];exact f1,by rw[e];exact f2⟩⟩
  obtain⟨c',ic'⟩:=this
  rw[←h.val p.1 c' kv ic']
  exact hs
 have:=kB nd sub
 rw[Q0,Q0]at this
 exact this
end
theorem ug {m:Int}:∀{kv:List (Int×V)} {C:List (List (Int×V))} {j:Nat} {x y:List (Int×V)},C[j]?=some y→(kv.foldl (dz m) C)[j]?=some x→x.length≤y.length+kv.length
 | [],C,j,x,y,e,f=>by
  have f:C[j]?=some x:=f
  rw[e]at f
  cases f
  exact Q6 _
 |p::r,C,j,x,y,e,f=>by
  have h:=ug (m:=m) (uh (m:=m) (p:=p) e) f
  have l:=bL y p.1 p.2
  rw[Qf]
  split at h<;>omega
section
variable {t:Adr} {H H':Hp} {a:Addr} {st:SSt} {d:SlD}
theorem SlB.short0 (h:SlB t H a st d) (z:SzOk st) {j:Nat} {kv:List (Int×V)} (e:d.C0[j]?=some kv):kv.length≤st.kv.length:=by
 cases kv with
 |nil=>exact Qh _
 |cons p r=>
  have hp:=h.row0.home j _ e p Q8
  have nj:¬(j:Int)<st.moved:=λq=>by have:=h.old j _ e q;cases this
  have ej:(p.1%65536%st.size).toNat=j:=by omega
  have hj:j<d.A0.length:=by
   have:=h.row0.la
   have:=h.row0.lc
   have:=(Q4.mp e).1
   omega
  exact h.short z (k:=p.1) (c:=d.A0[j]) (.inl ⟨by omega,by rw[ej];exact Q5 hj,by rw[ej];exact e⟩)
theorem SlB.short1 (h:SlB t H a st d) (z:SzOk st) {m:Int} (em:st.nxt=some m) {j:Nat} {kv:List (Int×V)} (e:d.C1[j]?=some kv):kv.length≤st.kv.length:=by
 have r1:=h.row1
 rw[em]at r1
 cases kv with
 |nil=>exact Qh _
 |cons p r=>
  have hp:=r1.home j _ e p Q8
  have nj:=h.new j _ e p Q8
  have ej:(p.1%65536%m).toNat=j:=by omega
  have hj:j<d.A1.length:=by
   have:=r1.la
   have:=r1.lc
   have:=(Q4.mp e).1
   omega
  exact h.short z (k:=p.1) (c:=d.A1[j]) (.inr ⟨m,em,nj,by rw[ej];exact Q5 hj,by rw[ej];exact e⟩)
end
theorem SzOk.new:SzOk SSt.new:=⟨by decide,λm e=>by cases e⟩
theorem SzOk.kv {st:SSt} {kvs:List (Int×V)} (z:SzOk st):SzOk {st with kv:=kvs}:=⟨z.pw,z.nx⟩
theorem SzOk.one {st:SSt} (z:SzOk st):SzOk st.one:=by
 unfold SSt.one
 cases e:st.nxt with
 |none=>exact z
 |some m=>
  obtain⟨pm,v0,v1,hh⟩:=z.nx m e
  show SzOk (if _ then _ else _)
  split
  ·exact⟨pm,λm' q=>by cases q⟩
  ·rename_i c
   refine⟨z.pw,λm' q=>?_⟩
   have q:some m=some m':=q
   cases q
   exact⟨pm,by show 0≤st.mv+1;omega,by show st.mv+1<st.size;omega,hh⟩
theorem D6 {x:Int} (h:x∈([4,8,16,32,64,128,256]:List Int)) (c:x<256):2*x∈([4,8,16,32,64,128,256]:List Int):=by
 rcases ig h with rfl|rfl|rfl|rfl|rfl|rfl|rfl<;>first|decide|exact absurd c (by decide)
theorem Cm {x:Int} (h:x∈([4,8,16,32,64,128,256]:List Int)) (c:4<x):x/2∈([4,8,16,32,64,128,256]:List Int)∧2*(x/2)=x:=by
 rcases ig h with rfl|rfl|rfl|rfl|rfl|rfl|rfl<;>first|decide|exact absurd c (by decide)
theorem Cl {x:Int} (h:x∈([4,8,16,32,64,128,256]:List Int)):0<x:=by
 rcases ig h with rfl|rfl|rfl|rfl|rfl|rfl|rfl<;>decide
theorem SzOk.three {st:SSt} (z:SzOk st):SzOk st.three:=by
 unfold SSt.three
 cases e:st.nxt with
 |some m=>exact z
 |none=>
  show SzOk (if _ then _ else _)
  split
  ·rename_i c
   refine⟨z.pw,λm' q=>?_⟩
   cases q
   exact⟨D6 z.pw c.2,ZH _,Cl z.pw,.inl rfl⟩
  ·split
   ·rename_i c
    refine⟨z.pw,λm' q=>?_⟩
    cases q
    exact⟨(Cm z.pw c.2).1,ZH _,Cl z.pw,.inr (Cm z.pw c.2).2⟩
   ·exact z
def SlA (_K:PySem.W.Frag) (t:Adr) (H:Hp) (a:Addr) (F:Addr→Prop) (st:SSt):Prop:=
 ∃d,SlB t H a st d∧(∀b,F b↔SlF a st d b)∧d.n=(st.kv.length:Int)∧(st.kv.map (·.1)).Nodup∧SzOk st
section
variable {K:PySem.W.Frag} {t:Adr} {H H':Hp} {a b:Addr} {F:Addr→Prop} {st:SSt}
theorem SlA.ins (h:SlA K t H a F st):∃dx fs,H a=some (.ins t.aQ dx fs)∧∀m,NoM m→fs.lookup m=none:=by
 obtain⟨d,hb,_⟩:=h
 obtain⟨dx,ho⟩:=hb.obj
 exact⟨dx,_,ho,λm hm=>Cj hm⟩
theorem SlA.dom (h:SlA K t H a F st) (hb:F b):∃o,H b=some o:=by
 obtain⟨d,h1,h2,_⟩:=h
 exact h1.dom ((h2 b).mp hb)
theorem SlA.frame (h:SlA K t H a F st) (f:∀b,F b→H' b=H b):SlA K t H' a F st:=by
 obtain⟨d,h1,h2,h3⟩:=h
 exact⟨d,h1.frame λb hb=>f b ((h2 b).mpr hb),h2,h3⟩
end
section
variable {K:PySem.W.Frag} {t:Adr} {H H':Hp} {a b p:Addr} {F:Addr→Prop} {st:SSt} {o:HO}
theorem SlA.same (h:SlA K t H a F st) (s:Same H H'):SlA K t H' a F st:=h.frame λb hb=>by
 obtain⟨o,e⟩:=h.dom hb
 rw[e]
 exact s b o e
theorem SlA.out (h:SlA K t H a F st) (e:H p=none):¬F p:=λz=>by
 obtain⟨o,q⟩:=h.dom z
 rw[q]at e
 cases e
theorem SlA.upd (h:SlA K t H a F st) (e:¬F p):SlA K t (L2.upd H p o) a F st:=h.frame λb hb=>ac λz=>e (z▸hb)
theorem SlA.new (h:SlA K t H a F st) (e:H p=none):SlA K t (L2.upd H p o) a F st:=h.upd (h.out e)
end
def RsF (K:PySem.W.Frag) (t:Adr) (a:Addr) (F:Addr→Prop) (st:SSt) (H:Hp) (C:Addr) (fs:List (Str×V)) (E:XK):Prop:=
 ∀(ea:Addr) (od:Option Addr) (H':Hp) (F':Addr→Prop),ExcAt H' ea od C fs→SlA K t H' a F' st→Fr F F' H H'→E (.ref ea) od H'
def nK (K:PySem.W.Frag) (t:Adr):Sp:=λvs H Q _=>∃(a dx:Addr),vs=[.ref a]∧H a=some (.ins t.aQ dx [])∧H dx=some (.own a)∧∀H' F,SlA K t H' a F SSt.new→Fr (λb=>b=a∨b=dx) F H H'→Q .non H'
def p6 (K:PySem.W.Frag) (t:Adr):Sp:=λvs H Q _=>∃(a:Addr) (k i:Int) (F:Addr→Prop) (st:SSt),vs=[.ref a,.int k,.int i]∧SlA K t H a F st∧0≤k∧st.kv.length<4096∧
 ∀H' F',SlA K t H' a F' (st.put k (.int i))→Fr F F' H H'→Q .non H'
def nM (K:PySem.W.Frag) (t:Adr):Sp:=λvs H Q E=>∃(a:Addr) (k:Int) (F:Addr→Prop) (st:SSt),vs=[.ref a,.int k]∧SlA K t H a F st∧0≤k∧
 ((aI st.kv k).isSome=true→st.kv.length<4096∧∀H' F',SlA K t H' a F' (st.drop k)→Fr F F' H H'→Q .non H')∧(aI st.kv k=none→RsF K t a F st H t.bP [("key",.int k)] E)
def p8 (K:PySem.W.Frag) (t:Adr):Sp:=λvs H Q E=>∃(a:Addr) (k:Int) (F:Addr→Prop) (st:SSt),vs=[.ref a,.int k]∧SlA K t H a F st∧0≤k∧
 (∀v,aI st.kv k=some v→∀H' F',SlA K t H' a F' st→Fr F F' H H'→Q v H')∧(aI st.kv k=none→RsF K t a F st H t.bP [("key",.int k)] E)
def p7 (K:PySem.W.Frag) (t:Adr):Sp:=λvs H Q _=>∃(a:Addr) (k:Int) (F:Addr→Prop) (st:SSt),vs=[.ref a,.int k]∧SlA K t H a F st∧0≤k∧
 ∀H' F',SlA K t H' a F' st→Fr F F' H H'→Q (.bl (aI st.kv k).isSome) H'
def nJ (K:PySem.W.Frag) (t:Adr):Sp:=λvs H Q _=>∃(a:Addr) (F:Addr→Prop) (st:SSt),vs=[.ref a]∧SlA K t H a F st∧∀H' F',SlA K t H' a F' st→Fr F F' H H'→Q (.int st.kv.length) H'
def nI (K:PySem.W.Frag) (t:Adr):Sp:=λvs H Q _=>∃(a:Addr) (F:Addr→Prop) (st:SSt),vs=[.ref a]∧SlA K t H a F st∧
 ∀H' F' l,SlA K t H' a F' st→Fr F F' H H'→H l=none→¬F' l→H' l=some (.lst (st.rows.map V.int))→Q (.ref l) H'
def mI (K:PySem.W.Frag) (t:Adr):Sp:=λvs H Q _=>∃(a:Addr) (F:Addr→Prop) (st:SSt),vs=[.ref a]∧SlA K t H a F st∧∀H' F',SlA K t H' a F' st→Fr F F' H H'→Q (.int st.moved) H'
def b9 (l:List Int):Prop:=l.Pairwise (· < ·)
structure LvOk (ls:List (List Int)):Prop where
 ne:∀l∈ls,l≠[]
 le:∀l∈ls,l.length≤8
 nb:∀(i:Nat) (x y:List Int),ls[i]?=some x→ls[i+1]?=some y→5≤x.length+y.length
 up:b9 ls.flatten
theorem LvOk.nil:LvOk []:=⟨(λ_ h=>by cases h),(λ_ h=>by cases h),(λi x y e=>by simp at e),List.Pairwise.nil⟩
theorem Dx {ls:List (List Int)} {i:Nat} {x:List Int} (e:ls[i]?=some x):ls=ls.take i++x::ls.drop (i+1):=by
 obtain⟨h,e⟩:=Q4.mp e
 rw[←e,←Zm h,QJ]
theorem dG {ls:List (List Int)} {i:Nat} {x:List Int} (e:ls[i]?=some x):ls.flatten=(ls.take i).flatten++(x++(ls.drop (i+1)).flatten):=by
 conv=>lhs;rw[Dx e]
 rw[Ze,Zq]
theorem rise3 {a b c:List Int}:b9 (a++(b++c))↔b9 a∧b9 b∧b9 c∧(∀x∈a,∀y∈b,x<y)∧(∀x∈a,∀y∈c,x<y)∧∀x∈b,∀y∈c,x<y:=by
 unfold b9
 rw[Qj,Qj]
 constructor
 ·rintro ⟨h1,⟨h2,h3,h4⟩,h5⟩
  exact⟨h1,h2,h3,λx hx y hy=>h5 x hx y (Z0 _ hy),λx hx y hy=>h5 x hx y (Qu _ hy),h4⟩
 ·rintro ⟨h1,h2,h3,h4,h5,h6⟩
  refine⟨h1,⟨h2,h3,h6⟩,λx hx y hy=>?_⟩
  rcases Q7.mp hy with z|z
  ·exact h4 x hx y z
  ·exact h5 x hx y z
structure LeafOf (ls:List (List Int)) (k:Int) (i:Nat):Prop where
 le:i≤ls.length
 lo:∀(j:Nat) (x:List Int),j<i→ls[j]?=some x→∀y∈x,y<k
 hi:∀x,ls[i]?=some x→∃y∈x,k≤y
theorem tR {ls:List (List Int)} {i:Nat} {y:Int} (h:y∈(ls.take i).flatten):∃(j:Nat) (x:List Int),j<i∧ls[j]?=some x∧y∈x:=by
 obtain⟨x,hx,hy⟩:=XR.mp h
 obtain⟨j,hj,e⟩:=QD hx
 rw[Qm]at hj
 rw[ZT]at e
 exact⟨j,x,by omega,Q4.mpr ⟨by omega,e⟩,hy⟩
theorem LeafOf.ahead {ls:List (List Int)} {k:Int} {i:Nat} (h:LeafOf ls k i):∀y∈(ls.take i).flatten,y<k:=λy hy=>by
 obtain⟨j,x,hj,e,hx⟩:=tR hy
 exact h.lo j x hj e y hx
theorem LeafOf.behind {ls:List (List Int)} {k:Int} {i:Nat} (o:LvOk ls) (h:LeafOf ls k i):∀y∈(ls.drop (i+1)).flatten,k<y:=λy hy=>by
 cases e:ls[i]? with
 |none=>
  have:ls.length≤i:=Z6.mp e
  rw[Zf (by omega)]at hy
  cases hy
 |some x=>
  obtain⟨z,hz,le⟩:=h.hi x e
  have up:=o.up
  rw[dG e]at up
  have:=(rise3.mp up).2.2.2.2.2 z hz y hy
  omega
theorem LeafOf.mem {ls:List (List Int)} {k:Int} {i:Nat} (o:LvOk ls) (h:LeafOf ls k i):k∈ls.flatten↔∃x,ls[i]?=some x∧k∈x:=by
 constructor
 ·intro hk
  cases e:ls[i]? with
  |none=>
   have l:ls.length≤i:=Z6.mp e
   have:ls.take i=ls:=QN l
   have:=h.ahead k (by rw[this];exact hk)
   omega
  |some x=>
   rw[dG e]at hk
   rcases Q7.mp hk with z|z
   ·have:=h.ahead k z;omega
   ·rcases Q7.mp z with z|z
    ·exact⟨x,rfl,z⟩
    ·have:=h.behind o k z;omega
 ·rintro ⟨x,e,hk⟩
  exact XR.mpr ⟨x,Q3 e,hk⟩
theorem uG:∀{l:List Int} {k:Int},b9 l→k∉l→(∀x∈l.take (l.filter (λz=>decide (z<k))).length,x<k)∧∀x∈l.drop (l.filter (λz=>decide (z<k))).length,k<x
 | [],k,_,_=>⟨λx h=>by simp at h,λx h=>by simp at h⟩
 |a::r,k,up,nk=>by
  obtain⟨h1,h2⟩:=Z7.mp up
  have nr:k∉r:=λz=>nk (Qa _ z)
  have na:a≠k:=λz=>nk (by rw[z];exact Q8)
  by_cases c:a<k
  ·obtain⟨i1,i2⟩:=uG h2 nr
   rw[Zg,if_pos (by simpa using c),Qf,List.take_succ_cons,List.drop_succ_cons]
   refine⟨λx hx=>?_,i2⟩
   rcases Qe.mp hx with rfl|hx
   ·exact c
   ·exact i1 x hx
  ·have:(a::r).filter (λz=>decide (z<k))=[]:=by
    rw[List.filter_eq_nil_iff]
    intro x hx
    rcases Qe.mp hx with rfl|hx
    ·simpa using c
    ·have:=h1 x hx
     simp
     omega
   rw[this]
   refine⟨λx hx=>by simp at hx,λx hx=>?_⟩
   have hx:x∈a::r:=by simpa using hx
   rcases Qe.mp hx with rfl|hx
   ·omega
   ·have:=h1 x hx;omega
def dt (l:List Int) (k:Int):List Int:=l.take (l.filter (λz=>decide (z<k))).length++k::l.drop (l.filter (λz=>decide (z<k))).length
theorem zo {l:List Int} {k:Int}:(dt l k).length=l.length+1:=by
 have h:=QC (λz=>decide (z<k)) l
 unfold dt
 rw[Qg,Qf,Qm,QI]
 omega
theorem insL_mem {l:List Int} {k x:Int}:x∈dt l k↔x=k∨x∈l:=by
 unfold dt
 rw[Q7,Qe]
 have:x∈l↔x∈l.take (l.filter (λz=>decide (z<k))).length∨x∈l.drop (l.filter (λz=>decide (z<k))).length:=by
  rw[←Q7,QJ]
 rw[this]
 constructor
 ·rintro (h|h|h)
  ·exact .inr (.inl h)
  ·exact .inl h
  ·exact .inr (.inr h)
 ·rintro (h|h|h)
  ·exact .inr (.inl h)
  ·exact .inl h
  ·exact .inr (.inr h)
theorem xL {l:List Int} {k:Int} (up:b9 l) (nk:k∉l):b9 (dt l k):=by
 obtain⟨h1,h2⟩:=uG up nk
 have up':b9 (l.take (l.filter (λz=>decide (z<k))).length++l.drop (l.filter (λz=>decide (z<k))).length):=by rw[QJ];exact up
 obtain⟨u1,u2,u3⟩:=Qj.mp up'
 unfold dt
 refine Qj.mpr ⟨u1,Z7.mpr ⟨h2,u2⟩,λx hx y hy=>?_⟩
 rcases Qe.mp hy with rfl|hy
 ·exact h1 x hx
 ·exact u3 x hx y hy
structure AddAt (ls:List (List Int)) (k:Int) (i:Nat) (x:List Int):Prop where
 at_:ls[i]?=some x
 lo:∀y∈(ls.take i).flatten,y<k
 hi:∀y∈(ls.drop (i+1)).flatten,k<y
theorem LeafOf.add {ls:List (List Int)} {k:Int} {i:Nat} (o:LvOk ls) (h:LeafOf ls k i) (ne:ls≠[]):∃x,AddAt ls k (min i (ls.length-1)) x:=by
 have hl:0<ls.length:=QP.mpr ne
 by_cases c:i<ls.length
 ·have:min i (ls.length-1)=i:=by omega
  rw[this]
  exact⟨ls[i],Q5 c,h.ahead,h.behind o⟩
 ·have le:=h.le
  have:min i (ls.length-1)=ls.length-1:=by omega
  rw[this]
  have hlt:ls.length-1<ls.length:=by omega
  refine⟨ls[ls.length-1],Q5 hlt,λy hy=>?_,λy hy=>?_⟩
  ·obtain⟨j,x,hj,e,hx⟩:=tR hy
   exact h.lo j x (by omega) e y hx
  ·rw[Zf (by omega)]at hy
   cases hy
theorem sr {ls:List (List Int)} {i:Nat} {x y:List Int} (e:ls[i]?=some x):ls.set i y=ls.take i++y::ls.drop (i+1):=by
 have hi:=(Q4.mp e).1
 rw[List.set_eq_take_append_cons_drop,if_pos hi]
theorem kj {ls:List (List Int)} {i:Nat} {x y:List Int} (e:ls[i]?=some x):(ls.set i y).flatten=(ls.take i).flatten++(y++(ls.drop (i+1)).flatten):=by
 rw[sr e,Ze,Zq]
theorem AddAt.set {ls:List (List Int)} {k:Int} {i:Nat} {x:List Int} (o:LvOk ls) (h:AddAt ls k i x) (nk:k∉ls.flatten):b9 (ls.set i (dt x k)).flatten∧∀z,z∈(ls.set i (dt x k)).flatten↔z=k∨z∈ls.flatten:=by
 have up:=o.up
 rw[dG h.at_]at up nk
 obtain⟨u1,u2,u3,u4,u5,u6⟩:=rise3.mp up
 have nx:k∉x:=λz=>nk (Qu _ (Z0 _ z))
 rw[kj h.at_,dG h.at_]
 refine⟨rise3.mpr ⟨u1,xL u2 nx,u3,λa ha b hb=>?_,u5,λa ha b hb=>?_⟩,λz=>?_⟩
 ·rcases insL_mem.mp hb with rfl|hb
  ·exact h.lo a ha
  ·exact u4 a ha b hb
 ·rcases insL_mem.mp ha with rfl|ha
  ·exact h.hi b hb
  ·exact u6 a ha b hb
 ·rw[Q7,Q7,Q7,Q7,insL_mem]
  constructor
  ·rintro (h|(h|h)|h)
   ·exact .inr (.inl h)
   ·exact .inl h
   ·exact .inr (.inr (.inl h))
   ·exact .inr (.inr (.inr h))
  ·rintro (h|h|h|h)
   ·exact .inr (.inl (.inl h))
   ·exact .inl h
   ·exact .inr (.inl (.inr h))
   ·exact .inr (.inr h)
theorem kK {ls:List (List Int)} {i j:Nat} {x y z:List Int} (e:ls[i]?=some x) (f:(ls.set i y)[j]?=some z):(i=j∧z=y)∨(i≠j∧ls[j]?=some z):=by
 rw[Qx]at f
 by_cases c:i=j
 ·rw[if_pos c]at f
  split at f
  ·cases f;exact .inl ⟨c,rfl⟩
  ·cases f
 ·rw[if_neg c]at f
  exact .inr ⟨c,f⟩
theorem mX {ls:List (List Int)} {i:Nat} {x y z:List Int} (e:ls[i]?=some x) (h:z∈ls.set i y):z=y∨z∈ls:=by
 obtain⟨j,hj,ez⟩:=QD h
 rcases kK e (Q4.mpr ⟨hj,ez⟩)with⟨_,q⟩|⟨_,q⟩
 ·exact .inl q
 ·exact .inr (Q3 q)
theorem LvOk.grown {ls:List (List Int)} {i:Nat} {x y:List Int} (o:LvOk ls) (e:ls[i]?=some x) (l1:x.length≤y.length) (l2:y.length≤8) (up:b9 (ls.set i y).flatten):LvOk (ls.set i y):=by
 have hx:=o.ne x (Q3 e)
 have px:0<x.length:=QP.mpr hx
 refine⟨λl hl=>?_,λl hl=>?_,λj a b f g=>?_,up⟩
 ·rcases mX e hl with rfl|hl
  ·exact Zn (by omega)
  ·exact o.ne l hl
 ·rcases mX e hl with rfl|hl
  ·exact l2
  ·exact o.le l hl
 ·rcases kK e f with⟨c,h1⟩|⟨c,f1⟩<;>rcases kK e g with⟨c',h2⟩|⟨c',g1⟩
  ·omega
  ·subst c
   have:=o.nb i x b e g1
   rw[h1]
   omega
  ·rw[c']at e
   have:=o.nb j a x f1 e
   rw[h2]
   omega
  ·exact o.nb j a b f1 g1
theorem LvOk.parted {ls:List (List Int)} {i:Nat} {x a b:List Int} (o:LvOk ls) (e:ls[i]?=some x) (la:a.length=4) (lb:b.length=5) (up:b9 (ls.set i (a++b)).flatten):
  LvOk ((ls.set i a).take (i+1)++b::(ls.set i a).drop (i+1))∧((ls.set i a).take (i+1)++b::(ls.set i a).drop (i+1)).flatten=(ls.set i (a++b)).flatten:=by
 have hi:=(Q4.mp e).1
 have lt:(ls.take i).length=i:=by rw[Qm];omega
 have e1:(ls.set i a).take (i+1)++b::(ls.set i a).drop (i+1)=ls.take i++a::b::ls.drop (i+1):=by
  rw[sr (y:=a) e]
  have h1:(ls.take i++a::ls.drop (i+1)).take (i+1)=ls.take i++ [a]:=by
   rw[List.take_append,lt,QN (by omega)]
   have:i+1-i=1:=by omega
   rw[this]
   rfl
  have h2:(ls.take i++a::ls.drop (i+1)).drop (i+1)=ls.drop (i+1):=by
   rw[List.drop_append,lt,Zf (by omega)]
   have:i+1-i=1:=by omega
   rw[this]
   rfl
  rw[h1,h2,Qo]
  rfl
 have e2:(ls.take i++a::b::ls.drop (i+1)).flatten=(ls.set i (a++b)).flatten:=by
  rw[kj e,Ze,Zq,Zq,Qo]
 rw[e1]
 refine⟨⟨λl hl=>?_,λl hl=>?_,λj p q f g=>?_,by rw[e2];exact up⟩,e2⟩
 ·rcases Q7.mp hl with h|h
  ·exact o.ne l (ZI h)
  ·rcases Qe.mp h with rfl|h
   ·exact Zn (by omega)
   ·rcases Qe.mp h with rfl|h
    ·exact Zn (by omega)
    ·exact o.ne l (X0 h)
 ·rcases Q7.mp hl with h|h
  ·exact o.le l (ZI h)
  ·rcases Qe.mp h with rfl|h
   ·omega
   ·rcases Qe.mp h with rfl|h
    ·omega
    ·exact o.le l (X0 h)
 ·have look:∀(j:Nat) (p:List Int),(ls.take i++a::b::ls.drop (i+1))[j]?=some p→(j<i∧ls[j]?=some p)∨(j=i∧p=a)∨(j=i+1∧p=b)∨(i+2≤j∧ls[j-1]?=some p):=λj p f=>by
   rw[Xr,lt]at f
   split at f
   ·rename_i c
    rw[List.getElem?_take,if_pos c]at f
    exact .inl ⟨c,f⟩
   ·rename_i c
    rcases(show j=i∨j=i+1∨i+2≤j by omega)with rfl|rfl|h
    ·have:j-j=0:=by omega
     rw[this]at f
     cases f
     exact .inr (.inl ⟨rfl,rfl⟩)
    ·have:i+1-i=1:=by omega
     rw[this]at f
     cases f
     exact .inr (.inr (.inl ⟨rfl,rfl⟩))
    ·obtain⟨n,rfl⟩:∃n,j=i+2+n:=⟨j-(i+2),by omega⟩
     have:i+2+n-i=n+1+1:=by omega
     rw[this,Zb,Zb,X6]at f
     refine .inr (.inr (.inr ⟨h,?_⟩))
     have:i+2+n-1=i+1+n:=by omega
     rw[this]
     exact f
  have pos:∀(j:Nat) (p:List Int),ls[j]?=some p→1≤p.length:=λj p f=>QP.mpr (o.ne p (Q3 f))
  rcases look j p f with⟨c,f1⟩|⟨c,h1⟩|⟨c,h1⟩|⟨c,f1⟩<;>rcases look (j+1) q g with⟨c',g1⟩|⟨c',h2⟩|⟨c',h2⟩|⟨c',g1⟩<;>(try rw[h1])<;>(try rw[h2])<;>(try omega)
  ·exact o.nb j p q f1 g1
  ·have:=pos j p f1;omega
  ·have:j+1-1=j-1+1:=by omega
   rw[this]at g1
   exact o.nb (j-1) p q f1 g1
def lvF (L:Addr):List (Str×V):=[("leaves",.ref L)]
theorem b4 {L:Addr}:(lvF L).lookup ("leaves":Str)=some (.ref L):=by
 have hb:(("leaves":Str)==("leaves":Str))=true:=beq_iff_eq.mpr rfl
 unfold lvF
 simp only[List.lookup,hb]
theorem Cy {L:Addr} {m:Str} (h:m≠("leaves":Str)):(lvF L).lookup m=none:=by
 have hb:(m==("leaves":Str))=false:=beq_eq_false_iff_ne.mpr h
 unfold lvF
 simp only[List.lookup,hb]
structure LvB (t:Adr) (H:Hp) (a L:Addr) (A:List Addr) (ls:List (List Int)):Prop where
 obj:∃dx,H a=some (.ins t.bI dx (lvF L))
 lst:H L=some (.lst (A.map V.ref))
 len:A.length=ls.length
 leaf:∀(j:Nat) (b:Addr) (l:List Int),A[j]?=some b→ls[j]?=some l→H b=some (.lst (l.map V.int))
 inj:∀(i j:Nat) (b:Addr),A[i]?=some b→A[j]?=some b→i=j
 nL:L∉A
def LvF (a L:Addr) (A:List Addr):Addr→Prop:=λb=>b=a∨b=L∨b∈A
section
variable {t:Adr} {H H':Hp} {a L b:Addr} {A:List Addr} {ls:List (List Int)}
theorem LvB.at (h:LvB t H a L A ls) {i:Nat} {x:List Int} (e:ls[i]?=some x):∃c,A[i]?=some c∧H c=some (.lst (x.map V.int)):=by
 have hi:i<A.length:=by rw[h.len];exact(Q4.mp e).1
 exact⟨A[i],Q5 hi,h.leaf i _ x (Q5 hi) e⟩
theorem LvB.has (h:LvB t H a L A ls) (hb:b∈A):∃(j:Nat) (l:List Int),A[j]?=some b∧ls[j]?=some l∧H b=some (.lst (l.map V.int)):=by
 obtain⟨j,hj,e⟩:=QD hb
 have hc:j<ls.length:=by rw[←h.len];exact hj
 have e1:A[j]?=some b:=by rw[Q5 hj,e]
 exact⟨j,ls[j],e1,Q5 hc,h.leaf j b _ e1 (Q5 hc)⟩
theorem LvB.frame (h:LvB t H a L A ls) (f:∀b,LvF a L A b→H' b=H b):LvB t H' a L A ls:=by
 obtain⟨dx,ho⟩:=h.obj
 exact⟨⟨dx,by rw[f a (.inl rfl)];exact ho⟩,by rw[f L (.inr (.inl rfl))];exact h.lst,h.len,λj b l e1 e2=>by rw[f b (.inr (.inr (Q3 e1)))];exact h.leaf j b l e1 e2,h.inj,h.nL⟩
theorem LvB.dom (h:LvB t H a L A ls) (hb:LvF a L A b):∃o,H b=some o:=by
 obtain⟨dx,ho⟩:=h.obj
 rcases hb with rfl|rfl|hb
 ·exact⟨_,ho⟩
 ·exact⟨_,h.lst⟩
 ·obtain⟨_,_,_,_,q⟩:=h.has hb
  exact⟨_,q⟩
theorem LvB.same (h:LvB t H a L A ls) (s:Same H H'):LvB t H' a L A ls:=h.frame λb hb=>by
 obtain⟨o,e⟩:=h.dom hb
 rw[e,s b o e]
theorem LvB.out (h:LvB t H a L A ls) {p:Addr} (n:H p=none):¬LvF a L A p:=λz=>by
 obtain⟨o,e⟩:=h.dom z
 rw[n]at e
 cases e
theorem LvB.write (h:LvB t H a L A ls) {i:Nat} {c:Addr} {x y:List Int} (ec:A[i]?=some c) (ex:ls[i]?=some x):LvB t (upd H c (.lst (y.map V.int))) a L A (ls.set i y):=by
 obtain⟨dx,ho⟩:=h.obj
 have hc:=h.leaf i c x ec ex
 have cA:=Q3 ec
 refine⟨⟨dx,by rw[ac (bQ ho hc (by intro z;cases z))];exact ho⟩,by rw[ac (λz=>h.nL (by rw[z];exact cA))];exact h.lst,by rw[QF];exact h.len,λj b l e1 e2=>?_,h.inj,h.nL⟩
 rw[Qx]at e2
 by_cases z:i=j
 ·subst z
  rw[ec]at e1
  cases e1
  rw[if_pos rfl]at e2
  split at e2
  ·cases e2;exact af
  ·cases e2
 ·rw[if_neg z]at e2
  rw[ac (λy=>z (h.inj i j c ec (by rw[←y];exact e1)))]
  exact h.leaf j b l e1 e2
theorem LvB.swap (h:LvB t H a L A ls) {i:Nat} {c n:Addr} {x y:List Int} (ec:A[i]?=some c) (ex:ls[i]?=some x) (hn:H n=some (.lst (y.map V.int))) (nF:¬LvF a L A n):LvB t (upd H L (.lst ((A.set i n).map V.ref))) a L (A.set i n) (ls.set i y):=by
 obtain⟨dx,ho⟩:=h.obj
 have nA:n∉A:=λz=>nF (.inr (.inr z))
 have nL:n≠L:=λz=>nF (.inr (.inl z))
 refine⟨⟨dx,by rw[ac (bQ ho h.lst (by intro z;cases z))];exact ho⟩,af,by rw[QF,QF];exact h.len,λj b l e1 e2=>?_,λj k b e1 e2=>?_,λz=>?_⟩
 ·rw[Qx]at e1 e2
  by_cases z:i=j
  ·rw[if_pos z]at e1 e2
   split at e1
   ·cases e1
    split at e2
    ·cases e2
     rw[ac nL];exact hn
    ·cases e2
   ·cases e1
  ·rw[if_neg z]at e1 e2
   rw[ac (λy=>h.nL (by rw[←y];exact Q3 e1))]
   exact h.leaf j b l e1 e2
 ·rw[Qx]at e1 e2
  by_cases z:i=j
  ·rw[if_pos z]at e1
   split at e1
   ·cases e1
    by_cases w:i=k
    ·exact z.symm.trans w
    ·rw[if_neg w]at e2
     exact absurd (Q3 e2) nA
   ·cases e1
  ·rw[if_neg z]at e1
   by_cases w:i=k
   ·rw[if_pos w]at e2
    split at e2
    ·cases e2
     exact absurd (Q3 e1) nA
    ·cases e2
   ·rw[if_neg w]at e2
    exact h.inj j k b e1 e2
 ·obtain⟨j,hj,e⟩:=QD z
  have e1:=Q4.mpr ⟨hj,e⟩
  rw[Qx]at e1
  by_cases w:i=j
  ·rw[if_pos w]at e1
   split at e1
   ·cases e1;exact nL rfl
   ·cases e1
  ·rw[if_neg w]at e1
   exact h.nL (Q3 e1)
theorem ins_get {α:Type} {l:List α} {i j:Nat} {x y:α} (hi:i≤l.length) (e:(l.take i++x::l.drop i)[j]?=some y):(j<i∧l[j]?=some y)∨(j=i∧y=x)∨(i<j∧l[j-1]?=some y):=by
 have lt:(l.take i).length=i:=by rw[Qm];omega
 rw[Xr,lt]at e
 split at e
 ·rename_i c
  rw[List.getElem?_take,if_pos c]at e
  exact .inl ⟨c,e⟩
 ·rename_i c
  rcases(show j=i∨i<j by omega)with rfl|h
  ·have:j-j=0:=by omega
   rw[this]at e
   cases e
   exact .inr (.inl ⟨rfl,rfl⟩)
  ·obtain⟨n,rfl⟩:∃n,j=i+1+n:=⟨j-(i+1),by omega⟩
   have:i+1+n-i=n+1:=by omega
   rw[this,Zb,X6]at e
   have:i+1+n-1=i+n:=by omega
   exact .inr (.inr ⟨h,by rw[this];exact e⟩)
theorem LvB.insert (h:LvB t H a L A ls) {i:Nat} {n:Addr} {y:List Int} (hi:i≤A.length) (hn:H n=some (.lst (y.map V.int))) (nF:¬LvF a L A n):
  LvB t (upd H L (.lst ((A.take i++n::A.drop i).map V.ref))) a L (A.take i++n::A.drop i) (ls.take i++y::ls.drop i):=by
 obtain⟨dx,ho⟩:=h.obj
 have nA:n∉A:=λz=>nF (.inr (.inr z))
 have nL:n≠L:=λz=>nF (.inr (.inl z))
 have hi2:i≤ls.length:=by rw[←h.len];exact hi
 refine⟨⟨dx,by rw[ac (bQ ho h.lst (by intro z;cases z))];exact ho⟩,af,?_,λj b l e1 e2=>?_,λj k b e1 e2=>?_,λz=>?_⟩
 ·have:=h.len
  rw[Qg,Qg,Qf,Qf,Qm,Qm,QI,QI]
  omega
 ·rcases ins_get hi e1 with⟨c1,f1⟩|⟨c1,f1⟩|⟨c1,f1⟩<;>rcases ins_get hi2 e2 with⟨c2,f2⟩|⟨c2,f2⟩|⟨c2,f2⟩<;>(try omega)
  ·rw[ac (λy=>h.nL (by rw[←y];exact Q3 f1))]
   exact h.leaf j b l f1 f2
  ·rw[f1,f2,ac nL];exact hn
  ·rw[ac (λy=>h.nL (by rw[←y];exact Q3 f1))]
   exact h.leaf (j-1) b l f1 f2
 ·rcases ins_get hi e1 with⟨c1,f1⟩|⟨c1,f1⟩|⟨c1,f1⟩<;>rcases ins_get hi e2 with⟨c2,f2⟩|⟨c2,f2⟩|⟨c2,f2⟩
  ·exact h.inj j k b f1 f2
  ·rw[f2]at f1;exact absurd (Q3 f1) nA
  ·have:=h.inj _ _ b f1 f2;omega
  ·rw[f1]at f2;exact absurd (Q3 f2) nA
  ·omega
  ·rw[f1]at f2;exact absurd (Q3 f2) nA
  ·have:=h.inj _ _ b f1 f2;omega
  ·rw[f2]at f1;exact absurd (Q3 f1) nA
  ·have:=h.inj _ _ b f1 f2;omega
 ·rcases Q7.mp z with z|z
  ·exact h.nL (ZI z)
  ·rcases Qe.mp z with z|z
   ·exact nL z.symm
   ·exact h.nL (X0 z)
theorem iW {α:Type} {l:List α} {i j:Nat} {y:α} (e:(l.eraseIdx i)[j]?=some y):(j<i∧l[j]?=some y)∨(i≤j∧l[j+1]?=some y):=by
 rw[List.getElem?_eraseIdx]at e
 split at e
 ·rename_i c;exact .inl ⟨c,e⟩
 ·rename_i c;exact .inr ⟨by omega,e⟩
theorem LvB.erase (h:LvB t H a L A ls) {i:Nat}:LvB t (upd H L (.lst ((A.eraseIdx i).map V.ref))) a L (A.eraseIdx i) (ls.eraseIdx i):=by
 obtain⟨dx,ho⟩:=h.obj
 refine⟨⟨dx,by rw[ac (bQ ho h.lst (by intro z;cases z))];exact ho⟩,af,?_,λj b l e1 e2=>?_,λj k b e1 e2=>?_,λz=>h.nL (Z8 z)⟩
 ·rw[Xs,Xs,h.len]
 ·have bA:b∈A:=Z8 (Q3 e1)
  rw[ac (λy=>h.nL (by rw[←y];exact bA))]
  rcases iW e1 with⟨c1,f1⟩|⟨c1,f1⟩<;>rcases iW e2 with⟨c2,f2⟩|⟨c2,f2⟩<;>(try omega)
  ·exact h.leaf j b l f1 f2
  ·exact h.leaf (j+1) b l f1 f2
 ·rcases iW e1 with⟨c1,f1⟩|⟨c1,f1⟩<;>rcases iW e2 with⟨c2,f2⟩|⟨c2,f2⟩
  ·exact h.inj j k b f1 f2
  ·have:=h.inj _ _ b f1 f2;omega
  ·have:=h.inj _ _ b f1 f2;omega
  ·have:=h.inj _ _ b f1 f2;omega
end
theorem qV {ls:List (List Int)} (up:b9 ls.flatten) {i j:Nat} {x y:List Int} (ex:ls[i]?=some x) (ey:ls[j]?=some y) (h:i<j):∀p∈x,∀q∈y,p<q:=λp hp q hq=>by
 rw[dG ex]at up
 refine(rise3.mp up).2.2.2.2.2 p hp q (XR.mpr ⟨y,?_,hq⟩)
 refine Q3 (i:=j-(i+1)) ?_
 rw[X6]
 have:i+1+(j-(i+1))=j:=by omega
 rw[this]
 exact ey
theorem Ba {ls:List (List Int)} (up:b9 ls.flatten) {i:Nat} {x:List Int} (ex:ls[i]?=some x):b9 x:=by
 rw[dG ex]at up
 exact(rise3.mp up).2.1
theorem zm {x:List Int} (up:b9 x) (ne:x≠[]):∃m,x[x.length-1]?=some m∧m∈x∧∀y∈x,y≤m:=by
 have hl:=QP.mpr ne
 have hlt:x.length-1<x.length:=by omega
 refine⟨x[x.length-1],Q5 hlt,Zv hlt,λy hy=>?_⟩
 obtain⟨j,hj,e⟩:=QD hy
 rcases(show j=x.length-1∨j<x.length-1 by omega)with h|h
 ·subst h;rw[e];exact ZH _
 ·have:=Z5.mp up j (x.length-1) hj hlt h
  rw[e]at this
  omega
structure LvN (ls:List (List Int)) (E:Nat→Prop):Prop where
 ne:∀l∈ls,l≠[]
 le:∀l∈ls,l.length≤8
 nb:∀(i:Nat) (x y:List Int),ls[i]?=some x→ls[i+1]?=some y→E i∨5≤x.length+y.length
 up:b9 ls.flatten
theorem LvN.ok {ls:List (List Int)} {E:Nat→Prop} (h:LvN ls E) (no:∀i,¬E i):LvOk ls:=⟨h.ne,h.le,λi x y e1 e2=>(h.nb i x y e1 e2).resolve_left (no i),h.up⟩
def je (ls:List (List Int)) (i:Nat):List (List Int):=match ls[i]?,ls[i+1]? with
 |some x,some y=>if x.length+y.length<5 then(ls.set i (x++y)).eraseIdx (i+1)else ls
 |_,_=>ls
theorem pB {ls:List (List Int)} {i:Nat} (h:ls.length≤i+1):je ls i=ls:=by
 unfold je
 have:ls[i+1]?=none:=Z6.mpr h
 rw[this]
 split
 ·rename_i h2;cases h2
 ·rfl
theorem uw {ls:List (List Int)} {i:Nat} {x y:List Int} (ex:ls[i]?=some x) (ey:ls[i+1]?=some y):je ls i=if x.length+y.length<5 then(ls.set i (x++y)).eraseIdx (i+1)else ls:=by
 unfold je
 rw[ex,ey]
theorem xI {ls:List (List Int)} {i:Nat}:(je ls i).length≤ls.length∧ls.length≤(je ls i).length+1:=by
 unfold je
 split
 ·split
  ·rw[Xs,QF]
   split<;>omega
  ·omega
 ·omega
theorem pA {ls:List (List Int)} {i j:Nat} {z v:List Int} (e:((ls.set i z).eraseIdx (i+1))[j]?=some v):(j<i∧ls[j]?=some v)∨(j=i∧v=z)∨(i<j∧ls[j+1]?=some v):=by
 rw[List.getElem?_eraseIdx]at e
 split at e
 ·rename_i c
  rw[Qx]at e
  by_cases h:i=j
  ·rw[if_pos h]at e
   split at e
   ·cases e;exact .inr (.inl ⟨h.symm,rfl⟩)
   ·cases e
  ·rw[if_neg h]at e
   exact .inl ⟨by omega,e⟩
 ·rename_i c
  rw[Qx,if_neg (by omega)]at e
  exact .inr (.inr ⟨by omega,e⟩)
theorem xH {ls:List (List Int)} {i:Nat} {x y:List Int} (ex:ls[i]?=some x) (ey:ls[i+1]?=some y):((ls.set i (x++y)).eraseIdx (i+1)).flatten=ls.flatten:=by
 have hi:=(Q4.mp ex).1
 have lt:(ls.take i).length=i:=by rw[Qm];omega
 have hy:ls.drop (i+1)=y::ls.drop (i+2):=by
  obtain⟨h,e⟩:=Q4.mp ey
  rw[←e,←Zm h]
 have e1:(ls.set i (x++y)).eraseIdx (i+1)=ls.take i++(x++y)::ls.drop (i+2):=by
  rw[sr ex,hy,Xy (by omega),lt]
  have:i+1-i=1:=by omega
  rw[this]
  rfl
 rw[e1,dG ex,hy,Ze,Zq,Zq,Qo]
theorem LvN.join {ls:List (List Int)} {E:Nat→Prop} {i:Nat} (h:LvN ls E) (hE:∀j,E j→j=i∨j+1=i):LvN (je ls i) (λj=>j+1=i∧E j)∧(je ls i).flatten=ls.flatten:=by
 cases ex:ls[i]? with
 |none=>
  have hl:ls.length≤i:=Z6.mp ex
  rw[pB (by omega)]
  refine⟨⟨h.ne,h.le,λj x y e1 e2=>?_,h.up⟩,rfl⟩
  rcases h.nb j x y e1 e2 with z|z
  ·rcases hE j z with rfl|w
   ·rw[ex]at e1;cases e1
   ·exact .inl ⟨w,z⟩
  ·exact .inr z
 |some x=>
  cases ey:ls[i+1]? with
  |none=>
   have hl:ls.length≤i+1:=Z6.mp ey
   rw[pB hl]
   refine⟨⟨h.ne,h.le,λj x' y e1 e2=>?_,h.up⟩,rfl⟩
   rcases h.nb j x' y e1 e2 with z|z
   ·rcases hE j z with rfl|w
    ·rw[ey]at e2;cases e2
    ·exact .inl ⟨w,z⟩
   ·exact .inr z
  |some y=>
   rw[uw ex ey]
   by_cases c:x.length+y.length<5
   ·rw[if_pos c]
    have fl:=xH ex ey
    have mem:∀v∈(ls.set i (x++y)).eraseIdx (i+1),v=x++y∨v∈ls:=λv hv=>by
     obtain⟨j,hj,e⟩:=QD hv
     rcases pA (Q4.mpr ⟨hj,e⟩)with⟨_,q⟩|⟨_,q⟩|⟨_,q⟩
     ·exact .inr (Q3 q)
     ·exact .inl q
     ·exact .inr (Q3 q)
    have px:=QP.mpr (h.ne x (Q3 ex))
    have lxy:(x++y).length=x.length+y.length:=Qg
    refine⟨⟨λv hv=>?_,λv hv=>?_,λj u v e1 e2=>?_,by rw[fl];exact h.up⟩,fl⟩
    ·rcases mem v hv with rfl|q
     ·exact Zn (by omega)
     ·exact h.ne v q
    ·rcases mem v hv with rfl|q
     ·omega
     ·exact h.le v q
    ·rcases pA e1 with⟨c1,f1⟩|⟨c1,f1⟩|⟨c1,f1⟩<;>rcases pA e2 with⟨c2,f2⟩|⟨c2,f2⟩|⟨c2,f2⟩<;>(try omega)
     ·rcases h.nb j u v f1 f2 with z|z
      ·rcases hE j z with w|w
       ·omega
       ·omega
      ·exact .inr z
     ·rcases h.nb j u x f1 (by rw[c2];exact ex)with z|z
      ·exact .inl ⟨c2,z⟩
      ·rw[f2];exact .inr (by omega)
     ·have e3:ls[i+1+1]?=some v:=by rw[←c1];exact f2
      rcases h.nb (i+1) y v ey e3 with z|z
      ·rcases hE (i+1) z with w|w<;>omega
      ·rw[f1];exact .inr (by omega)
     ·rcases h.nb (j+1) u v f1 f2 with z|z
      ·rcases hE (j+1) z with w|w<;>omega
      ·exact .inr z
   ·rw[if_neg c]
    refine⟨⟨h.ne,h.le,λj u v e1 e2=>?_,h.up⟩,rfl⟩
    rcases h.nb j u v e1 e2 with z|z
    ·rcases hE j z with w|w
     ·subst w
      rw[ex]at e1
      rw[ey]at e2
      cases e1;cases e2
      exact .inr (by omega)
     ·exact .inl ⟨w,z⟩
    ·exact .inr z
theorem vv {l:List Int} (h:b9 l):l.Nodup:=h.imp λh=>Int.ne_of_lt h
theorem LvOk.gone {ls:List (List Int)} {i:Nat} {x:List Int} {k:Int} (o:LvOk ls) (ex:ls[i]?=some x) (hk:k∈x):b9 (ls.set i (x.erase k)).flatten∧∀z,z∈(ls.set i (x.erase k)).flatten↔z≠k∧z∈ls.flatten:=by
 have up:=o.up
 rw[dG ex]at up
 obtain⟨u1,u2,u3,u4,u5,u6⟩:=rise3.mp up
 have sub:(x.erase k).Sublist x:=List.erase_sublist
 have nx:=vv u2
 rw[kj ex,dG ex]
 refine⟨rise3.mpr ⟨u1,u2.sublist sub,u3,λa ha b hb=>u4 a ha b (sub.subset hb),u5,λa ha b hb=>u6 a (sub.subset ha) b hb⟩,λz=>?_⟩
 rw[Q7,Q7,Q7,Q7,nx.mem_erase_iff]
 constructor
 ·rintro (h|⟨h1,h2⟩|h)
  ·have:=u4 z h k hk
   exact⟨by omega,.inl h⟩
  ·exact⟨h1,.inr (.inl h2)⟩
  ·have:=u6 k hk z h
   exact⟨by omega,.inr (.inr h)⟩
 ·rintro ⟨h0,h|h|h⟩
  ·exact .inl h
  ·exact .inr (.inl ⟨h0,h⟩)
  ·exact .inr (.inr h)
theorem LvOk.shrunk {ls:List (List Int)} {i:Nat} {x y:List Int} (o:LvOk ls) (ex:ls[i]?=some x) (ny:y≠[]) (ly:y.length≤x.length) (up:b9 (ls.set i y).flatten):LvN (ls.set i y) (λj=>j=i∨j+1=i):=by
 have hx:=o.le x (Q3 ex)
 refine⟨λl hl=>?_,λl hl=>?_,λj a b f g=>?_,up⟩
 ·rcases mX ex hl with rfl|hl
  ·exact ny
  ·exact o.ne l hl
 ·rcases mX ex hl with rfl|hl
  ·omega
  ·exact o.le l hl
 ·rcases kK ex f with⟨c,_⟩|⟨c,f1⟩
  ·exact .inl (.inl c.symm)
  ·rcases kK ex g with⟨c',_⟩|⟨c',g1⟩
   ·exact .inl (.inr c'.symm)
   ·exact .inr (o.nb j a b f1 g1)
theorem LvOk.out {ls:List (List Int)} {i:Nat} {x:List Int} (o:LvOk ls) (ex:ls[i]?=some x) (lx:x.length=1) (up:b9 (ls.set i []).flatten):LvOk (ls.eraseIdx i)∧(ls.eraseIdx i).flatten=(ls.set i []).flatten:=by
 have hi:=(Q4.mp ex).1
 have lt:(ls.take i).length=i:=by rw[Qm];omega
 have e1:ls.eraseIdx i=ls.take i++ls.drop (i+1):=List.eraseIdx_eq_take_drop_succ _ _
 have fl:(ls.eraseIdx i).flatten=(ls.set i []).flatten:=by
  rw[e1,kj ex,Ze]
  rfl
 refine⟨⟨λl hl=>o.ne l (Z8 hl),λl hl=>o.le l (Z8 hl),λj a b f g=>?_,by rw[fl];exact up⟩,fl⟩
 rcases iW f with⟨c1,f1⟩|⟨c1,f1⟩<;>rcases iW g with⟨c2,g1⟩|⟨c2,g1⟩
 ·exact o.nb j a b f1 g1
 ·have e2:j+1=i:=by omega
  subst e2
  have h1:=o.nb j a x f1 ex
  have h2:=o.nb (j+1) x b ex g1
  omega
 ·omega
 ·exact o.nb (j+1) a b f1 g1
def LvA (_K:PySem.W.Frag) (t:Adr) (H:Hp) (a:Addr) (F:Addr→Prop) (ks:List Int):Prop:=∃L A ls,LvB t H a L A ls∧LvOk ls∧ls.flatten=ks∧∀b,F b↔LvF a L A b
section
variable {K:PySem.W.Frag} {t:Adr} {H H':Hp} {a b p:Addr} {F:Addr→Prop} {ks:List Int} {o:HO}
theorem LvA.ins (h:LvA K t H a F ks):∃dx fs,H a=some (.ins t.bI dx fs)∧∀m,m≠("leaves":Str)→fs.lookup m=none:=by
 obtain⟨L,A,ls,hb,_⟩:=h
 obtain⟨dx,ho⟩:=hb.obj
 exact⟨dx,_,ho,λm hm=>Cy hm⟩
theorem LvA.dom (h:LvA K t H a F ks) (hb:F b):∃o,H b=some o:=by
 obtain⟨L,A,ls,h1,_,_,h2⟩:=h
 exact h1.dom ((h2 b).mp hb)
theorem LvA.frame (h:LvA K t H a F ks) (f:∀b,F b→H' b=H b):LvA K t H' a F ks:=by
 obtain⟨L,A,ls,h1,h3,h4,h2⟩:=h
 exact⟨L,A,ls,h1.frame λb hb=>f b ((h2 b).mpr hb),h3,h4,h2⟩
theorem LvA.out (h:LvA K t H a F ks) (e:H p=none):¬F p:=λz=>by
 obtain⟨o,q⟩:=h.dom z
 rw[q]at e
 cases e
theorem LvA.upd (h:LvA K t H a F ks) (e:¬F p):LvA K t (L2.upd H p o) a F ks:=h.frame λb hb=>ac λz=>e (z▸hb)
end
def mL (K:PySem.W.Frag) (t:Adr):Sp:=λvs H Q _=>∃(a dx:Addr),vs=[.ref a]∧H a=some (.ins t.bI dx [])∧H dx=some (.own a)∧∀H' F,LvA K t H' a F []→Fr (λb=>b=a∨b=dx) F H H'→Q .non H'
def nQ (K:PySem.W.Frag) (t:Adr):Sp:=λvs H Q _=>∃(a:Addr) (k:Int) (F:Addr→Prop) (ks:List Int),vs=[.ref a,.int k]∧LvA K t H a F ks∧∀H' F',LvA K t H' a F' ks→Fr F F' H H'→Q (.bl (decide (k∈ks))) H'
def nR (K:PySem.W.Frag) (t:Adr):Sp:=λvs H Q E=>∃(a:Addr) (k:Int) (F:Addr→Prop) (ks:List Int),vs=[.ref a,.int k]∧LvA K t H a F ks∧ks.length<4096∧
 (k∉ks→∀H' F' ks',LvA K t H' a F' ks'→(∀z,z∈ks'↔z=k∨z∈ks)→Fr F F' H H'→Q .non H')∧(k∈ks→False)
def jH (K:PySem.W.Frag) (t:Adr):Sp:=λvs H Q E=>∃(a:Addr) (k:Int) (F:Addr→Prop) (ks:List Int),vs=[.ref a,.int k]∧LvA K t H a F ks∧ks.length<4096∧
 (k∈ks→∀H' F' ks',LvA K t H' a F' ks'→(∀z,z∈ks'↔z≠k∧z∈ks)→Fr F F' H H'→Q .non H')∧(k∉ks→False)
theorem LvOk.short {ls:List (List Int)} (o:LvOk ls):ls.length≤ls.flatten.length:=by
 have h:=o.ne
 clear o
 induction ls with
 |nil=>exact Q6 _
 |cons x r ih=>
  have:=QP.mpr (h x Q8)
  have:=ih λl hl=>h l (Qa _ hl)
  rw[Zq,Qg,Qf]
  omega
def jG (K:PySem.W.Frag) (t:Adr):Sp:=λvs H Q _=>∃(a:Addr) (k n:Int) (F:Addr→Prop) (ks:List Int),vs=[.ref a,.int k,.int n]∧LvA K t H a F ks∧ks.length<4096∧0≤n∧
 ∀(H':Hp) (l:Addr),Same H H'→H l=none→H' l=some (.lst (((ks.filter λz=>decide (k≤z)).take n.toNat).map V.int))→Q (.ref l) H'
theorem pJ {xs:List V} {n:Int} (h:0≤n):pK xs none (some n)=xs.take n.toNat:=by
 unfold pK HT.sIx
 simp only[ZD,Nat.sub_zero]
 rw[if_neg (by omega)]
 rcases Nat.le_total n.toNat xs.length with c|c
 ·rw[Nat.min_eq_left c]
 ·rw[Nat.min_eq_right c,QO,QN c]
theorem xP {ls:List (List Int)} {k:Int} {i0:Nat} (o:LvOk ls) (h:LeafOf ls k i0):∀z∈(ls.take i0).flatten,¬k≤z:=λz hz=>by
 have:=h.ahead z hz
 omega
def SSt.low (s:SSt):Int:=match s.nxt with
 |none=>s.size
 |some m=>if m<s.size then m else s.size
theorem zh {st:SSt} {M:Int} (h:M∈st.rows) (l:∀x∈st.rows,M≤x):M=st.low:=by
 unfold SSt.rows at h l
 unfold SSt.low
 cases e:st.nxt with
 |none=>rw[e]at h;simpa using h
 |some m=>
  rw[e]at h l
  have h:M=st.size∨M=m:=by simpa using h
  have l1:=l st.size (by simp)
  have l2:=l m (by simp)
  show M=if m<st.size then m else st.size
  split<;>omega
theorem jT {st:SSt} (z:SzOk st):st.low∈([4,8,16,32,64,128,256]:List Int):=by
 unfold SSt.low
 cases e:st.nxt with
 |none=>exact z.pw
 |some m=>
  show(if m<st.size then m else st.size)∈_
  split
  ·exact(z.nx m e).1
  ·exact z.pw
theorem yL {x:Int} (h:x∈([4,8,16,32,64,128,256]:List Int)):∃a b,Row x a b:=by
 rcases ig h with h|h|h|h|h|h|h<;>subst h
 ·exact⟨_,_,jK (k:=0) (by decide)⟩
 ·exact⟨_,_,jK (k:=1) (by decide)⟩
 ·exact⟨_,_,jK (k:=2) (by decide)⟩
 ·exact⟨_,_,jK (k:=3) (by decide)⟩
 ·exact⟨_,_,jK (k:=4) (by decide)⟩
 ·exact⟨_,_,jK (k:=5) (by decide)⟩
 ·exact⟨_,_,jK (k:=6) (by decide)⟩
theorem sg {S p:Int} {a b:Nat} (R:Row S a b) (h0:0≤p) (h1:p<65536):tz (tz p%S)+65536/S=(p/(65536/S)+1)*(65536/S):=by
 have hs:=R.st_has (m:=tz p) (lE p)
 rw[vZ h0 h1]at hs
 have sl:=R.slot (s:=tz p%S) (R.mod0 _) (R.mod1 _)
 have w:=R.width
 have wp:=R.wpos'
 rw[sl.1,←w]at hs⊢
 have:p/(65536/S)=rz a (tz p%S):=by
  have k0:=Qs p (Z3 wp)
  have k1:=Qv p wp
  have k2:=Xo p (65536/S)
  exact R.between wp (x:=p/(65536/S)) (y:=rz a (tz p%S)) (p:=p) (by omega) (by omega) hs.1 hs.2
 rw[this,Int.add_mul,Int.one_mul,XB]
def nE (K:PySem.W.Frag) (t:Adr):Sp:=λvs H Q _=>∃(a:Addr) (p:Int) (F:Addr→Prop) (st:SSt),vs=[.ref a,.int p]∧SlA K t H a F st∧0≤p∧p<65536∧
 ∀H' F',SlA K t H' a F' st→Fr F F' H H'→Q (.int ((p/(65536/st.low)+1)*(65536/st.low))) H'
section
variable {P:Program} {w:World} {K:PySem.W.Frag} {mg:Str→Option Value} {base:Heap} {t:Adr}
def xh:Sp:=λvs H Q _=>∃n:Int,vs=[.int n]∧0≤n∧Q (.int (tz n)) H
def ve:Sp:=λvs H Q _=>∃k:Int,vs=[.int k]∧Q (.int (k%65536)) H
def tT:Sp:=λvs H Q _=>∃k:Int,vs=[.int k]∧Q (.int (tz (k%65536))) H
def vc:Sp:=λvs H Q _=>∃k n:Int,vs=[.int k,.int n]∧0<n∧Q (.int (k%65536%n)) H
def vd:Sp:=λvs H Q _=>∃p n:Int,vs=[.int p,.int n]∧0≤p∧0<n∧Q (.int (tz p%n)) H
def pW:Sp:=λvs H Q _=>∃s n:Int,vs=[.int s,.int n]∧0≤s∧0<n∧n<1073741824∧∀p,H p=none→Q (.ref p) (upd H p (.tup [.int (tz s),.int (tz s+65536/n)]))
theorem lO (T:Txt K mg t):aX P w K mg base CX0 1 t.uN t.pH ["number"] xh:=by
 obtain⟨tk_BITS,hBITS⟩:=T.Ev
 refine T.pU.ok sc_turned (λvs H Q E h=>?_) (λcdv A outer s H vs Q E hr h=>?_)
 ·obtain⟨n,rfl,_⟩:=h
  rfl
 ·obtain⟨n,rfl,hn,k⟩:=h
  refine⟨_,(ae (aF (i:=1) sc_turned.nd rfl (Or.inl rfl) aj)
   (ae (aF (i:=2) sc_turned.nd rfl (Or.inl rfl) (pv 0))
   (ae (fE PassesOwn.never rfl (lL (by rfl) T.r9 (aa (cn (v:= .int 16) (by rfl) hBITS ⟨_,rfl⟩) ag)) (bN (i:=3) sc_turned.nd rfl (Or.inl rfl))
   (ae (aF (i:=1) sc_turned.nd rfl (Or.inl rfl) (aJ bJ (aJ fF (pv 1) aj) (aJ bB (pv 2) aj)))
   (ah (aF (i:=2) sc_turned.nd rfl (Or.inl rfl) (aJ gL (pv 2) aj)))))
   (ah (aH (pv 1))))))
   ,?_⟩
  have en:((n.toNat/2^0:Nat):Int)=n:=by rw[Nat.pow_zero,Nat.div_one];omega
  refine⟨_,rfl,16,rfl,by decide,by decide,xQ (n:=16) (λi σ H'=>∃v,H'=H∧σ=[some (.int n),some (.int ((rv i n.toNat:Nat):Int)),some (.int ((n.toNat/2^i:Nat):Int)),v]) ?_ ?_ ?_⟩
  ·refine⟨none,rfl,?_⟩
   rw[en]
   rfl
  ·rintro i σ H' hi ⟨v,rfl,rfl⟩
   refine⟨_,rfl,_,_,rfl,rfl,.inr ⟨by decide,by decide⟩,_,rfl,_,_,rfl,rfl,(by show(0:Int)<2;decide),_,_,rfl,rfl,_,rfl,_,_,rfl,rfl,⟨by decide,by decide⟩,?_⟩
   refine⟨some (.int (0+(i:Int))),rfl,?_⟩
   rw[←xa i n.toNat,←xb i n.toNat]
   rfl
  ·rintro σ H' ⟨v,rfl,rfl⟩
   unfold tz at k
   exact⟨_,rfl,k⟩
theorem oP (T:Txt K mg t):aX P w K mg base CX0 1 t.rX t.mh ["key"] ve:=by
 obtain⟨tk_PLACES,hPLACES⟩:=T.uz
 refine T.rZ.ok vi (λvs H Q E h=>?_) (λcdv A outer s H vs Q E hr h=>?_)
 ·obtain⟨n,rfl,_⟩:=h
  rfl
 ·obtain⟨n,rfl,k⟩:=h
  refine⟨_,(ah (aH (aJ bB (pv 0) (cn (v:= .int 65536) (by rfl) hPLACES ⟨_,rfl⟩))))
   ,?_⟩
  exact⟨_,rfl,_,_,rfl,rfl,(by show(0:Int)<65536;decide),k⟩
theorem ud (T:Txt K mg t):aX P w K mg base CX0 2 t.pS t.jY ["key"] tT:=by
 have Jc:= @oP P w K mg base t T
 have Jh:= @lO P w K mg base t T
 refine T.vT.ok tV (λvs H Q E h=>?_) (λcdv A outer s H vs Q E hr h=>?_)
 ·obtain⟨n,rfl,_⟩:=h
  rfl
 ·obtain⟨n,rfl,k⟩:=h
  refine⟨_,(ah (aH (aP Jh (hr.mono (by decide)) (by rfl) T.uq T.pU.kp T.uM .nil az (aa (aP Jc (hr.mono (by decide)) (by rfl) T.xD T.rZ.kp T.x9 .nil az (aa (pv 0) ag)) ag))))
   ,?_⟩
  exact⟨_,rfl,_,rfl,_,rfl,Qs _ (by decide),k⟩
theorem oN (T:Txt K mg t):aX P w K mg base CX0 2 t.rV t.l7 ["key","size"] vc:=by
 have Jc:= @oP P w K mg base t T
 refine T.mm.ok vg (λvs H Q E h=>?_) (λcdv A outer s H vs Q E hr h=>?_)
 ·obtain⟨n,m,rfl,_⟩:=h
  rfl
 ·obtain⟨n,m,rfl,hm,k⟩:=h
  refine⟨_,(ah (aH (aJ bB (aP Jc (hr.mono (by decide)) (by rfl) T.xD T.rZ.kp T.x9 .nil az (aa (pv 0) ag)) (pv 1))))
   ,?_⟩
  exact⟨_,rfl,_,rfl,_,rfl,_,_,rfl,rfl,hm,k⟩
theorem oO (T:Txt K mg t):aX P w K mg base CX0 2 t.rW t.mf ["place","size"] vd:=by
 have Jh:= @lO P w K mg base t T
 refine T.rY.ok vh (λvs H Q E h=>?_) (λcdv A outer s H vs Q E hr h=>?_)
 ·obtain⟨n,m,rfl,_⟩:=h
  rfl
 ·obtain⟨n,m,rfl,hn,h0,k⟩:=h
  refine⟨_,(ah (aH (aJ bB (aP Jh (hr.mono (by decide)) (by rfl) T.uq T.pU.kp T.uM .nil az (aa (pv 0) ag)) (pv 1))))
   ,?_⟩
  exact⟨_,rfl,_,rfl,hn,_,rfl,_,_,rfl,rfl,h0,k⟩
theorem qj (T:Txt K mg t):aX P w K mg base CX0 2 t.kT t.gP ["slot","size"] pW:=by
 obtain⟨tk_PLACES,hPLACES⟩:=T.uz
 have Jh:= @lO P w K mg base t T
 refine T.tI.ok sc_stretch_of (λvs H Q E h=>?_) (λcdv A outer s H vs Q E hr h=>?_)
 ·obtain⟨n,m,rfl,_⟩:=h
  rfl
 ·obtain⟨n,m,rfl,hn,h0,h1,k⟩:=h
  refine⟨_,(ae (aF (i:=2) sc_stretch_of.nd rfl (Or.inl rfl) (aP Jh (hr.mono (by decide)) (by rfl) T.uq T.pU.kp T.uM .nil az (aa (pv 0) ag)))
   (ah (aH (dW (aa (pv 2) (aa (aJ bJ (pv 2) (aJ gL (cn (v:= .int 65536) (by rfl) hPLACES ⟨_,rfl⟩) (pv 1))) ag))))))
   ,?_⟩
  exact⟨_,rfl,_,rfl,hn,_,rfl,_,rfl,_,rfl,_,_,rfl,rfl,⟨h0,h1⟩,_,_,rfl,rfl,(by show 2≤sizeLine;decide),λp hp=>k p hp⟩
def yD (K:PySem.W.Frag):Sp:=λvs H Q _=>∃(e C:Addr) (bm:List Value) (x:V),vs=[.ref e,x]∧H e=some (XN e C none)∧XCls K C bm∧NoAttr K C "key"∧∀dx,H dx=none→Q .non (upd (upd H dx (.xd [("key",x)])) e (XN e C (some dx)))
def nN (K:PySem.W.Frag):Sp:=yD K
theorem iu (T:Txt K mg t):aX P w K mg base CX0 1 t.gc t.fR ["self","key"] (nN K):=by
 refine T.Ax.ok oo (λvs H Q E h=>?_) (λcdv A outer s H vs Q E hr h=>?_)
 ·obtain⟨e,C,bm,x,rfl,_⟩:=h
  rfl
 ·obtain⟨e,C,bm,x,rfl,he,Y,na,k⟩:=h
  refine⟨_,(ae (aO (Bp (by rfl) T.sN T.wn (aa (pv 0) (aa cr ag))))
   (ah (Bi (pv 0) (pv 1) rfl)))
   ,?_⟩
  exact⟨_,rfl,e,C,none,_,bm,rfl,(by show 1≤1000;decide),he,Y,_,rfl,_,rfl,e,C,bm,rfl,he,Y,na,λdx nd=>k dx nd⟩
theorem qW {E E':XK} {H:Hp} {C:Addr} {bm:List Value} {x:V} {i:Nat} (Y:XCls K C bm) (na:NoAttr K C "key") (r:∀(ea:Addr) (od:Option Addr) (H':Hp),ExcAt H' ea od C [("key",x)]→Same H H'→E (.ref ea) od H') {σ:St} {D:Ends} (hi:σ[i]?=some (some x)):
  yF K (yw C (yD K) [] E' (Ci (yv i) AO)) E D σ H:=by
 refine⟨x,hi,(by show 1≤1000;decide),λea nea=>⟨ea,C,bm,x,rfl,af,Y,na,λdx nd=>⟨rfl,ea,C,some dx,bm,rfl,af,Y,?_⟩⟩⟩
 rw[cz]
 have ne:dx≠ea:=(ai af nd).symm
 have nH:H dx=none:=by rw[ac ne]at nd;exact nd
 refine r ea (some dx) _ ⟨af,.inr ⟨dx,rfl,by rw[ac ne,af]⟩⟩ λb o q=>?_
 rw[ac (ai q nea),ac (ai q nH),ac (ai q nea)]
 exact q
theorem xi {n:Nat} (h:n≤4096):n<sizeLine:=X5 h (by decide)
def si:Sp:=λvs H Q _=>∃n:Int,vs=[.int n]∧0≤n∧n≤1000∧∀H' r A,Same H H'→H r=none→(∀b∈A,H b=none)→RowOk H' r A (List.replicate n.toNat []) n→Q (.ref r) H'
theorem kA (T:Txt K mg t):aX P w K mg base CX0 1 t.mG t.iG ["size"] si:=by
 refine T.iP.ok ss (λvs H Q E h=>?_) (λcdv A outer s H vs Q E hr h=>?_)
 ·obtain⟨n,rfl,_⟩:=h
  rfl
 ·obtain⟨n,rfl,n0,n1,q⟩:=h
  refine⟨_,(ah (aH (ku rfl (CScope.of (M:=["slot"]) (N:=["size"]) (N':=["size"]) (dsc:=am eL) rfl rfl (by decide+kernel)) (lL (by rfl) T.r9 (aa (pv 0) ag)) (λ_ _ _ _ _=>ik))))
   ,?_⟩
  refine⟨_,rfl,n,rfl,by omega,by omega,λD hD=>?_⟩
  refine pL (n:=n.toNat) (lo:=0) (λi ys H3=>Same H H3∧∃as:List Addr,ys=as.map V.ref∧as.length=i∧(∀b∈as,H b=none∧b≠D∧H3 b=some (.dK []))∧∀(x y:Nat) (b:Addr),as[x]?=some b→as[y]?=some b→x=y)
   ⟨ao hD,[],rfl,rfl,(λb hb=>by cases hb),λx y b e=>by simp at e⟩ (λi ys H3 hi ⟨s3,as,ey,el,hb,inj⟩ hDD=>?_) (λys H3 ⟨s3,as,ey,el,hb,inj⟩ hDD=>?_)
  ·intro c nc
   have cD:c≠D:=(ai hDD nc).symm
   have nca:c∉as:=λz=>by
    have:=(hb c z).2.2
    rw[nc]at this
    cases this
   have nH:H c=none:=by
    cases e:H c with
    |none=>rfl
    |some o=>rw[s3 c o e]at nc;cases nc
   refine CNext.mk hi (by rw[ac cD.symm];exact hDD) (by rw[ey,Q0];exact bK (by omega)) ⟨cE (s3.trans (ao nc)) hD,as++ [c],by rw[ey,Qk];rfl,by rw[Qg,el];rfl,λb hb'=>?_,λx y b e1 e2=>?_⟩
   ·rcases Q7.mp hb' with z|z
    ·obtain⟨h1,h2,h3⟩:=hb b z
     exact⟨h1,h2,by rw[ac h2,ac (λw=>nca (by rw[←w];exact z))];exact h3⟩
    ·rw[Qd.mp z]
     exact⟨nH,cD,by rw[ac cD,af]⟩
   ·have lem:∀x:Nat,(as++ [c])[x]?=some b→as[x]?=some b∨(x=as.length∧b=c):=λx e=>by
     rw[Xr]at e
     split at e
     ·exact .inl e
     ·rename_i w
      have:x-as.length=0:=by
       rcases ZN (x-as.length)with z|z
       ·exact z
       ·rw[List.getElem?_eq_none (by simp;omega)]at e;cases e
      rw[this]at e
      cases e
      exact .inr ⟨by omega,rfl⟩
    rcases lem x e1 with f1|⟨f1,g1⟩<;>rcases lem y e2 with f2|⟨f2,g2⟩
    ·exact inj x y b f1 f2
    ·subst g2;exact absurd (Q3 f1) nca
    ·subst g1;exact absurd (Q3 f2) nca
    ·omega
  ·refine q H3 D as s3 hD (λb z=>(hb b z).1) ⟨by rw[hDD,ey],by rw[el];omega,by rw[Zj];omega,λj b kv e1 e2=>?_,λj kv e=>?_,inj,λj kv e p hp=>?_⟩
   ·rw[Zs (Q3 e2)]
    exact(hb b (Q3 e1)).2.2
   ·rw[Zs (Q3 e)]
    exact Zi
   ·rw[Zs (Q3 e)]at hp
    cases hp
def kg (t:Adr):Sp:=λvs H Q _=>∃(a:Addr) (k:Int) (st:SSt) (d:SlD),vs=[.ref a,.int k]∧SlB t H a st d∧SzOk st∧∀c kv,IsCell d st k c kv→Q (.ref c) H
def iZ (t:Adr):Sp:=λvs H Q _=>∃(a:Addr) (st:SSt) (d:SlD),vs=[.ref a]∧SlB t H a st d∧SzOk st∧st.kv.length<4096∧∀H' d',SlB t H' a st.one d'→d'.n=d.n→Fr (SlF a st d) (SlF a st.one d') H H'→Q .non H'
def i4 (t:Adr):Sp:=λvs H Q _=>∃(a:Addr) (st:SSt) (d:SlD),vs=[.ref a]∧SlB t H a st d∧SzOk st∧d.n=(st.kv.length:Int)∧∀H' d',SlB t H' a st.three d'→d'.n=d.n→Fr (SlF a st d) (SlF a st.three d') H H'→Q .non H'
theorem pj {A:List Addr} {z:Int} {c:Addr} (h0:0≤z) (e:A[z.toNat]?=some c):atI (A.map V.ref) z=some (.ref c):=by
 obtain⟨j,rfl⟩:=Za h0
 refine tF ?_
 rw[Ql]
 have e:A[j]?=some c:=e
 rw[e]
 rfl
theorem bU (T:Txt K mg t):aX P w K mg base CX0 3 t.gr t.c7 ["self","key"] (kg t):=by
 have Jf:= @oN P w K mg base t T
 refine T.ye.ok sc_Slots__cell_of (λvs H Q E h=>?_) (λcdv A outer s H vs Q E hr h=>?_)
 ·obtain⟨a,k,st,d,rfl,_⟩:=h
  rfl
 ·obtain⟨a,k,st,d,rfl,hb,z,q⟩:=h
  refine⟨_,(ae (aF (i:=2) sc_Slots__cell_of.nd rfl (Or.inl rfl) (br a7 (av (pv 0) rfl) aj (λ_ _=>rfl)))
   (ae (aF (i:=3) sc_Slots__cell_of.nd rfl (Or.inl rfl) (aP Jf (hr.mono (by decide)) (by rfl) T.rh T.mm.kp T.rT .nil az (aa (pv 1) (aa (ax aA (by rfl) T.bE a9 (aa (pv 2) ag)) ag))))
   (ae (bc (aC Ct (pv 3) (av (pv 0) rfl) (aG _))
   (ah (aH (br a7 (pv 2) (pv 3) (λ_ _=>rfl))))
   aR)
   (ae (aF (i:=4) sc_Slots__cell_of.nd rfl (Or.inl rfl) (br a7 (av (pv 0) rfl) aj (λ_ _=>rfl)))
   (ah (aH (br a7 (pv 4) (aP Jf (hr.mono (by decide)) (by rfl) T.rh T.mm.kp T.rT .nil az (aa (pv 1) (aa (ax aA (by rfl) T.bE a9 (aa (pv 4) ag)) ag))) (λ_ _=>rfl))))))))
   ,?_⟩
  obtain⟨dx,ho⟩:=hb.obj
  obtain⟨s4,s5⟩:=bu z.pw
  obtain⟨m0,m1,m2⟩:=lT (k:=k) s4
  have t0:∃xs,H d.tb=some (.lst xs)∧atI xs 0=some (.ref d.r0):=by
   refine⟨_,hb.tbl,?_⟩
   cases st.nxt<;>rfl
  obtain⟨xs,hx,x0⟩:=t0
  have fld:∀{Q':VK},Q' (.ref d.tb) H→tFld K (yv 0) "table" [some (.ref a),some (.int k),none,none,none] H Q':=λ{Q'} q=>⟨_,rfl,a,_,dx,_,_,rfl,ho,T.aq,T.aK,dO,q⟩
  have la:((d.A0.map V.ref).length:Int)=st.size:=by rw[Q0];exact hb.row0.la
  refine⟨_,rfl,a,_,dx,_,_,rfl,ho,T.aq,T.aK,dO,d.tb,_,_,_,rfl,rfl,SqL.of hx,x0,?_⟩
  refine⟨_,rfl,_,rfl,d.r0,_,rfl,.inl (SqL.of hb.row0.lst),k,_,rfl,by rw[la];omega,?_⟩
  dsimp only
  rw[la]
  refine⟨_,rfl,_,rfl,a,_,dx,_,_,rfl,ho,T.aq,T.bh,qU,_,_,rfl,rfl,_,rfl,lZ (λc=>?_) (λc=>?_)⟩
  ·have c:=of_decide_eq_true c
   obtain⟨x,e1⟩:=b6 (l:=d.A0) m0 (by rw[hb.row0.la];exact m1)
   obtain⟨y,e2⟩:=b6 (l:=d.C0) m0 (by rw[hb.row0.lc];exact m1)
   exact⟨_,rfl,_,rfl,d.r0,_,_,_,rfl,rfl,SqL.of hb.row0.lst,pj m0 e1,q x y (.inl ⟨c,e1,e2⟩)⟩
  ·have c:¬st.moved≤k%65536%st.size:=λz=>c (decide_eq_true z)
   cases e:st.nxt with
   |none=>rw[SSt.moved_none e]at c;exact absurd m0 c
   |some m=>
    have hm:=SSt.moved_some e
    obtain⟨pm,_⟩:=z.nx m e
    obtain⟨s6,_⟩:=bu pm
    obtain⟨n0,n1,n2⟩:=lT (k:=k) s6
    have r1:=hb.row1
    rw[e]at r1
    have ht:=hb.tbl
    rw[e]at ht
    have lb:((d.A1.map V.ref).length:Int)=m:=by rw[Q0];exact r1.la
    obtain⟨x,e1⟩:=b6 (l:=d.A1) n0 (by rw[r1.la];exact n1)
    obtain⟨y,e2⟩:=b6 (l:=d.C1) n0 (by rw[r1.lc];exact n1)
    refine⟨_,rfl,a,_,dx,_,_,rfl,ho,T.aq,T.aK,dO,d.tb,_,_,_,rfl,rfl,SqL.of ht,rfl,?_⟩
    refine⟨_,rfl,_,rfl,_,rfl,d.r1,_,rfl,.inl (SqL.of r1.lst),k,_,rfl,by rw[lb];omega,?_⟩
    dsimp only
    rw[lb]
    exact⟨d.r1,_,_,_,rfl,rfl,SqL.of r1.lst,pj n0 e1,q x y (.inr ⟨m,e,by omega,e1,e2⟩)⟩
theorem bq {n:Nat} (h:n≤100000):n<sizeLine:=X5 h (by decide)
theorem Dn {n:Nat} {z:Int} (h0:0≤z) (h1:z<n):ixN n z=some z.toNat:=by unfold ixN;rw[if_pos h0,if_pos h1]
theorem rn {kv:List (Int×V)} {i:Nat} {k:Key} {v:V} (e:(aE kv)[i]?=some (k,v)):∃n:Int,k=Sum.inl n∧kv[i]?=some (n,v):=by
 unfold aE at e
 rw[Ql]at e
 cases q:kv[i]? with
 |none=>rw[q]at e;cases e
 |some p=>rw[q]at e;cases e;exact⟨p.1,rfl,rfl⟩
theorem yt {m:Int} {kv:List (Int×V)} {C:List (List (Int×V))} {i:Nat} {p:Int×V} (e:kv[i]?=some p):(kv.take (i+1)).foldl (dz m) C=dz m ((kv.take i).foldl (dz m) C) p:=by
 rw[QA,e,List.foldl_append]
 rfl
theorem dA (T:Txt K mg t):aX P w K mg base CX0 3 t.eF t.cv ["self"] (iZ t):=by
 have Jf:= @oN P w K mg base t T
 refine T.vU.ok sc_Slots__move_slot (λvs H Q E h=>?_) (λcdv A outer s H vs Q E hr h=>?_)
 ·obtain⟨a,st,d,rfl,_⟩:=h
  rfl
 ·obtain⟨a,st,d,rfl,hb,z,hl,q⟩:=h
  refine⟨_,(ae (bc (aC cW (ax aA (by rfl) T.bE a9 (aa (av (pv 0) rfl) ag)) aj (aG _))
   (ah ko)
   aR)
   (ae (aF (i:=1) sc_Slots__move_slot.nd rfl (Or.inl rfl) (br a7 (av (pv 0) rfl) aj (λ_ _=>rfl)))
   (ae (aF (i:=2) sc_Slots__move_slot.nd rfl (Or.inl rfl) (br a7 (av (pv 0) rfl) aj (λ_ _=>rfl)))
   (ae (sE (fE PassesOwn.never rfl (t7 (lM QG ZO Xc o8 (br a7 (pv 1) (av (pv 0) rfl) (λ_ _=>rfl)))) (sF rfl (dq (bN (i:=3) sc_Slots__move_slot.nd rfl (Or.inl rfl)) (dq (bN (i:=4) sc_Slots__move_slot.nd rfl (Or.inl rfl)) mW)))
   (ah (mV (gi hr) (br a7 (pv 2) (aP Jf (hr.mono (by decide)) (by rfl) T.rh T.mm.kp T.rT .nil az (aa (pv 3) (aa (ax aA (by rfl) T.bE a9 (aa (pv 2) ag)) ag))) (λ_ _=>rfl)) (pv 3) (pv 4) rfl))))
   (ae (vk ik (vm (pv 1) (av (pv 0) rfl) n9))
   (ae (iS (pv 0) aj vJ)
   (ah (bc (aC cW (av (pv 0) rfl) (ax aA (by rfl) T.bE a9 (aa (pv 1) ag)) (aG _))
   (ae (bY (pv 0) (cu (aa (pv 2) ag)) rfl)
   (ah (bY (pv 0) aj rfl)))
   aR))))))))
   ,?_⟩
  obtain⟨dx,ho⟩:=hb.obj
  have ht:=hb.tbl
  cases e:st.nxt with
  |none=>
   rw[e]at ht
   refine⟨_,rfl,a,_,dx,_,_,rfl,ho,T.aq,T.aK,dO,d.tb,_,rfl,.inl (SqL.of ht),rfl,_,rfl,pC rfl ?_⟩
   have e1:st.one=st:=by unfold SSt.one;rw[e]
   rw[e1]at q
   exact q H d hb rfl Fr.refl
  |some m=>
   rw[e]at ht
   refine⟨_,rfl,a,_,dx,_,_,rfl,ho,T.aq,T.aK,dO,d.tb,_,rfl,.inl (SqL.of ht),rfl,_,rfl,bR (λz=>by cases z) ?_⟩
   refine⟨_,rfl,a,_,dx,_,_,rfl,ho,T.aq,T.aK,dO,d.tb,_,_,_,rfl,rfl,SqL.of ht,rfl,?_⟩
   refine⟨_,rfl,a,_,dx,_,_,rfl,ho,T.aq,T.aK,dO,d.tb,_,_,_,rfl,rfl,SqL.of ht,rfl,?_⟩
   obtain⟨pm,v0,v1,_⟩:=z.nx m e
   obtain⟨s4,s5⟩:=bu z.pw
   obtain⟨s6,s7⟩:=bu pm
   have hm:=SSt.moved_some e
   rw[hm]at ho
   have r1:=hb.row1
   rw[e]at r1
   obtain⟨c0,ec⟩:=b6 (l:=d.A0) v0 (by rw[hb.row0.la];exact v1)
   obtain⟨kv,ek⟩:=b6 (l:=d.C0) v0 (by rw[hb.row0.lc];exact v1)
   have hc0:=hb.row0.cell _ _ _ ec ek
   have lb:((d.A1.map V.ref).length:Int)=m:=by rw[Q0];exact r1.la
   have c0A:c0∉d.A1:=hb.dis c0 (Q3 ec)
   have r1c:d.r1≠c0:=bQ r1.lst hc0 (by intro z;cases z)
   have kvl:=hb.short0 z ek
   have keepA:∀b,b=d.r1∨b∈d.A1→∃o,H b=some o:=λb hb1=>by
    rcases hb1 with rfl|hb1
    ·exact⟨_,r1.lst⟩
    ·obtain⟨_,_,_,_,w⟩:=r1.has hb1
     exact⟨_,w⟩
   refine⟨c0,aE kv,hc0,_,rfl,_,rfl,a,_,dx,_,_,rfl,ho,T.aq,T.bh,qU,d.r0,_,_,_,rfl,rfl,SqL.of hb.row0.lst,pj v0 ec,.inr (.inr (.inl ⟨rfl,.inl ⟨_,hc0⟩⟩)),c0,aE kv,rfl,rfl,hc0,λvw nv=>?_⟩
   have hc1:upd H vw (vwO vw c0) c0=some (.dK (aE kv)):=by rw[ac (ai hc0 nv)];exact hc0
   refine⟨vw,c0,aE kv,rfl,af,hc1,λob=>?_⟩
   refine pE (λi σ H'=>∃v3 v4,σ=[some (.ref a),some (.ref d.r0),some (.ref d.r1),v3,v4]∧RowOk H' d.r1 d.A1 ((kv.take i).foldl (dz m) d.C1) m∧H' c0=some (.frz ob (.dK (aE kv)))∧∀b o,b∉d.A1→b≠c0→H b=some o→H' b=some o)
    ⟨_,_,rfl,?_,af,λb o _ n2 e=>?_⟩ (λi σ H' _ ⟨_,_,_,_,hf,_⟩=>hf) (λi k v p σ H' ei ⟨v3,v4,eσ,hr,hf,hk⟩ np=>?_) (λσ H' ⟨v3,v4,eσ,hr,hf,hk⟩=>?_)
   ·refine RowOk.frame (H:=H) r1 λb hb1=>?_
    obtain⟨o,w⟩:=keepA b hb1
    have n2:b≠c0:=by
     rcases hb1 with rfl|hb1
     ·exact r1c
     ·exact λz=>c0A (z▸hb1)
    rw[ac n2,ac (ai w nv)]
   ·rw[ac n2,ac (ai e nv)]
    exact e
   ·subst eσ
    obtain⟨n,rfl,en⟩:=rn ei
    have hr2:RowOk (upd H' p (.tup [kV (Sum.inl n),v])) d.r1 d.A1 ((kv.take i).foldl (dz m) d.C1) m:=hr.frame λb hb1=>ac λw=>by
     have:∃o,H' b=some o:=by
      rcases hb1 with rfl|hb1
      ·exact⟨_,hr.lst⟩
      ·obtain⟨_,_,_,_,w⟩:=hr.has hb1
       exact⟨_,w⟩
     obtain⟨o,q⟩:=this
     rw[w,np]at q
     cases q
    obtain⟨n0,n1,n2⟩:=lT (k:=n) s6
    obtain⟨c,e1⟩:=b6 (l:=d.A1) n0 (by rw[hr2.la];exact n1)
    obtain⟨y,e2⟩:=b6 (l:=(kv.take i).foldl (dz m) d.C1) n0 (by rw[hr2.lc];exact n1)
    obtain⟨y0,e3⟩:=b6 (l:=d.C1) n0 (by rw[r1.lc];exact n1)
    have yl:=ug e3 e2
    have y0l:=hb.short1 z e e3
    have tl:(kv.take i).length≤kv.length:=by rw[Qm];omega
    have hc:=hr2.cell _ _ _ e1 e2
    have cA:c∈d.A1:=Q3 e1
    refine⟨p,_,rfl,SqT.of af,rfl,_,_,rfl,_,_,rfl,rfl,?_⟩
    refine⟨_,rfl,_,rfl,_,rfl,_,rfl,d.r1,_,rfl,.inl (SqL.of hr2.lst),n,_,rfl,by rw[lb];omega,?_⟩
    dsimp only
    rw[lb]
    refine⟨d.r1,_,_,_,rfl,rfl,SqL.of hr2.lst,pj n0 e1,_,rfl,c,_,rfl,DPut.k (k:=Sum.inl n) hc (by rw[bC];exact bq (by omega)),?_⟩
    rw[dL]
    have pn:∀b o,H' b=some o→b≠p:=λb o q=>ai q np
    refine⟨_,_,rfl,?_,?_,λb o nA nc q=>?_⟩
    ·rw[yt en]
     exact hr2.mov s6 e1 e2
    ·rw[ac (λw=>c0A (by rw[w];exact cA)),ac (pn _ _ hf)]
     exact hf
    ·have q:=hk b o nA nc q
     rw[ac (λw=>nA (by rw[w];exact cA)),ac (pn _ _ q)]
     exact q
   ·subst eσ
    rw[bC,QO]at hr
    refine⟨ob,hf,λb' nb=>?_⟩
    have hF:∀b,¬SlF a st d b→b∉d.A1∧b≠c0∧b≠a∧b≠d.r0∧b≠d.tb∧b≠d.r1:=λb n=>
     ⟨λq=>n (.inr (.inr (.inr (.inr (.inr q))))),λq=>n (.inr (.inr (.inr (.inl (q▸Q3 ec))))),λq=>n (.inl q),λq=>n (.inr (.inr (.inl q))),λq=>n (.inr (.inl q)),λq=>n (.inr (.inr (.inr (.inr (.inl ⟨by rw[e];rfl,q⟩)))))⟩
    have inA1:∀b o,H b=some o→(∀kvs,o≠ .dK kvs)→b∉d.A1:=λb o q ne w=>(r1.notr w q ne) rfl
    have K1:∀b o,b∉d.A1→b≠c0→H b=some o→upd H' c0 (.dK (aE kv)) b=some o:=λb o n1 n2 q=>by rw[ac n2];exact hk b o n1 n2 q
    have hr3:RowOk (upd H' c0 (.dK (aE kv))) d.r1 d.A1 (kv.foldl (dz m) d.C1) m:=hr.frame λb hb1=>ac (by
     rcases hb1 with rfl|hb1
     ·exact r1c
     ·exact λw=>c0A (w▸hb1))
    have hc3:upd H' c0 (.dK (aE kv)) c0=some (.dK (aE kv)):=af
    generalize upd H' c0 (.dK (aE kv))=H3 at nb K1 hr3 hc3⊢
    have ho3:=K1 a _ (inA1 _ _ ho (λ_ w=>by cases w)) (bQ ho hc0 (by intro w;cases w)) ho
    have hr0:=hb.row0.lst
    have hr03:=K1 d.r0 _ (inA1 _ _ hr0 (λ_ w=>by cases w)) (bQ hr0 hc0 (by intro w;cases w)) hr0
    have ht3:=K1 d.tb _ (inA1 _ _ ht (λ_ w=>by cases w)) (bQ ht hc0 (by intro w;cases w)) ht
    have nbF:¬SlF a st d b':=λw=>by
     rcases w with w|w|w|w|⟨_,w⟩|w
     ·rw[w,ho3]at nb;cases nb
     ·rw[w,ht3]at nb;cases nb
     ·rw[w,hr03]at nb;cases nb
     ·obtain⟨j,kv1,f1,f2,f3⟩:=hb.row0.has w
      by_cases y:b'=c0
      ·rw[y,hc3]at nb;cases nb
      ·rw[K1 b' _ (hb.dis b' w) y f3]at nb;cases nb
     ·rw[w,hr3.lst]at nb;cases nb
     ·obtain⟨_,_,_,_,w'⟩:=hr3.has w
      rw[w']at nb;cases nb
    have lA:((d.A0.map V.ref).length:Int)=st.size:=by rw[Q0];exact hb.row0.la
    have bo:∀{x:Addr} {o:HO},H3 x=some o→x≠b':=λq=>ai q nb
    refine⟨_,rfl,_,rfl,a,_,dx,_,_,rfl,(by rw[ac (bo ho3)];exact ho3),T.aq,T.bh,qU,d.r0,_,_,_,rfl,rfl,(by rw[ac (bo hr03)];exact hr03),Dn v0 (by rw[lA];exact v1),?_⟩
    have g0:H3 d.r1=some (.lst (d.A1.map V.ref)):=hr3.lst
    have ra:d.r0≠a:=bQ hr0 ho (by intro w;cases w)
    have r01:d.r0≠d.r1:=(hb.tr1 (by rw[e];rfl)).2
    have t1:d.tb≠d.r1:=(hb.tr1 (by rw[e];rfl)).1
    have ta:d.tb≠a:=bQ ht ho (by intro w;cases w)
    have r1a:d.r1≠a:=bQ r1.lst ho (by intro w;cases w)
    have cellsA:∀b∈d.A1,b≠b'∧b≠d.r0∧b≠a:=λb w=>by
     obtain⟨_,_,_,_,f⟩:=hr3.has w
     exact⟨bo f,bQ f hr03 (by intro w;cases w),bQ f ho3 (by intro w;cases w)⟩
    have es:(d.A0.map V.ref).set st.mv.toNat (V.ref b')=(d.A0.set st.mv.toNat b').map V.ref:=by rw[XG]
    rw[es]
    have ho5:upd (upd H3 b' (.dK [])) d.r0 (.lst ((d.A0.set st.mv.toNat b').map V.ref)) a=some (.ins t.aQ dx (slF d.tb st.mv d.n)):=by rw[ac ra.symm,ac (bo ho3)];exact ho3
    refine⟨_,rfl,a,_,dx,_,_,rfl,ho5,T.aq,T.bh,qU,_,_,rfl,rfl,dx,_,ho5,ki,?_⟩
    rw[Cn]
    have H6r0:∀{o:HO},upd (upd (upd H3 b' (.dK [])) d.r0 (.lst ((d.A0.set st.mv.toNat b').map V.ref))) a o d.r0=some (.lst ((d.A0.set st.mv.toNat b').map V.ref)):=by
     intro o
     rw[ac ra,af]
    have lS:(((d.A0.set st.mv.toNat b').map V.ref).length:Int)=st.size:=by rw[Q0,QF];exact hb.row0.la
    refine⟨_,rfl,a,_,dx,_,_,rfl,af,T.aq,T.bh,qU,_,rfl,d.r0,_,rfl,.inl (SqL.of H6r0),rfl,_,rfl,?_⟩
    rw[lS]
    have row6:∀{o:HO},RowOk (upd (upd (upd H3 b' (.dK [])) d.r0 (.lst ((d.A0.set st.mv.toNat b').map V.ref))) a o) d.r1 d.A1 (kv.foldl (dz m) d.C1) m:=λ{o}=>hr3.frame λb hb1=>by
     have:b≠b'∧b≠d.r0∧b≠a:=by
      rcases hb1 with rfl|hb1
      ·exact⟨bo g0,r01.symm,r1a⟩
      ·exact cellsA b hb1
     rw[ac this.2.2,ac this.2.1,ac this.1]
    have K6:∀{o':HO} (b:Addr) (o:HO),¬SlF a st d b→H b=some o→upd (upd (upd H3 b' (.dK [])) d.r0 (.lst ((d.A0.set st.mv.toNat b').map V.ref))) a o' b=some o:=λ{o'} b o n q=>by
     obtain⟨f1,f2,f3,f4,_⟩:=hF b n
     have q3:=K1 b o f1 f2 q
     rw[ac f3,ac f4,ac (bo q3)]
     exact q3
    refine lZ (λc=>?_) (λc=>?_)
    ·have c:st.mv+1=st.size:=V.int.inj (of_decide_eq_true c)
     refine⟨_,rfl,(by show 1≤sizeLine;decide),λtb' nt=>⟨_,rfl,a,_,dx,_,rfl,(by rw[ac (ai af nt)];exact af),T.aq,T.aK,ki,?_⟩⟩
     rw[D7]
     refine⟨_,rfl,a,_,dx,_,rfl,af,T.aq,T.bh,ki,?_⟩
     rw[Cn,cz]
     have nta:tb'≠a:=(ai af nt).symm
     have nt1:tb'≠d.r1:=(ai (row6 (o:= .ins t.aQ dx (slF d.tb (st.mv+1) d.n))).lst nt).symm
     refine q _ _ (hb.last z e ek (tb':=tb') (dx:=dx) c af (by rw[ac nta];exact af) nt1 ?_) rfl (λb o n w=>?_)
     ·refine(row6 (o:= .ins t.aQ dx (slF d.tb (st.mv+1) d.n))).frame λb hb1=>?_
      have:b≠a:=by
       rcases hb1 with rfl|hb1
       ·exact r1a
       ·exact(cellsA b hb1).2.2
      rw[ac this,ac (λw=>?_)]
      obtain⟨o,f⟩:∃o,upd (upd (upd H3 b' (.dK [])) d.r0 (.lst ((d.A0.set st.mv.toNat b').map V.ref))) a (.ins t.aQ dx (slF d.tb (st.mv+1) d.n)) b=some o:=by
       rcases hb1 with rfl|hb1
       ·exact⟨_,row6.lst⟩
       ·obtain⟨_,_,_,_,f⟩:=row6.has hb1
        exact⟨_,f⟩
      rw[w,nt]at f
      cases f
     ·obtain⟨f1,f2,f3,f4,f5,f6⟩:=hF b n
      have k6:=K6 (o':= .ins t.aQ dx (slF d.tb (st.mv+1) d.n)) b o n w
      have bt:b≠tb':=ai k6 nt
      refine⟨by rw[ac f3,ac bt];exact k6,λy=>?_⟩
      rcases y with y|y|y|y|⟨_,y⟩|y
      ·exact f3 y
      ·exact bt y
      ·exact f6 y
      ·exact f1 y
      ·exact f6 y
      ·cases y
    ·have c:st.mv+1≠st.size:=λw=>c (decide_eq_true (by rw[w]))
     refine q _ _ (hb.one z e ek (b':=b') (dx:=dx) c af (by rw[ac ta,ac hb.tr,ac (bo ht3),ht3,hb.tbl,e]) H6r0 ?_ nbF (λj b f1 f2=>?_) row6) rfl (λb o n w=>⟨K6 b o n w,λy=>?_⟩)
     ·have n1:b'≠a:=(bo ho3).symm
      have n2:b'≠d.r0:=(bo hr03).symm
      rw[ac n1,ac n2]
      exact af
     ·have bA:=Q3 f1
      obtain⟨_,kv1,_,_,f⟩:=hb.row0.has bA
      have nc:b≠c0:=λw=>f2 (hb.row0.inj j _ c0 (w▸f1) ec)
      have f3:=K1 b _ (hb.dis b bA) nc f
      rw[ac (bQ f3 ho3 (by intro w;cases w)),ac (bQ f3 hr03 (by intro w;cases w)),ac (bo f3),f3,f]
     ·obtain⟨f1,f2,f3,f4,f5,f6⟩:=hF b n
      rcases y with y|y|y|y|⟨_,y⟩|y
      ·exact f3 y
      ·exact f5 y
      ·exact f4 y
      ·obtain⟨j,hj,ej⟩:=QD (show b∈d.A0.set st.mv.toNat b' from y)
       rcases cj (Q4.mpr ⟨hj,ej⟩)with⟨_,g⟩|⟨_,g⟩
       ·have:=K1 b o f1 f2 w
        rw[g,nb]at this
        cases this
       ·exact n (.inr (.inr (.inr (.inl (Q3 g)))))
      ·exact f6 y
      ·exact f1 y
theorem dB (T:Txt K mg t):aX P w K mg base CX0 2 t.eG t.cw ["self"] (i4 t):=by
 obtain⟨tk_GREATEST_SIZE,hGREATEST_SIZE⟩:=T.yf
 obtain⟨tk_LEAST_SIZE,hLEAST_SIZE⟩:=T.sZ
 have Jb:= @kA P w K mg base t T
 refine T.vV.ok sc_Slots__begin_row (λvs H Q E h=>?_) (λcdv A outer s H vs Q E hr h=>?_)
 ·obtain⟨a,st,d,rfl,_⟩:=h
  rfl
 ·obtain⟨a,st,d,rfl,hb,z,hn,q⟩:=h
  refine⟨_,(ae (bc (aC cW (ax aA (by rfl) T.bE a9 (aa (av (pv 0) rfl) ag)) aj (aG _))
   (ah ko)
   aR)
   (ae (aF (i:=1) sc_Slots__begin_row.nd rfl (Or.inl rfl) (ax aA (by rfl) T.bE a9 (aa (br a7 (av (pv 0) rfl) aj (λ_ _=>rfl)) ag)))
   (ah (bc (PW.pt (gI (aC mt (av (pv 0) rfl) (pv 1) (aG _)) (dD (aC eO (pv 1) (cn (v:= .int 256) (by rfl) hGREATEST_SIZE ⟨_,rfl⟩) (aG _)))))
   (ah (aO (cM Qt QX QY cx (av (pv 0) rfl) (aa (aP Jb (hr.mono (by decide)) (by rfl) T.my T.iP.kp T.mF .nil az (aa (aJ fF (pv 1) aj) ag)) ag))))
   (ah (bc (PW.pt (gI (aC eO (aJ fF aj (av (pv 0) rfl)) (pv 1) (aG _)) (dD (aC mt (pv 1) (cn (v:= .int 4) (by rfl) hLEAST_SIZE ⟨_,rfl⟩) (aG _)))))
   (ah (aO (cM Qt QX QY cx (av (pv 0) rfl) (aa (aP Jb (hr.mono (by decide)) (by rfl) T.my T.iP.kp T.mF .nil az (aa (aJ gL (pv 1) aj) ag)) ag))))
   aR))))))
   ,?_⟩
  obtain⟨dx,ho⟩:=hb.obj
  have ht:=hb.tbl
  cases e:st.nxt with
  |some m=>
   rw[e]at ht
   refine⟨_,rfl,a,_,dx,_,_,rfl,ho,T.aq,T.aK,dO,d.tb,_,rfl,.inl (SqL.of ht),rfl,_,rfl,pC rfl ?_⟩
   have e1:st.three=st:=by unfold SSt.three;rw[e]
   rw[e1]at q
   exact q H d hb rfl Fr.refl
  |none=>
   rw[e]at ht
   refine⟨_,rfl,a,_,dx,_,_,rfl,ho,T.aq,T.aK,dO,d.tb,_,rfl,.inl (SqL.of ht),rfl,_,rfl,bR (λz=>by cases z) ?_⟩
   have la:((d.A0.map V.ref).length:Int)=st.size:=by rw[Q0];exact hb.row0.la
   obtain⟨pw4,pw5⟩:=bu z.pw
   refine⟨_,rfl,a,_,dx,_,_,rfl,ho,T.aq,T.aK,dO,d.tb,_,_,_,rfl,rfl,SqL.of ht,rfl,d.r0,_,rfl,.inl (SqL.of hb.row0.lst),?_⟩
   dsimp only
   rw[la]
   have fin:∀{m:Int} {H':Hp} {r:Addr} {A:List Addr},st.three={st with nxt:=some m,mv:=0}→Same H H'→H r=none→(∀b∈A,H b=none)→RowOk H' r A (List.replicate m.toNat []) m→H' d.tb=some (.lst [.ref d.r0])∧Q .non (upd H' d.tb (.lst ([.ref d.r0]++ [.ref r]))):=λ{m H' r A} e3 s nr nA hr=>by
    have ht':=s _ _ ht
    have notF:∀b,SlF a st d b→∃o,H b=some o:=λb w=>hb.dom w
    have nrF:¬SlF a st d r:=λw=>by obtain⟨o,q⟩:=notF r w;rw[nr]at q;cases q
    have nAF:∀b∈A,¬SlF a st d b:=λb hA w=>by obtain⟨o,q⟩:=notF b w;rw[nA b hA]at q;cases q
    refine⟨ht',?_⟩
    have sb:=hb.begin (H':=upd H' d.tb (.lst [.ref d.r0,.ref r])) e (m:=m) (r:=r) (A:=A) (by rw[ac (bQ ho ht (by intro w;cases w)),s _ _ ho,ho]) af (λb hb1=>?_) (hr.frame λb hb1=>ac ?_) nrF nAF
    ·rw[←e3]at sb
     refine q _ _ sb rfl λb o n w=>⟨?_,λy=>?_⟩
     ·rw[ac (λv=>n (.inr (.inl v)))];exact s _ _ w
     ·rw[e3]at y
      rcases y with y|y|y|y|⟨_,y⟩|y
      ·exact n (.inl y)
      ·exact n (.inr (.inl y))
      ·exact n (.inr (.inr (.inl y)))
      ·exact n (.inr (.inr (.inr (.inl y))))
      ·have y:b=r:=y
       rw[y,nr]at w;cases w
      ·rw[nA b y]at w;cases w
    ·obtain⟨o,q⟩:=notF b (by
      rcases hb1 with w|w
      ·exact .inr (.inr (.inl w))
      ·exact .inr (.inr (.inr (.inl w))))
     have:b≠d.tb:=by
      rcases hb1 with w|w
      ·rw[w];exact hb.tr.symm
      ·exact hb.row0.notr w ht (λ_ z=>by cases z)
     rw[ac this,s _ _ q,q]
    ·rcases hb1 with w|w
     ·rw[w];exact λv=>by rw[v,ht]at nr;cases nr
     ·exact λv=>by have:=nA b w;rw[v,ht]at this;cases this
   by_cases cA:st.size<d.n∧st.size<256
   ·have e3:st.three={st with nxt:=some (2*st.size),mv:=0}:=by
     unfold SSt.three
     rw[e]
     exact if_pos (by rw[←hn];exact cA)
    refine⟨_,rfl,a,_,dx,_,_,rfl,ho,T.aq,T.ba,i6,_,rfl,_,_,rfl,rfl,_,rfl,iF cA.1 ⟨_,rfl,_,_,rfl,rfl,_,rfl,iF cA.2 ?_⟩⟩
    refine⟨_,rfl,a,_,dx,_,_,rfl,ho,T.aq,T.aK,dO,.inl ⟨rfl,_,SqL.of ht⟩,_,rfl,_,_,rfl,rfl,.inr ⟨by decide,by decide⟩,_,rfl,by omega,by omega,λH' r A s nr nA hr=>?_⟩
    obtain⟨f1,f2⟩:=fin (m:=st.size*2) (by rw[e3,XB]) s nr nA hr
    exact⟨d.tb,_,_,rfl,rfl,f1,bK (by show 1≤1000;decide),f2⟩
   ·by_cases cB:4*d.n<st.size∧4<st.size
    ·have e3:st.three={st with nxt:=some (st.size/2),mv:=0}:=by
      unfold SSt.three
      rw[e]
      exact(if_neg (by rw[←hn];exact cA)).trans (if_pos (by rw[←hn];exact cB))
     have c1:¬st.size<d.n:=by omega
     refine⟨_,rfl,a,_,dx,_,_,rfl,ho,T.aq,T.ba,i6,_,rfl,_,_,rfl,rfl,_,rfl,bR c1 ?_⟩
     refine⟨_,rfl,a,_,dx,_,_,rfl,ho,T.aq,T.ba,i6,_,_,rfl,rfl,.inl ⟨by decide,by decide⟩,_,rfl,_,_,rfl,rfl,_,rfl,iF cB.1 ⟨_,rfl,_,_,rfl,rfl,_,rfl,iF cB.2 ?_⟩⟩
     refine⟨_,rfl,a,_,dx,_,_,rfl,ho,T.aq,T.aK,dO,.inl ⟨rfl,_,SqL.of ht⟩,_,rfl,_,_,rfl,rfl,⟨by decide,by decide⟩,_,rfl,by omega,by omega,λH' r A s nr nA hr=>?_⟩
     obtain⟨f1,f2⟩:=fin (m:=st.size/2) e3 s nr nA hr
     exact⟨d.tb,_,_,rfl,rfl,f1,bK (by show 1≤1000;decide),f2⟩
    ·have e3:st.three=st:=by
      unfold SSt.three
      rw[e]
      exact(if_neg (by rw[←hn];exact cA)).trans (if_neg (by rw[←hn];exact cB))
     rw[e3]at q
     have q0:=q H d hb rfl Fr.refl
     by_cases c1:st.size<d.n
     ·have c2:¬st.size<256:=λw=>cA ⟨c1,w⟩
      have c3:¬4*d.n<st.size:=by omega
      refine⟨_,rfl,a,_,dx,_,_,rfl,ho,T.aq,T.ba,i6,_,rfl,_,_,rfl,rfl,_,rfl,iF c1 ⟨_,rfl,_,_,rfl,rfl,_,rfl,bR c2 ?_⟩⟩
      exact⟨_,rfl,a,_,dx,_,_,rfl,ho,T.aq,T.ba,i6,_,_,rfl,rfl,.inl ⟨by decide,by decide⟩,_,rfl,_,_,rfl,rfl,_,rfl,bR c3 q0⟩
     ·refine⟨_,rfl,a,_,dx,_,_,rfl,ho,T.aq,T.ba,i6,_,rfl,_,_,rfl,rfl,_,rfl,bR c1 ?_⟩
      refine⟨_,rfl,a,_,dx,_,_,rfl,ho,T.aq,T.ba,i6,_,_,rfl,rfl,.inl ⟨by decide,by decide⟩,_,rfl,_,_,rfl,rfl,_,rfl,?_⟩
      by_cases c3:4*d.n<st.size
      ·exact iF c3 ⟨_,rfl,_,_,rfl,rfl,_,rfl,bR (λw=>cB ⟨c3,w⟩) q0⟩
      ·exact bR c3 q0
section
variable {H H':Hp} {a c:Addr} {st:SSt} {d:SlD}
theorem SlB.put (h:SlB t H a st d) (z:SzOk st) {k:Int} {kv:List (Int×V)} (ic:IsCell d st k c kv) (v:V):
  ∃d',SlB t (upd H c (.dK (aE (bg kv k v)))) a {st with kv:=bg st.kv k v} d'∧d'.n=d.n∧∀b,SlF a {st with kv:=bg st.kv k v} d' b↔SlF a st d b:=
 h.setCell z ic (sL (h.at ic).2.2) (λ_ hp=>pc hp) (by rw[dN,dN,if_pos rfl,if_pos rfl]) λj hj=>⟨by rw[dN,if_neg hj],by rw[dN,if_neg hj]⟩
theorem SlB.drop (h:SlB t H a st d) (z:SzOk st) {k:Int} {kv:List (Int×V)} (ic:IsCell d st k c kv):
  ∃d',SlB t (upd H c (.dK (aE (bp kv k)))) a {st with kv:=bp st.kv k} d'∧d'.n=d.n∧∀b,SlF a {st with kv:=bp st.kv k} d' b↔SlF a st d b:=
 h.setCell z ic (kC (h.at ic).2.2) (λ_ hp=> .inl (rJ hp)) (by rw[cX,cX,if_pos rfl,if_pos rfl]) λj hj=>⟨by rw[cX,if_neg hj],by rw[cX,if_neg hj]⟩
theorem SlB.insM (h:SlB t H a st d):∃dx fs,H a=some (.ins t.aQ dx fs)∧∀m,NoM m→fs.lookup m=none:=by
 obtain⟨dx,ho⟩:=h.obj
 exact⟨dx,_,ho,λm hm=>Cj hm⟩
theorem SSt.one_kv:st.one.kv=st.kv:=by
 unfold SSt.one
 cases st.nxt with
 |none=>rfl
 |some m=>show(if _ then _ else _:SSt).kv=_;split<;>rfl
theorem SSt.three_kv:st.three.kv=st.kv:=by
 unfold SSt.three
 cases st.nxt with
 |some m=>rfl
 |none=>show(if _ then _ else _:SSt).kv=_;split;rfl;split<;>rfl
theorem wA {kv:List (Int×V)} {k:Int} {v:V}:((bg kv k v).length:Int)=if(aI kv k).isSome=true then(kv.length:Int)else kv.length+1:=by
 have:=congrArg List.length (kI (kv:=kv) (k:=k) (v:=v))
 rw[Q0]at this
 split
 ·rename_i c;rw[if_pos c,Q0]at this;omega
 ·rename_i c;rw[if_neg c,Qg,Q0]at this;simp at this;omega
end
theorem fG (T:Txt K mg t):aX P w K mg base CX0 4 t.k8 t.gW ["self","key"] (p7 K t):=by
 have Go:= @bU P w K mg base t T
 refine T.B0.ok qf (λvs H Q E h=>?_) (λcdv A outer s H vs Q E hr h=>?_)
 ·obtain⟨a,k,F,st,rfl,_⟩:=h
  rfl
 ·obtain⟨a,k,F,st,rfl,⟨d,hb,hF,hn,nd,z⟩,h0,q⟩:=h
  refine⟨_,(ah (aH (yV (vn (gi hr) (pv 1) (aN (pv 0) T.aq T.c6 Go (hr.mono (by decide)) T.da .nil az (aa (pv 1) ag))))))
   ,?_⟩
  obtain⟨dx,fs,hi,hm⟩:=hb.insM
  refine⟨_,rfl,_,rfl,a,dx,fs,rfl,hi,hm _ (by decide+kernel),_,rfl,a,k,st,d,rfl,hb,z,λc kv ic=>?_⟩
  obtain⟨hc,_,_⟩:=hb.at ic
  refine⟨c,_,rfl,DGet.k (k:=Sum.inl k) hc,?_⟩
  rw[liftK_val,hb.val k c kv ic]
  exact q H F ⟨d,hb,hF,hn,nd,z⟩ Fr.refl
theorem jc (T:Txt K mg t):aX P w K mg base (CX1 P w) 4 t.lg t.gX ["self","key"] (p8 K t):=by
 have Gm:= @iu P w K mg base t T
 have Go:= @bU P w K mg base t T
 refine T.B6.okX sc_Slots__get (λvs H Q E h=>?_) (λcdv A outer s H vs Q E hr h=>?_)
 ·obtain⟨a,k,F,st,rfl,_⟩:=h
  rfl
 ·obtain⟨a,k,F,st,rfl,⟨d,hb,hF,hn,nd,z⟩,h0,q1,q2⟩:=h
  refine⟨_,(ae (aF (i:=2) sc_Slots__get.nd rfl (Or.inl rfl) (aN (pv 0) T.aq T.c6 Go (hr.mono (by decide)) T.da .nil az (aa (pv 1) ag)))
   (ae (bc (sD (lN (gi hr) (pv 1) (pv 2)))
   (ah (tY rfl v9 (ua T.bF T.xM T.xN Gm (hr.mono (by decide)) (by rfl) T.uo T.qH .nil az (aa (pv 1) ag))))
   aR)
   (ah (aH (wk (gi hr) (pv 2) (pv 1) (λ_ _=>rfl))))))
   ,?_⟩
  have hA:SlA K t H a F st:=⟨d,hb,hF,hn,nd,z⟩
  obtain⟨dx,fs,hi,hm⟩:=hb.insM
  refine⟨_,rfl,a,dx,fs,rfl,hi,hm _ (by decide+kernel),_,rfl,a,k,st,d,rfl,hb,z,λc kv ic=>?_⟩
  obtain⟨hc,_,_⟩:=hb.at ic
  have hv:=hb.val k c kv ic
  refine⟨_,rfl,_,rfl,c,_,rfl,DGet.k (k:=Sum.inl k) hc,?_⟩
  rw[liftK_val,hv]
  cases e:aI st.kv k with
  |none=>
   refine⟨_,rfl,cO ?_⟩
   exact qW T.bF T.kD (λea od H' hx hs=>q2 e ea od H' F hx (hA.same hs) (Fr.of_same hs)) rfl
  |some v=>
   refine⟨_,rfl,cV ?_⟩
   refine⟨_,rfl,_,rfl,c,v,rfl,?_,q1 v e H F hA Fr.refl⟩
   have:=DGet.k (k:=Sum.inl k) hc
   rw[liftK_val,hv,e]at this
   exact this
theorem oS (T:Txt K mg t):aX P w K mg base CX0 1 t.jo t.fO ["self"] (nJ K t):=by
 refine T.Au.ok oh (λvs H Q E h=>?_) (λcdv A outer s H vs Q E hr h=>?_)
 ·obtain⟨a,F,st,rfl,_⟩:=h
  rfl
 ·obtain⟨a,F,st,rfl,⟨d,hb,hF,hn,nd,z⟩,q⟩:=h
  refine⟨_,(ah (aH (av (pv 0) rfl)))
   ,?_⟩
  obtain⟨dx,ho⟩:=hb.obj
  rw[hn]at ho
  exact⟨_,rfl,a,_,dx,_,_,rfl,ho,T.aq,T.ba,i6,q H F ⟨d,hb,hF,hn,nd,z⟩ Fr.refl⟩
theorem hI (T:Txt K mg t):aX P w K mg base CX0 1 t.iJ t.d7 ["self"] (mI K t):=by
 refine T.zX.ok mN (λvs H Q E h=>?_) (λcdv A outer s H vs Q E hr h=>?_)
 ·obtain⟨a,F,st,rfl,_⟩:=h
  rfl
 ·obtain⟨a,F,st,rfl,⟨d,hb,hF,hn,nd,z⟩,q⟩:=h
  refine⟨_,(ah (aH (av (pv 0) rfl)))
   ,?_⟩
  obtain⟨dx,ho⟩:=hb.obj
  exact⟨_,rfl,a,_,dx,_,_,rfl,ho,T.aq,T.bh,qU,q H F ⟨d,hb,hF,hn,nd,z⟩ Fr.refl⟩
theorem i9 (T:Txt K mg t):aX P w K mg base CX0 4 t.k7 t.gV ["self","key","value"] (p6 K t):=by
 have Gn:= @dB P w K mg base t T
 have Go:= @bU P w K mg base t T
 have Gx:= @dA P w K mg base t T
 refine T.BZ.ok sc_Slots__put (λvs H Q E h=>?_) (λcdv A outer s H vs Q E hr h=>?_)
 ·obtain⟨a,k,i,F,st,rfl,_⟩:=h
  rfl
 ·obtain⟨a,k,i,F,st,rfl,⟨d,hb,hF,hn,nd,z⟩,h0,hl,q⟩:=h
  refine⟨_,(ae (aO (a8 (pv 0) T.aq T.jQ Gx (hr.mono (by decide)) T.j4 .nil az))
   (ae (aF (i:=3) sc_Slots__put.nd rfl (Or.inl rfl) (aN (pv 0) T.aq T.c6 Go (hr.mono (by decide)) T.da .nil az (aa (pv 1) ag)))
   (ae (bc (sD (lN (gi hr) (pv 1) (pv 3)))
   (ah (iS (pv 0) aj vJ))
   aR)
   (ae (mV (gi hr) (pv 3) (pv 1) (pv 2) rfl)
   (ah (aO (a8 (pv 0) T.aq T.jR Gn (hr.mono (by decide)) T.j5 .nil az)))))))
   ,?_⟩
  obtain⟨dx,fs,hi,hm⟩:=hb.insM
  refine⟨_,rfl,a,dx,fs,rfl,hi,hm _ (by decide+kernel),a,st,d,rfl,hb,z,hl,λH1 d1 hb1 e1 fr1=>?_⟩
  obtain⟨dx1,fs1,hi1,hm1⟩:=hb1.insM
  have z1:=z.one
  refine⟨_,rfl,a,dx1,fs1,rfl,hi1,hm1 _ (by decide+kernel),_,rfl,a,k,st.one,d1,rfl,hb1,z1,λc kv ic=>?_⟩
  obtain⟨hc,cF,_⟩:=hb1.at ic
  have hv:=hb1.val k c kv ic
  have sh:=hb1.short z1 ic
  rw[SSt.one_kv]at hv sh
  obtain⟨dx2,ho1⟩:=hb1.obj
  have na:a≠c:=bQ ho1 hc (by intro w;cases w)
  have key:∀(H2:Hp) (n2:Int),SlB t H2 a st.one {d1 with n:=n2}→Fr (SlF a st d) (SlF a st.one d1) H H2→n2=((bg st.kv k (.int i)).length:Int)→∃d3,SlB t (upd H2 c (.dK (aE (bg kv k (.int i))))) a {st.one with kv:=bg st.one.kv k (.int i)} d3∧d3.n=((bg st.one.kv k (.int i)).length:Int)∧
    ∀H4 d4,SlB t H4 a (SSt.three {st.one with kv:=bg st.one.kv k (.int i)}) d4→d4.n=d3.n→Fr (SlF a {st.one with kv:=bg st.one.kv k (.int i)} d3) (SlF a (SSt.three {st.one with kv:=bg st.one.kv k (.int i)}) d4) (upd H2 c (.dK (aE (bg kv k (.int i))))) H4→Q .non H4:=λH2 n2 hb2 fr2 hn2=>by
   obtain⟨d3,hb3,e3,f3⟩:=hb2.put z1 (kv:=kv) ic (.int i)
   have e3':d3.n=((bg st.one.kv k (.int i)).length:Int):=by rw[e3,SSt.one_kv];exact hn2
   refine⟨d3,hb3,e3',λH4 d4 hb4 e4 fr4=>?_⟩
   rw[SSt.one_kv]at hb4 fr4 f3 e3'
   refine q H4 _ ⟨d4,hb4,λb=>Iff.rfl,?_,?_,?_⟩ ?_
   ·show d4.n=((SSt.three _).kv.length:Int)
    rw[SSt.three_kv,e4,e3']
   ·show((SSt.three _).kv.map (·.1)).Nodup
    rw[SSt.three_kv]
    exact sL nd
   ·exact(z1.kv).three
   ·have step:Fr (SlF a st.one d1) (SlF a {st.one with kv:=bg st.kv k (.int i)} d3) H2 (upd H2 c (.dK (aE (bg kv k (.int i))))):=λb o n w=>⟨by rw[ac (λy=>n (by rw[y];exact cF))];exact w,λy=>n ((f3 b).mp y)⟩
    exact Fr.trans (λb o n w=>fr2 b o (λy=>n ((hF b).mpr y)) w) (Fr.trans step fr4)
  refine⟨_,rfl,_,rfl,c,_,rfl,DGet.k (k:=Sum.inl k) hc,?_⟩
  rw[liftK_val,hv]
  have kl:(aE kv).length<sizeLine:=by rw[bC];exact xi (by omega)
  cases e:aI st.kv k with
  |none=>
   refine⟨_,rfl,cO ?_⟩
   refine⟨_,rfl,a,_,dx2,_,_,rfl,ho1,T.aq,T.ba,i6,_,_,rfl,rfl,dx2,_,ho1,ki,?_⟩
   rw[Co]
   have hb2:=hb1.setN (dx:=dx2) (n:=d1.n+1)
   have hc2:upd H1 a (.ins t.aQ dx2 (slF d1.tb st.one.moved (d1.n+1))) c=some (.dK (aE kv)):=by rw[ac na.symm];exact hc
   obtain⟨d3,hb3,n3,fin⟩:=key _ _ hb2 (λb o n w=>⟨by rw[ac (λy=>(fr1 b o n w).2 (.inl y))];exact(fr1 b o n w).1,(fr1 b o n w).2⟩) (by rw[wA,e,e1,hn];rfl)
   refine⟨_,rfl,_,rfl,_,rfl,c,_,rfl,DPut.k (k:=Sum.inl k) hc2 kl,?_⟩
   rw[dL]
   obtain⟨dx3,fs3,hi3,hm3⟩:=hb3.insM
   exact⟨_,rfl,a,dx3,fs3,rfl,hi3,hm3 _ (by decide+kernel),a,_,d3,rfl,hb3,z1.kv,n3,fin⟩
  |some v=>
   refine⟨_,rfl,cV ?_⟩
   obtain⟨d3,hb3,n3,fin⟩:=key H1 d1.n hb1 fr1 (by rw[wA,e,e1,hn];rfl)
   refine⟨_,rfl,_,rfl,_,rfl,c,_,rfl,DPut.k (k:=Sum.inl k) hc kl,?_⟩
   rw[dL]
   obtain⟨dx3,fs3,hi3,hm3⟩:=hb3.insM
   exact⟨_,rfl,a,dx3,fs3,rfl,hi3,hm3 _ (by decide+kernel),a,_,d3,rfl,hb3,z1.kv,n3,fin⟩
theorem ir (T:Txt K mg t):aX P w K mg base (CX1 P w) 5 t.jq t.fQ ["self","key"] (nM K t):=by
 have Gm:= @iu P w K mg base t T
 have Gn:= @dB P w K mg base t T
 have Go:= @bU P w K mg base t T
 have Gs:= @fG P w K mg base t T
 have Gx:= @dA P w K mg base t T
 refine T.Aw.okX oj (λvs H Q E h=>?_) (λcdv A outer s H vs Q E hr h=>?_)
 ·obtain⟨a,k,F,st,rfl,_⟩:=h
  rfl
 ·obtain⟨a,k,F,st,rfl,hA,h0,q1,q2⟩:=h
  refine⟨_,(ae (bc (jM (fB (aN (pv 0) T.aq T.kG Gs (hr.mono (by decide)) T.kR .nil az (aa (pv 1) ag))))
   (ah (tY rfl v9 (ua T.bF T.xM T.xN Gm (hr.mono (by decide)) (by rfl) T.uo T.qH .nil az (aa (pv 1) ag))))
   aR)
   (ae (aO (a8 (pv 0) T.aq T.jQ Gx (hr.mono (by decide)) T.j4 .nil az))
   (ae (aO (cM QG Xm PySem.F.type_dict_pop wt (aN (pv 0) T.aq T.c6 Go (hr.mono (by decide)) T.da .nil az (aa (pv 1) ag)) (aa (pv 1) ag)))
   (ae (iS (pv 0) aj Do)
   (ah (aO (a8 (pv 0) T.aq T.jR Gn (hr.mono (by decide)) T.j5 .nil az)))))))
   ,?_⟩
  obtain⟨dx,fs,hi,hm⟩:=hA.ins
  refine⟨_,rfl,a,dx,fs,rfl,hi,hm _ (by decide+kernel),_,rfl,a,k,F,st,rfl,hA,h0,λH0 F0 hA0 fr0=>?_⟩
  cases e:aI st.kv k with
  |none=>
   refine⟨_,rfl,cO ?_⟩
   exact qW T.bF T.kD (λea od H' hx hs=>q2 e ea od H' F0 hx (hA0.same hs) (fr0.trans (Fr.of_same hs))) rfl
  |some v=>
   refine⟨_,rfl,cV ?_⟩
   obtain⟨d,hb,hF,hn,nd,z⟩:=hA0
   obtain⟨dx,fs,hi,hm⟩:=hb.insM
   obtain⟨hl,q1⟩:=q1 (by rw[e];rfl)
   refine⟨_,rfl,a,dx,fs,rfl,hi,hm _ (by decide+kernel),a,st,d,rfl,hb,z,hl,λH1 d1 hb1 e1 fr1=>?_⟩
   obtain⟨dx1,fs1,hi1,hm1⟩:=hb1.insM
   have z1:=z.one
   refine⟨_,rfl,a,dx1,fs1,rfl,hi1,hm1 _ (by decide+kernel),_,rfl,a,k,st.one,d1,rfl,hb1,z1,λc kv ic=>?_⟩
   obtain⟨hc,cF,_⟩:=hb1.at ic
   have hv:=hb1.val k c kv ic
   rw[SSt.one_kv,e]at hv
   obtain⟨d3,hb3,e3,f3⟩:=hb1.drop z1 ic
   rw[SSt.one_kv]at hb3 f3
   refine⟨.inr (.inr (.inl ⟨rfl,.inl ⟨_,hc⟩⟩)),_,rfl,c,_,Sum.inl k,v,rfl,rfl,hc,liftK_val.trans hv,?_⟩
   rw[pz]
   obtain⟨dx3,ho3⟩:=hb3.obj
   refine⟨_,rfl,a,_,dx3,_,_,rfl,ho3,T.aq,T.ba,i6,_,_,rfl,rfl,dx3,_,ho3,ki,?_⟩
   rw[Co]
   have hb4:=hb3.setN (dx:=dx3) (n:=d3.n-1)
   obtain⟨dx4,fs4,hi4,hm4⟩:=hb4.insM
   have dl:=rK nd (mU e)
   have n4:d3.n-1=((bp st.kv k).length:Int):=by rw[e3,e1,hn];omega
   refine⟨_,rfl,a,dx4,fs4,rfl,hi4,hm4 _ (by decide+kernel),a,_,_,rfl,hb4,z1.kv,n4,λH5 d5 hb5 e5 fr5=>?_⟩
   refine q1 H5 _ ⟨d5,hb5,λb=>Iff.rfl,?_,?_,z1.kv.three⟩ ?_
   ·show d5.n=((SSt.three _).kv.length:Int)
    rw[SSt.three_kv,e5]
    exact n4
   ·show((SSt.three _).kv.map (·.1)).Nodup
    rw[SSt.three_kv]
    exact kC nd
   ·refine fr0.trans (Fr.trans (λb o n w=>fr1 b o (λy=>n ((hF b).mpr y)) w) (Fr.trans (λb o n w=>?_) fr5))
    exact⟨by rw[ac (λy=>n (.inl y)),ac (λy=>n (by rw[y];exact cF))];exact w,λy=>n ((f3 b).mp y)⟩
theorem dX (T:Txt K mg t):aX P w K mg base CX0 1 t.jn t.fN ["self"] (nI K t):=by
 refine T.At.ok oe (λvs H Q E h=>?_) (λcdv A outer s H vs Q E hr h=>?_)
 ·obtain⟨a,F,st,rfl,_⟩:=h
  rfl
 ·obtain⟨a,F,st,rfl,⟨d,hb,hF,hn,nd,z⟩,q⟩:=h
  refine⟨_,(ah (aH (ku rfl (CScope.of (M:=["row"]) (N:=["self"]) (N':=["self"]) (dsc:=am de) rfl rfl (by decide+kernel)) (cm (av (pv 0) rfl)) (λ_ _ _ _ _=>(ax (qB K rfl) (by rfl) T.bE a9 (aa (pv 0) ag))))))
   ,?_⟩
  have hA:SlA K t H a F st:=⟨d,hb,hF,hn,nd,z⟩
  obtain⟨dx,ho⟩:=hb.obj
  have tab:∃xs,H d.tb=some (.lst xs)∧xs.length=st.rows.length∧∀(i:Nat) (x:V),xs[i]?=some x→∃r rs,x= .ref r∧H r=some (.lst rs)∧st.rows[i]?=some (rs.length:Int):=by
   have ht:=hb.tbl
   have l0:((d.A0.map V.ref).length:Int)=st.size:=by rw[Q0];exact hb.row0.la
   unfold SSt.rows
   have r1:=hb.row1
   cases e:st.nxt with
   |none=>
    rw[e]at ht
    refine⟨_,ht,rfl,λi x hx=>?_⟩
    cases i with
    |zero=>cases hx;exact⟨d.r0,_,rfl,hb.row0.lst,by rw[l0];rfl⟩
    |succ j=>simp at hx
   |some m=>
    rw[e]at ht r1
    have l1:((d.A1.map V.ref).length:Int)=m:=by rw[Q0];exact r1.la
    refine⟨_,ht,rfl,λi x hx=>?_⟩
    cases i with
    |zero=>cases hx;exact⟨d.r0,_,rfl,hb.row0.lst,by rw[l0];rfl⟩
    |succ j=>
     cases j with
     |zero=>cases hx;exact⟨d.r1,_,rfl,r1.lst,by rw[l1];rfl⟩
     |succ j=>simp at hx
  obtain⟨xs,ht,lx,look⟩:=tab
  refine⟨_,rfl,a,_,dx,_,_,rfl,ho,T.aq,T.aK,dO,d.tb,rfl,⟨_,SqL.of ht⟩,λD hD=>?_⟩
  refine mi (K:=K) (a:=d.tb) (xs:=xs) (λi ys H3=>H3=upd H D (.lst ys)∧ys=(st.rows.take i).map V.int) ⟨rfl,rfl⟩ (λi ys H3 _ w=>SqL.of (by rw[w.1,ac (ai ht hD)];exact ht)) (λi x ys H3 hx w hDD=>?_) (λys H3 w hDD=>?_)
  ·obtain⟨e1,e2⟩:=w
   obtain⟨r,rs,rfl,hr,hs⟩:=look i x hx
   have hi:i<xs.length:=(Q4.mp hx).1
   have hr3:H3 r=some (.lst rs):=by rw[e1,ac (ai hr hD)];exact hr
   refine⟨_,rfl,r,_,rfl,.inl (SqL.of hr3),CNext.mk hi hDD ?_ ⟨?_,?_⟩⟩
   ·rw[e2,Q0,Qm]
    have:st.rows.length≤2:=by(unfold SSt.rows;cases st.nxt<;>simp)
    exact bK (by omega)
   ·rw[e1,cz]
   ·rw[e2,QA,hs,Qk]
    rfl
  ·obtain⟨e1,e2⟩:=w
   rw[lx,QO]at e2
   subst e2
   subst e1
   exact q _ F D (hA.new hD) (Fr.of_same (ao hD)) hD (hA.out hD) af
theorem CV {tb:Addr} {sh n:Int}:aY ("kept":Str) (.int n) (aY ("shifted":Str) (.int sh) (aY ("table":Str) (.ref tb) []))=slF tb sh n:=by
 have e1:aY ("table":Str) (.ref tb) []=[(("table":Str),V.ref tb)]:=rfl
 rw[e1,aY,if_neg (by decide+kernel),aY,aY,if_neg (by decide+kernel),aY,if_neg (by decide+kernel),aY]
 rfl
theorem iq (T:Txt K mg t):aX P w K mg base CX0 2 t.jp t.fP ["self"] (nK K t):=by
 obtain⟨tk_LEAST_SIZE,hLEAST_SIZE⟩:=T.sZ
 have Jb:= @kA P w K mg base t T
 refine T.Av.ok oi (λvs H Q E h=>?_) (λcdv A outer s H vs Q E hr h=>?_)
 ·obtain⟨a,dx,rfl,_⟩:=h
  rfl
 ·obtain⟨a,dx,rfl,ha,hd,q⟩:=h
  refine⟨_,(ae (bY (pv 0) (cu (aa (aP Jb (hr.mono (by decide)) (by rfl) T.my T.iP.kp T.mF .nil az (aa (cn (v:= .int 4) (by rfl) hLEAST_SIZE ⟨_,rfl⟩) ag)) ag)) rfl)
   (ae (bY (pv 0) aj rfl)
   (ah (bY (pv 0) aj rfl))))
   ,?_⟩
  refine⟨4,rfl,by decide,by decide,λH' r A s nr nA hr=>⟨(by show 1≤sizeLine;decide),λtb nt=>?_⟩⟩
  have ha1:=s _ _ ha
  have nta:a≠tb:=ai ha1 nt
  refine⟨_,rfl,a,_,dx,[],rfl,(by rw[ac nta];exact ha1),T.aq,T.aK,(by show 0<1000;decide),?_⟩
  refine⟨_,rfl,a,_,dx,_,rfl,af,T.aq,T.bh,?_,?_⟩
  ·show 1<1000
   decide
  refine⟨_,rfl,a,_,dx,_,rfl,af,T.aq,T.ba,?_,?_⟩
  ·have h1:=oG (f:="shifted") (v:= .int 0) (aY "table" (.ref tb) [])
   have h2:=oG (f:="table") (v:= .ref tb) []
   have h3:([]:List (Str×V)).length=0:=rfl
   omega
  rw[CV,cz,cz]
  have ntr:tb≠r:=(ai hr.lst nt).symm
  have sb:=SlB.fresh (t:=t) (H:=upd (upd H' tb (.lst [.ref r])) a (.ins t.aQ dx (slF tb 0 0))) (a:=a) (tb:=tb) (r:=r) (A:=A) (dx:=dx) af (by rw[ac nta.symm];exact af) (hr.frame λb hb1=>?_) ntr
  ·refine q _ _ ⟨_,sb,λb=>Iff.rfl,rfl,Zi,SzOk.new⟩ λb o n w=>?_
   have n1:b≠a:=λy=>n (.inl y)
   have w1:=s _ _ w
   have n2:b≠tb:=ai w1 nt
   refine⟨by rw[ac n1,ac n2];exact w1,λy=>?_⟩
   rcases y with y|y|y|y|⟨y,_⟩|y
   ·exact n1 y
   ·exact n2 y
   ·have y:b=r:=y
    rw[y,nr]at w;cases w
   ·rw[nA b y]at w;cases w
   ·cases y
   ·cases y
  ·have:∃o,H' b=some o:=by
    rcases hb1 with rfl|hb1
    ·exact⟨_,hr.lst⟩
    ·obtain⟨_,_,_,_,w⟩:=hr.has hb1
     exact⟨_,w⟩
   obtain⟨o,w⟩:=this
   have n2:b≠tb:=ai w nt
   have n1:b≠a:=λy=>by
    rcases hb1 with y2|y2
    ·rw[←y2,y,ha]at nr;cases nr
    ·have:=nA b y2;rw[y,ha]at this;cases this
   rw[ac n1,ac n2]
theorem oQ (T:Txt K mg t):aX P w K mg base CX0 3 t.jj t.fK ["self","place"] (nE K t):=by
 have J0:= @dX P w K mg base t T
 have Je:= @oO P w K mg base t T
 have Jg:= @qj P w K mg base t T
 refine T.Ar.ok sc_Slots__stop (λvs H Q E h=>?_) (λcdv A outer s H vs Q E hr h=>?_)
 ·obtain⟨a,p,F,st,rfl,_⟩:=h
  rfl
 ·obtain⟨a,p,F,st,rfl,hA,p0,p1,q⟩:=h
  refine⟨_,(ae (aF (i:=2) sc_Slots__stop.nd rfl (Or.inl rfl) (ax (rO rfl) (by rfl) T.vW pP (aa (a8 (pv 0) T.aq T.fI J0 (hr.mono (by decide)) T.gb .nil az) ag)))
   (ah (aH (br sV (aP Jg (hr.mono (by decide)) (by rfl) T.BB T.tI.kp T.BP .nil az (aa (aP Je (hr.mono (by decide)) (by rfl) T.xC T.rY.kp T.x6 .nil az (aa (pv 1) (aa (pv 2) ag))) (aa (pv 2) ag))) aj (λ_ _=>rfl)))))
   ,?_⟩
  have z:SzOk st:=let⟨_,_,_,_,_,z⟩:=hA;z
  obtain⟨s4,s5⟩:=bu (jT z)
  obtain⟨x,y,R⟩:=yL (jT z)
  obtain⟨dx,fs,hi,hm⟩:=hA.ins
  refine⟨_,rfl,a,dx,fs,rfl,hi,hm _ (by decide+kernel),a,F,st,rfl,hA,λH1 F1 l sA fr nl oF hl=>⟨l,st.rows,rfl,SqL.of hl,?_,λM hM hle=>?_⟩⟩
  ·unfold SSt.rows
   cases st.nxt<;>simp
  ·have eM:=zh hM hle
   subst eM
   refine⟨_,rfl,_,rfl,p,_,rfl,p0,by omega,_,rfl,_,_,rfl,Qs _ (by omega),by omega,by omega,λtp nt=>?_⟩
   rw[sg R p0 p1]
   exact⟨tp,_,_,_,rfl,rfl,SqT.of af,rfl,q _ F1 (sA.new nt) (fr.trans (Fr.of_same (ao nt)))⟩
theorem vI {kvs:List (Int×V)}:iD (aE kvs)=(kvs.map (·.1)).map V.int:=by
 unfold iD aE
 rw[Qy,Qy]
 rfl
structure En where
 p:Addr
 lk:Addr
 ri:Nat
 sz:Int
 j:Nat
 ks:List Int
structure EnAt (H:Hp) (e:En):Prop where
 tu:H e.p=some (.tup [.int e.sz,.int (e.j:Int),.ref e.lk])
 li:H e.lk=some (.lst (e.ks.map V.int))
theorem EnAt.same {H H':Hp} {e:En} (h:EnAt H e) (s:Same H H'):EnAt H' e:=⟨s _ _ h.tu,s _ _ h.li⟩
def zI (e f:En):Prop:=e.ri<f.ri∨(e.ri=f.ri∧e.j<f.j)
structure uO (st:SSt) (e:En):Prop where
 ne:e.ks≠[]
 up:b9 e.ks
 at_:∀z∈e.ks,z%65536%e.sz=(e.j:Int)
 row:st.rows[e.ri]?=some e.sz
 mv:st.rows.length=2→∀z∈e.ks,(z%65536%st.size<st.moved↔e.ri=1)
def mJ (K:PySem.W.Frag) (t:Adr):Sp:=λvs H Q _=>∃(a:Addr) (F:Addr→Prop) (st:SSt),vs=[.ref a]∧SlA K t H a F st∧st.kv.length<4096∧
 ∀(H':Hp) (l:Addr) (es:List En),Same H H'→H l=none→H' l=some (.lst (es.map λe=>V.ref e.p))→(∀e∈es,EnAt H' e∧uO st e∧H e.p=none∧H e.lk=none)→es.Pairwise zI→(∀z,z∈st.kv.map (·.1)↔∃e∈es,z∈e.ks)→es.length≤1000→Q (.ref l) H'
structure Rw where
 r:Addr
 A:List Addr
 C:List (List (Int×V))
 s:Int
def bj (st:SSt) (d:SlD):List Rw:=match st.nxt with|none=> [⟨d.r0,d.A0,d.C0,st.size⟩]|some m=> [⟨d.r0,d.A0,d.C0,st.size⟩,⟨d.r1,d.A1,d.C1,m⟩]
structure EnOk (RR:List Rw) (e:En):Prop where
 ne:e.ks≠[]
 up:b9 e.ks
 wh:∃(R:Rw) (kv:List (Int×V)),RR[e.ri]?=some R∧R.s=e.sz∧R.C[e.j]?=some kv∧∀z,z∈e.ks↔z∈kv.map (·.1)
structure Cs (RR:List Rw) (H H':Hp) (l:Addr) (es:List En) (i j:Nat):Prop where
 sm:Same H H'
 li:H' l=some (.lst (es.map λe=>V.ref e.p))
 en:∀e∈es,EnAt H' e∧e.p≠l∧e.lk≠l∧EnOk RR e∧(e.ri<i∨(e.ri=i∧e.j<j))∧H e.p=none∧H e.lk=none
 pw:es.Pairwise zI
 al:∀(ri x:Nat) (R:Rw) (kv:List (Int×V)),RR[ri]?=some R→R.C[x]?=some kv→kv≠[]→(ri<i∨(ri=i∧x<j))→∃e∈es,e.ri=ri∧e.j=x
 ln:es.length≤256*i+j
theorem Cs.same {RR:List Rw} {H H' H'':Hp} {l:Addr} {es:List En} {i j:Nat} (c:Cs RR H H' l es i j) (s:Same H' H''):Cs RR H H'' l es i j:=
 ⟨c.sm.trans s,s _ _ c.li,λe he=>by obtain⟨h1,h2⟩:=c.en e he;exact⟨h1.same s,h2⟩,c.pw,c.al,c.ln⟩
theorem Cs.skip {RR:List Rw} {H H':Hp} {l:Addr} {es:List En} {i j:Nat} {R:Rw} (c:Cs RR H H' l es i j) (hR:RR[i]?=some R) (hk:R.C[j]?=some []):Cs RR H H' l es i (j+1):=by
 refine⟨c.sm,c.li,λe he=>?_,c.pw,λri x R' kv e1 e2 ne hx=>?_,by have:=c.ln;omega⟩
 ·obtain⟨h1,h2,h3,h4,h5,h6⟩:=c.en e he
  exact⟨h1,h2,h3,h4,by omega,h6⟩
 ·by_cases z:ri=i∧x=j
  ·obtain⟨rfl,rfl⟩:=z
   rw[hR]at e1
   cases e1
   rw[hk]at e2
   cases e2
   exact absurd rfl ne
  ·exact c.al ri x R' kv e1 e2 ne (by omega)
theorem Cs.add {RR:List Rw} {H H' H'':Hp} {l p lk:Addr} {es:List En} {i j:Nat} {R:Rw} {kv:List (Int×V)} {ms:List Int} (c:Cs RR H H' l es i j) (hR:RR[i]?=some R) (hk:R.C[j]?=some kv) (ne:ms≠[]) (up:b9 ms) (me:∀z,z∈ms↔z∈kv.map (·.1))
  (s:Same H' H'') (nl:H l=none) (e1:H'' p=some (.tup [.int R.s,.int (j:Int),.ref lk])) (e2:H'' lk=some (.lst (ms.map V.int))) (np:H' p=none) (nk:H' lk=none):
  Cs RR H (upd H'' l (.lst (es.map (λe=>V.ref e.p)++ [.ref p]))) l (es++ [⟨p,lk,i,R.s,j,ms⟩]) i (j+1):=by
 have pl:p≠l:=λz=>by rw[z,c.li]at np;cases np
 have kl:lk≠l:=λz=>by rw[z,c.li]at nk;cases nk
 have old:∀{b:Addr},H' b=none→H b=none:=λ{b} h=>by
  cases e:H b with
  |none=>rfl
  |some o=>rw[c.sm _ _ e]at h;cases h
 refine⟨cE (c.sm.trans s) nl,by rw[af,Qk];rfl,λe he=>?_,?_,λri x R' kv' h1 h2 hne hx=>?_,by have:=c.ln;rw[Qg,QW];omega⟩
 ·rcases Q7.mp he with he|he
  ·obtain⟨h1,h2,h3,h4,h5,h6⟩:=c.en e he
   have h1:=h1.same s
   exact⟨⟨by rw[ac h2];exact h1.tu,by rw[ac h3];exact h1.li⟩,h2,h3,h4,by omega,h6⟩
  ·rw[Qd.mp he]
   exact⟨⟨by rw[ac pl];exact e1,by rw[ac kl];exact e2⟩,pl,kl,⟨ne,up,R,kv,hR,rfl,hk,me⟩,.inr ⟨rfl,Xb _⟩,old np,old nk⟩
 ·refine Qj.mpr ⟨c.pw,Z1 _ _,λe he f hf=>?_⟩
  rw[Qd.mp hf]
  obtain⟨_,_,_,_,h5,_⟩:=c.en e he
  exact h5
 ·by_cases z:ri=i∧x=j
  ·exact⟨_,Qu _ Q8,z.1.symm,z.2.symm⟩
  ·obtain⟨e,he,g⟩:=c.al ri x R' kv' h1 h2 hne (by omega)
   exact⟨e,Z0 _ he,g⟩
theorem Cs.row {RR:List Rw} {H H':Hp} {l:Addr} {es:List En} {i j:Nat} {R:Rw} (c:Cs RR H H' l es i j) (hR:RR[i]?=some R) (hj:R.C.length=j) (h256:j≤256):Cs RR H H' l es (i+1) 0:=by
 refine⟨c.sm,c.li,λe he=>?_,c.pw,λri x R' kv e1 e2 ne hx=>c.al ri x R' kv e1 e2 ne ?_,by have:=c.ln;omega⟩
 ·obtain⟨h1,h2,h3,h4,h5,h6⟩:=c.en e he
  exact⟨h1,h2,h3,h4,by omega,h6⟩
 ·by_cases z:ri<i
  ·exact .inl z
  ·have z:ri=i:=by omega
   subst z
   rw[hR]at e1
   cases e1
   have:=(Q4.mp e2).1
   exact .inr ⟨rfl,by omega⟩
theorem A8 {st:SSt} {d:SlD} {i:Nat} {R:Rw} (h:(bj st d)[i]?=some R):st.rows[i]?=some R.s:=by
 unfold bj at h
 unfold SSt.rows
 cases e:st.nxt with
 |none=>
  rw[e]at h
  cases i with
  |zero=>cases h;rfl
  |succ j=>simp at h
 |some m=>
  rw[e]at h
  cases i with
  |zero=>cases h;rfl
  |succ j=>
   cases j with
   |zero=>cases h;rfl
   |succ j=>simp at h
theorem rG {t:Adr} {H:Hp} {a:Addr} {st:SSt} {d:SlD} {e:En} (hb:SlB t H a st d) (h:EnOk (bj st d) e):uO st e:=by
 obtain⟨ne,up,R,kv,hR,hs,hk,me⟩:=h
 obtain⟨z0,hz0⟩:=X8 _ ne
 have kvne:kv≠[]:=λz=>by have:=(me z0).mp hz0;rw[z]at this;cases this
 have row1:=hb.row1
 have hrow:=A8 hR
 rw[hs]at hrow
 have hp:∀z∈e.ks,∃q∈kv,q.1=z:=λz hz=>by
  obtain⟨q,hq,e⟩:=Qb.mp ((me z).mp hz)
  exact⟨q,hq,e⟩
 have key:(∀z∈e.ks,z%65536%e.sz=(e.j:Int))∧(st.rows.length=2→∀z∈e.ks,(z%65536%st.size<st.moved↔e.ri=1)):=by
  unfold bj at hR
  cases en:st.nxt with
  |none=>
   rw[en]at hR
   cases hi:e.ri with
   |zero=>
    rw[hi]at hR
    cases hR
    have hs:st.size=e.sz:=hs
    rw[←hs]
    refine⟨λz hz=>?_,λh2=>?_⟩
    ·obtain⟨q,hq,rfl⟩:=hp z hz
     exact hb.row0.home _ _ hk q hq
    ·unfold SSt.rows at h2
     rw[en]at h2
     cases h2
   |succ j=>rw[hi]at hR;simp at hR
  |some m=>
   rw[en]at hR row1
   cases hi:e.ri with
   |zero=>
    rw[hi]at hR
    cases hR
    have hs:st.size=e.sz:=hs
    rw[←hs]
    have hom:∀z∈e.ks,z%65536%st.size=(e.j:Int):=λz hz=>by
     obtain⟨q,hq,rfl⟩:=hp z hz
     exact hb.row0.home _ _ hk q hq
    refine⟨hom,λ_ z hz=>?_⟩
    have:¬(e.j:Int)<st.moved:=λc=>kvne (hb.old _ _ hk c)
    rw[hom z hz]
    exact⟨λc=>absurd c this,λc=>by cases c⟩
   |succ j=>
    cases j with
    |zero=>
     rw[hi]at hR
     cases hR
     subst hs
     refine⟨λz hz=>?_,λ_ z hz=>?_⟩
     ·obtain⟨q,hq,rfl⟩:=hp z hz
      exact row1.home _ _ hk q hq
     ·obtain⟨q,hq,rfl⟩:=hp z hz
      exact⟨λ_=>rfl,λ_=>hb.new _ _ hk q hq⟩
    |succ j=>rw[hi]at hR;simp at hR
 exact⟨ne,up,key.1,hrow,key.2⟩
theorem vO {t:Adr} {H H':Hp} {a l:Addr} {st:SSt} {d:SlD} {es:List En} {n:Nat} (hb:SlB t H a st d) (sz:SzOk st) (c:Cs (bj st d) H H' l es n 0) (hn:(bj st d).length≤n):∀z,z∈st.kv.map (·.1)↔∃e∈es,z∈e.ks:=by
 intro z
 have wh:∀(R:Rw) (ri x:Nat) (kv:List (Int×V)),(bj st d)[ri]?=some R→R.C[x]?=some kv→z∈kv.map (·.1)→∃e∈es,z∈e.ks:=λR ri x kv hR hk hz=>by
  have ne:kv≠[]:=λy=>by rw[y]at hz;cases hz
  have lt:=(Q4.mp hR).1
  obtain⟨e,he,g1,g2⟩:=c.al ri x R kv hR hk ne (by omega)
  obtain⟨_,_,_,ok,_⟩:=c.en e he
  obtain⟨R',kv',h1,_,h3,h4⟩:=ok.wh
  rw[g1,hR]at h1
  cases h1
  rw[g2,hk]at h3
  cases h3
  exact⟨e,he,(h4 z).mpr hz⟩
 constructor
 ·intro hz
  obtain⟨c',kv,ic⟩:=hb.cell sz z
  have hv:=hb.val z c' kv ic
  have hz':z∈kv.map (·.1):=mem_keys.mpr (by rw[hv];exact mem_keys.mp hz)
  rcases ic with⟨_,_,h3⟩|⟨m,en,_,_,h3⟩
  ·refine wh ⟨d.r0,d.A0,d.C0,st.size⟩ 0 _ kv ?_ h3 hz'
   unfold bj
   cases st.nxt<;>rfl
  ·refine wh ⟨d.r1,d.A1,d.C1,m⟩ 1 _ kv ?_ h3 hz'
   unfold bj
   rw[en]
   rfl
 ·rintro ⟨e,he,hz⟩
  obtain⟨_,_,_,ok,_⟩:=c.en e he
  have good:=rG hb ok
  obtain⟨R,kv,hR,hs,hk,me⟩:=ok.wh
  have hz':=(me z).mp hz
  have hat:=good.at_ z hz
  have ic:∃c',IsCell d st z c' kv:=by
   have hlen:∀{A:List Addr} {C:List (List (Int×V))} {r:Addr} {s:Int} {x:Nat},RowOk H r A C s→C[x]?=some kv→∃b,A[x]?=some b:=λ{A C r s x} ro h=>by
    have h1:=(Q4.mp h).1
    have h2:=ro.la
    have h3:=ro.lc
    exact⟨A[x]'(by omega),Q5 _⟩
   have row1:=hb.row1
   have mv:=good.mv
   unfold bj at hR
   cases en:st.nxt with
   |none=>
    rw[en]at hR
    cases hi:e.ri with
    |zero=>
     rw[hi]at hR
     cases hR
     have hs:st.size=e.sz:=hs
     rw[←hs]at hat
     obtain⟨b,eb⟩:=hlen hb.row0 hk
     refine⟨b,.inl ⟨?_,by rw[hat];exact eb,by rw[hat];exact hk⟩⟩
     rw[hat,SSt.moved_none en]
     omega
    |succ j=>rw[hi]at hR;simp at hR
   |some m=>
    rw[en]at hR row1
    have l2:st.rows.length=2:=by unfold SSt.rows;rw[en];rfl
    cases hi:e.ri with
    |zero=>
     rw[hi]at hR
     cases hR
     have hs:st.size=e.sz:=hs
     rw[←hs]at hat
     obtain⟨b,eb⟩:=hlen hb.row0 hk
     refine⟨b,.inl ⟨?_,by rw[hat];exact eb,by rw[hat];exact hk⟩⟩
     have:=(mv l2 z hz)
     rw[hi]at this
     exact Int.not_lt.mp λy=>by cases this.mp y
    |succ j=>
     cases j with
     |zero=>
      rw[hi]at hR
      cases hR
      subst hs
      obtain⟨b,eb⟩:=hlen row1 hk
      exact⟨b,.inr ⟨_,en,(mv l2 z hz).mpr hi,by rw[hat];exact eb,by rw[hat];exact hk⟩⟩
     |succ j=>rw[hi]at hR;simp at hR
  obtain⟨c',ic⟩:=ic
  exact mem_keys.mpr (by rw[←hb.val z c' kv ic];exact mem_keys.mp hz')
theorem mP (T:Txt K mg t):aX P w K mg base CX0 1 t.iK t.d8 ["self"] (mJ K t):=by
 refine T.zY.ok sc_Slots__cells (λvs H Q E h=>?_) (λcdv A outer s H vs Q E hr h=>?_)
 ·obtain⟨a,F,st,rfl,_⟩:=h
  rfl
 ·obtain⟨a,F,st,rfl,hA,hl4,q⟩:=h
  refine⟨_,(ae (aF (i:=1) sc_Slots__cells.nd rfl (Or.inl rfl) (cu ag))
   (ae (fE PassesOwn.never rfl (cm (av (pv 0) rfl)) (bN (i:=2) sc_Slots__cells.nd rfl (Or.inl rfl))
   (ah (fE PassesOwn.never rfl (Bk (by rfl) T.Ca (aa (pv 2) ag)) (sF rfl (dq (bN (i:=3) sc_Slots__cells.nd rfl (Or.inl rfl)) (dq (bN (i:=4) sc_Slots__cells.nd rfl (Or.inl rfl)) mW)))
   (ah (bc (aC mt (ax mj (by rfl) T.bE a9 (aa (pv 4) ag)) aj (aG _))
   (ah (aO (cM Qt QX QY cx (pv 1) (aa (dW (aa (ax aA (by rfl) T.bE a9 (aa (pv 2) ag)) (aa (pv 3) (aa (ax (kQ hr.hd) (by rfl) T.gd c8 (aa (pv 4) ag)) ag)))) ag))))
   aR)))))
   (ah (aH (pv 1)))))
   ,?_⟩
  obtain⟨d,hb,hF,hn,nd,sz⟩:=hA
  obtain⟨dx,ho⟩:=hb.obj
  have pw:=bu sz.pw
  have tab:∃xs,H d.tb=some (.lst xs)∧xs.length=(bj st d).length∧(bj st d).length≤2∧∀(i:Nat) (x:V),xs[i]?=some x→∃R:Rw,x= .ref R.r∧(bj st d)[i]?=some R∧RowOk H R.r R.A R.C R.s∧R.s≤256:=by
   have ht:=hb.tbl
   have r1:=hb.row1
   unfold bj
   cases e:st.nxt with
   |none=>
    rw[e]at ht
    refine⟨_,ht,rfl,by simp,λi x hx=>?_⟩
    cases i with
    |zero=>cases hx;exact⟨_,rfl,rfl,hb.row0,pw.2⟩
    |succ j=>simp at hx
   |some m=>
    rw[e]at ht r1
    refine⟨_,ht,rfl,by simp,λi x hx=>?_⟩
    cases i with
    |zero=>cases hx;exact⟨_,rfl,rfl,hb.row0,pw.2⟩
    |succ j=>
     cases j with
     |zero=>cases hx;exact⟨_,rfl,rfl,r1,(bu (sz.nx m e).1).2⟩
     |succ j=>simp at hx
  obtain⟨xs,ht,lx,l2,look⟩:=tab
  have short:∀(k:Int) (c:Addr) (kv:List (Int×V)),IsCell d st k c kv→kv.length≤st.kv.length:=λk c kv ic=>hb.short sz ic
  refine⟨Qh _,λl nl=>?_⟩
  have s0:Same H (upd H l (.lst [])):=ao nl
  have c0:Cs (bj st d) H (upd H l (.lst [])) l [] 0 0:=⟨s0,af,(λe he=>by cases he),List.Pairwise.nil,(λri x R kv _ _ _ h=>by omega),by simp⟩
  generalize upd H l (.lst [])=H0 at s0 c0⊢
  refine⟨_,rfl,a,_,dx,_,_,rfl,s0 _ _ ho,T.aq,T.aK,dO,d.tb,rfl,⟨_,SqL.of (s0 _ _ ht)⟩,iV (K:=K) (a:=d.tb) (xs:=xs) (λi σ H'=>∃(v2 v3 v4:Option V) (es:List En),σ=[some (.ref a),some (.ref l),v2,v3,v4]∧Cs (bj st d) H H' l es i 0)
   ⟨_,_,_,[],rfl,c0⟩ (λi σ H' _ w=>by obtain⟨_,_,_,_,_,c⟩:=w;exact SqL.of (c.sm _ _ ht)) (λi x σ H' hx w=>?_) (λσ H' w=>?_)⟩
  ·obtain⟨v2,v3,v4,es,eσ,c⟩:=w
   subst eσ
   obtain⟨R,rfl,hR,ro,r256⟩:=look i x hx
   have iL:=(Q4.mp hx).1
   have hr:=c.sm _ _ ro.lst
   have lA:((R.A.map V.ref).length:Int)=R.s:=by rw[Q0];exact ro.la
   refine⟨_,rfl,R.r,rfl,⟨_,SqL.of hr⟩,xR (K:=K) (a:=R.r) (xs:=R.A.map V.ref) (λj σ H'=>∃(v3 v4:Option V) (es:List En),σ=[some (.ref a),some (.ref l),some (.ref R.r),v3,v4]∧Cs (bj st d) H H' l es i j)
    ⟨_,_,es,rfl,c⟩ (λj σ H' _ w=>by obtain⟨_,_,_,_,c⟩:=w;exact SqL.of (c.sm _ _ ro.lst)) (λj x p σ H' hx w npp=>?_) (λσ H' w=>?_)⟩
   ·obtain⟨v3,v4,es,eσ,c⟩:=w
    subst eσ
    have jl:j<(R.A.map V.ref).length:=(Q4.mp hx).1
    have jA:j<R.A.length:=by rw[Q0]at jl;exact jl
    have eb:R.A[j]?=some R.A[j]:=Q5 jA
    obtain rfl:x= .ref R.A[j]:=by
     rw[Ql,eb]at hx
     cases hx
     rfl
    have jC:j<R.C.length:=by have:=ro.la;have:=ro.lc;omega
    have ek:R.C[j]?=some R.C[j]:=Q5 jC
    have hbb:=ro.cell j _ _ eb ek
    have ndk:=ro.ndk j _ ek
    generalize R.A[j]=b at eb hbb
    generalize R.C[j]=kv at ek hbb ndk
    refine⟨p,_,rfl,SqT.of af,rfl,_,_,rfl,_,_,rfl,rfl,?_⟩
    have c:=c.same (ao (o:= .tup [.int (j:Int),.ref b]) npp)
    generalize upd H' p (.tup [.int (j:Int),.ref b])=H4 at c⊢
    have hb4:=c.sm _ _ hbb
    refine⟨_,rfl,b,_,rfl,hb4,_,_,rfl,rfl,_,rfl,?_⟩
    by_cases ck:kv=[]
    ·subst ck
     refine bR (by show ¬((aE ([]:List (Int×V))).length:Int)>0;decide) ?_
     exact⟨_,_,es,rfl,c.skip hR ek⟩
    ·refine iF (by rw[bC];have:=QP.mpr ck;omega) ?_
     have cl:=c.ln
     refine⟨_,rfl,.inl ⟨rfl,_,SqL.of c.li⟩,_,rfl,R.r,_,rfl,.inl (SqL.of (c.sm _ _ ro.lst)),_,rfl,_,rfl,b,_,kv.map (·.1),rfl,.inl hb4,vI,λlk ms nk pm pw=>⟨(by show 3≤sizeLine;decide),λp2 np2=>?_⟩⟩
     rw[lA]
     have s5:Same H4 (upd H4 lk (.lst (ms.map V.int))):=ao nk
     have e5:upd H4 lk (.lst (ms.map V.int)) lk=some (.lst (ms.map V.int)):=af
     generalize upd H4 lk (.lst (ms.map V.int))=H5 at s5 e5 np2⊢
     have s6:=s5.trans (ao (o:= .tup [.int R.s,.int (j:Int),.ref lk]) np2)
     have e6:upd H5 p2 (.tup [.int R.s,.int (j:Int),.ref lk]) p2=some (.tup [.int R.s,.int (j:Int),.ref lk]):=af
     have e6k:=ao (o:= .tup [.int R.s,.int (j:Int),.ref lk]) np2 _ _ e5
     have np4:H4 p2=none:=by
      cases q':H4 p2 with
      |none=>rfl
      |some o=>rw[s5 _ _ q']at np2;cases np2
     generalize upd H5 p2 (.tup [.int R.s,.int (j:Int),.ref lk])=H6 at s6 e6 e6k⊢
     refine⟨l,_,_,rfl,rfl,s6 _ _ c.li,bK (by rw[Q0];omega),?_⟩
     have mne:ms≠[]:=λz=>by
      have:=pm.length_eq
      rw[z,Q0]at this
      exact ck (Zx.mp this.symm)
     have mr:b9 ms:=(pw.and (pm.nodup_iff.mpr ndk)).imp λh=>by omega
     exact⟨_,_,_,rfl,c.add hR ek mne mr (λz=>pm.mem_iff) s6 nl e6 e6k np4 nk⟩
   ·obtain⟨v3,v4,es,eσ,c⟩:=w
    subst eσ
    have hc:R.C.length=(R.A.map V.ref).length:=by have:=ro.la;have:=ro.lc;rw[Q0];omega
    exact⟨_,_,_,es,rfl,c.row hR hc (by omega)⟩
  ·obtain⟨v2,v3,v4,es,eσ,c⟩:=w
   subst eσ
   have ln:=c.ln
   rw[lx]at c ln
   exact⟨_,rfl,q H' l es c.sm nl c.li (λe he=>by obtain⟨h1,_,_,h4,_,h6⟩:=c.en e he;exact⟨h1,rG hb h4,h6⟩) c.pw (vO hb sz c (Q6 _)) (by omega)⟩
structure Tp where
 p:Addr
 k:Int
 v:V
def Tp.kv (e:Tp):Int×V:=(e.k,e.v)
def plc (k:Int):Int:=tz (k%65536)
theorem mY {lo hi st:Int} {x:Nat} (h:0<st):x<j2 lo hi st↔lo+(x:Int)*st<hi:=by
 unfold j2
 rw[i8 h]
 by_cases c:lo<hi
 ·rw[if_pos c]
  have a:0≤(hi-lo-1)/st:=XX (by omega) (by omega)
  have e:(x:Int)≤(hi-lo-1)/st↔(x:Int)*st≤hi-lo-1:=Int.le_ediv_iff_mul_le h
  omega
 ·rw[if_neg c]
  have:0≤(x:Int)*st:=X7 (by omega) (by omega)
  omega
theorem mn {kv:List (Int×V)} {k:Int} {v:V} (nd:(kv.map (·.1)).Nodup) (h:(k,v)∈kv):aI kv k=some v:=by
 induction kv with
 |nil=>cases h
 |cons p r ih=>
  rw[Qr,QE]at nd
  by_cases e:p.1=k
  ·rw[aZ e]
   rcases Qe.mp h with h|h
   ·rw[←h]
   ·exact absurd (X1 (f:=(·.1)) h) (by rw[←e]at*;exact nd.1)
  ·rw[aW e]
   rcases Qe.mp h with h|h
   ·rw[←h]at e;exact absurd rfl e
   ·exact ih nd.2 h
theorem eP {kv:List (Int×V)} {k:Int} {v:V} (h:aI kv k=some v):(k,v)∈kv:=by
 induction kv with
 |nil=>rw[gg]at h;cases h
 |cons p r ih=>
  by_cases e:p.1=k
  ·rw[aZ e]at h
   cases h
   rw[←e]
   exact Q8
  ·rw[aW e]at h
   exact Qa _ (ih h)
theorem m6 {t:Adr} {H:Hp} {a:Addr} {st:SSt} {d:SlD} {ri j:Nat} {R:Rw} {kv:List (Int×V)} {k:Int} {v:V} (hb:SlB t H a st d) (hR:(bj st d)[ri]?=some R) (hk:R.C[j]?=some kv) (hv:(k,v)∈kv):
  k%65536%R.s=(j:Int)∧(kv.map (·.1)).Nodup∧∃c,IsCell d st k c kv:=by
 have hlen:∀{A:List Addr} {C:List (List (Int×V))} {r:Addr} {s:Int} {x:Nat},RowOk H r A C s→C[x]?=some kv→∃b,A[x]?=some b:=λ{A C r s x} ro h=>by
  have h1:=(Q4.mp h).1
  have h2:=ro.la
  have h3:=ro.lc
  exact⟨A[x]'(by omega),Q5 _⟩
 have kvne:kv≠[]:=λz=>by rw[z]at hv;cases hv
 have row1:=hb.row1
 have zero:(j:Int)<st.moved→d.C0[j]?=some kv→False:=λh1 h2=>kvne (hb.old _ _ h2 h1)
 unfold bj at hR
 cases en:st.nxt with
 |none=>
  rw[en]at hR
  cases ri with
  |zero=>
   cases hR
   have hat:=hb.row0.home _ _ hk _ hv
   obtain⟨b,eb⟩:=hlen hb.row0 hk
   refine⟨hat,hb.row0.ndk _ _ hk,b,.inl ⟨?_,by rw[hat];exact eb,by rw[hat];exact hk⟩⟩
   rw[hat,SSt.moved_none en]
   omega
  |succ j=>simp at hR
 |some m=>
  rw[en]at hR row1
  cases ri with
  |zero=>
   cases hR
   have hat:=hb.row0.home _ _ hk _ hv
   obtain⟨b,eb⟩:=hlen hb.row0 hk
   refine⟨hat,hb.row0.ndk _ _ hk,b,.inl ⟨?_,by rw[hat];exact eb,by rw[hat];exact hk⟩⟩
   rw[hat]
   exact Int.not_lt.mp λy=>zero y hk
  |succ j'=>
   cases j' with
   |zero=>
    cases hR
    have hat:=row1.home _ _ hk _ hv
    obtain⟨b,eb⟩:=hlen row1 hk
    exact⟨hat,row1.ndk _ _ hk,b,.inr ⟨_,en,hb.new _ _ hk _ hv,by rw[hat];exact eb,by rw[hat];exact hk⟩⟩
   |succ j=>simp at hR
def i5 (C:List (List (Int×V))) (s m:Int) (x:Nat):List (Int×V):=C.getD (s+(x:Int)*m).toNat []
def A9 (s m:Int) (R:Rw):List (Int×V):=(List.range (j2 s R.s m)).flatMap (i5 R.C s m)
def Di (st:SSt) (d:SlD) (s:Int):List (Int×V):=(bj st d).flatMap (A9 s st.low)
theorem lK {st:SSt} {d:SlD} (z:SzOk st) {R:Rw} (h:R∈bj st d):R.s=st.low∨R.s=2*st.low:=by
 unfold bj at h
 unfold SSt.low
 cases e:st.nxt with
 |none=>rw[e]at h;rw[Qd.mp h];exact .inl rfl
 |some m=>
  rw[e]at h
  obtain⟨_,_,_,nx⟩:=z.nx m e
  have p:=bu z.pw
  show R.s=(if m<st.size then m else st.size)∨R.s=2*(if m<st.size then m else st.size)
  rcases Qe.mp h with h|h
  ·rw[h]
   show st.size=_∨st.size=_
   split<;>omega
  ·rw[Qd.mp h]
   show m=_∨m=_
   split<;>omega
theorem wz {x r m:Int} (h:r=m∨r=2*m):x%r%m=x%m:=by
 rcases h with rfl|rfl
 ·exact Int.emod_emod_of_dvd _ (Int.dvd_refl _)
 ·exact Int.emod_emod_of_dvd _ ⟨2,by omega⟩
theorem By {t:Adr} {H:Hp} {a:Addr} {st:SSt} {d:SlD} {s:Int} (hb:SlB t H a st d) (z:SzOk st) (nd:(st.kv.map (·.1)).Nodup) (s0:0≤s) (s1:s<st.low) (k:Int) (v:V):
  (k,v)∈Di st d s↔(k,v)∈st.kv∧k%65536%st.low=s:=by
 have lp:=bu (jT z)
 constructor
 ·intro h
  obtain⟨R,hR,h⟩:=ZL.mp h
  obtain⟨x,hx,h⟩:=ZL.mp h
  have hx:=XZ.mp hx
  have hr:=lK z hR
  obtain⟨ri,hri,eR⟩:=QD hR
  have eR:(bj st d)[ri]?=some R:=by rw[Q5 hri,eR]
  unfold i5 at h
  have xs:=(mY (by omega)).mp hx
  have xm:0≤(x:Int)*st.low:=X7 (by omega) (by omega)
  cases ek:R.C[(s+(x:Int)*st.low).toNat]? with
  |none=>rw[Qn,ek]at h;cases h
  |some kv=>
   rw[Qn,ek]at h
   have h:(k,v)∈kv:=h
   obtain⟨h1,h2,c,h3⟩:=m6 hb eR ek h
   refine⟨eP (by rw[←hb.val k c kv h3];exact mn h2 h),?_⟩
   rw[←wz hr,h1,Xw (by omega),Int.add_mul_emod_self_right]
   exact Int.emod_eq_of_lt s0 s1
 ·rintro ⟨h,hs⟩
  obtain⟨c,kv,ic⟩:=hb.cell z k
  have hv:=hb.val k c kv ic
  rw[mn nd h]at hv
  have hm:=eP hv
  have fin:∀R:Rw,R∈bj st d→R.C[(k%65536%R.s).toNat]?=some kv→(k,v)∈Di st d s:=λR hR hk=>by
   have hr:=lK z hR
   have j0:0≤k%65536%R.s:=Qs _ (by omega)
   have j1:k%65536%R.s<R.s:=Qv _ (by omega)
   have jm:=wz (x:=k%65536) hr
   rw[hs]at jm
   have dv:=Xo (k%65536%R.s) st.low
   have q0:0≤k%65536%R.s/st.low:=XX j0 (by omega)
   have eq:s+((k%65536%R.s/st.low).toNat:Int)*st.low=k%65536%R.s:=by
    rw[Xw q0,XB]
    omega
   refine ZL.mpr ⟨R,hR,ZL.mpr ⟨(k%65536%R.s/st.low).toNat,XZ.mpr ((mY (by omega)).mpr (by rw[eq];exact j1)),?_⟩⟩
   unfold i5
   rw[eq,Qn,hk]
   exact hm
  rcases ic with⟨_,_,h3⟩|⟨m,en,_,_,h3⟩
  ·refine fin ⟨d.r0,d.A0,d.C0,st.size⟩ ?_ h3
   unfold bj
   cases st.nxt<;>simp
  ·refine fin ⟨d.r1,d.A1,d.C1,m⟩ ?_ h3
   unfold bj
   rw[en]
   simp
theorem iT {C:List (List (Int×V))} {s m:Int} {x:Nat} {p:Int×V} (h:p∈i5 C s m x):∃kv,C[(s+(x:Int)*m).toNat]?=some kv∧p∈kv:=by
 unfold i5 at h
 cases ek:C[(s+(x:Int)*m).toNat]? with
 |none=>rw[Qn,ek]at h;cases h
 |some kv=>
  rw[Qn,ek]at h
  exact⟨kv,rfl,h⟩
theorem xy {t:Adr} {H:Hp} {a:Addr} {st:SSt} {d:SlD} {s:Int} (hb:SlB t H a st d) (z:SzOk st) (s0:0≤s):((Di st d s).map (·.1)).Nodup:=by
 have lp:=bu (jT z)
 refine Qp.mpr ?_
 have row:∀R∈bj st d,(A9 s st.low R).Pairwise (λp q=>p.1≠q.1):=λR hR=>by
  obtain⟨ri,hri,eR⟩:=QD hR
  have eR:(bj st d)[ri]?=some R:=by rw[Q5 hri,eR]
  refine List.pairwise_flatMap.mpr ⟨λx _=>?_,?_⟩
  ·unfold i5
   cases ek:R.C[(s+(x:Int)*st.low).toNat]? with
   |none=>rw[Qn,ek];exact List.Pairwise.nil
   |some kv=>
    rw[Qn,ek]
    show List.Pairwise _ kv
    cases ke:kv with
    |nil=>exact List.Pairwise.nil
    |cons p r=>
     have:=(m6 hb eR ek (k:=p.1) (v:=p.2) (by rw[ke];exact Q8)).2.1
     rw[ke]at this
     exact Qp.mp this
  ·refine(List.pairwise_lt_range (n:=j2 s R.s st.low)).imp λ{x y} hxy p hp q hq e=>?_
   obtain⟨kv,h1,h2⟩:=iT hp
   obtain⟨kv',h3,h4⟩:=iT hq
   have a1:=(m6 hb eR h1 h2).1
   have a2:=(m6 hb eR h3 h4).1
   have m1:(x:Int)*st.low<(y:Int)*st.low:=Int.mul_lt_mul_of_pos_right (by omega) (by omega)
   have m0:0≤(x:Int)*st.low:=X7 (by omega) (by omega)
   rw[e,a2]at a1
   omega
 refine List.pairwise_flatMap.mpr ⟨row,?_⟩
 have row1:=hb.row1
 unfold bj
 cases en:st.nxt with
 |none=>exact Z1 _ _
 |some m=>
  refine Z7.mpr ⟨λR hR p hp q hq e=>?_,Z1 _ _⟩
  rw[Qd.mp hR]at hq
  obtain⟨x,_,hp⟩:=ZL.mp hp
  obtain⟨y,_,hq⟩:=ZL.mp hq
  obtain⟨kv,h1,h2⟩:=iT hp
  obtain⟨kv',h3,h4⟩:=iT hq
  have n1:=hb.new _ _ h3 _ h4
  have n2:=hb.row0.home _ _ h1 _ h2
  have n3:¬((s+(x:Int)*st.low).toNat:Int)<st.moved:=λc=>by
   have:=hb.old _ _ h1 c
   rw[this]at h2
   cases h2
  rw[←e,n2]at n1
  exact n3 n1
structure Ly (X:List Addr) (H H':Hp) (l:Addr) (ts:List Tp) (L:List (Int×V)):Prop where
 sm:∀c o,c∉X→H c=some o→H' c=some o
 li:H' l=some (.lst (ts.map λe=>V.ref e.p))
 tu:∀e∈ts,H' e.p=some (.tup [.int (plc e.k),.int e.k,e.v])∧H e.p=none
 eq:ts.map Tp.kv=L
section
variable {X:List Addr} {H H' H'':Hp} {l:Addr} {ts:List Tp} {L:List (Int×V)}
theorem Ly.same (h:Ly X H H' l ts L) (s:Same H' H''):Ly X H H'' l ts L:=⟨λc o n e=>s _ _ (h.sm c o n e),s _ _ h.li,λe he=>⟨s _ _ (h.tu e he).1,(h.tu e he).2⟩,h.eq⟩
theorem Ly.add {p:Addr} {k:Int} {v:V} (h:Ly X H H' l ts L) (s:Same H' H'') (np:H' p=none) (nl:H l=none) (nX:∀c∈X,∃o,H c=some o∧∃o',H' c=some o') (et:H'' p=some (.tup [.int (plc k),.int k,v])):
  Ly X H (upd H'' l (.lst (ts.map (λe=>V.ref e.p)++ [.ref p]))) l (ts++ [⟨p,k,v⟩]) (L++ [(k,v)]):=by
 have pl:p≠l:=λz=>by rw[z,h.li]at np;cases np
 have old:H p=none:=by
  cases q:H p with
  |none=>rfl
  |some o=>
   by_cases c:p∈X
   ·obtain⟨_,_,o',e'⟩:=nX p c
    rw[np]at e';cases e'
   ·rw[h.sm _ _ c q]at np;cases np
 have h2:=h.same s
 refine⟨λc o n e=>?_,by rw[af,Qk];rfl,λe he=>?_,by rw[Qk,h.eq];rfl⟩
 ·rw[ac λz=>by rw[z,nl]at e;cases e]
  exact h2.sm c o n e
 ·rcases Q7.mp he with he|he
  ·have q:=h2.tu e he
   exact⟨by rw[ac λz=>by rw[z,h2.li]at q;cases q.1];exact q.1,q.2⟩
  ·rw[Qd.mp he]
   exact⟨by rw[ac pl];exact et,old⟩
theorem Ly.freeze {b:Addr} {o o':HO} (h:Ly [] H H' l ts L) (hb:H b=some o) (bl:b≠l):Ly [b] H (upd H' b o') l ts L:=
 ⟨λc o n e=>by rw[ac λz=>n (by rw[z];exact Q8)];exact h.sm c o (by simp) e,by rw[ac bl.symm];exact h.li,
  λe he=>⟨by rw[ac λz=>by have:=(h.tu e he).2;rw[z,hb]at this;cases this];exact(h.tu e he).1,(h.tu e he).2⟩,h.eq⟩
theorem Ly.thaw {b:Addr} {o:HO} (h:Ly [b] H H' l ts L) (hb:H b=some o) (bl:b≠l):Ly [] H (upd H' b o) l ts L:=by
 refine⟨λc o' _ e=>?_,by rw[ac bl.symm];exact h.li,λe he=>⟨by rw[ac λz=>by have:=(h.tu e he).2;rw[z,hb]at this;cases this];exact(h.tu e he).1,(h.tu e he).2⟩,h.eq⟩
 by_cases z:c=b
 ·rw[z,af,←hb,←z];exact e
 ·rw[ac z];exact h.sm c o' (by simpa using z) e
end
def jE (K:PySem.W.Frag) (t:Adr):Sp:=λvs H Q _=>∃(a:Addr) (p:Int) (F:Addr→Prop) (st:SSt),vs=[.ref a,.int p]∧SlA K t H a F st∧0≤p∧p<65536∧st.kv.length<4096∧
 ∀(H':Hp) (F':Addr→Prop) (l:Addr) (ts:List Tp),SlA K t H' a F' st→Fr F F' H H'→¬F' l→H' l=some (.lst (ts.map λe=>V.ref e.p))→(∀e∈ts,H' e.p=some (.tup [.int (plc e.k),.int e.k,e.v])∧¬F' e.p)→
  (∀k v,(k,v)∈ts.map Tp.kv↔(k,v)∈st.kv∧k%65536%st.low=tz p%st.low)→((ts.map Tp.kv).map (·.1)).Nodup→Q (.ref l) H'
theorem CN {t:Adr} {H:Hp} {a:Addr} {st:SSt} {d:SlD} (hb:SlB t H a st d) (sz:SzOk st):∃xs,H d.tb=some (.lst xs)∧xs.length=(bj st d).length∧(bj st d).length≤2∧
  ∀(i:Nat) (x:V),xs[i]?=some x→∃R:Rw,x= .ref R.r∧(bj st d)[i]?=some R∧RowOk H R.r R.A R.C R.s∧R.s≤256∧∀(j:Nat) (kv:List (Int×V)),R.C[j]?=some kv→kv.length≤st.kv.length:=by
 have pw:=bu sz.pw
 have ht:=hb.tbl
 have r1:=hb.row1
 unfold bj
 cases e:st.nxt with
 |none=>
  rw[e]at ht
  refine⟨_,ht,rfl,by simp,λi x hx=>?_⟩
  cases i with
  |zero=>cases hx;exact⟨_,rfl,rfl,hb.row0,pw.2,λj kv h=>hb.short0 sz h⟩
  |succ j=>simp at hx
 |some m=>
  rw[e]at ht r1
  refine⟨_,ht,rfl,by simp,λi x hx=>?_⟩
  cases i with
  |zero=>cases hx;exact⟨_,rfl,rfl,hb.row0,pw.2,λj kv h=>hb.short0 sz h⟩
  |succ j=>
   cases j with
   |zero=>cases hx;exact⟨_,rfl,rfl,r1,(bu (sz.nx m e).1).2,λj kv h=>hb.short1 sz e h⟩
   |succ j=>simp at hx
theorem zD {RR:List Rw} {f:Rw→List (Int×V)} {i:Nat} {R:Rw} (e:RR[i]?=some R):(RR.take (i+1)).flatMap f=(RR.take i).flatMap f++f R:=by
 rw[QA,e,List.flatMap_append]
 simp
theorem vN {f:Nat→List (Int×V)} {x:Nat}:(List.range (x+1)).flatMap f=(List.range x).flatMap f++f x:=by
 rw[List.range_succ,List.flatMap_append]
 simp
theorem xg {kv:List (Int×V)} {i:Nat} {p:Int×V} (e:kv[i]?=some p):kv.take (i+1)=kv.take i++ [p]:=by
 rw[QA,e]
 rfl
theorem jN (T:Txt K mg t):aX P w K mg base CX0 3 t.eT t.cP ["self","place"] (jE K t):=by
 have J0:= @dX P w K mg base t T
 have Jd:= @ud P w K mg base t T
 have Je:= @oO P w K mg base t T
 refine T.wW.ok sc_Slots__lying_at (λvs H Q E h=>?_) (λcdv A outer s H vs Q E hr h=>?_)
 ·obtain⟨a,p,F,st,rfl,_⟩:=h
  rfl
 ·obtain⟨a,p,F,st,rfl,hA,p0,p1,hl4,q⟩:=h
  refine⟨_,(ae (aF (i:=2) sc_Slots__lying_at.nd rfl (Or.inl rfl) (ax (rO rfl) (by rfl) T.vW pP (aa (a8 (pv 0) T.aq T.fI J0 (hr.mono (by decide)) T.gb .nil az) ag)))
   (ae (aF (i:=3) sc_Slots__lying_at.nd rfl (Or.inl rfl) (cu ag))
   (ae (fE PassesOwn.never rfl (cm (av (pv 0) rfl)) (bN (i:=4) sc_Slots__lying_at.nd rfl (Or.inl rfl))
   (ah (fE PassesOwn.never rfl (xq (by rfl) T.r9 (aa (aP Je (hr.mono (by decide)) (by rfl) T.xC T.rY.kp T.x6 .nil az (aa (pv 1) (aa (pv 2) ag))) (aa (ax aA (by rfl) T.bE a9 (aa (pv 4) ag)) (aa (pv 2) ag)))) (bN (i:=5) sc_Slots__lying_at.nd rfl (Or.inl rfl))
   (ah (sE (fE PassesOwn.never rfl (t7 (lM QG ZO Xc o8 (br a7 (pv 4) (pv 5) (λ_ _=>rfl)))) (sF rfl (dq (bN (i:=6) sc_Slots__lying_at.nd rfl (Or.inl rfl)) (dq (bN (i:=7) sc_Slots__lying_at.nd rfl (Or.inl rfl)) mW)))
   (ah (aO (cM Qt QX QY cx (pv 3) (aa (dW (aa (aP Jd (hr.mono (by decide)) (by rfl) T.Dh T.vT.kp T.DA .nil az (aa (pv 6) ag)) (aa (pv 6) (aa (pv 7) ag)))) ag))))))))))
   (ah (aH (pv 3))))))
   ,?_⟩
  have z:SzOk st:=let⟨_,_,_,_,_,z⟩:=hA;z
  obtain⟨s4,s5⟩:=bu (jT z)
  obtain⟨dx,fs,hi,hm⟩:=hA.ins
  refine⟨_,rfl,a,dx,fs,rfl,hi,hm _ (by decide+kernel),a,F,st,rfl,hA,λH1 F1 lr sA fr nlr oF hlr=>⟨lr,st.rows,rfl,SqL.of hlr,?_,λM hM hle=>?_⟩⟩
  ·unfold SSt.rows
   cases st.nxt<;>simp
  have eM:=zh hM hle
  subst eM
  have sB:=sA
  obtain⟨d,hb,hF,hn,nd,_⟩:=sB
  obtain⟨dx1,ho⟩:=hb.obj
  obtain⟨xs,ht,lx,l2,look⟩:=CN hb z
  have g0:0≤tz p%st.low:=Qs _ (by omega)
  have g1:tz p%st.low<st.low:=Qv _ (by omega)
  have low0:st.low>0:=by omega
  refine⟨Qh _,λl nl=>?_⟩
  have y0:Ly [] H1 (upd H1 l (.lst [])) l [] []:=⟨λc o _ e=>ao nl _ _ e,af,(λe he=>by cases he),rfl⟩
  generalize upd H1 l (.lst [])=H2 at y0⊢
  generalize hs:tz p%st.low=sl at g0 g1 q
  refine⟨_,rfl,a,_,dx1,_,_,rfl,y0.sm _ _ (by simp) ho,T.aq,T.aK,dO,d.tb,rfl,⟨_,SqL.of (y0.sm _ _ (by simp) ht)⟩,iV (K:=K) (a:=d.tb) (xs:=xs) (λi σ H'=>∃(v4 v5 v6 v7:Option V) (ts:List Tp),σ=[some (.ref a),some (.int p),some (.int st.low),some (.ref l),v4,v5,v6,v7]∧Ly [] H1 H' l ts (((bj st d).take i).flatMap (A9 sl st.low))∧ts.length≤8192*i)
   ⟨_,_,_,_,[],rfl,y0,by simp⟩ (λi σ H' _ w=>by obtain⟨_,_,_,_,_,_,c,_⟩:=w;exact SqL.of (c.sm _ _ (by simp) ht)) (λi x σ H' hx w=>?_) (λσ H' w=>?_)⟩
  ·obtain⟨v4,v5,v6,v7,ts,eσ,c,lt⟩:=w
   subst eσ
   obtain⟨R,rfl,hR,ro,r256,shR⟩:=look i x hx
   have hr:=c.sm _ _ (by simp) ro.lst
   have iL:=(Q4.mp hx).1
   have lA:((R.A.map V.ref).length:Int)=R.s:=by rw[Q0];exact ro.la
   have rl:=lK z (Q3 hR)
   have cnt2:∀y:Nat,y<j2 sl R.s st.low→y<2:=λy hy=>by
    have:=(mY low0).mp hy
    refine Nat.lt_of_not_le λy2=>?_
    have:(2:Int)*st.low≤(y:Int)*st.low:=XS (by omega) (by omega)
    omega
   have cn2:j2 sl R.s st.low≤2:=by
    by_cases c0:j2 sl R.s st.low=0
    ·omega
    ·have:=cnt2 (j2 sl R.s st.low-1) (by omega)
     omega
   refine⟨_,rfl,_,rfl,p,_,rfl,p0,low0,_,rfl,R.r,_,rfl,.inl (SqL.of hr),_,rfl,_,_,_,rfl,?_,?_⟩
   ·rw[hs,lA]
    exact⟨by omega,by omega,by omega,by omega,by omega,by omega⟩
   rw[hs,lA]
   generalize eL0:((bj st d).take i).flatMap (A9 sl st.low)=L0 at c
   refine uA (n:=j2 sl R.s st.low) (λx σ H'=>∃(v5 v6 v7:Option V) (ts:List Tp),σ=[some (.ref a),some (.int p),some (.int st.low),some (.ref l),some (.ref R.r),v5,v6,v7]∧Ly [] H1 H' l ts (L0++(List.range x).flatMap (i5 R.C sl st.low))∧ts.length≤8192*i+4096*x)
    ⟨_,_,_,ts,rfl,by simpa using c,by omega⟩ (λx σ H' hx w=>?_) (λσ H' w=>?_)
   ·obtain⟨v5,v6,v7,ts,eσ,c,lt⟩:=w
    subst eσ
    have xs2:=(mY low0).mp hx
    have x2:=cnt2 x hx
    have xm:0≤(x:Int)*st.low:=X7 (by omega) (by omega)
    have la:=ro.la
    have lc:=ro.lc
    have eb:R.A[(sl+(x:Int)*st.low).toNat]?=some (R.A[(sl+(x:Int)*st.low).toNat]'(by omega)):=Q5 (by omega)
    have ek:R.C[(sl+(x:Int)*st.low).toNat]?=some (R.C[(sl+(x:Int)*st.low).toNat]'(by omega)):=Q5 (by omega)
    generalize R.A[(sl+(x:Int)*st.low).toNat]'(by omega)=b at eb
    generalize R.C[(sl+(x:Int)*st.low).toNat]'(by omega)=kv at ek
    have hbb:=ro.cell _ _ _ eb ek
    have kvl:=shR _ _ ek
    have hb2:=c.sm _ _ (by simp) hbb
    have hr2:=c.sm _ _ (by simp) ro.lst
    have bl:b≠l:=λz=>by rw[z,nl]at hbb;cases hbb
    refine⟨b,aE kv,hb2,_,rfl,_,rfl,R.r,_,_,_,rfl,rfl,SqL.of hr2,pj (by omega) eb,.inr (.inr (.inl ⟨rfl,.inl ⟨_,hb2⟩⟩)),b,aE kv,rfl,rfl,hb2,λvw nv=>?_⟩
    have hc1:upd H' vw (vwO vw b) b=some (.dK (aE kv)):=by rw[ac (ai hb2 nv)];exact hb2
    refine⟨vw,b,aE kv,rfl,af,hc1,λob=>?_⟩
    have cF:=(c.same (ao (o:=vwO vw b) nv)).freeze (o':= .frz ob (.dK (aE kv))) hbb bl
    generalize eL1:L0++(List.range x).flatMap (i5 R.C sl st.low)=L1 at cF
    refine pE (λy σ H''=>∃(v6 v7:Option V) (ts:List Tp),σ=[some (.ref a),some (.int p),some (.int st.low),some (.ref l),some (.ref R.r),some (.int (sl+(x:Int)*st.low)),v6,v7]∧Ly [b] H1 H'' l ts (L1++kv.take y)∧H'' b=some (.frz ob (.dK (aE kv)))∧ts.length≤8192*i+4096*x+y)
     ⟨_,_,ts,rfl,by simpa using cF,af,by omega⟩ (λy σ H'' _ w=>by obtain⟨_,_,_,_,_,hf,_⟩:=w;exact hf) (λy k v p' σ H'' ei w np=>?_) (λσ H'' w=>?_)
    ·obtain⟨v6,v7,ts,eσ,c,hf,lt⟩:=w
     subst eσ
     obtain⟨n,rfl,en⟩:=rn ei
     have yl:=(Q4.mp en).1
     refine⟨p',_,rfl,SqT.of af,rfl,_,_,rfl,_,_,rfl,rfl,?_⟩
     have c3:=c.same (ao (o:= .tup [kV (Sum.inl n),v]) np)
     have hf3:=ao (o:= .tup [kV (Sum.inl n),v]) np _ _ hf
     generalize upd H'' p' (.tup [kV (Sum.inl n),v])=H3 at c3 hf3⊢
     refine⟨_,rfl,.inl ⟨rfl,_,SqL.of c3.li⟩,_,rfl,n,rfl,_,rfl,_,rfl,(by show 3≤sizeLine;decide),λp2 np2=>?_⟩
     have s4:Same H3 (upd H3 p2 (.tup [.int (tz (n%65536)),kV (Sum.inl n),v])):=ao np2
     have e4:upd H3 p2 (.tup [.int (tz (n%65536)),kV (Sum.inl n),v]) p2=some (.tup [.int (plc n),.int n,v]):=af
     generalize upd H3 p2 (.tup [.int (tz (n%65536)),kV (Sum.inl n),v])=H4 at s4 e4⊢
     refine⟨l,_,_,rfl,rfl,s4 _ _ c3.li,bq (by rw[Q0];omega),?_⟩
     refine⟨_,_,ts++ [⟨p2,n,v⟩],rfl,?_,?_,?_⟩
     ·rw[xg en,←Qo]
      exact c3.add s4 np2 nl (λc hc=>by rw[Qd.mp hc];exact⟨_,hbb,_,hf3⟩) e4
     ·rw[ac bl]
      exact s4 _ _ hf3
     ·rw[Qg,QW]
      omega
    ·obtain⟨v6,v7,ts,eσ,c,hf,lt⟩:=w
     subst eσ
     rw[bC,QO]at c
     rw[bC]at lt
     refine⟨ob,hf,_,_,_,ts,rfl,?_,by omega⟩
     rw[vN,←Qo,show i5 R.C sl st.low x=kv by unfold i5;rw[Qn,ek];rfl]
     rw[eL1]
     exact c.thaw hbb bl
   ·obtain⟨v5,v6,v7,ts,eσ,c,lt⟩:=w
    subst eσ
    exact⟨_,_,_,_,ts,rfl,by rw[zD hR,eL0];exact c,by omega⟩
  ·obtain⟨v4,v5,v6,v7,ts,eσ,c,lt⟩:=w
   subst eσ
   rw[lx,QO]at c
   have e:=c.eq
   have sm:Same H1 H':=λb o e=>c.sm b o (by simp) e
   refine⟨_,rfl,q H' F1 l ts (sA.same sm) (fr.trans (Fr.of_same sm)) (sA.out nl) c.li (λe he=>⟨(c.tu e he).1,sA.out (c.tu e he).2⟩) (λk v=>?_) ?_⟩
   ·rw[e]
    exact By hb z nd g0 g1 k v
   ·rw[e]
    exact xy hb z g0
theorem sv {S p k:Int} {a b:Nat} (R:Row S a b) (h0:0≤p) (h1:p<65536) (hS:S≤65536):k%65536%S=tz p%S↔plc k/(65536/S)=p/(65536/S):=by
 have wp:=R.wpos'
 have e1:=sg R h0 h1
 have k0:0≤k%65536:=Qs _ (by decide)
 have k1:k%65536<65536:=Qv _ (by decide)
 have e2:=sg R (p:=plc k) (lE _) (Cd _)
 rw[show tz (plc k)=k%65536 from vZ k0 k1]at e2
 have x0:=R.mod0 (k%65536)
 have x1:=R.mod1 (k%65536)
 have y0:=R.mod0 (tz p)
 have y1:=R.mod1 (tz p)
 constructor
 ·intro e
  rw[e,e1]at e2
  have:=Int.eq_of_mul_eq_mul_right (Z3 wp) e2
  omega
 ·intro e
  rw[e,←e1]at e2
  exact CL x0 (by omega) y0 (by omega) (by omega)
theorem yQ (k:Int):0≤plc k∧plc k<65536:=⟨lE _,Cd _⟩
theorem kt {α β:Type} {f:α→β}:∀{ts:List α} {l:List β},l.Perm (ts.map f)→∃us:List α,us.Perm ts∧us.map f=l:=by
 intro ts l h
 generalize e:ts.map f=m at h
 induction h generalizing ts with
 |nil=>exact⟨[],by rw[List.map_eq_nil_iff.mp e],rfl⟩
 |cons x _ ih=>
  cases ts with
  |nil=>cases e
  |cons y ts=>
   rw[Qr]at e
   injection e with e1 e2
   obtain⟨us,h1,h2⟩:=ih e2
   exact⟨y::us,h1.cons y,by rw[Qr,h2,e1]⟩
 |swap x y l=>
  cases ts with
  |nil=>cases e
  |cons a ts=>
   cases ts with
   |nil=>cases e
   |cons b ts=>
    rw[Qr,Qr]at e
    injection e with e1 e2
    injection e2 with e2 e3
    exact⟨b::a::ts,List.Perm.swap a b ts,by rw[Qr,Qr,e1,e2,e3]⟩
 |trans _ _ ih1 ih2=>
  obtain⟨us,h1,h2⟩:=ih2 e
  obtain⟨ws,h3,h4⟩:=ih1 h2
  exact⟨ws,h3.trans h1,h4⟩
def C6 (x y:Int×V):Prop:=plc x.1<plc y.1∨(plc x.1=plc y.1∧x.1<y.1)
def nG (K:PySem.W.Frag) (t:Adr):Sp:=λvs H Q _=>∃(a:Addr) (lo hi:Int) (F:Addr→Prop) (st:SSt),vs=[.ref a,.int lo,.int hi]∧SlA K t H a F st∧st.kv.length<4096∧(∀p∈st.kv,∃i:Int,p.2= .int i)∧
 ∀(H':Hp) (F':Addr→Prop) (l:Addr) (ts:List Tp),SlA K t H' a F' st→Fr F F' H H'→¬F' l→(¬F l→H l=none)→H' l=some (.lst (ts.map λe=>V.ref e.p))→(∀e∈ts,H' e.p=some (.tup [.int e.k,e.v])∧¬F' e.p)→
  (ts.map Tp.kv).Pairwise C6→(∀k v,(k,v)∈ts.map Tp.kv↔(k,v)∈st.kv∧lo≤plc k∧plc k<hi)→Q (.ref l) H'
theorem wI {x W q:Int} (h:0<W):x/W=q↔q*W≤x∧x<(q+1)*W:=by
 constructor
 ·rintro rfl
  exact⟨Int.ediv_mul_le x (Z3 h),XY x h⟩
 ·rintro ⟨h1,h2⟩
  have a:=(Int.le_ediv_iff_mul_le h).mpr h1
  have b:=(Int.ediv_lt_iff_lt_mul h).mpr h2
  omega
def ky3 (H:Hp) (b:Addr):List Int:=match H b with
 |some (.tup [.int i,.int j,.int m])=> [i,j,m]
 |_=> []
theorem vE {H:Hp} {b:Addr} {i j m:Int} (h:H b=some (.tup [.int i,.int j,.int m])):ky3 H b=[i,j,m]:=by
 unfold ky3
 rw[h]
theorem none_of {H H2:Hp} {p:Addr} (s:Same H H2) (n:H2 p=none):H p=none:=by
 cases e:H p with
 |none=>rfl
 |some o=>rw[s _ _ e]at n;cases n
theorem zA {F F':Addr→Prop} {H H':Hp} {b:Addr} (f:Fr F F' H H') (n:¬F b) (e:H' b=none):H b=none:=by
 cases q:H b with
 |none=>rfl
 |some o=>rw[(f _ _ n q).1]at e;cases e
theorem yJ {ts:List Tp} {n:Nat} {v:V} (hv:(ts.map λe=>V.ref e.p)[n]?=some v):∃e:Tp,v= .ref e.p∧ts[n]?=some e:=by
 rw[Ql]at hv
 cases q':ts[n]? with
 |none=>rw[q']at hv;cases hv
 |some e=>rw[q']at hv;cases hv;exact⟨e,rfl,rfl⟩
structure SpI (K:PySem.W.Frag) (t:Adr) (H H':Hp) (a l:Addr) (F F':Addr→Prop) (st:SSt) (ts:List Tp) (b0 c:Int):Prop where
 sl:SlA K t H' a F' st
 fr:Fr F F' H H'
 ol:¬F' l
 li:H' l=some (.lst (ts.map λe=>V.ref e.p))
 tu:∀e∈ts,H' e.p=some (.tup [.int (plc e.k),.int e.k,e.v])∧¬F' e.p
 me:∀k v,(k,v)∈ts.map Tp.kv↔(k,v)∈st.kv∧b0≤plc k∧plc k<c
 nd:((ts.map Tp.kv).map (·.1)).Nodup
section
variable {H H' H1:Hp} {a l l1:Addr} {F F' F1:Addr→Prop} {st:SSt} {ts ts1:List Tp} {b0 c:Int}
theorem SpI.len (h:SpI K t H H' a l F F' st ts b0 c):ts.length≤st.kv.length:=by
 have:=kB h.nd (S:=st.kv.map (·.1)) λx hx=>by
  obtain⟨p,hp,rfl⟩:=Qb.mp hx
  exact X1 ((h.me p.1 p.2).mp hp).1
 simpa using this
theorem SpI.move (h:SpI K t H H' a l F F' st ts b0 c) (s1:SlA K t H1 a F1 st) (f1:Fr F' F1 H' H1):SpI K t H H1 a l F F1 st ts b0 c:=
 ⟨s1,h.fr.trans f1,(f1 _ _ h.ol h.li).2,(f1 _ _ h.ol h.li).1,λe he=>f1 _ _ (h.tu e he).2 (h.tu e he).1,h.me,h.nd⟩
theorem SpI.step {r W:Int} (h:SpI K t H H' a l F F' st ts b0 (r/W*W)) (nl:H l=none) (W0:0<W) (hb:b0≤r/W*W) (s1:SlA K t H1 a F1 st) (f1:Fr F' F1 H' H1) (u1:∀e∈ts1,H1 e.p=some (.tup [.int (plc e.k),.int e.k,e.v])∧¬F1 e.p)
  (m1:∀k v,(k,v)∈ts1.map Tp.kv↔(k,v)∈st.kv∧plc k/W=r/W) (n1:((ts1.map Tp.kv).map (·.1)).Nodup):
  SpI K t H (upd H1 l (.lst (ts.map (λe=>V.ref e.p)++ts1.map (λe=>V.ref e.p)))) a l F F1 st (ts++ts1) b0 ((r/W+1)*W):=by
 obtain⟨l1,ol1⟩:=f1 _ _ h.ol h.li
 have e1:(r/W+1)*W=r/W*W+W:=by rw[Int.add_mul,Int.one_mul]
 have nel:∀{p:Addr} {xs:List V},H1 p=some (.tup xs)→p≠l:=λ{p xs} e z=>by rw[z,l1]at e;cases e
 refine⟨s1.upd ol1,λb o n e=>?_,ol1,by rw[af,Qk],λe he=>?_,λk v=>?_,?_⟩
 ·obtain⟨g1,g2⟩:=(h.fr.trans f1) b o n e
  exact⟨by rw[ac λz=>by rw[z,nl]at e;cases e];exact g1,g2⟩
 ·rcases Q7.mp he with he|he
  ·obtain⟨g1,g2⟩:=h.tu e he
   obtain⟨g3,g4⟩:=f1 _ _ g2 g1
   exact⟨by rw[ac (nel g3)];exact g3,g4⟩
  ·obtain⟨g3,g4⟩:=u1 e he
   exact⟨by rw[ac (nel g3)];exact g3,g4⟩
 ·rw[Qk,Q7,h.me,m1,wI W0,e1]
  constructor
  ·rintro (⟨x,y,z⟩|⟨x,y,z⟩)
   ·exact⟨x,y,by omega⟩
   ·exact⟨x,by omega,z⟩
  ·rintro ⟨x,y,z⟩
   by_cases d:plc k<r/W*W
   ·exact .inl ⟨x,y,d⟩
   ·exact .inr ⟨x,by omega,z⟩
 ·rw[Qk,Qk]
  refine List.nodup_append.mpr ⟨h.nd,n1,λx hx y hy e=>?_⟩
  obtain⟨p,hp,rfl⟩:=Qb.mp hx
  obtain⟨q,hq,rfl⟩:=Qb.mp hy
  have g1:=(h.me p.1 p.2).mp hp
  have g2:=(wI W0).mp ((m1 q.1 q.2).mp hq).2
  rw[e]at g1
  omega
end
theorem DW {H:Hp} {fs us:List Tp} (up:us.Perm fs) (t3:∀e∈fs,∃i:Int,H e.p=some (.tup [.int (plc e.k),.int e.k,.int i])) (nd:(fs.map (·.k)).Nodup) (pw:(us.map (·.p)).Pairwise (λa b=>HT.lexLt (ky3 H b) (ky3 H a)=false)):(us.map Tp.kv).Pairwise C6:=by
 have nk:us.Pairwise (λe f=>e.k≠f.k):=(up.pairwise_iff (λh=>h.symm)).mpr (Qp.mp nd)
 refine Qp.mpr (((Qp.mp pw).and nk).imp_of_mem λ{e f} he hf h=>?_)
 obtain⟨i,te⟩:=t3 e (up.mem_iff.mp he)
 obtain⟨j,tf⟩:=t3 f (up.mem_iff.mp hf)
 obtain⟨h1,h2⟩:=h
 rw[vE te,vE tf,HT.lexLt_cons,HT.lexLt_cons]at h1
 show plc e.k<plc f.k∨(plc e.k=plc f.k∧e.k<f.k)
 by_cases c1:plc f.k=plc e.k
 ·rw[if_pos c1,if_neg (Ne.symm h2)]at h1
  have:=of_decide_eq_false h1
  omega
 ·rw[if_neg c1]at h1
  have:=of_decide_eq_false h1
  omega
theorem oR (T:Txt K mg t):aX P w K mg base CX0 4 t.jk t.fL ["self","low","high"] (nG K t):=by
 obtain⟨tk_PLACES,hPLACES⟩:=T.uz
 have Gv:= @jN P w K mg base t T
 have J2:= @oQ P w K mg base t T
 refine T.As.ok sc_Slots__span (λvs H Q E h=>?_) (λcdv A outer s H vs Q E hr h=>?_)
 ·obtain⟨a,lo,hi,F,st,rfl,_⟩:=h
  rfl
 ·obtain⟨a,lo,hi,F,st,rfl,hA,hl4,hint,q⟩:=h
  refine⟨_,(ae (aF (i:=3) sc_Slots__span.nd rfl (Or.inl rfl) (cu ag))
   (ae (aF (i:=4) sc_Slots__span.nd rfl (Or.inl rfl) (ax (x5 rfl) (by rfl) T.Ew Dy (aa (pv 1) (aa aj ag))))
   (ae (aF (i:=5) sc_Slots__span.nd rfl (Or.inl rfl) (ax (rN rfl) (by rfl) T.vW pP (aa (pv 2) (aa (cn (v:= .int 65536) (by rfl) hPLACES ⟨_,rfl⟩) ag))))
   (ae (oH PassesOwn.never (aC eO (pv 4) (pv 5) (aG _))
   (ae (aO (cM Qt PySem.F.slot_list_extend PySem.F.type_list_extend rf (pv 3) (aa (aN (pv 0) T.aq T.wv Gv (hr.mono (by decide)) T.wQ .nil az (aa (pv 4) ag)) ag)))
   (ah (aF (i:=4) sc_Slots__span.nd rfl (Or.inl rfl) (aN (pv 0) T.aq T.Aa J2 (hr.mono (by decide)) T.Ah .nil az (aa (pv 4) ag))))))
   (ae (aF (i:=6) sc_Slots__span.nd rfl (Or.inl rfl) (ax qA (by rfl) T.gd c8 (aa (oK rfl (CScope.of (M:=["one"]) (N:=["self","low","high","found","reached","end","inside"]) (N':=["self","low","high","found","reached","end","inside"]) (dsc:=am cc) rfl rfl (by decide+kernel)) (cm (pv 3)) (λ_ _ _ _ _=>(yN Cr eO (pv 2) (br (kJ K rfl) (pv 0) aj (λ_ _=>rfl)) (pv 3))) (λ_ _ _ _ _=>(pv 0))) ag)))
   (ah (aH (ku rfl (CScope.of (M:=["one"]) (N:=["self","low","high","found","reached","end","inside"]) (N':=["self","low","high","found","reached","end","inside"]) (dsc:=am cc) rfl rfl (by decide+kernel)) (cm (pv 6)) (λ_ _ _ _ _=>(dW (aa (br (kJ K rfl) (pv 0) aj (λ_ _=>rfl)) (aa (br (kJ K rfl) (pv 0) aj (λ_ _=>rfl)) ag))))))))))))
   ,?_⟩
  have z:SzOk st:=let⟨_,_,_,_,_,z⟩:=hA;z
  obtain⟨s4,s5⟩:=bu (jT z)
  obtain⟨x,y,R⟩:=yL (jT z)
  have W0:=R.wpos'
  have strt:∀{p k:Int},0≤p→p<65536→(k%65536%st.low=tz p%st.low↔plc k/(65536/st.low)=p/(65536/st.low)):=λh0 h1=>sv R h0 h1 (by omega)
  refine⟨Qh _,λl nl=>?_⟩
  refine⟨_,rfl,_,_,rfl,_,rfl,_,_,rfl,?_⟩
  have r1:0≤(if(0:Int)>lo then 0 else lo)∧lo≤(if(0:Int)>lo then 0 else lo)∧((if(0:Int)>lo then 0 else lo)=0∨(if(0:Int)>lo then 0 else lo)=lo):=by split<;>omega
  have r2:(if(65536:Int)<hi then 65536 else hi)≤65536∧((if(65536:Int)<hi then 65536 else hi)=65536∨(if(65536:Int)<hi then 65536 else hi)=hi):=by split<;>omega
  dsimp only
  generalize (if(0:Int)>lo then 0 else lo)=r0 at r1⊢
  generalize (if(65536:Int)<hi then 65536 else hi)=e0 at r2⊢
  generalize eW:65536/st.low=W at W0 strt
  have I0:SpI K t H (upd H l (.lst [])) a l F F st [] (r0/W*W) (r0/W*W):=⟨hA.new nl,Fr.of_same (ao nl),hA.out nl,af,(λe he=>by cases he),(λk v=>⟨λh=>by(cases h),λh=>by omega⟩),Zi⟩
  generalize upd H l (.lst [])=H1 at I0⊢
  refine⟨λm σ H'=>∃(r:Int) (F':Addr→Prop) (ts:List Tp),m=(e0-r).toNat∧σ=[some (.ref a),some (.int lo),some (.int hi),some (.ref l),some (.int r),some (.int e0),none]∧SpI K t H H' a l F F' st ts (r0/W*W) (r/W*W)∧r0≤r∧(r=r0∨r/W*W=r),⟨_,r0,F,[],rfl,rfl,I0,ZH _,.inl rfl⟩,λm σ H' w=>?_⟩
  obtain⟨r,F',ts,rfl,eσ,I,rr,rm⟩:=w
  subst eσ
  refine⟨_,rfl,_,rfl,_,_,rfl,rfl,_,rfl,lZ (λc=>?_) (λc=>?_)⟩
  ·have c:=of_decide_eq_true c
   obtain⟨dx,fs,hins,hm⟩:=I.sl.ins
   refine⟨λσ' H2=>∃(r':Int) (F2:Addr→Prop) (ts2:List Tp),r<r'∧σ'=[some (.ref a),some (.int lo),some (.int hi),some (.ref l),some (.int r'),some (.int e0),none]∧SpI K t H H2 a l F F2 st ts2 (r0/W*W) (r'/W*W)∧r'/W*W=r',λσ' H2 w=>?_,?_⟩
   ·obtain⟨r',F2,ts2,lt,e,I2,g⟩:=w
    exact⟨_,by omega,r',F2,ts2,rfl,e,I2,by omega,.inr g⟩
   refine⟨_,rfl,.inl ⟨rfl,_,SqL.of I.li⟩,_,rfl,a,dx,fs,rfl,hins,hm _ (by decide+kernel),_,rfl,a,r,F',st,rfl,I.sl,by omega,by omega,hl4,λH2 F2 l1 ts1 s2 f2 o2 e2 u2 m2 n2=>?_⟩
   have hb0:r0/W*W≤r/W*W:=XS (Int.ediv_le_ediv W0 rr) (by omega)
   have I2:=I.step nl W0 hb0 s2 f2 u2 (λk v=>by rw[m2,strt (by omega) (by omega)]) n2
   have ln:=I2.len
   rw[Qg]at ln
   refine⟨l,l1,_,_,rfl,rfl,(f2 _ _ I.ol I.li).1,e2,by rw[Q0,Q0];exact Zp (bq (by omega)),?_⟩
   generalize upd H2 l (.lst (ts.map (λe=>V.ref e.p)++ts1.map (λe=>V.ref e.p)))=H3 at I2⊢
   obtain⟨dx2,fs2,hins2,hm2⟩:=I2.sl.ins
   refine⟨_,rfl,a,dx2,fs2,rfl,hins2,hm2 _ (by decide+kernel),_,rfl,a,r,F2,st,rfl,I2.sl,by omega,by omega,λH4 F4 s4 f4=>?_⟩
   rw[eW]
   have ed:(r/W+1)*W/W*W=(r/W+1)*W:=by rw[Int.mul_ediv_cancel _ (Z3 W0)]
   exact⟨(r/W+1)*W,F4,ts++ts1,XY r W0,rfl,by rw[ed];exact I2.move s4 f4,ed⟩
  ·have c:¬r<e0:=λy=>c (decide_eq_true y)
   have hl:=I.li
   have ln:=I.len
   refine⟨_,rfl,l,rfl,⟨_,SqL.of hl⟩,λD hD=>?_⟩
   refine g8 (K:=K) (a:=l) (xs:=ts.map λe=>V.ref e.p) (λn ys H3=>H3=upd H' D (.lst ys)∧ys=((ts.take n).filter λe=>decide (lo≤plc e.k)&&decide (plc e.k<hi)).map (λe=>V.ref e.p)) ⟨rfl,rfl⟩
    (λn ys H3 _ w=>SqL.of (by rw[w.1,ac (ai hl hD)];exact hl)) (λn v ys H3 hv w hDD=>?_) (λys H3 w hDD=>?_)
   ·obtain⟨e1,e2⟩:=w
    have hn:=(Q4.mp hv).1
    obtain⟨e,rfl,ee⟩:=yJ hv
    have te:=(I.tu e (Q3 ee)).1
    have te3:H3 e.p=some (.tup [.int (plc e.k),.int e.k,e.v]):=by rw[e1,ac (ai te hD)];exact te
    have yl:ys.length≤ts.length:=by
     rw[e2,Q0]
     have h1:=QC (λe:Tp=>decide (lo≤plc e.k)&&decide (plc e.k<hi)) (ts.take n)
     have h2:(ts.take n).length≤ts.length:=by rw[Qm];omega
     omega
    refine⟨_,rfl,_,rfl,e.p,_,_,_,rfl,rfl,SqT.of te3,rfl,_,_,rfl,rfl,_,rfl,?_⟩
    by_cases c1:lo≤plc e.k
    ·refine iF c1 ⟨_,rfl,_,_,rfl,rfl,_,rfl,?_⟩
     by_cases c2:plc e.k<hi
     ·refine iF c2 ⟨_,rfl,CNext.mk hn hDD (bq (by omega)) ⟨by rw[e1,cz],?_⟩⟩
      rw[e2,QA,ee,QS,Qk]
      simp[c1,c2]
     ·refine bR c2 (CSkip.mk hn hDD ⟨e1,?_⟩)
      rw[e2,QA,ee,QS]
      simp[c1,c2]
    ·refine bR c1 ⟨_,rfl,cV (CSkip.mk hn hDD ⟨e1,?_⟩)⟩
     rw[e2,QA,ee,QS]
     simp[c1]
   ·obtain⟨e1,e2⟩:=w
    rw[Q0,QO]at e2
    have s3:Same H' H3:=by rw[e1];exact ao hD
    have fsub:(ts.filter λe=>decide (lo≤plc e.k)&&decide (plc e.k<hi)).Sublist ts:=List.filter_sublist
    have fm:∀e,e∈(ts.filter λe=>decide (lo≤plc e.k)&&decide (plc e.k<hi))↔e∈ts∧lo≤plc e.k∧plc e.k<hi:=λe=>by
     rw[Zc,Zt,decide_eq_true_eq,decide_eq_true_eq]
    generalize (ts.filter λe=>decide (lo≤plc e.k)&&decide (plc e.k<hi))=fs at e2 fsub fm
    have kvm:∀e∈fs,(e.k,e.v)∈st.kv:=λe he=>((I.me e.k e.v).mp (X1 (f:=Tp.kv) ((fm e).mp he).1)).1
    have t3:∀e∈fs,∃i:Int,e.v= .int i∧H3 e.p=some (.tup [.int (plc e.k),.int e.k,.int i]):=λe he=>by
     obtain⟨i,ei⟩:=hint _ (kvm e he)
     have te:=s3 _ _ (I.tu e ((fm e).mp he).1).1
     have ei:e.v= .int i:=ei
     rw[ei]at te
     exact⟨i,ei,te⟩
    refine⟨D,fs.map (·.p),ky3 H3,rfl,SqL.of (by rw[hDD,e2,Qy];rfl),λb hb=>?_,λl2 bs nl2 pm pw=>?_⟩
    ·obtain⟨e,he,rfl⟩:=Qb.mp hb
     obtain⟨i,_,te⟩:=t3 e he
     exact⟨_,_,_,te,vE te⟩
    obtain⟨us,up,ue⟩:=kt pm
    subst ue
    have um:∀e,e∈us↔e∈fs:=λe=>up.mem_iff
    have nk:(fs.map (·.k)).Nodup:=by
     have h0:=I.nd
     rw[Qy]at h0
     exact h0.sublist (fsub.map _)
    have sorted:=DW up (λe he=>(t3 e he).imp λ_ h=>h.2) nk pw
    have whole:∀k v,(k,v)∈us.map Tp.kv↔(k,v)∈st.kv∧lo≤plc k∧plc k<hi:=λk v=>by
     constructor
     ·intro h
      obtain⟨e,he,ee⟩:=Qb.mp h
      cases ee
      have he:=(um e).mp he
      exact⟨kvm e he,((fm e).mp he).2⟩
     ·rintro ⟨h1,h2,h3⟩
      have pb:=yQ k
      have b1:=Int.ediv_mul_le r0 (Z3 W0)
      have h4:(k,v)∈ts.map Tp.kv:=(I.me k v).mpr ⟨h1,by omega,by omega⟩
      obtain⟨e,he,ee⟩:=Qb.mp h4
      cases ee
      exact Qb.mpr ⟨e,(um e).mpr ((fm e).mpr ⟨he,h2,h3⟩),rfl⟩
    have ul:us.length≤ts.length:=by rw[up.length_eq];exact fsub.length_le
    have e8:upd H3 l2 (.lst ((us.map (·.p)).map V.ref)) l2=some (.lst (us.map λe=>V.ref e.p)):=by rw[af,Qy];rfl
    have s8:Same H' (upd H3 l2 (.lst ((us.map (·.p)).map V.ref))):=s3.trans (ao nl2)
    have t8:∀e∈us,upd H3 l2 (.lst ((us.map (·.p)).map V.ref)) e.p=some (.tup [.int (plc e.k),.int e.k,e.v]):=λe he=>s8 _ _ (I.tu e ((fm e).mp ((um e).mp he)).1).1
    generalize upd H3 l2 (.lst ((us.map (·.p)).map V.ref))=H8 at e8 s8 t8⊢
    refine⟨_,rfl,l2,rfl,⟨_,SqL.of e8⟩,λD2 hD2=>?_⟩
    refine mi (K:=K) (a:=l2) (xs:=us.map λe=>V.ref e.p) (λn ys H9=>Same H8 H9∧∃ws:List Tp,ys=ws.map (λe=>V.ref e.p)∧ws.map Tp.kv=(us.take n).map Tp.kv∧∀e∈ws,e.p≠D2∧H8 e.p=none∧H9 e.p=some (.tup [.int e.k,e.v]))
     ⟨ao hD2,[],rfl,rfl,λe he=>by cases he⟩ (λn ys H9 _ w=>SqL.of (w.1 _ _ e8)) (λn v ys H9 hv w hDD2=>?_) (λys H9 w hDD2=>?_)
    ·obtain⟨s9,ws,ey,ek,ew⟩:=w
     have hn:=(Q4.mp hv).1
     obtain⟨e,rfl,ee⟩:=yJ hv
     have te:=s9 _ _ (t8 e (Q3 ee))
     refine⟨_,rfl,e.p,_,_,_,rfl,rfl,SqT.of te,rfl,_,rfl,e.p,_,_,_,rfl,rfl,SqT.of te,rfl,(by show 2≤sizeLine;decide),λp2 np2=>?_⟩
     have pd:p2≠D2:=λz=>by rw[z,hDD2]at np2;cases np2
     have wl:ws.length≤us.length:=by
      have:=congrArg List.length ek
      rw[Q0,Q0,Qm]at this
      omega
     refine CNext.mk hn (by rw[ac pd.symm];exact hDD2) (bq (by rw[ey,Q0];omega)) ⟨cE (s9.trans (ao np2)) hD2,ws++ [⟨p2,e.k,e.v⟩],by rw[ey,Qk];rfl,?_,λf hf=>?_⟩
     ·rw[Qk,ek,QA,ee,Qk]
      rfl
     ·rcases Q7.mp hf with hf|hf
      ·obtain⟨g1,g2,g3⟩:=ew f hf
       exact⟨g1,g2,by rw[ac g1];exact ao np2 _ _ g3⟩
      ·rw[Qd.mp hf]
       exact⟨pd,none_of s9 np2,by rw[ac pd];exact af⟩
    ·obtain⟨s9,ws,ey,ek,ew⟩:=w
     rw[Q0,QO]at ek
     have sm:=s8.trans s9
     refine q H9 F' D2 ws (I.sl.same sm) (I.fr.trans (Fr.of_same sm)) (I.sl.out (none_of s8 hD2)) (λnF=>zA (I.fr.trans (Fr.of_same s8)) nF hD2) (by rw[hDD2,ey]) (λe he=>?_) (by rw[ek];exact sorted) (by rw[ek];exact whole)
     obtain⟨_,g2,g3⟩:=ew e he
     exact⟨g3,I.sl.out (none_of s8 g2)⟩
theorem dF {A:List Addr} {j:Nat} {c:Addr} (e:A[j]?=some c):atI (A.map V.ref) (j:Int)=some (.ref c):=by
 refine tF ?_
 rw[Ql,e]
 rfl
theorem BX {x:List Int} {m:Int} (ne:x≠[]) (e:x[x.length-1]?=some m):atI (x.map V.int) (-1)=some (.int m):=by
 have hl:=QP.mpr ne
 unfold atI ixN
 rw[Q0,if_neg (by decide),if_pos (by omega)]
 show(x.map V.int)[((-1:Int)+(x.length:Int)).toNat]?=_
 have:((-1:Int)+(x.length:Int)).toNat=x.length-1:=by omega
 rw[this,Ql,e]
 rfl
theorem wC {A:List Addr} {i:Nat} (h:i<A.length):ixN (A.map V.ref).length (i:Int)=some i:=by
 unfold ixN
 rw[if_pos (by omega),if_pos (by rw[Q0];omega)]
 rfl
theorem jX:∀(A:List Addr) (i:Nat),(A.map V.ref).eraseIdx i=(A.eraseIdx i).map V.ref
 | [],_=>rfl
 |_::_,0=>rfl
 |a::r,i+1=>by
  show V.ref a::(r.map V.ref).eraseIdx i=V.ref a::(r.eraseIdx i).map V.ref
  rw[jX r i]
theorem rE:∀(ls:List (List Int)) (i:Nat) (y:List Int),(ls.set i y).eraseIdx i=ls.eraseIdx i
 | [],_,_=>rfl
 |_::_,0,_=>rfl
 |x::r,i+1,y=>by
  show x::(r.set i y).eraseIdx i=x::r.eraseIdx i
  rw[rE r i y]
def CF (a:Addr) (k:Int) (ls:List (List Int)) (H:Hp):Nat→St→Hp→Prop:=λm σ H'=>∃(lo hi:Nat) (v4:Option V),m=hi-lo∧H'=H∧σ=[some (.ref a),some (.int k),some (.int (lo:Int)),some (.int (hi:Int)),v4]∧lo≤hi∧hi≤ls.length∧
 (∀(j:Nat) (x:List Int),j<lo→ls[j]?=some x→∀y∈x,y<k)∧∀(j:Nat) (x:List Int),hi≤j→ls[j]?=some x→∃y∈x,k≤y
def jF (t:Adr):Sp:=λvs H Q _=>∃(a:Addr) (k:Int) (L:Addr) (A:List Addr) (ls:List (List Int)),vs=[.ref a,.int k]∧LvB t H a L A ls∧(∀l∈ls,l≠[])∧b9 ls.flatten∧∀i:Nat,LeafOf ls k i→Q (.int (i:Int)) H
theorem bO (T:Txt K mg t):aX P w K mg base CX0 1 t.eU t.cQ ["self","key"] (jF t):=by
 refine T.wX.ok sc_Leaves__leaf_of (λvs H Q E h=>?_) (λcdv A outer s H vs Q E hr h=>?_)
 ·obtain⟨a,k,L,A,ls,rfl,_⟩:=h
  rfl
 ·obtain⟨a,k,L,A,ls,rfl,hb,ne,up,q⟩:=h
  refine⟨_,(ae (aF (i:=2) sc_Leaves__leaf_of.nd rfl (Or.inl rfl) aj)
   (ae (aF (i:=3) sc_Leaves__leaf_of.nd rfl (Or.inl rfl) (ax aA (by rfl) T.bE a9 (aa (av (pv 0) rfl) ag)))
   (ae (oH PassesOwn.never (aC eO (pv 2) (pv 3) (aG _))
   (ae (aF (i:=4) sc_Leaves__leaf_of.nd rfl (Or.inl rfl) (aJ gL (aJ bJ (pv 2) (pv 3)) aj))
   (ah (bc (aC eO (br a7 (br a7 (av (pv 0) rfl) (pv 4) (λ_ _=>rfl)) (yR uZ aj) (λ_ _=>rfl)) (pv 1) (aG _))
   (ah (aF (i:=2) sc_Leaves__leaf_of.nd rfl (Or.inl rfl) (aJ bJ (pv 4) aj)))
   (ah (aF (i:=3) sc_Leaves__leaf_of.nd rfl (Or.inl rfl) (pv 4)))))))
   (ah (aH (pv 2))))))
   ,?_⟩
  obtain⟨dx,ho⟩:=hb.obj
  have lA:((A.map V.ref).length:Int)=(ls.length:Int):=by rw[Q0,hb.len]
  refine⟨_,rfl,a,_,dx,_,_,rfl,ho,T.aD,T.au,b4,L,_,rfl,.inl (SqL.of hb.lst),?_⟩
  dsimp only
  rw[lA]
  refine⟨CF a k ls H,⟨_,0,ls.length,none,rfl,rfl,rfl,Qh _,Q6 _,λj x h=>absurd h (by omega),λj x h e=>?_⟩,?_⟩
  ·have:=(Q4.mp e).1
   omega
  rintro m σ H' ⟨lo,hi,v4,rfl,rfl,rfl,h1,h2,h3,h4⟩
  refine⟨_,rfl,_,rfl,_,_,rfl,rfl,_,rfl,lZ (λc=>?_) (λc=>?_)⟩
  ·have c:lo<hi:=by have:=of_decide_eq_true c;omega
   refine⟨λσ' H''=>∃m',m'<hi-lo∧CF a k ls H' m' σ' H'',λ_ _ h=>h,?_⟩
   refine⟨_,rfl,_,rfl,_,_,rfl,rfl,_,_,rfl,rfl,⟨by decide,by decide⟩,?_⟩
   obtain⟨mid,em,m1,m2⟩:∃mid:Nat,((lo:Int)+(hi:Int))/2=(mid:Int)∧lo≤mid∧mid<hi:=⟨(lo+hi)/2,by omega,by omega,by omega⟩
   dsimp only
   rw[em]
   have hm:mid<ls.length:=by omega
   have ex:ls[mid]?=some ls[mid]:=Q5 hm
   obtain⟨b,eb,hbb⟩:=hb.at ex
   have nex:=ne _ (Zv hm)
   obtain⟨g,eg,gm,gmax⟩:=zm (Ba up ex) nex
   refine⟨_,rfl,a,_,dx,_,_,rfl,ho,T.aD,T.au,b4,_,rfl,L,_,_,_,rfl,rfl,SqL.of hb.lst,dF eb,_,rfl,b,_,_,_,rfl,rfl,SqL.of hbb,BX nex eg,_,rfl,_,_,rfl,rfl,_,rfl,lZ (λc2=>?_) (λc2=>?_)⟩
   ·have c2:=of_decide_eq_true c2
    refine⟨_,rfl,_,_,rfl,rfl,hi-(mid+1),by omega,mid+1,hi,_,rfl,rfl,rfl,by omega,h2,λj x hj e y hy=>?_,h4⟩
    rcases(show j<mid∨j=mid by omega)with h|h
    ·have:=qV up e ex h y hy g gm
     omega
    ·subst h
     rw[ex]at e
     cases e
     have:=gmax y hy
     omega
   ·have c2:¬g<k:=λz=>c2 (decide_eq_true z)
    refine⟨_,rfl,mid-lo,by omega,lo,mid,_,rfl,rfl,rfl,by omega,by omega,h3,λj x hj e=>?_⟩
    rcases(show j=mid∨mid<j by omega)with h|h
    ·subst h
     rw[ex]at e
     cases e
     exact⟨g,gm,by omega⟩
    ·obtain⟨y,hy⟩:=X8 x (ne x (Q3 e))
     have:=qV up ex e h g gm y hy
     exact⟨y,hy,by omega⟩
  ·have c:¬lo<hi:=λz=>c (decide_eq_true (by omega))
   have:lo=hi:=by omega
   subst this
   exact⟨_,rfl,q lo ⟨h2,h3,λx e=>h4 lo x (Q6 _) e⟩⟩
theorem ux {k:Int}:∀{x:List Int},inV (.int k) (x.map V.int)=decide (k∈x)
 | []=>rfl
 |a::r=>by
  have ih:=ux (k:=k) (x:=r)
  unfold inV at ih⊢
  rw[Qr,ZW,ih]
  have:eqV (.int a) (.int k)=decide (k=a):=by
   show(_:Bool)=_
   by_cases c:a=k
   ·subst c;simp[eqV]
   ·have c':¬k=a:=λz=>c z.symm
    simp[eqV,c,c']
  rw[this]
  by_cases c:k=a
  ·simp[c]
  ·simp[c]
theorem xS {x:List Int}:(x.map V.int).all kN=true:=by
 rw[List.all_map]
 exact QK.mpr λ_ _=>rfl
theorem iy (T:Txt K mg t):aX P w K mg base CX0 2 t.jt t.fU ["self","key"] (nQ K t):=by
 have Gg:= @bO P w K mg base t T
 refine T.AA.ok sc_Leaves__has (λvs H Q E h=>?_) (λcdv A outer s H vs Q E hr h=>?_)
 ·obtain⟨a,k,F,ks,rfl,_⟩:=h
  rfl
 ·obtain⟨a,k,F,ks,rfl,hA,q⟩:=h
  refine⟨_,(ae (aF (i:=2) sc_Leaves__has.nd rfl (Or.inl rfl) (aN (pv 0) T.aD T.cN Gg (hr.mono (by decide)) T.cU .nil az (aa (pv 1) ag)))
   (ah (aH (gK (dE eO (pv 2) (ax aA (by rfl) T.bE a9 (aa (av (pv 0) rfl) ag)) (aG _)) (oJ (dE xt (pv 1) (br a7 (av (pv 0) rfl) (pv 2) (λ_ _=>rfl)) rfl))))))
   ,?_⟩
  obtain⟨dx,fs,hi,hm⟩:=hA.ins
  have q:=q H F hA Fr.refl
  obtain⟨L,A,ls,hb,ok,ef,hF⟩:=hA
  obtain⟨dx',ho⟩:=hb.obj
  have lA:((A.map V.ref).length:Int)=(ls.length:Int):=by rw[Q0,hb.len]
  refine⟨_,rfl,a,dx,fs,rfl,hi,hm _ (by decide+kernel),_,rfl,a,k,L,A,ls,rfl,hb,ok.ne,ok.up,λi li=>?_⟩
  refine⟨_,rfl,_,rfl,a,_,dx',_,_,rfl,ho,T.aD,T.au,b4,L,_,rfl,.inl (SqL.of hb.lst),_,_,rfl,rfl,_,rfl,lZ (λc=>?_) (λc=>?_)⟩
  ·have c:=of_decide_eq_true c
   have hi:i<ls.length:=by omega
   have ex:ls[i]?=some ls[i]:=Q5 hi
   obtain⟨b,eb,hbb⟩:=hb.at ex
   refine⟨_,rfl,_,rfl,a,_,dx',_,_,rfl,ho,T.aD,T.au,b4,_,rfl,L,_,_,_,rfl,rfl,SqL.of hb.lst,dF eb,b,_,rfl,.inl (SqL.of hbb),rfl,xS,?_⟩
   show Q (.bl (inV (.int k) (ls[i].map V.int))) H
   rw[ux]
   have:k∈ls[i]↔k∈ks:=by
    rw[←ef,li.mem ok]
    constructor
    ·exact λz=>⟨_,ex,z⟩
    ·rintro ⟨x,e,z⟩
     rw[ex]at e
     cases e
     exact z
   rw[decide_eq_decide.mpr this]
   exact q
  ·have c:¬(i:Int)<((A.map V.ref).length:Int):=λz=>c (decide_eq_true z)
   have:k∉ks:=λz=>by
    rw[←ef,li.mem ok]at z
    obtain⟨x,e,_⟩:=z
    have:=(Q4.mp e).1
    omega
   rw[decide_eq_false this]at q
   exact q
theorem mR (T:Txt K mg t):aX P w K mg base CX0 1 t.iN t.eB ["self"] (mL K t):=by
 refine T.z7.ok mO (λvs H Q E h=>?_) (λcdv A outer s H vs Q E hr h=>?_)
 ·obtain⟨a,dx,rfl,_⟩:=h
  rfl
 ·obtain⟨a,dx,rfl,ha,hd,q⟩:=h
  refine⟨_,(ah (bY (pv 0) (cu ag) rfl))
   ,?_⟩
  refine⟨Qh _,λL nL=>⟨_,rfl,a,_,dx,[],rfl,(by rw[ac (ai ha nL)];exact ha),T.aD,T.au,(by show 0<1000;decide),?_⟩⟩
  have na:=ai ha nL
  refine q _ (LvF a L []) ⟨L,[],[],⟨⟨dx,af⟩,by rw[ac na.symm];exact af,rfl,(λj b l e=>by simp at e),(λi j b e=>by simp at e),(λz=>by cases z)⟩,LvOk.nil,rfl,λb=>Iff.rfl⟩ λb o n w=>?_
  have n1:b≠a:=λy=>n (.inl y)
  have n2:b≠L:=ai w nL
  refine⟨by rw[ac n1,ac n2];exact w,λy=>?_⟩
  rcases y with y|y|y
  ·exact n1 y
  ·exact n2 y
  ·cases y
def hZ (t:Adr):Sp:=λvs H Q _=>∃(a L:Addr) (A:List Addr) (ls:List (List Int)) (i:Nat) (x:List Int),vs=[.ref a,.int (i:Int)]∧LvB t H a L A ls∧ls[i]?=some x∧x.length=9∧ls.length<5000∧
 ∀H' A',LvB t H' a L A' ((ls.set i (x.take 4)).take (i+1)++x.drop 4::(ls.set i (x.take 4)).drop (i+1))→Fr (LvF a L A) (LvF a L A') H H'→Q .non H'
theorem iw (T:Txt K mg t):aX P w K mg base CX0 1 t.dC t.b8 ["self","at"] (hZ t):=by
 refine T.uU.ok sc_Leaves__part_leaf (λvs H Q E h=>?_) (λcdv A outer s H vs Q E hr h=>?_)
 ·obtain⟨a,L,A,ls,i,x,rfl,_⟩:=h
  rfl
 ·obtain⟨a,L,A,ls,i,x,rfl,hb,ex,lx,ll,q⟩:=h
  refine⟨_,(ae (aF (i:=2) sc_Leaves__part_leaf.nd rfl (Or.inl rfl) (br a7 (av (pv 0) rfl) (pv 1) (λ_ _=>rfl)))
   (ae (aF (i:=3) sc_Leaves__part_leaf.nd rfl (Or.inl rfl) (aJ gL (ax aA (by rfl) T.bE a9 (aa (pv 2) ag)) aj))
   (ae (vk (ii kh (pv 2) kr (kq (pv 3))) (vm (av (pv 0) rfl) (pv 1) n9))
   (ah (aO (cM Qt X9 Xa lR (av (pv 0) rfl) (aa (aJ bJ (pv 1) aj) (aa (ii kh (pv 2) (kq (pv 3)) kr) ag))))))))
   ,?_⟩
  obtain⟨dx,ho⟩:=hb.obj
  obtain⟨c,ec,hc⟩:=hb.at ex
  have hil:i<A.length:=(Q4.mp ec).1
  have len9:((x.map V.int).length:Int)=9:=by rw[Q0,lx];rfl
  refine⟨_,rfl,a,_,dx,_,_,rfl,ho,T.aD,T.au,b4,_,rfl,L,_,_,_,rfl,rfl,SqL.of hb.lst,dF ec,?_⟩
  refine⟨_,rfl,c,_,rfl,.inl (SqL.of hc),_,_,rfl,rfl,⟨by decide,by decide⟩,?_⟩
  dsimp only
  rw[len9]
  have cut1:pK (x.map V.int) none (some (9/2))=(x.take 4).map V.int:=by
   unfold pK
   rw[Q0,lx]
   show((x.map V.int).drop 0).take (4-0)=_
   rw[ZD,ZX]
  have cut2:pK (x.map V.int) (some (9/2)) none=(x.drop 4).map V.int:=by
   unfold pK
   rw[Q0,lx]
   show((x.map V.int).drop 4).take (9-4)=_
   rw[List.map_drop,QN (by rw[QI,Q0,lx];exact Q6 _)]
  refine⟨_,rfl,_,rfl,_,rfl,c,_,rfl,SqL.of hc,λn1 nn1=>?_⟩
  rw[cut1]
  have s1:Same H (upd H n1 (.lst ((x.take 4).map V.int))):=ao nn1
  have hb1:=hb.same s1
  have hn1:upd H n1 (.lst ((x.take 4).map V.int)) n1=some (.lst ((x.take 4).map V.int)):=af
  have nF1:=hb.out nn1
  have ho1:=s1 _ _ ho
  have hc1:=s1 _ _ hc
  have hL1:=s1 _ _ hb.lst
  generalize upd H n1 (.lst ((x.take 4).map V.int))=H1 at s1 hb1 hn1 ho1 hc1 hL1⊢
  refine⟨_,rfl,a,_,dx,_,_,rfl,ho1,T.aD,T.au,b4,_,rfl,L,_,_,_,rfl,rfl,hL1,wC hil,?_⟩
  have es:(A.map V.ref).set i (V.ref n1)=(A.set i n1).map V.ref:=by rw[XG]
  rw[es]
  have hb2:=hb1.swap ec ex hn1 nF1
  have cL:c≠L:=λz=>hb.nL (z▸Q3 ec)
  have hc2:upd H1 L (.lst ((A.set i n1).map V.ref)) c=some (.lst (x.map V.int)):=by rw[ac cL];exact hc1
  obtain⟨dx2,ho2⟩:=hb2.obj
  have hL2:=hb2.lst
  have f2:Fr (LvF a L A) (LvF a L (A.set i n1)) H (upd H1 L (.lst ((A.set i n1).map V.ref))):=λb o n w=>by
   have w1:=s1 _ _ w
   refine⟨by rw[ac (λy=>n (.inr (.inl y)))];exact w1,λy=>?_⟩
   rcases y with y|y|y
   ·exact n (.inl y)
   ·exact n (.inr (.inl y))
   ·rcases Zo y with y|y
    ·exact n (.inr (.inr y))
    ·rw[y,nn1]at w;cases w
  generalize upd H1 L (.lst ((A.set i n1).map V.ref))=H2 at hb2 hc2 ho2 hL2 f2⊢
  refine⟨_,rfl,a,_,dx2,_,_,rfl,ho2,T.aD,T.au,b4,.inl ⟨rfl,_,SqL.of hL2⟩,_,rfl,_,_,rfl,rfl,_,rfl,_,rfl,_,rfl,c,_,rfl,SqL.of hc2,λn2 nn2=>?_⟩
  rw[cut2]
  have s3:Same H2 (upd H2 n2 (.lst ((x.drop 4).map V.int))):=ao nn2
  have hb3:=hb2.same s3
  have hn3:upd H2 n2 (.lst ((x.drop 4).map V.int)) n2=some (.lst ((x.drop 4).map V.int)):=af
  have nF3:=hb2.out nn2
  have hL3:=s3 _ _ hL2
  generalize upd H2 n2 (.lst ((x.drop 4).map V.int))=H3 at s3 hb3 hn3 hL3⊢
  have lS:(A.set i n1).length=A.length:=QF
  refine⟨L,_,_,_,rfl,rfl,hL3,(by omega),(by rw[Q0,lS];omega),(by rw[Q0,lS,hb.len];exact bq (by omega)),?_⟩
  have ei:((i:Int)+1).toNat=i+1:=by omega
  have hb4:=hb3.insert (i:=i+1) (by rw[lS];omega) hn3 nF3
  rw[ei]
  have em:((A.set i n1).map V.ref).take (i+1)++V.ref n2::((A.set i n1).map V.ref).drop (i+1)=((A.set i n1).take (i+1)++n2::(A.set i n1).drop (i+1)).map V.ref:=by
   rw[Qk,Qr,ZX,List.map_drop]
  rw[em]
  refine q _ _ hb4 (f2.trans (λb o n w=>?_))
  have w3:=s3 _ _ w
  refine⟨by rw[ac (λy=>n (.inr (.inl y)))];exact w3,λy=>?_⟩
  rcases y with y|y|y
  ·exact n (.inl y)
  ·exact n (.inr (.inl y))
  ·rcases Q7.mp y with y|y
   ·exact n (.inr (.inr (ZI y)))
   ·rcases Qe.mp y with y|y
    ·rw[y,nn2]at w;cases w
    ·exact n (.inr (.inr (X0 y)))
theorem LvB.insM {H:Hp} {a L:Addr} {A:List Addr} {ls:List (List Int)} (h:LvB t H a L A ls):∃dx fs,H a=some (.ins t.bI dx fs)∧∀m,m≠("leaves":Str)→fs.lookup m=none:=by
 obtain⟨dx,ho⟩:=h.obj
 exact⟨dx,_,ho,λm hm=>Cy hm⟩
theorem oW (T:Txt K mg t):aX P w K mg base CX0 3 t.ju t.fV ["self","key"] (nR K t):=by
 obtain⟨tk_MOST_IN_LEAF,hMOST_IN_LEAF⟩:=T.zx
 have Gd:= @iy P w K mg base t T
 have Gg:= @bO P w K mg base t T
 have Gh:= @iw P w K mg base t T
 refine T.AB.ok sc_Leaves__add (λvs H Q E h=>?_) (λcdv A outer s H vs Q E hr h=>?_)
 ·obtain⟨a,k,F,ks,rfl,_⟩:=h
  rfl
 ·obtain⟨a,k,F,ks,rfl,hA,hl,q1,q2⟩:=h
  refine⟨_,(ae (bc (fB (aN (pv 0) T.aD T.qt Gd (hr.mono (by decide)) T.qI .nil az (aa (pv 1) ag)))
   (ah wj)
   aR)
   (ae (bc (aC cW (ax aA (by rfl) T.bE a9 (aa (av (pv 0) rfl) ag)) aj (aG _))
   (ae (aO (cM Qt QX QY cx (av (pv 0) rfl) (aa (cu (aa (pv 1) ag)) ag)))
   (ah ko))
   aR)
   (ae (aF (i:=2) sc_Leaves__add.nd rfl (Or.inl rfl) (ax (rN rfl) (by rfl) T.vW pP (aa (aN (pv 0) T.aD T.cN Gg (hr.mono (by decide)) T.cU .nil az (aa (pv 1) ag)) (aa (aJ oM (ax aA (by rfl) T.bE a9 (aa (av (pv 0) rfl) ag)) aj) ag))))
   (ae (aF (i:=3) sc_Leaves__add.nd rfl (Or.inl rfl) (br a7 (av (pv 0) rfl) (pv 2) (λ_ _=>rfl)))
   (ae (aO (cM Qt X9 Xa lR (pv 3) (aa (ax aA (by rfl) T.bE a9 (aa (oK rfl (CScope.of (M:=["one"]) (N:=["self","key","at","leaf"]) (N':=["self","key","at","leaf"]) (dsc:=am dh) rfl rfl (by decide+kernel)) (cm (pv 3)) (λ_ _ _ _ _=>(aC eO (pv 0) (pv 2) (aG _))) (λ_ _ _ _ _=>(pv 0))) ag)) (aa (pv 1) ag))))
   (ah (bc (aC mt (ax aA (by rfl) T.bE a9 (aa (pv 3) ag)) (cn (v:= .int 8) (by rfl) hMOST_IN_LEAF ⟨_,rfl⟩) (aG _))
   (ah (aO (aN (pv 0) T.aD T.uS Gh (hr.mono (by decide)) T.uT .nil az (aa (pv 2) ag))))
   aR)))))))
   ,?_⟩
  obtain⟨dx,fs,hi,hm⟩:=hA.ins
  refine⟨_,rfl,a,dx,fs,rfl,hi,hm _ (by decide+kernel),_,rfl,a,k,F,ks,rfl,hA,λH0 F0 hA0 fr0=>?_⟩
  by_cases ck:k∈ks
  ·rw[decide_eq_true ck]
   refine⟨_,rfl,cO ?_⟩
   exact(q2 ck).elim
  rw[decide_eq_false ck]
  refine⟨_,rfl,cV ?_⟩
  have q:=q1 ck
  obtain⟨L,A,ls,hb,ok,ef,hF⟩:=hA0
  obtain⟨dx',ho⟩:=hb.obj
  have lA:((A.map V.ref).length:Int)=(ls.length:Int):=by rw[Q0,hb.len]
  have sh:=ok.short
  rw[ef]at sh
  have fr:Fr F (LvF a L A) H H0:=λb o n e=>⟨(fr0 b o n e).1,λy=>(fr0 b o n e).2 ((hF b).mpr y)⟩
  have nk:k∉ls.flatten:=by rw[ef];exact ck
  by_cases ce:ls=[]
  ·subst ce
   have eA:A=[]:=Zx.mp hb.len
   subst eA
   refine⟨_,rfl,a,_,dx',_,_,rfl,ho,T.aD,T.au,b4,L,_,rfl,.inl (SqL.of hb.lst),rfl,_,rfl,pC rfl ?_⟩
   refine⟨_,rfl,a,_,dx',_,_,rfl,ho,T.aD,T.au,b4,.inl ⟨rfl,_,SqL.of hb.lst⟩,_,rfl,(by show 1≤sizeLine;decide),λn nn=>?_⟩
   have s1:Same H0 (upd H0 n (.lst [.int k])):=ao nn
   have hb1:=hb.same s1
   have hn1:upd H0 n (.lst [.int k]) n=some (.lst (([k]:List Int).map V.int)):=af
   have nF:=hb.out nn
   have hL1:=s1 _ _ hb.lst
   refine⟨L,_,_,rfl,rfl,hL1,bK (by show 0≤1000;decide),?_⟩
   have hb2:=hb1.insert (i:=0) (Qh _) hn1 nF
   have ok1:LvOk [[k]]:=⟨(λl hl=>by rw[Qd.mp hl];simp),(λl hl=>by rw[Qd.mp hl];simp),(λi x y e1 e2=>by simp at e2),by show b9 [k];exact Z1 _ _⟩
   refine q _ (LvF a L [n]) [k] ⟨L,[n],[[k]],hb2,ok1,rfl,λb=>Iff.rfl⟩ (λz=>?_) (fr.trans λb o n' w=>?_)
   ·rw[←ef]
    simp
   ·have w1:=s1 _ _ w
    refine⟨by rw[ac (λy=>n' (.inr (.inl y)))];exact w1,λy=>?_⟩
    rcases y with y|y|y
    ·exact n' (.inl y)
    ·exact n' (.inr (.inl y))
    ·rw[Qd.mp y,nn]at w;cases w
  ·have hpos:=QP.mpr ce
   refine⟨_,rfl,a,_,dx',_,_,rfl,ho,T.aD,T.au,b4,L,_,rfl,.inl (SqL.of hb.lst),rfl,_,rfl,bR (λw=>?_) ?_⟩
   ·have:=V.int.inj w
    omega
   obtain⟨dx2,fs2,hi2,hm2⟩:=hb.insM
   refine⟨_,rfl,a,dx2,fs2,rfl,hi2,hm2 _ (by decide+kernel),_,rfl,a,k,L,A,ls,rfl,hb,ok.ne,ok.up,λi li=>?_⟩
   refine⟨_,rfl,a,_,dx',_,_,rfl,ho,T.aD,T.au,b4,L,_,rfl,.inl (SqL.of hb.lst),_,_,rfl,rfl,_,_,rfl,?_⟩
   obtain⟨x,ad⟩:=li.add ok ce
   have em:(if((A.map V.ref).length:Int)-1<(i:Int)then((A.map V.ref).length:Int)-1 else(i:Int))=((min i (ls.length-1):Nat):Int):=by
    rw[lA]
    split<;>omega
   dsimp only
   rw[em]
   generalize min i (ls.length-1)=j at ad⊢
   obtain⟨c,ec,hc⟩:=hb.at ad.at_
   have jl:j<ls.length:=(Q4.mp ad.at_).1
   have x8:=ok.le x (Q3 ad.at_)
   refine⟨_,rfl,a,_,dx',_,_,rfl,ho,T.aD,T.au,b4,_,rfl,L,_,_,_,rfl,rfl,SqL.of hb.lst,dF ec,?_⟩
   refine⟨_,rfl,.inl ⟨rfl,_,SqL.of hc⟩,_,rfl,c,rfl,⟨_,SqL.of hc⟩,λD hD=>?_⟩
   refine g8 (K:=K) (a:=c) (xs:=x.map V.int) (λn ys H3=>H3=upd H0 D (.lst ys)∧ys=((x.take n).filter (λz=>decide (z<k))).map V.int) ⟨rfl,rfl⟩ (λn ys H3 _ w=>SqL.of (by rw[w.1,ac (ai hc hD)];exact hc)) (λn v ys H3 hv w hDD=>?_) (λys H3 w hDD=>?_)
   ·obtain⟨e1,e2⟩:=w
    obtain⟨g,rfl,eg⟩:∃g:Int,v= .int g∧x[n]?=some g:=by
     rw[Ql]at hv
     cases e:x[n]? with
     |none=>rw[e]at hv;cases hv
     |some g=>rw[e]at hv;cases hv;exact⟨g,rfl,rfl⟩
    have hn:n<(x.map V.int).length:=(Q4.mp hv).1
    refine⟨_,rfl,_,rfl,_,_,rfl,rfl,_,rfl,?_⟩
    have fl:ys.length≤8:=by
     rw[e2,Q0]
     have h1:=QC (λz=>decide (z<k)) (x.take n)
     have h2:(x.take n).length≤x.length:=by rw[Qm];omega
     omega
    by_cases cg:g<k
    ·refine iF cg ⟨_,rfl,CNext.mk hn hDD (bK (by omega)) ⟨by rw[e1,cz],?_⟩⟩
     rw[e2,QA,eg,QS,Qk]
     simp[cg]
    ·refine bR cg (CSkip.mk hn hDD ⟨e1,?_⟩)
     rw[e2,QA,eg,QS]
     simp[cg]
   ·obtain⟨e1,e2⟩:=w
    rw[Q0,QO]at e2
    have s3:Same H0 H3:=by rw[e1];exact ao hD
    have hb3:=hb.same s3
    have hc3:=s3 _ _ hc
    have yl:(ys.length:Int)=((x.filter (λz=>decide (z<k))).length:Int):=by rw[e2,Q0]
    have fle:=QC (λz=>decide (z<k)) x
    refine⟨D,_,rfl,.inl (SqL.of hDD),_,rfl,c,_,_,_,rfl,rfl,hc3,(by omega),(by rw[Q0];omega),(by rw[Q0];exact bK (by omega)),?_⟩
    have ei:(x.map V.int).take (ys.length:Int).toNat++V.int k::(x.map V.int).drop (ys.length:Int).toNat=(dt x k).map V.int:=by
     rw[yl,QQ]
     unfold dt
     rw[Qk,Qr,ZX,List.map_drop]
    dsimp only
    rw[ei]
    have hb4:=hb3.write (y:=dt x k) ec ad.at_
    have il:=zo (l:=x) (k:=k)
    obtain⟨up4,mem4⟩:=ad.set ok nk
    have cF:LvF a L A c:= .inr (.inr (Q3 ec))
    have f4:Fr (LvF a L A) (LvF a L A) H0 (upd H3 c (.lst ((dt x k).map V.int))):=λb o n w=>⟨by rw[ac (λy=>n (by rw[y];exact cF))];exact s3 _ _ w,n⟩
    have hc4:upd H3 c (.lst ((dt x k).map V.int)) c=some (.lst ((dt x k).map V.int)):=af
    generalize upd H3 c (.lst ((dt x k).map V.int))=H4 at hb4 f4 hc4⊢
    refine⟨_,rfl,c,_,rfl,.inl (SqL.of hc4),_,_,rfl,rfl,_,rfl,?_⟩
    have ll:((dt x k).map V.int).length=x.length+1:=by rw[Q0,il]
    by_cases c9:x.length=8
    ·refine iF (by rw[ll];omega) ?_
     obtain⟨dx5,fs5,hi5,hm5⟩:=hb4.insM
     have e5:(ls.set j (dt x k))[j]?=some (dt x k):=by rw[Qx,if_pos rfl,if_pos jl]
     refine⟨_,rfl,a,dx5,fs5,rfl,hi5,hm5 _ (by decide+kernel),_,rfl,a,L,A,_,j,_,rfl,hb4,e5,by omega,by rw[QF];omega,λH6 A6 hb6 f6=>?_⟩
     have er:(ls.set j (dt x k)).set j ((dt x k).take 4)=ls.set j ((dt x k).take 4):=List.set_set _
     rw[er]at hb6
     have up5:b9 (ls.set j ((dt x k).take 4++(dt x k).drop 4)).flatten:=by rw[QJ];exact up4
     obtain⟨ok6,ef6⟩:=ok.parted ad.at_ (a:=(dt x k).take 4) (b:=(dt x k).drop 4) (by rw[Qm];omega) (by rw[QI];omega) up5
     rw[QJ]at ef6
     refine q H6 _ _ ⟨L,A6,_,hb6,ok6,rfl,λb=>Iff.rfl⟩ (λz=>?_) (fr.trans (f4.trans f6))
     rw[ef6,mem4,ef]
    ·refine bR (by rw[ll];omega) ?_
     have ok4:=ok.grown ad.at_ (y:=dt x k) (by omega) (by omega) up4
     exact q H4 _ _ ⟨L,A,_,hb4,ok4,rfl,λb=>Iff.rfl⟩ (λz=>by rw[mem4,ef]) (fr.trans f4)
def hJ (t:Adr):Sp:=λvs H Q _=>∃(a L:Addr) (A:List Addr) (ls:List (List Int)) (i:Int),vs=[.ref a,.int i]∧LvB t H a L A ls∧-1≤i∧i<(ls.length:Int)∧(∀l∈ls,l.length≤8)∧ls.length<5000∧
 ∀H' A' ls',LvB t H' a L A' ls'→ls'=(if 0≤i then je ls i.toNat else ls)→Fr (LvF a L A) (LvF a L A') H H'→Q .non H'
theorem zc {A:List Addr} {i:Nat} {n b:Addr} (h:b∈A.set i n):b∈A∨b=n:=Zo h
theorem hU (T:Txt K mg t):aX P w K mg base CX0 1 t.du t.bZ ["self","at"] (hJ t):=by
 obtain⟨tk_LEAST_IN_TWO,hLEAST_IN_TWO⟩:=T.zy
 refine T.uQ.ok sc_Leaves__join_small (λvs H Q E h=>?_) (λcdv A outer s H vs Q E hr h=>?_)
 ·obtain⟨a,L,A,ls,i,rfl,_⟩:=h
  rfl
 ·obtain⟨a,L,A,ls,i,rfl,hb,i0,i1,l8,ll,q⟩:=h
  refine⟨_,(ae (bc (PW.pt (oE (aC eO (pv 1) aj (aG _)) (jL (aC cW (aJ bJ (pv 1) aj) (ax aA (by rfl) T.bE a9 (aa (av (pv 0) rfl) ag)) (aG _)))))
   (ah ko)
   aR)
   (ae (aF (i:=2) sc_Leaves__join_small.nd rfl (Or.inl rfl) (aJ Dd (br a7 (av (pv 0) rfl) (pv 1) (λ_ _=>rfl)) (br a7 (av (pv 0) rfl) (aJ bJ (pv 1) aj) (λ_ _=>rfl))))
   (ah (bc (aC eO (ax aA (by rfl) T.bE a9 (aa (pv 2) ag)) (cn (v:= .int 5) (by rfl) hLEAST_IN_TWO ⟨_,rfl⟩) (aG _))
   (ae (vk (pv 2) (vm (av (pv 0) rfl) (pv 1) n9))
   (ah (aO (cM Qt PySem.F.slot_list_pop PySem.F.type_list_pop uf (av (pv 0) rfl) (aa (aJ bJ (pv 1) aj) ag)))))
   aR))))
   ,?_⟩
  obtain⟨dx,ho⟩:=hb.obj
  have lA:((A.map V.ref).length:Int)=(ls.length:Int):=by rw[Q0,hb.len]
  by_cases c0:i<0
  ·refine⟨_,rfl,_,_,rfl,rfl,_,rfl,iF c0 ?_⟩
   exact cO (q H A ls hb (by rw[if_neg (by omega)]) Fr.refl)
  refine⟨_,rfl,_,_,rfl,rfl,_,rfl,bR c0 ?_⟩
  obtain⟨n,rfl⟩:=Za (show 0≤i by omega)
  have en:((n:Int)).toNat=n:=QQ n
  rw[if_pos (by omega),en]at q
  refine⟨_,rfl,_,_,rfl,rfl,_,rfl,a,_,dx,_,_,rfl,ho,T.aD,T.au,b4,L,_,rfl,.inl (SqL.of hb.lst),rfl,_,rfl,?_⟩
  by_cases c1:n+1=ls.length
  ·refine pC (congrArg V.int (by rw[lA];omega)) ?_
   exact q H A ls hb (pB (by omega)).symm Fr.refl
  refine bR (λw=>c1 (by have:=V.int.inj w;rw[lA]at this;omega)) ?_
  have hn:n<ls.length:=by omega
  have hn1:n+1<ls.length:=by omega
  have ex:ls[n]?=some ls[n]:=Q5 hn
  have ey:ls[n+1]?=some ls[n+1]:=Q5 hn1
  have x8:=l8 _ (Zv hn)
  have y8:=l8 _ (Zv hn1)
  generalize ls[n]=x at ex x8
  generalize ls[n+1]=y at ey y8
  obtain⟨c,ec,hc⟩:=hb.at ex
  obtain⟨d,ed,hd⟩:=hb.at ey
  have ec1:(n:Int)+1=((n+1:Nat):Int):=rfl
  refine⟨_,rfl,a,_,dx,_,_,rfl,ho,T.aD,T.au,b4,_,rfl,L,_,_,_,rfl,rfl,SqL.of hb.lst,dF ec,_,rfl,a,_,dx,_,_,rfl,ho,T.aD,T.au,b4,_,rfl,_,_,rfl,rfl,L,_,_,_,rfl,rfl,SqL.of hb.lst,dF ed,c,d,_,_,rfl,rfl,hc,hd,Zp (bK (by rw[Q0,Q0];omega)),λbo nbo=>?_⟩
  rw[←Qk]
  have s1:Same H (upd H bo (.lst ((x++y).map V.int))):=ao nbo
  have hb1:=hb.same s1
  have hbo:upd H bo (.lst ((x++y).map V.int)) bo=some (.lst ((x++y).map V.int)):=af
  have nF:=hb.out nbo
  have ho1:=s1 _ _ ho
  have hL1:=s1 _ _ hb.lst
  generalize upd H bo (.lst ((x++y).map V.int))=H1 at s1 hb1 hbo ho1 hL1⊢
  refine⟨_,rfl,bo,_,rfl,.inl (SqL.of hbo),_,_,rfl,rfl,_,rfl,?_⟩
  have lxy:(((x++y).map V.int).length:Int)=(x.length:Int)+(y.length:Int):=by rw[Q0,Qg];rfl
  rw[uw ex ey]at q
  by_cases c5:x.length+y.length<5
  ·refine iF (by rw[lxy];omega) ?_
   rw[if_pos c5]at q
   have nA:n<A.length:=by rw[hb.len];exact hn
   refine⟨_,rfl,_,rfl,a,_,dx,_,_,rfl,ho1,T.aD,T.au,b4,_,rfl,L,_,_,_,rfl,rfl,hL1,wC nA,?_⟩
   have es:(A.map V.ref).set n (V.ref bo)=(A.set n bo).map V.ref:=by rw[XG]
   rw[es]
   have hb2:=hb1.swap ec ex hbo nF
   obtain⟨dx2,ho2⟩:=hb2.obj
   have hL2:=hb2.lst
   have f2:Fr (LvF a L A) (LvF a L (A.set n bo)) H (upd H1 L (.lst ((A.set n bo).map V.ref))):=λb o n' w=>by
    have w1:=s1 _ _ w
    refine⟨by rw[ac (λy=>n' (.inr (.inl y)))];exact w1,λy=>?_⟩
    rcases y with y|y|y
    ·exact n' (.inl y)
    ·exact n' (.inr (.inl y))
    ·rcases zc y with y|y
     ·exact n' (.inr (.inr y))
     ·rw[y,nbo]at w;cases w
   generalize upd H1 L (.lst ((A.set n bo).map V.ref))=H2 at hb2 ho2 hL2 f2⊢
   have lS:((A.set n bo).map V.ref).length=ls.length:=by rw[Q0,QF,hb.len]
   have hn2:n+1<(A.set n bo).length:=by rw[QF,hb.len];exact hn1
   have sx:seqIndex? ((n:Int)+1) ((A.set n bo).map V.ref).length=some (n+1):=by
    have:=seqIndex_of (k:=(n:Int)+1) (n:=((A.set n bo).map V.ref).length) (by omega) (by rw[lS];omega)
    rw[this]
    congr 1
   refine⟨_,rfl,a,_,dx2,_,_,rfl,ho2,T.aD,T.au,b4,.inl ⟨rfl,_,SqL.of hL2⟩,_,rfl,_,_,rfl,rfl,L,_,_,n+1,_,rfl,rfl,hL2,(by omega),(by omega),sx,(by rw[Ql,Q5 hn2];rfl),?_⟩
   have hb3:=hb2.erase (i:=n+1)
   have em:((A.set n bo).map V.ref).eraseIdx (n+1)=((A.set n bo).eraseIdx (n+1)).map V.ref:=jX _ _
   rw[em]
   refine q _ _ _ hb3 rfl (f2.trans λb o n' w=>?_)
   refine⟨by rw[ac (λy=>n' (.inr (.inl y)))];exact w,λy=>?_⟩
   rcases y with y|y|y
   ·exact n' (.inl y)
   ·exact n' (.inr (.inl y))
   ·exact n' (.inr (.inr (Z8 y)))
  ·refine bR (by rw[lxy];omega) ?_
   rw[if_neg c5]at q
   exact q H1 A ls hb1 rfl (Fr.of_same s1)
theorem jP (T:Txt K mg t):aX P w K mg base CX0 3 t.eX t.cT ["self","key"] (jH K t):=by
 have Gd:= @iy P w K mg base t T
 have Gf:= @hU P w K mg base t T
 have Gg:= @bO P w K mg base t T
 refine T.wZ.ok sc_Leaves__discard (λvs H Q E h=>?_) (λcdv A outer s H vs Q E hr h=>?_)
 ·obtain⟨a,k,F,ks,rfl,_⟩:=h
  rfl
 ·obtain⟨a,k,F,ks,rfl,hA,hl,q1,q2⟩:=h
  refine⟨_,(ae (bc (jM (fB (aN (pv 0) T.aD T.qt Gd (hr.mono (by decide)) T.qI .nil az (aa (pv 1) ag))))
   (ah wj)
   aR)
   (ae (aF (i:=2) sc_Leaves__discard.nd rfl (Or.inl rfl) (aN (pv 0) T.aD T.cN Gg (hr.mono (by decide)) T.cU .nil az (aa (pv 1) ag)))
   (ae (aO (cM Qt PySem.F.slot_list_remove PySem.F.type_list_remove xB (br a7 (av (pv 0) rfl) (pv 2) (λ_ _=>rfl)) (aa (pv 1) ag)))
   (ae (bc (aC cW (ax aA (by rfl) T.bE a9 (aa (br a7 (av (pv 0) rfl) (pv 2) (λ_ _=>rfl)) ag)) aj (aG _))
   (ae (aO (cM Qt PySem.F.slot_list_pop PySem.F.type_list_pop uf (av (pv 0) rfl) (aa (pv 2) ag)))
   (ah ko))
   aR)
   (ae (aO (aN (pv 0) T.aD T.iC Gf (hr.mono (by decide)) T.iI .nil az (aa (pv 2) ag)))
   (ah (aO (aN (pv 0) T.aD T.iC Gf (hr.mono (by decide)) T.iI .nil az (aa (aJ oM (pv 2) aj) ag)))))))))
   ,?_⟩
  obtain⟨dx,fs,hi,hm⟩:=hA.ins
  refine⟨_,rfl,a,dx,fs,rfl,hi,hm _ (by decide+kernel),_,rfl,a,k,F,ks,rfl,hA,λH0 F0 hA0 fr0=>?_⟩
  by_cases ck:k∈ks
  case neg=>
   rw[decide_eq_false ck]
   refine⟨_,rfl,cO ?_⟩
   exact(q2 ck).elim
  rw[decide_eq_true ck]
  refine⟨_,rfl,cV ?_⟩
  have q:=q1 ck
  obtain⟨L,A,ls,hb,ok,ef,hF⟩:=hA0
  obtain⟨dx',ho⟩:=hb.obj
  have sh:=ok.short
  rw[ef]at sh
  have fr:Fr F (LvF a L A) H H0:=λb o n e=>⟨(fr0 b o n e).1,λy=>(fr0 b o n e).2 ((hF b).mpr y)⟩
  obtain⟨dx2,fs2,hi2,hm2⟩:=hb.insM
  refine⟨_,rfl,a,dx2,fs2,rfl,hi2,hm2 _ (by decide+kernel),_,rfl,a,k,L,A,ls,rfl,hb,ok.ne,ok.up,λi li=>?_⟩
  obtain⟨x,ex,hx⟩:=(li.mem ok).mp (by rw[ef];exact ck)
  obtain⟨c,ec,hc⟩:=hb.at ex
  have il:i<ls.length:=(Q4.mp ex).1
  have ilA:i<A.length:=by rw[hb.len];exact il
  refine⟨_,rfl,a,_,dx',_,_,rfl,ho,T.aD,T.au,b4,_,rfl,L,_,_,_,rfl,rfl,SqL.of hb.lst,dF ec,.inl ⟨rfl,_,SqL.of hc⟩,_,rfl,c,x,k,rfl,rfl,hc,hx,?_⟩
  have hb1:=hb.write (y:=x.erase k) ec ex
  obtain⟨up1,mem1⟩:=ok.gone ex hx
  have cF:LvF a L A c:= .inr (.inr (Q3 ec))
  have f1:Fr (LvF a L A) (LvF a L A) H0 (upd H0 c (.lst ((x.erase k).map V.int))):=λb o n w=>⟨by rw[ac (λy=>n (by rw[y];exact cF))];exact w,n⟩
  have hc1:upd H0 c (.lst ((x.erase k).map V.int)) c=some (.lst ((x.erase k).map V.int)):=af
  obtain⟨dx1,ho1⟩:=hb1.obj
  have hL1:=hb1.lst
  generalize upd H0 c (.lst ((x.erase k).map V.int))=H1 at hb1 f1 hc1 ho1 hL1⊢
  have le:=List.length_erase_of_mem hx
  refine⟨_,rfl,a,_,dx1,_,_,rfl,ho1,T.aD,T.au,b4,_,rfl,L,_,_,_,rfl,rfl,SqL.of hL1,dF ec,c,_,rfl,.inl (SqL.of hc1),rfl,_,rfl,?_⟩
  have px:=List.length_pos_of_mem hx
  by_cases c0:x.length=1
  ·refine pC (congrArg V.int (by rw[Q0,le,c0];rfl)) ?_
   have en:x.erase k=[]:=Zx.mp (by omega)
   rw[en]at up1 mem1 hb1
   have sx:seqIndex? (i:Int) (A.map V.ref).length=some i:=by
    have:=seqIndex_of (k:=(i:Int)) (n:=(A.map V.ref).length) (by omega) (by rw[Q0];omega)
    rw[this,QQ]
   refine⟨_,rfl,a,_,dx1,_,_,rfl,ho1,T.aD,T.au,b4,.inl ⟨rfl,_,SqL.of hL1⟩,_,rfl,L,_,_,i,_,rfl,rfl,hL1,(by omega),(by omega),sx,(by rw[Ql,ec];rfl),?_⟩
   have hb2:=hb1.erase (i:=i)
   have e2:(ls.set i ([]:List Int)).eraseIdx i=ls.eraseIdx i:=rE _ _ _
   rw[e2]at hb2
   rw[jX]
   obtain⟨ok2,ef2⟩:=ok.out ex c0 up1
   refine q _ _ _ ⟨L,_,_,hb2,ok2,rfl,λb=>Iff.rfl⟩ (λz=>by rw[ef2,mem1,ef]) ((fr.trans f1).trans λb o n w=>?_)
   refine⟨by rw[ac (λy=>n (.inr (.inl y)))];exact w,λy=>?_⟩
   rcases y with y|y|y
   ·exact n (.inl y)
   ·exact n (.inr (.inl y))
   ·exact n (.inr (.inr (Z8 y)))
  ·refine bR (λw=>c0 (by have:=V.int.inj w;rw[Q0,le]at this;omega)) ?_
   have ny:x.erase k≠[]:=Zn (by omega)
   have w1:=ok.shrunk ex ny (by omega) up1
   obtain⟨dx3,fs3,hi3,hm3⟩:=hb1.insM
   have ls1:(ls.set i (x.erase k)).length=ls.length:=QF
   refine⟨_,rfl,a,dx3,fs3,rfl,hi3,hm3 _ (by decide+kernel),_,rfl,a,L,A,_,(i:Int),rfl,hb1,by omega,by rw[ls1];omega,w1.le,by rw[ls1];omega,λH2 A2 ls2 hb2 e2 f2=>?_⟩
   rw[if_pos (by omega),QQ]at e2
   obtain⟨w2,fl2⟩:=w1.join (i:=i) (λj h=>h)
   rw[←e2]at w2 fl2
   have l2:i≤ls2.length∧ls2.length≤ls.length:=by
    have:=xI (ls:=ls.set i (x.erase k)) (i:=i)
    rw[←e2,ls1]at this
    omega
   obtain⟨dx4,fs4,hi4,hm4⟩:=hb2.insM
   refine⟨_,rfl,a,dx4,fs4,rfl,hi4,hm4 _ (by decide+kernel),_,rfl,_,_,rfl,rfl,a,L,A2,ls2,(i:Int)-1,rfl,hb2,by omega,by omega,w2.le,by omega,λH3 A3 ls3 hb3 e3 f3=>?_⟩
   have fin:LvOk ls3∧ls3.flatten=ls2.flatten:=by
    by_cases ci:i=0
    ·subst ci
     rw[if_neg (by omega)]at e3
     subst e3
     exact⟨w2.ok λj h=>by omega,rfl⟩
    ·have ei:((i:Int)-1).toNat=i-1:=by omega
     rw[if_pos (by omega),ei]at e3
     obtain⟨w3,fl3⟩:=w2.join (i:=i-1) (λj h=>by omega)
     rw[←e3]at w3 fl3
     exact⟨w3.ok λj h=>by omega,fl3⟩
   obtain⟨ok3,ef3⟩:=fin
   refine q H3 _ _ ⟨L,A3,ls3,hb3,ok3,rfl,λb=>Iff.rfl⟩ (λz=>by rw[ef3,fl2,mem1,ef]) (((fr.trans f1).trans f2).trans f3)
def CG (a l:Addr) (k n:Int) (ls:List (List Int)) (H:Hp):Nat→St→Hp→Prop:=λm σ H'=>∃(i:Nat),m=ls.length-i∧Same H H'∧H l=none∧σ=[some (.ref a),some (.int k),some (.int n),some (.ref l),some (.int (i:Int))]∧i≤ls.length∧H' l=some (.lst ((((ls.take i).flatten).filter λz=>decide (k≤z)).map V.int))
theorem rD {ls:List (List Int)} {i:Nat} {x:List Int} (e:ls[i]?=some x):(ls.take (i+1)).flatten=(ls.take i).flatten++x:=by
 rw[QA,e,Ze]
 simp
theorem uB (ls:List (List Int)) (i:Nat):ls.flatten=(ls.take i).flatten++(ls.drop i).flatten:=by rw[←Ze,QJ]
theorem jO (T:Txt K mg t):aX P w K mg base CX0 2 t.eV t.cR ["self","key","most"] (jG K t):=by
 have Gg:= @bO P w K mg base t T
 refine T.wY.ok sc_Leaves__from_on (λvs H Q E h=>?_) (λcdv A outer s H vs Q E hr h=>?_)
 ·obtain⟨a,k,n,F,ks,rfl,_⟩:=h
  rfl
 ·obtain⟨a,k,n,F,ks,rfl,hA,hl,n0,q⟩:=h
  refine⟨_,(ae (aF (i:=3) sc_Leaves__from_on.nd rfl (Or.inl rfl) (cu ag))
   (ae (aF (i:=4) sc_Leaves__from_on.nd rfl (Or.inl rfl) (aN (pv 0) T.aD T.cN Gg (hr.mono (by decide)) T.cU .nil az (aa (pv 1) ag)))
   (ae (oH PassesOwn.never (PW.pt (gI (aC eO (pv 4) (ax aA (by rfl) T.bE a9 (aa (av (pv 0) rfl) ag)) (aG _)) (dD (aC eO (ax aA (by rfl) T.bE a9 (aa (pv 3) ag)) (pv 2) (aG _)))))
   (ae (aO (cM Qt PySem.F.slot_list_extend PySem.F.type_list_extend rf (pv 3) (aa (oK rfl (CScope.of (M:=["one"]) (N:=["self","key","most","told","at"]) (N':=["self","key","most","told","at"]) (dsc:=am bT) rfl rfl (by decide+kernel)) (cm (br a7 (av (pv 0) rfl) (pv 4) (λ_ _=>rfl))) (λ_ _ _ _ _=>(aC Ct (pv 0) (pv 2) (aG _))) (λ_ _ _ _ _=>(pv 0))) ag)))
   (ah (yP (i:=4) sc_Leaves__from_on.nd rfl (Or.inl rfl) aj zn))))
   (ah (aH (ii kh (pv 3) kr (kq (pv 2))))))))
   ,?_⟩
  obtain⟨L,A,ls,hb,ok,ef,hF⟩:=hA
  refine⟨Qh _,λl nl=>?_⟩
  have s0:Same H (upd H l (.lst [])):=ao nl
  have e0:upd H l (.lst []) l=some (.lst (([]:List Int).map V.int)):=af
  have hb0:=hb.same s0
  generalize upd H l (.lst [])=H0 at s0 e0 hb0⊢
  obtain⟨dx2,fs2,hi2,hm2⟩:=hb0.insM
  refine⟨_,rfl,a,dx2,fs2,rfl,hi2,hm2 _ (by decide+kernel),_,rfl,a,k,L,A,ls,rfl,hb0,ok.ne,ok.up,λi0 li=>?_⟩
  have f0:((ls.take i0).flatten).filter (λz=>decide (k≤z))=[]:=List.filter_eq_nil_iff.mpr λz hz=>by
   have:=xP ok li z hz
   simpa using this
  have lA:((A.map V.ref).length:Int)=(ls.length:Int):=by rw[Q0,hb.len]
  refine⟨CG a l k n ls H,⟨_,i0,rfl,s0,nl,rfl,li.le,by rw[f0];exact e0⟩,?_⟩
  rintro m σ H' ⟨i,rfl,s1,_,rfl,il,e1⟩
  have hb1:=hb.same s1
  obtain⟨dx1,ho1⟩:=hb1.obj
  have fin:∀(done:((((ls.take i).flatten).filter λz=>decide (k≤z)).take n.toNat)=(ks.filter λz=>decide (k≤z)).take n.toNat),∀p,H' p=none→Q (.ref p) (upd H' p (.lst (pK ((((ls.take i).flatten).filter λz=>decide (k≤z)).map V.int) none (some n)))):=λdone p np=>by
   refine q _ p (s1.trans (ao np)) ?_ ?_
   ·cases e:H p with
    |none=>rfl
    |some o=>rw[s1 _ _ e]at np;cases np
   ·rw[af,pJ n0,←ZX,done]
  refine⟨_,rfl,_,rfl,a,_,dx1,_,_,rfl,ho1,T.aD,T.au,b4,L,_,rfl,.inl (SqL.of hb1.lst),_,_,rfl,rfl,_,rfl,?_⟩
  by_cases c:i<ls.length
  ·refine iF (by rw[lA];omega) ?_
   refine⟨_,rfl,l,_,rfl,.inl (SqL.of e1),_,rfl,_,_,rfl,rfl,_,rfl,?_⟩
   by_cases c2:((((((ls.take i).flatten).filter λz=>decide (k≤z)).map V.int).length:Nat):Int)<n
   ·refine iF c2 ?_
    refine⟨λσ' H''=>∃m',m'<ls.length-i∧CG a l k n ls H m' σ' H'',λ_ _ h=>h,?_⟩
    have ex:ls[i]?=some ls[i]:=Q5 c
    obtain⟨b,eb,hbb⟩:=hb1.at ex
    have lb:l≠b:=λz=>by
     obtain⟨b',eb',h'⟩:=hb.at ex
     rw[eb]at eb'
     cases eb'
     rw[←z,nl]at h'
     cases h'
    have fl1:=QC (λz=>decide (k≤z)) (ls.take i).flatten
    have fl2:(ls.take i).flatten.length+ls[i].length≤ks.length:=by
     rw[←ef,uB ls (i+1),rD ex,Qg,Qg]
     omega
    refine⟨_,rfl,.inl ⟨rfl,_,SqL.of e1⟩,_,rfl,a,_,dx1,_,_,rfl,ho1,T.aD,T.au,b4,_,rfl,L,_,_,_,rfl,rfl,SqL.of hb1.lst,dF eb,b,rfl,⟨_,SqL.of hbb⟩,λD hD=>?_⟩
    generalize ls[i]=x at ex hbb fl2⊢
    refine g8 (K:=K) (a:=b) (xs:=x.map V.int) (λm ys H3=>H3=upd H' D (.lst ys)∧ys=((x.take m).filter (λz=>decide (k≤z))).map V.int) ⟨rfl,rfl⟩ (λm ys H3 _ w=>SqL.of (by rw[w.1,ac (ai hbb hD)];exact hbb)) (λm v ys H3 hv w hDD=>?_) (λys H3 w hDD=>?_)
    ·obtain⟨w1,w2⟩:=w
     obtain⟨g,rfl,eg⟩:∃g:Int,v= .int g∧x[m]?=some g:=by
      rw[Ql]at hv
      cases e:x[m]? with
      |none=>rw[e]at hv;cases hv
      |some g=>rw[e]at hv;cases hv;exact⟨g,rfl,rfl⟩
     have hn:m<(x.map V.int).length:=(Q4.mp hv).1
     refine⟨_,rfl,_,rfl,_,_,rfl,rfl,_,rfl,?_⟩
     have fl:ys.length≤100000:=by
      rw[w2,Q0]
      have h1:=QC (λz=>decide (k≤z)) (x.take m)
      have h2:(x.take m).length≤x.length:=by rw[Qm];omega
      omega
     by_cases cg:k≤g
     ·refine iF cg ⟨_,rfl,CNext.mk hn hDD (bq fl) ⟨by rw[w1,cz],?_⟩⟩
      rw[w2,QA,eg,QS,Qk]
      simp[cg]
     ·refine bR cg (CSkip.mk hn hDD ⟨w1,?_⟩)
      rw[w2,QA,eg,QS]
      simp[cg]
    ·obtain⟨w1,w2⟩:=w
     rw[Q0,QO]at w2
     have s3:Same H' H3:=by rw[w1];exact ao hD
     have e3:=s3 _ _ e1
     have fle:=QC (λz=>decide (k≤z)) x
     have hsz:((((ls.take i).flatten).filter λz=>decide (k≤z)).map V.int).length+ys.length≤sizeLine:=by
      rw[w2,Q0,Q0]
      exact Zp (bq (by omega))
     refine⟨l,D,_,_,rfl,rfl,e3,hDD,hsz,?_⟩
     have hE:(((ls.take i).flatten).filter λz=>decide (k≤z)).map V.int++ys=(((ls.take (i+1)).flatten).filter λz=>decide (k≤z)).map V.int:=by
      rw[w2,rD ex,QS,Qk]
     rw[hE]
     refine⟨_,rfl,_,_,rfl,rfl,_,?_,i+1,rfl,?_,nl,rfl,c,af⟩
     ·omega
     ·exact cE (s1.trans s3) nl
   ·refine bR c2 ?_
    refine⟨_,rfl,_,rfl,_,rfl,l,_,rfl,SqL.of e1,fin ?_⟩
    have:ks.filter (λz=>decide (k≤z))=((ls.take i).flatten).filter (λz=>decide (k≤z))++((ls.drop i).flatten).filter (λz=>decide (k≤z)):=by rw[←ef,uB ls i,QS]
    rw[this,List.take_append_of_le_length]
    rw[Q0]at c2
    omega
  ·refine bR (by rw[lA];omega) ?_
   have ei:i=ls.length:=by omega
   subst ei
   refine⟨_,rfl,_,rfl,_,rfl,l,_,rfl,SqL.of e1,fin ?_⟩
   rw[QO,ef]
theorem tW:∀{a b:List Int},b9 a→b9 b→(∀z,z∈a↔z∈b)→a=b
 | [],[],_,_,_=>rfl
 | [],y::r,_,_,h=>by have:=(h y).mpr Q8;cases this
 |x::r,[],_,_,h=>by have:=(h x).mp Q8;cases this
 |x::r,y::r',ha,hb,h=>by
  obtain⟨a1,a2⟩:=Z7.mp ha
  obtain⟨b1,b2⟩:=Z7.mp hb
  have exy:x=y:=by
   rcases Qe.mp ((h x).mp Q8)with e|e
   ·exact e
   ·rcases Qe.mp ((h y).mpr Q8)with e2|e2
    ·exact e2.symm
    ·have h1:=b1 x e
     have h2:=a1 y e2
     omega
  subst exy
  rw[tW a2 b2 λz=>?_]
  constructor
  ·intro hz
   rcases Qe.mp ((h z).mp (Qa _ hz))with e|e
   ·have:=a1 z hz;omega
   ·exact e
  ·intro hz
   rcases Qe.mp ((h z).mpr (Qa _ hz))with e|e
   ·have:=b1 z hz;omega
   ·exact e
theorem LvA.rise {H:Hp} {a:Addr} {F:Addr→Prop} {ks:List Int} (h:LvA K t H a F ks):b9 ks:=by
 obtain⟨_,_,ls,_,ok,ef,_⟩:=h
 rw[←ef]
 exact ok.up
structure Mk1 where
 p:Addr
 mo:Int
 v:V
structure MkA (t:Adr) (H:Hp) (m l:Addr) (es:List Mk1):Prop where
 ob:∃dx,H m=some (.ins t.dH dx [("made",.ref l)])
 li:H l=some (.lst (es.map λe=>V.ref e.p))
 tu:∀e∈es,H e.p=some (.tup [.int e.mo,e.v])
theorem MkA.same {t:Adr} {H H':Hp} {m l:Addr} {es:List Mk1} (h:MkA t H m l es) (s:Same H H'):MkA t H' m l es:=⟨h.ob.imp λ_ e=>s _ _ e,s _ _ h.li,λe he=>s _ _ (h.tu e he)⟩
theorem MkA.keep {t:Adr} {H H':Hp} {m l:Addr} {es:List Mk1} (h:MkA t H m l es) (e1:H' m=H m) (e2:H' l=H l) (tp:∀b xs,H b=some (.tup xs)→H' b=some (.tup xs)):MkA t H' m l es:=⟨h.ob.imp λ_ e=>e1.trans e,e2.trans h.li,λe he=>tp _ _ (h.tu e he)⟩
def nP (t:Adr):Sp:=λvs H Q _=>∃(a dx:Addr),vs=[.ref a]∧H a=some (.ins t.dH dx [])∧∀(H':Hp) (l:Addr),MkA t H' a l []→H l=none→(∀b o,b≠a→H b=some o→H' b=some o)→Q .non H'
theorem oV (T:Txt K mg t):aX P w K mg base CX0 1 t.js t.fT ["self"] (nP t):=by
 refine T.Az.ok ot (λvs H Q E h=>?_) (λcdv A outer s H vs Q E hr h=>?_)
 ·obtain⟨a,dx,rfl,_⟩:=h
  rfl
 ·obtain⟨a,dx,rfl,ha,q⟩:=h
  refine⟨_,(ah (bY (pv 0) (cu ag) rfl))
   ,?_⟩
  refine⟨Qh _,λl nl=>⟨_,rfl,a,_,dx,[],rfl,(by rw[ac (ai ha nl)];exact ha),T.eD,T.cf,(by show 0<1000;decide),?_⟩⟩
  have na:a≠l:=ai ha nl
  exact q _ l ⟨⟨dx,af⟩,by rw[ac na.symm];exact af,λe he=>by cases he⟩ nl λb o n e=>by rw[ac n,ac (ai e nl)];exact e
def nO (t:Adr):Sp:=λvs H Q _=>∃(m l:Addr) (es:List Mk1) (mo:Int) (v:V),vs=[.ref m,.int mo,v]∧MkA t H m l es∧es.length<100000∧
 ∀(H':Hp) (p:Addr),MkA t H' m l (es++ [⟨p,mo,v⟩])→H p=none→(∀b o,b≠l→H b=some o→H' b=some o)→Q .non H'
theorem oU (T:Txt K mg t):aX P w K mg base CX0 1 t.jr t.fS ["self","moment","value"] (nO t):=by
 refine T.Ay.ok oq (λvs H Q E h=>?_) (λcdv A outer s H vs Q E hr h=>?_)
 ·obtain⟨m,l,es,mo,v,rfl,_⟩:=h
  rfl
 ·obtain⟨m,l,es,mo,v,rfl,M,le,q⟩:=h
  refine⟨_,(ah (aO (cM Qt QX QY cx (av (pv 0) rfl) (aa (dW (aa (pv 1) (aa (pv 2) ag))) ag))))
   ,?_⟩
  obtain⟨dx,ho⟩:=M.ob
  refine⟨_,rfl,m,_,dx,_,_,rfl,ho,T.eD,T.cf,rfl,.inl ⟨rfl,_,SqL.of M.li⟩,_,rfl,_,rfl,(by show 2≤sizeLine;decide),λp np=>?_⟩
  have s1:=ao (o:= .tup [.int mo,v]) np
  have pl:p≠l:=λz=>by rw[z,M.li]at np;cases np
  have lm:m≠l:=λz=>by have:=M.li;rw[←z,ho]at this;cases this
  refine⟨l,_,_,rfl,rfl,s1 _ _ M.li,bq (by rw[Q0];omega),?_⟩
  refine q _ p ⟨⟨dx,by rw[ac lm];exact s1 _ _ ho⟩,by rw[af,Qk];rfl,λe he=>?_⟩ np λb o n e=>by rw[ac n];exact s1 _ _ e
  rcases Q7.mp he with he|he
  ·have te:=s1 _ _ (M.tu e he)
   rw[ac (λz=>by rw[z,s1 _ _ M.li]at te;cases te)]
   exact te
  ·rw[Qd.mp he]
   rw[ac pl]
   exact af
theorem mZ {H H2:Hp} {p:Addr} (s:Same H H2) (n:H2 p=none):H p=none:=by
 cases e:H p with
 |none=>rfl
 |some o=>rw[s _ _ e]at n;cases n
theorem CW {t u:TS} {D:Ends} {σ:St} {H:Hp} (M:St→Hp→Prop) (h1:∀nx,(∀σ' H',M σ' H'→nx σ' H')→t {D with nx:=nx} σ H) (h2:∀σ' H',M σ' H'→u D σ' H'):AM t u D σ H:=h1 (u D) h2
def swE (fl:Int) (es:List Mk1):List Mk1:=match (es.filter λy=>decide (y.mo≤fl)).getLast? with
 |none=>es.filter λy=>decide (fl<y.mo)
 |some y=>if y.v= .non then es.filter λy=>decide (fl<y.mo)else y::es.filter λy=>decide (fl<y.mo)
theorem AS {fl:Int} {es:List Mk1}:(swE fl es).length≤es.length:=by
 have h:(es.filter λy=>decide (y.mo≤fl)).length+(es.filter λy=>decide (fl<y.mo)).length=es.length:=by
  induction es with
  |nil=>rfl
  |cons y r ih=>
   rw[Zg,Zg,Qf]
   by_cases c:y.mo≤fl
   ·rw[if_pos (decide_eq_true c),if_neg (by rw[decide_eq_false (by omega)];exact Qc),Qf]
    omega
   ·rw[if_neg (by rw[decide_eq_false c];exact Qc),if_pos (decide_eq_true (by omega)),Qf]
    omega
 unfold swE
 cases e:(es.filter λy=>decide (y.mo≤fl)).getLast? with
 |none=>dsimp only;omega
 |some y=>
  have:(es.filter λy=>decide (y.mo≤fl))≠[]:=λz=>by rw[z]at e;cases e
  have:=QP.mpr this
  dsimp only
  split
  ·omega
  ·rw[Qf]
   omega
theorem wa {fl:Int} {es:List Mk1} {y:Mk1} (h:y∈swE fl es):y∈es:=by
 have f:∀{p:Mk1→Bool},y∈es.filter p→y∈es:=λh=>(Zc.mp h).1
 unfold swE at h
 cases e:(es.filter λy=>decide (y.mo≤fl)).getLast? with
 |none=>rw[e]at h;exact f h
 |some z=>
  rw[e]at h
  dsimp only at h
  split at h
  ·exact f h
  ·rcases Qe.mp h with rfl|h
   ·exact f (List.mem_of_getLast? e)
   ·exact f h
theorem CU {fl:Int} {es:List Mk1} (h:es.Pairwise λa b=>a.mo<b.mo):(swE fl es).Pairwise λa b=>a.mo<b.mo:=by
 have f:(es.filter λy=>decide (fl<y.mo)).Pairwise λa b=>a.mo<b.mo:=h.sublist List.filter_sublist
 unfold swE
 cases e:(es.filter λy=>decide (y.mo≤fl)).getLast? with
 |none=>exact f
 |some z=>
  dsimp only
  split
  ·exact f
  ·refine Z7.mpr ⟨λb hb=>?_,f⟩
   have h1:=of_decide_eq_true (Zc.mp (List.mem_of_getLast? e)).2
   have h2:=of_decide_eq_true (Zc.mp hb).2
   omega
theorem wH {p:Mk1→Bool} {es:List Mk1} {i:Nat} {y:Mk1} (e:es[i]?=some y):(es.take (i+1)).filter p=(es.take i).filter p++(if p y=true then[y]else[]):=by
 rw[QA,e,QS]
 congr 1
 show List.filter p [y]=_
 rw[Zg]
 rfl
theorem sift {H1:Hp} {σ:St} {tc:TT} {Q1:VK} {m l:Addr} {es:List Mk1} (p:Mk1→Bool) (M:MkA t H1 m l es) (le:es.length<50000) (hc:∀y∈es,∀(H2:Hp) (R:Bool→Hp→Prop),H2 y.p=some (.tup [.int y.mo,y.v])→R (p y) H2→tc (some (.ref y.p)::σ) H2 R)
  (q:∀D,H1 D=none→Q1 (.ref D) (upd H1 D (.lst ((es.filter p).map λy=>V.ref y.p)))):pO tc (yv 0) σ Q1 (Itl K l) H1:=by
 intro D hD
 refine g8 (K:=K) (a:=l) (xs:=es.map λy=>V.ref y.p) (λi ys H2=>H2=upd H1 D (.lst ys)∧ys=((es.take i).filter p).map λy=>V.ref y.p) ⟨rfl,rfl⟩ (λi ys H2 _ w=>SqL.of (by rw[w.1,ac (ai M.li hD)];exact M.li)) (λi x ys H2 hx w hDD=>?_) (λys H2 w hDD=>?_)
 ·have hi:=(Q4.mp hx).1
  obtain⟨y,ey,rfl⟩:∃y,es[i]?=some y∧x= .ref y.p:=by
   rw[Ql]at hx
   cases e:es[i]? with
   |none=>rw[e]at hx;cases hx
   |some y=>rw[e]at hx;cases hx;exact⟨y,rfl,rfl⟩
  have hy:=Q3 ey
  have ty:H2 y.p=some (.tup [.int y.mo,y.v]):=by
   rw[w.1,ac (ai (M.tu y hy) hD)]
   exact M.tu y hy
  refine hc y hy H2 _ ty ?_
  cases c:p y with
  |true=>
   refine cO ⟨_,rfl,CNext.mk hi hDD (bq ?_) ⟨by rw[w.1,cz],?_⟩⟩
   ·rw[w.2,Q0]
    have:=QC p (es.take i)
    rw[Qm]at this
    omega
   ·rw[w.2,wH ey,if_pos c,Qk]
    rfl
  |false=>
   refine cV (CSkip.mk hi hDD ⟨w.1,?_⟩)
   rw[w.2,wH ey,if_neg (by rw[c];exact Qc),Xg]
 ·rw[w.1,w.2,Q0,QO]
  exact q D hD
def mK (t:Adr):Sp:=λvs H Q _=>∃(m l:Addr) (es:List Mk1) (fl:Int),vs=[.ref m,.int fl]∧MkA t H m l es∧es.length<50000∧
 ∀(H':Hp) (l':Addr),MkA t H' m l' (swE fl es)→H l'=none→(∀b o,b≠m→H b=some o→H' b=some o)→Q (.int ((es.length:Int)-((swE fl es).length:Int))) H'
theorem mQ (T:Txt K mg t):aX P w K mg base CX0 1 t.iM t.d9 ["self","floor"] (mK t):=by
 refine T.zZ.ok sc_Makes__sweep (λvs H Q E h=>?_) (λcdv A outer s H vs Q E hr h=>?_)
 ·obtain⟨m,l,es,fl,rfl,_⟩:=h
  rfl
 ·obtain⟨m,l,es,fl,rfl,M,le,q⟩:=h
  refine⟨_,(ae (tZ (i:=2) rfl (CScope.of (M:=["make"]) (N:=["self","floor","old","stay","thrown"]) (N':=["self","floor","old","stay","thrown"]) (dsc:=am bW) rfl rfl (by decide+kernel)) (cm (av (pv 0) rfl)) (λ_ _ _ _ _=>(aC Cr (br (kJ K rfl) (pv 0) aj (λ_ _=>rfl)) (pv 2) (aG _))) (λ_ _ _ _ _=>(pv 0)) sc_Makes__sweep.nd rfl rfl)
   (ae (tZ (i:=3) rfl (CScope.of (M:=["make"]) (N:=["self","floor","old","stay","thrown"]) (N':=["self","floor","old","stay","thrown"]) (dsc:=am bW) rfl rfl (by decide+kernel)) (cm (av (pv 0) rfl)) (λ_ _ _ _ _=>(aC mt (br (kJ K rfl) (pv 0) aj (λ_ _=>rfl)) (pv 2) (aG _))) (λ_ _ _ _ _=>(pv 0)) sc_Makes__sweep.nd rfl rfl)
   (ae (bc (PW.pt (gI (aC mt (ax aA (by rfl) T.bE a9 (aa (pv 2) ag)) aj (aG _)) (dD (aC Bq (br sV (br a7 (pv 2) (yR uZ aj) (λ_ _=>rfl)) aj (λ_ _=>rfl)) yT (aG _)))))
   (ah (aO (cM Qt X9 Xa lR (pv 3) (aa aj (aa (br a7 (pv 2) (yR uZ aj) (λ_ _=>rfl)) ag)))))
   aR)
   (ae (aF (i:=4) sc_Makes__sweep.nd rfl (Or.inl rfl) (aJ oM (ax aA (by rfl) T.bE a9 (aa (av (pv 0) rfl) ag)) (ax aA (by rfl) T.bE a9 (aa (pv 3) ag))))
   (ae (bY (pv 0) (pv 3) rfl)
   (ah (aH (pv 4))))))))
   ,?_⟩
  obtain⟨dx,ho⟩:=M.ob
  refine⟨_,rfl,m,_,dx,_,_,rfl,ho,T.eD,T.cf,rfl,l,rfl,⟨_,SqL.of M.li⟩,sift (λy=>decide (y.mo≤fl)) M le (λy hy H2 R ty hR=>⟨_,rfl,y.p,_,_,_,rfl,rfl,SqT.of ty,rfl,_,rfl,_,_,rfl,rfl,_,rfl,hR⟩) λlo no=>?_⟩
  have s1:=ao (o:= .lst ((es.filter λy=>decide (y.mo≤fl)).map λy=>V.ref y.p)) no
  have hlo:upd H lo (.lst ((es.filter λy=>decide (y.mo≤fl)).map λy=>V.ref y.p)) lo=some (.lst ((es.filter λy=>decide (y.mo≤fl)).map λy=>V.ref y.p)):=af
  generalize upd H lo (.lst ((es.filter λy=>decide (y.mo≤fl)).map λy=>V.ref y.p))=H1 at s1 hlo⊢
  have M1:=M.same s1
  obtain⟨dx1,ho1⟩:=M1.ob
  refine⟨_,rfl,m,_,dx1,_,_,rfl,ho1,T.eD,T.cf,rfl,l,rfl,⟨_,SqL.of M1.li⟩,sift (λy=>decide (fl<y.mo)) M1 le (λy hy H2 R ty hR=>⟨_,rfl,y.p,_,_,_,rfl,rfl,SqT.of ty,rfl,_,rfl,_,_,rfl,rfl,_,rfl,hR⟩) λls ns=>?_⟩
  have s2:=ao (o:= .lst ((es.filter λy=>decide (fl<y.mo)).map λy=>V.ref y.p)) ns
  have hls:upd H1 ls (.lst ((es.filter λy=>decide (fl<y.mo)).map λy=>V.ref y.p)) ls=some (.lst ((es.filter λy=>decide (fl<y.mo)).map λy=>V.ref y.p)):=af
  have nls:=mZ s1 ns
  generalize upd H1 ls (.lst ((es.filter λy=>decide (fl<y.mo)).map λy=>V.ref y.p))=H2 at s2 hls⊢
  have hlo2:=s2 _ _ hlo
  have s2:=s1.trans s2
  clear s1 hlo ns no ho1 M1
  have M2:=M.same s2
  have lf:=QC (λy=>decide (fl<y.mo)) es
  unfold kM
  (try dsimp only)
  refine CW (λσ H3=>σ=[some (.ref m),some (.int fl),some (.ref lo),some (.ref ls),none]∧H3 ls=some (.lst ((swE fl es).map λy=>V.ref y.p))∧∀b o,b≠ls→H2 b=some o→H3 b=some o) (λnx go=>?_) (λσ H3 w=>?_)
  ·refine⟨_,rfl,lo,_,rfl,.inl (SqL.of hlo2),_,_,rfl,rfl,_,rfl,?_⟩
   rw[Q0]
   rcases List.eq_nil_or_concat (es.filter λy=>decide (y.mo≤fl))with ee|⟨r,y,ee⟩
   ·have es0:swE fl es=es.filter λy=>decide (fl<y.mo):=by unfold swE;rw[ee];rfl
    rw[ee]
    refine cV (cV (go _ _ ⟨rfl,by rw[es0];exact hls,λb o _ e=>e⟩))
   ·have at1:atI ((es.filter λy=>decide (y.mo≤fl)).map λy=>V.ref y.p) (-1)=some (.ref y.p):=by
     rw[ee,ZV,Qk]
     exact zR _ _
    have hy:y∈es:=(Zc.mp (show y∈es.filter λy=>decide (y.mo≤fl) by rw[ee,ZV];exact Qu _ Q8)).1
    have ty:=M2.tu y hy
    have gl:(es.filter λy=>decide (y.mo≤fl)).getLast?=some y:=by rw[ee,ZV,List.getLast?_concat]
    refine iF (by rw[ee,ZV,Qg,QW];omega) ⟨_,rfl,_,rfl,lo,_,_,_,rfl,rfl,SqL.of hlo2,at1,y.p,_,_,_,rfl,rfl,SqT.of ty,rfl,rfl,_,rfl,?_⟩
    by_cases c:y.v= .non
    ·have es0:swE fl es=es.filter λy=>decide (fl<y.mo):=by unfold swE;rw[gl];exact if_pos c
     rw[decide_eq_true c]
     exact cV (go _ _ ⟨rfl,by rw[es0];exact hls,λb o _ e=>e⟩)
    ·have es0:swE fl es=y::es.filter λy=>decide (fl<y.mo):=by unfold swE;rw[gl];exact if_neg c
     rw[decide_eq_false c]
     refine cO ⟨_,rfl,.inl ⟨rfl,_,SqL.of hls⟩,_,rfl,_,rfl,lo,_,_,_,rfl,rfl,SqL.of hlo2,at1,ls,_,0,_,rfl,rfl,hls,by decide,by omega,bq (by rw[Q0];omega),?_⟩
     exact go _ _ ⟨rfl,by rw[af,es0];rfl,λb o n e=>by rw[ac n];exact e⟩
  ·obtain⟨rfl,hls3,k3⟩:=w
   have ml:m≠ls:=λz=>by rw[z,nls]at ho;cases ho
   have ll:l≠ls:=λz=>by have:=M.li;rw[z,nls]at this;cases this
   have ho3:=k3 _ _ ml (s2 _ _ ho)
   have li3:=k3 _ _ ll (s2 _ _ M.li)
   refine⟨_,rfl,m,_,dx,_,_,rfl,ho3,T.eD,T.cf,rfl,l,_,rfl,.inl (SqL.of li3),_,rfl,ls,_,rfl,.inl (SqL.of hls3),_,_,rfl,rfl,?_⟩
   rw[Q0,Q0]
   refine⟨_,rfl,_,rfl,m,_,dx,_,rfl,ho3,T.eD,T.cf,(by show 1<1000;decide),?_⟩
   have nb:∀b o,b≠m→H b=some o→upd H3 m (.ins t.dH dx (aY ("made":Str) (.ref ls) [("made",.ref l)])) b=some o:=λb o n e=>by rw[ac n];exact k3 _ _ (λz=>by rw[z,nls]at e;cases e) (s2 _ _ e)
   refine⟨_,rfl,q _ ls ⟨⟨dx,by rw[af];rfl⟩,by rw[ac ml.symm];exact hls3,λy hy=>?_⟩ nls nb⟩
   have:=M.tu y (wa hy)
   exact nb _ _ (λz=>by rw[z,ho]at this;cases this) this
section
variable {K:PySem.W.Frag} {t:Adr} {H:Hp} {a b:Addr} {F:Addr→Prop} {st:SSt} {ks:List Int} {xs:List V}
theorem SlA.notup (h:SlA K t H a F st) (e:H b=some (.tup xs)):¬F b:=λhb=>by
 obtain⟨d,h1,h2,_⟩:=h
 obtain⟨dx,ho⟩:=h1.obj
 have no:∀o,H b=some o→(∀ys,o≠ .tup ys)→False:=λo q n=>by rw[e]at q;exact n _ (Option.some.inj q).symm
 rcases(h2 b).mp hb with rfl|rfl|rfl|hb|⟨hs,rfl⟩|hb
 ·exact no _ ho (λ_ z=>by cases z)
 ·exact no _ h1.tbl (λ_ z=>by cases z)
 ·exact no _ h1.row0.lst (λ_ z=>by cases z)
 ·obtain⟨_,_,_,_,q⟩:=h1.row0.has hb
  exact no _ q (λ_ z=>by cases z)
 ·have r1:=h1.row1
  cases en:st.nxt with
  |none=>rw[en]at hs;cases hs
  |some m=>rw[en]at r1;exact no _ r1.lst (λ_ z=>by cases z)
 ·have r1:=h1.row1
  cases en:st.nxt with
  |none=>rw[en]at r1;rw[r1.1]at hb;cases hb
  |some m=>
   rw[en]at r1
   obtain⟨_,_,_,_,q⟩:=r1.has hb
   exact no _ q (λ_ z=>by cases z)
theorem LvA.notup (h:LvA K t H a F ks) (e:H b=some (.tup xs)):¬F b:=λhb=>by
 obtain⟨L,A,ls,h1,_,_,h2⟩:=h
 obtain⟨dx,ho⟩:=h1.obj
 have no:∀o,H b=some o→(∀ys,o≠ .tup ys)→False:=λo q n=>by rw[e]at q;exact n _ (Option.some.inj q).symm
 rcases(h2 b).mp hb with rfl|rfl|hb
 ·exact no _ ho (λ_ z=>by cases z)
 ·exact no _ h1.lst (λ_ z=>by cases z)
 ·obtain⟨_,_,_,_,q⟩:=h1.has hb
  exact no _ q (λ_ z=>by cases z)
end
structure Pk where
 k:Int
 m:Addr
 l:Addr
 es:List Mk1
structure HSt where
 now:Int
 fl:Int
 ma:Int
 st:SSt
 ks:List Int
 di:List (Addr×List V)
 pa:List Pk
 ho:List (Int×V)
def mkOf:List Pk→Int→List Mk1
 | [],_=> []
 |e::r,k=>if e.k=k then e.es else mkOf r k
def paD (pa:List Pk):List (Int×V):=pa.map λe=>(e.k,V.ref e.m)
def hoF (now fl:Int) (s l w:Addr) (mk:Int) (p h:Addr):List (Str×V):=[("now",.int now),("floor",.int fl),("slots",.ref s),("leaves",.ref l),("written",.ref w),("marks",.int mk),("past",.ref p),("holders",.ref h)]
def NoH (m:Str):Prop:=m≠("now":Str)∧m≠("floor":Str)∧m≠("slots":Str)∧m≠("leaves":Str)∧m≠("written":Str)∧m≠("marks":Str)∧m≠("past":Str)∧m≠("holders":Str)
instance {m:Str}:Decidable (NoH m):=by unfold NoH;infer_instance
section
variable {now now' fl mk mk':Int} {s l w p h:Addr} {m:Str}
theorem eQ:(hoF now fl s l w mk p h).lookup ("now":Str)=some (.int now):=dn
theorem zq:(hoF now fl s l w mk p h).lookup ("floor":Str)=some (.int fl):=by unfold hoF;rw[bf (by decide+kernel),dn]
theorem jV:(hoF now fl s l w mk p h).lookup ("slots":Str)=some (.ref s):=by unfold hoF;rw[bf (by decide+kernel),bf (by decide+kernel),dn]
theorem vL:(hoF now fl s l w mk p h).lookup ("leaves":Str)=some (.ref l):=by unfold hoF;rw[bf (by decide+kernel),bf (by decide+kernel),bf (by decide+kernel),dn]
theorem Dq:(hoF now fl s l w mk p h).lookup ("written":Str)=some (.ref w):=by unfold hoF;rw[bf (by decide+kernel),bf (by decide+kernel),bf (by decide+kernel),bf (by decide+kernel),dn]
theorem zp:(hoF now fl s l w mk p h).lookup ("past":Str)=some (.ref p):=by unfold hoF;rw[bf (by decide+kernel),bf (by decide+kernel),bf (by decide+kernel),bf (by decide+kernel),bf (by decide+kernel),bf (by decide+kernel),dn]
theorem vM:(hoF now fl s l w mk p h).lookup ("holders":Str)=some (.ref h):=by unfold hoF;rw[bf (by decide+kernel),bf (by decide+kernel),bf (by decide+kernel),bf (by decide+kernel),bf (by decide+kernel),bf (by decide+kernel),bf (by decide+kernel),dn]
theorem wF (n:NoH m):(hoF now fl s l w mk p h).lookup m=none:=by
 obtain⟨h1,h2,h3,h4,h5,h6,h7,h8⟩:=n
 unfold hoF
 rw[bf h1,bf h2,bf h3,bf h4,bf h5,bf h6,bf h7,bf h8]
 rfl
theorem Bg:aY ("now":Str) (.int now') (hoF now fl s l w mk p h)=hoF now' fl s l w mk p h:=by unfold hoF;rw[aY,if_pos rfl]
theorem C4 {fl':Int}:aY ("floor":Str) (.int fl') (hoF now fl s l w mk p h)=hoF now fl' s l w mk p h:=by unfold hoF;rw[aY,if_neg (by decide+kernel),aY,if_pos rfl]
theorem sW:(hoF now fl s l w mk p h).length<1000:=by show 8<1000;decide
end
def Ow (a w p h:Addr) (pa:List Pk):Addr→Prop:=λb=>b=a∨b=w∨b=p∨b=h∨∃e∈pa,b=e.m∨b=e.l
structure HoO (t:Adr) (H:Hp) (a s l w p h:Addr) (x:HSt):Prop where
 ob:∃dx,H a=some (.ins t.aB dx (hoF x.now x.fl s l w x.ma p h))
 wr:H w=some (.lst (x.di.map λe=>V.ref e.1))
 dr:∀e∈x.di,H e.1=some (.tup e.2)
 pa:H p=some (.dK (aE (paD x.pa)))
 ho:H h=some (.dK (aE x.ho))
 mx:∀e∈x.pa,MkA t H e.m e.l e.es
 ph:p≠h
 wl:∀e∈x.pa,e.l≠w
 kd:(x.pa.map (·.k)).Nodup
 md:(x.pa.map (·.m)).Nodup
 ld:(x.pa.map (·.l)).Nodup
theorem eK {t u:TS} {D:Ends} {σ:St} {H:Hp} (M:St→Hp→Prop) (h1:∀nx,(∀σ' H',M σ' H'→nx σ' H')→t {D with nx:=nx} σ H) (h2:∀σ' H',M σ' H'→u D σ' H'):AM t u D σ H:=h1 (u D) h2
theorem lX {kvs:List (Int×V)}:iD (aE kvs)=(kvs.map (·.1)).map V.int:=by
 unfold iD aE
 rw[Qy,Qy]
 rfl
theorem cK {f:Str} {v:V}:aY f v []=[(f,v)]:=rfl
theorem aT {f g:Str} {v x:V} {r:List (Str×V)} (n:g≠f):aY f v ((g,x)::r)=(g,x)::aY f v r:=by rw[aY,if_neg n]
theorem BI {H H2:Hp} {p:Addr} (s:Same H H2) (n:H2 p=none):H p=none:=by
 cases e:H p with
 |none=>rfl
 |some o=>rw[s _ _ e]at n;cases n
theorem vx {α β:Type} {f:α→β} {l:List α} (n:(l.map f).Nodup) {x y:α} (hx:x∈l) (hy:y∈l) (e:f x=f y):x=y:=by
 induction l with
 |nil=>cases hx
 |cons z r ih=>
  obtain⟨n1,n2⟩:=QE.mp n
  rcases Qe.mp hx with rfl|hx'<;>rcases Qe.mp hy with rfl|hy'
  ·rfl
  ·exact absurd (Qb.mpr ⟨y,hy',e.symm⟩) n1
  ·exact absurd (Qb.mpr ⟨x,hx',e⟩) n1
  ·exact ih n2 hx' hy'
section
variable {t:Adr} {H H':Hp} {a s l w p h b q:Addr} {x:HSt} {pa:List Pk} {k:Int} {y:Mk1} {o:HO}
theorem HoO.dom (A:HoO t H a s l w p h x) (hb:Ow a w p h x.pa b):∃o,H b=some o∧∀ys,o≠ .tup ys:=by
 obtain⟨dx,ho⟩:=A.ob
 rcases hb with rfl|rfl|rfl|rfl|⟨e,he,rfl|rfl⟩
 ·exact⟨_,ho,λ_ z=>by cases z⟩
 ·exact⟨_,A.wr,λ_ z=>by cases z⟩
 ·exact⟨_,A.pa,λ_ z=>by cases z⟩
 ·exact⟨_,A.ho,λ_ z=>by cases z⟩
 ·obtain⟨dy,hm⟩:=(A.mx e he).ob
  exact⟨_,hm,λ_ z=>by cases z⟩
 ·exact⟨_,(A.mx e he).li,λ_ z=>by cases z⟩
theorem HoO.keep (A:HoO t H a s l w p h x) (g:∀b,Ow a w p h x.pa b→H' b=H b) (tp:∀b xs,H b=some (.tup xs)→H' b=some (.tup xs)):HoO t H' a s l w p h x:=
 ⟨A.ob.imp λ_ e=>(g a (.inl rfl)).trans e,(g w (.inr (.inl rfl))).trans A.wr,λe he=>tp _ _ (A.dr e he),(g p (.inr (.inr (.inl rfl)))).trans A.pa,(g h (.inr (.inr (.inr (.inl rfl))))).trans A.ho,
  λe he=>(A.mx e he).keep (g _ (.inr (.inr (.inr (.inr ⟨e,he,.inl rfl⟩))))) (g _ (.inr (.inr (.inr (.inr ⟨e,he,.inr rfl⟩))))) tp,A.ph,A.wl,A.kd,A.md,A.ld⟩
theorem HoO.same (A:HoO t H a s l w p h x) (m:Same H H'):HoO t H' a s l w p h x:=A.keep (λb hb=>by
 obtain⟨o,e,_⟩:=A.dom hb
 rw[e]
 exact m _ _ e) λb xs e=>m _ _ e
theorem HoO.set (A:HoO t H a s l w p h x) {now mk:Int} {dx:Addr} {fl:Int}:HoO t (upd H a (.ins t.aB dx (hoF now fl s l w mk p h))) a s l w p h {x with now:=now,fl:=fl,ma:=mk}:=by
 obtain⟨dy,ho⟩:=A.ob
 have n:∀{b:Addr} {o:HO},H b=some o→(∀c d fs,o= .ins c d fs→fs.length=1)→b≠a:=λe i z=>by
  rw[z,ho]at e
  have:=i _ _ _ (Option.some.inj e).symm
  cases this
 have nt:∀{b:Addr} {o:HO},H b=some o→(∀c d fs,o≠ .ins c d fs)→b≠a:=λe i=>n e λc d fs z=>absurd z (i c d fs)
 refine⟨⟨dx,af⟩,by rw[ac (nt A.wr λ_ _ _ z=>by cases z)];exact A.wr,λe he=>by rw[ac (nt (A.dr e he) λ_ _ _ z=>by cases z)];exact A.dr e he,by rw[ac (nt A.pa λ_ _ _ z=>by cases z)];exact A.pa,
  by rw[ac (nt A.ho λ_ _ _ z=>by cases z)];exact A.ho,λe he=>?_,A.ph,A.wl,A.kd,A.md,A.ld⟩
 have M:=A.mx e he
 obtain⟨dm,hm⟩:=M.ob
 exact M.keep (ac (n hm λ_ _ _ z=>by cases z;rfl)) (ac (nt M.li λ_ _ _ z=>by cases z)) λb xs e=>by rw[ac (nt e λ_ _ _ z=>by cases z)];exact e
theorem HoO.row (A:HoO t H a s l w p h x) {r:Addr} {xs:List V} (hr:H r=some (.tup xs)):HoO t (upd H w (.lst (x.di.map (λe=>V.ref e.1)++ [.ref r]))) a s l w p h {x with di:=x.di++ [(r,xs)]}:=by
 obtain⟨dy,ho⟩:=A.ob
 have nt:∀{b:Addr} {o:HO},H b=some o→(∀ys,o≠ .lst ys)→b≠w:=λe i z=>by
  rw[z,A.wr]at e
  exact i _ (Option.some.inj e).symm
 refine⟨⟨dy,by rw[ac (nt ho λ_ z=>by cases z)];exact ho⟩,by rw[af,Qk];rfl,λe he=>?_,by rw[ac (nt A.pa λ_ z=>by cases z)];exact A.pa,by rw[ac (nt A.ho λ_ z=>by cases z)];exact A.ho,λe he=>?_,A.ph,A.wl,A.kd,A.md,A.ld⟩
 ·rcases Q7.mp he with he|he
  ·rw[ac (nt (A.dr e he) λ_ z=>by cases z)]
   exact A.dr e he
  ·rw[Qd.mp he,ac (nt hr λ_ z=>by cases z)]
   exact hr
 ·have M:=A.mx e he
  obtain⟨dm,hm⟩:=M.ob
  exact M.keep (ac (nt hm λ_ z=>by cases z)) (ac (A.wl e he)) λb xs e=>by rw[ac (nt e λ_ z=>by cases z)];exact e
def paN (pa:List Pk) (k:Int) (y:Mk1):List Pk:=pa.map λe=>if e.k=k then{e with es:=e.es++ [y]}else e
theorem qY {β:Type} {f:Pk→β} (hf:∀e es,f {e with es:=es}=f e):(paN pa k y).map f=pa.map f:=by
 unfold paN
 rw[Qy]
 refine Zd λe _=>?_
 show f (if e.k=k then _ else e)=_
 split
 ·exact hf _ _
 ·rfl
theorem sH {e:Pk} (h:e∈paN pa k y):∃g∈pa,e.k=g.k∧e.m=g.m∧e.l=g.l∧((g.k=k∧e.es=g.es++ [y])∨(g.k≠k∧e.es=g.es)):=by
 obtain⟨g,hg,rfl⟩:=Qb.mp h
 refine⟨g,hg,?_⟩
 split
 ·rename_i c;exact⟨rfl,rfl,rfl,.inl ⟨c,rfl⟩⟩
 ·rename_i c;exact⟨rfl,rfl,rfl,.inr ⟨c,rfl⟩⟩
theorem C8 (hb:Ow a w p h (paN pa k y) b):Ow a w p h pa b:=by
 rcases hb with z|z|z|z|⟨e,he,z⟩
 ·exact .inl z
 ·exact .inr (.inl z)
 ·exact .inr (.inr (.inl z))
 ·exact .inr (.inr (.inr (.inl z)))
 ·obtain⟨g,hg,_,e2,e3,_⟩:=sH he
  rw[e2,e3]at z
  exact .inr (.inr (.inr (.inr ⟨g,hg,z⟩)))
theorem HoO.noted (A:HoO t H a s l w p h x) {e:Pk} (he:e∈x.pa) (ek:e.k=k) (M:MkA t H' e.m e.l (e.es++ [y])) (kp:∀b o,b≠e.l→H b=some o→H' b=some o):HoO t H' a s l w p h {x with pa:=paN x.pa k y}:=by
 obtain⟨dy,ho⟩:=A.ob
 have hl:=(A.mx e he).li
 have nt:∀{b:Addr} {o:HO},H b=some o→(∀ys,o≠ .lst ys)→H' b=some o:=λe i=>kp _ _ (λz=>by
  rw[z,hl]at e
  exact i _ (Option.some.inj e).symm) e
 refine⟨⟨dy,nt ho (λ_ z=>by cases z)⟩,kp _ _ (A.wl e he).symm A.wr,λe he=>nt (A.dr e he) (λ_ z=>by cases z),?_,nt A.ho (λ_ z=>by cases z),λf hf=>?_,A.ph,λf hf=>?_,?_,?_,?_⟩
 ·show H' p=some (.dK (aE (paD (paN x.pa k y))))
  unfold paD
  rw[qY λ_ _=>rfl]
  exact nt A.pa λ_ z=>by cases z
 ·obtain⟨g,hg,e1,e2,e3,⟨c,e4⟩|⟨c,e4⟩⟩:=sH hf
  ·have:g=e:=vx A.kd hg he (c.trans ek.symm)
   subst this
   rw[e2,e3,e4]
   exact M
  ·have M2:=A.mx g hg
   obtain⟨dm,hm⟩:=M2.ob
   rw[e2,e3,e4]
   exact M2.keep ((nt hm λ_ z=>by cases z).trans hm.symm) ((kp _ _ (λz=>c (by rw[vx A.ld hg he z];exact ek)) M2.li).trans M2.li.symm) λb xs e=>nt e λ_ z=>by cases z
 ·obtain⟨g,hg,_,_,e3,_⟩:=sH hf
  rw[e3]
  exact A.wl g hg
 ·show((paN x.pa k y).map (·.k)).Nodup
  rw[qY λ_ _=>rfl]
  exact A.kd
 ·show((paN x.pa k y).map (·.m)).Nodup
  rw[qY λ_ _=>rfl]
  exact A.md
 ·show((paN x.pa k y).map (·.l)).Nodup
  rw[qY λ_ _=>rfl]
  exact A.ld
theorem sI (pa:List Pk) (k:Int):(aI (paD pa) k=none∧k∉pa.map (·.k))∨∃e∈pa,e.k=k∧aI (paD pa) k=some (.ref e.m)∧mkOf pa k=e.es:=by
 induction pa with
 |nil=>exact .inl ⟨gg,λz=>by cases z⟩
 |cons e r ih=>
  show(aI ((e.k,V.ref e.m)::paD r) k=none∧_)∨∃g∈e::r,g.k=k∧aI ((e.k,V.ref e.m)::paD r) k=_∧(if e.k=k then e.es else mkOf r k)=_
  by_cases c:e.k=k
  ·exact .inr ⟨e,Q8,c,aZ c,if_pos c⟩
  ·rw[aW c,if_neg c]
   rcases ih with⟨i1,i2⟩|⟨g,hg,i1,i2,i3⟩
   ·refine .inl ⟨i1,λz=>?_⟩
    rw[Qr]at z
    rcases Qe.mp z with z|z
    ·exact c z.symm
    ·exact i2 z
   ·exact .inr ⟨g,Qa _ hg,i1,i2,i3⟩
theorem rg:∀{pa:List Pk},k∉pa.map (·.k)→mkOf pa k=[]
 | [],_=>rfl
 |e::r,n=>by
  rw[Qr]at n
  show(if e.k=k then e.es else mkOf r k)=[]
  rw[if_neg λz=>n (by rw[z];exact Q8)]
  exact rg λz=>n (Qa _ z)
theorem kF {j:Int}:∀{pa:List Pk},k∈pa.map (·.k)→mkOf (paN pa k y) j=if j=k then mkOf pa k++ [y]else mkOf pa j
 |e::r,n=>by
  show(if(if e.k=k then{e with es:=e.es++ [y]}else e:Pk).k=j then(if e.k=k then{e with es:=e.es++ [y]}else e:Pk).es else mkOf (paN r k y) j)=if j=k then(if e.k=k then e.es else mkOf r k)++ [y]else(if e.k=j then e.es else mkOf r j)
  by_cases c:e.k=k
  ·rw[if_pos c,if_pos c]
   show(if e.k=j then e.es++ [y]else mkOf (paN r k y) j)=_
   by_cases d:j=k
   ·rw[if_pos d,if_pos (c.trans d.symm)]
   ·rw[if_neg d,if_neg λz=>d (z.symm.trans c),if_neg λz=>d (z.symm.trans c)]
    by_cases m:k∈r.map (·.k)
    ·rw[kF m,if_neg d]
    ·have:paN r k y=r:=by
      unfold paN
      conv=>rhs;rw[←List.map_id r]
      refine Zd λg hg=>if_neg λz=>m ?_
      rw[←z]
      exact Qb.mpr ⟨g,hg,rfl⟩
     rw[this]
  ·rw[if_neg c,if_neg c]
   have m:k∈r.map (·.k):=by
    rw[Qr]at n
    rcases Qe.mp n with z|z
    ·exact absurd z.symm c
    ·exact z
   rw[kF m]
   by_cases d:j=k
   ·rw[if_pos d,if_pos d,if_neg λz=>c (z.trans d)]
   ·rw[if_neg d,if_neg d]
theorem o9 {e:Pk} {j:Int}:∀{pa:List Pk},e.k∉pa.map (·.k)→mkOf (pa++ [e]) j=if j=e.k then e.es else mkOf pa j
 | [],_=>by
  show(if e.k=j then e.es else[])=if j=e.k then e.es else[]
  by_cases c:e.k=j
  ·rw[if_pos c,if_pos c.symm]
  ·rw[if_neg c,if_neg (Ne.symm c)]
 |g::r,n=>by
  rw[Qr]at n
  show(if g.k=j then g.es else mkOf (r++ [e]) j)=if j=e.k then e.es else(if g.k=j then g.es else mkOf r j)
  rw[o9 λz=>n (Qa _ z)]
  by_cases c:g.k=j
  ·rw[if_pos c,if_pos c,if_neg λz=>n (by rw[←z,←c];exact Q8)]
  ·rw[if_neg c,if_neg c]
theorem HoO.newk (A:HoO t H a s l w p h x) {m g:Addr} (nk:k∉x.pa.map (·.k)) (M:MkA t H m g []) (n1:¬Ow a w p h x.pa m) (n2:¬Ow a w p h x.pa g):HoO t (upd H p (.dK (aE (paD x.pa++ [(k,.ref m)])))) a s l w p h {x with pa:=x.pa++ [⟨k,m,g,[]⟩]}:=by
 obtain⟨dy,ho⟩:=A.ob
 have nt:∀{b:Addr} {o:HO},H b=some o→(∀ys,o≠ .dK ys)→b≠p:=λe i z=>by
  rw[z,A.pa]at e
  exact i _ (Option.some.inj e).symm
 have kp:∀{m' l':Addr} {es:List Mk1} {o:HO},MkA t H m' l' es→MkA t (upd H p o) m' l' es:=λM=>by
  obtain⟨dm,hm⟩:=M.ob
  exact M.keep (ac (nt hm λ_ z=>by cases z)) (ac (nt M.li λ_ z=>by cases z)) λb xs e=>by rw[ac (nt e λ_ z=>by cases z)];exact e
 refine⟨⟨dy,by rw[ac (nt ho λ_ z=>by cases z)];exact ho⟩,by rw[ac (nt A.wr λ_ z=>by cases z)];exact A.wr,λe he=>by rw[ac (nt (A.dr e he) λ_ z=>by cases z)];exact A.dr e he,?_,by rw[ac A.ph.symm];exact A.ho,λe he=>?_,A.ph,λe he=>?_,?_,?_,?_⟩
 ·rw[af]
  show _=some (HO.dK (aE (paD (x.pa++ [⟨k,m,g,[]⟩]))))
  unfold paD
  rw[Qk]
  rfl
 ·rcases Q7.mp he with he|he
  ·exact kp (A.mx e he)
  ·rw[Qd.mp he]
   exact kp M
 ·rcases Q7.mp he with he|he
  ·exact A.wl e he
  ·rw[Qd.mp he]
   exact λz=>n2 (.inr (.inl z))
 all_goals
  rw[Qk]
  refine List.nodup_append.mpr ⟨?_,by simp,λu hu v hv z=>?_⟩
 ·exact A.kd
 ·cases Qd.mp hv
  rw[z]at hu
  exact nk hu
 ·exact A.md
 ·cases Qd.mp hv
  obtain⟨e,he,ee⟩:=Qb.mp hu
  exact n1 (.inr (.inr (.inr (.inr ⟨e,he,.inl (z.symm.trans ee.symm)⟩))))
 ·exact A.ld
 ·cases Qd.mp hv
  obtain⟨e,he,ee⟩:=Qb.mp hu
  exact n2 (.inr (.inr (.inr (.inr ⟨e,he,.inr (z.symm.trans ee.symm)⟩))))
end
structure Noted (pa pa':List Pk) (k:Int) (y:Mk1):Prop where
 of:∀j,mkOf pa' j=if j=k then mkOf pa k++ [y]else mkOf pa j
 ky:pa'.map (·.k)=if k∈pa.map (·.k)then pa.map (·.k)else pa.map (·.k)++ [k]
structure HoB (K:PySem.W.Frag) (t:Adr) (H:Hp) (a s l w p h:Addr) (Fs Fl:Addr→Prop) (x:HSt):Prop where
 o:HoO t H a s l w p h x
 sl:SlA K t H s Fs x.st
 lv:LvA K t H l Fl x.ks
 a1:∀b,Fs b→¬Fl b
 a2:∀b,Ow a w p h x.pa b→¬Fs b
 a3:∀b,Ow a w p h x.pa b→¬Fl b
def HoF (a w p h:Addr) (Fs Fl:Addr→Prop) (pa:List Pk):Addr→Prop:=λb=>Fs b∨Fl b∨Ow a w p h pa b
section
variable {K:PySem.W.Frag} {t:Adr} {H H':Hp} {a s l w p h b:Addr} {Fs Fs' Fl Fl':Addr→Prop} {x x':HSt}
theorem HoB.slots (B:HoB K t H a s l w p h Fs Fl x) {st:SSt} (S:SlA K t H' s Fs' st) (f:Fr Fs Fs' H H'):HoB K t H' a s l w p h Fs' Fl {x with st:=st}∧Fr (HoF a w p h Fs Fl x.pa) (HoF a w p h Fs' Fl x.pa) H H':=by
 have k1:∀b,Fl b→H' b=H b∧¬Fs' b:=λb hb=>by
  obtain⟨o,e⟩:=B.lv.dom hb
  have:=f b o (λz=>B.a1 b z hb) e
  exact⟨this.1.trans e.symm,this.2⟩
 have k2:∀b,Ow a w p h x.pa b→H' b=H b∧¬Fs' b:=λb hb=>by
  obtain⟨o,e,_⟩:=B.o.dom hb
  have:=f b o (B.a2 b hb) e
  exact⟨this.1.trans e.symm,this.2⟩
 have O:=B.o.keep (H':=H') (λb hb=>(k2 b hb).1) λb xs e=>(f b _ (B.sl.notup e) e).1
 exact⟨⟨⟨O.ob,O.wr,O.dr,O.pa,O.ho,O.mx,O.ph,O.wl,O.kd,O.md,O.ld⟩,S,B.lv.frame λb hb=>(k1 b hb).1,λb h1 h2=>(k1 b h2).2 h1,λb hb=>(k2 b hb).2,B.a3⟩,λb o n e=>⟨(f b o (λz=>n (.inl z)) e).1,λz=>z.elim (f b o (λz=>n (.inl z)) e).2 λz=>n (.inr z)⟩⟩
theorem HoB.leaves (B:HoB K t H a s l w p h Fs Fl x) {ks:List Int} (S:LvA K t H' l Fl' ks) (f:Fr Fl Fl' H H'):HoB K t H' a s l w p h Fs Fl' {x with ks:=ks}∧Fr (HoF a w p h Fs Fl x.pa) (HoF a w p h Fs Fl' x.pa) H H':=by
 have k1:∀b,Fs b→H' b=H b∧¬Fl' b:=λb hb=>by
  obtain⟨o,e⟩:=B.sl.dom hb
  have:=f b o (B.a1 b hb) e
  exact⟨this.1.trans e.symm,this.2⟩
 have k2:∀b,Ow a w p h x.pa b→H' b=H b∧¬Fl' b:=λb hb=>by
  obtain⟨o,e,_⟩:=B.o.dom hb
  have:=f b o (B.a3 b hb) e
  exact⟨this.1.trans e.symm,this.2⟩
 have O:=B.o.keep (H':=H') (λb hb=>(k2 b hb).1) λb xs e=>(f b _ (B.lv.notup e) e).1
 exact⟨⟨⟨O.ob,O.wr,O.dr,O.pa,O.ho,O.mx,O.ph,O.wl,O.kd,O.md,O.ld⟩,B.sl.frame λb hb=>(k1 b hb).1,S,λb h1=>(k1 b h1).2,B.a2,λb hb=>(k2 b hb).2⟩,λb o n e=>⟨(f b o (λz=>n (.inr (.inl z))) e).1,λz=>z.elim (λz=>n (.inl z)) λz=>z.elim (f b o (λz=>n (.inr (.inl z))) e).2 λz=>n (.inr (.inr z))⟩⟩
theorem HoB.own (B:HoB K t H a s l w p h Fs Fl x) (O:HoO t H' a s l w p h x') (e1:x'.st=x.st) (e2:x'.ks=x.ks) (f:Fr (Ow a w p h x.pa) (Ow a w p h x'.pa) H H'):HoB K t H' a s l w p h Fs Fl x'∧Fr (HoF a w p h Fs Fl x.pa) (HoF a w p h Fs Fl x'.pa) H H':=by
 have k1:∀b,Fs b→H' b=H b∧¬Ow a w p h x'.pa b:=λb hb=>by
  obtain⟨o,e⟩:=B.sl.dom hb
  have:=f b o (λz=>B.a2 b z hb) e
  exact⟨this.1.trans e.symm,this.2⟩
 have k2:∀b,Fl b→H' b=H b∧¬Ow a w p h x'.pa b:=λb hb=>by
  obtain⟨o,e⟩:=B.lv.dom hb
  have:=f b o (λz=>B.a3 b z hb) e
  exact⟨this.1.trans e.symm,this.2⟩
 exact⟨⟨O,by rw[e1];exact B.sl.frame λb hb=>(k1 b hb).1,by rw[e2];exact B.lv.frame λb hb=>(k2 b hb).1,B.a1,λb h1 h2=>(k1 b h2).2 h1,λb h1 h2=>(k2 b h2).2 h1⟩,λb o n e=>⟨(f b o (λz=>n (.inr (.inr z))) e).1,λz=>z.elim (λz=>n (.inl z)) λz=>z.elim (λz=>n (.inr (.inl z))) (f b o (λz=>n (.inr (.inr z))) e).2⟩⟩
theorem HoB.dom (B:HoB K t H a s l w p h Fs Fl x) (hb:HoF a w p h Fs Fl x.pa b):∃o,H b=some o∧∀ys,o≠ .tup ys:=by
 have no:∀F:Addr→Prop,F b→(∀xs,H b=some (.tup xs)→¬F b)→∀o,H b=some o→∃o,H b=some o∧∀ys,o≠ .tup ys:=λF hF n o e=>⟨o,e,λys z=>n ys (by rw[e,z]) hF⟩
 rcases hb with hb|hb|hb
 ·obtain⟨o,e⟩:=B.sl.dom hb
  exact no Fs hb (λxs e=>B.sl.notup e) o e
 ·obtain⟨o,e⟩:=B.lv.dom hb
  exact no Fl hb (λxs e=>B.lv.notup e) o e
 ·exact B.o.dom hb
theorem HoB.keep (B:HoB K t H a s l w p h Fs Fl x) (g:∀b,HoF a w p h Fs Fl x.pa b→H' b=H b) (tp:∀b xs,H b=some (.tup xs)→H' b=some (.tup xs)):HoB K t H' a s l w p h Fs Fl x:=
 ⟨B.o.keep (λb hb=>g b (.inr (.inr hb))) tp,B.sl.frame λb hb=>g b (.inl hb),B.lv.frame λb hb=>g b (.inr (.inl hb)),B.a1,B.a2,B.a3⟩
end
structure HOk (x:HSt):Prop where
 ks:∀z,z∈x.ks↔(aI x.st.kv z).isSome=true
 n0:0≤x.now
 m0:0≤x.ma
 dl:(x.di.length:Int)=x.now+x.ma
 pl:(x.pa.length:Int)≤x.now
 el:∀j,((mkOf x.pa j).length:Int)≤x.now
 sl:(x.st.kv.length:Int)≤x.now
 hn:(x.ho.map (·.1)).Nodup
 hv:∀p∈x.ho,x.fl≤p.1∧p.1≤x.now∧∃n:Int,p.2= .int n∧0<n
 fb:0≤x.fl∧x.fl≤x.now
 up:∀j,(mkOf x.pa j).Pairwise (λa b=>a.mo<b.mo)∧∀y∈mkOf x.pa j,y.mo≤x.now
def HoA (K:PySem.W.Frag) (t:Adr) (H:Hp) (a:Addr) (F:Addr→Prop) (x:HSt):Prop:=∃s l w p h Fs Fl,HoB K t H a s l w p h Fs Fl x∧HOk x∧∀b,F b↔HoF a w p h Fs Fl x.pa b
section
variable {K:PySem.W.Frag} {t:Adr} {H H':Hp} {a b q:Addr} {F F':Addr→Prop} {x:HSt} {o:HO} {k:Int}
theorem HoA.ins (A:HoA K t H a F x):∃dx fs,H a=some (.ins t.aB dx fs)∧(∀m,NoH m→fs.lookup m=none)∧fs.lookup ("now":Str)=some (.int x.now)∧fs.lookup ("floor":Str)=some (.int x.fl):=by
 obtain⟨s,l,w,p,h,Fs,Fl,B,_⟩:=A
 obtain⟨dx,e⟩:=B.o.ob
 exact⟨dx,_,e,λm hm=>wF hm,eQ,zq⟩
theorem HoA.ok (A:HoA K t H a F x):HOk x:=by
 obtain⟨s,l,w,p,h,Fs,Fl,B,O,_⟩:=A
 exact O
theorem HoA.dom (A:HoA K t H a F x) (hb:F b):∃o,H b=some o∧∀ys,o≠ .tup ys:=by
 obtain⟨s,l,w,p,h,Fs,Fl,B,_,g⟩:=A
 exact B.dom ((g b).mp hb)
theorem HoA.out (A:HoA K t H a F x) (e:H b=none):¬F b:=λz=>by
 obtain⟨o,q,_⟩:=A.dom z
 rw[q]at e
 cases e
theorem HoA.keep (A:HoA K t H a F x) (g:∀b,F b→H' b=H b) (tp:∀b xs,H b=some (.tup xs)→H' b=some (.tup xs)):HoA K t H' a F x:=by
 obtain⟨s,l,w,p,h,Fs,Fl,B,O,f⟩:=A
 exact⟨s,l,w,p,h,Fs,Fl,B.keep (λb hb=>g b ((f b).mpr hb)) tp,O,f⟩
theorem HoA.same (A:HoA K t H a F x) (m:Same H H'):HoA K t H' a F x:=A.keep (λb hb=>by
 obtain⟨o,e,_⟩:=A.dom hb
 rw[e]
 exact m _ _ e) λb xs e=>m _ _ e
theorem HoA.upd (A:HoA K t H a F x) (n:¬F q) (nt:∀xs,H q≠some (.tup xs)):HoA K t (L2.upd H q o) a F x:=A.keep (λb hb=>ac λz=>n (z▸hb)) λb xs e=>by rw[ac λz=>nt xs (by rw[←z];exact e)];exact e
end
def nZ (t:Adr):Sp:=λvs H Q _=>∃(a s l w p h r:Addr) (k:Int) (x:HSt) (v:V) (xs:List V),vs=[.ref a,.ref r,v]∧HoO t H a s l w p h x∧H r=some (.tup xs)∧atI xs 1=some (.int k)∧x.di.length<50000∧x.pa.length<50000∧(mkOf x.pa k).length<50000∧
 ∀(H':Hp) (pa':List Pk) (q:Addr),HoO t H' a s l w p h {x with now:=x.now+1,di:=x.di++ [(r,xs)],pa:=pa'}→Noted x.pa pa' k ⟨q,x.now+1,v⟩→Fr (Ow a w p h x.pa) (Ow a w p h pa') H H'→Q (.int (x.now+1)) H'
theorem iB (T:Txt K mg t):aX P w K mg base CX0 3 t.jB t.f8 ["self","row","value"] (nZ t):=by
 have Gi:= @oV P w K mg base t T
 have Gj:= @oU P w K mg base t T
 refine T.AH.ok sc_House__done (λvs H Q E h=>?_) (λcdv A outer s H vs Q E hr h=>?_)
 ·obtain⟨a,s,l,w,p,h,r,k,x,v,xs,rfl,_⟩:=h
  rfl
 ·obtain⟨a,s,l,wr,p,h,r,k,x,v,xs,rfl,A,ht,hk,l1,l2,l3,q⟩:=h
  refine⟨_,(ae (aF (i:=3) sc_House__done.nd rfl (Or.inl rfl) (br sV (pv 1) aj (λ_ _=>rfl)))
   (ae (iS (pv 0) aj vJ)
   (ae (aO (cM Qt QX QY cx (av (pv 0) rfl) (aa (pv 1) ag)))
   (ae (aO (aN (cM QG XW PySem.F.type_dict_setdefault xA (av (pv 0) rfl) (aa (pv 3) (aa (ij T.Eb Gi (hr.mono (by decide)) (by rfl) T.Ee T.Al .nil az) ag))) T.eD T.Ad Gj (hr.mono (by decide)) T.Ak .nil az (aa (av (pv 0) rfl) (aa (pv 2) ag))))
   (ah (aH (av (pv 0) rfl)))))))
   ,?_⟩
  obtain⟨dx,ho⟩:=A.ob
  refine⟨_,rfl,r,_,_,_,rfl,rfl,SqT.of ht,hk,?_⟩
  refine⟨_,rfl,a,_,dx,_,_,rfl,ho,T.ar,T.aS,eQ,_,_,rfl,rfl,dx,_,ho,sW,?_⟩
  rw[Bg]
  have A1:=A.set (now:=x.now+1) (mk:=x.ma) (fl:=x.fl) (dx:=dx)
  have o1:∀b o,b≠a→H b=some o→upd H a (.ins t.aB dx (hoF (x.now+1) x.fl s l wr x.ma p h)) b=some o:=λb o n e=>by rw[ac n];exact e
  have ra:r≠a:=λz=>by rw[z,ho]at ht;cases ht
  have ht1:=o1 _ _ ra ht
  generalize upd H a (.ins t.aB dx (hoF (x.now+1) x.fl s l wr x.ma p h))=H1 at A1 o1 ht1⊢
  obtain⟨dx1,ho1⟩:=A1.ob
  refine⟨_,rfl,a,_,dx1,_,_,rfl,ho1,T.ar,T.lQ,Dq,.inl ⟨rfl,_,SqL.of A1.wr⟩,_,rfl,wr,_,_,rfl,rfl,A1.wr,bq (by rw[Q0];show x.di.length≤_;omega),?_⟩
  have A2:=A1.row ht1
  have o2:∀b o,¬Ow a wr p h x.pa b→H b=some o→upd H1 wr (.lst (x.di.map (λe=>V.ref e.1)++ [.ref r])) b=some o:=λb o n e=>by rw[ac λz=>n (.inr (.inl z))];exact o1 _ _ (λz=>n (.inl z)) e
  generalize upd H1 wr (.lst (x.di.map (λe=>V.ref e.1)++ [.ref r]))=H2 at A2 o2⊢
  obtain⟨dx2,ho2⟩:=A2.ob
  refine⟨_,rfl,a,_,dx2,_,_,rfl,ho2,T.ar,T.jd,zp,.inr (.inr (.inl ⟨rfl,.inl ⟨_,A2.pa⟩⟩)),_,rfl,λm dm nm nd nmd=>⟨m,dm,rfl,af,λH4 g M4 ng o4=>⟨rfl,?_⟩⟩⟩
  have s3:Same H2 (upd (upd H2 dm (.own m)) m (.ins t.dH dm [])):=cE (ao nd) nm
  have s4:Same H2 H4:=λb o e=>o4 b o (λz=>by rw[z,nm]at e;cases e) (s3 b o e)
  have ng2:=BI s3 ng
  have A4:=A2.same s4
  have om:¬Ow a wr p h x.pa m:=λz=>by obtain⟨o,e,_⟩:=A2.dom z;rw[nm]at e;cases e
  have og:¬Ow a wr p h x.pa g:=λz=>by obtain⟨o,e,_⟩:=A2.dom z;rw[ng2]at e;cases e
  have o5:∀b o,¬Ow a wr p h x.pa b→H b=some o→H4 b=some o∧b≠m∧b≠g:=λb o n e=>⟨s4 _ _ (o2 b o n e),λz=>(by have:=o2 b o n e;rw[z,nm]at this;cases this),λz=>(by have:=o2 b o n e;rw[z,ng2]at this;cases this)⟩
  clear s3 s4 o4 o2 o1 A1 A2 ho2 ho1 ho A ng nm nd nmd ng2 ht1 ht
  refine⟨p,_,Sum.inl k,.ref m,rfl,rfl,A4.pa,(by rw[bC];exact bq (by show(paD x.pa).length≤_;unfold paD;rw[Q0];omega)),λu hu=>?A,λhn=>?B⟩
  case' A=>
   have hu:aI (aE (paD x.pa)) (Sum.inl k:Key)=some u:=hu
   rw[liftK_val]at hu
   obtain⟨e,he,ek,ev,em⟩:∃e∈x.pa,e.k=k∧aI (paD x.pa) k=some (.ref e.m)∧mkOf x.pa k=e.es:=by
    rcases sI x.pa k with⟨z,_⟩|z
    ·rw[z]at hu;cases hu
    ·exact z
   rw[ev]at hu
   cases hu
   obtain⟨pa5,A5,he,N,f5⟩:∃pa5,HoO t H4 a s l wr p h {x with now:=x.now+1,di:=x.di++ [(r,xs)],pa:=pa5}∧e∈pa5∧(∀y,Noted x.pa (paN pa5 k y) k y)∧Fr (Ow a wr p h x.pa) (Ow a wr p h pa5) H H4:=
    ⟨x.pa,A4,he,λy=>⟨λj=>kF (Qb.mpr ⟨e,he,ek⟩),by rw[qY λ_ _=>rfl,if_pos (Qb.mpr ⟨e,he,ek⟩)]⟩,λb o n e=>⟨(o5 b o n e).1,n⟩⟩
   have le:e.es.length<50000:=by rw[←em];exact l3
   clear A4 em ev o5
  case' B=>
   have hn:aI (aE (paD x.pa)) (Sum.inl k:Key)=none:=hn
   rw[liftK_val]at hn
   have nk:k∉x.pa.map (·.k):=by
    rcases sI x.pa k with⟨_,z⟩|⟨e,_,_,z,_⟩
    ·exact z
    ·rw[z]at hn;cases hn
   have ep:bg (aE (paD x.pa)) (Sum.inl k:Key) (.ref m)=aE (paD x.pa++ [(k,.ref m)]):=by
    rw[dL]
    unfold bg
    rw[bV,hn]
    rfl
   rw[ep]
   obtain⟨e,ee,ek,le⟩:∃e:Pk,e=⟨k,m,g,[]⟩∧e.k=k∧e.es.length<50000:=⟨_,rfl,rfl,by show 0<50000;decide⟩
   obtain⟨pa5,A5,he,N,f5⟩:∃pa5,HoO t (upd H4 p (.dK (aE (paD x.pa++ [(k,.ref m)])))) a s l wr p h {x with now:=x.now+1,di:=x.di++ [(r,xs)],pa:=pa5}∧e∈pa5∧(∀y,Noted x.pa (paN pa5 k y) k y)∧Fr (Ow a wr p h x.pa) (Ow a wr p h pa5) H (upd H4 p (.dK (aE (paD x.pa++ [(k,.ref m)])))):=by
    refine⟨x.pa++ [e],ee▸A4.newk nk M4 om og,Qu _ Q8,λy=>⟨λj=>?_,?_⟩,λb o n eb=>⟨?_,λz=>?_⟩⟩
    ·have nk':e.k∉x.pa.map (·.k):=by rw[ek];exact nk
     rw[kF (by rw[Qk];exact Qu _ (Qd.mpr ek.symm)),o9 nk',o9 nk',if_pos ek.symm,rg nk,ee]
     by_cases c:j=k
     ·rw[if_pos c,if_pos c]
     ·rw[if_neg c,if_neg c,if_neg c]
    ·rw[qY λ_ _=>rfl,if_neg nk,Qk,←ek]
     rfl
    ·rw[ac λz=>n (.inr (.inr (.inl z)))]
     exact(o5 b o n eb).1
    ·rcases z with z|z|z|z|⟨e',he',z⟩
     ·exact n (.inl z)
     ·exact n (.inr (.inl z))
     ·exact n (.inr (.inr (.inl z)))
     ·exact n (.inr (.inr (.inr (.inl z))))
     ·rcases Q7.mp he' with y|y
      ·exact n (.inr (.inr (.inr (.inr ⟨e',y,z⟩))))
      ·rw[Qd.mp y,ee]at z
       exact z.elim (o5 b o n eb).2.1 (o5 b o n eb).2.2
   have em:V.ref m=V.ref e.m:=by rw[ee]
   clear A4 M4 o5 om og hn nk ep
   generalize upd H4 p (.dK (aE (paD x.pa++ [(k,.ref m)])))=H5 at A5 f5⊢
   rw[em]
  all_goals
   have M5:=A5.mx e he
   obtain⟨dy,hm⟩:=M5.ob
   obtain⟨dx5,ho5⟩:=A5.ob
   refine⟨e.m,dy,_,rfl,hm,bf (by decide+kernel),_,rfl,a,_,dx5,_,_,rfl,ho5,T.ar,T.aS,eQ,_,rfl,e.m,e.l,e.es,_,v,rfl,M5,by omega,λH6 y M6 ny o6=>?_⟩
   have A6:=A5.noted he ek M6 o6
   obtain⟨dx6,ho6⟩:=A6.ob
   refine⟨_,rfl,a,_,dx6,_,_,rfl,ho6,T.ar,T.aS,eQ,q _ _ y A6 (N _) (f5.trans λb o n eb=>⟨o6 b o (λz=>n (.inr (.inr (.inr (.inr ⟨e,he,.inr z⟩))))) eb,λz=>n (C8 z)⟩)⟩
def HSt.new:HSt:=⟨0,0,0,SSt.new,[],[],[],[]⟩
theorem HSt.new_ok:HOk HSt.new:=⟨λz=>⟨(λy=>by cases y),(λy=>by cases y)⟩,by decide,by decide,rfl,by decide,λ_=>by show((0:Nat):Int)≤0;decide,by decide,Zi,(λ_ z=>by cases z),by decide,λ_=>⟨List.Pairwise.nil,(λy z=>by cases z)⟩⟩
def nU (K:PySem.W.Frag) (t:Adr):Sp:=λvs H Q _=>∃(a dx:Addr),vs=[.ref a]∧H a=some (.ins t.aB dx [])∧∀H' F,HoA K t H' a F HSt.new→Fr (λb=>b=a) F H H'→Q .non H'
theorem oX (T:Txt K mg t):aX P w K mg base CX0 4 t.jw t.fX ["self"] (nU K t):=by
 have Ge:= @mR P w K mg base t T
 have Gu:= @iq P w K mg base t T
 refine T.AD.ok ox (λvs H Q E h=>?_) (λcdv A outer s H vs Q E hr h=>?_)
 ·obtain⟨a,dx,rfl,_⟩:=h
  rfl
 ·obtain⟨a,dx,rfl,ha,q⟩:=h
  refine⟨_,(ae (bY (pv 0) aj rfl)
   (ae (bY (pv 0) aj rfl)
   (ae (bY (pv 0) (ij T.y7 Gu (hr.mono (by decide)) (by rfl) T.y9 T.qF .nil az) rfl)
   (ae (bY (pv 0) (ij T.DF Ge (hr.mono (by decide)) (by rfl) T.DG T.zP .nil az) rfl)
   (ae (bY (pv 0) (cu ag) rfl)
   (ae (bY (pv 0) aj rfl)
   (ae (bY (pv 0) ik rfl)
   (ah (bY (pv 0) ik rfl)))))))))
   ,?_⟩
  refine⟨_,rfl,a,_,dx,[],rfl,ha,T.ar,T.aS,(by show 0<1000;decide),?_⟩
  refine⟨_,rfl,a,_,dx,_,rfl,af,T.ar,T.dY,(by show 1<1000;decide),?_⟩
  (try dsimp only)
  have e2:upd (upd H a (.ins t.aB dx (aY ("now":Str) (.int 0) []))) a (.ins t.aB dx (aY ("floor":Str) (.int 0) (aY ("now":Str) (.int 0) []))) a=some (.ins t.aB dx [("now",.int 0),("floor",.int 0)]):=by
   rw[af,cK,aT (by decide+kernel),cK]
  have k2:∀b o,b≠a→H b=some o→upd (upd H a (.ins t.aB dx (aY ("now":Str) (.int 0) []))) a (.ins t.aB dx (aY ("floor":Str) (.int 0) (aY ("now":Str) (.int 0) []))) b=some o:=λb o n e=>by rw[ac n,ac n];exact e
  generalize upd (upd H a (.ins t.aB dx (aY ("now":Str) (.int 0) []))) a (.ins t.aB dx (aY ("floor":Str) (.int 0) (aY ("now":Str) (.int 0) [])))=H2 at e2 k2⊢
  refine λs ds ns nds nsd=>⟨s,ds,rfl,af,by rw[ac nsd];exact af,λH3 Fs S3 f3=>⟨rfl,?_⟩⟩
  have k3:∀b o,H2 b=some o→H3 b=some o∧¬Fs b:=λb o e=>f3 b o (λz=>z.elim (λz=>by rw[z,ns]at e;cases e) λz=>by rw[z,nds]at e;cases e) (cE (ao nds) ns _ _ e)
  refine⟨_,rfl,a,_,dx,_,rfl,(k3 _ _ e2).1,T.ar,T.aV,(by show 2<1000;decide),?_⟩
  (try dsimp only)
  have e4:upd H3 a (.ins t.aB dx (aY ("slots":Str) (.ref s) [("now",.int 0),("floor",.int 0)])) a=some (.ins t.aB dx [("now",.int 0),("floor",.int 0),("slots",.ref s)]):=by
   rw[af,aT (by decide+kernel),aT (by decide+kernel),cK]
  have S4:=S3.upd (o:= .ins t.aB dx (aY ("slots":Str) (.ref s) [("now",.int 0),("floor",.int 0)])) (k3 _ _ e2).2
  have k4:∀b o,b≠a→H b=some o→upd H3 a (.ins t.aB dx (aY ("slots":Str) (.ref s) [("now",.int 0),("floor",.int 0)])) b=some o∧¬Fs b:=λb o n e=>⟨by rw[ac n];exact(k3 _ _ (k2 b o n e)).1,(k3 _ _ (k2 b o n e)).2⟩
  have na:=(k3 _ _ e2).2
  clear f3 k3
  generalize upd H3 a (.ins t.aB dx (aY ("slots":Str) (.ref s) [("now",.int 0),("floor",.int 0)]))=H4 at e4 S4 k4⊢
  refine λl dl nl ndl nld=>⟨l,dl,rfl,af,by rw[ac nld];exact af,λH5 Fl L5 f5=>⟨rfl,?_⟩⟩
  have k5:∀b o,H4 b=some o→H5 b=some o∧¬Fl b:=λb o e=>f5 b o (λz=>z.elim (λz=>by rw[z,nl]at e;cases e) λz=>by rw[z,ndl]at e;cases e) (cE (ao ndl) nl _ _ e)
  refine⟨_,rfl,a,_,dx,_,rfl,(k5 _ _ e4).1,T.ar,T.dw,(by show 3<1000;decide),?_⟩
  (try dsimp only)
  have e6:upd H5 a (.ins t.aB dx (aY ("leaves":Str) (.ref l) [("now",.int 0),("floor",.int 0),("slots",.ref s)])) a=some (.ins t.aB dx [("now",.int 0),("floor",.int 0),("slots",.ref s),("leaves",.ref l)]):=by
   rw[af,aT (by decide+kernel),aT (by decide+kernel),aT (by decide+kernel),cK]
  have nb:=(k5 _ _ e4).2
  have L6:=L5.upd (o:= .ins t.aB dx (aY ("leaves":Str) (.ref l) [("now",.int 0),("floor",.int 0),("slots",.ref s)])) nb
  have S6:=(S4.same λb o e=>(k5 b o e).1).upd (o:= .ins t.aB dx (aY ("leaves":Str) (.ref l) [("now",.int 0),("floor",.int 0),("slots",.ref s)])) na
  have ap:∀b,Fs b→¬Fl b:=λb hb=>by
   obtain⟨o,e⟩:=S4.dom hb
   exact(k5 b o e).2
  have k6:∀b o,b≠a→H b=some o→upd H5 a (.ins t.aB dx (aY ("leaves":Str) (.ref l) [("now",.int 0),("floor",.int 0),("slots",.ref s)])) b=some o∧¬Fs b∧¬Fl b:=λb o n e=>⟨by rw[ac n];exact(k5 _ _ (k4 b o n e).1).1,(k4 b o n e).2,(k5 _ _ (k4 b o n e).1).2⟩
  clear f5 k5 k4 S4 L5 k2 e2 e4 S3 ns nds nsd nl ndl nld
  generalize upd H5 a (.ins t.aB dx (aY ("leaves":Str) (.ref l) [("now",.int 0),("floor",.int 0),("slots",.ref s)]))=H6 at e6 S6 L6 k6⊢
  refine⟨Qh _,λwr nw=>⟨_,rfl,a,_,dx,_,rfl,ao nw _ _ e6,T.ar,T.lQ,(by show 4<1000;decide),?_⟩⟩
  (try dsimp only)
  have aw:a≠wr:=ai e6 nw
  refine⟨_,rfl,a,_,dx,_,rfl,af,T.ar,T.y4,(by rw[aT (by decide+kernel),aT (by decide+kernel),aT (by decide+kernel),aT (by decide+kernel),cK];show 5<1000;decide),?_⟩
  (try dsimp only)
  rw[aT (f:="written") (by decide+kernel),aT (f:="written") (by decide+kernel),aT (f:="written") (by decide+kernel),aT (f:="written") (by decide+kernel),cK,aT (f:="marks") (by decide+kernel),aT (f:="marks") (by decide+kernel),aT (f:="marks") (by decide+kernel),aT (f:="marks") (by decide+kernel),aT (f:="marks") (by decide+kernel),cK,cz]
  have⟨H9,eH,e9,w9,k9⟩:∃H9,H9=upd (upd H6 wr (.lst [])) a (.ins t.aB dx [("now",.int 0),("floor",.int 0),("slots",.ref s),("leaves",.ref l),("written",.ref wr),("marks",.int 0)])∧H9 a=some (.ins t.aB dx [("now",.int 0),("floor",.int 0),("slots",.ref s),("leaves",.ref l),("written",.ref wr),("marks",.int 0)])∧H9 wr=some (.lst [])∧∀b o,b≠a→H6 b=some o→H9 b=some o:=
   ⟨_,rfl,af,by rw[ac aw.symm];exact af,λb o n e=>by rw[ac n];exact ao nw _ _ e⟩
  rw[←eH]
  clear eH
  refine λp np=>⟨_,rfl,a,_,dx,_,rfl,ao np _ _ e9,T.ar,T.jd,(by show 6<1000;decide),?_⟩
  (try dsimp only)
  rw[aT (by decide+kernel),aT (by decide+kernel),aT (by decide+kernel),aT (by decide+kernel),aT (by decide+kernel),aT (by decide+kernel),cK]
  have⟨H11,eH,e11,w11,p11,k11⟩:∃H11,H11=upd (upd H9 p (.dK [])) a (.ins t.aB dx [("now",.int 0),("floor",.int 0),("slots",.ref s),("leaves",.ref l),("written",.ref wr),("marks",.int 0),("past",.ref p)])∧H11 a=some (.ins t.aB dx [("now",.int 0),("floor",.int 0),("slots",.ref s),("leaves",.ref l),("written",.ref wr),("marks",.int 0),("past",.ref p)])∧H11 wr=some (.lst [])∧H11 p=some (.dK [])∧∀b o,b≠a→H6 b=some o→H11 b=some o:=
   ⟨_,rfl,af,by rw[ac aw.symm];exact ao np _ _ w9,by rw[ac (ai e9 np).symm];exact af,λb o n e=>by rw[ac n];exact ao np _ _ (k9 _ _ n e)⟩
  rw[←eH]
  clear eH
  have pa':p≠a:=(ai e9 np).symm
  refine λh nh=>⟨_,rfl,a,_,dx,_,rfl,ao nh _ _ e11,T.ar,T.cZ,(by show 7<1000;decide),?_⟩
  (try dsimp only)
  rw[aT (by decide+kernel),aT (by decide+kernel),aT (by decide+kernel),aT (by decide+kernel),aT (by decide+kernel),aT (by decide+kernel),aT (by decide+kernel),cK]
  have ha':h≠a:=(ai e11 nh).symm
  have k13:∀b o,b≠a→H11 b=some o→upd (upd H11 h (.dK [])) a (.ins t.aB dx (hoF 0 0 s l wr 0 p h)) b=some o:=λb o n e=>by rw[ac n];exact ao nh _ _ e
  have g13:∀b o,b≠a→H6 b=some o→upd (upd H11 h (.dK [])) a (.ins t.aB dx (hoF 0 0 s l wr 0 p h)) b=some o:=λb o n e=>k13 b o n (k11 b o n e)
  have O:HoO t (upd (upd H11 h (.dK [])) a (.ins t.aB dx (hoF 0 0 s l wr 0 p h))) a s l wr p h HSt.new:=⟨⟨dx,af⟩,k13 _ _ aw.symm w11,(λe he=>by cases he),k13 _ _ pa' p11,by rw[ac ha'];exact af,(λe he=>by cases he),ai p11 nh,(λe he=>by cases he),Zi,Zi,Zi⟩
  have fresh:∀b,(b=wr∨b=p∨b=h)→H6 b=none:=λb hb=>by
   cases e:H6 b with
   |none=>rfl
   |some o=>
    have na:b≠a:=by
     rcases hb with rfl|rfl|rfl
     ·exact aw.symm
     ·exact pa'
     ·exact ha'
    rcases hb with rfl|rfl|rfl
    ·rw[nw]at e;cases e
    ·rw[k9 _ _ na e]at np;cases np
    ·rw[k11 _ _ na e]at nh;cases nh
  have ow:∀b,Ow a wr p h [] b→b=a∨H6 b=none:=λb hb=>by
   rcases hb with z|z|z|z|⟨e,he,_⟩
   ·exact .inl z
   ·exact .inr (fresh b (.inl z))
   ·exact .inr (fresh b (.inr (.inl z)))
   ·exact .inr (fresh b (.inr (.inr z)))
   ·cases he
  refine q _ (HoF a wr p h Fs Fl []) ⟨s,l,wr,p,h,Fs,Fl,⟨O,S6.frame λb hb=>?_,L6.frame λb hb=>?_,ap,λb hb z=>?_,λb hb z=>?_⟩,HSt.new_ok,λ_=>Iff.rfl⟩ λb o n e=>?_
  ·obtain⟨o,e⟩:=S6.dom hb
   rw[e]
   exact g13 b o (λz=>na (z▸hb)) e
  ·obtain⟨o,e⟩:=L6.dom hb
   rw[e]
   exact g13 b o (λz=>nb (z▸hb)) e
  ·rcases ow b hb with y|y
   ·exact na (y▸z)
   ·exact S6.out y z
  ·rcases ow b hb with y|y
   ·exact nb (y▸z)
   ·exact L6.out y z
  ·obtain⟨c1,c2,c3⟩:=k6 b o n e
   refine⟨g13 b o n c1,λz=>?_⟩
   rcases z with z|z|z
   ·exact c2 z
   ·exact c3 z
   ·rcases ow b z with y|y
    ·exact n y
    ·rw[c1]at y;cases y
theorem HoA.klen {H:Hp} {a:Addr} {F:Addr→Prop} {x:HSt} (A:HoA K t H a F x):(x.ks.length:Int)≤x.now:=by
 obtain⟨s,l,w,p,h,Fs,Fl,B,O,_⟩:=A
 obtain⟨L,A,ls,_,ok,e,_⟩:=B.lv
 have nd:x.ks.Nodup:=by
  rw[←e]
  exact List.Pairwise.imp (λh z=>by omega) ok.up
 have:=kB (S:=x.st.kv.map (·.1)) nd λz hz=>mem_keys.mpr ((O.ks z).mp hz)
 rw[Q0]at this
 have:=O.sl
 omega
theorem HOk.noted {x:HSt} {pa':List Pk} {k:Int} {y:Mk1} (O:HOk x) (N:Noted x.pa pa' k y):(pa'.length:Int)≤x.now+1∧∀j,((mkOf pa' j).length:Int)≤x.now+1:=by
 constructor
 ·have h1:=O.pl
  have h2:=congrArg List.length N.ky
  rw[Q0]at h2
  split at h2
  ·rw[Q0]at h2
   omega
  ·rw[Qg,Q0,QW]at h2
   omega
 ·intro j
  rw[N.of]
  split
  ·have:=O.el k
   rw[Qg,QW]
   omega
  ·have:=O.el j
   omega
theorem HOk.hv1 {x:HSt} (O:HOk x):∀p∈x.ho,x.fl≤p.1∧p.1≤x.now+1∧∃n:Int,p.2= .int n∧0<n:=λp hp=>⟨(O.hv p hp).1,by have:=(O.hv p hp).2.1;omega,(O.hv p hp).2.2⟩
theorem HOk.fb1 {x:HSt} (O:HOk x):0≤x.fl∧x.fl≤x.now+1:=⟨O.fb.1,by have:=O.fb.2;omega⟩
theorem HOk.up1 {x:HSt} {pa':List Pk} {k:Int} {y:Mk1} (O:HOk x) (N:Noted x.pa pa' k y) (e:y.mo=x.now+1):∀j,(mkOf pa' j).Pairwise (λa b=>a.mo<b.mo)∧∀z∈mkOf pa' j,z.mo≤x.now+1:=λj=>by
 rw[N.of]
 obtain⟨u1,u2⟩:=O.up k
 split
 ·refine⟨Qj.mpr ⟨u1,Z1 _ _,λa ha b hb=>?_⟩,λz hz=>?_⟩
  ·rw[Qd.mp hb,e]
   have:=u2 a ha
   omega
  ·rcases Q7.mp hz with hz|hz
   ·have:=u2 z hz
    omega
   ·rw[Qd.mp hz,e]
    exact ZH _
 ·obtain⟨v1,v2⟩:=O.up j
  exact⟨v1,λz hz=>by have:=v2 z hz;omega⟩
def p9 (K:PySem.W.Frag) (t:Adr):Sp:=λvs H Q _=>∃(a:Addr) (k i:Int) (F:Addr→Prop) (x:HSt),vs=[.ref a,.int k,.int i]∧HoA K t H a F x∧0≤k∧x.now+x.ma<4000∧
 ∀(H':Hp) (F':Addr→Prop) (ks':List Int) (r q:Addr) (pa':List Pk),HoA K t H' a F' {x with now:=x.now+1,st:=x.st.put k (.int i),ks:=ks',di:=x.di++ [(r,[.str "put",.int k,.int i])],pa:=pa'}→Noted x.pa pa' k ⟨q,x.now+1,.int i⟩→Fr F F' H H'→Q (.int (x.now+1)) H'
theorem qp (T:Txt K mg t):aX P w K mg base CX0 5 t.lq t.gY ["self","key","value"] (p9 K t):=by
 have G0:= @iB P w K mg base t T
 have Ga:= @oW P w K mg base t T
 have Gs:= @fG P w K mg base t T
 have Gz:= @i9 P w K mg base t T
 refine T.B7.ok qg (λvs H Q E h=>?_) (λcdv A outer s H vs Q E hr h=>?_)
 ·obtain⟨a,k,i,F,x,rfl,_⟩:=h
  rfl
 ·obtain⟨a,k,i,F,x,rfl,A,k0,l1,q⟩:=h
  refine⟨_,(ae (bc (jM (fB (aN (av (pv 0) rfl) T.aq T.kG Gs (hr.mono (by decide)) T.kR .nil az (aa (pv 1) ag))))
   (ah (aO (aN (av (pv 0) rfl) T.aD T.Ae Ga (hr.mono (by decide)) T.Am .nil az (aa (pv 1) ag))))
   aR)
   (ae (aO (aN (av (pv 0) rfl) T.aq T.sO Gz (hr.mono (by decide)) T.tD .nil az (aa (pv 1) (aa (pv 2) ag))))
   (ah (aH (aN (pv 0) T.ar T.qw G0 (hr.mono (by decide)) T.qL .nil az (aa (dW (aa cr (aa (pv 1) (aa (pv 2) ag)))) (aa (pv 2) ag)))))))
   ,?_⟩
  have kl:=A.klen
  obtain⟨s,l,wr,p,h,Fs,Fl,B,O,g⟩:=A
  have n0:=O.n0
  have m0:=O.m0
  have sl:=O.sl
  obtain⟨dx,ho⟩:=B.o.ob
  obtain⟨ds,fs,hs,hm⟩:=B.sl.ins
  (try dsimp only)
  refine eK (λσ H2=>∃(Fs2 Fl2:Addr→Prop) (ks2:List Int),σ=[some (.ref a),some (.int k),some (.int i)]∧HoB K t H2 a s l wr p h Fs2 Fl2 {x with ks:=ks2}∧(∀z,z∈ks2↔z=k∨z∈x.ks)∧Fr (HoF a wr p h Fs Fl x.pa) (HoF a wr p h Fs2 Fl2 x.pa) H H2) (λnx go=>?_) (λσ H2 w=>?_)
  ·refine⟨_,rfl,a,_,dx,_,_,rfl,ho,T.ar,T.aV,jV,s,ds,fs,rfl,hs,hm _ (by decide+kernel),_,rfl,s,k,Fs,x.st,rfl,B.sl,k0,λH1 Fs1 S1 f1=>?_⟩
   obtain⟨B1,g1⟩:=B.slots S1 f1
   obtain⟨dx1,ho1⟩:=B1.o.ob
   obtain⟨dl,fl,hl,hml⟩:=B1.lv.ins
   cases ev:(aI x.st.kv k).isSome with
   |true=>
    refine⟨_,rfl,lZ (λc=>?_) (λ_=>?_)⟩
    ·cases c
    ·exact go _ _ ⟨Fs1,Fl,x.ks,rfl,B1,λz=>⟨.inr,λy=>y.elim (λy=>by rw[y];exact(O.ks k).mpr ev) id⟩,g1⟩
   |false=>
    have nk:k∉x.ks:=λz=>by have:=(O.ks k).mp z;rw[ev]at this;cases this
    refine⟨_,rfl,lZ (λ_=>?_) (λc=>?_)⟩
    ·refine⟨_,rfl,a,_,dx1,_,_,rfl,ho1,T.ar,T.dw,vL,l,dl,fl,rfl,hl,hml _ (by decide+kernel),_,rfl,l,k,Fl,x.ks,rfl,B1.lv,by omega,λ_ H2 Fl2 ks2 L2 mem f2=>?_,λz=>absurd z nk⟩
     obtain⟨B2,g2⟩:=B1.leaves L2 f2
     exact go _ _ ⟨Fs1,Fl2,ks2,rfl,B2,mem,g1.trans g2⟩
    ·exact absurd rfl c
  ·obtain⟨Fs2,Fl2,ks2,rfl,B2,mem,g2⟩:=w
   obtain⟨dx2,ho2⟩:=B2.o.ob
   obtain⟨ds2,fs2,hs2,hm2⟩:=B2.sl.ins
   refine⟨_,rfl,a,_,dx2,_,_,rfl,ho2,T.ar,T.aV,jV,s,ds2,fs2,rfl,hs2,hm2 _ (by decide+kernel),_,rfl,_,rfl,s,k,i,Fs2,x.st,rfl,B2.sl,k0,by omega,λH3 Fs3 S3 f3=>?_⟩
   obtain⟨B3,g3⟩:=B2.slots S3 f3
   obtain⟨dx3,ho3⟩:=B3.o.ob
   refine⟨_,rfl,a,dx3,_,rfl,ho3,wF (by decide+kernel),_,rfl,_,rfl,(by show 3≤sizeLine;decide),λr nr=>?_⟩
   have s4:=ao (o:= .tup [.str "put",.int k,.int i]) nr
   have ht:upd H3 r (.tup [.str "put",.int k,.int i]) r=some (.tup [.str "put",.int k,.int i]):=af
   have B4:HoB K t (upd H3 r (.tup [.str "put",.int k,.int i])) a s l wr p h Fs3 Fl2 _:=B3.keep (λb hb=>by
    obtain⟨o,e,_⟩:=B3.dom hb
    rw[e]
    exact s4 _ _ e) λb xs e=>s4 _ _ e
   have g4:=(g2.trans g3).trans (Fr.of_same s4)
   generalize upd H3 r (.tup [.str "put",.int k,.int i])=H4 at B4 ht g4⊢
   have dl:=O.dl
   have pl:=O.pl
   have el:=O.el k
   refine⟨_,rfl,a,s,l,wr,p,h,r,k,_,.int i,_,rfl,B4.o,ht,rfl,by show x.di.length<50000;omega,by show x.pa.length<50000;omega,by show(mkOf x.pa k).length<50000;omega,λH5 pa' y O5 N f5=>?_⟩
   obtain⟨B5,g5⟩:=B4.own O5 rfl rfl f5
   obtain⟨N1,N2⟩:=O.noted N
   have ek:(x.st.put k (.int i)).kv=bg x.st.kv k (.int i):=SSt.three_kv
   refine q H5 (HoF a wr p h Fs3 Fl2 pa') ks2 r y pa' ⟨s,l,wr,p,h,Fs3,Fl2,B5,⟨λz=>?_,by show 0≤x.now+1;omega,m0,?_,N1,N2,?_,O.hn,O.hv1,O.fb1,O.up1 N rfl⟩,λ_=>Iff.rfl⟩ N ?_
   ·show z∈ks2↔(aI (x.st.put k (.int i)).kv z).isSome=true
    rw[mem,ek,←mem_keys,kI,O.ks]
    split
    ·rename_i c
     rw[mem_keys]
     exact⟨λy=>y.elim (λy=>y▸c) id,.inr⟩
    ·rw[Q7,Qd,mem_keys]
     exact⟨λy=>y.elim .inr .inl,λy=>y.elim .inr .inl⟩
   ·show((x.di++ [(r,_)]).length:Int)=x.now+1+x.ma
    rw[Qg,QW]
    omega
   ·show((x.st.put k (.int i)).kv.length:Int)≤x.now+1
    rw[ek]
    have:=bL x.st.kv k (.int i)
    omega
   ·exact λb o n e=>(g4.trans g5) b o (λz=>n ((g b).mpr z)) e
def RsH (K:PySem.W.Frag) (t:Adr) (a:Addr) (F:Addr→Prop) (x:HSt) (H:Hp) (C:Addr) (fs:List (Str×V)) (E:XK):Prop:=
 ∀(ea:Addr) (od:Option Addr) (H':Hp) (F':Addr→Prop),ExcAt H' ea od C fs→HoA K t H' a F' x→Fr F F' H H'→E (.ref ea) od H'
def nY (K:PySem.W.Frag) (t:Adr):Sp:=λvs H Q E=>∃(a:Addr) (k:Int) (F:Addr→Prop) (x:HSt),vs=[.ref a,.int k]∧HoA K t H a F x∧0≤k∧x.now+x.ma<4000∧
 ((aI x.st.kv k).isSome=true→∀(H':Hp) (F':Addr→Prop) (ks':List Int) (r q:Addr) (pa':List Pk),HoA K t H' a F' {x with now:=x.now+1,st:=x.st.drop k,ks:=ks',di:=x.di++ [(r,[.str "drop",.int k])],pa:=pa'}→Noted x.pa pa' k ⟨q,x.now+1,.non⟩→Fr F F' H H'→Q (.int (x.now+1)) H')∧
 (aI x.st.kv k=none→RsH K t a F x H t.bP [("key",.int k)] E)
theorem iA (T:Txt K mg t):aX P w K mg base (CX1 P w) 6 t.jz t.f7 ["self","key"] (nY K t):=by
 have G0:= @iB P w K mg base t T
 have Gb:= @jP P w K mg base t T
 have Gq:= @ir P w K mg base t T
 refine T.AG.okX oA (λvs H Q E h=>?_) (λcdv A outer s H vs Q E hr h=>?_)
 ·obtain⟨a,k,F,x,rfl,_⟩:=h
  rfl
 ·obtain⟨a,k,F,x,rfl,A,k0,l1,q,qx⟩:=h
  refine⟨_,(ae (aO (aN (av (pv 0) rfl) T.aq T.qr Gq (hr.mono (by decide)) T.qG .nil Cq (aa (pv 1) ag)))
   (ae (aO (aN (av (pv 0) rfl) T.aD T.wy Gb (hr.mono (by decide)) T.wS .nil az (aa (pv 1) ag)))
   (ah (aH (aN (pv 0) T.ar T.qw G0 (hr.mono (by decide)) T.qL .nil az (aa (dW (aa cr (aa (pv 1) ag))) (aa yT ag)))))))
   ,?_⟩
  have kl:=A.klen
  obtain⟨s,l,wr,p,h,Fs,Fl,B,O,g⟩:=A
  have n0:=O.n0
  have m0:=O.m0
  have sl:=O.sl
  obtain⟨dx,ho⟩:=B.o.ob
  obtain⟨ds,fs,hs,hm⟩:=B.sl.ins
  (try dsimp only)
  refine⟨_,rfl,a,_,dx,_,_,rfl,ho,T.ar,T.aV,jV,s,ds,fs,rfl,hs,hm _ (by decide+kernel),_,rfl,s,k,Fs,x.st,rfl,B.sl,k0,λev=>⟨by omega,λH1 Fs1 S1 f1=>?_⟩,λhn ea od H1 Fs1 ex S1 f1=>?_⟩
  ·obtain⟨B1,g1⟩:=B.slots S1 f1
   obtain⟨dx1,ho1⟩:=B1.o.ob
   obtain⟨dl,fl,hl,hml⟩:=B1.lv.ins
   refine⟨_,rfl,a,_,dx1,_,_,rfl,ho1,T.ar,T.dw,vL,l,dl,fl,rfl,hl,hml _ (by decide+kernel),_,rfl,l,k,Fl,x.ks,rfl,B1.lv,by omega,λ_ H2 Fl2 ks2 L2 mem f2=>?_,λz=>absurd ((O.ks k).mpr ev) z⟩
   obtain⟨B3,g3⟩:=B1.leaves L2 f2
   obtain⟨dx3,ho3⟩:=B3.o.ob
   refine⟨_,rfl,a,dx3,_,rfl,ho3,wF (by decide+kernel),_,rfl,(by show 2≤sizeLine;decide),λr nr=>?_⟩
   have s4:=ao (o:= .tup [.str "drop",.int k]) nr
   have ht:upd H2 r (.tup [.str "drop",.int k]) r=some (.tup [.str "drop",.int k]):=af
   have B4:HoB K t (upd H2 r (.tup [.str "drop",.int k])) a s l wr p h Fs1 Fl2 _:=B3.keep (λb hb=>by
    obtain⟨o,e,_⟩:=B3.dom hb
    rw[e]
    exact s4 _ _ e) λb xs e=>s4 _ _ e
   have g4:=(g1.trans g3).trans (Fr.of_same s4)
   generalize upd H2 r (.tup [.str "drop",.int k])=H4 at B4 ht g4⊢
   have dl:=O.dl
   have pl:=O.pl
   have el:=O.el k
   refine⟨a,s,l,wr,p,h,r,k,_,.non,_,rfl,B4.o,ht,rfl,by show x.di.length<50000;omega,by show x.pa.length<50000;omega,by show(mkOf x.pa k).length<50000;omega,λH5 pa' y O5 N f5=>?_⟩
   obtain⟨B5,g5⟩:=B4.own O5 rfl rfl f5
   obtain⟨N1,N2⟩:=O.noted N
   have ek:(x.st.drop k).kv=bp x.st.kv k:=SSt.three_kv
   refine q ev H5 (HoF a wr p h Fs1 Fl2 pa') ks2 r y pa' ⟨s,l,wr,p,h,Fs1,Fl2,B5,⟨λz=>?_,by show 0≤x.now+1;omega,m0,?_,N1,N2,?_,O.hn,O.hv1,O.fb1,O.up1 N rfl⟩,λ_=>Iff.rfl⟩ N ?_
   ·show z∈ks2↔(aI (x.st.drop k).kv z).isSome=true
    rw[mem,ek,cX,O.ks]
    by_cases c:z=k
    ·rw[if_pos c]
     exact⟨λy=>absurd c y.1,λy=>by cases y⟩
    ·rw[if_neg c]
     exact⟨λy=>y.2,λy=>⟨c,y⟩⟩
   ·show((x.di++ [(r,_)]).length:Int)=x.now+1+x.ma
    rw[Qg,QW]
    omega
   ·show((x.st.drop k).kv.length:Int)≤x.now+1
    rw[ek]
    have:(bp x.st.kv k).length≤x.st.kv.length:=QC _ _
    omega
   ·exact λb o n e=>(g4.trans g5) b o (λz=>n ((g b).mpr z)) e
  ·obtain⟨B1,g1⟩:=B.slots S1 f1
   exact qx hn ea od H1 (HoF a wr p h Fs1 Fl x.pa) ex ⟨s,l,wr,p,h,Fs1,Fl,B1,O,λ_=>Iff.rfl⟩ λb o n e=>g1 b o (λz=>n ((g b).mpr z)) e
def qb (K:PySem.W.Frag) (t:Adr):Sp:=λvs H Q E=>∃(a:Addr) (k:Int) (F:Addr→Prop) (x:HSt),vs=[.ref a,.int k]∧HoA K t H a F x∧0≤k∧(∀v,aI x.st.kv k=some v→∀H' F',HoA K t H' a F' x→Fr F F' H H'→Q v H')∧(aI x.st.kv k=none→RsH K t a F x H t.bP [("key",.int k)] E)
theorem fH (T:Txt K mg t):aX P w K mg base (CX1 P w) 5 t.lB t.g7 ["self","key"] (qb K t):=by
 have Gr:= @jc P w K mg base t T
 refine T.B9.okX qi (λvs H Q E h=>?_) (λcdv A outer s H vs Q E hr h=>?_)
 ·obtain⟨a,k,F,x,rfl,_⟩:=h
  rfl
 ·obtain⟨a,k,F,x,rfl,A,k0,q,qx⟩:=h
  refine⟨_,(ah (aH (aN (av (pv 0) rfl) T.aq T.Bz Gr (hr.mono (by decide)) T.BU .nil Cq (aa (pv 1) ag))))
   ,?_⟩
  obtain⟨s,l,wr,p,h,Fs,Fl,B,O,g⟩:=A
  obtain⟨dx,ho⟩:=B.o.ob
  obtain⟨ds,fs,hs,hm⟩:=B.sl.ins
  refine⟨_,rfl,a,_,dx,_,_,rfl,ho,T.ar,T.aV,jV,s,ds,fs,rfl,hs,hm _ (by decide+kernel),_,rfl,s,k,Fs,x.st,rfl,B.sl,k0,λv ev H1 Fs1 S1 f1=>?_,λhn ea od H1 Fs1 ex S1 f1=>?_⟩
  ·obtain⟨B1,g1⟩:=B.slots S1 f1
   exact q v ev H1 (HoF a wr p h Fs1 Fl x.pa) ⟨s,l,wr,p,h,Fs1,Fl,B1,O,λ_=>Iff.rfl⟩ λb o n e=>g1 b o (λz=>n ((g b).mpr z)) e
  ·obtain⟨B1,g1⟩:=B.slots S1 f1
   exact qx hn ea od H1 (HoF a wr p h Fs1 Fl x.pa) ex ⟨s,l,wr,p,h,Fs1,Fl,B1,O,λ_=>Iff.rfl⟩ λb o n e=>g1 b o (λz=>n ((g b).mpr z)) e
def uI (ho:List (Int×V)) (m:Int):Int:=match aI ho m with
 |some (.int n)=>n
 |_=>0
def uy (ho:List (Int×V)) (m:Int):List (Int×V):=bg ho m (.int (uI ho m+1))
theorem HoO.held {H:Hp} {a s l w p h:Addr} {x:HSt} (A:HoO t H a s l w p h x) (ho':List (Int×V)):HoO t (upd H h (.dK (aE ho'))) a s l w p h {x with ho:=ho'}:=by
 obtain⟨dy,ho⟩:=A.ob
 have nt:∀{b:Addr} {o:HO},H b=some o→(∀ys,o≠ .dK ys)→b≠h:=λe i z=>by
  rw[z,A.ho]at e
  exact i _ (Option.some.inj e).symm
 refine⟨⟨dy,by rw[ac (nt ho λ_ z=>by cases z)];exact ho⟩,by rw[ac (nt A.wr λ_ z=>by cases z)];exact A.wr,λe he=>by rw[ac (nt (A.dr e he) λ_ z=>by cases z)];exact A.dr e he,by rw[ac A.ph];exact A.pa,af,λe he=>?_,A.ph,A.wl,A.kd,A.md,A.ld⟩
 have M:=A.mx e he
 obtain⟨dm,hm⟩:=M.ob
 exact M.keep (ac (nt hm λ_ z=>by cases z)) (ac (nt M.li λ_ z=>by cases z)) λb xs e=>by rw[ac (nt e λ_ z=>by cases z)];exact e
theorem BW {kv:List (Int×V)} {k:Int} {v:V} (h:aI kv k=some v):(k,v)∈kv:=by
 induction kv with
 |nil=>rw[gg]at h;cases h
 |cons p r ih=>
  by_cases e:p.1=k
  ·rw[aZ e]at h
   cases h
   rw[←e]
   exact Q8
  ·rw[aW e]at h
   exact Qa _ (ih h)
theorem zM {ho:List (Int×V)} {m:Int} (hv:∀p∈ho,∃n:Int,p.2= .int n∧0<n):(aI ho m=none∧uI ho m=0)∨(aI ho m=some (.int (uI ho m))∧0<uI ho m):=by
 unfold uI
 cases e:aI ho m with
 |none=>exact .inl ⟨rfl,rfl⟩
 |some v=>
  obtain⟨n,en,n0⟩:=hv _ (BW e)
  have en:v= .int n:=en
  subst en
  exact .inr ⟨rfl,n0⟩
theorem zd {ho:List (Int×V)} {m:Int} {v:V} {p:Int×V} (h:p∈bg ho m v):p∈ho∨p=(m,v):=by
 unfold bg at h
 split at h
 ·obtain⟨q,hq,rfl⟩:=Qb.mp h
  by_cases c:q.1=m
  ·rw[if_pos c,←c];exact .inr rfl
  ·rw[if_neg c];exact .inl hq
 ·rcases Q7.mp h with h|h
  ·exact .inl h
  ·exact .inr (Qd.mp h)
def nV (K:PySem.W.Frag) (t:Adr):Sp:=λvs H Q _=>∃(a:Addr) (F:Addr→Prop) (x:HSt),vs=[.ref a]∧HoA K t H a F x∧x.ho.length<50000∧
 ∀(H':Hp) (F':Addr→Prop),HoA K t H' a F' {x with ho:=uy x.ho x.now}→Fr F F' H H'→Q (.int x.now) H'
theorem oY (T:Txt K mg t):aX P w K mg base (CX1 P w) 6 t.jx t.fY ["self"] (nV K t):=by
 have G2:= @fH P w K mg base t T
 have Gr:= @jc P w K mg base t T
 refine T.AE.okX oy (λvs H Q E h=>?_) (λcdv A outer s H vs Q E hr h=>?_)
 ·obtain⟨a,F,x,rfl,_⟩:=h
  rfl
 ·obtain⟨a,F,x,rfl,A,l1,q⟩:=h
  refine⟨_,(ae (mV (gi hr) (av (pv 0) rfl) (av (pv 0) rfl) (aJ bJ (cM QG Xn PySem.F.type_dict_get (Bv (gi hr)) (av (pv 0) rfl) (aa (av (pv 0) rfl) (aa aj ag))) aj) rfl)
   (ah (aH (av (pv 0) rfl))))
   ,?_⟩
  obtain⟨s,l,wr,p,h,Fs,Fl,B,O,g⟩:=A
  obtain⟨dx,ho⟩:=B.o.ob
  have hv:∀p∈x.ho,∃n:Int,p.2= .int n∧0<n:=λp hp=>(O.hv p hp).2.2
  have c0:0≤uI x.ho x.now:=by rcases zM (m:=x.now) hv with⟨_,z⟩|⟨_,z⟩<;>omega
  refine⟨_,rfl,a,_,dx,_,_,rfl,ho,T.ar,T.cZ,vM,.inr (.inr (.inl ⟨rfl,.inl ⟨_,B.o.ho⟩⟩)),_,rfl,a,_,dx,_,_,rfl,ho,T.ar,T.aS,eQ,h,_,_,_,rfl,rfl,DGet.k (k:=Sum.inl x.now) B.o.ho,?_⟩
  rw[liftK_val]
  have eg:(aI x.ho x.now).getD (.int 0)= .int (uI x.ho x.now):=by
   rcases zM (m:=x.now) hv with⟨z,y⟩|⟨z,_⟩
   ·rw[z,y];rfl
   ·rw[z];rfl
  rw[eg]
  refine⟨_,_,rfl,rfl,_,rfl,a,_,dx,_,_,rfl,ho,T.ar,T.cZ,vM,_,rfl,a,_,dx,_,_,rfl,ho,T.ar,T.aS,eQ,h,_,rfl,DPut.k (k:=Sum.inl x.now) B.o.ho (by rw[bC];exact bq (by omega)),?_⟩
  rw[dL]
  have A1:=B.o.held (uy x.ho x.now)
  obtain⟨B1,f1⟩:=B.own (H':=upd H h (.dK (aE (uy x.ho x.now)))) A1 rfl rfl λb o n e=>⟨by rw[ac λz=>n (.inr (.inr (.inr (.inl z))))];exact e,n⟩
  obtain⟨dx1,ho1⟩:=A1.ob
  refine⟨_,rfl,a,_,dx1,_,_,rfl,ho1,T.ar,T.aS,eQ,q _ F ⟨s,l,wr,p,h,Fs,Fl,B1,⟨O.ks,O.n0,O.m0,O.dl,O.pl,O.el,O.sl,sL O.hn,λy hy=>?_,O.fb,O.up⟩,g⟩ λb o n e=>⟨(f1 b o (λz=>n ((g b).mpr z)) e).1,n⟩⟩
  rcases zd hy with hy|rfl
  ·exact O.hv y hy
  ·exact⟨O.fb.2,ZH _,_,rfl,by show 0<uI x.ho x.now+1;omega⟩
def nW (K:PySem.W.Frag) (t:Adr):Sp:=λvs H Q _=>∃(a:Addr) (F:Addr→Prop) (x:HSt),vs=[.ref a]∧HoA K t H a F x∧x.ho.length<64∧
 ∀(H':Hp) (l:Addr) (ms:List Int),Same H H'→H l=none→H' l=some (.lst (ms.map V.int))→ms.Perm (x.ho.map (·.1))→ms.Pairwise (· ≤ ·)→Q (.ref l) H'
theorem oZ (T:Txt K mg t):aX P w K mg base CX0 1 t.jy t.fZ ["self"] (nW K t):=by
 refine T.AF.ok oz (λvs H Q E h=>?_) (λcdv A outer s H vs Q E hr h=>?_)
 ·obtain⟨a,F,x,rfl,_⟩:=h
  rfl
 ·obtain⟨a,F,x,rfl,A,l1,q⟩:=h
  refine⟨_,(ah (aH (ax (kQ hr.hd) (by rfl) T.gd c8 (aa (av (pv 0) rfl) ag))))
   ,?_⟩
  obtain⟨s,l,wr,p,h,Fs,Fl,B,O,g⟩:=A
  obtain⟨dx,ho⟩:=B.o.ob
  exact⟨_,rfl,a,_,dx,_,_,rfl,ho,T.ar,T.cZ,vM,h,_,x.ho.map (·.1),rfl,.inl B.o.ho,lX,λl ms nl pm pw=>q _ l ms (ao nl) nl af pm pw⟩
def qa (K:PySem.W.Frag) (t:Adr):Sp:=λvs H Q _=>∃(a:Addr) (k:Int) (F:Addr→Prop) (x:HSt),vs=[.ref a,.int k]∧HoA K t H a F x∧0≤k∧∀H' F',HoA K t H' a F' x→Fr F F' H H'→Q (.bl (aI x.st.kv k).isSome) H'
theorem qq (T:Txt K mg t):aX P w K mg base CX0 5 t.lu t.gZ ["self","key"] (qa K t):=by
 have Gs:= @fG P w K mg base t T
 refine T.B8.ok qh (λvs H Q E h=>?_) (λcdv A outer s H vs Q E hr h=>?_)
 ·obtain⟨a,k,F,x,rfl,_⟩:=h
  rfl
 ·obtain⟨a,k,F,x,rfl,A,k0,q⟩:=h
  refine⟨_,(ah (aH (aN (av (pv 0) rfl) T.aq T.kG Gs (hr.mono (by decide)) T.kR .nil az (aa (pv 1) ag))))
   ,?_⟩
  obtain⟨s,l,wr,p,h,Fs,Fl,B,O,g⟩:=A
  obtain⟨dx,ho⟩:=B.o.ob
  obtain⟨ds,fs,hs,hm⟩:=B.sl.ins
  refine⟨_,rfl,a,_,dx,_,_,rfl,ho,T.ar,T.aV,jV,s,ds,fs,rfl,hs,hm _ (by decide+kernel),_,rfl,s,k,Fs,x.st,rfl,B.sl,k0,λH1 Fs1 S1 f1=>?_⟩
  obtain⟨B1,g1⟩:=B.slots S1 f1
  exact q H1 (HoF a wr p h Fs1 Fl x.pa) ⟨s,l,wr,p,h,Fs1,Fl,B1,O,λ_=>Iff.rfl⟩ λb o n e=>g1 b o (λz=>n ((g b).mpr z)) e
theorem xw {α:Type} {l:List α} {i:Nat} {y:α} (h:l.Nodup) (n:y∉l):(l.set i y).Nodup:=by
 induction l generalizing i with
 |nil=>exact h
 |cons x r ih=>
  obtain⟨h1,h2⟩:=QE.mp h
  cases i with
  |zero=>exact QE.mpr ⟨λz=>n (Qa _ z),h2⟩
  |succ i=>
   refine QE.mpr ⟨λz=>?_,ih h2 λz=>n (Qa _ z)⟩
   rcases Zo z with z|z
   ·exact h1 z
   ·exact n (by rw[z];exact Q8)
theorem yZ {α:Type} {l:List α} {i j:Nat} {x:α} (h:l.Nodup) (e1:l[i]?=some x) (e2:l[j]?=some x):i=j:=by
 obtain⟨h1,e1⟩:=Q4.mp e1
 obtain⟨h2,e2⟩:=Q4.mp e2
 rcases(show i<j∨i=j∨j<i by omega)with c|c|c
 ·exact absurd (e1.trans e2.symm) (Z5.mp h i j h1 h2 c)
 ·exact c
 ·exact absurd (e2.trans e1.symm) (Z5.mp h j i h2 h1 c)
theorem jS {α β:Type} {f:α→β} {l:List α} {i:Nat} {x y:α} (e:l[i]?=some x) (h:f y=f x):(l.set i y).map f=l.map f:=by
 induction l generalizing i with
 |nil=>rfl
 |cons z r ih=>
  cases i with
  |zero=>cases e;show f y::_=f x::_;rw[h]
  |succ i=>show f z::(r.set i y).map f=f z::_;rw[ih e]
theorem HoO.swept {H H':Hp} {a s l w p h l':Addr} {x:HSt} {i:Nat} {e:Pk} {es':List Mk1} (A:HoO t H a s l w p h x) (he:x.pa[i]?=some e) (M:MkA t H' e.m l' es') (nl:¬Ow a w p h x.pa l') (kp:∀b o,b≠e.m→H b=some o→H' b=some o):
  HoO t H' a s l w p h {x with pa:=x.pa.set i {e with l:=l',es:=es'}}:=by
 obtain⟨dy,ho⟩:=A.ob
 have hm:=Q3 he
 obtain⟨dm,hmm⟩:=(A.mx e hm).ob
 have nt:∀{b:Addr} {o:HO},H b=some o→(∀c d fs,o= .ins c d fs→fs.length≠1)→H' b=some o:=λeb i=>kp _ _ (λz=>by
  rw[z,hmm]at eb
  exact i _ _ _ (Option.some.inj eb).symm rfl) eb
 have n0:∀{b:Addr} {o:HO},H b=some o→(∀c d fs,o≠ .ins c d fs)→H' b=some o:=λeb i=>nt eb λc d fs z=>absurd z (i c d fs)
 have tp:∀b xs,H b=some (.tup xs)→H' b=some (.tup xs):=λb xs eb=>n0 eb (λ_ _ _ z=>by cases z)
 refine⟨⟨dy,nt ho (λc d fs z=>by cases z;exact(by decide:(8:Nat)≠1))⟩,n0 A.wr (λ_ _ _ z=>by cases z),λe he=>tp _ _ (A.dr e he),?_,n0 A.ho (λ_ _ _ z=>by cases z),λf hf=>?_,A.ph,λf hf=>?_,?_,?_,?_⟩
 ·show H' p=some (.dK (aE (paD (x.pa.set i {e with l:=l',es:=es'}))))
  unfold paD
  rw[jS (y:={e with l:=l',es:=es'}) he rfl]
  exact n0 A.pa (λ_ _ _ z=>by cases z)
 ·obtain⟨j,ej⟩:=List.getElem?_of_mem hf
  rw[Qx]at ej
  split at ej
  ·split at ej
   ·cases ej;exact M
   ·cases ej
  ·rename_i c
   have hf:=Q3 ej
   have M2:=A.mx f hf
   obtain⟨dm2,hm2⟩:=M2.ob
   have nm:f.m≠e.m:=λz=>c (by
    have h1:=(Q4.mp ej).1
    have h2:=(Q4.mp he).1
    have e1:(x.pa.map (·.m))[j]?=some f.m:=by rw[Ql,ej];rfl
    have e2:(x.pa.map (·.m))[i]?=some e.m:=by rw[Ql,he];rfl
    rw[←z]at e2
    exact yZ A.md e2 e1)
   exact M2.keep ((kp _ _ nm hm2).trans hm2.symm) ((n0 M2.li (λ_ _ _ z=>by cases z)).trans M2.li.symm) tp
 ·rcases Zo hf with hf|hf
  ·exact A.wl f hf
  ·rw[hf]
   exact λz=>nl (.inr (.inl z))
 ·show((x.pa.set i {e with l:=l',es:=es'}).map (·.k)).Nodup
  rw[jS (y:={e with l:=l',es:=es'}) he rfl]
  exact A.kd
 ·show((x.pa.set i {e with l:=l',es:=es'}).map (·.m)).Nodup
  rw[jS (y:={e with l:=l',es:=es'}) he rfl]
  exact A.md
 ·show((x.pa.set i {e with l:=l',es:=es'}).map (·.l)).Nodup
  rw[XG]
  refine xw A.ld λz=>?_
  obtain⟨g,hg,eg⟩:=Qb.mp z
  exact nl (.inr (.inr (.inr (.inr ⟨g,hg,.inr eg.symm⟩))))
structure SwO (fl:Int) (i:Nat) (pa pa':List Pk):Prop where
 ln:pa'.length=pa.length
 lo:∀(j:Nat) (e e':Pk),pa[j]?=some e→pa'[j]?=some e'→e'.k=e.k∧e'.m=e.m∧(j<i→e'.es=swE fl e.es)∧(i≤j→e'=e)
def thr (fl:Int) (pa:List Pk):Int:=(pa.map λe=>(e.es.length:Int)-((swE fl e.es).length:Int)).sum
theorem SwO.mkOf:∀{pa pa':List Pk} {fl k:Int},SwO fl pa.length pa pa'→mkOf pa' k=swE fl (mkOf pa k)
 | [],[],_,_,_=>rfl
 | [],_::_,_,_,S=>by have:=S.ln;cases this
 |_::_,[],_,_,S=>by have:=S.ln;cases this
 |e::r,e'::r',fl,k,S=>by
  obtain⟨h1,_,h3,_⟩:=S.lo 0 e e' rfl rfl
  show(if e'.k=k then e'.es else SW.mkOf r' k)=swE fl (if e.k=k then e.es else SW.mkOf r k)
  rw[h1,h3 (by rw[Qf];omega)]
  have S':SwO fl r.length r r':=⟨by have:=S.ln;rw[Qf,Qf]at this;omega,λj f f' ef ef'=>by
   obtain⟨g1,g2,g3,g4⟩:=S.lo (j+1) f f' (by rw[Zb];exact ef) (by rw[Zb];exact ef')
   rw[Qf]at g3 g4
   exact⟨g1,g2,λz=>g3 (by omega),λz=>g4 (by omega)⟩⟩
  split
  ·rfl
  ·exact S'.mkOf
theorem yr {fl:Int} {pa:List Pk} {i:Nat} {e:Pk} (h:pa[i]?=some e):thr fl (pa.take (i+1))=thr fl (pa.take i)+((e.es.length:Int)-((swE fl e.es).length:Int)):=by
 unfold thr
 rw[QA,h,Qk,List.sum_append]
 show _+(((e.es.length:Int)-((swE fl e.es).length:Int))+0)=_
 omega
def mM (K:PySem.W.Frag) (t:Adr):Sp:=λvs H Q _=>∃(a:Addr) (F:Addr→Prop) (x:HSt),vs=[.ref a]∧HoA K t H a F x∧x.ho.length<64∧x.now<40000∧
 ∀(H':Hp) (F':Addr→Prop) (fl:Int) (pa':List Pk),(x.ho=[]→fl=x.now)→(x.ho≠[]→fl∈x.ho.map (·.1))→(∀p∈x.ho,fl≤p.1)→SwO fl x.pa.length x.pa pa'→HoA K t H' a F' {x with fl:=fl,pa:=pa'}→Fr F F' H H'→Q (.int (thr fl x.pa)) H'
theorem mS (T:Txt K mg t):aX P w K mg base CX0 2 t.iO t.eC ["self"] (mM K t):=by
 have G4:= @oZ P w K mg base t T
 have Gk:= @mQ P w K mg base t T
 refine T.z8.ok sc_House__sweep (λvs H Q E h=>?_) (λcdv A outer s H vs Q E hr h=>?_)
 ·obtain⟨a,F,x,rfl,_⟩:=h
  rfl
 ·obtain⟨a,F,x,rfl,A,l1,l2,q⟩:=h
  refine⟨_,(ae (bY (pv 0) (Bn K rfl rfl (by rfl) T.vW (a8 (pv 0) T.ar T.Ag G4 (hr.mono (by decide)) T.Ap .nil az) (av (pv 0) rfl)) rfl)
   (ae (aF (i:=1) sc_House__sweep.nd rfl (Or.inl rfl) aj)
   (ae (sE (fE PassesOwn.never rfl (Bj (lM QG PySem.F.slot_dict_values PySem.F.type_dict_values xz (av (pv 0) rfl))) (bN (i:=2) sc_House__sweep.nd rfl (Or.inl rfl))
   (ah (yP (i:=1) sc_House__sweep.nd rfl (Or.inl rfl) (aN (pv 2) T.eD T.ze Gk (hr.mono (by decide)) T.zO .nil az (aa (av (pv 0) rfl) ag)) zn))))
   (ah (aH (pv 1))))))
   ,?_⟩
  have A0:=A
  obtain⟨s,l,wr,p,h,Fs,Fl,B,O,g⟩:=A
  obtain⟨dx,ho⟩:=B.o.ob
  (try dsimp only)
  refine eK (λσ H1=>∃fl:Int,σ=[some (.ref a),none,none]∧(x.ho=[]→fl=x.now)∧(x.ho≠[]→fl∈x.ho.map (·.1))∧(∀p∈x.ho,fl≤p.1)∧HoO t H1 a s l wr p h {x with fl:=fl}∧∀b o,¬Ow a wr p h x.pa b→H b=some o→H1 b=some o) (λnx go=>?_) (λσ H1 w=>?_)
  ·refine⟨_,rfl,a,dx,_,rfl,ho,wF (by decide+kernel),a,F,x,rfl,A0,l1,λH1 lm ms s1 nl el pm pw=>?_⟩
   have A1:=B.o.same s1
   obtain⟨dx1,ho1⟩:=A1.ob
   have fin:∀fl:Int,(x.ho=[]→fl=x.now)→(x.ho≠[]→fl∈x.ho.map (·.1))→(∀p∈x.ho,fl≤p.1)→nx [some (.ref a),none,none] (upd H1 a (.ins t.aB dx1 (aY ("floor":Str) (.int fl) (hoF x.now x.fl s l wr x.ma p h)))):=λfl c1 c2 c3=>by
    rw[C4]
    exact go _ _ ⟨fl,rfl,c1,c2,c3,A1.set (now:=x.now) (mk:=x.ma) (fl:=fl) (dx:=dx1),λb o n e=>by rw[ac λz=>n (.inl z)];exact s1 _ _ e⟩
   refine⟨_,rfl,a,_,dx1,_,_,rfl,ho1,T.ar,T.aS,eQ,lm,ms,rfl,SqL.of el,λe0=>?_,λM hM hle=>?_⟩
   ·have hn:x.ho=[]:=by
     have:=pm.length_eq
     rw[e0,Q0]at this
     exact Zx.mp this.symm
    exact⟨_,rfl,a,_,dx1,_,rfl,ho1,T.ar,T.dY,sW,fin x.now (λ_=>rfl) (λz=>absurd hn z) (λp hp=>by rw[hn]at hp;cases hp)⟩
   ·exact⟨_,rfl,a,_,dx1,_,rfl,ho1,T.ar,T.dY,sW,fin M (λz=>by rw[z]at pm;rw[pm.eq_nil]at hM;cases hM) (λ_=>pm.mem_iff.mp hM) (λp hp=>hle _ (pm.mem_iff.mpr (Qb.mpr ⟨p,hp,rfl⟩)))⟩
  obtain⟨fl,rfl,c1,c2,c3,A1,k1⟩:=w
  obtain⟨dx1,ho1⟩:=A1.ob
  refine⟨p,_,A1.pa,_,rfl,a,_,dx1,_,_,rfl,ho1,T.ar,T.jd,zp,.inr (.inr (.inl ⟨rfl,.inl ⟨_,A1.pa⟩⟩)),p,_,rfl,rfl,A1.pa,λvw nv=>⟨vw,p,_,rfl,af,ao nv _ _ A1.pa,λob=>?_⟩⟩
  have A2:=A1.same (ao (o:=vwV vw p) nv)
  have k2:∀b o,¬Ow a wr p h x.pa b→H b=some o→upd H1 vw (vwV vw p) b=some o:=λb o n e=>ao nv _ _ (k1 b o n e)
  generalize upd H1 vw (vwV vw p)=H2 at A2 k2⊢
  refine zB (ob:=ob) (d:=p) (kvs:=aE (paD x.pa)) (λi σ H'=>∃(v2:Option V) (pa':List Pk),σ=[some (.ref a),some (.int (thr fl (x.pa.take i))),v2]∧H' p=some (.frz ob (.dK (aE (paD x.pa))))∧HoO t (upd H' p (.dK (aE (paD x.pa)))) a s l wr p h {x with fl:=fl,pa:=pa'}∧SwO fl i x.pa pa'∧∀b o,¬Ow a wr p h x.pa b→H b=some o→H' b=some o∧¬Ow a wr p h pa' b)
   ⟨_,x.pa,rfl,af,?_,⟨rfl,λj e e' h1 h2=>?_⟩,λb o n e=>⟨?_,n⟩⟩ (λi σ H' _ w=>by obtain⟨_,_,_,e,_⟩:=w;exact e) (λi k v σ H' hk w=>?_) (λσ H' w=>?_)
  ·rw[cz,ni A2.pa]
   exact A2
  ·rw[h1]at h2
   cases h2
   exact⟨rfl,rfl,(λz=>by omega),λ_=>rfl⟩
  ·rw[ac λz=>n (.inr (.inr (.inl z)))]
   exact k2 b o n e
  ·obtain⟨v2,pa',rfl,hp,A3,S,k3⟩:=w
   obtain⟨e,ee,rfl⟩:∃e:Pk,x.pa[i]?=some e∧v= .ref e.m:=by
    unfold aE paD at hk
    rw[Ql,Ql]at hk
    cases e1:x.pa[i]? with
    |none=>rw[e1]at hk;cases hk
    |some e'=>rw[e1]at hk;cases hk;exact⟨e',rfl,rfl⟩
   have hi:=(Q4.mp ee).1
   have ee':pa'[i]?=some e:=by
    obtain⟨y,ey⟩:∃y,pa'[i]?=some y:=⟨_,Q5 (by have:=S.ln;omega)⟩
    rw[ey,((S.lo i e y ee ey).2.2.2 (Q6 _))]
   have M3:=A3.mx e (Q3 ee')
   obtain⟨dm,hm⟩:=M3.ob
   have np:∀{b:Addr} {o:HO},upd H' p (.dK (aE (paD x.pa))) b=some o→(∀kvs,o≠ .dK kvs)→H' b=some o∧b≠p:=λ{b o} e n=>by
    by_cases c:b=p
    ·rw[c,af]at e
     exact absurd (Option.some.inj e).symm (n _)
    ·rw[ac c]at e
     exact⟨e,c⟩
   have M4:MkA t H' e.m e.l e.es:=⟨⟨dm,(np hm (λ_ z=>by cases z)).1⟩,(np M3.li (λ_ z=>by cases z)).1,λy hy=>(np (M3.tu y hy) (λ_ z=>by cases z)).1⟩
   obtain⟨dx3,ho3⟩:=A3.ob
   have le:e.es.length<50000:=by
    have h1:=O.el e.k
    have h2:mkOf x.pa e.k=e.es:=by
     rcases sI x.pa e.k with⟨_,z⟩|⟨e',he',ek',_,em⟩
     ·exact absurd (Qb.mpr ⟨e,Q3 ee,rfl⟩) z
     ·rw[em,vx B.o.kd he' (Q3 ee) ek']
    rw[h2]at h1
    omega
   refine⟨_,rfl,_,rfl,e.m,dm,_,rfl,(np hm (λ_ z=>by cases z)).1,bf (by decide+kernel),_,rfl,a,_,dx3,_,_,rfl,(np ho3 (λ_ z=>by cases z)).1,T.ar,T.dY,zq,e.m,e.l,e.es,fl,rfl,M4,le,λH5 l5 M5 n5 k5=>⟨_,_,rfl,rfl,?_⟩⟩
   have pm:p≠e.m:=(np hm (λ_ z=>by cases z)).2.symm
   have hp5:=k5 _ _ pm hp
   have np5:∀{b:Addr} {o:HO} {u:HO},H5 b=some o→(∀ob kv,o≠ .frz ob kv)→upd H5 p u b=some o:=λ{b o u} e n=>by
    rw[ac λz=>by rw[z,hp5]at e;exact n _ _ (Option.some.inj e).symm]
    exact e
   have l5p:l5≠p:=λz=>by rw[z,hp]at n5;cases n5
   have nl:¬Ow a wr p h pa' l5:=λz=>by
    obtain⟨o,eo,_⟩:=A3.dom z
    rw[ac l5p,n5]at eo
    cases eo
   have kp:∀b o,b≠e.m→upd H' p (.dK (aE (paD x.pa))) b=some o→upd H5 p (.dK (aE (paD x.pa))) b=some o:=λb o n eb=>by
    by_cases c:b=p
    ·rw[c,af]at eb⊢
     exact eb
    ·rw[ac c]at eb⊢
     exact k5 b o n eb
   have A6:=A3.swept (es':=swE fl e.es) ee' ⟨M5.ob.imp λ_ z=>np5 z (λ_ _ z=>by cases z),np5 M5.li (λ_ _ z=>by cases z),λy hy=>np5 (M5.tu y hy) (λ_ _ z=>by cases z)⟩ nl kp
   refine⟨some (.ref e.m),pa'.set i {e with l:=l5,es:=swE fl e.es},?_,hp5,A6,⟨by rw[QF];exact S.ln,λj f f' ef ef'=>?_⟩,λb o n eb=>⟨?_,λz=>?_⟩⟩
   ·rw[yr ee]
    rfl
   ·rw[Qx]at ef'
    split at ef'
    ·rename_i cij
     subst cij
     split at ef'
     ·cases ef'
      rw[ee]at ef
      cases ef
      exact⟨rfl,rfl,λ_=>rfl,λz=>by omega⟩
     ·cases ef'
    ·rename_i cij
     obtain⟨g1,g2,g3,g4⟩:=S.lo j f f' ef ef'
     exact⟨g1,g2,λz=>g3 (by omega),λz=>g4 (by omega)⟩
   ·refine k5 b o (λz=>n ?_) (k3 b o n eb).1
    exact .inr (.inr (.inr (.inr ⟨e,Q3 ee,.inl z⟩)))
   ·rcases z with z|z|z|z|⟨f,hf,z⟩
    ·exact n (.inl z)
    ·exact n (.inr (.inl z))
    ·exact n (.inr (.inr (.inl z)))
    ·exact n (.inr (.inr (.inr (.inl z))))
    ·rcases Zo hf with hf|hf
     ·exact(k3 b o n eb).2 (.inr (.inr (.inr (.inr ⟨f,hf,z⟩))))
     ·rw[hf]at z
      rcases z with z|z
      ·exact n (.inr (.inr (.inr (.inr ⟨e,Q3 ee,.inl z⟩))))
      ·have:=(k3 b o n eb).1
       rw[z,n5]at this
       cases this
  ·obtain⟨v2,pa',rfl,hp,A3,S,k3⟩:=w
   have ll:(aE (paD x.pa)).length=x.pa.length:=by rw[bC];unfold paD;exact Q0 _
   rw[ll]at S
   rw[ll,QO]
   refine⟨ob,hp,_,rfl,?_⟩
   obtain⟨B3,g3⟩:=B.own A3 rfl rfl λb o n eb=>⟨by rw[ac λz=>n (.inr (.inr (.inl z)))];exact(k3 b o n eb).1,(k3 b o n eb).2⟩
   refine q _ (HoF a wr p h Fs Fl pa') fl pa' c1 c2 c3 S ⟨s,l,wr,p,h,Fs,Fl,B3,⟨O.ks,O.n0,O.m0,O.dl,?_,λj=>?_,O.sl,O.hn,λy hy=>⟨c3 y hy,(O.hv y hy).2⟩,?_,λj=>?_⟩,λ_=>Iff.rfl⟩ λb o n eb=>g3 b o (λz=>n ((g b).mpr z)) eb
   ·show(pa'.length:Int)≤x.now
    rw[S.ln]
    exact O.pl
   ·show((mkOf pa' j).length:Int)≤x.now
    rw[S.mkOf]
    have h1:=O.el j
    have h2:=AS (fl:=fl) (es:=mkOf x.pa j)
    omega
   ·show 0≤fl∧fl≤x.now
    have n0:=O.n0
    have fb:=O.fb
    cases eh:x.ho with
    |nil=>rw[c1 eh];omega
    |cons y r=>
     have hm:=c2 (by rw[eh];exact List.cons_ne_nil _ _)
     obtain⟨z,hz,ez⟩:=Qb.mp hm
     have:=O.hv z hz
     omega
   ·show(mkOf pa' j).Pairwise _∧∀y∈mkOf pa' j,y.mo≤x.now
    rw[S.mkOf]
    exact⟨CU (O.up j).1,λy hy=>(O.up j).2 y (wa hy)⟩
def nS (K:PySem.W.Frag) (t:Adr):Sp:=λvs H Q _=>∃(a:Addr) (F:Addr→Prop) (x:HSt),vs=[.ref a]∧HoA K t H a F x∧∀H' F',HoA K t H' a F' x→Fr F F' H H'→Q (.int x.st.kv.length) H'
theorem iz (T:Txt K mg t):aX P w K mg base CX0 2 t.jv t.fW ["self"] (nS K t):=by
 have Gw:= @oS P w K mg base t T
 refine T.AC.ok ou (λvs H Q E h=>?_) (λcdv A outer s H vs Q E hr h=>?_)
 ·obtain⟨a,F,x,rfl,_⟩:=h
  rfl
 ·obtain⟨a,F,x,rfl,A,q⟩:=h
  refine⟨_,(ah (aH (a8 (av (pv 0) rfl) T.aq T.Ac Gw (hr.mono (by decide)) T.Aj .nil az)))
   ,?_⟩
  obtain⟨s,l,wr,p,h,Fs,Fl,B,O,g⟩:=A
  obtain⟨dx,ho⟩:=B.o.ob
  obtain⟨ds,fs,hs,hm⟩:=B.sl.ins
  refine⟨_,rfl,a,_,dx,_,_,rfl,ho,T.ar,T.aV,jV,s,ds,fs,rfl,hs,hm _ (by decide+kernel),s,Fs,x.st,rfl,B.sl,λH1 Fs1 S1 f1=>?_⟩
  obtain⟨B1,g1⟩:=B.slots S1 f1
  exact q H1 (HoF a wr p h Fs1 Fl x.pa) ⟨s,l,wr,p,h,Fs1,Fl,B1,O,λ_=>Iff.rfl⟩ λb o n e=>g1 b o (λz=>n ((g b).mpr z)) e
theorem eY {α:Type} {R:α→α→Prop} (asym:∀a b,R a b→¬R b a):∀{l m:List α},l.Pairwise R→m.Pairwise R→(∀x,x∈l↔x∈m)→l=m:=by
 intro l
 induction l with
 |nil=>
  intro m _ _ h
  cases m with
  |nil=>rfl
  |cons b m=>exact absurd ((h b).mpr Q8) QU
 |cons a l ih=>
  intro m hl hm h
  cases m with
  |nil=>exact absurd ((h a).mp Q8) QU
  |cons b m=>
   rw[Z7]at hl hm
   have ab:a=b:=by
    rcases Qe.mp ((h a).mp Q8)with e|e
    ·exact e
    ·rcases Qe.mp ((h b).mpr Q8)with f|f
     ·exact f.symm
     ·exact absurd (hl.1 b f) (asym _ _ (hm.1 a e))
   subst ab
   rw[ih hl.2 hm.2 λx=>?_]
   constructor
   ·intro hx
    rcases Qe.mp ((h x).mp (Qa _ hx))with e|e
    ·subst e;exact absurd (hl.1 x hx) (asym _ _ (hl.1 x hx))
    ·exact e
   ·intro hx
    rcases Qe.mp ((h x).mpr (Qa _ hx))with e|e
    ·subst e;exact absurd (hm.1 x hx) (asym _ _ (hm.1 x hx))
    ·exact e
def En.val (e:En):Nat×Nat×Int×List Int:=(e.ri,e.j,e.sz,e.ks)
def vLt (x y:Nat×Nat×Int×List Int):Prop:=x.1<y.1∨(x.1=y.1∧x.2.1<y.2.1)
structure CellsOf (st:SSt) (es:List En):Prop where
 good:∀e∈es,uO st e
 up:es.Pairwise zI
 all:∀z,z∈st.kv.map (·.1)↔∃e∈es,z∈e.ks
section
variable {st:SSt} {es fs:List En}
theorem CellsOf.one (c:CellsOf st es) {e f:En} (he:e∈es) (hf:f∈es) (h1:e.ri=f.ri) (h2:e.j=f.j):e=f:=by
 by_cases z:e=f
 ·exact z
 ·have up:=c.up
  rcases Z5.mp up with w
  obtain⟨i,hi,rfl⟩:=QD he
  obtain⟨j,hj,rfl⟩:=QD hf
  rcases Nat.lt_trichotomy i j with lt|eq|lt
  ·have:=w i j hi hj lt
   unfold zI at this
   omega
  ·subst eq;rfl
  ·have:=w j i hj hi lt
   unfold zI at this
   omega
theorem rB {e f:En} (ge:uO st e) (gf:uO st f) {z y:Int} (hz:z∈e.ks) (hy:y∈f.ks) (h1:∀s:Int,st.rows[e.ri]?=some s→z%65536%s=y%65536%s) (h2:st.rows.length=2→(z%65536%st.size<st.moved↔y%65536%st.size<st.moved)):e.ri=f.ri∧e.sz=f.sz∧e.j=f.j:=by
 have l2:st.rows.length=1∨st.rows.length=2:=by
  unfold SSt.rows
  cases st.nxt<;>simp
 have r1:=(Q4.mp ge.row).1
 have r2:=(Q4.mp gf.row).1
 have ri:e.ri=f.ri:=by
  rcases l2 with l2|l2
  ·omega
  ·have a:=ge.mv l2 z hz
   have b:=gf.mv l2 y hy
   have c:=h2 l2
   by_cases q:z%65536%st.size<st.moved
   ·have:=a.mp q
    have:=b.mp (c.mp q)
    omega
   ·have:¬e.ri=1:=λw=>q (a.mpr w)
    have:¬f.ri=1:=λw=>q (c.mpr (b.mpr w))
    omega
 have sz:e.sz=f.sz:=by
  have:=ge.row
  rw[ri,gf.row]at this
  injection this with this
  exact this.symm
 refine⟨ri,sz,?_⟩
 have a:=ge.at_ z hz
 have b:=gf.at_ y hy
 have c:=h1 e.sz ge.row
 rw[sz]at a c
 omega
theorem CellsOf.has (c:CellsOf st es) (d:CellsOf st fs) {e:En} (he:e∈es):∃f∈fs,f.val=e.val:=by
 have ge:=c.good e he
 obtain⟨z,hz⟩:=X8 _ ge.ne
 have key:∀y∈e.ks,∃f∈fs,y∈f.ks∧f.ri=e.ri∧f.sz=e.sz∧f.j=e.j:=λy hy=>by
  obtain⟨f,hf,hyf⟩:=(d.all y).mp ((c.all y).mpr ⟨e,he,hy⟩)
  obtain⟨h1,h2,h3⟩:=rB ge (d.good f hf) hy hyf (λ_ _=>rfl) (λ_=>Iff.rfl)
  exact⟨f,hf,hyf,h1.symm,h2.symm,h3.symm⟩
 obtain⟨f,hf,hzf,k1,k2,k3⟩:=key z hz
 refine⟨f,hf,?_⟩
 have ks:f.ks=e.ks:=by
  refine eY (R:=(· < ·)) (λa b h=>by omega) (d.good f hf).up ge.up λy=>?_
  constructor
  ·intro hy
   obtain⟨g,hg,hyg⟩:=(c.all y).mp ((d.all y).mpr ⟨f,hf,hy⟩)
   obtain⟨h1,h2,h3⟩:=rB (c.good g hg) (d.good f hf) hyg hy (λ_ _=>rfl) (λ_=>Iff.rfl)
   have:=c.one hg he (by omega) (by omega)
   rw[←this]
   exact hyg
  ·intro hy
   obtain⟨g,hg,hyg,g1,g2,g3⟩:=key y hy
   have:=d.one hg hf (by omega) (by omega)
   rw[←this]
   exact hyg
 unfold En.val
 rw[k1,k2,k3,ks]
theorem tm (c:CellsOf st es) (d:CellsOf st fs):es.map En.val=fs.map En.val:=by
 refine eY (R:=vLt) (λa b h=>by unfold vLt at*;omega) (Qp.mpr c.up) (Qp.mpr d.up) λx=>?_
 constructor
 ·intro h
  obtain⟨e,he,rfl⟩:=Qb.mp h
  obtain⟨f,hf,ef⟩:=c.has d he
  exact Qb.mpr ⟨f,hf,ef⟩
 ·intro h
  obtain⟨e,he,rfl⟩:=Qb.mp h
  obtain⟨f,hf,ef⟩:=d.has c he
  exact Qb.mpr ⟨f,hf,ef⟩
end
def drw (c k:Int):Int:=((c+7919*k+1)*48271%2147483647)*(((c+7919*k+1)*48271%2147483647)/1009+69621)%2147483647
theorem Dv (c k:Int):0≤drw c k:=Qs _ (by decide)
def pZ:Sp:=λvs H Q _=>∃c k:Int,vs=[.int c,.int k]∧Q (.int (drw c k)) H
theorem dj (T:Txt K mg t):aX P w K mg base CX0 1 t.kX t.gS ["_law_cell","_law_k"] pZ:=by
 refine T.bi.ok sc__law_drawn (λvs H Q E h=>?_) (λcdv A outer s H vs Q E hr h=>?_)
 ·obtain⟨c,k,rfl,_⟩:=h
  rfl
 ·obtain⟨c,k,rfl,q⟩:=h
  refine⟨_,(ae (aF (i:=2) sc__law_drawn.nd rfl (Or.inl rfl) (aJ bB (aJ fF (aJ bJ (aJ bJ (pv 0) (aJ fF aj (pv 1))) aj) aj) aj))
   (ah (aH (aJ bB (aJ fF (pv 2) (aJ bJ (aJ gL (pv 2) aj) aj)) aj))))
   ,?_⟩
  have pM:(0:Int)<2147483647:=by decide
  have m0:∀z:Int,0≤z%2147483647∧z%2147483647<2147483647:=λz=>⟨Qs _ (by decide),Qv _ (by decide)⟩
  refine⟨_,rfl,_,rfl,_,_,rfl,rfl,.inl ⟨by decide,by decide⟩,_,_,rfl,rfl,_,_,rfl,rfl,_,_,rfl,rfl,.inr ⟨by decide,by decide⟩,_,_,rfl,rfl,pM,?_⟩
  unfold drw at q
  dsimp only
  generalize ((c+7919*k+1)*48271)=z0 at q⊢
  obtain⟨a0,a1⟩:=m0 z0
  generalize z0%2147483647=z1 at a0 a1 q⊢
  exact⟨_,rfl,_,rfl,_,_,rfl,rfl,⟨by decide,by decide⟩,_,_,rfl,rfl,_,_,rfl,rfl,.inl ⟨by omega,by omega⟩,_,_,rfl,rfl,pM,q⟩
def vlu (c:Int):Int:=if drw c 3%2=0 then drw c 4%7-3 else c*31%(2*10^(39:Int).toNat+1)-10^(39:Int).toNat
def pX:Sp:=λvs H Q _=>∃c:Int,vs=[.int c]∧Q (.int (vlu c)) H
theorem qk (T:Txt K mg t):aX P w K mg base CX0 2 t.kU t.gQ ["_law_cell"] pX:=by
 have J6:= @dj P w K mg base t T
 refine T.tJ.ok qd (λvs H Q E h=>?_) (λcdv A outer s H vs Q E hr h=>?_)
 ·obtain⟨c,rfl,_⟩:=h
  rfl
 ·obtain⟨c,rfl,q⟩:=h
  refine⟨_,(ae (bc (aC cW (aJ bB (aP J6 (hr.mono (by decide)) (by rfl) T.bv T.bi.kp T.bx .nil az (aa (pv 0) (aa aj ag))) aj) aj (aG _))
   (ah (aH (aJ oM (aJ bB (aP J6 (hr.mono (by decide)) (by rfl) T.bv T.bi.kp T.bx .nil az (aa (pv 0) (aa aj ag))) aj) aj)))
   aR)
   (ah (aH (aJ oM (aJ bB (aJ fF (pv 0) aj) (aJ bJ (aJ fF aj (aJ vp aj aj)) aj)) (aJ vp aj aj)))))
   ,?_⟩
  unfold vlu at q
  refine⟨_,rfl,c,3,rfl,_,_,rfl,rfl,(by show(0:Int)<2;decide),rfl,_,rfl,lZ (λz=>?_) (λz=>?_)⟩
  ·rw[if_pos (V.int.inj (of_decide_eq_true z))]at q
   exact⟨_,rfl,c,4,rfl,_,_,rfl,rfl,(by show(0:Int)<7;decide),_,_,rfl,rfl,q⟩
  ·rw[if_neg λy=>z (decide_eq_true (congrArg V.int y))]at q
   exact⟨_,rfl,_,_,rfl,rfl,.inr ⟨by decide,by decide⟩,_,_,rfl,rfl,⟨by decide,by decide,by decide⟩,_,_,rfl,rfl,.inl ⟨by decide,by decide⟩,_,_,rfl,rfl,_,_,rfl,rfl,(by show(0:Int)<2*10^(39:Int).toNat+1;decide),_,_,rfl,rfl,⟨by decide,by decide,by decide⟩,_,_,rfl,rfl,q⟩
def tU (K:PySem.W.Frag):Sp:=λvs H Q _=>∃c:Int,vs=[.int c]∧∀(H':Hp) (z:Int),Same H H'→0≤z→z<10^39→Q (.int z) H'
theorem mw (T:Txt K mg t):aX P w K mg base CX0 2 t.pT t.jZ ["_law_cell"] (tU K):=by
 have J6:= @dj P w K mg base t T
 refine T.pV.ok sc__law_key (λvs H Q E h=>?_) (λcdv A outer s H vs Q E hr h=>?_)
 ·obtain⟨c,rfl,_⟩:=h
  rfl
 ·obtain⟨c,rfl,q⟩:=h
  refine⟨_,(ae (aF (i:=1) sc__law_key.nd rfl (Or.inl rfl) (aP J6 (hr.mono (by decide)) (by rfl) T.bv T.bi.kp T.bx .nil az (aa (pv 0) (aa aj ag))))
   (ae (aF (i:=2) sc__law_key.nd rfl (Or.inl rfl) (aJ bB (aP J6 (hr.mono (by decide)) (by rfl) T.bv T.bi.kp T.bx .nil az (aa (pv 0) (aa aj ag))) aj))
   (ah (aH (br a7 (cu (aa (aJ bB (pv 1) aj) (aa (aJ bB (pv 1) aj) (aa (aJ bJ (aJ bB (pv 1) aj) (aJ fF aj (aJ bB (aJ gL (pv 1) aj) aj))) (aa (aJ bB (pv 0) (aJ vp aj aj)) ag))))) (pv 2) (λ_ _=>rfl))))))
   ,?_⟩
  have n0:=Dv c 1
  refine⟨_,rfl,c,1,rfl,?_⟩
  (try dsimp only)
  generalize drw c 1=n at n0⊢
  refine⟨_,rfl,c,2,rfl,_,_,rfl,rfl,(by show(0:Int)<4;decide),?_⟩
  (try dsimp only)
  have t39:(0:Int)<10^(39:Int).toNat:=by decide
  have t39e:(10:Int)^(39:Int).toNat=10^39:=rfl
  have a1:=Qs n (show(10:Int)≠0 by decide)
  have a2:=Qv n (show(0:Int)<10 by decide)
  have b1:=Qs n (show(60:Int)≠0 by decide)
  have b2:=Qv n (show(0:Int)<60 by decide)
  have c1:=Qs n (show(6:Int)≠0 by decide)
  have c2:=Qv n (show(0:Int)<6 by decide)
  have d1:=Qs (n/6) (show(5:Int)≠0 by decide)
  have d2:=Qv (n/6) (show(0:Int)<5 by decide)
  have e1:=Qs c (Z3 t39)
  have e2:=Qv c t39
  rw[t39e]at e2
  obtain⟨z,hz,z0,z1⟩:=D9 (c:=drw c 2) (n:=4) (L:=[.int (n%10),.int (n%60),.int (n%6+65536*(n/6%5)),.int (c%10^(39:Int).toNat)]) (P:=λm=>0≤m∧m<10^39) ⟨⟨a1,by omega⟩,⟨b1,by omega⟩,⟨by omega,by omega⟩,⟨e1,e2⟩,trivial⟩ rfl (by decide)
  refine⟨_,rfl,_,_,rfl,rfl,(by show(0:Int)<10;decide),_,rfl,_,_,rfl,rfl,(by show(0:Int)<60;decide),_,rfl,_,_,rfl,rfl,(by show(0:Int)<6;decide),_,rfl,_,_,rfl,rfl,⟨by decide,by decide⟩,_,_,rfl,rfl,(by show(0:Int)<5;decide),_,_,rfl,rfl,.inl ⟨by decide,by decide⟩,_,_,rfl,rfl,_,rfl,_,_,rfl,rfl,⟨by decide,by decide,by decide⟩,_,_,rfl,rfl,t39,(by show 4≤sizeLine;decide),λp np=>?_⟩
  exact⟨_,rfl,p,_,_,_,rfl,rfl,SqL.of af,hz,q _ z (ao np) z0 z1⟩
def nD (K:PySem.W.Frag) (t:Adr):Sp:=λvs H Q _=>∃(a:Addr) (k:Int) (wd:Str) (F:Addr→Prop) (x:HSt),vs=[.ref a,.int k,.str wd]∧(wd="get"∨wd="drop")∧HoA K t H a F x∧0≤k∧x.now+x.ma<4000∧aI x.st.kv k=none∧∀H' F',HoA K t H' a F' x→Fr F F' H H'→Q (.bl true) H'
theorem io (T:Txt K mg t):aX P w K mg base CX0 7 t.ji t.fJ ["_law_house","_law_key_here","_law_word"] (nD K t):=by
 have G1:= @iA P w K mg base t T
 have G2:= @fH P w K mg base t T
 refine T.jD.ok sc__law_no_key (λvs H Q E h=>?_) (λcdv A outer s H vs Q E hr h=>?_)
 ·obtain⟨a,k,wd,F,x,rfl,_⟩:=h
  rfl
 ·obtain⟨a,k,wd,F,x,rfl,hw,A,k0,l1,hn,q⟩:=h
  refine⟨_,(ae (C5 rfl rfl (λpn E=>(ah (bc (aC cW (pv 2) cr (aG _))
   (ah (aO (t9 (pv 0) T.ar T.sP G2 (hr.mono (by decide)) T.tE .nil Cp (aa (pv 1) ag))))
   (ah (aO (t9 (pv 0) T.ar T.qv G1 (hr.mono (by decide)) T.qK .nil Cp (aa (pv 1) ag)))))))
   (Ea (i:=3) sc__law_no_key.nd rfl rfl (by rfl) T.sN T.AJ (λea=>(ae (bc (PW.pt (oE (fB (ax (f9 K rfl) (by rfl) T.bM bz (aa (pv 3) (aa (cn (v:= .ref t.m7) (by rfl) T.Ed rfl) ag)))) (jL (fB (ax (f9 K rfl) (by rfl) T.bM bz (aa (pv 3) (aa (cn (v:= .ref t.g9) (by rfl) T.Cu rfl) ag)))))))
   (ah (aH im))
   aR)
   (ah (aH (gK (ax (f9 K rfl) (by rfl) T.bM bz (aa (pv 3) (aa (cn (v:= .ref t.bP) (by rfl) T.uo rfl) ag))) (gK (ax (qC K rfl) (by rfl) T.bM bz (aa (pv 3) (aa (kx (v:= .ty "ValueError") (by rfl) T.AI qD rfl) ag))) (oJ (dE cW (yU K rfl (pv 3) rfl) (pv 1) (aG _))))))))) Bm))
   (ah (aH im)))
   ,?_⟩
  obtain⟨dx,fs,hi,hm,_⟩:=A.ins
  rcases hw with rfl|rfl
  case' inl=>refine⟨_,rfl,rfl,_,rfl,pC rfl ⟨_,rfl,a,dx,fs,rfl,hi,hm _ (by decide+kernel),_,rfl,a,k,F,x,rfl,A,k0,(λv ev=>by rw[hn]at ev;cases ev),λ_ ea od H' F' ex A' f=>?_⟩⟩
  case' inr=>refine⟨_,rfl,rfl,_,rfl,bR (by decide+kernel) ⟨_,rfl,a,dx,fs,rfl,hi,hm _ (by decide+kernel),_,rfl,a,k,F,x,rfl,A,k0,l1,(λev=>by rw[hn]at ev;cases ev),λ_ ea od H' F' ex A' f=>?_⟩⟩
  all_goals
   refine⟨ea,t.bP,rfl,ex.1,_,true,T.bF,T.va,cO ?_⟩
   refine⟨_,rfl,ea,od,_,_,_,_,_,rfl,ex,T.bF,T.m9,sS T.bF T.DI T.yz,false,rfl,cV ?_⟩
   refine⟨_,rfl,ea,od,_,_,_,_,_,rfl,ex,T.bF,T.m9,sS T.bF T.Cc T.wb,false,rfl,cV ?_⟩
   refine⟨_,rfl,ea,od,_,_,_,_,_,rfl,ex,T.bF,T.m9,sS T.bF T.bF T.yA,true,rfl,cO ?_⟩
   refine⟨_,rfl,ea,od,_,_,_,_,_,rfl,ex,T.bF,T.m9,BF T.bF,true,rfl,cO ?_⟩
   rcases ex.2 with⟨z,_⟩|⟨dy,rfl,hd⟩
   ·cases z
   refine⟨_,rfl,ea,_,dy,_,_,_,rfl,ex.1,hd,T.bF,T.kD,rfl,_,rfl,rfl,?_⟩
   rw[decide_eq_true rfl]
   exact q H' F' A' f
structure W41 (K:PySem.W.Frag) (t:Adr) (H:Hp) (a b d:Addr) (F Fb:Addr→Prop) (x:HSt) (sb:SSt):Prop where
 A:HoA K t H a F x
 B:SlA K t H b Fb sb
 ab:∀z,Fb z→¬F z
 di:H d=some (.dK (aE x.st.kv))
 nd:¬F d∧¬Fb d
 kb:∀k∈x.st.kv.map (·.1),0≤k
 iv:∀p∈x.st.kv,∃i:Int,p.2= .int i
 le:x.st.kv.length≤400
 ma:x.ma=0
section
variable {H H':Hp} {a b d:Addr} {F F' Fb Fb':Addr→Prop} {x x':HSt} {sb sb':SSt}
theorem W41.fr (W:W41 K t H a b d F Fb x sb) (A:HoA K t H' a F' x) (f:Fr F F' H H'):W41 K t H' a b d F' Fb x sb:=
 ⟨A,W.B.frame λz hz=>by
  obtain⟨o,e⟩:=W.B.dom hz
  rw[e]
  exact(f z o (W.ab z hz) e).1,λz hz=>by
  obtain⟨o,e⟩:=W.B.dom hz
  exact(f z o (W.ab z hz) e).2,(f _ _ W.nd.1 W.di).1,⟨(f _ _ W.nd.1 W.di).2,W.nd.2⟩,W.kb,W.iv,W.le,W.ma⟩
theorem W41.same (W:W41 K t H a b d F Fb x sb) (s:Same H H'):W41 K t H' a b d F Fb x sb:=W.fr (W.A.same s) (Fr.of_same s)
theorem W41.be (W:W41 K t H a b d F Fb x sb) (B:SlA K t H' b Fb' sb') (f:Fr Fb Fb' H H'):W41 K t H' a b d F Fb' x sb':=by
 have nb:∀z,F z→¬Fb z:=λz h h'=>W.ab z h' h
 refine⟨W.A.keep (λz hz=>?_) (λz xs e=>?_),B,λz hz hF=>?_,(f _ _ W.nd.2 W.di).1,⟨W.nd.1,(f _ _ W.nd.2 W.di).2⟩,W.kb,W.iv,W.le,W.ma⟩
 ·obtain⟨o,e,_⟩:=W.A.dom hz
  rw[e]
  exact(f z o (nb z hz) e).1
 ·exact(f z _ (W.B.notup e) e).1
 ·obtain⟨o,e,_⟩:=W.A.dom hF
  exact(f z o (nb z hF) e).2 hz
end
structure De where
 p:Addr
 wd:Str
 k:Int
structure uR (H:Hp) (e:De):Prop where
 tu:H e.p=some (.tup [.str e.wd,.int e.k])
 wd:e.wd="put"∨e.wd="drop"
 k0:0≤e.k
theorem wN {Pw:Str→Prop} {n i:Nat} {H2 H3:Hp} {D b:Addr} {ts:List De} {wd:Str} {g:Int} (pw:Pw wd) (hi:i<n) (s3:Same H2 H3) (hD:H2 D=none) (hDD:H3 D=some (.lst (ts.map λe=>V.ref e.p))) (lt:ts.length=i) (n4:n≤4000) (tu:∀e∈ts,e.p≠D∧uR H3 e∧Pw e.wd) (nb:H3 b=none) (hw:wd="put"∨wd="drop") (g0:0≤g):
  CNext n i (ts.map λe=>V.ref e.p) D (λi ys H3=>Same H2 H3∧∃ts:List De,ys=ts.map (λe=>V.ref e.p)∧ts.length=i∧∀e∈ts,e.p≠D∧uR H3 e∧Pw e.wd) (.ref b) (upd H3 b (.tup [.str wd,.int g])):=by
 have bD:b≠D:=λz=>by rw[z,hDD]at nb;cases nb
 have sb:Same H3 (upd H3 b (.tup [.str wd,.int g])):=ao nb
 have hb:upd H3 b (.tup [.str wd,.int g]) b=some (.tup [.str wd,.int g]):=af
 generalize upd H3 b (.tup [.str wd,.int g])=H6 at sb hb⊢
 refine CNext.mk hi (sb _ _ hDD) (bq (by rw[Q0];omega)) ⟨cE (s3.trans sb) hD,ts++ [⟨b,wd,g⟩],by rw[Qk];rfl,by rw[Qg,lt];rfl,λe he=>?_⟩
 rcases Q7.mp he with he|he
 ·obtain⟨t0,t1,t2⟩:=tu e he
  exact⟨t0,⟨by rw[ac t0];exact sb _ _ t1.tu,t1.wd,t1.k0⟩,t2⟩
 ·rw[Qd.mp he]
  exact⟨bD,⟨by rw[ac bD];exact hb,hw,g0⟩,pw⟩
def p4 (K:PySem.W.Frag):Sp:=λvs H Q _=>∃(c:Int) (d:Addr) (kv:List (Int×V)),vs=[.int c,.ref d]∧H d=some (.dK (aE kv))∧kv.length≤400∧(∀k∈kv.map (·.1),0≤k)∧
 ∀(H':Hp) (l:Addr) (ts:List De),Same H H'→H l=none→H' l=some (.lst (ts.map λe=>V.ref e.p))→(∀e∈ts,uR H' e)→ts.length≤400→((∀e∈ts,e.wd="drop")∨ts.length≤40)→Q (.ref l) H'
theorem qm (T:Txt K mg t):aX P w K mg base CX0 3 t.kY t.gT ["_law_cell","_law_plain"] (p4 K):=by
 have J6:= @dj P w K mg base t T
 have J7:= @mw P w K mg base t T
 refine T.tK.ok sc__law_deeds (λvs H Q E h=>?_) (λcdv A outer s H vs Q E hr h=>?_)
 ·obtain⟨c,d,kv,rfl,_⟩:=h
  rfl
 ·obtain⟨c,d,kv,rfl,hd,lk,kb,q⟩:=h
  refine⟨_,(ae (aF (i:=2) sc__law_deeds.nd rfl (Or.inl rfl) (aJ bB (aP J6 (hr.mono (by decide)) (by rfl) T.bv T.bi.kp T.bx .nil az (aa (pv 0) (aa aj ag))) aj))
   (ae (aF (i:=3) sc__law_deeds.nd rfl (Or.inr rfl) (aP J7 (hr.mono (by decide)) (by rfl) T.vD T.pV.kp T.vR .nil az (aa (pv 0) ag)))
   (ae (aF (i:=4) sc__law_deeds.nd rfl (Or.inl rfl) (ax (kP hr.hd) (by rfl) T.gd c8 (aa (lM QG Xe PySem.F.type_dict_keys wq (pv 1)) ag)))
   (ae (bc (aC cW (pv 2) aj (aG _))
   (ae (aF (i:=5) sc__law_deeds.nd rfl (Or.inr rfl) (aJ bJ aj (aJ bB (aP J6 (hr.mono (by decide)) (by rfl) T.bv T.bi.kp T.bx .nil az (aa (pv 0) (aa aj ag))) aj)))
   (ah (aH (ku rfl (CScope.of (M:=["_law_k"]) (N:=["_law_cell","_law_plain","_law_way","_law_key_here","_law_some","_law_step"]) (N':=["_law_cell","_law_plain","_law_way","_law_key_here","_law_some","_law_step"]) (dsc:=am cG) rfl rfl (by decide+kernel)) (lL (by rfl) T.r9 (aa (aJ bJ aj (aJ bB (aP J6 (hr.mono (by decide)) (by rfl) T.bv T.bi.kp T.bx .nil az (aa (pv 0) (aa aj ag))) aj)) ag)) (λ_ _ _ _ _=>(dW (aa cr (aa (aJ bJ (pv 4) (aJ fF (pv 6) (pv 0))) ag))))))))
   aR)
   (ae (bc (aC cW (pv 2) aj (aG _))
   (ah (aH (ku rfl (CScope.of (M:=["_law_one"]) (N:=["_law_cell","_law_plain","_law_way","_law_key_here","_law_some","_law_step"]) (N':=["_law_cell","_law_plain","_law_way","_law_key_here","_law_some","_law_step"]) (dsc:=am cG) rfl rfl (by decide+kernel)) (cm (ii kh (pv 4) kr (kq (aJ bB (aP J6 (hr.mono (by decide)) (by rfl) T.bv T.bi.kp T.bx .nil az (aa (pv 0) (aa aj ag))) (aJ bJ (ax aA (by rfl) T.bE a9 (aa (pv 4) ag)) aj))))) (λ_ _ _ _ _=>(dW (aa cr (aa (pv 0) ag)))))))
   aR)
   (ae (bc (PW.pt (gI (aC eO (pv 2) aj (aG _)) (dD (aC (C9 K rfl hr.u20) (pv 4) (cu ag) (aG _)))))
   (ah (aH (cu (aa (dW (aa cr (aa (br a7 (pv 4) (aJ bB (aP J6 (hr.mono (by decide)) (by rfl) T.bv T.bi.kp T.bx .nil az (aa (pv 0) (aa aj ag))) (ax aA (by rfl) T.bE a9 (aa (pv 4) ag))) (λ_ _=>rfl)) ag))) ag))))
   aR)
   (ah (aH (cu (aa (dW (aa (br a7 (cu (aa cr (aa cr (aa cr ag)))) (aJ bB (pv 2) aj) (λ_ _=>rfl)) (aa (pv 3) ag))) ag))))))))))
   ,?_⟩
  refine⟨_,rfl,c,5,rfl,_,_,rfl,rfl,(by show(0:Int)<10;decide),?_⟩
  (try dsimp only)
  generalize drw c 5%10=way
  refine⟨_,rfl,c,rfl,λH1 k s1 k0 k1=>?_⟩
  have h1:=s1 _ _ hd
  refine⟨_,rfl,.inr (.inr (.inl ⟨rfl,.inl ⟨_,h1⟩⟩)),d,_,rfl,rfl,h1,λvw nv=>⟨vw,d,_,kv.map (·.1),rfl,af,ao nv _ _ h1,lX,λlm ms nl pm pw=>?_⟩⟩
  have s2:=(s1.trans (ao (o:=vwK vw d) nv)).trans (ao (o:= .lst (ms.map V.int)) nl)
  have hl:upd (upd H1 vw (vwK vw d)) lm (.lst (ms.map V.int)) lm=some (.lst (ms.map V.int)):=af
  (try dsimp only)
  generalize upd (upd H1 vw (vwK vw d)) lm (.lst (ms.map V.int))=H2 at s2 hl⊢
  clear nv nl s1 h1
  have mk:∀z∈ms,0≤z:=λz hz=>kb z (pm.mem_iff.mp hz)
  have ml:ms.length≤400:=by
   have:=pm.length_eq
   rw[Q0]at this
   omega
  have r6:=Dv c 6
  have r7:=Dv c 7
  refine⟨_,rfl,rfl,_,rfl,lZ (λz=>?_) (λz=>?_)⟩
  ·have a1:=Qs (drw c 6) (show(9:Int)≠0 by decide)
   have a2:=Qv (drw c 6) (show(0:Int)<9 by decide)
   have b1:=Qs (drw c 7) (show(40:Int)≠0 by decide)
   have b2:=Qv (drw c 7) (show(0:Int)<40 by decide)
   refine⟨_,rfl,c,6,rfl,_,_,rfl,rfl,(by show(0:Int)<9;decide),_,_,rfl,rfl,?_⟩
   (try dsimp only)
   generalize drw c 6%9=st at a1 a2⊢
   refine⟨_,rfl,c,7,rfl,_,_,rfl,rfl,(by show(0:Int)<40;decide),_,_,rfl,rfl,?_⟩
   (try dsimp only)
   generalize drw c 7%40=m at b1 b2⊢
   refine⟨1+m,rfl,by omega,by omega,λD hD=>pL (n:=(1+m).toNat) (lo:=0) (λi ys H3=>Same H2 H3∧∃ts:List De,ys=ts.map (λe=>V.ref e.p)∧ts.length=i∧∀e∈ts,e.p≠D∧uR H3 e∧True) ⟨ao hD,[],rfl,rfl,λ_ z=>absurd z QU⟩ (λi ys H3 hi w hDD=>?_) (λys H3 w hDD=>?_)⟩
   ·obtain⟨s3,ts,rfl,lt,tu⟩:=w
    have i0:(0:Int)≤(1+st)*(0+(i:Int)):=X7 (by omega) (by omega)
    have i1:(1+st)*(0+(i:Int))≤9*40:=Int.mul_le_mul (by omega) (by omega) (by omega) (by decide)
    refine⟨_,rfl,_,rfl,_,rfl,_,_,rfl,rfl,.inl ⟨by omega,by omega⟩,_,_,rfl,rfl,(by show 2≤sizeLine;decide),λb nb=>wN (Pw:=λ_=>True) trivial hi s3 hD hDD lt (by omega) tu nb (.inl rfl) (by show 0≤k+(1+st)*(0+(i:Int));omega)⟩
   ·obtain⟨s3,ts,rfl,lt,tu⟩:=w
    exact q H3 D ts (s2.trans s3) (mZ s2 hD) hDD (λe he=>(tu e he).2.1) (by omega) (.inr (by omega))
  unfold nC
  (try dsimp only)
  refine⟨_,rfl,rfl,_,rfl,lZ (λz2=>?_) (λz2=>?_)⟩
  ·have p0:(0:Int)<((ms.map V.int).length:Int)+1:=by omega
   have b1:=Qs (drw c 7) (Z3 p0)
   refine⟨_,rfl,_,rfl,c,7,rfl,_,rfl,lm,_,rfl,.inl (SqL.of hl),_,_,rfl,rfl,_,_,rfl,rfl,p0,_,rfl,lm,_,rfl,SqL.of hl,λl2 nl2=>?_⟩
   rw[pJ b1,←ZX]
   obtain⟨ws,ews⟩:∃ws,ms.take (drw c 7%(((ms.map V.int).length:Int)+1)).toNat=ws:=⟨_,rfl⟩
   have wm:∀z∈ws,0≤z:=λz hz=>mk z (ZI (ews▸hz))
   have wl:ws.length≤400:=by
    rw[←ews,Qm]
    omega
   rw[ews]
   have s3:=s2.trans (ao (o:= .lst (ws.map V.int)) nl2)
   have h3:upd H2 l2 (.lst (ws.map V.int)) l2=some (.lst (ws.map V.int)):=af
   generalize upd H2 l2 (.lst (ws.map V.int))=H3 at s3 h3⊢
   refine⟨l2,rfl,⟨_,SqL.of h3⟩,λD hD=>?_⟩
   refine mi (K:=K) (a:=l2) (xs:=ws.map V.int) (λi ys H4=>Same H3 H4∧∃ts:List De,ys=ts.map (λe=>V.ref e.p)∧ts.length=i∧∀e∈ts,e.p≠D∧uR H4 e∧e.wd="drop") ⟨ao hD,[],rfl,rfl,λ_ z=>absurd z QU⟩ (λi ys H4 _ w=>SqL.of (w.1 _ _ h3)) (λi y ys H4 hy w hDD=>?_) (λys H4 w hDD=>?_)
   ·obtain⟨s4,ts,rfl,lt,tu⟩:=w
    have hi:i<(ws.map V.int).length:=(Q4.mp hy).1
    obtain⟨g,hg,rfl⟩:=Qb.mp (Q3 hy)
    exact⟨_,rfl,(by show 2≤sizeLine;decide),λb nb=>wN (Pw:=λw=>w="drop") rfl hi s4 hD hDD lt (by rw[Q0];omega) tu nb (.inr rfl) (wm g hg)⟩
   ·obtain⟨s4,ts,rfl,lt,tu⟩:=w
    rw[Q0]at lt
    exact q H4 D ts (s3.trans s4) (mZ s3 hD) hDD (λe he=>(tu e he).2.1) (by omega) (.inl λe he=>(tu e he).2.2)
  (try dsimp only)
  have one:∀{H3:Hp} {p l:Addr} {wd:Str} {g:Int},Same H H3→H3 p=none→upd H3 p (.tup [.str wd,.int g]) l=none→(wd="put"∨wd="drop")→0≤g→Q (.ref l) (upd (upd H3 p (.tup [.str wd,.int g])) l (.lst [.ref p])):=λ{H3 p l wd g} s3 np nl hw g0=>by
   have sp:=ao (o:= .tup [.str wd,.int g]) np
   have sl:=ao (o:= .lst [.ref p]) nl
   exact q _ l [⟨p,wd,g⟩] ((s3.trans sp).trans sl) (mZ (s3.trans sp) nl) af (λe he=>by
    rw[Qd.mp he]
    exact⟨sl _ _ af,hw,g0⟩) (by show 1≤400;decide) (.inr (by show 1≤40;decide))
  refine eK (λσ H'=>σ=[some (.int c),some (.ref d),some (.int way),some (.int k),some (.ref lm),none]∧Same H2 H') (λnx go=>?_) (λσ H3 w=>?_)
  ·refine⟨_,rfl,_,_,rfl,rfl,_,rfl,lZ (λz3=>?_) (λz3=>cV (go _ _ ⟨rfl,Same.refl _⟩))⟩
   refine⟨_,rfl,Qh _,λr0 nr0=>y3 (SqL.of (ao nr0 _ _ hl)) (SqL.of af) ⟨_,rfl,?_⟩⟩
   have s3:=ao (o:= .lst []) nr0
   generalize upd H2 r0 (.lst [])=H3 at s3⊢
   cases em:ms with
   |nil=>exact cV (go _ _ ⟨rfl,s3⟩)
   |cons g r=>
    have hl3:=s3 _ _ hl
    have p0:(0:Int)<((ms.map V.int).length:Int):=by rw[Q0,em,Qf];omega
    have z0:=Qs (drw c 7) (Z3 p0)
    have z1:=Qv (drw c 7) p0
    obtain⟨y,hy,ey⟩:∃y,y∈ms∧atI (ms.map V.int) (drw c 7%((ms.map V.int).length:Int))=some (.int y):=by
     rw[Q0]at z0 z1⊢
     refine⟨_,?_,uK z0 z1⟩
     rw[Qn,Q5 (by omega)]
     exact Zv _
    exact cO ⟨_,rfl,_,rfl,c,7,rfl,_,rfl,lm,_,rfl,.inl (SqL.of hl3),_,_,rfl,rfl,p0,lm,_,_,_,rfl,rfl,SqL.of hl3,ey,(by show 2≤sizeLine;decide),λp np=>⟨(by show 1≤sizeLine;decide),λl nl=>one (s2.trans s3) np nl (.inr rfl) (mk y hy)⟩⟩
  obtain⟨rfl,s3⟩:=w
  obtain⟨v,hv,mv⟩:=D8 (c:=way) (n:=3) (L:=[.str "put",.str "put",.str "drop"]) rfl (by decide)
  refine⟨(by show 3≤sizeLine;decide),λp1 np1=>⟨_,rfl,_,_,rfl,rfl,(by show(0:Int)<3;decide),p1,_,_,_,rfl,rfl,SqL.of af,hv,_,rfl,(by show 2≤sizeLine;decide),λp np=>⟨(by show 1≤sizeLine;decide),λl nl=>?_⟩⟩⟩
  have s4:=(s2.trans s3).trans (ao (o:= .lst [.str "put",.str "put",.str "drop"]) np1)
  simp only[Qe,QU,or_false]at mv
  rcases mv with rfl|rfl|rfl
  ·exact one s4 np nl (.inl rfl) k0
  ·exact one s4 np nl (.inl rfl) k0
  ·exact one s4 np nl (.inr rfl) k0
def Wx (F Fb:Addr→Prop) (d:Addr):Addr→Prop:=λz=>F z∨Fb z∨z=d
theorem Fr.wx {F F' Fb:Addr→Prop} {d:Addr} {H H':Hp} (f:Fr F F' H H'):Fr (Wx F Fb d) (Wx F' Fb d) H H':=λz o n e=>⟨(f z o (λy=>n (.inl y)) e).1,λy=>y.elim (f z o (λy=>n (.inl y)) e).2 λy=>n (.inr y)⟩
theorem Fr.wxb {F Fb Fb':Addr→Prop} {d:Addr} {H H':Hp} (f:Fr Fb Fb' H H'):Fr (Wx F Fb d) (Wx F Fb' d) H H':=λz o n e=>⟨(f z o (λy=>n (.inr (.inl y))) e).1,λy=>y.elim (λy=>n (.inl y)) λy=>y.elim (f z o (λy=>n (.inr (.inl y))) e).2 λy=>n (.inr (.inr y))⟩
theorem Fr.wxd {F Fb:Addr→Prop} {d:Addr} {H:Hp} {o:HO}:Fr (Wx F Fb d) (Wx F Fb d) H (upd H d o):=λz u n e=>⟨by rw[ac λy=>n (.inr (.inr y))];exact e,n⟩
section
variable {H H':Hp} {a b d:Addr} {F F' Fb:Addr→Prop} {x x':HSt} {sb:SSt}
theorem W41.step (W:W41 K t H a b d F Fb x sb) {kv:List (Int×V)} (A:HoA K t H' a F' x') (f:Fr F F' (upd H d (.dK (aE kv))) H') (ek:x'.st.kv=kv) (kb:∀k∈kv.map (·.1),0≤k) (iv:∀p∈kv,∃i:Int,p.2= .int i) (le:kv.length≤400) (ma:x'.ma=x.ma):W41 K t H' a b d F' Fb x' sb:=by
 subst ek
 have nd:∀z,Fb z→z≠d:=λz h y=>W.nd.2 (y▸h)
 obtain⟨d1,d2⟩:=f _ _ W.nd.1 af
 have g:∀z,Fb z→H' z=H z∧¬F' z:=λz hz=>by
  obtain⟨o,e⟩:=W.B.dom hz
  have:=f z o (W.ab z hz) (by rw[ac (nd z hz)];exact e)
  exact⟨this.1.trans e.symm,this.2⟩
 exact⟨A,W.B.frame λz hz=>(g z hz).1,λz hz=>(g z hz).2,d1,⟨d2,W.nd.2⟩,kb,iv,le,ma.trans W.ma⟩
end
theorem C3 {kv:List (Int×V)} {k i:Int} (h:∀p∈kv,∃i:Int,p.2= .int i):∀p∈bg kv k (.int i),∃i:Int,p.2= .int i:=λp hp=>by
 unfold bg at hp
 split at hp
 ·obtain⟨q,hq,rfl⟩:=Qb.mp hp
  by_cases c:q.1=k
  ·exact⟨i,by rw[if_pos c]⟩
  ·rw[if_neg c]
   exact h q hq
 ·rcases Q7.mp hp with y|y
  ·exact h p y
  ·rw[Qd.mp y];exact⟨i,rfl⟩
def Did (wd:Str) (k i:Int) (x x':HSt):Prop:=(wd="drop"∧x'=x)∨(x'.now=x.now+1∧((wd="put"∧x'.st=x.st.put k (.int i))∨(wd="drop"∧(aI x.st.kv k).isSome=true∧x'.st=x.st.drop k)))
def sj (K:PySem.W.Frag) (t:Adr):Sp:=λvs H Q _=>∃(a b d:Addr) (k i:Int) (wd:Str) (F Fb:Addr→Prop) (x:HSt) (sb:SSt),vs=[.ref a,.ref d,.str wd,.int k,.int i]∧W41 K t H a b d F Fb x sb∧(wd="put"∨wd="drop")∧0≤k∧x.now<3900∧x.st.kv.length<300∧
 ∀(H':Hp) (F':Addr→Prop) (x':HSt),W41 K t H' a b d F' Fb x' sb→Did wd k i x x'→x'.ho=x.ho→x'.now≤x.now+1→x'.st.kv.length≤300→Fr (Wx F Fb d) (Wx F' Fb d) H H'→Q (.bl true) H'
theorem sK (T:Txt K mg t):aX P w K mg base CX0 8 t.mH t.iH ["_law_house","_law_plain","_law_word","_law_key_here","_law_value_here"] (sj K t):=by
 have G1:= @iA P w K mg base t T
 have G8:= @qp P w K mg base t T
 have J8:= @io P w K mg base t T
 refine T.uP.ok sc__law_done (λvs H Q E h=>?_) (λcdv A outer s H vs Q E hr h=>?_)
 ·obtain⟨a,b,d,k,i,wd,F,Fb,x,sb,rfl,_⟩:=h
  rfl
 ·obtain⟨a,b,d,k,i,wd,F,Fb,x,sb,rfl,W,hw,k0,l1,l2,q⟩:=h
  refine⟨_,(ae (bc (PW.pt (gI (aC cW (pv 2) cr (aG _)) (dD (sD (lN (gi hr) (pv 3) (pv 1))))))
   (ah (aH (aP J8 (hr.mono (by decide)) (by rfl) T.qy T.jD.kp T.qE .nil az (aa (pv 0) (aa (pv 3) (aa cr ag))))))
   aR)
   (ae (aF (i:=5) sc__law_done.nd rfl (Or.inl rfl) (aJ bJ (av (pv 0) rfl) aj))
   (ae (bc (aC cW (pv 2) cr (aG _))
   (ae (mV (gi hr) (pv 1) (pv 3) (pv 4) rfl)
   (ah (aF (i:=6) sc__law_done.nd rfl (Or.inl rfl) (aN (pv 0) T.ar T.BA G8 (hr.mono (by decide)) T.BV .nil az (aa (pv 3) (aa (pv 4) ag))))))
   (ae (aO (cM QG Xm PySem.F.type_dict_pop wt (pv 1) (aa (pv 3) ag)))
   (ah (aF (i:=6) sc__law_done.nd rfl (Or.inl rfl) (aN (pv 0) T.ar T.qv G1 (hr.mono (by decide)) T.qK .nil sG (aa (pv 3) ag))))))
   (ah (aH (gK (ax eS (by rfl) T.bM bz (aa (pv 6) (aa (kx (v:= .ty "int") (by rfl) T.DH zN rfl) ag))) (gK (yS (ax eS (by rfl) T.bM bz (aa (pv 6) (aa (kx (v:= .ty "bool") (by rfl) T.CJ wP rfl) ag)))) (gK (dE cW (pv 6) (pv 5) (aG _)) (oJ (dE cW (av (pv 0) rfl) (pv 5) (aG _)))))))))))
   ,?_⟩
  have m0:=W.ma
  have dg:=DGet.k (k:=Sum.inl k) W.di
  rw[liftK_val]at dg
  obtain⟨dx,fs,hi,hm,hn,_⟩:=W.A.ins
  rcases hw with rfl|rfl
  ·refine⟨_,rfl,rfl,_,rfl,bR (by decide+kernel) (cV ?_)⟩
   unfold nC
   (try dsimp only)
   refine⟨_,rfl,a,_,dx,fs,_,rfl,hi,T.ar,T.aS,hn,_,_,rfl,rfl,_,rfl,rfl,_,rfl,pC rfl ⟨_,rfl,_,rfl,_,rfl,d,_,rfl,DPut.k (k:=Sum.inl k) W.di (by rw[bC];exact bq (by omega)),?_⟩⟩
   rw[dL]
   have A1:HoA K t (upd H d (.dK (aE (bg x.st.kv k (.int i))))) a F x:=W.A.upd W.nd.1 λxs z=>by rw[W.di]at z;cases z
   obtain⟨dx1,fs1,hi1,hm1,_⟩:=A1.ins
   refine⟨_,rfl,a,dx1,fs1,rfl,hi1,hm1 _ (by decide+kernel),_,rfl,_,rfl,a,k,i,F,x,rfl,A1,k0,by omega,λH2 F2 ks2 r2 q2 pa2 A2 N2 f2=>?_⟩
   have lp:=bL x.st.kv k (.int i)
   have e3:(x.st.put k (.int i)).kv=bg x.st.kv k (.int i):=SSt.three_kv
   have W2:=W.step A2 f2 e3 (λz hz=>by
    rw[kI]at hz
    split at hz
    ·exact W.kb z hz
    ·rcases Q7.mp hz with h|h
     ·exact W.kb z h
     ·rw[Qd.mp h]
      exact k0) (C3 W.iv) (by omega) rfl
   obtain⟨dx2,fs2,hi2,_,hn2,_⟩:=A2.ins
   have Q2:=q H2 F2 _ W2 (.inr ⟨rfl,.inl ⟨rfl,rfl⟩⟩) rfl (ZH _) (by show(x.st.put k (.int i)).kv.length≤300;rw[e3];omega) (Fr.wxd.trans f2.wx)
   refine⟨_,rfl,_,_,_,_,rfl,TyOf.int _,vG,true,rfl,cO ⟨_,rfl,_,_,_,_,rfl,TyOf.int _,vH,false,rfl,true,rfl,cO ⟨_,rfl,_,rfl,rfl,_,rfl,pC rfl ⟨_,rfl,a,_,dx2,fs2,_,rfl,hi2,T.ar,T.aS,hn2,_,rfl,rfl,?_⟩⟩⟩⟩
   rw[decide_eq_true rfl]
   exact Q2
  ·refine⟨_,rfl,rfl,_,rfl,pC rfl ⟨_,rfl,_,rfl,d,_,rfl,dg,_,rfl,?_⟩⟩
   cases ev:aI x.st.kv k with
   |none=>
    refine cO ⟨_,rfl,_,rfl,a,k,"drop",F,x,rfl,.inr rfl,W.A,k0,by omega,ev,λH2 F2 A2 f2=>q H2 F2 x (W.fr A2 f2) (.inl ⟨rfl,rfl⟩) rfl (by omega) (by omega) f2.wx⟩
   |some v=>
    refine cV ?_
    (try dsimp only)
    refine⟨_,rfl,a,_,dx,fs,_,rfl,hi,T.ar,T.aS,hn,_,_,rfl,rfl,_,rfl,rfl,_,rfl,bR (by decide+kernel) ⟨_,rfl,.inr (.inr (.inl ⟨rfl,.inl ⟨_,W.di⟩⟩)),_,rfl,d,_,Sum.inl k,v,rfl,rfl,W.di,liftK_val.trans ev,?_⟩⟩
    rw[pz]
    have A1:HoA K t (upd H d (.dK (aE (bp x.st.kv k)))) a F x:=W.A.upd W.nd.1 λxs z=>by rw[W.di]at z;cases z
    obtain⟨dx1,fs1,hi1,hm1,_⟩:=A1.ins
    refine⟨_,rfl,a,dx1,fs1,rfl,hi1,hm1 _ (by decide+kernel),_,rfl,a,k,F,x,rfl,A1,k0,by omega,λ_ H2 F2 ks2 r2 q2 pa2 A2 N2 f2=>?_,λz=>by rw[ev]at z;cases z⟩
    have e3:(x.st.drop k).kv=bp x.st.kv k:=SSt.three_kv
    have sub:∀p∈bp x.st.kv k,p∈x.st.kv:=λp hp=>(Zc.mp hp).1
    have lf:(bp x.st.kv k).length≤x.st.kv.length:=QC _ _
    have W2:=W.step A2 f2 e3 (λz hz=>by
     obtain⟨p,hp,rfl⟩:=Qb.mp hz
     exact W.kb _ (Qb.mpr ⟨p,sub p hp,rfl⟩)) (λp hp=>W.iv p (sub p hp)) (by omega) rfl
    obtain⟨dx2,fs2,hi2,_,hn2,_⟩:=A2.ins
    have Q2:=q H2 F2 _ W2 (.inr ⟨rfl,.inr ⟨rfl,by rw[ev];rfl,rfl⟩⟩) rfl (ZH _) (by show(x.st.drop k).kv.length≤300;rw[e3];omega) (Fr.wxd.trans f2.wx)
    refine⟨_,rfl,_,_,_,_,rfl,TyOf.int _,vG,true,rfl,cO ⟨_,rfl,_,_,_,_,rfl,TyOf.int _,vH,false,rfl,true,rfl,cO ⟨_,rfl,_,rfl,rfl,_,rfl,pC rfl ⟨_,rfl,a,_,dx2,fs2,_,rfl,hi2,T.ar,T.aS,hn2,_,rfl,rfl,?_⟩⟩⟩⟩
    rw[decide_eq_true rfl]
    exact Q2
theorem vo {c c3:TT} {σ:St} {H:Hp} {R:Bool→Hp→Prop} (P:Hp→Prop) (h1:∀R':Bool→Hp→Prop,(∀H',P H'→R' false H')→c σ H R') (h2:∀H',P H'→c3 σ H' R):tOr c c3 σ H R:=h1 _ λH' p=>cV (h2 H' p)
theorem vK {c:TT} {u v:TS} {D:Ends} {σ:St} {H:Hp} (h:c σ H λb H1=>if b=true then u D σ H1 else v D σ H1):CQ c u v D σ H:=h
def pY (K:PySem.W.Frag) (t:Adr):Sp:=λvs H Q _=>∃(a b d:Addr) (k:Int) (F Fb:Addr→Prop) (x:HSt) (sb:SSt),vs=[.ref a,.ref d,.int k]∧W41 K t H a b d F Fb x sb∧0≤k∧x.now<3990∧
 ∀(H':Hp) (F':Addr→Prop),W41 K t H' a b d F' Fb x sb→Fr F F' H H'→Q (.bl true) H'
theorem ql (T:Txt K mg t):aX P w K mg base CX0 8 t.kW t.gR ["_law_house","_law_plain","_law_key_here"] (pY K t):=by
 have G2:= @fH P w K mg base t T
 have G3:= @qq P w K mg base t T
 have G7:= @iz P w K mg base t T
 have J8:= @io P w K mg base t T
 refine T.lC.ok sc__law_right (λvs H Q E h=>?_) (λcdv A outer s H vs Q E hr h=>?_)
 ·obtain⟨a,b,d,k,F,Fb,x,sb,rfl,_⟩:=h
  rfl
 ·obtain⟨a,b,d,k,F,Fb,x,sb,rfl,W,k0,l1,q⟩:=h
  refine⟨_,(ae (bc (PW.pt (oE (PW.pt (gI (aC q9 (aN (pv 0) T.ar T.kH G3 (hr.mono (by decide)) T.kS .nil az (aa (pv 2) ag)) im (aG _)) (dD (aC q9 (aN (pv 0) T.ar T.kH G3 (hr.mono (by decide)) T.kS .nil az (aa (pv 2) ag)) im (aG _))))) (jL (aC qZ (aN (pv 0) T.ar T.kH G3 (hr.mono (by decide)) T.kS .nil az (aa (pv 2) ag)) (yV (vn (gi hr) (pv 2) (pv 1))) (aG _)))))
   (ah (aH im))
   aR)
   (ae (bc (aC qZ (a8 (pv 0) T.ar T.qu G7 (hr.mono (by decide)) T.qJ .nil az) (ax mj (by rfl) T.bE a9 (aa (pv 1) ag)) (aG _))
   (ah (aH im))
   aR)
   (ae (bc (sD (vn (gi hr) (pv 2) (pv 1)))
   (ae (aF (i:=3) sc__law_right.nd rfl (Or.inl rfl) (aN (pv 0) T.ar T.sP G2 (hr.mono (by decide)) T.tE .nil sG (aa (pv 2) ag)))
   (ah (aH (gK (ax eS (by rfl) T.bM bz (aa (pv 3) (aa (kx (v:= .ty "int") (by rfl) T.DH zN rfl) ag))) (gK (yS (ax eS (by rfl) T.bM bz (aa (pv 3) (aa (kx (v:= .ty "bool") (by rfl) T.CJ wP rfl) ag)))) (oJ (dE cW (pv 3) (wk (gi hr) (pv 1) (pv 2) (λ_ _=>rfl)) (aG _))))))))
   aR)
   (ah (aH (aP J8 (hr.mono (by decide)) (by rfl) T.qy T.jD.kp T.qE .nil az (aa (pv 0) (aa (pv 2) (aa cr ag)))))))))
   ,?_⟩
  have m0:=W.ma
  have dg:∀{H':Hp} {F':Addr→Prop},W41 K t H' a b d F' Fb x sb→DGet H' d (.int k) (aI x.st.kv k):=λW'=>by
   have:=DGet.k (k:=Sum.inl k) W'.di
   rw[liftK_val]at this
   exact this
  refine eK (λσ H'=>σ=[some (.ref a),some (.ref d),some (.int k),none]∧∃F',W41 K t H' a b d F' Fb x sb∧Fr F F' H H') (λnx go=>?_) (λσ H2 w=>?_)
  ·refine vK (vo (λH'=>∃F',W41 K t H' a b d F' Fb x sb∧Fr F F' H H') (λR' go'=>?_) (λH' w=>?_))
   ·obtain⟨dx,fs,hi,hm,_⟩:=W.A.ins
    refine⟨_,rfl,a,dx,fs,rfl,hi,hm _ (by decide+kernel),_,rfl,a,k,F,x,rfl,W.A,k0,λH1 F1 A1 f1=>⟨_,_,rfl,rfl,_,rfl,?_⟩⟩
    have W1:=W.fr A1 f1
    cases ep:(aI x.st.kv k).isSome with
    |true=>exact cV (go' _ ⟨F1,W1,f1⟩)
    |false=>
     obtain⟨dx1,fs1,hi1,hm1,_⟩:=A1.ins
     refine cO ⟨_,rfl,a,dx1,fs1,rfl,hi1,hm1 _ (by decide+kernel),_,rfl,a,k,F1,x,rfl,A1,k0,λH2 F2 A2 f2=>⟨_,_,rfl,rfl,_,rfl,?_⟩⟩
     rw[ep]
     exact go' _ ⟨F2,W1.fr A2 f2,f1.trans f2⟩
   ·obtain⟨F1,W1,f1⟩:=w
    obtain⟨dx1,fs1,hi1,hm1,_⟩:=W1.A.ins
    refine⟨_,rfl,a,dx1,fs1,rfl,hi1,hm1 _ (by decide+kernel),_,rfl,a,k,F1,x,rfl,W1.A,k0,λH2 F2 A2 f2=>?_⟩
    have W2:=W1.fr A2 f2
    refine⟨_,rfl,_,rfl,d,_,rfl,dg W2,rfl,_,rfl,rq rfl (go _ _ ⟨rfl,F2,W2,f1.trans f2⟩)⟩
  obtain⟨rfl,F2,W2,f2⟩:=w
  obtain⟨dx2,fs2,hi2,hm2,_⟩:=W2.A.ins
  refine⟨_,rfl,a,dx2,fs2,rfl,hi2,hm2 _ (by decide+kernel),a,F2,x,rfl,W2.A,λH3 F3 A3 f3=>?_⟩
  have W3:=W2.fr A3 f3
  refine⟨_,rfl,d,_,rfl,W3.di,?_⟩
  rw[bC]
  refine⟨rfl,_,rfl,rq rfl ?_⟩
  have f3':=f2.trans f3
  obtain⟨dx3,fs3,hi3,hm3,_⟩:=A3.ins
  unfold nC
  (try dsimp only)
  refine⟨_,rfl,_,rfl,d,_,rfl,dg W3,_,rfl,?_⟩
  cases ev:aI x.st.kv k with
  |none=>
   refine cV ?_
   (try dsimp only)
   exact⟨_,rfl,_,rfl,a,k,"get",F3,x,rfl,.inl rfl,A3,k0,by omega,ev,λH4 F4 A4 f4=>q H4 F4 (W3.fr A4 f4) (f3'.trans f4)⟩
  |some v=>
   obtain⟨i,ei⟩:=W.iv (k,v) (eP ev)
   have ei:v= .int i:=ei
   subst ei
   refine cO ⟨_,rfl,a,dx3,fs3,rfl,hi3,hm3 _ (by decide+kernel),_,rfl,a,k,F3,x,rfl,A3,k0,λv' ev' H4 F4 A4 f4=>?_,λz=>by rw[ev]at z;cases z⟩
   rw[ev]at ev'
   cases ev'
   have W4:=W3.fr A4 f4
   have g4:=dg W4
   rw[ev]at g4
   refine⟨_,rfl,_,_,_,_,rfl,TyOf.int _,vG,true,rfl,cO ⟨_,rfl,_,_,_,_,rfl,TyOf.int _,vH,false,rfl,true,rfl,cO ⟨_,rfl,_,rfl,_,rfl,d,_,rfl,g4,rfl,?_⟩⟩⟩
   rw[decide_eq_true rfl]
   exact q H4 F4 W4 (f3'.trans f4)
theorem W41.own {H H':Hp} {a b d:Addr} {F F' Fb:Addr→Prop} {x x':HSt} {sb:SSt} (W:W41 K t H a b d F Fb x sb) (A:HoA K t H' a F' x') (f:Fr F F' H H') (es:x'.st=x.st) (em:x'.ma=x.ma):W41 K t H' a b d F' Fb x' sb:=
 ⟨A,W.B.frame λz hz=>by
  obtain⟨o,e⟩:=W.B.dom hz
  rw[e]
  exact(f z o (W.ab z hz) e).1,λz hz=>by
  obtain⟨o,e⟩:=W.B.dom hz
  exact(f z o (W.ab z hz) e).2,by rw[es];exact(f _ _ W.nd.1 W.di).1,⟨(f _ _ W.nd.1 W.di).2,W.nd.2⟩,by rw[es];exact W.kb,by rw[es];exact W.iv,by rw[es];exact W.le,em.trans W.ma⟩
theorem HoB.newb {H:Hp} {a s l w p h:Addr} {Fs Fs' Fl:Addr→Prop} {x:HSt} {b:Addr} (B:HoB K t H a s l w p h Fs Fl x) (n:¬Fs b→H b=none) (n':¬Fs' b):¬HoF a w p h Fs' Fl x.pa b:=λz=>by
 rcases z with z|z|z
 ·exact n' z
 ·obtain⟨o,e⟩:=B.lv.dom z
  rw[n λy=>B.a1 b y z]at e
  cases e
 ·obtain⟨o,e,_⟩:=B.o.dom z
  rw[n (B.a2 b z)]at e
  cases e
theorem HoA.sl {H:Hp} {a:Addr} {F:Addr→Prop} {x:HSt} (A:HoA K t H a F x):∃(dx:Addr) (fs:List (Str×V)) (s ds:Addr) (fss:List (Str×V)) (Fs:Addr→Prop),H a=some (.ins t.aB dx fs)∧fs.lookup ("slots":Str)=some (.ref s)∧H s=some (.ins t.aQ ds fss)∧(∀m,NoM m→fss.lookup m=none)∧SlA K t H s Fs x.st∧∀H' Fs',SlA K t H' s Fs' x.st→Fr Fs Fs' H H'→∃F',HoA K t H' a F' x∧Fr F F' H H'∧∀b,(¬Fs b→H b=none)→¬Fs' b→¬F' b:=by
 obtain⟨s,l,wr,p,h,Fs,Fl,B,O,g⟩:=A
 obtain⟨dx,ho⟩:=B.o.ob
 obtain⟨ds,fs,hs,hm⟩:=B.sl.ins
 refine⟨dx,_,s,ds,fs,Fs,ho,jV,hs,hm,B.sl,λH' Fs' S' f'=>?_⟩
 obtain⟨B1,g1⟩:=B.slots S' f'
 exact⟨_,⟨s,l,wr,p,h,Fs',Fl,B1,O,λ_=>Iff.rfl⟩,λb o n e=>g1 b o (λz=>n ((g b).mpr z)) e,λb n n'=>B.newb n n'⟩
theorem zU {H:Hp} {n:Nat} {a b:Addr} {ns:List Int} (h1:H a=some (.lst (ns.map V.int))) (h2:H b=some (.lst (ns.map V.int))):Alk K H (n+2) (.ref a) (.ref b):=by
 refine .inr ⟨a,b,_,_,rfl,rfl,.inl ⟨SqL.of h1,SqL.of h2⟩,rfl,λj u v hu hv=> .inl ?_⟩
 rw[hu]at hv
 cases hv
 obtain⟨i,_,rfl⟩:=Qb.mp (Q3 hu)
 exact⟨True.intro,rfl⟩
theorem xY {H:Hp} {st:SSt} {es es':List En} (c':CellsOf st es') (c:CellsOf st es) (h':∀e∈es',EnAt H e) (h:∀e∈es,EnAt H e):(es'.map λe=>V.ref e.p).length=(es.map λe=>V.ref e.p).length∧∀(j:Nat) (u v:V),(es'.map λe=>V.ref e.p)[j]?=some u→(es.map λe=>V.ref e.p)[j]?=some v→Alk K H 4 u v:=by
 have ev:=tm c' c
 have le:es'.length=es.length:=by simpa using congrArg List.length ev
 refine⟨by rw[Q0,Q0,le],λj u v hu hv=>?_⟩
 rw[Ql]at hu hv
 cases e1:es'[j]? with
 |none=>rw[e1]at hu;cases hu
 |some x=>
  cases e2:es[j]? with
  |none=>rw[e2]at hv;cases hv
  |some y=>
   rw[e1]at hu
   rw[e2]at hv
   cases hu
   cases hv
   have exy:x.val=y.val:=by
    have:=congrArg (λl:List (Nat×Nat×Int×List Int)=>l[j]?) ev
    rw[Ql,Ql,e1,e2]at this
    exact Option.some.inj this
   obtain⟨a1,a2,a3,a4⟩:x.ri=y.ri∧x.j=y.j∧x.sz=y.sz∧x.ks=y.ks:=by
    unfold En.val at exy
    simpa using exy
   have X:=h' x (Q3 e1)
   have Y:=h y (Q3 e2)
   have Xt:=X.tu
   have Xl:=X.li
   rw[a2,a3]at Xt
   rw[a4]at Xl
   refine .inr ⟨x.p,y.p,_,_,rfl,rfl,.inr ⟨SqT.of Xt,SqT.of Y.tu⟩,rfl,λj u v hu hv=>?_⟩
   rcases j with _|_|_|j
   ·cases hu;cases hv;exact .inl ⟨True.intro,rfl⟩
   ·cases hu;cases hv;exact .inl ⟨True.intro,rfl⟩
   ·cases hu;cases hv;exact zU Xl Y.li
   ·cases hu
def p5 (K:PySem.W.Frag) (t:Adr):Sp:=λvs H Q _=>∃(a b d:Addr) (c:Int) (F Fb:Addr→Prop) (x:HSt),vs=[.ref a,.ref b,.int c]∧W41 K t H a b d F Fb x x.st∧x.ho.length<60∧x.now<3990∧
 ∀(H':Hp) (F' Fb':Addr→Prop) (x':HSt),W41 K t H' a b d F' Fb' x' x'.st→x'.now=x.now→x'.ho.length≤x.ho.length+1→x'.st=x.st→Fr (Wx F Fb d) (Wx F' Fb' d) H H'→Q (.bl true) H'
theorem qo (T:Txt K mg t):aX P w K mg base CX0 7 t.kZ t.gU ["_law_house","_law_beside","_law_cell"] (p5 K t):=by
 have G5:= @oY P w K mg base t T
 have G9:= @mS P w K mg base t T
 have Gp:= @mP P w K mg base t T
 have Gy:= @hI P w K mg base t T
 have J0:= @dX P w K mg base t T
 have J6:= @dj P w K mg base t T
 refine T.tL.ok qe (λvs H Q E h=>?_) (λcdv A outer s H vs Q E hr h=>?_)
 ·obtain⟨a,b,d,c,F,Fb,x,rfl,_⟩:=h
  rfl
 ·obtain⟨a,b,d,c,F,Fb,x,rfl,W,l1,l2,q⟩:=h
  refine⟨_,(ae (bc (aC cW (aJ bB (aP J6 (hr.mono (by decide)) (by rfl) T.bv T.bi.kp T.bx .nil az (aa (pv 2) (aa aj ag))) aj) aj (aG _))
   (ae (aO (a8 (pv 0) T.ar T.Af G5 (hr.mono (by decide)) T.Ao .nil sG))
   (ah (aO (a8 (pv 0) T.ar T.zf G9 (hr.mono (by decide)) T.zQ .nil az))))
   aR)
   (ae (bc (PW.pt (oE (aC (Da K rfl hr.u20) (a8 (av (pv 0) rfl) T.aq T.fI J0 (hr.mono (by decide)) T.gb .nil az) (a8 (pv 1) T.aq T.fI J0 (hr.mono (by decide)) T.gb .nil az) (aG _)) (jL (aC qZ (a8 (av (pv 0) rfl) T.aq T.d6 Gy (hr.mono (by decide)) T.eE .nil az) (a8 (pv 1) T.aq T.d6 Gy (hr.mono (by decide)) T.eE .nil az) (aG _)))))
   (ah (aH im))
   aR)
   (ah (aH (dE (yW K rfl hr.u20) (a8 (av (pv 0) rfl) T.aq T.pf Gp (hr.mono (by decide)) T.pQ .nil az) (a8 (pv 1) T.aq T.pf Gp (hr.mono (by decide)) T.pQ .nil az) (aG _))))))
   ,?_⟩
  obtain⟨dx,fs,hi,hm,_⟩:=W.A.ins
  refine eK (λσ H'=>σ=[some (.ref a),some (.ref b),some (.int c)]∧∃(F':Addr→Prop) (x':HSt),W41 K t H' a b d F' Fb x' x.st∧x'.now=x.now∧x'.ho.length≤x.ho.length+1∧x'.st=x.st∧Fr F F' H H') (λnx go=>?_) (λσ H2 w=>?_)
  ·refine⟨_,rfl,c,8,rfl,_,_,rfl,rfl,(by show(0:Int)<3;decide),rfl,_,rfl,lZ (λz=>?_) (λz=>go _ _ ⟨rfl,F,x,W,rfl,Z4 _,rfl,Fr.refl⟩)⟩
   refine⟨_,rfl,a,dx,fs,rfl,hi,hm _ (by decide+kernel),a,F,x,rfl,W.A,by omega,λH1 F1 A1 f1=>?_⟩
   have W1:=W.own A1 f1 rfl rfl
   have lh:(uy x.ho x.now).length≤x.ho.length+1:=bL _ _ _
   obtain⟨dx1,fs1,hi1,hm1,_⟩:=A1.ins
   refine⟨_,rfl,a,dx1,fs1,rfl,hi1,hm1 _ (by decide+kernel),a,F1,_,rfl,A1,by show(uy x.ho x.now).length<64;omega,by show x.now<40000;omega,λH2 F2 fl pa2 c1 c2 c3 S A2 f2=>go _ _ ⟨rfl,F2,_,W1.own A2 f2 rfl rfl,rfl,lh,rfl,f1.trans f2⟩⟩
  obtain⟨rfl,F2,x2,W2,e1,e2,e3,f2⟩:=w
  rw[←e3]at W2
  have l4:x2.st.kv.length<4096:=by have:=W2.le;omega
  obtain⟨dx2,fs2,s,ds,fss,Fs,ho,hs,hsl,hm2,S,back⟩:=W2.A.sl
  refine⟨_,rfl,a,_,dx2,fs2,_,rfl,ho,T.ar,T.aV,hs,s,ds,fss,rfl,hsl,hm2 _ (by decide+kernel),s,Fs,x2.st,rfl,S,λH3 F3 lr S3 f3 nl3 oF3 hl3=>?_⟩
  obtain⟨F3,A3,g3,_⟩:=back H3 F3 S3 f3
  have W3:=W2.fr A3 g3
  have nlb:¬Fb lr:=W2.B.out nl3
  obtain⟨db,fb,hib,hmb⟩:=W3.B.ins
  refine⟨_,rfl,b,db,fb,rfl,hib,hmb _ (by decide+kernel),b,Fb,x2.st,rfl,W3.B,λH4 Fb4 lr2 S4 f4 nl4 oF4 hl4=>?_⟩
  have W4:=W3.be S4 f4
  refine⟨lr,lr2,x2.st.rows.map V.int,rfl,rfl,SqL.of (f4 _ _ nlb hl3).1,SqL.of hl4,(λv hv=>by obtain⟨i,_,rfl⟩:=Qb.mp hv;exact True.intro),_,rfl,cV ?_⟩
  have g4:Fr (Wx F Fb d) (Wx F3 Fb4 d) H H4:=((f2.trans g3).wx).trans f4.wxb
  obtain⟨dx4,fs4,s4,ds4,fss4,Fs4,ho4,hs4,hsl4,hm4,SS4,back4⟩:=W4.A.sl
  refine⟨_,rfl,a,_,dx4,fs4,_,rfl,ho4,T.ar,T.aV,hs4,s4,ds4,fss4,rfl,hsl4,hm4 _ (by decide+kernel),s4,Fs4,x2.st,rfl,SS4,λH5 F5 S5 f5=>?_⟩
  obtain⟨F5,A5,g5,_⟩:=back4 H5 F5 S5 f5
  have W5:=W4.fr A5 g5
  obtain⟨db5,fb5,hib5,hmb5⟩:=W5.B.ins
  refine⟨_,rfl,b,db5,fb5,rfl,hib5,hmb5 _ (by decide+kernel),b,Fb4,x2.st,rfl,W5.B,λH6 Fb6 S6 f6=>⟨rfl,_,rfl,rq rfl ?_⟩⟩
  have W6:=W5.be S6 f6
  have g6:=(g4.trans g5.wx).trans (f6.wxb (F:=F5) (d:=d))
  unfold nC
  (try dsimp only)
  obtain⟨dx7,fs7,s7,ds7,fss7,Fs7,ho7,hs7,hsl7,hm7,SS7,back7⟩:=W6.A.sl
  refine⟨_,rfl,a,_,dx7,fs7,_,rfl,ho7,T.ar,T.aV,hs7,s7,ds7,fss7,rfl,hsl7,hm7 _ (by decide+kernel),s7,Fs7,x2.st,rfl,SS7,l4,λH7 lc es s7' nlc hlc en up al _=>?_⟩
  have W7:=W6.same s7'
  obtain⟨db7,fb7,hib7,hmb7⟩:=W7.B.ins
  refine⟨_,rfl,b,db7,fb7,rfl,hib7,hmb7 _ (by decide+kernel),b,Fb6,x2.st,rfl,W7.B,l4,λH8 lc2 es2 s8 nlc2 hlc2 en2 up2 al2 _=>?_⟩
  have ce:CellsOf x2.st es:=⟨λe he=>(en e he).2.1,up,al⟩
  have ce2:CellsOf x2.st es2:=⟨λe he=>(en2 e he).2.1,up2,al2⟩
  obtain⟨le,ak⟩:=xY (K:=K) (H:=H8) ce ce2 (λe he=>(en e he).1.same s8) λe he=>(en2 e he).1
  exact⟨lc,lc2,_,_,rfl,rfl,.inl ⟨SqL.of (s8 _ _ hlc),SqL.of hlc2⟩,le,ak,q H8 F5 Fb6 x2 (W7.same s8) e1 e2 e3 (g6.trans (Fr.of_same (s7'.trans s8)))⟩
def ky2 (H:Hp) (b:Addr):List Int:=match H b with
 |some (.tup [.int i,.int j])=> [i,j]
 |_=> []
theorem vF {H:Hp} {b:Addr} {i j:Int} (h:H b=some (.tup [.int i,.int j])):ky2 H b=[i,j]:=by
 unfold ky2
 rw[h]
theorem wE:∀{kv:List (Int×V)},(∀p∈kv,∃i:Int,p.2= .int i)→∃ns:List (Int×Int),kv=ns.map λp=>(p.1,V.int p.2)
 | [],_=>⟨[],rfl⟩
 |p::r,h=>by
  obtain⟨i,e⟩:=h p Q8
  obtain⟨ns,en⟩:=wE λq hq=>h q (Qa _ hq)
  exact⟨(p.1,i)::ns,by rw[en,Qr,←e]⟩
theorem A7 {H:Hp} {kv:List (Int×V)} {ns:List (Int×Int)} {ts us:List Tp} {es:List (Addr×Int×Int)} (ek:kv=ns.map λp=>(p.1,V.int p.2)) (nd:(kv.map (·.1)).Nodup) (pk:(ts.map Tp.kv).Pairwise C6) (me:∀k v,(k,v)∈ts.map Tp.kv↔(k,v)∈kv) (tu:∀e∈ts,∃j:Int,e.v= .int j∧H e.p=some (.tup [.int e.k,.int j])) (up:us.Perm ts) (pu:(us.map (·.p)).Pairwise (λa b=>HT.lexLt (ky2 H b) (ky2 H a)=false))
  (pm:(es.map (·.2)).Perm ns) (pw:(es.map (·.2)).Pairwise λp q=>HT.lexLt [q.1,q.2] [p.1,p.2]=false):us.map Tp.kv=es.map λe=>(e.2.1,V.int e.2.2):=by
 have nt:(ts.map (·.k)).Nodup:=by
  refine Qp.mpr ((Qp.mp pk).imp λ{a b} h z=>?_)
  have h:plc a.k<plc b.k∨(plc a.k=plc b.k∧a.k<b.k):=h
  rw[show a.k=b.k from z]at h
  rcases h with h|⟨_,h⟩<;>omega
 have nu:(us.map (·.k)).Nodup:=((up.map (·.k)).nodup_iff).mpr nt
 have kn:kv.map (·.1)=ns.map (·.1):=by rw[ek,Qy];rfl
 have ne:((es.map (·.2)).map (·.1)).Nodup:=((pm.map (·.1)).nodup_iff).mpr (kn▸nd)
 refine eY (R:=λp q=>p.1<q.1) (λp q h1 h2=>by omega) ?_ ?_ (λz=>?_)
 ·refine Qp.mpr (((Qp.mp pu).and (Qp.mp nu)).imp_of_mem λ{x y} hx hy h2=>?_)
  obtain⟨i,_,ex⟩:=tu x (up.mem_iff.mp hx)
  obtain⟨j,_,ey⟩:=tu y (up.mem_iff.mp hy)
  obtain⟨h1,h2⟩:=h2
  rw[vF ex,vF ey,HT.lexLt_cons,if_neg (Ne.symm h2)]at h1
  have:=of_decide_eq_false h1
  show x.k<y.k
  omega
 ·have h:=(pw.and (Qp.mp ne)).imp (S:=λp q=>p.1<q.1) λ{p q} h=>by
   obtain⟨h1,h2⟩:=h
   rw[HT.lexLt_cons,if_neg (Ne.symm h2)]at h1
   have:=of_decide_eq_false h1
   omega
  have h:=Qp.mp h
  exact Qp.mpr h
 ·have ee:(es.map λe=>(e.2.1,V.int e.2.2))=(es.map (·.2)).map λp=>(p.1,V.int p.2):=by rw[Qy];rfl
  rw[(up.map Tp.kv).mem_iff,ee,(pm.map _).mem_iff,←ek]
  exact me z.1 z.2
theorem zT {ks:List Int} {n:Nat} (k0:∀k∈ks,0≤k) (l:ks.length≤n):(ks.filter λz=>decide ((0:Int)≤z)).take n=ks:=by
 rw[List.filter_eq_self.mpr λz hz=>decide_eq_true (k0 z hz),QN l]
theorem HoA.lvs {K:PySem.W.Frag} {t:Adr} {H:Hp} {a:Addr} {F:Addr→Prop} {x:HSt} (A:HoA K t H a F x):∃(dx:Addr) (fs:List (Str×V)) (l:Addr) (Fl:Addr→Prop),H a=some (.ins t.aB dx fs)∧fs.lookup ("leaves":Str)=some (.ref l)∧LvA K t H l Fl x.ks:=by
 obtain⟨s,l,wr,p,h,Fs,Fl,B,O,g⟩:=A
 obtain⟨dx,ho⟩:=B.o.ob
 exact⟨dx,_,l,Fl,ho,vL,B.lv⟩
theorem HoA.rise {H:Hp} {a:Addr} {F:Addr→Prop} {x:HSt} (A:HoA K t H a F x):b9 x.ks:=by
 obtain⟨s,l,wr,p,h,Fs,Fl,B,O,g⟩:=A
 exact B.lv.rise
theorem HoA.nd {H:Hp} {a:Addr} {F:Addr→Prop} {x:HSt} (A:HoA K t H a F x):(x.st.kv.map (·.1)).Nodup:=by
 obtain⟨s,l,wr,p,h,Fs,Fl,B,O,g⟩:=A
 obtain⟨_,_,_,_,nd,_⟩:=B.sl
 exact nd
theorem xV {kv:List (Int×V)} {k:Int} (h:(aI kv k).isSome=true):(bp kv k).length+1≤kv.length:=by
 cases e:aI kv k with
 |none=>rw[e]at h;cases h
 |some v=>
  unfold bp
  exact List.length_filter_lt_length_iff_exists.mpr ⟨_,eP e,by simp⟩
theorem W41.notup {H:Hp} {a b d z:Addr} {F Fb:Addr→Prop} {x:HSt} {sb:SSt} {xs:List V} (W:W41 K t H a b d F Fb x sb) (e:H z=some (.tup xs)):¬Wx F Fb d z:=λy=>y.elim (λy=>by
  obtain⟨o,e',n⟩:=W.A.dom y
  rw[e]at e'
  cases e'
  exact n _ rfl) λy=>y.elim (W.B.notup e) λy=>by
  rw[y,W.di]at e
  cases e
def yC (K:PySem.W.Frag):Sp:=λvs H Q _=>∃(a:Addr) (ns:List Int),vs=[.ref a]∧SqL K H a (ns.map V.int)∧ns.length≤63∧∀H',Q (.bl true) H'
theorem Dg (T:Txt K mg t):aX P w K mg base CX0 9 t.CD t.wO ["_law_script"] (yC K):=by
 have G6:= @oX P w K mg base t T
 have G7:= @iz P w K mg base t T
 have Gc:= @jO P w K mg base t T
 have Gq:= @ir P w K mg base t T
 have Gu:= @iq P w K mg base t T
 have Gy:= @hI P w K mg base t T
 have Gz:= @i9 P w K mg base t T
 have J1:= @oR P w K mg base t T
 have J3:= @qo P w K mg base t T
 have J4:= @qm P w K mg base t T
 have J5:= @sK P w K mg base t T
 have J7:= @mw P w K mg base t T
 have J9:= @ql P w K mg base t T
 have Ja:= @qk P w K mg base t T
 refine T.Eu.ok sc_law (λvs H Q E h=>?_) (λcdv A outer s H vs Q E hr h=>?_)
 ·obtain⟨a,ns,rfl,_⟩:=h
  rfl
 ·obtain⟨sc,ns,rfl,hS,hlen,q⟩:=h
  refine⟨_,(ae (aF (i:=1) sc_law.nd rfl (Or.inl rfl) (ij T.Ec G6 (hr.mono (by decide)) (by rfl) T.Ef T.An .nil az))
   (ae (aF (i:=2) sc_law.nd rfl (Or.inl rfl) (ij T.y7 Gu (hr.mono (by decide)) (by rfl) T.y9 T.qF .nil az))
   (ae (aF (i:=3) sc_law.nd rfl (Or.inl rfl) ik)
   (ae (bc (PW.pt (oE (aC qZ (av (pv 1) rfl) aj (aG _)) (jL (aC qZ (a8 (pv 1) T.ar T.qu G7 (hr.mono (by decide)) T.qJ .nil az) aj (aG _)))))
   (ah (aH im))
   aR)
   (ae (fE PassesOwn.never rfl (cm (ii kh (pv 0) kr (kq aj))) (bN (i:=4) sc_law.nd rfl (Or.inl rfl))
   (ae (fE PassesOwn.never rfl (cm (aP J4 (hr.mono (by decide)) (by rfl) T.BD T.tK.kp T.BR .nil az (aa (pv 4) (aa (pv 3) ag)))) (sF rfl (dq (bN (i:=5) sc_law.nd rfl (Or.inl rfl)) (dq (bN (i:=6) sc_law.nd rfl (Or.inl rfl)) mW)))
   (ae (aF (i:=7) sc_law.nd rfl (Or.inl rfl) (av (pv 1) rfl))
   (ae (aF (i:=8) sc_law.nd rfl (Or.inl rfl) (aP Ja (hr.mono (by decide)) (by rfl) T.BC T.tJ.kp T.BQ .nil az (aa (aJ bJ (pv 4) (aJ bB (pv 6) aj)) ag)))
   (ae (bc (PW.pt (gI (aC eO (ax mj (by rfl) T.bE a9 (aa (pv 3) ag)) aj (aG _)) (dD (jM (fB (aP J5 (hr.mono (by decide)) (by rfl) T.Cw T.uP.kp T.CC .nil az (aa (pv 1) (aa (pv 3) (aa (pv 5) (aa (pv 6) (aa (pv 8) ag)))))))))))
   (ah (aH im))
   aR)
   (ae (bc (PW.pt (gI (aC mt (av (pv 1) rfl) (pv 7) (aG _)) (dD (aC cW (pv 5) cr (aG _)))))
   (ah (aO (aN (pv 2) T.aq T.sO Gz (hr.mono (by decide)) T.tD .nil az (aa (pv 6) (aa (pv 8) ag)))))
   (ah (bc (aC mt (av (pv 1) rfl) (pv 7) (aG _))
   (ah (aO (aN (pv 2) T.aq T.qr Gq (hr.mono (by decide)) T.qG .nil sG (aa (pv 6) ag))))
   aR)))
   (ah (bc (PW.pt (oE (jM (fB (aP J9 (hr.mono (by decide)) (by rfl) T.sQ T.lC.kp T.tx .nil az (aa (pv 1) (aa (pv 3) (aa (pv 6) ag)))))) (jL (aC qZ (a8 (av (pv 1) rfl) T.aq T.d6 Gy (hr.mono (by decide)) T.eE .nil az) (a8 (pv 2) T.aq T.d6 Gy (hr.mono (by decide)) T.eE .nil az) (aG _)))))
   (ah (aH im))
   aR)))))))
   (ah (bc (PW.pt (oE (jM (fB (aP J9 (hr.mono (by decide)) (by rfl) T.sQ T.lC.kp T.tx .nil az (aa (pv 1) (aa (pv 3) (aa (aP J7 (hr.mono (by decide)) (by rfl) T.vD T.pV.kp T.vR .nil az (aa (aJ bJ (pv 4) aj) ag)) ag)))))) (jL (jM (fB (aP J3 (hr.mono (by decide)) (by rfl) T.BE T.tL.kp T.BS .nil az (aa (pv 1) (aa (pv 2) (aa (pv 4) ag)))))))))
   (ah (aH im))
   aR))))
   (ae (aF (i:=9) sc_law.nd rfl (Or.inl rfl) (ax tq (by rfl) T.gd c8 (aa (aN (av (pv 1) rfl) T.aq T.Ab J1 (hr.mono (by decide)) T.Ai .nil az (aa aj (aa aj ag))) ag)))
   (ah (aH (gK (dE (yW K rfl hr.u20) (pv 9) (ax (qz hr.hd) (by rfl) T.gd c8 (aa (lM QG ZO Xc o8 (pv 3)) ag)) (aG _)) (oJ (dE (Db K rfl hr.u20) (aN (av (pv 1) rfl) T.aD T.ww Gc (hr.mono (by decide)) T.wR .nil az (aa aj (aa aj ag))) (ax (kP hr.hd) (by rfl) T.gd c8 (aa (lM QG Xe PySem.F.type_dict_keys wq (pv 3)) ag)) (aG _))))))))))))
   ,?_⟩
  refine λa dx na nd nad=>⟨a,dx,rfl,af,λH1 F1 A1 f1=>⟨rfl,?_⟩⟩
  have c1:SqF K F1 H1 sc (ns.map V.int):=((SqF.of (F:=λb=>b=a) hS λo e z=>by rw[z,na]at e;cases e).fr (Fr.of_same (cE (ao nd) na))).fr f1
  refine λb db nb ndb nbd=>⟨b,db,rfl,af,by rw[ac (by first|exact nbd|exact Ne.symm nbd),af],λH2 Fb B2 f2=>⟨rfl,λd n2=>?_⟩⟩
  have o2:∀z o,H1 z=some o→H2 z=some o∧¬Fb z:=λz o e=>f2 z o (λy=>y.elim (λy=>by rw[y,nb]at e;cases e) λy=>by rw[y,ndb]at e;cases e) (by rw[ac (ai e nb),ac (ai e ndb)];exact e)
  have A2:HoA K t H2 a F1 HSt.new:=A1.keep (λz hz=>by
   obtain⟨o,e,_⟩:=A1.dom hz
   rw[e]
   exact(o2 z o e).1) λz xs e=>(o2 z _ e).1
  have sd:=ao (o:= .dK []) n2
  have W0:W41 K t (upd H2 d (.dK [])) a b d F1 Fb HSt.new SSt.new:=⟨A2.same sd,B2.same sd,λz hz hF=>by
   obtain⟨o,e,_⟩:=A1.dom hF
   exact(o2 z o e).2 hz,af,⟨A2.out n2,B2.out n2⟩,(λk hk=>by cases hk),(λp hp=>by cases hp),by decide,rfl⟩
  have c2:SqF K (Wx F1 Fb d) (upd H2 d (.dK [])) sc (ns.map V.int):=by
   refine(c1.fr (F':=Wx F1 Fb d) (H':=H2) λz o n e=>⟨(o2 z o e).1,λy=>y.elim n λy=>y.elim (o2 z o e).2 λy=>?_⟩).fr (Fr.of_same sd)
   have:=(o2 z o e).1
   rw[y,n2]at this
   cases this
  (try dsimp only)
  generalize upd H2 d (.dK [])=H3 at W0 c2⊢
  show AM (CQ _ _ _) _ _ _ H3
  refine eK (λσ H'=>∃F1,σ=[some (.ref sc),some (.ref a),some (.ref b),some (.ref d),none,none,none,none,none,none]∧W41 K t H' a b d F1 Fb HSt.new SSt.new∧SqF K (Wx F1 Fb d) H' sc (ns.map V.int)) (λnx go=>?_) (λσ H4 w=>?_)
  ·obtain⟨dx,fs,hi,hm,hn,_⟩:=W0.A.ins
   refine⟨_,rfl,a,_,dx,fs,_,rfl,hi,T.ar,T.aS,hn,rfl,_,rfl,rq rfl ⟨_,rfl,a,dx,fs,rfl,hi,hm _ (by decide+kernel),a,F1,_,rfl,W0.A,λH4 F4 A4 f4=>⟨rfl,_,rfl,rq rfl (go _ _ ⟨F4,rfl,W0.fr A4 f4,c2.fr f4.wx⟩)⟩⟩⟩
  obtain⟨F4,rfl,W4,c4⟩:=w
  refine⟨_,rfl,24,rfl,sc,_,rfl,c4.sq,λp1 np1=>?_⟩
  rw[pJ (by decide),←ZX]
  obtain⟨cs,ecs⟩:∃cs,ns.take (24:Int).toNat=cs:=⟨_,rfl⟩
  have lcs:cs.length≤24:=by rw[←ecs,Qm];exact Nat.min_le_left _ _
  rw[ecs]
  have s5:=ao (o:= .lst (cs.map V.int)) np1
  have W5:=W4.same s5
  have c5:=c4.fr (Fr.of_same s5)
  have o1:¬Wx F4 Fb d p1:=λz=>z.elim (W4.A.out np1) λz=>z.elim (W4.B.out np1) λz=>by rw[z,W4.di]at np1;cases np1
  have h1:upd H4 p1 (.lst (cs.map V.int)) p1=some (.lst (cs.map V.int)):=af
  generalize upd H4 p1 (.lst (cs.map V.int))=H5 at W5 c5 h1⊢
  refine⟨p1,rfl,⟨_,SqL.of h1⟩,iV (K:=K) (a:=p1) (xs:=cs.map V.int) (λi σ H'=>∃(F Fb:Addr→Prop) (x:HSt) (v4 v5 v6 v7 v8:Option V),σ=[some (.ref sc),some (.ref a),some (.ref b),some (.ref d),v4,v5,v6,v7,v8,none]∧W41 K t H' a b d F Fb x x.st∧x.now+(x.st.kv.length:Int)≤80*(i:Int)∧x.st.kv.length≤300∧x.ho.length≤i∧H' p1=some (.lst (cs.map V.int))∧¬Wx F Fb d p1∧SqF K (Wx F Fb d) H' sc (ns.map V.int))
   ⟨F4,Fb,HSt.new,_,_,_,_,_,rfl,W5,by decide,by decide,by decide,h1,o1,c5⟩ (λi σ H' _ w=>by obtain⟨_,_,_,_,_,_,_,_,_,_,_,_,_,e,_⟩:=w;exact SqL.of e) (λi z σ H' hz w'=>?_) (λσ H' w'=>?_)⟩
  ·obtain⟨F,Fb,x,v4,v5,v6,v7,v8,rfl,W,ln,lk,lh,hp,op,cS⟩:=w'
   have hi:=(Q4.mp hz).1
   rw[Q0]at hi
   obtain⟨c,hc,rfl⟩:=Qb.mp (Q3 hz)
   refine⟨_,rfl,_,rfl,c,d,x.st.kv,rfl,W.di,by omega,W.kb,λH6 l ts s6 nl hl tu tl tw=>?_⟩
   have W6:=W.same s6
   have hp6:=s6 _ _ hp
   have cS6:=cS.fr (Fr.of_same s6)
   have ol:¬Wx F Fb d l:=λz=>z.elim (W.A.out nl) λz=>z.elim (W.B.out nl) λz=>by rw[z,W.di]at nl;cases nl
   refine⟨l,rfl,⟨_,SqL.of hl⟩,iV (K:=K) (a:=l) (xs:=ts.map λe=>V.ref e.p) (λj σ H'=>∃(F Fb:Addr→Prop) (x:HSt) (v5 v6 v7 v8:Option V),σ=[some (.ref sc),some (.ref a),some (.ref b),some (.ref d),some (.int c),v5,v6,v7,v8,none]∧W41 K t H' a b d F Fb x x.st∧((∀e∈ts,e.wd="drop")∧x.now+(x.st.kv.length:Int)≤80*(i:Int)∨ts.length≤40∧x.now+(x.st.kv.length:Int)≤80*(i:Int)+2*(j:Int))∧x.st.kv.length≤300∧x.ho.length≤i∧H' p1=some (.lst (cs.map V.int))∧¬Wx F Fb d p1∧SqF K (Wx F Fb d) H' sc (ns.map V.int)∧H' l=some (.lst (ts.map λe=>V.ref e.p))∧¬Wx F Fb d l∧∀e∈ts,uR H' e)
    ⟨F,Fb,x,v5,v6,v7,v8,rfl,W6,tw.imp (λh=>⟨h,ln⟩) (λh=>⟨h,by omega⟩),lk,lh,hp6,op,cS6,hl,ol,tu⟩ (λj σ H' _ w=>by obtain⟨_,_,_,_,_,_,_,_,_,_,_,_,_,_,_,e,_⟩:=w;exact SqL.of e) (λj z σ H' hz' w'=>?_) (λσ H' w'=>?_)⟩
   ·obtain⟨F,Fb,x,v5,v6,v7,v8,rfl,W,lw,lk,lh,hp,op,cS,hl,ol,tu⟩:=w'
    have hj:=(Q4.mp hz').1
    rw[Q0]at hj
    obtain⟨e,he,rfl⟩:=Qb.mp (Q3 hz')
    have T0:=tu e he
    obtain⟨dx,fs,ha,hm,hn,_⟩:=W.A.ins
    refine⟨e.p,_,rfl,SqT.of T0.tu,rfl,_,_,rfl,_,_,rfl,rfl,?_⟩
    (try dsimp only)
    refine⟨_,rfl,a,_,dx,fs,_,rfl,ha,T.ar,T.aS,hn,?_⟩
    (try dsimp only)
    refine⟨_,rfl,_,rfl,_,_,rfl,rfl,(by show(0:Int)<7;decide),_,_,rfl,rfl,_,rfl,?_⟩
    have nw:x.now<3900:=by rcases lw with⟨_,z⟩|⟨_,z⟩<;>omega
    generalize vlu (c+e.k%7)=vl
    unfold kM
    (try dsimp only)
    refine eK (λσ H2=>∃F2 x2,σ=[some (.ref sc),some (.ref a),some (.ref b),some (.ref d),some (.int c),some (.str e.wd),some (.int e.k),some (.int x.now),some (.int vl),none]∧W41 K t H2 a b d F2 Fb x2 x.st∧(x2=x∨Did e.wd e.k vl x x2)∧x2.ho=x.ho∧x2.now≤x.now+1∧x2.st.kv.length≤300∧Fr (Wx F Fb d) (Wx F2 Fb d) H' H2) (λnx go=>?_) (λσ H2 w=>?_)
    ·refine⟨_,rfl,d,_,rfl,W.di,?_⟩
     rw[bC]
     refine⟨_,_,rfl,rfl,_,rfl,?_⟩
     by_cases cl:(x.st.kv.length:Int)<300
     ·rw[decide_eq_true cl]
      refine cO ⟨_,rfl,_,rfl,_,rfl,_,rfl,_,rfl,a,b,d,e.k,vl,e.wd,F,Fb,x,x.st,rfl,W,T0.wd,T0.k0,nw,by omega,λH2 F2 x2 W2 di h2 n2 l2 f2=>⟨_,rfl,cV (go _ _ ⟨F2,x2,rfl,W2,.inr di,h2,n2,l2,f2⟩)⟩⟩
     ·rw[decide_eq_false cl]
      exact cV (go _ _ ⟨F,x,rfl,W,.inl rfl,rfl,by omega,lk,Fr.refl⟩)
    obtain⟨F2,x2,rfl,W2,di,h2,n2,l2,f2⟩:=w
    replace hp:=f2 _ _ op hp
    replace cS:=cS.fr f2
    replace hl:=f2 _ _ ol hl
    replace tu:∀e∈ts,uR H2 e:=λe he=>⟨(f2 _ _ (W.notup (tu e he).tu) (tu e he).tu).1,(tu e he).wd,(tu e he).k0⟩
    clear hm hn
    refine eK (λσ H3=>∃F3 Fb3,σ=[some (.ref sc),some (.ref a),some (.ref b),some (.ref d),some (.int c),some (.str e.wd),some (.int e.k),some (.int x.now),some (.int vl),none]∧W41 K t H3 a b d F3 Fb3 x2 x2.st∧Fr (Wx F2 Fb d) (Wx F3 Fb3 d) H2 H3) (λnx go=>?_) (λσ H3 w=>?_)
    ·obtain⟨dx,fs,ha,hm,hn,_⟩:=W2.A.ins
     refine⟨_,rfl,a,_,dx,fs,_,rfl,ha,T.ar,T.aS,hn,_,rfl,_,_,rfl,rfl,_,rfl,?_⟩
     rcases(show x2=x∨_ from di.elim .inl λz=>z.elim (λz=> .inl z.2) .inr)with z|⟨z,y⟩
     ·subst z
      rw[decide_eq_false (by omega)]
      refine cV (cV ⟨_,rfl,a,_,dx,fs,_,rfl,ha,T.ar,T.aS,hn,_,rfl,_,_,rfl,rfl,_,rfl,?_⟩)
      rw[decide_eq_false (by omega)]
      exact cV (go _ _ ⟨F2,Fb,rfl,W2,Fr.refl⟩)
     ·rw[decide_eq_true (by omega)]
      obtain⟨ds,fss,hb,hmb⟩:=W2.B.ins
      rcases y with⟨ew,es⟩|⟨ew,hv,es⟩
      ·rw[ew]
       refine cO ⟨_,rfl,rfl,_,rfl,pC rfl ⟨_,rfl,b,ds,fss,rfl,hb,hmb _ (by decide+kernel),_,rfl,_,rfl,b,e.k,vl,Fb,x.st,rfl,W2.B,T0.k0,by omega,λH3 Fb3 B3 f3=>?_⟩⟩
       rw[←es]at B3
       exact go _ _ ⟨F2,Fb3,by rw[ew],W2.be B3 f3,f3.wxb⟩
      ·rw[ew]
       refine cO ⟨_,rfl,rfl,_,rfl,bR (by decide+kernel) ⟨_,rfl,a,_,dx,fs,_,rfl,ha,T.ar,T.aS,hn,_,rfl,_,_,rfl,rfl,_,rfl,?_⟩⟩
       rw[decide_eq_true (by omega)]
       refine cO ⟨_,rfl,b,ds,fss,rfl,hb,hmb _ (by decide+kernel),_,rfl,b,e.k,Fb,x.st,rfl,W2.B,T0.k0,λ_=>⟨by omega,λH3 Fb3 B3 f3=>?_⟩,λy=>by rw[y]at hv;cases hv⟩
       rw[←es]at B3
       exact go _ _ ⟨F2,Fb3,by rw[ew],W2.be B3 f3,f3.wxb⟩
    obtain⟨F3,Fb3,rfl,W3,f3⟩:=w
    replace hp:=f3 _ _ hp.2 hp.1
    replace cS:=cS.fr f3
    replace hl:=f3 _ _ hl.2 hl.1
    replace tu:∀e∈ts,uR H3 e:=λe he=>⟨(f3 _ _ (W2.notup (tu e he).tu) (tu e he).tu).1,(tu e he).wd,(tu e he).k0⟩
    refine vK (vo (λH'=>∃F',W41 K t H' a b d F' Fb3 x2 x2.st∧Fr F3 F' H3 H') (λR' go'=>?_) (λH4 w=>?_))
    ·exact⟨_,rfl,_,rfl,_,rfl,a,b,d,e.k,F3,Fb3,x2,x2.st,rfl,W3,T0.k0,by omega,λH4 F4 W4 f4=>⟨_,rfl,go' _ ⟨F4,W4,f4⟩⟩⟩
    obtain⟨F4,W4,f4⟩:=w
    obtain⟨dx,fs,s4,ds4,fss4,Fs4,ho4,hs4,hsl4,hm4,SS4,back4⟩:=W4.A.sl
    refine⟨_,rfl,a,_,dx,fs,_,rfl,ho4,T.ar,T.aV,hs4,s4,ds4,fss4,rfl,hsl4,hm4 _ (by decide+kernel),s4,Fs4,x2.st,rfl,SS4,λH5 F5 S5 f5=>?_⟩
    obtain⟨F5,A5,g5,_⟩:=back4 H5 F5 S5 f5
    have W5:=W4.fr A5 g5
    obtain⟨db5,fb5,hib5,hmb5⟩:=W5.B.ins
    refine⟨_,rfl,b,db5,fb5,rfl,hib5,hmb5 _ (by decide+kernel),b,Fb3,x2.st,rfl,W5.B,λH6 Fb6 S6 f6=>⟨rfl,_,rfl,rq rfl ?_⟩⟩
    have W6:=W5.be S6 f6
    have g6:=((f4.trans g5).wx).trans (f6.wxb (F:=F5) (d:=d))
    unfold nC
    (try dsimp only)
    refine⟨F5,Fb6,x2,_,_,_,_,rfl,W6,?_,l2,by rw[h2];exact lh,(g6 _ _ hp.2 hp.1).1,(g6 _ _ hp.2 hp.1).2,cS.fr g6,(g6 _ _ hl.2 hl.1).1,(g6 _ _ hl.2 hl.1).2,λe he=>⟨(g6 _ _ (W3.notup (tu e he).tu) (tu e he).tu).1,(tu e he).wd,(tu e he).k0⟩⟩
    have su:x2.now+(x2.st.kv.length:Int)≤x.now+(x.st.kv.length:Int)∨e.wd="put"∧x2.now+(x2.st.kv.length:Int)≤x.now+(x.st.kv.length:Int)+2:=by
     rcases(show x2=x∨_ from di.elim .inl λz=>z.elim (λz=> .inl z.2) .inr)with z|⟨z,y⟩
     ·rw[z]
      exact .inl (ZH _)
     ·rcases y with⟨ew,es⟩|⟨ew,hv,es⟩
      ·refine .inr ⟨ew,?_⟩
       have:=bL x.st.kv e.k (.int vl)
       rw[z,es,show(x.st.put e.k (.int vl)).kv=bg x.st.kv e.k (.int vl) from SSt.three_kv]
       omega
      ·refine .inl ?_
       have:=xV hv
       rw[z,es,show(x.st.drop e.k).kv=bp x.st.kv e.k from SSt.three_kv]
       omega
    rcases lw with⟨w1,w2⟩|⟨w1,w2⟩
    ·refine .inl ⟨w1,?_⟩
     rcases su with su|⟨su,_⟩
     ·omega
     ·rw[w1 e he]at su
      exact absurd su (by decide+kernel)
    ·refine .inr ⟨w1,?_⟩
     rcases su with su|⟨_,su⟩<;>omega
   ·obtain⟨F,Fb,x,v5,v6,v7,v8,rfl,W,lw,lk,lh,hp,op,cS,hl,ol,tu⟩:=w'
    rw[Q0]at lw
    have ln:x.now+(x.st.kv.length:Int)≤80*((i:Int)+1):=by rcases lw with⟨_,z⟩|⟨y,z⟩<;>omega
    (try dsimp only)
    refine vK (vo (λH2=>∃F2,W41 K t H2 a b d F2 Fb x x.st∧Fr (Wx F Fb d) (Wx F2 Fb d) H' H2) (λR' go'=>?_) (λH2 w=>?_))
    ·exact⟨_,rfl,_,rfl,_,rfl,_,_,rfl,rfl,c+1,rfl,λH2 k s2 k0 _=>⟨a,b,d,k,F,Fb,x,x.st,rfl,W.same s2,k0,by omega,λH3 F3 W3 f3=>⟨_,rfl,go' _ ⟨F3,W3,(Fr.of_same s2).trans f3.wx⟩⟩⟩⟩
    obtain⟨F2,W2,f2⟩:=w
    refine⟨_,rfl,_,rfl,_,rfl,a,b,d,c,F2,Fb,x,rfl,W2,by omega,by omega,λH3 F3 Fb3 x3 W3 n3 h3 s3 f3=>⟨_,rfl,cV ?_⟩⟩
    have f4:=f2.trans f3
    unfold nC
    (try dsimp only)
    exact⟨F3,Fb3,x3,_,_,_,_,_,rfl,W3,by rw[n3,s3];omega,by rw[s3];exact lk,by omega,(f4 _ _ op hp).1,(f4 _ _ op hp).2,cS.fr f4⟩
  ·obtain⟨F,Fb,x,v4,v5,v6,v7,v8,rfl,W,ln,lk,lh,hp,op,cS⟩:=w'
   obtain⟨dx,fs,s,ds,fss,Fs,ho,hs,hsl,hm,S,back⟩:=W.A.sl
   refine⟨_,rfl,a,_,dx,fs,_,rfl,ho,T.ar,T.aV,hs,s,ds,fss,rfl,hsl,hm _ (by decide+kernel),s,0,65536,Fs,x.st,rfl,S,by omega,W.iv,λH2 F2 l ts S2 f2 nl _ hl tu pk me=>?_⟩
   obtain⟨F3,A3,g3,_⟩:=back H2 F2 S2 f2
   have W3:=W.fr A3 g3
   have hl:H2 l=some (.lst ((ts.map (·.p)).map V.ref)):=by rw[hl,Qy];rfl
   have me:∀k v,(k,v)∈ts.map Tp.kv↔(k,v)∈x.st.kv:=λk v=>(me k v).trans ⟨λh=>h.1,λh=>⟨h,yQ k⟩⟩
   have tu:∀e∈ts,∃j:Int,e.v= .int j∧H2 e.p=some (.tup [.int e.k,.int j]):=λe he=>by
    obtain⟨j,ej⟩:=W.iv _ ((me e.k e.v).mp (X1 he))
    have ej:e.v= .int j:=ej
    exact⟨j,ej,by rw[←ej];exact(tu e he).1⟩
   refine⟨l,ts.map (·.p),ky2 H2,rfl,SqL.of hl,λb hb=>?_,λL bs nL pm pu=>?_⟩
   ·obtain⟨e,he,rfl⟩:=Qb.mp hb
    obtain⟨j,_,te⟩:=tu e he
    exact⟨_,_,te,vF te⟩
   obtain⟨us,up,ue⟩:=kt pm
   subst ue
   have s4:=ao (o:= .lst ((us.map (·.p)).map V.ref)) nL
   have hL:upd H2 L (.lst ((us.map (·.p)).map V.ref)) L=some (.lst (us.map λe=>V.ref e.p)):=by
    rw[af,Qy]
    rfl
   have W4:=W3.same s4
   (try dsimp only)
   generalize upd H2 L (.lst ((us.map (·.p)).map V.ref))=H4 at s4 hL W4⊢
   obtain⟨nz,ez⟩:=wE W4.iv
   have ti:H4 d=some (.dK (ivs nz)):=by
    have h:=W4.di
    rw[ez]at h
    unfold aE at h
    rw[Qy]at h
    exact h
   refine⟨_,rfl,_,rfl,.inr (.inr (.inl ⟨rfl,.inl ⟨_,ti⟩⟩)),d,_,rfl,rfl,ti,λvw nv=>⟨vw,d,nz,rfl,af,ao nv _ _ ti,λH9 l9 es s9 nl9 hl9 eu pm9 pw9=>?_⟩⟩
   have tkv:=A7 ez W4.A.nd pk me tu up pu pm9 pw9
   have lts:us.length=es.length:=by simpa using congrArg List.length tkv
   have s10:=(ao (o:=vwO vw d) nv).trans s9
   have W9:=W4.same s10
   refine⟨L,l9,_,_,rfl,rfl,.inl ⟨SqL.of (s10 _ _ hL),SqL.of hl9⟩,by rw[Q0,Q0,lts],λj u v hu hv=>?_,?_⟩
   ·rw[Ql]at hu hv
    cases c3:us[j]? with
    |none=>rw[c3]at hu;cases hu
    |some u1=>
     cases c4:es[j]? with
     |none=>rw[c4]at hv;cases hv
     |some e1=>
      rw[c3]at hu
      rw[c4]at hv
      cases hu
      cases hv
      have ee:=congrArg (λl:List (Int×V)=>l[j]?) tkv
      rw[Ql,Ql,c3,c4]at ee
      have e3:u1.kv=(e1.2.1,V.int e1.2.2):=Option.some.inj ee
      have e4:u1.k=e1.2.1:=congrArg Prod.fst e3
      have e5:u1.v= .int e1.2.2:=congrArg Prod.snd e3
      obtain⟨i,ei,h1⟩:=tu u1 (up.mem_iff.mp (Q3 c3))
      rw[ei]at e5
      rw[e4,e5]at h1
      refine .inr ⟨_,_,_,_,rfl,rfl,.inr ⟨SqT.of (s10 _ _ (s4 _ _ h1)),SqT.of (eu e1 (Q3 c4)).2⟩,rfl,λj u v hu hv=>?_⟩
      rcases j with _|_|j
      ·cases hu;cases hv;exact .inl ⟨True.intro,rfl⟩
      ·cases hu;cases hv;exact .inl ⟨True.intro,rfl⟩
      ·cases hu
   obtain⟨dl,fl,lf,Fl,ho,hlv,LV⟩:=W9.A.lvs
   obtain⟨dm,fm,him,hmm⟩:=LV.ins
   have ri:=W9.A.rise
   have nk:=W9.A.nd
   have mk:∀z,z∈x.ks↔z∈x.st.kv.map (·.1):=λz=>(W9.A.ok.ks z).trans mem_keys.symm
   have lks:x.ks.length≤400:=by
    have:=(List.perm_ext_iff_of_nodup (ri.imp λh=>by omega) nk).mpr mk
    rw[this.length_eq,Q0]
    omega
   refine⟨_,rfl,cO ⟨_,rfl,a,_,dl,fl,_,rfl,ho,T.ar,T.dw,hlv,lf,dm,fm,rfl,him,hmm _ (by decide+kernel),lf,0,400,Fl,x.ks,rfl,LV,by omega,by decide,λH10 r s11 nr hr=>?_⟩⟩
   rw[zT (λz hz=>W9.kb z ((mk z).mp hz)) (show x.ks.length≤Int.toNat 400 from lks)]at hr
   have di:=s11 _ _ W9.di
   refine⟨_,rfl,.inr (.inr (.inl ⟨rfl,.inl ⟨_,di⟩⟩)),d,_,rfl,rfl,di,λvw2 nv2=>⟨vw2,d,_,x.st.kv.map (·.1),rfl,af,ao nv2 _ _ di,lX,λlm ms nlm pmm pwm=>?_⟩⟩
   have em:ms=x.ks:=tW ((pwm.and ((pmm.nodup_iff).mpr nk)).imp λh=>by omega) ri λz=>by rw[pmm.mem_iff,mk]
   subst em
   exact⟨r,lm,_,rfl,rfl,SqL.of (ao nlm _ _ (ao nv2 _ _ hr)),SqL.of af,(λv hv=>by obtain⟨i,_,rfl⟩:=Qb.mp hv;exact True.intro),q _⟩
end
end SW
namespace ZK
open PySem PySem.W SW L2
theorem fM {P:Params} {x qual:Str} {st:Stmt} {a:Addr} {kV doc pm cdv ct:Value} {an:Option Addr} (l:(K P).lookup a=some (f (D x qual st N kV doc pm an cdv ct)):=by kernel_rfl) (c:codeIn (K P) cdv qual=true:=by kernel_rfl) (k:keepIn (K P) (.ref a)=true:=by kernel_rfl):Fun (K P) x qual st a (D x qual st N kV doc pm an cdv ct):=Dr l c k
theorem nA {P:Params} {C:Addr} {x:Str} (h:findIn (K P) (.ref C) x=some none:=by kernel_rfl):NoAttr (K P) C x:=h
end ZK
namespace SW
open PySem L2
set_option maxHeartbeats 0
theorem us1 {α:Type} {us:List α} (hl:us.length=1):∃x0,us=[x0]:=by rcases us with _|⟨x0,_|⟨y,t⟩⟩<;>first|exact⟨_,rfl⟩|simp at hl
theorem us2 {α:Type} {us:List α} (hl:us.length=2):∃x0 x1,us=[x0,x1]:=by rcases us with _|⟨x0,_|⟨x1,_|⟨y,t⟩⟩⟩<;>first|exact⟨_,_,rfl⟩|simp at hl
theorem us3 {α:Type} {us:List α} (hl:us.length=3):∃x0 x1 x2,us=[x0,x1,x2]:=by rcases us with _|⟨x0,_|⟨x1,_|⟨x2,_|⟨y,t⟩⟩⟩⟩<;>first|exact⟨_,_,_,rfl⟩|simp at hl
theorem us5 {α:Type} {us:List α} (hl:us.length=5):∃x0 x1 x2 x3 x4,us=[x0,x1,x2,x3,x4]:=by rcases us with _|⟨x0,_|⟨x1,_|⟨x2,_|⟨x3,_|⟨x4,_|⟨y,t⟩⟩⟩⟩⟩⟩<;>first|exact⟨_,_,_,_,_,rfl⟩|simp at hl
open ZK in
theorem txt {P:Params} {h:Heap} {mg:Str→Option Value} (X:(ZK.K P).In h) (G:h.Ns mainGlobals mg):Txt (ZK.K P) mg ZK.t:=⟨Qq X G (by kernel_rfl),
  Qq X G (by kernel_rfl),
  Qq X G (by kernel_rfl),
  Qq X G (by kernel_rfl),
  Qq X G (by kernel_rfl),
  Qq X G (by kernel_rfl),
  Qq X G (by kernel_rfl),
  Qq X G (by kernel_rfl),
  ZK.fM,
  .all λus hl=>by obtain⟨_,_,rfl⟩:=us2 hl;rfl,
  ZK.fM,
  .all λus hl=>by obtain⟨_,_,rfl⟩:=us2 hl;rfl,
  ZK.fM,
  .all λus hl=>by obtain⟨_,_,rfl⟩:=us2 hl;rfl,
  Qq X G (by kernel_rfl),
  ZK.fM,
  .all λus hl=>by obtain⟨_,rfl⟩:=us1 hl;rfl,
  Qq X G (by kernel_rfl),
  ZK.fM,
  .all λus hl=>by obtain⟨_,rfl⟩:=us1 hl;rfl,
  Qq X G (by kernel_rfl),
  ZK.fM,
  .all λus hl=>by obtain⟨_,rfl⟩:=us1 hl;rfl,
  Qq X G (by kernel_rfl),
  ZK.fM,
  .all λus hl=>by obtain⟨_,_,rfl⟩:=us2 hl;rfl,
  Qq X G (by kernel_rfl),
  ZK.fM,
  .all λus hl=>by obtain⟨_,_,rfl⟩:=us2 hl;rfl,
  Qq X G (by kernel_rfl),
  ZK.fM,
  .all λus hl=>by obtain⟨_,_,rfl⟩:=us2 hl;rfl,
  ZK.fM,
  .all λus hl=>by obtain⟨_,rfl⟩:=us1 hl;rfl,
  ZK.fM,
  .all λus hl=>by obtain⟨_,_,rfl⟩:=us2 hl;rfl,
  ZK.fM,
  .all λus hl=>by obtain⟨_,_,rfl⟩:=us2 hl;rfl,
  ZK.fM,
  .all λus hl=>by obtain⟨_,_,rfl⟩:=us2 hl;rfl,
  ZK.fM,
  .all λus hl=>by obtain⟨_,_,_,rfl⟩:=us3 hl;rfl,
  ZK.fM,
  .all λus hl=>by obtain⟨_,_,rfl⟩:=us2 hl;rfl,
  ZK.fM,
  .all λus hl=>by obtain⟨_,_,rfl⟩:=us2 hl;rfl,
  ZK.fM,
  .all λus hl=>by obtain⟨_,_,rfl⟩:=us2 hl;rfl,
  ZK.fM,
  .all λus hl=>by obtain⟨_,rfl⟩:=us1 hl;rfl,
  ZK.fM,
  .all λus hl=>by obtain⟨_,_,_,rfl⟩:=us3 hl;rfl,
  ZK.fM,
  .all λus hl=>by obtain⟨_,_,rfl⟩:=us2 hl;rfl,
  Qq X G (by kernel_rfl),
  ZK.fM,
  .all λus hl=>by obtain⟨_,rfl⟩:=us1 hl;rfl,
  ZK.fM,
  .all λus hl=>by obtain⟨_,rfl⟩:=us1 hl;rfl,
  ZK.fM,
  .all λus hl=>by obtain⟨_,_,_,rfl⟩:=us3 hl;rfl,
  ZK.fM,
  .all λus hl=>by obtain⟨_,_,rfl⟩:=us2 hl;rfl,
  ZK.fM,
  .all λus hl=>by obtain⟨_,_,rfl⟩:=us2 hl;rfl,
  ZK.fM,
  .all λus hl=>by obtain⟨_,_,rfl⟩:=us2 hl;rfl,
  ZK.fM,
  .all λus hl=>by obtain⟨_,rfl⟩:=us1 hl;rfl,
  ZK.fM,
  .all λus hl=>by obtain⟨_,rfl⟩:=us1 hl;rfl,
  ZK.fM,
  .all λus hl=>by obtain⟨_,rfl⟩:=us1 hl;rfl,
  ZK.fM,
  .all λus hl=>by obtain⟨_,rfl⟩:=us1 hl;rfl,
  ZK.fM,
  .all λus hl=>by obtain⟨_,_,_,rfl⟩:=us3 hl;rfl,
  ZK.fM,
  .all λus hl=>by obtain⟨_,_,rfl⟩:=us2 hl;rfl,
  ZK.fM,
  .all λus hl=>by obtain⟨_,_,rfl⟩:=us2 hl;rfl,
  ZK.fM,
  .all λus hl=>by obtain⟨_,_,rfl⟩:=us2 hl;rfl,
  ZK.fM,
  .all λus hl=>by obtain⟨_,rfl⟩:=us1 hl;rfl,
  ZK.fM,
  .all λus hl=>by obtain⟨_,rfl⟩:=us1 hl;rfl,
  ZK.fM,
  .all λus hl=>by obtain⟨_,rfl⟩:=us1 hl;rfl,
  ZK.fM,
  .all λus hl=>by obtain⟨_,_,_,rfl⟩:=us3 hl;rfl,
  ZK.fM,
  .all λus hl=>by obtain⟨_,_,rfl⟩:=us2 hl;rfl,
  ZK.fM,
  .all λus hl=>by obtain⟨_,_,rfl⟩:=us2 hl;rfl,
  ZK.fM,
  .all λus hl=>by obtain⟨_,_,rfl⟩:=us2 hl;rfl,
  ZK.fM,
  .all λus hl=>by obtain⟨_,rfl⟩:=us1 hl;rfl,
  ZK.fM,
  .all λus hl=>by obtain⟨_,rfl⟩:=us1 hl;rfl,
  ZK.fM,
  .all λus hl=>by obtain⟨_,rfl⟩:=us1 hl;rfl,
  ZK.fM,
  .all λus hl=>by obtain⟨_,rfl⟩:=us1 hl;rfl,
  ZK.fM,
  .all λus hl=>by obtain⟨_,_,_,rfl⟩:=us3 hl;rfl,
  Qq X G (by kernel_rfl),
  ZK.fM,
  .all λus hl=>by obtain⟨_,_,rfl⟩:=us2 hl;rfl,
  Qq X G (by kernel_rfl),
  ZK.fM,
  .all λus hl=>by obtain⟨_,rfl⟩:=us1 hl;rfl,
  Qq X G (by kernel_rfl),
  ZK.fM,
  .all λus hl=>by obtain⟨_,rfl⟩:=us1 hl;rfl,
  Qq X G (by kernel_rfl),
  ZK.fM,
  .all λus hl=>by obtain⟨_,_,rfl⟩:=us2 hl;rfl,
  Qq X G (by kernel_rfl),
  ZK.fM,
  .all λus hl=>by obtain⟨_,_,_,rfl⟩:=us3 hl;rfl,
  Qq X G (by kernel_rfl),
  ZK.fM,
  .all λus hl=>by obtain⟨_,_,_,_,_,rfl⟩:=us5 hl;rfl,
  Qq X G (by kernel_rfl),
  ZK.fM,
  .all λus hl=>by obtain⟨_,_,_,rfl⟩:=us3 hl;rfl,
  Qq X G (by kernel_rfl),
  ZK.fM,
  .all λus hl=>by obtain⟨_,_,_,rfl⟩:=us3 hl;rfl,
  Qq X G (by kernel_rfl),
  ZK.fM,
  .all λus hl=>by obtain⟨_,rfl⟩:=us1 hl;rfl,
  ⟨⟨_,_,_,_,_,_,_,_,_,_,_,_,_,_,(by rfl)⟩,⟨[],rfl⟩,(by kernel_rfl),(by kernel_rfl),(by kernel_rfl),(by kernel_rfl)⟩,
  ZK.nA,
  ⟨⟨_,_,_,_,_,_,_,_,_,_,_,_,_,_,(by rfl)⟩,⟨[ZK.t.bH],rfl⟩,(by kernel_rfl),(by kernel_rfl),(by kernel_rfl),(by kernel_rfl)⟩,
  ⟨(by kernel_rfl),(by kernel_rfl),(by kernel_rfl),(by kernel_rfl)⟩,
  (by kernel_rfl),
  (by kernel_rfl),
  ZK.nA,
  ⟨⟨_,_,_,_,_,_,_,_,_,_,_,_,_,_,(by rfl)⟩,⟨[ZK.t.bH],rfl⟩,(by kernel_rfl),(by kernel_rfl),(by kernel_rfl),(by kernel_rfl)⟩,
  ZK.nA,
  ⟨⟨_,_,_,_,_,_,_,_,_,_,_,_,_,_,(by rfl)⟩,⟨[ZK.t.bH],rfl⟩,(by kernel_rfl),(by kernel_rfl),(by kernel_rfl),(by kernel_rfl)⟩,
  ZK.nA,
  ⟨(by kernel_rfl),(by kernel_rfl),(by kernel_rfl),(by kernel_rfl)⟩,
  ⟨(by kernel_rfl),(by kernel_rfl),(by kernel_rfl),(by kernel_rfl)⟩,
  ⟨(by kernel_rfl),(by kernel_rfl),(by kernel_rfl)⟩,
  ⟨(by kernel_rfl),(by kernel_rfl),(by kernel_rfl)⟩,
  ⟨(by kernel_rfl),(by kernel_rfl),(by kernel_rfl)⟩,
  ⟨(by kernel_rfl),(by kernel_rfl),(by kernel_rfl)⟩,
  ⟨(by kernel_rfl),(by kernel_rfl),(by kernel_rfl)⟩,
  ⟨(by kernel_rfl),(by kernel_rfl),(by kernel_rfl)⟩,
  ⟨(by kernel_rfl),(by kernel_rfl),(by kernel_rfl)⟩,
  ZK.nA,
  ⟨(by kernel_rfl),(by kernel_rfl),(by kernel_rfl),(by kernel_rfl)⟩,
  ⟨(by kernel_rfl),(by kernel_rfl),(by kernel_rfl),(by kernel_rfl)⟩,
  ⟨(by kernel_rfl),(by kernel_rfl),(by kernel_rfl)⟩,
  ⟨(by kernel_rfl),(by kernel_rfl),(by kernel_rfl)⟩,
  ZK.nA,
  ZK.nA,
  ZK.nA,
  ⟨(by kernel_rfl),(by kernel_rfl),(by kernel_rfl),(by kernel_rfl)⟩,
  ⟨(by kernel_rfl),(by kernel_rfl),(by kernel_rfl),(by kernel_rfl)⟩,
  ⟨(by kernel_rfl),(by kernel_rfl),(by kernel_rfl)⟩,
  ⟨(by kernel_rfl),(by kernel_rfl),(by kernel_rfl)⟩,
  ⟨(by kernel_rfl),(by kernel_rfl),(by kernel_rfl)⟩,
  ⟨(by kernel_rfl),(by kernel_rfl),(by kernel_rfl)⟩,
  ⟨(by kernel_rfl),(by kernel_rfl),(by kernel_rfl)⟩,
  ⟨(by kernel_rfl),(by kernel_rfl),(by kernel_rfl)⟩,
  ⟨(by kernel_rfl),(by kernel_rfl),(by kernel_rfl)⟩,
  ⟨(by kernel_rfl),(by kernel_rfl),(by kernel_rfl)⟩,
  ⟨(by kernel_rfl),(by kernel_rfl),(by kernel_rfl)⟩,
  ⟨(by kernel_rfl),(by kernel_rfl),(by kernel_rfl)⟩,
  ⟨(by kernel_rfl),(by kernel_rfl),(by kernel_rfl)⟩,
  ⟨(by kernel_rfl),(by kernel_rfl),(by kernel_rfl)⟩,
  ⟨(by kernel_rfl),(by kernel_rfl),(by kernel_rfl)⟩,
  ⟨(by kernel_rfl),(by kernel_rfl),(by kernel_rfl)⟩,
  ZK.nA,
  ZK.nA,
  ZK.nA,
  ZK.nA,
  ZK.nA,
  ZK.nA,
  ZK.nA,
  ZK.nA,
  ⟨(by kernel_rfl),(by kernel_rfl),(by kernel_rfl),(by kernel_rfl)⟩,
  ⟨(by kernel_rfl),(by kernel_rfl),(by kernel_rfl),(by kernel_rfl)⟩,
  ⟨(by kernel_rfl),(by kernel_rfl),(by kernel_rfl)⟩,
  ⟨(by kernel_rfl),(by kernel_rfl),(by kernel_rfl)⟩,
  ⟨(by kernel_rfl),(by kernel_rfl),(by kernel_rfl)⟩,
  ⟨(by kernel_rfl),(by kernel_rfl),(by kernel_rfl)⟩,
  ⟨(by kernel_rfl),(by kernel_rfl),(by kernel_rfl)⟩,
  ⟨(by kernel_rfl),(by kernel_rfl),(by kernel_rfl)⟩,
  ⟨(by kernel_rfl),(by kernel_rfl),(by kernel_rfl)⟩,
  ⟨(by kernel_rfl),(by kernel_rfl),(by kernel_rfl)⟩,
  ⟨(by kernel_rfl),(by kernel_rfl),(by kernel_rfl)⟩,
  ⟨(by kernel_rfl),(by kernel_rfl),(by kernel_rfl)⟩,
  (by kernel_rfl),
  (by kernel_rfl),
  (by kernel_rfl),
  (by kernel_rfl),
  ⟨291,Qq X G (by kernel_rfl)⟩,
  ⟨293,Qq X G (by kernel_rfl)⟩,
  ⟨346,Qq X G (by kernel_rfl)⟩,
  ⟨348,Qq X G (by kernel_rfl)⟩,
  ⟨522,Qq X G (by kernel_rfl)⟩,
  ⟨524,Qq X G (by kernel_rfl)⟩,
  QT X G (by kernel_rfl),
  QT X G (by kernel_rfl),
  QT X G (by kernel_rfl),
  QT X G (by kernel_rfl),
  QT X G (by kernel_rfl),
  QT X G (by kernel_rfl),
  QT X G (by kernel_rfl),
  QT X G (by kernel_rfl),
  QT X G (by kernel_rfl),
  QT X G (by kernel_rfl)⟩
theorem walk {l:PySem.W.OpenLaw} {q:Program} {loose:List Str} {XP:(Str→Option Value)→Heap→Prop} {YP:World→Heap→Prop} {d:DefRec} {K:Params→PySem.W.Frag} (hn:l.most=some 63) (hdf:d.params.defaults=[])
  (hY:∀(w:World) (h:Heap),YP w h→(K w.params).In h) (hd:d.name="law")
  (F:∀(w:World) (mg:Str→Option Value) (h:Heap),(K w.params).In h→h.Ns mainGlobals mg→∃t,Txt (K w.params) mg t):
  PySem.W.WalkO q loose XP YP l.row.toRowW d [] (λf vs=>PySem.call f vs):=by
 refine L2.walk_of (n:=63) (k:=9) (x:="_law_script") (CX:=λ_=>CX0) (sp:=λw=>yC (K w.params)) hn (by decide) hdf ⟨rfl,by decide,by decide⟩ hY (λw mg fa h KX G hfa=>?_) (λ_ _ a ns hl _ hS=>⟨a,ns,rfl,hS,hl,λ_=>rfl⟩) λ_ _ _ _ _ z=>z
 obtain⟨t,T⟩:=F w mg h KX G
 have e:=hfa.symm.trans ((congrArg mg hd).trans T.Ex)
 cases e
 obtain⟨oc,od,kV,doc,pm,an,cdv,ct,osl,e1,lk,hcd⟩:=T.Eu.ex
 refine⟨t.wO,λs u=>?_,λbase _ _=>Dg T⟩
 rw[e1]
 exact .of_eq rfl
end SW
open PySem PySem.W PyProof.Rows
set_option maxRecDepth 100000 in
set_option maxHeartbeats 0 in
theorem PySem.Challenge.cw_staywalk_k41_a_plain_table_holds : PySem.Challenge.rw_staywalk_k41_a_plain_table.Holds := by
 w_on
 refine holds_law ZK.said λsaid=>?_
 refine holds_open (q:=ZK.q) (loose:=[]) (Xt:=λs=>xlAt ZK.q [] s&&recOk (RowW.records (OpenRow.toRowW (OpenLaw.row PySem.Challenge.rw_staywalk_k41_a_plain_table))) s) (XP:=XL ZK.q []) (Yf:=Hook.obs ZK.H) (Ya:=Hook.val ZK.H) (YP:=Hook.says ZK.H) ZK.left (Hook.of ZK.H) (Hook.keeps ZK.H) (λs e=>xl_of s (Bool.and_eq_true_iff.mp e).1) XL.keeps (by rfl) (by rfl) (by rfl) (λs e=>recFacts_of (Bool.and_eq_true_iff.mp e).2) (by rfl) (by first|assumption|decide+kernel) (by decide+kernel) ⟨rfl,rfl,rfl,rfl,rfl,by decide+kernel⟩ ?hw ?hc
 (case hw=>w_witness2)
 exact SW.walk (l:=PySem.Challenge.rw_staywalk_k41_a_plain_table) rfl rfl (λw h Y=>kIn_of Y) rfl λw mg h KX G=>⟨_,SW.txt KX G⟩
#print axioms PySem.Challenge.cw_staywalk_k41_a_plain_table_holds
