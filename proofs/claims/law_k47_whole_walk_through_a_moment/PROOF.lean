import PyProof.Rows.All
import PySem.Challenge.RW_staywalk_k47_whole_walk_through_a_moment
import KE.KFromBytes
import KE.KItemsList
import KE.KPairComp
import KE.KSortTup
import KE.KIsAll
import KE.KRevIter
import KE.KRevSl
import KE.KDictOf
set_option Elab.async false
set_option linter.all false
set_option maxRecDepth 100000
set_option maxHeartbeats 0
abbrev Q0:=@List.length_map
abbrev Q2:=@List.mem_of_getElem?
abbrev Q3:=@List.getElem?_eq_some_iff
abbrev Q4:=@List.getElem?_eq_getElem
abbrev Q5:=@Nat.le_refl
abbrev Q6:=@List.mem_append
abbrev Q7:=@Bool.false_ne_true
abbrev Q8:=@Array.length_toList
abbrev Q9:=@List.length_append
abbrev Qa:=@List.mem_cons_of_mem
abbrev Qb:=@List.length_take
abbrev Qc:=@List.size_toArray
abbrev Qd:=@List.mem_cons_self
abbrev Qe:=@List.mem_singleton
abbrev Qf:=@List.length_cons
abbrev Qg:=@List.getElem?_map
abbrev Qh:=@List.mem_map
abbrev Qi:=@Nat.zero_le
abbrev Qj:=@List.mem_cons
abbrev Qk:=@List.pairwise_append
abbrev Ql:=@List.length_filter_le
abbrev Qm:=@List.map_append
abbrev Qn:=@List.append_assoc
abbrev Qo:=@List.mem_append_right
abbrev Qp:=@PySem.F.plainAttrs_list
abbrev Qq:=@List.getElem?_set
abbrev Qr:=@List.length_drop
abbrev Qs:=@Nat.lt_of_lt_of_le
abbrev Qt:=@List.mem_filter
abbrev Qu:=@List.map_cons
abbrev Qv:=@Nat.ne_of_lt
abbrev Qw:=@List.take_add_one
abbrev Qx:=@Array.getElem?_toList
abbrev Qy:=@List.getD_eq_getElem?_getD
abbrev Qz:=@List.length_singleton
abbrev QA:=@List.take_append_drop
abbrev QB:=@List.filter_append
abbrev QC:=@List.take_of_length_le
abbrev QD:=@List.map_map
abbrev QE:=@List.nodup_cons
abbrev QF:=@List.length_set
abbrev QG:=@PySem.F.plainAttrs_dict
abbrev QH:=@Array.toList_append
abbrev QI:=@List.getElem_of_mem
abbrev QJ:=@List.pairwise_iff_getElem
abbrev QK:=@Int.emod_nonneg
abbrev QL:=@Nat.le_trans
abbrev QM:=@List.mem_of_mem_take
abbrev QN:=@List.filter_cons
abbrev QO:=@Nat.max_eq_right
abbrev QP:=@List.take_length
abbrev QQ:=@Bool.and_eq_true_iff
abbrev QR:=@List.drop_eq_getElem_cons
abbrev QS:=@Bool.false_eq_true
abbrev QT:=@Int.emod_lt_of_pos
abbrev QU:=@List.drop_eq_nil_of_le
abbrev QV:=@Int.le_refl
abbrev QW:=@Int.toNat_natCast
abbrev QX:=@List.getElem?_cons_succ
abbrev QY:=@List.all_eq_true
abbrev QZ:=@List.extract_eq_take_drop
abbrev Z0:=@List.length_pos_iff
abbrev Z1:=@List.length_reverse
abbrev Z2:=@PySem.W.kia_one
abbrev Z3:=@Bool.decide_and
abbrev Z4:=@List.getElem_mem
abbrev Z5:=@Option.map_eq_some_iff
abbrev Z6:=@Nat.le_of_lt
abbrev Z7:=@List.getElem?_append_left
abbrev Z8:=@List.getElem?_eq_none_iff
abbrev Z9:=@List.mem_iff_getElem?
abbrev Za:=@List.contains_cons
abbrev Zb:=@List.pairwise_cons
abbrev Zc:=@Nat.le_of_eq
abbrev Zd:=@List.mem_of_mem_eraseIdx
abbrev Ze:=@PySem.F.slot_list_append
abbrev Zf:=@PySem.F.type_list_append
abbrev Zg:=@List.map_take
abbrev Zh:=@List.mem_append_left
abbrev Zi:=@Array.toList_extract
abbrev Zj:=@List.flatten_cons
abbrev Zk:=@List.map_congr_left
abbrev Zl:=@List.flatten_append
abbrev Zm:=@List.mem_map_of_mem
abbrev Zn:=@List.filter_eq_nil_iff
abbrev Zo:=@PySem.W.callWith_K
abbrev Zp:=@List.getElem?_append_right
abbrev Zq:=@List.drop_zero
abbrev Zr:=@PySem.W.methodCall_KW
abbrev Zs:=@List.length_replicate
abbrev Zt:=@List.ne_nil_of_length_pos
abbrev Zu:=@List.mem_or_eq_of_mem_set
abbrev Zv:=@List.find?_cons
abbrev Zw:=@List.getElem_drop
abbrev Zx:=@List.getElem_take
abbrev Zy:=@List.pairwise_map
abbrev Zz:=@List.mem_of_mem_drop
abbrev ZA:=@Nat.lt_irrefl
abbrev ZB:=@List.eq_of_mem_replicate
abbrev ZC:=@List.nodup_nil
abbrev ZD:=@List.mem_reverse
abbrev ZE:=@Nat.le_succ
abbrev ZF:=@Nat.eq_zero_or_pos
abbrev ZG:=@List.append_nil
abbrev ZH:=@Array.getElem?_eq_some_iff
abbrev ZI:=@List.mem_iff_getElem
abbrev ZJ:=@Nat.lt_succ_self
abbrev ZL:=@List.lookup_cons
abbrev ZM:=@Option.isSome_iff_exists
abbrev ZN:=@List.getElem?_take_of_lt
abbrev ZO:=@List.map_drop
abbrev ZP:=@List.pairwise_singleton
abbrev ZQ:=@List.length_eq_zero_iff
abbrev ZR:=@List.getElem?_set_self
abbrev ZS:=@Bool.eq_false_iff
abbrev ZT:=@PySem.F.slot_dict_pop
abbrev ZU:=@List.perm_append_comm
abbrev ZV:=@List.concat_eq_append
abbrev ZW:=@Bool.and_eq_true
abbrev ZX:=@List.not_mem_nil
abbrev ZY:=@List.any_cons
abbrev ZZ:=@PySem.W.mg_of
abbrev X0:=@Array.push_eq_append
abbrev X1:=@List.length_nil
abbrev X2:=@Nat.min_eq_left
abbrev X3:=@Int.ne_of_gt
abbrev X4:=@Bool.false_and
abbrev X5:=@Nat.lt_of_le_of_lt
abbrev X6:=@List.getElem?_drop
abbrev X7:=@Array.perm_iff_toList_perm
abbrev X8:=@List.filter_congr
abbrev X9:=@PySem.F.slot_list_insert
abbrev Xa:=@PySem.F.type_list_insert
abbrev Xb:=@List.cons_append
abbrev Xc:=@Int.eq_ofNat_of_zero_le
abbrev Xd:=@PySem.F.slot_dict_items
abbrev Xe:=@List.map_reverse
abbrev Xf:=@Bool.or_true
abbrev Xg:=@Nat.add_zero
abbrev Xh:=@PySem.F.slot_dict_keys
abbrev Xi:=@Int.le_trans
abbrev Xj:=@Bool.eq_iff_iff
abbrev Xk:=@List.of_mem_zip
abbrev Xl:=@Option.map_some
abbrev Xm:=@Nat.not_lt_zero
abbrev Xn:=@List.nil_append
abbrev Xo:=@PySem.F.slot_dict_get
abbrev Xp:=@List.getElem?_eq_none
abbrev Xq:=@Array.getElem_push_lt
abbrev Xr:=@PySem.F.type_dict_pop
abbrev Xs:=@List.pairwise_reverse
abbrev Xu:=@Array.toArray_toList
abbrev Xv:=@List.getElem?_set_ne
abbrev Xw:=@List.getElem?_append
abbrev Xx:=@List.length_eraseIdx
abbrev Xy:=@List.mem_of_getLast?
abbrev Xz:=@List.filterMap_cons
abbrev XA:=@PySem.W.plainGet_of
abbrev XB:=@List.take_succ_cons
abbrev XC:=@List.reverse_append
abbrev XD:=@Bool.true_and
abbrev XE:=@List.take_nil
abbrev XF:=@Nat.not_lt
abbrev XG:=@List.filter_filter
abbrev XH:=@List.eraseIdx_append_of_length_le
abbrev XI:=@Nat.ne_of_gt
abbrev XJ:=@Option.isSome_map
abbrev XM:=@Nat.zero_add
abbrev XQ:=@Array.toList_push
abbrev XR:=@Int.ne_of_lt
abbrev XS:=@List.map_set
abbrev XT:=@List.find?_append
abbrev XU:=@List.eraseIdxIfInBounds_toArray
abbrev XV:=@List.mem_flatten
abbrev XW:=@List.drop_length
abbrev XX:=@List.take_append_of_le_length
abbrev XY:=@PySem.F.slot_dict_setdefault
abbrev XZ:=@Int.fdiv_eq_ediv_of_nonneg
abbrev K0:=@Bool.and_false
abbrev K2:=@PySem.F.excBase_ValueError
abbrev K3:=@List.drop_drop
abbrev K4:=@Array.toList_setIfInBounds
namespace L2
open PySem PySem.Spec PyProof.Rows
noncomputable def aM (s:Stmt) (j:Nat):Stmt:=match s with
 | .ClassDef _ _ _ body _ _ _ _ _ _ _=>body.getD j (.Pass ⟨0,0,0,0⟩)
 |_=> .Pass ⟨0,0,0,0⟩
noncomputable def fA (s:Stmt):Arguments:=match s with
 | .FunctionDef _ a _ _ _ _ _ _ _ _=>a
 |_=>{posonlyargs:=[],args:=[],vararg:=none,kwonlyargs:=[],kw_defaults:=[],kwarg:=none,defaults:=[]}
noncomputable def b7 (s:Stmt):List Stmt:=match s with
 | .FunctionDef _ _ b _ _ _ _ _ _ _=>b
 |_=> []
noncomputable def aj (s:Stmt):Scope:=match s with
 | .FunctionDef _ _ _ _ _ _ sc _ _ _=>sc
 |_=>{kind:= .function,names:=[],isGenerator:=false,isCoroutine:=false}
end L2
namespace HD
open PySem PySem.W
noncomputable def CB (p:Program) (w:World) (n₀:Nat) (ann:Option Value):Nat->SharedT->Thread->Option SharedT
 |0,_,_=>none
 |n+1,s,t=>match through t with
  |true=>some s
  |false=>match Fast.tw6613529449190102663 n₀ ann t with
   |false=>none
   |true=>match Fast.tw10156331382660048174 (Fast.tw11892475500146522536 Fast.tw14364793385576792824) p w s t with
    |some (s',t')=>CB p w n₀ ann n s' t'
    |none=>none
theorem xY {p:Program} {w:World} {n₀:Nat} {ann:Option Value}:∀{n:Nat} {s s':SharedT} {t:Thread},CB p w n₀ ann n s t=some s'->topRun treeTable p w n₀ ann n s.abs t=some s'.abs
 |0,_,_,_,h=>by cases h
 |n+1,s,s',t,h=>by
  unfold CB at h;rw[<-Fast.te6613529449190102663,<-Fast.te10156331382660048174,<-Fast.te11892475500146522536,<-Fast.te14364793385576792824]at h;unfold topRun;cases ht:through t with
  |true=>rw[ht]at h;cases h;rfl
  |false=>
   rw[ht]at h;cases hk:stepOk n₀ ann t with
   |false=>rw[hk]at h;cases h
   |true=>
    rw[hk]at h;cases hs:stepT (denote treeTable) p w s t with
    |none=>rw[hs]at h;cases h
    |some x=>
     obtain⟨s2,t2⟩:=x;rw[hs]at h;show(match step (denote treeTable) p w s.abs t with| .go s' t'=>topRun treeTable p w n₀ ann n s' t'| .halt _ _=>none)=_;rw[stepT_spec hs];exact xY h
noncomputable def layT:List Obj->BT->Nat->Option (BT×Nat)
 | [],t,n=>some (t,n)
 |o::r,t,n=>match ((t.ins n o).get n).isSome with
  |true=>layT r (t.ins n o) (n+1)
  |false=>none
theorem yu {life:Life}:∀{l:List Obj} {t t':BT} {n n':Nat},layT l t n=some (t',n')->absHeap t' n' life=⟨(absHeap t n life).objs++l.toArray,life⟩
 | [],t,t',n,n',h=>by
  cases h;rw[Array.append_empty];rfl
 |o::r,t,t',n,n',h=>by
  unfold layT at h;cases g:((t.ins n o).get n).isSome with
  |false=>rw[g]at h;cases h
  |true=>
   rw[g]at h;rw[yu h,absHeap_ins g];show Heap.mk _ _=Heap.mk _ _;congr 1;show(absHeap t n life).objs.push o++r.toArray=_;rw[<-Array.append_singleton,Array.append_assoc];congr 1;simp
noncomputable def toT (s:Shared):Option SharedT:=match layT s.heap.objs.toList .nil 0 with
 |some (t,n)=>some ⟨t,n,s.heap.life,s.gens,s.drawn,s.toks,s.os⟩
 |none=>none
theorem Ec {s:Shared} {S:SharedT} (h:toT s=some S):S.abs=s:=by
 unfold toT at h;cases e:layT s.heap.objs.toList .nil 0 with
 |none=>rw[e]at h;cases h
 |some x=>
  obtain⟨t,n⟩:=x;rw[e]at h;cases h;obtain⟨⟨objs,life⟩,gens,drawn,toks,os⟩:=s;show Shared.mk (absHeap t n life) _ _ _ _=_;rw[yu e];show Shared.mk (Heap.mk (#[]++objs.toList.toArray) life) _ _ _ _=_;rw[Xu,Array.empty_append]
noncomputable def E1 (p:Program) (w:World) (N:Nat) (s₀:Shared):Option Shared:=match toT s₀ with
 |some S=>(CB p w S.n (s₀.heap.nsMap mainGlobals "__annotations__") N S (topStub p)).map SharedT.abs
 |none=>none
theorem Dm {p:Program} {w:World} {N:Nat} {s₀ s₁:Shared} (h:E1 p w N s₀=some s₁):topRun treeTable p w s₀.heap.objs.size (s₀.heap.nsMap mainGlobals "__annotations__") N s₀ (topStub p)=some s₁:=by
 unfold E1 at h;cases e:toT s₀ with
 |none=>rw[e]at h;cases h
 |some S=>
  rw[e]at h;obtain⟨S1,h1,rfl⟩:=Z5.mp h;have ea:=Ec e;have en:S.n=s₀.heap.objs.size:=by
   rw[<-ea];exact(absHeap_size _ _ _).symm
  rw[en]at h1;have:=xY h1;rw[ea]at this;exact this
noncomputable def endP (p:Program) (w:World) (N:Nat):Option Shared:=((Fast.tw10274390034422433532 Fast.tw14364793385576792824 (opening p) w N (start (opening p)).1 (start (opening p)).2).bind (Fast.tw14289696077712309145 p)).bind λs₀=>match s₀.heap.isNs mainGlobals&&s₀.gens.size==0 with
 |true=>(E1 p w N s₀).bind λs₁=>match staticsOk (importedModules p.main.body) s₀.heap s₁.heap&&namesBound p s₁.heap&&gensDone s₁&&laidKept s₀.heap s₁.heap with
  |true=>some s₁
  |false=>none
 |false=>none
noncomputable def lA (p q:Program) (N:Nat) (w:World):=(endP p w N).map λs=>(Fast.tw5160383126252970620 (R.mapR (λx=>x.name) (Fast.tw3399658132070893891 q)) (Fast.tw5991557255702980513 q) [] {s with gens:= #[]},s.heap.bltView)
noncomputable def lB (p q:Program) (loose:List Str) (Xt:Shared->Bool) (N:Nat) (w:World):=(endP p w N).map λs=>(Fast.tw10880121769531294198 s.heap (Fast.tw821141287760084731 q loose) (R.mapR (λx=>x.name) (Fast.tw3399658132070893891 q)) (R.mapR (λx=>x.fst) (Fast.tw7409074990110511671 q)) (R.mapR (λx=>x.name) (Fast.tw13664370479719496447 q (Fast.tw821141287760084731 q loose)))&&Fast.tw14722251495701143533 s.heap (importedModules p.main.body)&&s.heap.isNs mainGlobals&&s.heap.isNs builtinsNs&&Fast.tw10994771534591457954 q s.heap&&Xt s&&(s.gens.size==0),Fast.tw479339242167458305 q s)
noncomputable def lC (p q:Program) (loose:List Str) (N:Nat) (w:World):=(endP p w N).map λs=>(Fast.tw16090120013241838585 q (Fast.tw3247288618530077131 q) s,Fast.tw2386780881361962483 q (Fast.tw821141287760084731 q loose) s,Fast.tw11698064438423848299 q loose s,Fast.tw7317090234206586261 q s,Fast.tw7369524293546568484 q loose s)
theorem left_of {p q:Program} {loose:List Str} {Xt:Shared->Bool} {α:Type} {Yf:Shared->α} {Ya:World->α} {N:Nat} (hA:∀w,lA p q N w=some ((openGood q loose).1,(openGood q loose).2.1)) (hB:∀w,lB p q loose Xt N w=some (true,true)) (hC:∀w,lC p q loose N w=some (openGood q loose).2.2.2.2) (hD:∀w,(endP p w N).map Yf=some (Ya w)):LeftO p q loose Xt Yf Ya N:=λw=>by
 obtain⟨s₁,e,a⟩:=Z5.mp (hA w);obtain⟨_,e2,b⟩:=Z5.mp (hB w);rw[e]at e2;cases e2;obtain⟨_,e3,c⟩:=Z5.mp (hC w);rw[e]at e3;cases e3;obtain⟨_,e4,d⟩:=Z5.mp (hD w);rw[e]at e4;cases e4;obtain⟨a1,a2⟩:=Prod.mk.inj a;obtain⟨b1,b2⟩:=Prod.mk.inj b;have g:Fast.tw4187177175401517315 q loose (importedModules p.main.body) Xt true s₁=openGood q loose:=by
  exact Prod.ext a1 (Prod.ext a2 (Prod.ext b1 (Prod.ext b2 c)))
 rw[<-Fast.te4187177175401517315]at g;unfold endP at e;rw[<-Fast.te10274390034422433532,<-Fast.te14364793385576792824,<-Fast.te14289696077712309145]at e;obtain⟨s₀,h0,e⟩:=Option.bind_eq_some_iff.mp e;unfold openEnds fencedOpening;rw[h0];show(topFrom treeTable p w N s₀).map _=_;unfold topFrom;cases hg:(s₀.heap.isNs mainGlobals&&s₀.gens.size==0)with
 |false=>rw[hg]at e;cases e
 |true=>
  rw[hg]at e;obtain⟨s₂,h1,e⟩:=Option.bind_eq_some_iff.mp e;show Option.map _ ((topRun treeTable p w s₀.heap.objs.size (s₀.heap.nsMap mainGlobals "__annotations__") N s₀ (topStub p)).bind _)=_;rw[Dm h1];cases hs:(staticsOk (importedModules p.main.body) s₀.heap s₂.heap&&namesBound p s₂.heap&&gensDone s₂&&laidKept s₀.heap s₂.heap)with
  |false=>rw[hs]at e;cases e
  |true=>
   rw[hs]at e;cases e;show Option.map _ (match (staticsOk (importedModules p.main.body) s₀.heap s₁.heap&&namesBound p s₁.heap&&gensDone s₁&&laidKept s₀.heap s₁.heap)with|true=>some s₁|false=>none)=_;rw[hs];show some (_,_)=some (_,_);rw[g,d]
end HD
namespace SW
open PySem L2
set_option maxHeartbeats 0
noncomputable def top (i:Nat):Stmt:=PySem.Challenge.pw_staywalk_k47_whole_walk_through_a_moment.main.body.getD i (.Pass ⟨0,0,0,0⟩)
noncomputable abbrev kJ:Stmt:=aM (top 4) 0
noncomputable abbrev kH:Stmt:=aM (top 5) 0
noncomputable abbrev fO:Stmt:=aM (top 6) 0
noncomputable abbrev eI:Stmt:=aM (top 7) 0
noncomputable abbrev nY:Stmt:=top 10
noncomputable abbrev nX:Stmt:=top 11
noncomputable abbrev lN:Stmt:=top 13
noncomputable abbrev nZ:Stmt:=top 15
noncomputable abbrev gQ:Stmt:=aM (top 16) 0
noncomputable abbrev lP:Stmt:=aM (top 17) 0
noncomputable abbrev jz:Stmt:=aM (top 17) 1
noncomputable abbrev iU:Stmt:=aM (top 18) 0
noncomputable abbrev g7:Stmt:=aM (top 18) 1
noncomputable abbrev dM:Stmt:=top 20
noncomputable abbrev ju:Stmt:=top 21
noncomputable abbrev fK:Stmt:=top 22
noncomputable abbrev fP:Stmt:=aM (top 26) 0
noncomputable abbrev eT:Stmt:=aM (top 26) 1
noncomputable abbrev dP:Stmt:=aM (top 26) 2
noncomputable abbrev gV:Stmt:=aM (top 26) 3
noncomputable abbrev jA:Stmt:=aM (top 26) 4
noncomputable abbrev b3:Stmt:=aM (top 26) 6
noncomputable abbrev bO:Stmt:=aM (top 26) 7
noncomputable abbrev dO:Stmt:=aM (top 26) 8
noncomputable abbrev cX:Stmt:=aM (top 26) 9
noncomputable abbrev cw:Stmt:=aM (top 26) 10
noncomputable abbrev gU:Stmt:=aM (top 28) 0
noncomputable abbrev gT:Stmt:=aM (top 28) 1
noncomputable abbrev dN:Stmt:=aM (top 28) 3
noncomputable abbrev cr:Stmt:=aM (top 28) 4
noncomputable abbrev gE:Stmt:=top 32
noncomputable abbrev gR:Stmt:=aM (top 33) 0
noncomputable abbrev iR:Stmt:=aM (top 33) 1
noncomputable abbrev gS:Stmt:=aM (top 33) 2
noncomputable abbrev iS:Stmt:=aM (top 33) 4
noncomputable abbrev kI:Stmt:=aM (top 33) 6
noncomputable abbrev eG:Stmt:=aM (top 33) 11
noncomputable abbrev dw:Stmt:=aM (top 33) 13
noncomputable abbrev dz:Stmt:=aM (top 33) 14
noncomputable abbrev gW:Stmt:=aM (top 35) 0
noncomputable abbrev iT:Stmt:=aM (top 35) 1
noncomputable abbrev gZ:Stmt:=aM (top 35) 2
noncomputable abbrev gX:Stmt:=aM (top 35) 9
noncomputable abbrev e8:Stmt:=aM (top 35) 10
noncomputable abbrev gY:Stmt:=aM (top 35) 11
noncomputable abbrev fQ:Stmt:=aM (top 35) 12
noncomputable abbrev mG:Stmt:=aM (top 35) 13
noncomputable abbrev cJ:Stmt:=aM (top 35) 14
noncomputable abbrev g6:Stmt:=aM (top 35) 15
noncomputable abbrev bP:Stmt:=aM (top 35) 16
noncomputable abbrev cY:Stmt:=aM (top 35) 17
noncomputable abbrev fN:Stmt:=top 37
noncomputable abbrev iQ:Stmt:=top 38
noncomputable abbrev lO:Stmt:=top 39
noncomputable abbrev jy:Stmt:=top 40
noncomputable abbrev iO:Stmt:=top 41
noncomputable abbrev jx:Stmt:=top 42
noncomputable abbrev iP:Stmt:=top 43
noncomputable abbrev jw:Stmt:=top 44
noncomputable abbrev jv:Stmt:=top 45
noncomputable abbrev fL:Stmt:=top 46
noncomputable abbrev gP:Stmt:=top 47
noncomputable abbrev Aw:Stmt:=top 48
set_option genSizeOf false in
set_option genInjectivity false in
structure Adr where
 Cb:Addr
 kT:FuncData
 Ca:Addr
 kR:FuncData
 gx:Addr
 gj:FuncData
 eQ:Addr
 eP:FuncData
 ud:Addr
 oI:FuncData
 uc:Addr
 oH:FuncData
 rR:Addr
 l9:FuncData
 ue:Addr
 oJ:FuncData
 iw:Addr
 hI:FuncData
 rV:Addr
 gh:FuncData
 pC:Addr
 jZ:FuncData
 nK:Addr
 eC:FuncData
 lH:Addr
 iu:FuncData
 j6:Addr
 gd:FuncData
 pf:Addr
 jT:FuncData
 j5:Addr
 gc:FuncData
 ke:Addr
 gu:FuncData
 lr:Addr
 ig:FuncData
 gM:Addr
 eB:FuncData
 lq:Addr
 hZ:FuncData
 rW:Addr
 j1:FuncData
 gL:Addr
 d9:FuncData
 ft:Addr
 de:FuncData
 gK:Addr
 d7:FuncData
 fo:Addr
 db:FuncData
 e7:Addr
 cz:FuncData
 k8:Addr
 hX:FuncData
 kZ:Addr
 hW:FuncData
 gJ:Addr
 d6:FuncData
 j9:Addr
 gr:FuncData
 pj:Addr
 jU:FuncData
 kX:Addr
 hJ:FuncData
 nG:Addr
 jc:FuncData
 kY:Addr
 hV:FuncData
 nI:Addr
 jd:FuncData
 sP:Addr
 kS:FuncData
 iK:Addr
 eO:FuncData
 gy:Addr
 dD:FuncData
 gA:Addr
 dE:FuncData
 lu:Addr
 ii:FuncData
 nJ:Addr
 je:FuncData
 lF:Addr
 iq:FuncData
 lw:Addr
 ik:FuncData
 jn:Addr
 fg:FuncData
 lE:Addr
 io:FuncData
 kf:Addr
 gv:FuncData
 vh:Addr
 m5:FuncData
 iL:Addr
 cQ:FuncData
 lG:Addr
 ir:FuncData
 dI:Addr
 bR:FuncData
 fu:Addr
 dh:FuncData
 j8:Addr
 gg:FuncData
 nE:Addr
 i9:FuncData
 rS:Addr
 mf:FuncData
 pB:Addr
 jY:FuncData
 nC:Addr
 i8:FuncData
 pA:Addr
 jX:FuncData
 rT:Addr
 mh:FuncData
 pz:Addr
 jW:FuncData
 pq:Addr
 jV:FuncData
 j7:Addr
 gf:FuncData
 kW:Addr
 g9:FuncData
 D6:Addr
 yK:FuncData
 bS:Addr
 oM:Addr
 yM:Addr
 yL:Addr
 cE:Addr
 bE:Addr
 fE:Addr
 cR:Addr
 ba:Addr
 bj:Addr
 cU:Addr
 aV:Addr
 aB:Addr
end SW
namespace ZK
open PySem PySem.W SW L2
noncomputable abbrev N:Value:= .none
noncomputable abbrev B (b:Bool):Value:= .bool b
noncomputable abbrev I (i:Int):Value:= .int i 0
noncomputable abbrev S (x:Str) (t:Nat):Value:= .str x t
noncomputable abbrev F (t:Nat):Value:= .str "/claim/cut.py" t
noncomputable abbrev R (a:Addr):Value:= .ref a
noncomputable abbrev T (n:String):Value:= .type n
noncomputable abbrev E (P:Params) (x:Str) (t:Nat) (v:Value):DictEntry:=⟨PyData.keyHash P x,.str x t,v⟩
noncomputable abbrev c (vs:List Value):Obj:=⟨.type "code",none,.fields vs.toArray, #[]⟩
noncomputable abbrev o (n:Str) (a:Nat) (m:Str) (b d:Nat) (e g h i j:Int) (k:Addr) (l:Int) (r s t u:Addr) (v w:Int) (x:Nat):Obj:=c [S n a,S m b,F d,I e,I g,I h,I i,I j,R k,B true,I l,R r,N,R s,R t,R u,I v,I w,F x]
noncomputable abbrev D (nm qn:Str) (s:Stmt) (df kV dc pm:Value) (an:Option Addr) (cd ct:Value):FuncData:=fnOf nm qn (fA s) (b7 s) (aj s) df kV dc pm an cd ct
noncomputable abbrev f (d:FuncData):Obj:=⟨.type "function",none,.func d, #[]⟩
noncomputable def t:Adr:=⟨60,D "__init__" "NoKey.__init__" kJ N N N (S "staywalk.errors" 194) none (R 59) N,79,D "__init__" "Twice.__init__" kH N N N (S "staywalk.errors" 194) none (R 78) N,98,D "__init__" "TooOld.__init__" fO N N N (S "staywalk.errors" 194) none (R 97) N,117,D "__init__" "NoMoment.__init__" eI N N N (S "staywalk.errors" 194) none (R 116) N,129,D "mark_of" "mark_of" nY N N N (S "staywalk.bits" 330) none (R 128) N,136,D "slot_of" "slot_of" nX N N N (S "staywalk.bits" 330) none (R 135) N,143,D "is_whole" "is_whole" lN N N N (S "staywalk.wholes" 349) none (R 142) N,150,D "is_from" "is_from" nZ N N N (S "staywalk.tokens" 358) none (R 149) N,164,D "__init__" "Token.__init__" gQ N N N (S "staywalk.tokens" 358) none (R 163) N,193,D "__init__" "Up.__init__" lP (R 186) N N (S "staywalk.tokens" 358) none (R 192) N,200,D "holds" "Up.holds" jz N N N (S "staywalk.tokens" 358) none (R 199) N,220,D "__init__" "Down.__init__" iU (R 213) N N (S "staywalk.tokens" 358) none (R 219) N,227,D "holds" "Down.holds" g7 N N N (S "staywalk.tokens" 358) none (R 226) N,237,D "keys_of_page" "keys_of_page" dM N N N (S "staywalk.asks" 476) none (R 236) N,244,D "keys_near" "keys_near" ju N N N (S "staywalk.asks" 476) none (R 243) N,251,D "token_behind" "token_behind" fK N N N (S "staywalk.asks" 476) none (R 250) N,265,D "__init__" "Leaves.__init__" fP N N N (S "staywalk.leaves" 501) none (R 264) N,270,D "add" "Leaves.add" eT N N N (S "staywalk.leaves" 501) none (R 269) N,277,D "discard" "Leaves.discard" dP N N N (S "staywalk.leaves" 501) none (R 276) N,284,D "has" "Leaves.has" gV N N N (S "staywalk.leaves" 501) none (R 283) N,289,D "many" "Leaves.many" jA N N N (S "staywalk.leaves" 501) none (R 288) N,301,D "from_on" "Leaves.from_on" b3 N N N (S "staywalk.leaves" 501) none (R 300) N,306,D "down_from" "Leaves.down_from" bO N N N (S "staywalk.leaves" 501) none (R 305) N,313,D "leaf_of" "Leaves.leaf_of" dO N N N (S "staywalk.leaves" 501) none (R 312) N,320,D "part_leaf" "Leaves.part_leaf" cX N N N (S "staywalk.leaves" 501) none (R 319) N,327,D "join_small" "Leaves.join_small" cw N N N (S "staywalk.leaves" 501) none (R 326) N,348,D "__init__" "Makes.__init__" gU N N N (S "staywalk.makes" 614) none (R 347) N,355,D "note" "Makes.note" gT N N N (S "staywalk.makes" 614) none (R 354) N,369,D "value_at" "Makes.value_at" dN N N N (S "staywalk.makes" 614) none (R 368) N,374,D "sweep" "Makes.sweep" cr N N N (S "staywalk.makes" 614) none (R 373) N,386,D "empty_row" "empty_row" gE N N N (S "staywalk.slots" 675) none (R 385) N,400,D "__init__" "Slots.__init__" gR N N N (S "staywalk.slots" 675) none (R 399) N,407,D "put" "Slots.put" iR N N N (S "staywalk.slots" 675) none (R 406) N,414,D "drop" "Slots.drop" gS N N N (S "staywalk.slots" 675) none (R 413) N,428,D "has" "Slots.has" iS N N N (S "staywalk.slots" 675) none (R 427) N,440,D "rows" "Slots.rows" kI N N N (S "staywalk.slots" 675) none (R 439) N,475,D "cell_of" "Slots.cell_of" eG N N N (S "staywalk.slots" 675) none (R 474) N,489,D "move_slot" "Slots.move_slot" dw N N N (S "staywalk.slots" 675) none (R 488) N,496,D "begin_row" "Slots.begin_row" dz N N N (S "staywalk.slots" 675) none (R 495) N,517,D "__init__" "House.__init__" gW N N N (S "staywalk.house" 834) none (R 516) N,524,D "put" "House.put" iT N N N (S "staywalk.house" 834) none (R 523) N,531,D "drop" "House.drop" gZ N N N (S "staywalk.house" 834) none (R 530) N,581,D "hold" "House.hold" gX N N N (S "staywalk.house" 834) none (R 580) N,588,D "let_go" "House.let_go" e8 N N N (S "staywalk.house" 834) none (R 587) N,595,D "held" "House.held" gY N N N (S "staywalk.house" 834) none (R 594) N,602,D "sweep" "House.sweep" fQ N N N (S "staywalk.house" 834) none (R 601) N,609,D "was" "House.was" mG N N N (S "staywalk.house" 834) none (R 608) N,615,D "page_at" "House.page_at" cJ (R 610) N N (S "staywalk.house" 834) none (R 614) N,622,D "done" "House.done" g6 N N N (S "staywalk.house" 834) none (R 621) N,629,D "refuse_outside" "House.refuse_outside" bP N N N (S "staywalk.house" 834) none (R 628) N,636,D "value_then" "House.value_then" cY N N N (S "staywalk.house" 834) none (R 635) N,650,D "_law_cell_at" "_law_cell_at" fN N N N (S "law_staywalk_k47_whole_walk_through_a_moment" 1009) none (R 649) N,657,D "_law_drawn" "_law_drawn" iQ N N N (S "law_staywalk_k47_whole_walk_through_a_moment" 1009) none (R 656) N,664,D "_law_key" "_law_key" lO N N N (S "law_staywalk_k47_whole_walk_through_a_moment" 1009) none (R 663) N,671,D "_law_deed" "_law_deed" jy N N N (S "law_staywalk_k47_whole_walk_through_a_moment" 1009) none (R 670) N,678,D "_law_token" "_law_token" iO N N N (S "law_staywalk_k47_whole_walk_through_a_moment" 1009) none (R 677) N,685,D "_law_held" "_law_held" jx N N N (S "law_staywalk_k47_whole_walk_through_a_moment" 1009) none (R 684) N,690,D "_law_due" "_law_due" iP N N N (S "law_staywalk_k47_whole_walk_through_a_moment" 1009) none (R 689) N,697,D "_law_next" "_law_next" jw N N N (S "law_staywalk_k47_whole_walk_through_a_moment" 1009) none (R 696) N,704,D "_law_page" "_law_page" jv N N N (S "law_staywalk_k47_whole_walk_through_a_moment" 1009) none (R 703) N,711,D "_law_refused" "_law_refused" fL N N N (S "law_staywalk_k47_whole_walk_through_a_moment" 1009) none (R 710) N,718,D "_law_walked" "_law_walked" gP N N N (S "law_staywalk_k47_whole_walk_through_a_moment" 1009) none (R 717) N,725,D "law" "law" Aw N N N (S "law_staywalk_k47_whole_walk_through_a_moment" 1009) none (R 724) N,31,44,63,82,101,120,174,203,230,330,377,499,639⟩
noncomputable def K:Params->Frag:=λP=>(nat_lit 2,⟨N,none,.dict #[] 0, #[]⟩)::
(nat_lit 3,⟨(T "dict"),none,.dict #[E P "__name__" 165 (S "law_staywalk_k47_whole_walk_through_a_moment" 1009),E P "__doc__" 166 N,E P "__package__" 167 N,E P "__loader__" 168 (.builtin "__main__.__loader__#opaque"),E P "__spec__" 169 N,E P "__annotations__" 170 (R 6),E P "__builtins__" 171 (R 4),E P "__file__" 173 (S "/claim/cut.py" 172),E P "__cached__" 174 N,E P "_wall" 193 (R 21),E P "WalkError" 213 (R 31),E P "NoToken" 229 (R 44),E P "NoKey" 254 (R 63),E P "Twice" 279 (R 82),E P "TooOld" 304 (R 101),E P "NoMoment" 329 (R 120),E P "PLACES" 333 (.int 65536 332),E P "mark_of" 340 (R 129),E P "slot_of" 348 (R 136),E P "is_whole" 357 (R 143),E P "is_from" 367 (R 150),E P "Token" 407 (R 174),E P "Up" 441 (R 203),E P "Down" 475 (R 230),E P "keys_of_page" 483 (R 237),E P "keys_near" 492 (R 244),E P "token_behind" 500 (R 251),E P "MOST_IN_LEAF" 504 (.int 8 503),E P "LEAST_IN_TWO" 506 (.int 5 505),E P "Leaves" 613 (R 330),E P "Makes" 674 (R 377),E P "LEAST_SIZE" 678 (.int 4 677),E P "GREATEST_SIZE" 680 (.int 256 679),E P "empty_row" 686 (R 386),E P "Slots" 833 (R 499),E P "House" 1008 (R 639),E P "_law_cell_at" 1018 (R 650),E P "_law_drawn" 1027 (R 657),E P "_law_key" 1036 (R 664),E P "_law_deed" 1051 (R 671),E P "_law_token" 1063 (R 678),E P "_law_held" 1071 (R 685),E P "_law_due" 1077 (R 690),E P "_law_next" 1086 (R 697),E P "_law_page" 1096 (R 704),E P "_law_refused" 1107 (R 711),E P "_law_walked" 1124 (R 718),E P "law" 1140 (R 725)] 48, #[]⟩)::
(nat_lit 30,⟨(T "dict"),none,.dict #[E P "__module__" 203 (S "staywalk.errors" 194),E P "__firstlineno__" 207 (.int 5 206),E P "__static_attributes__" 208 (R 29),E P "__weakref__" 210 (R 32),E P "__doc__" 211 N] 3, #[]⟩)::
(nat_lit 31,⟨(T "type"),none,.cls ⟨"WalkError",[(T "ValueError")],[(R 31),(T "ValueError"),(T "Exception"),(T "BaseException"),(T "object")],30,"WalkError",true,[],[(R 44),(R 63),(R 82),(R 101),(R 120)],false,none,false⟩, #[some (R 22),none,some (S "WalkError" 196),some (S "WalkError" 204),some (.builtin "ValueError.__new__"),some (B true)]⟩)::
(nat_lit 43,⟨(T "dict"),none,.dict #[E P "__module__" 221 (S "staywalk.errors" 194),E P "__firstlineno__" 225 (.int 7 224),E P "__static_attributes__" 226 (R 42),E P "__doc__" 227 N] 2, #[]⟩)::
(nat_lit 44,⟨(T "type"),none,.cls ⟨"NoToken",[(R 31)],[(R 44),(R 31),(T "ValueError"),(T "Exception"),(T "BaseException"),(T "object")],43,"NoToken",true,[],[],false,none,false⟩, #[some (R 35),none,some (S "NoToken" 214),some (S "NoToken" 222),some (.builtin "ValueError.__new__"),some (B true)]⟩)::
(nat_lit 59,o "__init__" 242 "NoKey.__init__" 243 244 11 2 0 0 3 54 181 55 56 57 58 247 11 248)::
(nat_lit 60,f t.kT)::
(nat_lit 62,⟨(T "dict"),none,.dict #[E P "__module__" 237 (S "staywalk.errors" 194),E P "__firstlineno__" 241 (.int 9 240),E P "__init__" 249 (R 60),E P "__static_attributes__" 251 (R 61),E P "__doc__" 252 N] 2, #[]⟩)::
(nat_lit 63,⟨(T "type"),none,.cls ⟨"NoKey",[(R 31)],[(R 63),(R 31),(T "ValueError"),(T "Exception"),(T "BaseException"),(T "object")],62,"NoKey",true,[],[],false,none,false⟩, #[some (R 47),none,some (S "NoKey" 230),some (S "NoKey" 238),some (.builtin "ValueError.__new__"),some (B true)]⟩)::
(nat_lit 78,o "__init__" 267 "Twice.__init__" 268 269 16 2 0 0 3 73 181 74 75 76 77 272 16 273)::
(nat_lit 79,f t.kR)::
(nat_lit 81,⟨(T "dict"),none,.dict #[E P "__module__" 262 (S "staywalk.errors" 194),E P "__firstlineno__" 266 (.int 14 265),E P "__init__" 274 (R 79),E P "__static_attributes__" 276 (R 80),E P "__doc__" 277 N] 2, #[]⟩)::
(nat_lit 82,⟨(T "type"),none,.cls ⟨"Twice",[(R 31)],[(R 82),(R 31),(T "ValueError"),(T "Exception"),(T "BaseException"),(T "object")],81,"Twice",true,[],[],false,none,false⟩, #[some (R 66),none,some (S "Twice" 255),some (S "Twice" 263),some (.builtin "ValueError.__new__"),some (B true)]⟩)::
(nat_lit 97,o "__init__" 292 "TooOld.__init__" 293 294 21 2 0 0 3 92 181 93 94 95 96 297 21 298)::
(nat_lit 98,f t.gj)::
(nat_lit 100,⟨(T "dict"),none,.dict #[E P "__module__" 287 (S "staywalk.errors" 194),E P "__firstlineno__" 291 (.int 19 290),E P "__init__" 299 (R 98),E P "__static_attributes__" 301 (R 99),E P "__doc__" 302 N] 2, #[]⟩)::
(nat_lit 101,⟨(T "type"),none,.cls ⟨"TooOld",[(R 31)],[(R 101),(R 31),(T "ValueError"),(T "Exception"),(T "BaseException"),(T "object")],100,"TooOld",true,[],[],false,none,false⟩, #[some (R 85),none,some (S "TooOld" 280),some (S "TooOld" 288),some (.builtin "ValueError.__new__"),some (B true)]⟩)::
(nat_lit 116,o "__init__" 317 "NoMoment.__init__" 318 319 26 2 0 0 3 111 181 112 113 114 115 322 26 323)::
(nat_lit 117,f t.eP)::
(nat_lit 119,⟨(T "dict"),none,.dict #[E P "__module__" 312 (S "staywalk.errors" 194),E P "__firstlineno__" 316 (.int 24 315),E P "__init__" 324 (R 117),E P "__static_attributes__" 326 (R 118),E P "__doc__" 327 N] 2, #[]⟩)::
(nat_lit 120,⟨(T "type"),none,.cls ⟨"NoMoment",[(R 31)],[(R 120),(R 31),(T "ValueError"),(T "Exception"),(T "BaseException"),(T "object")],119,"NoMoment",true,[],[],false,none,false⟩, #[some (R 104),none,some (S "NoMoment" 305),some (S "NoMoment" 313),some (.builtin "ValueError.__new__"),some (B true)]⟩)::
(nat_lit 128,o "mark_of" 334 "mark_of" 335 336 31 1 0 0 3 123 181 124 125 126 127 338 31 339)::
(nat_lit 129,f t.oI)::
(nat_lit 135,o "slot_of" 341 "slot_of" 342 343 33 2 0 0 3 130 181 131 132 133 134 346 33 347)::
(nat_lit 136,f t.oH)::
(nat_lit 142,o "is_whole" 351 "is_whole" 352 353 36 1 0 0 3 137 181 138 139 140 141 355 36 356)::
(nat_lit 143,f t.l9)::
(nat_lit 149,o "is_from" 360 "is_from" 361 362 39 2 0 0 3 144 181 145 146 147 148 365 39 366)::
(nat_lit 150,f t.oJ)::
(nat_lit 163,o "__init__" 380 "Token.__init__" 381 382 43 4 0 0 3 158 181 159 160 161 162 387 43 388)::
(nat_lit 164,f t.hI)::
(nat_lit 173,⟨(T "dict"),none,.dict #[E P "__module__" 375 (S "staywalk.tokens" 358),E P "__firstlineno__" 379 (.int 41 378),E P "__init__" 389 (R 164),E P "words" 396 (R 171),E P "__static_attributes__" 400 (R 172),E P "__dict__" 402 (R 175),E P "__weakref__" 404 (R 176),E P "__doc__" 405 N] 4, #[]⟩)::
(nat_lit 174,⟨(T "type"),none,.cls ⟨"Token",[(T "object")],[(R 174),(T "object")],173,"Token",true,[],[(R 203),(R 230)],false,none,false⟩, #[none,none,some (S "Token" 368),some (S "Token" 376),some (.builtin "object.__new__"),some (B true)]⟩)::
(nat_lit 186,⟨(T "tuple"),none,.seq #[(.int 0 420),N] 0, #[]⟩)::
(nat_lit 192,o "__init__" 421 "Up.__init__" 422 423 52 3 0 0 3 187 181 188 189 190 191 427 52 428)::
(nat_lit 193,f t.gh)::
(nat_lit 199,o "holds" 430 "Up.holds" 431 432 57 2 0 0 3 194 181 195 196 197 198 435 57 436)::
(nat_lit 200,f t.jZ)::
(nat_lit 202,⟨(T "dict"),none,.dict #[E P "__module__" 415 (S "staywalk.tokens" 358),E P "__firstlineno__" 419 (.int 50 418),E P "__init__" 429 (R 193),E P "holds" 437 (R 200),E P "__static_attributes__" 438 (R 201),E P "__doc__" 439 N] 2, #[]⟩)::
(nat_lit 203,⟨(T "type"),none,.cls ⟨"Up",[(R 174)],[(R 203),(R 174),(T "object")],202,"Up",true,[],[],false,none,false⟩, #[some (R 179),none,some (S "Up" 408),some (S "Up" 416),some (.builtin "object.__new__"),some (B true)]⟩)::
(nat_lit 213,⟨(T "tuple"),none,.seq #[N,(.int 0 454)] 0, #[]⟩)::
(nat_lit 219,o "__init__" 455 "Down.__init__" 456 457 61 3 0 0 3 214 181 215 216 217 218 461 61 462)::
(nat_lit 220,f t.eC)::
(nat_lit 226,o "holds" 464 "Down.holds" 465 466 66 2 0 0 3 221 181 222 223 224 225 469 66 470)::
(nat_lit 227,f t.iu)::
(nat_lit 229,⟨(T "dict"),none,.dict #[E P "__module__" 449 (S "staywalk.tokens" 358),E P "__firstlineno__" 453 (.int 59 452),E P "__init__" 463 (R 220),E P "holds" 471 (R 227),E P "__static_attributes__" 472 (R 228),E P "__doc__" 473 N] 2, #[]⟩)::
(nat_lit 230,⟨(T "type"),none,.cls ⟨"Down",[(R 174)],[(R 230),(R 174),(T "object")],229,"Down",true,[],[],false,none,false⟩, #[some (R 206),none,some (S "Down" 442),some (S "Down" 450),some (.builtin "object.__new__"),some (B true)]⟩)::
(nat_lit 236,c [(S "keys_of_page" 478),(S "keys_of_page" 479),(F 480),(I 69),(I 3),(I 0),(I 0),(I 3),(R 233),(B true),(I 181),(R 234),N,N,N,(R 235),(I 481),(I 69),(F 482)])::
(nat_lit 237,f t.gd)::
(nat_lit 243,o "keys_near" 484 "keys_near" 485 486 78 3 0 0 3 238 181 239 240 241 242 490 78 491)::
(nat_lit 244,f t.jT)::
(nat_lit 250,o "token_behind" 493 "token_behind" 494 495 82 2 0 0 3 245 181 246 247 248 249 498 82 499)::
(nat_lit 251,f t.gc)::
(nat_lit 264,o "__init__" 519 "Leaves.__init__" 520 521 91 1 0 0 3 259 181 260 261 262 263 523 91 524)::
(nat_lit 265,f t.gu)::
(nat_lit 269,c [(S "add" 526),(S "Leaves.add" 527),(F 528),(I 94),(I 2),(I 0),(I 0),(I 3),(R 266),(B true),(I 181),(R 267),N,N,N,(R 268),(I 529),(I 94),(F 530)])::
(nat_lit 270,f t.ig)::
(nat_lit 276,o "discard" 532 "Leaves.discard" 533 534 106 2 0 0 3 271 181 272 273 274 275 538 106 539)::
(nat_lit 277,f t.eB)::
(nat_lit 283,o "has" 541 "Leaves.has" 542 543 117 2 0 0 3 278 181 279 280 281 282 547 117 548)::
(nat_lit 284,f t.hZ)::
(nat_lit 288,c [(S "many" 550),(S "Leaves.many" 551),(F 552),(I 121),(I 1),(I 0),(I 0),(I 3),(R 285),(B true),(I 181),(R 286),N,N,N,(R 287),(I 553),(I 121),(F 554)])::
(nat_lit 289,f t.j1)::
(nat_lit 300,c [(S "from_on" 563),(S "Leaves.from_on" 564),(F 565),(I 127),(I 3),(I 0),(I 0),(I 3),(R 297),(B true),(I 181),(R 298),N,N,N,(R 299),(I 566),(I 127),(F 567)])::
(nat_lit 301,f t.d9)::
(nat_lit 305,c [(S "down_from" 569),(S "Leaves.down_from" 570),(F 571),(I 135),(I 3),(I 0),(I 0),(I 3),(R 302),(B true),(I 181),(R 303),N,N,N,(R 304),(I 572),(I 135),(F 573)])::
(nat_lit 306,f t.de)::
(nat_lit 312,o "leaf_of" 575 "Leaves.leaf_of" 576 577 145 2 0 0 3 307 181 308 309 310 311 583 145 584)::
(nat_lit 313,f t.d7)::
(nat_lit 319,o "part_leaf" 586 "Leaves.part_leaf" 587 588 156 2 0 0 3 314 181 315 316 317 318 593 156 594)::
(nat_lit 320,f t.db)::
(nat_lit 326,o "join_small" 596 "Leaves.join_small" 597 598 162 2 0 0 3 321 181 322 323 324 325 602 162 603)::
(nat_lit 327,f t.cz)::
(nat_lit 329,⟨(T "dict"),none,.dict #[E P "__module__" 514 (S "staywalk.leaves" 501),E P "__firstlineno__" 518 (.int 89 517),E P "__init__" 525 (R 265),E P "add" 531 (R 270),E P "discard" 540 (R 277),E P "has" 549 (R 284),E P "many" 555 (R 289),E P "all_of" 562 (R 296),E P "from_on" 568 (R 301),E P "down_from" 574 (R 306),E P "leaf_of" 585 (R 313),E P "part_leaf" 595 (R 320),E P "join_small" 604 (R 327),E P "__static_attributes__" 606 (R 328),E P "__dict__" 608 (R 331),E P "__weakref__" 610 (R 332),E P "__doc__" 611 N] 4, #[]⟩)::
(nat_lit 330,⟨(T "type"),none,.cls ⟨"Leaves",[(T "object")],[(R 330),(T "object")],329,"Leaves",true,[],[],false,none,false⟩, #[none,none,some (S "Leaves" 507),some (S "Leaves" 515),some (.builtin "object.__new__"),some (B true)]⟩)::
(nat_lit 347,o "__init__" 628 "Makes.__init__" 629 630 172 1 0 0 3 342 181 343 344 345 346 632 172 633)::
(nat_lit 348,f t.hX)::
(nat_lit 354,o "note" 635 "Makes.note" 636 637 175 3 0 0 3 349 181 350 351 352 353 641 175 642)::
(nat_lit 355,f t.hW)::
(nat_lit 368,o "value_at" 651 "Makes.value_at" 652 653 181 2 0 0 3 363 181 364 365 366 367 657 181 658)::
(nat_lit 369,f t.d6)::
(nat_lit 373,c [(S "sweep" 660),(S "Makes.sweep" 661),(F 662),(I 187),(I 2),(I 0),(I 0),(I 3),(R 370),(B true),(I 181),(R 371),N,N,N,(R 372),(I 663),(I 187),(F 664)])::
(nat_lit 374,f t.gr)::
(nat_lit 376,⟨(T "dict"),none,.dict #[E P "__module__" 623 (S "staywalk.makes" 614),E P "__firstlineno__" 627 (.int 170 626),E P "__init__" 634 (R 348),E P "note" 643 (R 355),E P "all_told" 650 (R 362),E P "value_at" 659 (R 369),E P "sweep" 665 (R 374),E P "__static_attributes__" 667 (R 375),E P "__dict__" 669 (R 378),E P "__weakref__" 671 (R 379),E P "__doc__" 672 N] 4, #[]⟩)::
(nat_lit 377,⟨(T "type"),none,.cls ⟨"Makes",[(T "object")],[(R 377),(T "object")],376,"Makes",true,[],[],false,none,false⟩, #[none,none,some (S "Makes" 616),some (S "Makes" 624),some (.builtin "object.__new__"),some (B true)]⟩)::
(nat_lit 385,c [(S "empty_row" 681),(S "empty_row" 682),(F 683),(I 198),(I 1),(I 0),(I 0),(I 3),(R 382),(B true),(I 181),(R 383),N,N,N,(R 384),(I 684),(I 198),(F 685)])::
(nat_lit 386,f t.jU)::
(nat_lit 399,o "__init__" 699 "Slots.__init__" 700 701 202 1 0 0 3 394 181 395 396 397 398 703 202 704)::
(nat_lit 400,f t.hJ)::
(nat_lit 406,o "put" 706 "Slots.put" 707 708 207 3 0 0 3 401 181 402 403 404 405 713 207 714)::
(nat_lit 407,f t.jc)::
(nat_lit 413,o "drop" 716 "Slots.drop" 717 718 215 2 0 0 3 408 181 409 410 411 412 721 215 722)::
(nat_lit 414,f t.hV)::
(nat_lit 427,o "has" 733 "Slots.has" 734 735 229 2 0 0 3 422 181 423 424 425 426 738 229 739)::
(nat_lit 428,f t.jd)::
(nat_lit 439,c [(S "rows" 748),(S "Slots.rows" 749),(F 750),(I 235),(I 1),(I 0),(I 0),(I 3),(R 436),(B true),(I 181),(R 437),N,N,N,(R 438),(I 751),(I 235),(F 752)])::
(nat_lit 440,f t.kS)::
(nat_lit 474,o "cell_of" 785 "Slots.cell_of" 786 787 250 2 0 0 3 469 181 470 471 472 473 793 250 794)::
(nat_lit 475,f t.eO)::
(nat_lit 488,o "move_slot" 804 "Slots.move_slot" 805 806 261 1 0 0 3 483 181 484 485 486 487 812 261 813)::
(nat_lit 489,f t.dD)::
(nat_lit 495,o "begin_row" 815 "Slots.begin_row" 816 817 274 1 0 0 3 490 181 491 492 493 494 820 274 821)::
(nat_lit 496,f t.dE)::
(nat_lit 498,⟨(T "dict"),none,.dict #[E P "__module__" 694 (S "staywalk.slots" 675),E P "__firstlineno__" 698 (.int 200 697),E P "__init__" 705 (R 400),E P "put" 715 (R 407),E P "drop" 723 (R 414),E P "get" 732 (R 421),E P "has" 740 (R 428),E P "many" 747 (R 435),E P "rows" 753 (R 440),E P "moved" 760 (R 447),E P "cells" 767 (R 454),E P "span" 776 (R 461),E P "stop" 784 (R 468),E P "cell_of" 795 (R 475),E P "lying_at" 803 (R 482),E P "move_slot" 814 (R 489),E P "begin_row" 822 (R 496),E P "__static_attributes__" 826 (R 497),E P "__dict__" 828 (R 500),E P "__weakref__" 830 (R 501),E P "__doc__" 831 N] 4, #[]⟩)::
(nat_lit 499,⟨(T "type"),none,.cls ⟨"Slots",[(T "object")],[(R 499),(T "object")],498,"Slots",true,[],[],false,none,false⟩, #[none,none,some (S "Slots" 687),some (S "Slots" 695),some (.builtin "object.__new__"),some (B true)]⟩)::
(nat_lit 516,o "__init__" 848 "House.__init__" 849 850 285 1 0 0 3 511 181 512 513 514 515 852 285 853)::
(nat_lit 517,f t.ii)::
(nat_lit 523,o "put" 855 "House.put" 856 857 295 3 0 0 3 518 181 519 520 521 522 861 295 862)::
(nat_lit 524,f t.je)::
(nat_lit 530,o "drop" 864 "House.drop" 865 866 301 2 0 0 3 525 181 526 527 528 529 869 301 870)::
(nat_lit 531,f t.iq)::
(nat_lit 580,o "hold" 919 "House.hold" 920 921 324 1 0 0 3 575 181 576 577 578 579 923 324 924)::
(nat_lit 581,f t.ik)::
(nat_lit 587,o "let_go" 926 "House.let_go" 927 928 328 2 0 0 3 582 181 583 584 585 586 931 328 932)::
(nat_lit 588,f t.fg)::
(nat_lit 594,o "held" 934 "House.held" 935 936 335 1 0 0 3 589 181 590 591 592 593 938 335 939)::
(nat_lit 595,f t.io)::
(nat_lit 601,o "sweep" 941 "House.sweep" 942 943 338 1 0 0 3 596 181 597 598 599 600 947 338 948)::
(nat_lit 602,f t.gv)::
(nat_lit 608,o "was" 950 "House.was" 951 952 345 3 0 0 3 603 181 604 605 606 607 956 345 957)::
(nat_lit 609,f t.m5)::
(nat_lit 610,⟨(T "tuple"),none,.seq #[(.int 10 959)] 0, #[]⟩)::
(nat_lit 614,c [(S "page_at" 960),(S "House.page_at" 961),(F 962),(I 349),(I 4),(I 0),(I 0),(I 3),(R 611),(B true),(I 181),(R 612),N,N,N,(R 613),(I 963),(I 349),(F 964)])::
(nat_lit 615,f t.cQ)::
(nat_lit 621,o "done" 966 "House.done" 967 968 358 3 0 0 3 616 181 617 618 619 620 973 358 974)::
(nat_lit 622,f t.ir)::
(nat_lit 628,o "refuse_outside" 976 "House.refuse_outside" 977 978 365 2 0 0 3 623 181 624 625 626 627 981 365 982)::
(nat_lit 629,f t.bR)::
(nat_lit 635,o "value_then" 984 "House.value_then" 985 986 371 3 0 0 3 630 181 631 632 633 634 990 371 991)::
(nat_lit 636,f t.dh)::
(nat_lit 638,⟨(T "dict"),none,.dict #[E P "__module__" 843 (S "staywalk.house" 834),E P "__firstlineno__" 847 (.int 283 846),E P "__init__" 854 (R 517),E P "put" 863 (R 524),E P "drop" 871 (R 531),E P "get" 879 (R 538),E P "has" 887 (R 545),E P "many" 894 (R 552),E P "lay_mark" 901 (R 559),E P "diary" 910 (R 567),E P "makes" 918 (R 574),E P "hold" 925 (R 581),E P "let_go" 933 (R 588),E P "held" 940 (R 595),E P "sweep" 949 (R 602),E P "was" 958 (R 609),E P "page_at" 965 (R 615),E P "done" 975 (R 622),E P "refuse_outside" 983 (R 629),E P "value_then" 992 (R 636),E P "__static_attributes__" 1001 (R 637),E P "__dict__" 1003 (R 640),E P "__weakref__" 1005 (R 641),E P "__doc__" 1006 N] 4, #[]⟩)::
(nat_lit 639,⟨(T "type"),none,.cls ⟨"House",[(T "object")],[(R 639),(T "object")],638,"House",true,[],[],false,none,false⟩, #[none,none,some (S "House" 836),some (S "House" 844),some (.builtin "object.__new__"),some (B true)]⟩)::
(nat_lit 649,o "_law_cell_at" 1011 "_law_cell_at" 1012 1013 374 2 0 0 3 644 181 645 646 647 648 1016 374 1017)::
(nat_lit 650,f t.gg)::
(nat_lit 656,o "_law_drawn" 1019 "_law_drawn" 1020 1021 378 2 0 0 3 651 181 652 653 654 655 1025 378 1026)::
(nat_lit 657,f t.i9)::
(nat_lit 663,o "_law_key" 1028 "_law_key" 1029 1030 384 1 0 0 3 658 181 659 660 661 662 1034 384 1035)::
(nat_lit 664,f t.mf)::
(nat_lit 670,o "_law_deed" 1037 "_law_deed" 1038 1039 388 4 0 0 3 665 181 666 667 668 669 1049 388 1050)::
(nat_lit 671,f t.jY)::
(nat_lit 677,o "_law_token" 1052 "_law_token" 1053 1054 407 2 0 0 3 672 181 673 674 675 676 1061 407 1062)::
(nat_lit 678,f t.i8)::
(nat_lit 684,o "_law_held" 1064 "_law_held" 1065 1066 423 2 0 0 3 679 181 680 681 682 683 1069 423 1070)::
(nat_lit 685,f t.jX)::
(nat_lit 689,c [(S "_law_due" 1072),(S "_law_due" 1073),(F 1074),(I 427),(I 2),(I 0),(I 0),(I 3),(R 686),(B true),(I 181),(R 687),N,N,N,(R 688),(I 1075),(I 427),(F 1076)])::
(nat_lit 690,f t.mh)::
(nat_lit 696,o "_law_next" 1078 "_law_next" 1079 1080 432 3 0 0 3 691 181 692 693 694 695 1084 432 1085)::
(nat_lit 697,f t.jW)::
(nat_lit 703,o "_law_page" 1087 "_law_page" 1088 1089 436 4 0 0 3 698 181 699 700 701 702 1094 436 1095)::
(nat_lit 704,f t.jV)::
(nat_lit 710,o "_law_refused" 1097 "_law_refused" 1098 1099 440 3 0 0 3 705 181 706 707 708 709 1105 440 1106)::
(nat_lit 711,f t.gf)::
(nat_lit 717,o "_law_walked" 1108 "_law_walked" 1109 1110 449 6 0 0 3 712 181 713 714 715 716 1122 449 1123)::
(nat_lit 718,f t.g9)::
(nat_lit 724,o "law" 1125 "law" 1126 1127 471 1 0 0 3 719 181 720 721 722 723 1138 471 1139)::
(nat_lit 725,f t.yK)::[]
noncomputable abbrev as:List Addr:=[2,3,30,31,43,44,59,60,62,63,78,79,81,82,97,98,100,101,116,117,119,120,128,129,135,136,142,143,149,150,163,164,173,174,186,192,193,199,200,202,203,213,219,220,226,227,229,230,236,237,243,244,250,251,264,265,269,270,276,277,283,284,288,289,300,301,305,306,312,313,319,320,326,327,329,330,347,348,354,355,368,369,373,374,376,377,385,386,399,400,406,407,413,414,427,428,439,440,474,475,488,489,495,496,498,499,516,517,523,524,530,531,580,581,587,588,594,595,601,602,608,609,610,614,615,621,622,628,629,635,636,638,639,649,650,656,657,663,664,670,671,677,678,684,685,689,690,696,697,703,704,710,711,717,718,724,725]
noncomputable abbrev p:Program:=PySem.Challenge.pw_staywalk_k47_whole_walk_through_a_moment
noncomputable abbrev q:Program:=view p [0,2,3,4,5,6,7,9,10,11,13,15,16,17,18,20,21,22,24,25,26,28,30,31,32,33,35,37,38,39,40,41,42,43,44,45,46,47,48]
noncomputable abbrev H:Hook:=kHook K as λ_=>rfl
theorem said:OpenLaw.wellSaid PySem.Challenge.rw_staywalk_k47_whole_walk_through_a_moment=true:=by
 rw[Fast.te9446332074065402090]
 kernel_rfl
noncomputable abbrev M:Nat:=10740
noncomputable abbrev L:List Str:=["Up","Down"]
noncomputable abbrev X:Shared->Bool:=λs=>xlAt q [] s&&recOk [] s
theorem lA:∀w,HD.lA p q M w=some ((openGood q L).1,(openGood q L).2.1):=λw=>by kernel_rfl
theorem lB:∀w,HD.lB p q L X M w=some (true,true):=λw=>by kernel_rfl
theorem lC:∀w,HD.lC p q L M w=some (openGood q L).2.2.2.2:=λw=>by kernel_rfl
theorem lD:∀w,(HD.endP p w M).map (Hook.obs H)=some (Hook.val H w):=λw=>by kernel_rfl
theorem left:LeftO p q L X (Hook.obs H) (Hook.val H) M:=HD.left_of lA lB lC lD
end ZK
namespace L2
open PySem PySem.Spec PyProof.Rows
abbrev Key:=Sum Int Str
def jR:Key->Value->Bool
 | .inl k,v=>Value.isInt k v
 | .inr x,v=>Value.isStrOf x v
def keyH (w:World):Key->Int
 | .inl k=>hashInt k
 | .inr x=>hashStr w x
theorem bM:∀{k:Key} {v:Value},jR k v=true->(∃i t,k=Sum.inl i/\v=Value.int i t)\/(∃x t,k=Sum.inr x/\v=Value.str x t)
 | .inl i,v,h=>by
  obtain⟨t,e⟩:=Value.isInt_shape (k:=i) (v:=v) h;exact .inl ⟨i,t,rfl,e⟩
 | .inr x,v,h=>by
  obtain⟨t,e⟩:=Value.isStrOf_shape (x:=x) (v:=v) h;exact .inr ⟨x,t,rfl,e⟩
theorem zC (i:Int) (t:Tok):jR (.inl i) (.int i t)=true:=by simp[jR,Value.isInt]
theorem zB (x:Str) (t:Tok):jR (.inr x) (.str x t)=true:=by simp[jR,Value.isStrOf]
theorem EQ (a b:Int):decide ((Sum.inl a:Key)=Sum.inl b)=(a==b):=by
 by_cases e:a=b
 .subst e;simp
 .have h:¬(Sum.inl a:Key)=Sum.inl b:=λq=>e (Sum.inl.inj q);rw[decide_eq_false h];exact(beq_eq_false_iff_ne.mpr e).symm
theorem EM (a b:Str):decide ((Sum.inr a:Key)=Sum.inr b)=decide (a=b):=by
 by_cases e:a=b
 .subst e;simp
 .have h:¬(Sum.inr a:Key)=Sum.inr b:=λq=>e (Sum.inr.inj q);rw[decide_eq_false h,decide_eq_false e]
theorem EO (a:Int) (b:Str):decide ((Sum.inl a:Key)=Sum.inr b)=false:=decide_eq_false (λq=>nomatch q)
theorem EN (a:Str) (b:Int):decide ((Sum.inr a:Key)=Sum.inl b)=false:=decide_eq_false (λq=>nomatch q)
def aU (prog:Program) (w:World):PySem.KeyKind prog w Key where
 is:=jR
 hash:=keyH w
 inj:=λv a b ha hb=>by
  rcases bM ha with⟨i,t,rfl,rfl⟩|⟨x,t,rfl,rfl⟩
  .rcases bM hb with⟨j,u,rfl,e⟩|⟨y,u,rfl,e⟩
   .injection e with e1 _;rw[e1]
   .exact nomatch e
  .rcases bM hb with⟨j,u,rfl,e⟩|⟨y,u,rfl,e⟩
   .exact nomatch e
   .injection e with e1 _;rw[e1]
 byValue:=λk v h=>by
  rcases bM h with⟨i,t,rfl,rfl⟩|⟨x,t,rfl,rfl⟩<;>rfl
 pyHash:=λhv h=>by
  rcases bM hv with⟨i,t,rfl,rfl⟩|⟨x,t,rfl,rfl⟩
  .exact wpAny_pyHash_int h
  .exact wpAny_pyHash_str h
 eqBool:=λhu hv h=>by
  rcases bM hu with⟨i,t,rfl,rfl⟩|⟨x,t,rfl,rfl⟩
  .rcases bM hv with⟨j,u,rfl,rfl⟩|⟨y,u,rfl,rfl⟩
   .rw[EQ]at h;exact wpAny_eqBool_int h
   .rw[EO]at h;exact SeqAt.EqAt.int_str i t y u _ _ _ _ h
  .rcases bM hv with⟨j,u,rfl,rfl⟩|⟨y,u,rfl,rfl⟩
   .rw[EN]at h;exact SeqAt.EqAt.str_int x t j u _ _ _ _ h
   .rw[EM]at h;exact wpAny_eqBool_str h
 «strs»:=λk x t v h=>by
  rcases bM h with⟨i,u,rfl,e⟩|⟨y,u,rfl,e⟩
  .exact nomatch e
  .injection e with e1 _;subst e1;cases v<;>rfl
theorem xt (prog:Program) (w:World) (k:Key) (v:Value):(aU prog w).is k v=jR k v:=rfl
theorem v7 (prog:Program) (w:World) (i:Int) (t:Tok):(aU prog w).is (.inl i) (.int i t)=true:=zC i t
theorem v6 (prog:Program) (w:World) (x:Str) (t:Tok):(aU prog w).is (.inr x) (.str x t)=true:=zB x t
end L2
namespace L2
open PySem PySem.Spec PyProof.Rows
inductive V where
 |non|bl (b:Bool)|int (i:Int)|str (x:Str)|byt (b:Array UInt8)|flt (b:UInt64)|ref (a:Addr)|ty (n:String)
 deriving DecidableEq
variable {a b:Addr} {o u:HO} {h h':Heap} {H:Hp} {P:Program} {w:World}
def RelV:V->Value->Prop
 | .non,u=>u=Value.none
 | .bl b,u=>u=Value.bool b
 | .int i,u=>∃t,u=Value.int i t
 | .str x,u=>∃t,u=Value.str x t
 | .byt b,u=>∃t,u=Value.bytes b t
 | .flt b,u=>∃t,u=Value.float b t
 | .ref a,u=>u=Value.ref a
 | .ty n,u=>u=Value.type n
abbrev Vals:List V->List Value->Prop:=Paired RelV
theorem Vals.length {xs:List V} {us:List Value} (r:Vals xs us):xs.length=us.length:=Paired.length r
theorem Vals.get:∀{xs:List V} {us:List Value} {i:Nat} {x:V},Vals xs us->xs[i]?=some x->∃u,us[i]?=some u/\RelV x u
 |_,_,_,_,.nil,e=>by simp at e
 |_,_,0,_,.cons r _,e=>by simp at e;subst e;exact⟨_,rfl,r⟩
 |_,_,i+1,x,.cons _ t,e=>by
  obtain⟨u,h1,h2⟩:=Vals.get (i:=i) (x:=x) t (by simpa using e);exact⟨u,by simpa using h1,h2⟩
theorem Vals.set {x:V} {u:Value} (r:RelV x u):∀{xs:List V} {us:List Value} (i:Nat),Vals xs us->Vals (xs.set i x) (us.set i u)
 |_,_,_,.nil=> .nil
 |_,_,0,.cons _ t=> .cons r t
 |_,_,i+1,.cons q t=> .cons q (Vals.set r i t)
theorem Vals.append:∀{xs ys:List V} {us ws:List Value},Vals xs us->Vals ys ws->Vals (xs++ys) (us++ws)
 |_,_,_,_,.nil,s=>s
 |_,_,_,_,.cons r t,s=> .cons r (Vals.append t s)
theorem Vals.take:∀{xs:List V} {us:List Value} (n:Nat),Vals xs us->Vals (xs.take n) (us.take n)
 |_,_,0,_=> .nil
 |_,_,_+1,.nil=> .nil
 |_,_,n+1,.cons r t=> .cons r (Vals.take n t)
theorem Vals.drop:∀{xs:List V} {us:List Value} (n:Nat),Vals xs us->Vals (xs.drop n) (us.drop n)
 |_,_,0,r=>r
 |_,_,_+1,.nil=> .nil
 |_,_,n+1,.cons _ t=>Vals.drop n t
def RelO:Option V->Option Value->Prop
 |some v,some u=>RelV v u
 |none,none=>True
 |_,_=>False
def KV {κ:Type}:List (κ×V)->List (κ×Value)->Prop:=Paired λ(p:κ×V) (q:κ×Value)=>p.1=q.1/\RelV p.2 q.2
def kV:Key->V
 | .inl i=> .int i
 | .inr x=> .str x
inductive HO where
 |lst (xs:List V)
 |tup (xs:List V)
 |dK (kvs:List (Key×V))|dT (kvs:List (List Key×V))
 |set (S:Int->Bool) (n:Nat)
 |ins (C dx:Addr) (fs:List (Str×V))
 |own (x:Addr)
 |xd (fs:List (Str×V))
 |met (f x:Addr)
 |rng (lo hi:Int)
 |frz (o:Obj) (u:HO)
 |tbl (ps:Array Value)
 |ext (φ:Heap->Prop)
abbrev Hp:=Addr->Option HO
def upd (H:Hp) (a:Addr) (o:HO):Hp:=λb=>if b=a then some o else H b
theorem af:upd H a o a=some o:=by unfold upd;rw[if_pos rfl]
theorem ac (h:b≠a):upd H a o b=H b:=by unfold upd;rw[if_neg h]
theorem cH:upd (upd H a o) a u=upd H a u:=by
 funext b;unfold upd;split<;>rfl
theorem bW (h:H a=some o) (h':H b=some u) (d:o≠u):a≠b:=by
 intro e;subst e;rw[h]at h';exact d (Option.some.inj h')
theorem ak (h:H a=some o) (h':H b=none):a≠b:=by
 intro e;subst e;rw[h]at h';cases h'
section
variable (P:Program) (w:World)
def ObjOk (H:Hp) (h:Heap) (a:Addr):HO->Prop
 | .lst xs=>xs.length<=sizeLine/\∃(its:List Value) (n:Nat),Vals xs its/\h.get? a=some {cls:= .type "list",data:= .seq its.toArray n}
 | .tup xs=>xs.length<=sizeLine/\∃its:List Value,Vals xs its/\IsTup h a its.toArray
 | .dK kvs=>kvs.length<=sizeLine/\(a==sysModules)=false/\∃vs,KV kvs vs/\h.DictOf (aU P w) a vs
 | .dT kvs=>kvs.length<=sizeLine/\(a==sysModules)=false/\∃xs:List (List Key×Addr×Value),
   Paired (λ(p:List Key×V) (q:List Key×Addr×Value)=>p.1=q.1/\H q.2.1=some (.tup (p.1.map kV))/\RelV p.2 q.2.2) kvs xs/\
   ∃o es ep,h.get? a=some o/\o.ExactDict/\o.data= .dict es ep/\es.toList=xs.map (entryOfKey (tupleKind (aU P w)))/\(xs.map (·.1)).Nodup
 | .set S n=>h.SetOf (intKind P w) a S n
 | .ins C dx fs=>H dx=some (.own a)/\fs.length<=1000/\dx≠a/\h.get? a=some (PySem.W.instObj C dx)/\
   ∃mA,h.Ns1 dx mA/\(∀f,RelO (fs.lookup f) (mA f))/\PySem.Within mA (fs.map (·.1))
 | .own _=>∃o,h.get? a=some o
 | .xd fs=>∃mA,h.Ns1 a mA/\∀f,RelO (fs.lookup f) (mA f)
 | .rng lo hi=>∃t u v,h.get? a=some {cls:= .type "range",data:= .fields #[.int lo t,.int hi u,.int 1 v]}
 | .frz o u=>h.get? a=some o/\ObjOk H h a u
 | .tbl ps=>h.get? a=some {cls:= .none,data:= .fields ps}
 | .met f x=>h.get? a=some (PySem.W.methodObj (.ref f) (.ref x))
 | .ext φ=>φ h/\(∃o,h.get? a=some o)/\∀h1 h2:Heap,φ h1->(∀o,h1.get? a=some o->h2.get? a=some o)->φ h2
def HOk (H:Hp) (h:Heap):Prop:=∀a o,H a=some o->ObjOk P w H h a o
end
section
variable {H':Hp}
theorem ObjOk.lt (x:ObjOk P w H h a o):a<h.objs.size:=by
 cases o with
 |lst xs=>obtain⟨_,_,_,_,e⟩:=x;exact Heap.lt_size e
 |tup xs=>obtain⟨_,_,_,p⟩:=x;exact p.lt
 |dK kvs=>obtain⟨_,_,_,_,o,_,_,e,_⟩:=x;exact Heap.lt_size e
 |dT kvs=>obtain⟨_,_,_,_,o,_,_,e,_⟩:=x;exact Heap.lt_size e
 |set S n=>obtain⟨o,_,_,_,e,_⟩:=x;exact Heap.lt_size e
 |ins C dx fs=>obtain⟨_,_,_,e,_⟩:=x;exact Heap.lt_size e
 |own y=>obtain⟨_,e⟩:=x;exact Heap.lt_size e
 |xd fs=>obtain⟨_,⟨_,_,_,e,_⟩,_⟩:=x;exact Heap.lt_size e
 |rng lo hi=>obtain⟨_,_,_,e⟩:=x;exact Heap.lt_size e
 |frz ob u=>obtain⟨e,_⟩:=x;exact Heap.lt_size e
 |tbl ps=>exact Heap.lt_size (show h.get? a=some _ from x)
 |met f y=>exact Heap.lt_size (show h.get? a=some _ from x)
 |ext φ=>obtain⟨_,⟨_,e⟩,_⟩:=x;exact Heap.lt_size e
theorem Paired.mapP {α β:Type} {F G:α->β->Prop}:∀{l₁:List α} {l₂:List β},Paired F l₁ l₂->(∀a b,F a b->G a b)->Paired G l₁ l₂
 |_,_,.nil,_=> .nil
 |_,_,.cons r t,f=> .cons (f _ _ r) (Paired.mapP t f)
theorem ObjOk.stay (x:ObjOk P w H h a o) (k:∀b u,(b=a\/H b=some (.own a))->h.get? b=some u->h'.get? b=some u)
  (ho:∀b,H b=some (.own a)->H' b=some (.own a)) (ht:∀b xs,H b=some (.tup xs)->H' b=some (.tup xs)):ObjOk P w H' h' a o:=by
 induction o with
 |lst xs=>obtain⟨z,its,n,r,e⟩:=x;exact⟨z,its,n,r,k _ _ (.inl rfl) e⟩
 |tup xs=>obtain⟨z,its,r,ob,e,c⟩:=x;exact⟨z,its,r,ob,k _ _ (.inl rfl) e,c⟩
 |dK kvs=>obtain⟨z,y,vs,r,ob,es,ep,e,c⟩:=x;exact⟨z,y,vs,r,ob,es,ep,k _ _ (.inl rfl) e,c⟩
 |dT kvs=>
  obtain⟨z,y,xs,r,ob,es,ep,e,c⟩:=x;exact⟨z,y,xs,Paired.mapP r λp q z=>⟨z.1,ht _ _ z.2.1,z.2.2⟩,ob,es,ep,k _ _ (.inl rfl) e,c⟩
 |set S n=>obtain⟨ob,es,ep,t,e,c⟩:=x;exact⟨ob,es,ep,t,k _ _ (.inl rfl) e,c⟩
 |ins C dx fs=>
  obtain⟨d,z,ne,e,mA,⟨od,es,ep,e2,c⟩,r⟩:=x;exact⟨ho _ d,z,ne,k _ _ (.inl rfl) e,mA,⟨od,es,ep,k _ _ (.inr d) e2,c⟩,r⟩
 |own y=>obtain⟨ob,e⟩:=x;exact⟨ob,k _ _ (.inl rfl) e⟩
 |xd fs=>obtain⟨mA,⟨od,es,ep,e,c⟩,r⟩:=x;exact⟨mA,⟨od,es,ep,k _ _ (.inl rfl) e,c⟩,r⟩
 |rng lo hi=>obtain⟨t,u,v,e⟩:=x;exact⟨t,u,v,k _ _ (.inl rfl) e⟩
 |frz ob u ih=>obtain⟨e,q⟩:=x;exact⟨k _ _ (.inl rfl) e,ih q⟩
 |tbl ps=>
  have e:h.get? a=some {cls:= .none,data:= .fields ps}:=x;show h'.get? a=some {cls:= .none,data:= .fields ps};exact k a _ (.inl rfl) e
 |met f y=>
  have e:h.get? a=some (PySem.W.methodObj (.ref f) (.ref y)):=x;show h'.get? a=some (PySem.W.methodObj (.ref f) (.ref y));exact k a _ (.inl rfl) e
 |ext φ=>obtain⟨p,⟨o,e⟩,st⟩:=x;exact⟨st _ _ p λo q=>k _ _ (.inl rfl) q,⟨o,k _ _ (.inl rfl) e⟩,st⟩
theorem HOk.lt (x:HOk P w H h) (e:H a=some o):a<h.objs.size:=(x a o e).lt
theorem HOk.fresh (x:HOk P w H h) (e:h.objs.size<=a):H a=none:=by
 cases q:H a with
 |none=>rfl
 |some u=>exact absurd (Qs (x.lt q) e) (ZA _)
theorem HOk.kept (x:HOk P w H h) (k:∀b u,h.get? b=some u->h'.get? b=some u):HOk P w H h':=λa o e=>
 (x a o e).stay (λb u _ q=>k b u q) (λ_ q=>q) λ_ _ q=>q
theorem HOk.laid (x:HOk P w H h) (k:∀b u,h.get? b=some u->h'.get? b=some u) (hp:h.objs.size<=a) (new:ObjOk P w (upd H a o) h' a o):HOk P w (upd H a o) h':=λb u e=>by
 have hn:=x.fresh hp;by_cases hb:b=a
 .subst hb;rw[af]at e;cases e;exact new
 .rw[ac hb]at e;exact(x b u e).stay (λc v _ q=>k c v q) (λc q=>by rw[ac (ak q hn)];exact q) λc xs q=>by rw[ac (ak q hn)];exact q
end
def Rd (H:Hp) (a:Addr) (u:HO):Prop:=H a=some u\/∃o,H a=some (.frz o u)
theorem Rd.ok (r:Rd H a u) (x:HOk P w H h):ObjOk P w H h a u:=by
 rcases r with r|⟨o,r⟩
 .exact x a u r
 .obtain⟨_,q⟩:=x a _ r;exact q
def Mut:Option HO->Prop
 |some (.lst _)=>True
 |some (.dK _)=>True
 |some (.dT _)=>True
 |some (.set _ _)=>True
 |some (.ins _ _ _)=>True
 |some (.ext _)=>True
 |_=>False
section
variable {x e:Addr} {o':HO}
theorem HOk.write (ok:HOk P w H h) (mu:Mut (H x)) (he:e=x\/H e=some (.own x)) (k:∀b u,b≠e->h.get? b=some u->h'.get? b=some u) (heo:∃u,h'.get? e=some u)
  (new:ObjOk P w (upd H x o') h' x o'):HOk P w (upd H x o') h':=λb u q=>by
 have nown:∀c y,H c=some (.own y)->c≠x:=λc y r z=>by subst z;rw[r]at mu;exact mu
 have ntup:∀c xs,H c=some (.tup xs)->c≠x:=λc xs r z=>by subst z;rw[r]at mu;exact mu
 by_cases hb:b=x
 .subst hb;rw[af]at q;cases q;exact new
 .rw[ac hb]at q;by_cases hbe:b=e
  .have q':H b=some (.own x):=by
    rcases he with z|z
    .exact absurd (hbe.trans z) hb
    .rw[hbe];exact z
   rw[q]at q';cases q';obtain⟨v,hv⟩:=heo;exact⟨v,by rw[hbe];exact hv⟩
  .refine(ok b u q).stay (λc v hc r=>k c v ?_ r) (λc r=>by rw[ac (nown c b r)];exact r) λc xs r=>by rw[ac (ntup c xs r)];exact r
   rcases hc with rfl|hc
   .exact hbe
   .rintro rfl;rcases he with z|z
    .exact nown c b hc z
    .rw[hc]at z;cases z;exact hb rfl
end
structure Un (fs ex:List Addr) (H H':Hp) (h h':Heap):Prop where
 keep:∀b o,h.get? b=some o->H b=none->b∉fs->b∉ex->h'.get? b=some o
 slot:∀b o,h.get? b=some o->H b=none->b∈fs->b∉ex->∃sl,h'.get? b=some {o with slots:=sl}
 free:∀b o,h.get? b=some o->H b=none->b∉ex->H' b=none
 there:∀b o,h.get? b=some o->b∉ex->∃o',h'.get? b=some o'
 tups:∀b xs,H b=some (.tup xs)->H' b=some (.tup xs)
 frzs:∀b o u,H b=some (.frz o u)->H' b=some (.frz o u)
 tbls:∀b ps,H b=some (.tbl ps)->∃more,H' b=some (.tbl (ps++more))
section
variable {fs fs' ex ex':List Addr} {H1 H2:Hp} {h1 h2:Heap} {x e:Addr}
theorem Un.any (u:Un fs ex H H1 h h1) {ob:Obj} (q:h.get? b=some ob) (n:H b=none) (hx:b∉ex):∃sl,h1.get? b=some {ob with slots:=sl}:=by
 by_cases hb:b∈fs
 .exact u.slot b ob q n hb hx
 .exact⟨ob.slots,u.keep b ob q n hb hx⟩
theorem Un.kept (k:∀b u,h.get? b=some u->h'.get? b=some u):Un fs ex H H h h':=
 ⟨λb ob q _ _ _=>k b ob q,λb ob q _ _ _=>⟨ob.slots,k b ob q⟩,λ_ _ _ n _=>n,λb ob q _=>⟨ob,k b ob q⟩,λ_ _ q=>q,λ_ _ _ q=>q,λ_ ps q=>⟨#[],by rw[q];simp⟩⟩
theorem Un.refl:Un fs ex H H h h:=Un.kept λ_ _ q=>q
theorem Un.laid (k:∀b u,h.get? b=some u->h'.get? b=some u) (hp:h.objs.size<=a) (hn:H a=none):Un fs ex H (upd H a o) h h' where
 keep:=λb u q _ _ _=>k b u q
 slot:=λb u q _ _ _=>⟨u.slots,k b u q⟩
 free:=λb u q n _=>by rw[ac (Qv (Qs (Heap.lt_size q) hp))];exact n
 there:=λb u q _=>⟨u,k b u q⟩
 tups:=λb xs q=>by rw[ac (ak q hn)];exact q
 frzs:=λb u xs q=>by rw[ac (ak q hn)];exact q
 tbls:=λb ps q=>⟨#[],by rw[ac (ak q hn),q];simp⟩
theorem Un.write (mu:Mut (H x)) (he:e=x\/H e=some (.own x)) (k:∀b u,b≠e->h.get? b=some u->h'.get? b=some u) (heo:∃u,h'.get? e=some u):Un fs ex H (upd H x o) h h':=by
 have hx:∀b,H b=none->b≠x:=λb n z=>by subst z;rw[n]at mu;exact mu
 have hb:∀b,H b=none->b≠e:=λb n z=>by
  subst z;rcases he with r|r
  .exact hx b n r
  .rw[n]at r;cases r
 have hm:∀b u,H b=some u->¬Mut (some u)->b≠x:=λb u q nm z=>by subst z;rw[q]at mu;exact nm mu
 refine⟨λb u q n _ _=>k b u (hb b n) q,λb u q n _ _=>⟨u.slots,k b u (hb b n) q⟩,λb u q n _=>by rw[ac (hx b n)];exact n,λb u q _=>?_,
  λb xs q=>by rw[ac (hm b _ q λz=>z)];exact q,λb u xs q=>by rw[ac (hm b _ q λz=>z)];exact q,λb ps q=>⟨#[],by rw[ac (hm b _ q λz=>z),q];simp⟩⟩
 by_cases hbe:b=e
 .subst hbe;exact heo
 .exact⟨u,k b u hbe q⟩
end
def trk (h:Heap) (H:Hp):List Addr:=(List.range h.objs.size).filter λa=>(H a).isSome
def uZ (h:Heap) (H:Hp):Heap:=PySem.W.hideAll h (trk h H)
theorem zH (h:Heap) (H:Hp):(uZ h H).objs.size=h.objs.size:=PySem.W.hideAll_size _ _
theorem Bm {o:Obj} (e:h.get? b=some o) (n:H b=none):(uZ h H).get? b=some o:=
 PySem.W.hideAll_get _ e λhm=>by
  have q:(H b).isSome=true:=(Qt.mp hm).2;rw[n]at q;simp at q
theorem CY {o:Obj} (e:(uZ h H).get? b=some o):h.get? b=some o/\H b=none:=by
 have e':h.get? b=some o:=PySem.W.of_hideAll (trk h H) e;refine⟨e',?_⟩;cases q:H b with
 |none=>rfl
 |some x=>
  have hm:b∈trk h H:=Qt.mpr ⟨List.mem_range.mpr (Heap.lt_size e'),by simp[q]⟩;have z:(uZ h H).get? b=none:=PySem.W.hideAll_none (trk h H) hm;rw[z]at e;cases e
end L2
namespace L2
open PySem PySem.Spec PyProof.Rows
variable {C a b dx f it:Addr} {A:Around} {g':Array GenState} {CX:CXT} {op:CmpOp} {X:Cx} {d':Drawn} {D:Ends} {c e tg:Expr} {fd:FuncData} {base h h':Heap} {H H':Hp} {lo:Int} {g:Int->Int->Int} {pins:List (Addr×Obj)} {kw:List (Str×Value)} {ch fp:List Addr} {outer:List Env} {es:List Expr} {body:List Stmt} {N ps:List Str} {vs xs:List V} {us:List Value} {M:Model} {i j n t':Nat} {o:Option Value} {p pos pos':Pos} {P prog:Program} {K:PySem.W.Frag} {R:Result->Shared->Prop} {scope:Scope} {s s':Shared} {sp:Sp} {σ:St} {m name qual x:Str} {t ta te:TE} {tb:TS} {tc:TT} {v y:V} {u:Value} {E Q:Value->Shared->Prop} {r:V->Hp->VK->Prop} {rd:V->V->Hp->VK->Prop} {w:World}
section
structure Mod (K:PySem.W.Frag) (mg:Str->Option Value) (base:Heap):Prop where
 kin:K.In base
 glob:base.Ns mainGlobals mg
 blt:∃mb,base.Ns builtinsNs mb/\∀x:Str,x≠"__name__"->mb x=bootBuiltins x
 nolimit:base.NoLimit
/-- the context: a def's body (or a comprehension's block) running. base: fixed through the whole law; s₀, H₀: the entry; outer: the frames whose slots others may change (a def's callers); stack: all frames that run;
  ex:iterators that were made ahead of the entry and are walked here (a comprehension's);fn:the names whose cells were made at the entry (a def:all;a comprehension's block:its own);calm:not within an except suite;pn:pins that every state bears;xe:what is wanted of an exception that leaves the code-/
structure Cx where
 prog:Program
 w:World
 K:PySem.W.Frag
 mg:Str->Option Value
 base:Heap
 A:Around
 N:List Str
 s₀:Shared
 H₀:Hp
 env:Env
 outer:List Env
 stack:List Env
 ex:List Addr
 fn:Str->Bool
 calm:Bool
 pn:List (Addr×Obj)
 xe:Value->Shared->Prop
def frs (l:List Env):List Addr:=l.filterMap (·.frame)
abbrev Cx.fs (X:Cx):List Addr:=frs X.outer
def Vis (sc:Scope) (x:Str):Prop:=sc.names.lookup x=some .local\/sc.names.lookup x=some .cell\/sc.names.lookup x=some .free
def Loc (sc:Scope) (x:Str):Prop:=sc.names.lookup x=some .local\/sc.names.lookup x=some .cell
def Look (env:Env) (h:Heap) (m:Str->Option Value) (x:Str) (u:Value):Prop:=
 (env.kindOf x=some .local/\m x=some u)\/((env.kindOf x=some .cell\/env.kindOf x=some .free)/\∃c,env.cells.lookup x=some c/\h.IsCell c (some u))
structure Cx.Ok (X:Cx):Prop where
 mod:Mod X.K X.mg X.base
 kind:X.env.scope.kind= .function
 glob:X.env.globals=mainGlobals
 blt:X.env.builtins=builtinsNs
 above:X.s₀.heap.objs.size<=X.env.locals
 inj:∀x y c,X.env.cells.lookup x=some c->X.env.cells.lookup y=some c->x=y
 has:∀x,(X.env.kindOf x=some .cell\/X.env.kindOf x=some .free)->∃c,X.env.cells.lookup x=some c
 cab:∀x c,X.fn x=true->X.env.cells.lookup x=some c->X.s₀.heap.objs.size<=c
 hd:X.calm=true->X.A.handled=none
 frames:X.A.frames=some X.stack
 stk:X.stack=X.outer\/(X.stack=X.env::X.outer/\X.env.frame=some X.env.locals)
 exf:∀b∈X.ex,b≠X.env.locals/\∀x c,X.env.cells.lookup x=some c->c≠b
 bs:∀b o,X.base.get? b=some o->X.s₀.heap.get? b=some o/\X.H₀ b=none
 bsz:X.base.objs.size<=X.s₀.heap.objs.size
 noex:∀b o,X.base.get? b=some o->b∉X.ex
 exfs:∀b∈X.ex,b∉X.fs
 funs:X.s₀.heap.FunFrames X.base X.outer
 frf:∀b∈X.fs,X.H₀ b=none
structure Inv (X:Cx) (pins:List (Addr×Obj)) (σ:List (Option V)) (H:Hp) (s:Shared):Prop where
 ok:X.Ok
 os:s.os=X.s₀.os
 bare:AllBare s.gens
 base:Un X.fs X.ex X.H₀ H X.s₀.heap s.heap
 loc:∃m,s.heap.Ns X.env.locals m/\∀(i:Nat) (x:Str) (v:V),X.N[i]?=some x->σ[i]?=some (some v)->Vis X.env.scope x->∃u,RelV v u/\Look X.env s.heap m x u
 cell:∀x c,X.env.cells.lookup x=some c->∃v,s.heap.IsCell c v
 free:H X.env.locals=none
 freeC:∀x c,X.env.cells.lookup x=some c->H c=none
 pin:∀p∈X.pn++pins,s.heap.get? p.1=some p.2/\H p.1=none/\p.1≠X.env.locals/\p.1∉X.fs/\∀v,p.2.data≠ .cell v
 hok:HOk X.prog X.w H s.heap
 len:σ.length=X.N.length
section
variable {σ:List (Option V)}
theorem Cx.Ok.nofr (ok:X.Ok) {o:Obj} (e:X.base.get? b=some o):b∉X.fs:=λhb=>by
 have:=(ok.funs.mem hb).1;rw[e]at this;cases this
theorem Inv.bs (I:Inv X pins σ H s):∀b o,X.base.get? b=some o->s.heap.get? b=some o/\H b=none:=λb o e=>
 ⟨I.base.keep b o (I.ok.bs b o e).1 (I.ok.bs b o e).2 (I.ok.nofr e) (I.ok.noex b o e),I.base.free b o (I.ok.bs b o e).1 (I.ok.bs b o e).2 (I.ok.noex b o e)⟩
theorem Inv.bk (I:Inv X pins σ H s):∀b o,X.base.get? b=some o->s.heap.get? b=some o:=λb o e=>(I.bs b o e).1
theorem Inv.mod (I:Inv X pins σ H s):Mod X.K X.mg X.base:=I.ok.mod
theorem Inv.kIn (I:Inv X pins σ H s):X.K.In s.heap:=I.ok.mod.kin.keeps I.bk
theorem Inv.lt (I:Inv X pins σ H s):X.env.locals<s.heap.objs.size:=let⟨_,hn,_⟩:=I.loc;hn.lt
theorem Inv.sz (I:Inv X pins σ H s):X.s₀.heap.objs.size<=s.heap.objs.size:=QL I.ok.above (Z6 I.lt)
theorem Inv.nofs (I:Inv X pins σ H s) (h:s.heap.objs.size<=a):a∉X.fs:=λhb=>by
 obtain⟨_,o,ho,_⟩:=I.ok.funs.mem hb;exact absurd (Qs (Heap.lt_size ho) (QL I.sz h)) (ZA _)
theorem Inv.cne (I:Inv X pins σ H s):∀x c,X.env.cells.lookup x=some c->c≠X.env.locals:=λx c e z=>by
 obtain⟨v,o,ho,hd⟩:=I.cell x c e;obtain⟨m,⟨o',es,ep,ho',hd',_⟩,_⟩:=I.loc;rw[z,ho']at ho;cases ho;rw[hd']at hd;cases hd
theorem Inv.funs (I:Inv X pins σ H s):s.heap.FunFrames X.base X.outer:=by
 have all:∀(l:List Env),(∀b∈frs l,b∈X.fs)->X.s₀.heap.FunFrames X.base l->s.heap.FunFrames X.base l:=by
  intro l
  induction l with
  |nil=>intro _ _;trivial
  |cons env r ih=>
   intro hs hl;obtain⟨hk,⟨L,o,hf,hn,ho,hd⟩,hr⟩:=hl;have hL:L∈X.fs:=hs L (by unfold frs;rw[Xz,hf];exact Qd);obtain⟨sl,e⟩:=I.base.slot L o ho (I.ok.frf L hL) hL λz=>I.ok.exfs L z hL;exact⟨hk,⟨L,_,hf,hn,e,hd⟩,ih (λb hb=>hs b (by unfold frs;rw[Xz,hf];exact Qa _ hb)) hr⟩
 exact all X.outer (λ_ hb=>hb) I.ok.funs
theorem Inv.stack (I:Inv X pins σ H s):s.heap.FunFrames X.base X.stack:=by
 rcases I.ok.stk with e|⟨e,hf⟩
 .rw[e];exact I.funs
 .rw[e];obtain⟨m,hn,_⟩:=I.loc;refine .cons (by rw[I.ok.kind];decide) hf hn ?_ I.funs;exact Heap.get?_none_of_le (QL I.ok.bsz I.ok.above)
theorem Inv.stkSub (I:Inv X pins σ H s):∀b∈frs X.stack,b∈X.env.locals::X.fs:=λb hb=>by
 rcases I.ok.stk with e|⟨e,hf⟩
 .rw[e]at hb;exact Qa _ hb
 .rw[e]at hb;unfold frs at hb;rw[Xz,hf]at hb;exact hb
theorem Inv.stkFree (I:Inv X pins σ H s):∀b∈frs X.stack,H b=none:=λb hb=>by
 rcases Qj.mp (I.stkSub b hb)with e|hb
 .rw[e];exact I.free
 .obtain⟨_,o,ho,_⟩:=I.ok.funs.mem hb;exact I.base.free b o ho (I.ok.frf b hb) λz=>I.ok.exfs b z hb
theorem Inv.step (I:Inv X pins σ H s)
  (hch:∀b∈ch,(b∈X.ex\/X.s₀.heap.objs.size<=b)/\b≠X.env.locals/\(∀x c,X.env.cells.lookup x=some c->c≠b)/\∀p∈X.pn++pins,p.1≠b)
  (keep:∀b o,b≠X.env.locals->b∉X.fs->b∉ch->s.heap.get? b=some o->H b=none->h'.get? b=some o)
  (slot:∀b o,b≠X.env.locals->b∈X.fs->b∉ch->s.heap.get? b=some o->H b=none->∃sl,h'.get? b=some {o with slots:=sl}) (free:∀b o,b∉ch->s.heap.get? b=some o->H b=none->H' b=none)
  (there:∀b o,b∉ch->s.heap.get? b=some o->∃o',h'.get? b=some o')
  (tups:∀b xs,H b=some (.tup xs)->H' b=some (.tup xs)) (frzs:∀b o u,H b=some (.frz o u)->H' b=some (.frz o u)) (tbls:∀b ps,H b=some (.tbl ps)->∃more,H' b=some (.tbl (ps++more)))
  (ns:∀m,s.heap.Ns X.env.locals m->h'.Ns X.env.locals m) (hok:HOk X.prog X.w H' h') (hg:AllBare g'):
  Inv X pins σ H' {s with heap:=h',gens:=g',drawn:=d',toks:=t'}:=by
 have neL:∀b o,X.s₀.heap.get? b=some o->b≠X.env.locals:=λb o e=>Qv (Qs (Heap.lt_size e) I.ok.above);have neC:∀b o,X.s₀.heap.get? b=some o->b∉X.ex->b∉ch:=λb o e hx hb=>by
  rcases(hch b hb).1 with z|z
  .exact hx z
  .exact absurd (Qs (Heap.lt_size e) z) (ZA _)
 have cellK:∀x c,X.env.cells.lookup x=some c->∀v,s.heap.IsCell c v->h'.IsCell c v:=λx c e v ⟨o,ho,hd⟩=>by
  have nch:c∉ch:=λz=>(hch c z).2.2.1 x c e rfl;by_cases hc:c∈X.fs
  .obtain⟨sl,q⟩:=slot c o (I.cne x c e) hc nch ho (I.freeC x c e);exact⟨_,q,hd⟩
  .exact⟨o,keep c o (I.cne x c e) hc nch ho (I.freeC x c e),hd⟩
 refine⟨I.ok,I.os,hg,⟨λb o e n hb hx=>?_,λb o e n hb hx=>?_,λb o e n hx=>?_,λb o e hx=>?_,λb xs e=>tups b xs (I.base.tups b xs e),λb o xs e=>frzs b o xs (I.base.frzs b o xs e),λb ps e=>?_⟩,?_,λx c e=>?_,?_,λx c e=>?_,λp hp=>?_,hok,I.len⟩
 .exact keep b o (neL b o e) hb (neC b o e hx) (I.base.keep b o e n hb hx) (I.base.free b o e n hx)
 .obtain⟨sl,e1⟩:=I.base.slot b o e n hb hx;obtain⟨sl',e2⟩:=slot b _ (neL b o e) hb (neC b o e hx) e1 (I.base.free b o e n hx);exact⟨sl',e2⟩
 .obtain⟨o',e1⟩:=I.base.there b o e hx;exact free b o' (neC b o e hx) e1 (I.base.free b o e n hx)
 .obtain⟨o',e1⟩:=I.base.there b o e hx;exact there b o' (neC b o e hx) e1
 .obtain⟨m1,e1⟩:=I.base.tbls b ps e;obtain⟨m2,e2⟩:=tbls b _ e1;exact⟨m1++m2,by rw[e2,Array.append_assoc]⟩
 .obtain⟨m,hn,hl⟩:=I.loc;refine⟨m,ns m hn,λi x v e1 e2 e3=>?_⟩;obtain⟨u,r,l⟩:=hl i x v e1 e2 e3;refine⟨u,r,?_⟩;rcases l with l|⟨k,c,e,z⟩
  .exact .inl l
  .exact .inr ⟨k,c,e,cellK x c e _ z⟩
 .obtain⟨v,z⟩:=I.cell x c e;exact⟨v,cellK x c e v z⟩
 .obtain⟨m,⟨o,_,_,ho,_⟩,_⟩:=I.loc;exact free _ o (λz=>(hch _ z).2.1 rfl) ho I.free
 .obtain⟨v,o,ho,hd⟩:=I.cell x c e;exact free c o (λz=>(hch c z).2.2.1 x c e rfl) ho (I.freeC x c e)
 .obtain⟨e,n,ne,nf,d⟩:=I.pin p hp;have nch:p.1∉ch:=λz=>(hch p.1 z).2.2.2 p hp rfl;exact⟨keep p.1 p.2 ne nf nch e n,free p.1 p.2 nch e n,ne,nf,d⟩
theorem Inv.un (I:Inv X pins σ H s) (u:Un X.fs [] H H' s.heap h') (hok:HOk X.prog X.w H' h'):Inv X pins σ H' {s with heap:=h',toks:=t'}:=by
 obtain⟨m,⟨o,es,ep,ho,r⟩,_⟩:=id I.loc;obtain⟨sl,hL⟩:=u.any ho I.free (by simp);exact I.step (g':=s.gens) (d':=s.drawn) (ch:=[]) (λ_ z=>nomatch z) (λb o _ hb _ e n=>u.keep b o e n hb (by simp)) (λb o _ hb _ e n=>u.slot b o e n hb (by simp)) (λb o _ e n=>u.free b o e n (by simp)) (λb o _ e=>u.there b o e (by simp)) u.tups u.frzs u.tbls (λm' hm=>by
  obtain⟨o',es',ep',ho',r'⟩:=hm;rw[ho]at ho';cases ho';exact⟨_,es',ep',hL,r'⟩) hok I.bare
theorem Inv.call (I:Inv X pins σ H s) (u:Un (frs X.stack) ch H H' s.heap h') (hok:HOk X.prog X.w H' h') (hg:AllBare g')
  (hch:∀b∈ch,(b∈X.ex\/X.s₀.heap.objs.size<=b)/\b≠X.env.locals/\(∀x c,X.env.cells.lookup x=some c->c≠b)/\∀p∈X.pn++pins,p.1≠b):
  Inv X pins σ H' {s with heap:=h',gens:=g',drawn:=d',toks:=t'}:=by
 obtain⟨m,⟨o,es,ep,ho,r⟩,_⟩:=id I.loc;obtain⟨sl,hL⟩:=u.any ho I.free λz=>(hch _ z).2.1 rfl;exact I.step (ch:=ch) hch (λb o hL hb hc e n=>u.keep b o e n (λz=>(Qj.mp (I.stkSub b z)).elim hL hb) hc) (λb o _ _ hc e n=>u.any e n hc) (λb o hc e n=>u.free b o e n hc) (λb o hc e=>u.there b o e hc) u.tups u.frzs u.tbls (λm' hm=>by
  obtain⟨o',es',ep',ho',r'⟩:=hm;rw[ho]at ho';cases ho';exact⟨_,es',ep',hL,r'⟩) hok hg
theorem Inv.turned (I:Inv X pins σ H s) (k:∀b o,b≠it->s.heap.get? b=some o->h'.get? b=some o) (hn:H it=none) (hL:it≠X.env.locals)
  (h1:it∈X.ex\/X.s₀.heap.objs.size<=it) (h2:∀x c,X.env.cells.lookup x=some c->c≠it) (h3:∀p∈X.pn++pins,p.1≠it):Inv X pins σ H {s with heap:=h',toks:=t'}:=by
 have nit:∀b u,H b=some u->b≠it:=λb u e z=>by rw[z,hn]at e;cases e
 refine I.step (g':=s.gens) (d':=s.drawn) (ch:=[it]) (λb hb=>?_) (λb o _ _ hc e _=>k b o (λz=>hc (by simp[z])) e) (λb o _ _ hc e _=>⟨o.slots,k b o (λz=>hc (by simp[z])) e⟩) (λ_ _ _ _ n=>n)
  (λb o hc e=>⟨o,k b o (λz=>hc (by simp[z])) e⟩) (λ_ _ e=>e) (λ_ _ _ e=>e) (λb ps e=>⟨#[],by rw[e];simp⟩) (λm hm=>?_) (λb u e=>?_) I.bare
 .have e:b=it:=by simpa using hb
  subst e;exact⟨h1,hL,h2,h3⟩
 .obtain⟨o,es,ep,ho,r⟩:=hm;exact⟨o,es,ep,k _ o (Ne.symm hL) ho,r⟩
 .refine(I.hok b u e).stay (λc v hc q=>k c v ?_ q) (λ_ q=>q) λ_ _ q=>q;rcases hc with z|z
  .rw[z];exact nit b u e
  .exact nit c _ z
theorem Inv.tok (I:Inv X pins σ H s) (t:Nat):Inv X pins σ H {s with toks:=t}:=I.un (h':=s.heap) (t':=t) Un.refl I.hok
theorem Inv.kept (I:Inv X pins σ H s) (k:∀b u,s.heap.get? b=some u->h'.get? b=some u):Inv X pins σ H {s with heap:=h',toks:=t'}:=I.un (Un.kept k) (I.hok.kept k)
theorem Inv.laid {o:HO} (I:Inv X pins σ H s) (k:∀b u,s.heap.get? b=some u->h'.get? b=some u) (hp:s.heap.objs.size<=a) (new:ObjOk X.prog X.w (upd H a o) h' a o):
  Inv X pins σ (upd H a o) {s with heap:=h',toks:=t'}:=I.un (Un.laid k hp (I.hok.fresh hp)) (I.hok.laid k hp new)
theorem Inv.write {x e:Addr} {o:HO} (I:Inv X pins σ H s) (mu:Mut (H x)) (he:e=x\/H e=some (.own x)) (k:∀b u,b≠e->s.heap.get? b=some u->h'.get? b=some u) (heo:∃u,h'.get? e=some u)
  (new:ObjOk X.prog X.w (upd H x o) h' x o):Inv X pins σ (upd H x o) {s with heap:=h',toks:=t'}:=I.un (Un.write mu he k heo) (I.hok.write mu he k heo new)
theorem Inv.pins_of {pins':List (Addr×Obj)} (I:Inv X pins σ H s) (h:∀p∈pins',s.heap.get? p.1=some p.2/\H p.1=none/\p.1≠X.env.locals/\p.1∉X.fs/\∀v,p.2.data≠ .cell v):Inv X pins' σ H s:=
 ⟨I.ok,I.os,I.bare,I.base,I.loc,I.cell,I.free,I.freeC,λp hp=>(Q6.mp hp).elim (λz=>I.pin p (Zh _ z)) (h p),I.hok,I.len⟩
theorem rf (hN:N.Nodup) (a:N[i]?=some x) (b:N[j]?=some x):i=j:=by
 obtain⟨h1,e1⟩:=Q3.mp a;obtain⟨h2,e2⟩:=Q3.mp b;exact(List.getElem_inj hN).mp (e1.trans e2.symm)
theorem sX {Q:Unit->Shared->Prop} (I:Inv X pins σ H s) (hN:X.N.Nodup) (hi:X.N[i]?=some x) (hx:Loc X.env.scope x) (r:RelV v u)
  (h:∀s',Inv X pins (σ.set i (some v)) H s'->(∃a,Heap.SameBut a s.heap s'.heap/\(a=X.env.locals\/X.env.cells.lookup x=some a))->Q () s') (hf:X.fn x=true\/X.env.scope.names.lookup x=some .local:=by first|exact .inl rfl|exact .inr rfl|assumption):wpAny M A (storeName X.env x u) Q E s:=by
 obtain⟨m,hn,hl⟩:=id I.loc;have hcls:(X.env.scope.kind== .class||(X.env.scope.kind== .module&&X.env.locals !=X.env.globals))=false:=by rw[I.ok.kind];rfl
 have hiσ:i<σ.length:=by rw[I.len];exact(Q3.mp hi).1
 have cne:=I.cne;have tracked:∀{a:Addr} {h':Heap},(∃o,s.heap.get? a=some o/\H a=none)->Heap.SameBut a s.heap h'->HOk X.prog X.w H h':=λ{a h'} ha hs b ob e=>by
  obtain⟨_,_,hfree⟩:=ha;refine(I.hok b ob e).stay (λc w' hc q=>(hs.2 c ?_).trans q) (λ_ q=>q) λ_ _ q=>q;rintro rfl;rcases hc with rfl|hc
  .rw[hfree]at e;cases e
  .rw[hfree]at hc;cases hc
 rcases hx with hk|hk
 .refine wpAny_storeName_local hk hn (λh' hn' hs=>?_) hcls;obtain⟨oL,_,_,hoL,_⟩:=id hn;refine h _ ⟨I.ok,I.os,I.bare,⟨λb o e n hb hx=>?_,λb o e n hb hx=>?_,I.base.free,λb o e hx=>?_,I.base.tups,I.base.frzs,I.base.tbls⟩,⟨_,hn',λj y v' e1 e2 e3=>?_⟩,λy c e=>?_,I.free,I.freeC,λp hp=>?_,tracked ⟨oL,hoL,I.free⟩ hs,by simpa using I.len⟩ ⟨_,hs,.inl rfl⟩
  .exact(hs.2 b (Qv (Qs (Heap.lt_size e) I.ok.above))).trans (I.base.keep b o e n hb hx)
  .obtain⟨sl,e1⟩:=I.base.slot b o e n hb hx;exact⟨sl,(hs.2 b (Qv (Qs (Heap.lt_size e) I.ok.above))).trans e1⟩
  .obtain⟨o',e1⟩:=I.base.there b o e hx;exact⟨o',(hs.2 b (Qv (Qs (Heap.lt_size e) I.ok.above))).trans e1⟩
  .by_cases hj:j=i
   .subst hj;rw[hi]at e1;cases e1;rw[ZR hiσ]at e2;cases e2;exact⟨u,r,.inl ⟨hk,by simp⟩⟩
   .rw[Xv (Ne.symm hj)]at e2;obtain⟨u',r',q⟩:=hl j y v' e1 e2 e3;refine⟨u',r',?_⟩;rcases q with⟨k,e⟩|⟨k,c,e,z⟩
    .refine .inl ⟨k,?_⟩;have:y≠x:=λe=>hj (rf hN e1 (e▸hi));simp[this,e]
    .exact .inr ⟨k,c,e,z.sameBut hs (cne y c e)⟩
  .obtain⟨w',z⟩:=I.cell y c e;exact⟨w',z.sameBut hs (cne y c e)⟩
  .obtain⟨e,n,ne,nf,d⟩:=I.pin p hp;exact⟨(hs.2 p.1 ne).trans e,n,ne,nf,d⟩
 .have hfn:X.fn x=true:=by
   rcases hf with z|z
   .exact z
   .rw[z]at hk;cases hk
  obtain⟨c,hc⟩:=I.ok.has x (.inl hk);obtain⟨w',z⟩:=I.cell x c hc;refine wpAny_storeName_cell I.ok.kind hk hc z (λh' hc' hs=>?_);obtain⟨oc,hoc,hocd⟩:=id z;refine h {s with heap:=h'} ⟨I.ok,I.os,I.bare,⟨λb o e n hb hx=>?_,λb o e n hb hx=>?_,I.base.free,λb o e hx=>?_,I.base.tups,I.base.frzs,I.base.tbls⟩,⟨m,hn.sameBut hs (Ne.symm (cne x c hc)),λj y v' e1 e2 e3=>?_⟩,λy c' e=>?_,I.free,I.freeC,λp hp=>?_,tracked ⟨oc,hoc,I.freeC x c hc⟩ hs,by simpa using I.len⟩ ⟨c,hs,.inr hc⟩
  .exact(hs.2 b (Qv (Qs (Heap.lt_size e) (I.ok.cab x c hfn hc)))).trans (I.base.keep b o e n hb hx)
  .obtain⟨sl,e1⟩:=I.base.slot b o e n hb hx;exact⟨sl,(hs.2 b (Qv (Qs (Heap.lt_size e) (I.ok.cab x c hfn hc)))).trans e1⟩
  .obtain⟨o',e1⟩:=I.base.there b o e hx;exact⟨o',(hs.2 b (Qv (Qs (Heap.lt_size e) (I.ok.cab x c hfn hc)))).trans e1⟩
  .by_cases hj:j=i
   .subst hj;rw[hi]at e1;cases e1;rw[ZR hiσ]at e2;cases e2;exact⟨u,r,.inr ⟨.inl hk,c,hc,hc'⟩⟩
   .rw[Xv (Ne.symm hj)]at e2;obtain⟨u',r',q⟩:=hl j y v' e1 e2 e3;refine⟨u',r',?_⟩;rcases q with q|⟨k,c',e,z'⟩
    .exact .inl q
    .refine .inr ⟨k,c',e,z'.sameBut hs ?_⟩;rintro rfl;exact hj (rf hN e1 (I.ok.inj _ _ _ e hc▸hi))
  .by_cases hcc:c'=c
   .subst hcc;exact⟨_,hc'⟩
   .obtain⟨w2,z2⟩:=I.cell y c' e;exact⟨w2,z2.sameBut hs hcc⟩
  .obtain⟨e,n,ne,nf,d⟩:=I.pin p hp;refine⟨(hs.2 p.1 ?_).trans e,n,ne,nf,d⟩;intro q;rw[q,hoc]at e;have q':oc=p.2:=Option.some.inj e;exact d w' (by rw[<-q'];exact hocd)
theorem mt {Q:Unit->Shared->Prop} (I:Inv X pins σ H s) (hN:X.N.Nodup) (hi:X.N[i]?=some x) (hx:Loc X.env.scope x) (r:RelV v u)
  (h:∀s',Inv X pins (σ.set i (some v)) H s'->Q () s') (hf:X.fn x=true\/X.env.scope.names.lookup x=some .local:=by first|exact .inl rfl|exact .inr rfl|assumption):wpAny M A (storeName X.env x u) Q E s:=
 sX I hN hi hx r (λs' I' _=>h s' I') hf
theorem Inv.call' (I:Inv X pins σ H s) (ho:s'.os=s.os) (u:Un (frs X.stack) ch H H' s.heap s'.heap) (hok:HOk X.prog X.w H' s'.heap) (hg:AllBare s'.gens)
  (hch:∀b∈ch,(b∈X.ex\/X.s₀.heap.objs.size<=b)/\b≠X.env.locals/\(∀x c,X.env.cells.lookup x=some c->c≠b)/\∀p∈X.pn++pins,p.1≠b):Inv X pins σ H' s':=by
 obtain⟨h',g',d',t',o'⟩:=s';have e:o'=s.os:=ho;subst e;exact I.call (g':=g') (t':=t') (d':=d') u hok hg hch
end
abbrev XK:=Value->Option Addr->Hp->Prop
abbrev St:=List (Option V)
abbrev VK:=V->Hp->Prop
abbrev TE:=St->Hp->VK->Prop
abbrev TT:=St->Hp->(Bool->Hp->Prop)->Prop
abbrev TA:=St->Hp->(List V->Hp->Prop)->Prop
structure Ends where
 nx:St->Hp->Prop
 rt:VK
 bk:St->Hp->Prop:=λ_ _=>False
 ct:St->Hp->Prop:=λ_ _=>False
abbrev TS:=Ends->St->Hp->Prop
def EP (X:Cx) (pins:List (Addr×Obj)) (σ:St) (Q:VK) (u:Value) (s':Shared):Prop:=∃v H',Inv X pins σ H' s'/\RelV v u/\Q v H'
def TP (X:Cx) (pins:List (Addr×Obj)) (σ:St) (Q:Bool->Hp->Prop) (b:Bool) (s':Shared):Prop:=∃H',Inv X pins σ H' s'/\Q b H'
def AP (X:Cx) (pins:List (Addr×Obj)) (σ:St) (Q:List V->Hp->Prop) (us:List Value) (s':Shared):Prop:=∃vs H',Inv X pins σ H' s'/\Vals vs us/\Q vs H'
def SP (X:Cx) (pins:List (Addr×Obj)) (D:Ends) (f:Flow) (s':Shared):Prop:=
 match f with
 | .next=>∃σ' H',Inv X pins σ' H' s'/\D.nx σ' H'
 | .brk=>∃σ' H',Inv X pins σ' H' s'/\D.bk σ' H'
 | .cont=>∃σ' H',Inv X pins σ' H' s'/\D.ct σ' H'
 | .ret u=>∃v σ' H',Inv X pins σ' H' s'/\RelV v u/\D.rt v H'
def PE (X:Cx) (e:Expr) (t:TE):Prop:=
 ∀(pins:List (Addr×Obj)) (s:Shared) (σ:St) (H:Hp) (Q:VK),Inv X pins σ H s->t σ H Q->wpAny (model X.prog X.w) X.A (eval e X.env) (EP X pins σ Q) X.xe s
def PT (X:Cx) (e:Expr) (t:TT):Prop:=
 ∀(pins:List (Addr×Obj)) (s:Shared) (σ:St) (H:Hp) (Q:Bool->Hp->Prop),Inv X pins σ H s->t σ H Q->wpAny (model X.prog X.w) X.A (isTrue e X.env (eval e X.env)) (TP X pins σ Q) X.xe s
def PW (X:Cx) (e:Expr) (t:TT):Prop:=
 ∀(whole:Sem Value) (pins:List (Addr×Obj)) (s:Shared) (σ:St) (H:Hp) (Q:Bool->Hp->Prop),Inv X pins σ H s->t σ H Q->wpAny (model X.prog X.w) X.A (isTrue e X.env whole) (TP X pins σ Q) X.xe s
theorem PW.pt {t:TT} (h:PW X e t):PT X e t:=h _
def PA (X:Cx) (es:List Expr) (t:TA):Prop:=
 ∀(pos:Pos) (pins:List (Addr×Obj)) (s:Shared) (σ:St) (H:Hp) (Q:List V->Hp->Prop),Inv X pins σ H s->t σ H Q->wpAny (model X.prog X.w) X.A (spliced (backTo pos (starEach es X.env))) (AP X pins σ Q) X.xe s
def PS (X:Cx) (st:Stmt) (t:TS):Prop:=
 ∀(pins:List (Addr×Obj)) (s:Shared) (σ:St) (H:Hp) (D:Ends),Inv X pins σ H s->t D σ H->wpAny (model X.prog X.w) X.A (exec st X.env) (SP X pins D) X.xe s
def PSs (X:Cx) (st:List Stmt) (t:TS):Prop:=
 ∀(pins:List (Addr×Obj)) (s:Shared) (σ:St) (H:Hp) (D:Ends),Inv X pins σ H s->t D σ H->wpAny (model X.prog X.w) X.A (execs st X.env) (SP X pins D) X.xe s
theorem thn {α:Type} {t:Sem α} {Q Q':α->Shared->Prop} (h:wpAny M A t Q E s) (hQ:∀a s,Q a s->Q' a s):wpAny M A t Q' E s:=wpAny_mono h hQ λ_ _ x=>x
end
section
section
def Ap (i:Nat):TE:=λσ H Q=>∃v,σ[i]?=some (some v)/\Q v H
def tC (v:V):TE:=λ_ H Q=>Q v H
theorem Er (hN:X.N[i]?=some x) (hv:Vis X.env.scope x) (hd:(x==("__debug__":Str))=false:=by decide) (hcd:(x==("__classdict__":Str))=false:=by decide):PE X (.Name x pos) (Ap i):=by
 intro pins s σ H Q I h;obtain⟨v,e,h⟩:=h;obtain⟨m,hn,hl⟩:=I.loc;obtain⟨u,r,l⟩:=hl i x v hN e hv;have fin:EP X pins σ Q u s:=⟨v,H,I,r,h⟩;rcases l with⟨hk,hm⟩|⟨hk,c,hc,hcell⟩
 .exact wpAny_Name (wpAny_loadName_local I.ok.kind hk hn hm fin) hd
 .rcases hk with hk|hk
  .exact wpAny_Name (wpAny_loadName_cell I.ok.kind hk hc hcell fin) hd
  .exact wpAny_Name (wpAny_loadName_free I.ok.kind hk hc hcell fin hcd) hd
theorem ai {i j pos}:PE X (.Constant (.int i) j pos) (tC (.int i)):=λ_ _ _ H _ I h=>wpAny_Constant_int ⟨.int i,H,I.tok _,⟨_,rfl⟩,h⟩
theorem qR {b j pos}:PE X (.Constant (.bool b) j pos) (tC (.bl b)):=λ_ _ _ H _ I h=>Constant_bool ⟨.bl b,H,I,rfl,h⟩
theorem dA {j pos}:PE X (.Constant .none j pos) (tC .non):=λ_ _ _ H _ I h=>Constant_none ⟨.non,H,I,rfl,h⟩
theorem fV {x j pos}:PE X (.Constant (.str x) j pos) (tC (.str x)):=λ_ _ _ H _ I h=>Calls.Constant_str ⟨.str x,H,I.tok _,⟨_,rfl⟩,h⟩
def Gl (X:Cx) (x:Str):Prop:=X.env.kindOf x=some .globalImplicit
theorem gH (I:Inv X pins σ H s) (hg:Gl X x) (hm:X.mg x=some u) (h:Q u s)
  (hd:(x==("__debug__":Str))=false:=by decide):wpAny (model X.prog X.w) X.A (eval (.Name x pos) X.env) Q E s:=
 Calls.Name_function_global I.ok.kind hg (Calls.loadGlobal_global (by rw[I.ok.glob];exact I.mod.glob.keeps I.bk) hm h) hd
theorem oz (I:Inv X pins σ H s) (hg:Gl X x) (hm:X.mg x=none) (hv:bootBuiltins x=some u) (h:Q u s)
  (hn:x≠"__name__":=by decide) (hd:(x==("__debug__":Str))=false:=by decide):wpAny (model X.prog X.w) X.A (eval (.Name x pos) X.env) Q E s:=by
 obtain⟨mb,h1,h2⟩:=I.mod.blt;exact Calls.Name_function_global I.ok.kind hg (Calls.loadGlobal_builtin (by rw[I.ok.glob];exact I.mod.glob.keeps I.bk) hm (by rw[I.ok.blt];exact h1.keeps I.bk) ((h2 x hn).trans hv) h) hd
theorem cM (hg:Gl X x) (hm:X.mg x=some u) (r:RelV v u) (hd:(x==("__debug__":Str))=false:=by decide):PE X (.Name x pos) (tC v):=
 λ_ _ _ H _ I h=>gH I hg hm ⟨v,H,I,r,h⟩ hd
theorem uz (hg:Gl X x) (hm:X.mg x=none) (hv:bootBuiltins x=some u) (r:RelV v u) (hn:x≠"__name__":=by decide) (hd:(x==("__debug__":Str))=false:=by decide):PE X (.Name x pos) (tC v):=
 λ_ _ _ H _ I h=>oz I hg hm hv ⟨v,H,I,r,h⟩ hn hd
variable {a b:Expr} {tb:TE}
def PC (X:Cx) (op:CmpOp) (a b:Expr) (t:TE):Prop:=
 ∀(pins:List (Addr×Obj)) (s:Shared) (σ:St) (H:Hp) (Q:VK),Inv X pins σ H s->t σ H Q->
  wpAny (model X.prog X.w) X.A (eval a X.env) (λv s₁=>wpAny (model X.prog X.w) X.A (eval b X.env) (λu s₂=>wpAny (model X.prog X.w) X.A (compareOp op v u) (EP X pins σ Q) X.xe s₂) X.xe s₁) X.xe s
def tB (t:TE):TT:=λσ H Q=>t σ H λx H1=>∃c,x= .bl c/\Q c H1
theorem Et (h:PC X op a b t) (h1:behindInMarks op b=false:=by first|exact nobehind _ (by decide) (by decide)|rfl):PE X (.Compare a [op] [b] pos) t:=λpins s σ H Q I hw=>wpAny_Compare1 (h pins s σ H Q I hw) h1
theorem xi (h:PC X op a b t) (h1:behindInMarks op b=false:=by first|exact nobehind _ (by decide) (by decide)|rfl):PT X (.Compare a [op] [b] pos) (tB t):=by
 intro pins s σ H Q I hw;refine wpAny_isTrue_Compare1 (thn (h pins s σ H _ I hw) λv s1 h1=>thn h1 λu s2 h2=>thn h2 λc s3 hzz=>?_) h1;obtain⟨x,H1,I1,r1,q1⟩:=hzz;obtain⟨d,rfl,q⟩:=q1;cases r1;exact wpAny_truthy_bool ⟨H1,I1,q⟩
theorem bT (h:PE X e t) (he:∀whole,isTrue e X.env whole=(do let v<-whole;standAt e.pos;holding [v] (truthy v)):=by intro _;rfl):PT X e (tB t):=by
 intro pins s σ H Q I hw;refine isTrue_plain (thn (h pins s σ H _ I hw) λv s1 hzz=>?_) (he _);obtain⟨x,H1,I1,r1,q1⟩:=hzz;obtain⟨d,rfl,q⟩:=q1;cases r1;exact wpAny_truthy_bool ⟨H1,I1,q⟩
variable {tA tB':TT} {rest:List Expr}
def tAnd (t u:TT):TT:=λσ H Q=>t σ H λc H1=>if c=true then u σ H1 Q else Q false H1
def tOr (t u:TT):TT:=λσ H Q=>t σ H λc H1=>if c=true then Q true H1 else u σ H1 Q
def tNot (t:TT):TT:=λσ H Q=>t σ H λc H1=>Q (!c) H1
theorem dR (ha:PT X a tA):PW X (.BoolOp .And [a] pos) tA:=by
 intro wh pins s σ H Q I h;refine isTrue_and (thn (ha pins s σ H Q I h) λc s1 e=>?_);cases c with
 |true=>exact isTrue_and_nil e
 |false=>exact e
theorem qL (ha:PT X a tA):PW X (.BoolOp .Or [a] pos) tA:=by
 intro wh pins s σ H Q I h;refine isTrue_or (thn (ha pins s σ H Q I h) λc s1 e=>?_);cases c with
 |false=>exact isTrue_or_nil e
 |true=>exact e
theorem fS (ha:PT X a tA) (hb:PW X (.BoolOp .And (b::rest) pos) tB'):PW X (.BoolOp .And (a::b::rest) pos) (tAnd tA tB'):=by
 intro wh pins s σ H Q I h;refine isTrue_and (thn (ha pins s σ H _ I h) λc s1 ⟨H1,I1,q1⟩=>?_);cases c with
 |true=>exact hb wh pins s1 σ H1 Q I1 q1
 |false=>exact⟨H1,I1,q1⟩
theorem tm (ha:PT X a tA) (hb:PW X (.BoolOp .Or (b::rest) pos) tB'):PW X (.BoolOp .Or (a::b::rest) pos) (tOr tA tB'):=by
 intro wh pins s σ H Q I h;refine isTrue_or (thn (ha pins s σ H _ I h) λc s1 ⟨H1,I1,q1⟩=>?_);cases c with
 |true=>exact⟨H1,I1,q1⟩
 |false=>exact hb wh pins s1 σ H1 Q I1 q1
theorem iW (ha:PT X a tA):PT X (.UnaryOp .Not a pos) (tNot tA):=by
 intro pins s σ H Q I h;exact isTrue_not (ha pins s σ H (λc H1=>Q (!c) H1) I h)
def Fu (ta tb:TE):TE:=λσ H Q=>ta σ H λx H1=>∃c,x= .bl c/\if c=true then tb σ H1 Q else Q (.bl false) H1
def tOrV (ta tb:TE):TE:=λσ H Q=>ta σ H λx H1=>∃c,x= .bl c/\if c=true then Q (.bl true) H1 else tb σ H1 Q
def Fm (ta:TE):TE:=λσ H Q=>ta σ H λx H1=>∃c,x= .bl c/\Q (.bl (!c)) H1
theorem eJ {op} (h:PE X a t):PE X (.BoolOp op [a] pos) t:=λpins s σ H Q I hw=>BoolOp_one (h pins s σ H Q I hw)
theorem fX (ha:PE X a ta) (hb:PE X (.BoolOp .And (b::rest) pos) tb):PE X (.BoolOp .And (a::b::rest) pos) (Fu ta tb):=by
 intro pins s σ H Q I h;refine BoolOp_and (thn (ha pins s σ H _ I h) λv s1 hzz=>?_);obtain⟨x,H1,I1,r1,q1⟩:=hzz;obtain⟨c,rfl,q1⟩:=q1;cases r1;refine wpAny_truthy_bool ?_;cases c with
 |true=>exact hb pins s1 σ H1 Q I1 q1
 |false=>exact⟨.bl false,H1,I1,rfl,q1⟩
theorem yb (ha:PE X a ta) (hb:PE X (.BoolOp .Or (b::rest) pos) tb):PE X (.BoolOp .Or (a::b::rest) pos) (tOrV ta tb):=by
 intro pins s σ H Q I h;refine BoolOp_or (thn (ha pins s σ H _ I h) λv s1 hzz=>?_);obtain⟨x,H1,I1,r1,q1⟩:=hzz;obtain⟨c,rfl,q1⟩:=q1;cases r1;refine wpAny_truthy_bool ?_;cases c with
 |false=>exact hb pins s1 σ H1 Q I1 q1
 |true=>exact⟨.bl true,H1,I1,rfl,q1⟩
theorem Es (ha:PE X a ta):PE X (.UnaryOp .Not a pos) (Fm ta):=by
 intro pins s σ H Q I h;refine UnaryOp_ (thn (ha pins s σ H _ I h) λv s1 hzz=>?_);obtain⟨x,H1,I1,r1,q1⟩:=hzz;obtain⟨c,rfl,q1⟩:=q1;cases r1;exact not_of (wpAny_truthy_bool ⟨.bl (!c),H1,I1,rfl,q1⟩)
def tIf (t:TT) (ta tb:TE):TE:=λσ H Q=>t σ H λc H1=>if c=true then ta σ H1 Q else tb σ H1 Q
theorem AF (hc:PT X c tA) (ha:PE X a ta) (hb:PE X b tb):PE X (.IfExp c a b pos) (tIf tA ta tb):=by
 intro pins s σ H Q I h;refine wpAny_IfExp (thn (hc pins s σ H _ I h) λd s1 ⟨H1,I1,q1⟩=>?_);cases d with
 |true=>exact ha pins s1 σ H1 Q I1 q1
 |false=>exact hb pins s1 σ H1 Q I1 q1
end
end
section
def SqL (K:PySem.W.Frag) (H:Hp) (a:Addr) (xs:List V):Prop:=
 Rd H a (.lst xs)\/
  ∃(o:Obj) (its:Array Value) (n:Nat),K.lookup a=some o/\o.cls= .type "list"/\o.dict=none/\o.data= .seq its n/\its.size<=sizeLine/\Vals xs its.toList
def SqT (K:PySem.W.Frag) (H:Hp) (a:Addr) (xs:List V):Prop:=
 Rd H a (.tup xs)\/
  ∃(o:Obj) (its:Array Value) (n:Nat),K.lookup a=some o/\o.cls= .type "tuple"/\o.data= .seq its n/\its.size<=sizeLine/\Vals xs its.toList
def absV:Value->Option V
 | .none=>some .non
 | .bool b=>some (.bl b)
 | .int i _=>some (.int i)
 | .str x _=>some (.str x)
 | .bytes b _=>some (.byt b)
 | .float b _=>some (.flt b)
 | .ref a=>some (.ref a)
 | .type n=>some (.ty n)
 |_=>none
theorem RelV.abs {x:V} (r:RelV x u):absV u=some x:=by
 cases x with
 |non=>cases r;rfl
 |bl _=>cases r;rfl
 |int _=>obtain⟨t,rfl⟩:=r;rfl
 |str _=>obtain⟨t,rfl⟩:=r;rfl
 |byt _=>obtain⟨t,rfl⟩:=r;rfl
 |flt _=>obtain⟨t,rfl⟩:=r;rfl
 |ref _=>cases r;rfl
 |ty _=>cases r;rfl
theorem RelV.inj {x:V} (r:RelV x u) (q:RelV y u):x=y:=Option.some.inj (r.abs.symm.trans q.abs)
theorem Vals.inj:∀{xs ys:List V} {us:List Value},Vals xs us->Vals ys us->xs=ys
 |_,_,_,.nil,.nil=>rfl
 |_,_,_,.cons r t,.cons r' t'=>by rw[r.inj r',Vals.inj t t']
section
variable {ys:List V}
theorem SqL.of (h:H a=some (.lst xs)):SqL K H a xs:= .inl (.inl h)
theorem SqT.of (h:H a=some (.tup xs)):SqT K H a xs:= .inl (.inl h)
theorem Inv.list (I:Inv X pins σ H s) (h:SqL X.K H a xs):∃its:List Value,Vals xs its/\PlainL s.heap a its.toArray/\xs.length<=sizeLine:=by
 rcases h with h|⟨o,its,n,hk,hc,hd,hs,hz,r⟩
 .obtain⟨z,its,n,r,e⟩:=h.ok I.hok;exact⟨its,r,⟨_,n,e,rfl,rfl,rfl⟩,z⟩
 .refine⟨its.toList,r,⟨o,n,I.kIn a o hk,hc,hd,by simpa using hs⟩,?_⟩;have e:=r.length;simp only[Q8]at e;lia
theorem Inv.tuple (I:Inv X pins σ H s) (h:SqT X.K H a xs):∃its:List Value,Vals xs its/\IsTup s.heap a its.toArray/\xs.length<=sizeLine:=by
 rcases h with h|⟨o,its,n,hk,hc,hs,hz,r⟩
 .obtain⟨z,its,r,p⟩:=h.ok I.hok;exact⟨its,r,p,z⟩
 .refine⟨its.toList,r,⟨o,I.kIn a o hk,hc,n,by simpa using hs⟩,?_⟩;have e:=r.length;simp only[Q8]at e;lia
theorem Inv.list_inj (I:Inv X pins σ H s) (h:SqL X.K H a xs) (h':SqL X.K H a ys):xs=ys:=by
 obtain⟨its,r,⟨o,n,e,_,_,d⟩,_⟩:=I.list h;obtain⟨its',r',⟨o',n',e',_,_,d'⟩,_⟩:=I.list h';rw[e]at e';cases e';rw[d]at d';injection d' with d1 _;have:its=its':=by simpa using congrArg Array.toList d1
 subst this;exact r.inj r'
end
abbrev Cx.wish (X:Cx) (E:Value->Shared->Prop):Cx:={X with xe:=E}
abbrev Cx.nox (X:Cx):Cx:=X.wish λ_ _=>False
theorem Cx.Ok.wish (ok:X.Ok) (E:Value->Shared->Prop):(X.wish E).Ok:=
 ⟨ok.mod,ok.kind,ok.glob,ok.blt,ok.above,ok.inj,ok.has,ok.cab,ok.hd,ok.frames,ok.stk,ok.exf,ok.bs,ok.bsz,ok.noex,ok.exfs,ok.funs,ok.frf⟩
theorem Cx.Ok.unwish (ok:(X.wish E).Ok):X.Ok:=
 ⟨ok.mod,ok.kind,ok.glob,ok.blt,ok.above,ok.inj,ok.has,ok.cab,ok.hd,ok.frames,ok.stk,ok.exf,ok.bs,ok.bsz,ok.noex,ok.exfs,ok.funs,ok.frf⟩
section
theorem Inv.wish (I:Inv X pins σ H s) (E:Value->Shared->Prop):Inv (X.wish E) pins σ H s:=⟨I.ok.wish E,I.os,I.bare,I.base,I.loc,I.cell,I.free,I.freeC,I.pin,I.hok,I.len⟩
theorem Inv.unwish (I:Inv (X.wish E) pins σ H s):Inv X pins σ H s:=⟨I.ok.unwish,I.os,I.bare,I.base,I.loc,I.cell,I.free,I.freeC,I.pin,I.hok,I.len⟩
theorem SP.unwish {f:Flow} (h:SP (X.wish E) pins D f s'):SP X pins D f s':=by
 cases f with
 |next=>obtain⟨σ',H',I,q⟩:=h;exact⟨σ',H',I.unwish,q⟩
 |brk=>obtain⟨σ',H',I,q⟩:=h;exact⟨σ',H',I.unwish,q⟩
 |cont=>obtain⟨σ',H',I,q⟩:=h;exact⟨σ',H',I.unwish,q⟩
 |ret u=>obtain⟨v,σ',H',I,r,q⟩:=h;exact⟨v,σ',H',I.unwish,r,q⟩
theorem PSs.nox {st:List Stmt} {t:TS} (h:PSs X.nox st t):PSs X st t:=λpins s σ H D I hw=>
 wpAny_mono (h pins s σ H D (I.wish _) hw) (λ_ _ q=>q.unwish) λ_ _ z=>False.elim z
end
section
variable {st:Stmt} {rest:List Stmt} {t u:TS}
def fI:TS:=λD σ H=>D.nx σ H
def Cp (t u:TS):TS:=λD σ H=>t {D with nx:=u D} σ H
theorem aF:PSs X [] fI:=λ_ _ σ H _ I h=>wpAny_execs_nil ⟨σ,H,I,h⟩
theorem ae (h1:PS X st t) (h2:PSs X rest u):PSs X (st::rest) (Cp t u):=by
 intro pins s σ H D I h;refine wpAny_execs_cons (thn (h1 pins s σ H {D with nx:=u D} I h) λf s1 q=>?_);cases f with
 |next=>
  obtain⟨σ',H',I',q⟩:=q;exact h2 pins s1 σ' H' D I' q
 |ret v=>exact q
 |brk=>exact q
 |cont=>exact q
theorem ah (h1:PS X st t):PSs X [st] t:=by
 intro pins s σ H D I h;refine wpAny_execs_cons (thn (h1 pins s σ H D I h) λf s1 q=>?_);cases f with
 |next=>exact wpAny_execs_nil q
 |ret v=>exact q
 |brk=>exact q
 |cont=>exact q
theorem Inv.quiet (I:Inv X pins σ H s):interactive X.env=false:=by simp[interactive,I.ok.kind]
def Fo (te:TE):TS:=λD σ H=>te σ H λ_ H1=>D.nx σ H1
theorem aJ (he:PE X e te) (hs:swapsWith e none pos.line X.env=pure false:=by rfl):PS X (.Expr e pos) (Fo te):=by
 intro pins s σ H D I h;exact wpAny_Expr_any (thn (he pins s σ H _ I h) λv s1 ⟨x,H1,I1,r1,q1⟩=>⟨σ,H1,I1,q1⟩) I.quiet hs
def tRet (te:TE):TS:=λD σ H=>te σ H D.rt
theorem aI (he:PE X e te):PS X (.Return (some e) pos) (tRet te):=by
 intro pins s σ H D I h;exact wpAny_Return_some (thn (he pins s σ H _ I h) λv s1 ⟨x,H1,I1,r1,q1⟩=>⟨x,σ,H1,I1,r1,q1⟩)
def Fk:TS:=λD _ H=>D.rt .non H
theorem mK:PS X (.Return none pos) Fk:=λ_ _ σ H _ I h=>wpAny_Return_none ⟨.non,σ,H,I,rfl,h⟩
def Ef (c:TT) (t u:TS):TS:=λD σ H=>c σ H λb H1=>if b=true then t D σ H1 else u D σ H1
theorem aQ {a b:List Stmt} (hc:PT X c tc) (ha:PSs X a t) (hb:PSs X b u):PS X (.If c a b pos) (Ef tc t u):=by
 intro pins s σ H D I h;refine wpAny_If (thn (hc pins s σ H _ I h) λd s1 ⟨H1,I1,q1⟩=>?_);cases d with
 |true=>exact ha pins s1 σ H1 D I1 q1
 |false=>exact hb pins s1 σ H1 D I1 q1
end
abbrev TG:=V->St->Hp->(St->Hp->Prop)->Prop
abbrev TGs:=List V->St->Hp->(St->Hp->Prop)->Prop
def PG (X:Cx) (target:Expr) (t:TG):Prop:=
 ∀(pins:List (Addr×Obj)) (s:Shared) (σ:St) (H:Hp) (v:V) (u:Value) (Q:St->Hp->Prop),Inv X pins σ H s->RelV v u->t v σ H Q->
  wpAny (model X.prog X.w) X.A (assign target X.env u) (λ_ s'=>∃σ' H',Inv X pins σ' H' s'/\Q σ' H') X.xe s
def PGs (X:Cx) (ts:List Expr) (t:TGs):Prop:=
 ∀(pins:List (Addr×Obj)) (s:Shared) (σ:St) (H:Hp) (vs:List V) (us:List Value) (Q:St->Hp->Prop),Inv X pins σ H s->Vals vs us->t vs σ H Q->
  wpAny (model X.prog X.w) X.A (assignInOrder ((assignEach ts X.env).map (·.2)) us) (λ_ s'=>∃σ' H',Inv X pins σ' H' s'/\Q σ' H') X.xe s
abbrev E8:=V->V->V->Hp->(Hp->Prop)->Prop
def PSet (X:Cx) (t:E8):Prop:=
 ∀(pins:List (Addr×Obj)) (s:Shared) (σ:St) (H:Hp) (o i v:V) (ov iv u:Value) (Q:Hp->Prop),Inv X pins σ H s->RelV o ov->RelV i iv->RelV v u->t o i v H Q->
  wpAny (model X.prog X.w) X.A (setItem ov iv u) (λ_ s'=>∃H',Inv X pins σ H' s'/\Q H') X.xe s
abbrev TIp:=V->V->Hp->VK->Prop
def PIp (X:Cx) (op:Operator) (t:TIp):Prop:=
 ∀(pins:List (Addr×Obj)) (s:Shared) (σ:St) (H:Hp) (x y:V) (v u:Value) (Q:VK),Inv X pins σ H s->RelV x v->RelV y u->t x y H Q->
  wpAny (model X.prog X.w) X.A (inplaceOp op v u) (EP X pins σ Q) X.xe s
section
def jk (i:Nat):TG:=λv σ H Q=>Q (σ.set i (some v)) H
theorem eV (hN:X.N.Nodup) (hi:X.N[i]?=some x) (hx:Loc X.env.scope x) (hf:X.fn x=true\/X.env.scope.names.lookup x=some .local:=by first|exact .inl rfl|exact .inr rfl|assumption):PG X (.Name x pos) (jk i):=by
 intro pins s σ H v u Q I r h;exact wpAny_assign_Name (mt I hN hi hx r (λs' I'=>⟨_,H,I',h⟩) hf)
def gNil:TGs:=λvs σ H Q=>vs=[]/\Q σ H
def FV (t:TG) (u:TGs):TGs:=λvs σ H Q=>∃v r,vs=v::r/\t v σ H λσ' H'=>u r σ' H' Q
theorem CQ:PGs X [] gNil:=by
 intro pins s σ H vs us Q I r h;obtain⟨e,h⟩:=h;subst e;cases r;exact assignInOrder_nil ⟨σ,H,I,h⟩
theorem vO {t:TG} {u:TGs} (h1:PG X e t) (h2:PGs X es u)
  (hs:(assignEach (e::es) X.env).map (·.2)=assign e X.env::(assignEach es X.env).map (·.2):=by rfl):PGs X (e::es) (FV t u):=by
 intro pins s σ H vs us Q I r h;obtain⟨v,vr,e1,h⟩:=h;subst e1;cases r with
 |cons r rr=>
  rw[hs];refine assignInOrder_cons (thn (h1 pins s σ H _ _ _ I r h) λ_ s1 hzz=>?_);obtain⟨σ1,H1,I1,q1⟩:=hzz;exact h2 pins s1 σ1 H1 _ _ Q I1 rr q1
def gTup (K:PySem.W.Frag) (n:Nat) (t:TGs):TG:=λv σ H Q=>∃a xs,v= .ref a/\SqT K H a xs/\xs.length=n/\t xs σ H Q
theorem Ep {k:Nat} {t:TGs} (hc:X.calm=true) (h:PGs X es t)
  (hn:(assignEach es X.env).length=n:=by rfl) (hst:(assignEach es X.env).findIdx? (·.1)=none:=by rfl):PG X (.Tuple es k pos) (gTup X.K n t):=by
 intro pins s σ H v u Q I r hw;obtain⟨a,xs,e1,hq,hl,hw⟩:=hw;subst e1;cases r;obtain⟨its,rv,ht,hz⟩:=I.tuple hq;refine assign_Tuple_tuple (I.ok.hd hc) ht (by simp[hn,<-hl,rv.length]) hst λh' hx=>?_;have I1:Inv X pins σ H {s with heap:=h'}:=I.kept (t':=s.toks) λb o e=>hx b o (Qv (Heap.lt_size e)) e;exact h pins _ σ H xs _ Q I1 (by simpa using rv) hw
def gSub (to ti:TE) (t:E8):TG:=λv σ H Q=>to σ H λo H1=>ti σ H1 λi H2=>t o i v H2 λH3=>Q σ H3
theorem xl {o i:Expr} {to ti:TE} {t:E8} (ho:PE X o to) (hi:PE X i ti) (hs:PSet X t)
  (ha:∀v,assign (.Subscript o i pos) X.env v=(do
   let ov<-holding [v] (eval o X.env)
   let iv<-holding [v,ov] (eval i X.env)
   standAt pos
   holding [v,ov,iv] (setItem ov iv v)
   release [v,ov,iv] []):=by intro _;rfl):PG X (.Subscript o i pos) (gSub to ti t):=by
 intro pins s σ H v u Q I r h;rw[ha];refine wpAny_bind (wpAny_holding (thn (ho pins s σ H _ I h) λov s1 hzz=>?_));obtain⟨x,H1,I1,r1,q1⟩:=hzz;refine wpAny_bind (wpAny_holding (thn (hi pins s1 σ H1 _ I1 q1) λiv s2 hzz=>?_));obtain⟨y,H2,I2,r2,q2⟩:=hzz;refine wpAny_bind (wpAny_standAt (wpAny_bind (wpAny_holding (thn (hs pins s2 σ H2 x y v ov iv u _ I2 r1 r2 r q2) λ_ s3 hzz=>?_))));obtain⟨H3,I3,q3⟩:=hzz;exact wpAny_release ⟨σ,H3,I3,q3⟩
def Ct (te:TE) (g:TG):TS:=λD σ H=>te σ H λx H1=>g x σ H1 D.nx
theorem xk {g:TG} (he:PE X e te) (hg:PG X tg g) (hs:swapsWithSole [tg] e pos.line X.env=pure false:=by rfl) (hw:swappedStores [tg] e X.env=pure none:=by rfl)
  (h1:(assignEach [tg] X.env).map (·.2)=[assign tg X.env]:=by rfl):PS X (.Assign [tg] e pos) (Ct te g):=by
 intro pins s σ H D I h;refine wpAny_Assign_stores (thn (he pins s σ H _ I h) λv s1 hzz=>?_) hs hw;obtain⟨x,H1,I1,r1,q1⟩:=hzz;rw[h1];exact thn (hg pins s1 σ H1 x v _ I1 r1 q1) λ_ s2 q=>q
theorem aG (hN:X.N.Nodup) (hi:X.N[i]?=some x) (hx:Loc X.env.scope x) (he:PE X e te) (hs:swapsWith e (some (.Name x pos')) pos.line X.env=pure false:=by rfl) (hf:X.fn x=true\/X.env.scope.names.lookup x=some .local:=by first|exact .inl rfl|exact .inr rfl|assumption):
  PS X (.Assign [.Name x pos'] e pos) (Ct te (jk i)):=by
 intro pins s σ H D I h;refine wpAny_Assign_Name (thn (he pins s σ H _ I h) λv s1 hzz=>?_) hs;obtain⟨y,H1,I1,r1,q1⟩:=hzz;exact mt I1 hN hi hx r1 (λs2 I2=>⟨_,H1,I2,q1⟩) hf
def tAug (i:Nat) (te:TE) (ti:TIp):TS:=λD σ H=>∃x,σ[i]?=some (some x)/\te σ H λy H1=>ti x y H1 λz H2=>D.nx (σ.set i (some z)) H2
theorem xj {op:Operator} {ti:TIp} (hN:X.N.Nodup) (hi:X.N[i]?=some x) (hx:Loc X.env.scope x) (he:PE X e te) (ho:PIp X op ti) (hf:X.fn x=true\/X.env.scope.names.lookup x=some .local:=by first|exact .inl rfl|exact .inr rfl|assumption):
  PS X (.AugAssign (.Name x pos') op e pos) (tAug i te ti):=by
 intro pins s σ H D I h;obtain⟨v,e1,h⟩:=h;obtain⟨m,hn,hl⟩:=I.loc;have vis:Vis X.env.scope x:=by rcases hx with k|k;exact .inl k;exact .inr (.inl k)
 obtain⟨u,r,l⟩:=hl i x v hi e1 vis;refine wpAny_AugAssign_Name ?_;have go:wpAny (model X.prog X.w) X.A (eval e X.env) (λw s₂=>wpAny (model X.prog X.w) X.A (inplaceOp op u w) (λr s₃=>wpAny (model X.prog X.w) X.A (storeName X.env x r) (λ_=>SP X pins D .next) X.xe s₃) X.xe s₂) X.xe s:=by
  refine thn (he pins s σ H _ I h) λw s1 hzz=>?_;obtain⟨y,H1,I1,r1,q1⟩:=hzz;refine thn (ho pins s1 σ H1 v y u w _ I1 r r1 q1) λz s2 hzz=>?_;obtain⟨zv,H2,I2,r2,q2⟩:=hzz;exact mt I2 hN hi hx r2 (λs3 I3=>⟨_,H2,I3,q2⟩) hf
 rcases l with⟨hk,hm⟩|⟨hk,c,hc,hcell⟩
 .exact wpAny_loadName_local I.ok.kind hk hn hm go
 .rcases hk with hk|hk
  .exact wpAny_loadName_cell I.ok.kind hk hc hcell go
  .rcases hx with k|k
   .have:X.env.scope.names.lookup x=some .free:=hk;rw[k]at this;cases this
   .have:X.env.scope.names.lookup x=some .free:=hk;rw[k]at this;cases this
def ipI (f:Int->Int->Int):TIp:=λx y H Q=>∃i j,x= .int i/\y= .int j/\Q (.int (f i j)) H
theorem Bg:PIp X .Add (ipI λi j=>i+j):=by
 intro pins s σ H x y v u Q I r1 r2 h;obtain⟨i,j,e1,e2,q⟩:=h;subst e1;subst e2;obtain⟨t,rfl⟩:=r1;obtain⟨t',rfl⟩:=r2;exact iadd_int ⟨.int _,H,I.tok _,⟨_,rfl⟩,q⟩
theorem ES:PIp X .Sub (ipI λi j=>i-j):=by
 intro pins s σ H x y v u Q I r1 r2 h;obtain⟨i,j,e1,e2,q⟩:=h;subst e1;subst e2;obtain⟨t,rfl⟩:=r1;obtain⟨t',rfl⟩:=r2;exact isub_int ⟨.int _,H,I.tok _,⟨_,rfl⟩,q⟩
end
section
def Ao (c:TT) (tb:TS):TS:=λD σ H=>∃W:Nat->St->Hp->Prop,(∃m,W m σ H)/\∀m σ H,W m σ H->
 c σ H λb H1=>if b=true then ∃N:St->Hp->Prop,(∀σ' H',N σ' H'->∃m',m'<m/\W m' σ' H')/\tb {D with nx:=N,ct:=N,bk:=D.nx} σ H1 else D.nx σ H1
theorem mJ (hp:PassesOwn (model X.prog X.w) X.A X.env X.xe) (hc:PT X c tc) (hb:PSs X body tb):PS X (.While c body [] pos) (Ao tc tb):=by
 intro pins s σ H D I h;obtain⟨W,⟨m0,w0⟩,turn⟩:=h;refine wpAny_While (codeAny_whileLoop (λn s'=>∃σ' H',Inv X pins σ' H' s'/\W n σ' H') ?_ m0 ⟨σ,H,I,w0⟩);rintro n s1 ⟨σ1,H1,I1,w1⟩;refine wpAny_passesOwn hp (thn (hc pins s1 σ1 H1 _ I1 (turn n σ1 H1 w1)) λb s2 ⟨H2,I2,q2⟩=>?_);cases b with
 |true=>
  obtain⟨N,hN,q2⟩:=q2;rw[if_pos rfl];refine wpAny_passesOwn hp (thn (hb pins s2 σ1 H2 _ I2 q2) λf s3 q3=>?_);cases f with
  |next=>
   obtain⟨σ3,H3,I3,n3⟩:=q3;obtain⟨m',hm,w3⟩:=hN σ3 H3 n3;exact⟨m',hm,σ3,H3,I3,w3⟩
  |cont=>
   obtain⟨σ3,H3,I3,n3⟩:=q3;obtain⟨m',hm,w3⟩:=hN σ3 H3 n3;exact⟨m',hm,σ3,H3,I3,w3⟩
  |brk=>exact q3
  |ret v=>exact q3
 |false=>
  rw[if_neg Q7];exact wpAny_execs_nil ⟨σ1,H2,I2,q2⟩
end
structure It where
 go:Nat->Hp->Prop
 yld:Nat->Hp->V->Hp->Prop
 stop:Nat->Hp->Prop
def kg (X:Cx) (pins:List (Addr×Obj)) (H:Hp) (b:Addr):Prop:=
 H b=none/\b≠X.env.locals/\b∉X.fs/\(b∈X.ex\/X.s₀.heap.objs.size<=b)/\(∀x c,X.env.cells.lookup x=some c->c≠b)/\∀p∈X.pn++pins,p.1≠b
theorem Inv.fpOk (I:Inv X pins σ H s) (hb:s.heap.objs.size<=b) (hn:H' b=none):kg X pins H' b:=by
 refine⟨hn,XI (Qs I.lt hb),I.nofs hb,.inr (QL I.sz hb),λx c e z=>?_,λp hp z=>?_⟩
 .obtain⟨v,q⟩:=I.cell x c e;exact absurd (Qs q.lt (by rw[z];exact hb)) (ZA _)
 .exact absurd (Qs (Heap.lt_size (I.pin p hp).1) (by rw[z];exact hb)) (ZA _)
structure xK (P:Program) (w:World) (K:PySem.W.Frag) (tg:Expr) (J:It) (fp:List Addr) (it:Addr) (tn:Nat->Heap->Prop):Prop where
 mem:it∈fp
 obj:∀i h,tn i h->∀b∈fp,∃o,h.get? b=some o/\∀v,o.data≠ .cell v
 keep:∀i h h',tn i h->(∀b∈fp,∀o,h.get? b=some o->h'.get? b=some o)->tn i h'
 item:∀(X:Cx),X.prog=P->X.w=w->X.K=K->X.calm=true->∀(i:Nat) (pins:List (Addr×Obj)) (s:Shared) (σ:St) (H:Hp) (E:Value->Shared->Prop),Inv X pins σ H s->(∀b∈fp,kg X pins H b)->tn i s.heap->J.go i H->
  wpAny (model P w) X.A (pyNext (.ref it)) (λr s1=>∃u,r=some u/\
   wpAny (model P w) X.A (letOwnedTupleGo tg (.ref it) u) (λ_ s2=>∃x H',Inv X pins σ H' s2/\RelV x u/\J.yld i H x H'/\tn (i+1) s2.heap/\∀b∈fp,H' b=none) E s1) E s
 done:∀(X:Cx),X.prog=P->X.w=w->X.K=K->X.calm=true->∀(i:Nat) (pins:List (Addr×Obj)) (s:Shared) (σ:St) (H:Hp) (E:Value->Shared->Prop),Inv X pins σ H s->(∀b∈fp,kg X pins H b)->tn i s.heap->J.stop i H->
  wpAny (model P w) X.A (pyNext (.ref it)) (λr s1=>r=none/\Inv X pins σ H s1) E s
 self:∀(A:Around) (i:Nat) (s:Shared) (Q:Value->Shared->Prop) (E:Value->Shared->Prop),tn i s.heap->Q (.ref it) s->wpAny (model P w) A (pyIter (.ref it)) Q E s
abbrev TI:=St->Hp->(It->Hp->Prop)->Prop
def PIE (X:Cx) (pins:List (Addr×Obj)) (σ:St) (tg:Expr) (R:It->Hp->Prop) (itv:Value) (s2:Shared):Prop:=
 ∃(it:Addr) (fp:List Addr) (tn:Nat->Heap->Prop) (J:It) (H':Hp),itv= .ref it/\Inv X pins σ H' s2/\xK X.prog X.w X.K tg J fp it tn/\tn 0 s2.heap/\(∀b∈fp,kg X pins H' b)/\R J H'
def PI (X:Cx) (tg iter:Expr) (wi:TI):Prop:=
 ∀(pins:List (Addr×Obj)) (s:Shared) (σ:St) (H:Hp) (R:It->Hp->Prop),Inv X pins σ H s->wi σ H R->
  wpAny (model X.prog X.w) X.A (eval iter X.env) (λv s1=>wpAny (model X.prog X.w) X.A (pyIter v) (PIE X pins σ tg R) X.xe s1) X.xe s
theorem wn {o:Obj} {n:String} {vs:Array Value} {Q:Unit->Shared->Prop} (ho:s.heap.get? it=some o) (hc:o.cls= .type n) (hd:o.data= .fields vs)
  (hn:["enumerate","zip","dict_itemiterator","dict_reverseitemiterator","odict_iterator","itertools.zip_longest","itertools.pairwise"].contains n=false) (hQ:Q () s):wpAny M A (letOwnedTupleGo tg (.ref it) u) Q E s:=by
 unfold letOwnedTupleGo;cases tg<;>first
  |exact wpAny_pure hQ
  |(cases u<;>first
    |exact wpAny_pure hQ
    |(refine wpAny_bind (wpAny_load ho ?_)
      rw[hc,hd];show wpAny M A (if(["enumerate","zip","dict_itemiterator","dict_reverseitemiterator","odict_iterator","itertools.zip_longest","itertools.pairwise"].contains n&&vs[0]?==some (rawInt _))=true then _ else _) Q E s;rw[if_neg (by intro h;rw[hn,X4]at h;cases h)];exact wpAny_pure hQ))
def Itl (K:PySem.W.Frag) (a:Addr):It:=
 ⟨λi H=>∃xs x,SqL K H a xs/\xs[i]?=some x,λi H x H'=>H'=H/\∀xs,SqL K H a xs->xs[i]?=some x,λi H=>∃xs,SqL K H a xs/\xs.length<=i⟩
def Itr (lo:Int) (n:Nat):It:=⟨λi _=>i<n,λi H x H'=>H'=H/\x= .int (lo+i),λi _=>n<=i⟩
theorem y9 (a it:Addr):xK P w K tg (Itl K a) [it] it (λi h=>h.IsListIter it a i) where
 mem:=by simp
 obj:=λi h st b hb=>by
  have e:b=it:=by simpa using hb
  subst e;obtain⟨o,e,c,d⟩:=st;exact⟨o,e,λv z=>by rw[d]at z;cases z⟩
 keep:=λi h h' st k=>st.at λo e=>k it (by simp) o e
 item:=by
  intro X hP hw hK hc i pins s σ H E I hf st hg;subst hP hw hK;obtain⟨xs,x,hq,hx⟩:=hg;obtain⟨its,rv,p,hz⟩:=I.list hq;obtain⟨u,hu,ru⟩:=rv.get hx;obtain⟨f0,f1,f2,f3,f4,f5⟩:=hf it (by simp);refine wpAny_pyNext_list_item st p.isList (x:=u) (by simpa using hu) λh' st' sb=>?_;have I1:Inv X pins σ H {s with heap:=h'}:=I.turned (t':=s.toks) (λb o hb e=>(sb.2 b hb).trans e) f0 f1 f3 f4 f5;obtain⟨o,e,c,d⟩:=id st';exact⟨u,rfl,wn (s:={s with heap:=h'}) e c d (by decide) ⟨x,H,I1,ru,⟨rfl,λys hy=>by rw[I.list_inj hy hq];exact hx⟩,st',λb hb=>(hf b hb).1⟩⟩
 done:=by
  intro X hP hw hK hc i pins s σ H E I hf st hg;subst hP hw hK;obtain⟨xs,hq,hx⟩:=hg;obtain⟨its,rv,p,hz⟩:=I.list hq;obtain⟨f0,f1,f2,f3,f4,f5⟩:=hf it (by simp);have hl:=rv.length;exact wpAny_pyNext_list_end (I.ok.hd hc) st p.isList (by simp;lia) λh' eb=>⟨rfl,I.turned (t':=s.toks) (λb o hb e=>eb b o hb e) f0 f1 f3 f4 f5⟩
 self:=λ_ _ _ _ _ st h=>wpAny_pyIter_listiter st h
theorem wX (it:Addr) (lo:Int) (n:Nat):xK P w K tg (Itr lo n) [it] it (λi h=>IsRangeIter h it (lo+(i:Nat)*1) ((n:Int)-(i:Nat)) 1) where
 mem:=by simp
 obj:=λi h st b hb=>by
  have e:b=it:=by simpa using hb
  subst e;exact⟨_,st,λv z=>by
   have z':Data.fields _=Data.cell v:=z;cases z'⟩
 keep:=λi h h' st k=>k it (by simp) _ st
 item:=by
  intro X hP hw hK hc i pins s σ H E I hf st hg;subst hP hw hK;obtain⟨f0,f1,f2,f3,f4,f5⟩:=hf it (by simp);have W:=Walks.range (prog:=X.prog) (w:=X.w) (I.ok.hd hc) it lo 1 n;refine W.item i s _ _ hg st λv h' tk hv st' kk=>?_;obtain⟨t,rfl⟩:=hv;have I1:Inv X pins σ H {s with heap:=h',toks:=tk}:=I.turned (λb o hb e=>kk b o (by simpa using hb) e) f0 f1 f3 f4 f5;refine⟨_,rfl,wn (s:={s with heap:=h',toks:=tk}) (n:="range_iterator") st' rfl rfl (by decide) ⟨.int (lo+i),H,I1,⟨t,?_⟩,⟨rfl,rfl⟩,st',λb hb=>(hf b hb).1⟩⟩;rw[Int.mul_one]
 done:=by
  intro X hP hw hK hc i pins s σ H E I hf st hg;subst hP hw hK;obtain⟨f0,f1,f2,f3,f4,f5⟩:=hf it (by simp);exact wpAny_pyNext_range_end (I.ok.hd hc) st (by have:n<=i:=hg;lia) λh' eb=>⟨rfl,I.turned (t':=s.toks) (λb o hb e=>eb b o hb e) f0 f1 f3 f4 f5⟩
 self:=λ_ _ _ _ _ st h=>wpAny_pyIter_rangeiter st h
end
section
section
def FR (K:PySem.W.Frag) (tl:TE):TI:=λσ H R=>tl σ H λx H1=>∃a,x= .ref a/\(∃xs,SqL K H1 a xs)/\R (Itl K a) H1
theorem fw {l:Expr} {tl:TE} (hl:PE X l tl):PI X tg l (FR X.K tl):=by
 intro pins s σ H R I h;refine thn (hl pins s σ H _ I h) λv s1 hzz=>?_;obtain⟨x,H1,I1,r1,q1⟩:=hzz;obtain⟨a,e,⟨xs,hq⟩,q⟩:=q1;subst e;cases r1;obtain⟨its,rv,p,hz⟩:=I1.list hq;refine wpAny_pyIter_list p.isList ?_;refine⟨s1.heap.objs.size,[s1.heap.objs.size],_,_,H1,rfl,I1.kept (t':=s1.toks) λb o e=>Heap.get?_push_of_some _ e,y9 a _,⟨_,Heap.get?_push_size _ rfl,rfl,rfl⟩,λb hb=>?_,q⟩;have e:b=s1.heap.objs.size:=by simpa using hb
 subst e;exact I1.fpOk (Q5 _) (I1.hok.fresh (Q5 _))
theorem Ay {R:It->Hp->Prop} {hi:Int} {t u v:Tok} {tk:Nat} (I:Inv X pins σ H s) (h1: -(2^62)<=lo) (h2:lo<2^62) (h3: -(2^62)<=hi) (h4:hi<2^62)
  (q:R (Itr lo (hi-lo).toNat) H):wpAny (model X.prog X.w) X.A (pyIter (.ref s.heap.objs.size)) (PIE X pins σ tg R) E {s with heap:=s.heap.push {cls:= .type "range",data:= .fields #[.int lo t,.int hi u,.int 1 v]},toks:=tk}:=by
 refine wpAny_pyIter_range (IsRange.new ..) (small_one h1 h2 h3 h4) ?_;have I1:Inv X pins σ H {s with heap:=s.heap.push {cls:= .type "range",data:= .fields #[.int lo t,.int hi u,.int 1 v]},toks:=tk}:=I.kept λb o e=>Heap.get?_push_of_some _ e;refine⟨(s.heap.push {cls:= .type "range",data:= .fields #[.int lo t,.int hi u,.int 1 v]}).objs.size,[(s.heap.push {cls:= .type "range",data:= .fields #[.int lo t,.int hi u,.int 1 v]}).objs.size],_,_,H,rfl,
  I1.kept (t':=tk) λb o e=>Heap.get?_push_of_some _ e,wX _ lo (hi-lo).toNat,?_,λb hb=>?_,q⟩
 .have e1:lo+((0:Nat):Int)*1=lo:=by simp
  have e2:(((hi-lo).toNat:Nat):Int)-((0:Nat):Int)=Builtin.Range.rangeSize lo hi 1:=by rw[rangeSize_one];split<;>lia
  show IsRangeIter _ _ (lo+((0:Nat):Int)*1) ((((hi-lo).toNat:Nat):Int)-((0:Nat):Int)) 1;rw[e1,e2];exact Heap.get?_push_size _ rfl
 .have e:b=(s.heap.push {cls:= .type "range",data:= .fields #[.int lo t,.int hi u,.int 1 v]}).objs.size:=by simpa using hb
  subst e;exact I1.fpOk (Q5 _) (I1.hok.fresh (Q5 _))
def FQ (ta:TA):TI:=λσ H R=>ta σ H λvs H1=>∃j:Int,vs=[.int j]/\-(2^62)<=j/\j<2^62/\R (Itr 0 j.toNat) H1
theorem oe {a:Expr} {ta:TA} (hg:Gl X "range") (hm:X.mg "range"=none) (ha:PA X [a] ta) (hs:starEach [a] X.env=[(false,eval a X.env)]:=by rfl):PI X tg (.Call (.Name "range" p) [a] [] pos) (FQ ta):=by
 intro pins s σ H R I h;refine Call_ (oz I hg hm boot_range (PyProof.Rows.callWith_type1 (thn (ha pos pins s σ H _ I h) λus s1 hzz=>?_) hs rfl));obtain⟨vs,H1,I1,r1,q1⟩:=hzz;obtain⟨j,e,q1,q2,q⟩:=q1;subst e;cases r1 with
 |cons r rr=>
  cases rr;obtain⟨t,rfl⟩:=r;exact call_range_1 (Ay I1 (by lia) (by lia) q1 q2 (by simpa using q))
def tFor (wi:TI) (g:TG) (tb:TS):TS:=λD σ H=>wi σ H λJ H1=>∃W:Nat->Nat->St->Hp->Prop,(∃m,W 0 m σ H1)/\∀i m σ H,W i m σ H->
 (J.stop i H/\D.nx σ H)\/(J.go i H/\∃N:St->Hp->Prop,(∀σ' H',N σ' H'->∃m',m'<m/\W (i+1) m' σ' H')/\∀x H',J.yld i H x H'->g x σ H' λσ2 H2=>tb {D with nx:=N,ct:=N,bk:=D.nx} σ2 H2)
def qN (fp:List Addr) (h:Heap):List (Addr×Obj):=fp.filterMap λb=>(h.get? b).map λo=>(b,o)
theorem i5 {o:Obj} (hb:b∈fp) (e:h.get? b=some o):(b,o)∈qN fp h:=List.mem_filterMap.mpr ⟨b,hb,by rw[e];rfl⟩
theorem zm {p:Addr×Obj} (hp:p∈qN fp h):p.1∈fp/\h.get? p.1=some p.2:=by
 obtain⟨b,hb,e⟩:=List.mem_filterMap.mp hp;cases q:h.get? b with
 |none=>rw[q]at e;cases e
 |some o=>
  rw[q]at e;have e':(b,o)=p:=Option.some.inj e;subst e';exact⟨hb,q⟩
theorem Inv.pinned (I:Inv X pins σ H s) (hf:∀b∈fp,kg X pins H b) (ho:∀b∈fp,∃o,s.heap.get? b=some o/\∀v,o.data≠ .cell v):Inv X (pins++qN fp s.heap) σ H s:=
 I.pins_of λp hp=>(Q6.mp hp).elim (λz=>I.pin p (Qo _ z)) λz=>by
  obtain⟨hb,e⟩:=zm z;obtain⟨f0,f1,f2,_⟩:=hf p.1 hb;obtain⟨o,e',d⟩:=ho p.1 hb;rw[e]at e';cases e';exact⟨e,f0,f1,f2,d⟩
theorem Inv.unpinned {pl:List (Addr×Obj)} (I:Inv X (pins++pl) σ H s):Inv X pins σ H s:=I.pins_of λp hp=>I.pin p (Qo _ (Zh _ hp))
theorem jC {iter:Expr} {wi:TI} {g:TG} (hp:PassesOwn (model X.prog X.w) X.A X.env X.xe) (hc:X.calm=true) (hi:PI X tg iter wi) (hg:PG X tg g) (hb:PSs X body tb)
  (hs:∀x,foldedSetIterable iter X.env x=pure x:=by intro _;rfl):PS X (.For tg iter body [] pos) (tFor wi g tb):=by
 intro pins s σ H D I h;refine wpAny_For (thn (hi pins s σ H _ I h) λv s1 h1=>thn h1 λitv s2 h2=>?_) hs;obtain⟨it,fp,tn,J,H2,e,I2,T,st2,f2,W,⟨m0,w0⟩,turn⟩:=h2;subst e;have stat:∀{H':Hp},(∀b∈fp,H' b=none)->∀b∈fp,kg X pins H' b:=λhn b hb=>⟨hn b hb,(f2 b hb).2⟩;refine codeAny_forLoop_any (λn s'=>∃i σ' H',Inv X pins σ' H' s'/\tn i s'.heap/\(∀b∈fp,H' b=none)/\W i n σ' H') ?_ m0 ⟨0,σ,H2,I2,st2,λb hb=>(f2 b hb).1,w0⟩;rintro n s3 ⟨i,σ3,H3,I3,st3,fr3,w3⟩;rcases turn i n σ3 H3 w3 with⟨stop,qn⟩|⟨go,N,hN,step⟩
 .refine wpAny_passesOwn hp (thn (T.done X rfl rfl rfl hc i pins s3 σ3 H3 X.xe I3 (stat fr3) st3 stop) λr s4 ⟨hr,I4⟩=>?_);subst hr;exact wpAny_execs_nil ⟨σ3,H3,I4,qn⟩
 .refine wpAny_passesOwn hp (thn (T.item X rfl rfl rfl hc i pins s3 σ3 H3 X.xe I3 (stat fr3) st3 go) λr s4 ⟨u,hr,h4⟩=>?_);subst hr;refine wpAny_passesOwn hp (thn h4 λ_ s5 hzz=>?_);obtain⟨x,H5,I5,r5,y5,st5,fr5⟩:=hzz;have I5':=I5.pinned (stat fr5) (T.obj _ _ st5);refine wpAny_passesOwn hp (thn (hg _ s5 σ3 H5 x u _ I5' r5 (step x H5 y5)) λ_ s6 hzz=>?_);obtain⟨σ6,H6,I6,q6⟩:=hzz;refine wpAny_passesOwn hp (thn (hb _ s6 σ6 H6 _ I6 q6) λf s7 q7=>?_);have again:∀{σ7:St} {H7:Hp},Inv X (pins++qN fp s5.heap) σ7 H7 s7->N σ7 H7->∃m,m<n/\∃i σ' H',Inv X pins σ' H' s7/\tn i s7.heap/\(∀b∈fp,H' b=none)/\W i m σ' H':=λ{σ7 H7} I7 n7=>by
   obtain⟨m',hm,w7⟩:=hN σ7 H7 n7;refine⟨m',hm,i+1,σ7,H7,I7.unpinned,T.keep _ _ _ st5 λb hb o e=>(I7.pin (b,o) (Qo _ (Qo _ (i5 hb e)))).1,λb hb=>?_,w7⟩;obtain⟨o,e,d⟩:=T.obj _ _ st5 b hb;exact(I7.pin (b,o) (Qo _ (Qo _ (i5 hb e)))).2.1
  cases f with
  |next=>obtain⟨σ7,H7,I7,n7⟩:=q7;exact again I7 n7
  |cont=>obtain⟨σ7,H7,I7,n7⟩:=q7;exact again I7 n7
  |brk=>obtain⟨σ7,H7,I7,q7⟩:=q7;exact⟨σ7,H7,I7.unpinned,q7⟩
  |ret v=>obtain⟨x7,σ7,H7,I7,r7,q7⟩:=q7;exact⟨x7,σ7,H7,I7.unpinned,r7,q7⟩
end
theorem Br {g:TG} (Pv:Nat->St->Hp->Prop) (h0:Pv 0 σ H) (hl:∀i σ H,i<=xs.length->Pv i σ H->SqL K H a xs)
  (hs:∀i x σ H,xs[i]?=some x->Pv i σ H->g x σ H λσ2 H2=>tb {D with nx:=Pv (i+1),ct:=Pv (i+1),bk:=D.nx} σ2 H2) (hd:∀σ H,Pv xs.length σ H->D.nx σ H):
  ∃W:Nat->Nat->St->Hp->Prop,(∃m,W 0 m σ H)/\∀i m σ H,W i m σ H->
   ((Itl K a).stop i H/\D.nx σ H)\/((Itl K a).go i H/\∃N:St->Hp->Prop,(∀σ' H',N σ' H'->∃m',m'<m/\W (i+1) m' σ' H')/\∀x H',(Itl K a).yld i H x H'->g x σ H' λσ2 H2=>tb {D with nx:=N,ct:=N,bk:=D.nx} σ2 H2):=by
 refine⟨λi m σ H=>m=xs.length-i/\i<=xs.length/\Pv i σ H,⟨xs.length,by simp,Qi _,h0⟩,?_⟩;rintro i m σ H ⟨rfl,hi,p⟩;have q:=hl i σ H hi p;by_cases hlt:i<xs.length
 .refine .inr ⟨⟨xs,xs[i],q,by simp[hlt]⟩,Pv (i+1),λσ' H' p'=>⟨xs.length-(i+1),by lia,rfl,hlt,p'⟩,λx H' y=>?_⟩;obtain⟨e,y⟩:=y;subst e;exact hs i x σ _ (y xs q) p
 .have e:i=xs.length:=by lia
  subst e;exact .inl ⟨⟨xs,q,Q5 _⟩,hd σ H p⟩
theorem zK {g:TG} (Pv:Nat->St->Hp->Prop) (h0:Pv 0 σ H)
  (hs:∀i σ H,i<n->Pv i σ H->g (.int (lo+i)) σ H λσ2 H2=>tb {D with nx:=Pv (i+1),ct:=Pv (i+1),bk:=D.nx} σ2 H2) (hd:∀σ H,Pv n σ H->D.nx σ H):
  ∃W:Nat->Nat->St->Hp->Prop,(∃m,W 0 m σ H)/\∀i m σ H,W i m σ H->
   ((Itr lo n).stop i H/\D.nx σ H)\/((Itr lo n).go i H/\∃N:St->Hp->Prop,(∀σ' H',N σ' H'->∃m',m'<m/\W (i+1) m' σ' H')/\∀x H',(Itr lo n).yld i H x H'->g x σ H' λσ2 H2=>tb {D with nx:=N,ct:=N,bk:=D.nx} σ2 H2):=by
 refine⟨λi m σ H=>m=n-i/\i<=n/\Pv i σ H,⟨n,by simp,Qi _,h0⟩,?_⟩;rintro i m σ H ⟨rfl,hi,p⟩;by_cases hlt:i<n
 .refine .inr ⟨hlt,Pv (i+1),λσ' H' p'=>⟨n-(i+1),by lia,rfl,hlt,p'⟩,λx H' y=>?_⟩;obtain⟨e,y⟩:=y;subst e y;exact hs i σ _ hlt p
 .have e:i=n:=by lia
  subst e;exact .inl ⟨Q5 _,hd σ H p⟩
end
section
abbrev R2:=V->V->Hp->VK->Prop
def OpR (X:Cx) (f:Value->Value->Sem Value) (r:R2):Prop:=
 ∀(pins:List (Addr×Obj)) (s:Shared) (σ:St) (H:Hp) (x y:V) (v u:Value) (Q:VK),Inv X pins σ H s->RelV x v->RelV y u->r x y H Q->
  wpAny (model X.prog X.w) X.A (f v u) (EP X pins σ Q) X.xe s
def UnR (X:Cx) (f:Value->Sem Value) (r:V->Hp->VK->Prop):Prop:=
 ∀(pins:List (Addr×Obj)) (s:Shared) (σ:St) (H:Hp) (x:V) (v:Value) (Q:VK),Inv X pins σ H s->RelV x v->r x H Q->
  wpAny (model X.prog X.w) X.A (f v) (EP X pins σ Q) X.xe s
def iM (X:Cx) (f:Value) (r:List V->Hp->VK->Prop):Prop:=
 ∀(pins:List (Addr×Obj)) (s:Shared) (σ:St) (H:Hp) (xs:List V) (us:List Value) (Q:VK),Inv X pins σ H s->Vals xs us->r xs H Q->
  wpAny (model X.prog X.w) X.A (call f us) (EP X pins σ Q) X.xe s
def tOp (r:R2) (ta tb:TE):TE:=λσ H Q=>ta σ H λx H1=>tb σ H1 λy H2=>r x y H2 Q
def tUn (r:V->Hp->VK->Prop) (ta:TE):TE:=λσ H Q=>ta σ H λx H1=>r x H1 Q
def rI (C:Int->Int->Prop) (g:Int->Int->V):R2:=λx y H Q=>∃i j,x= .int i/\y= .int j/\C i j/\Q (g i j) H
def rI0 (g:Int->Int->V):R2:=λx y H Q=>∃i j,x= .int i/\y= .int j/\Q (g i j) H
def rU (g:Int->V):V->Hp->VK->Prop:=λx H Q=>∃i,x= .int i/\Q (g i) H
section
variable {a b:Expr} {tb tc:TE}
theorem E5 (ha:PE X a ta) (hb:PE X b tb) {R:V->V->Hp->Prop} (I:Inv X pins σ H s)
  (h:ta σ H λx H1=>tb σ H1 λy H2=>R x y H2) {f:Value->Value->Sem Value}
  (hf:∀v u s2 x y H2,Inv X pins σ H2 s2->RelV x v->RelV y u->R x y H2->wpAny (model X.prog X.w) X.A (f v u) Q X.xe s2):
  wpAny (model X.prog X.w) X.A (eval a X.env) (λv s₁=>wpAny (model X.prog X.w) X.A (eval b X.env) (λu s₂=>wpAny (model X.prog X.w) X.A (f v u) Q X.xe s₂) X.xe s₁) X.xe s:=by
 refine thn (ha pins s σ H _ I h) λv s1 hzz=>?_;obtain⟨x,H1,I1,r1,q1⟩:=hzz;refine thn (hb pins s1 σ H1 _ I1 q1) λu s2 hzz=>?_;obtain⟨y,H2,I2,r2,q2⟩:=hzz;exact hf v u s2 x y H2 I2 r1 r2 q2
theorem aD {op:Operator} {r:R2} (ho:OpR X (binaryOp op) r) (ha:PE X a ta) (hb:PE X b tb):PE X (.BinOp a op b pos) (tOp r ta tb):=by
 intro pins s σ H Q I h;exact wpAny_BinOp (E5 ha hb I h λv u s2 x y H2 I2 rx ry q=>ho pins s2 σ H2 x y v u Q I2 rx ry q)
theorem tq {op:UnaryOp} (ho:UnR X (unaryOp op) r) (ha:PE X a ta):PE X (.UnaryOp op a pos) (tUn r ta):=by
 intro pins s σ H Q I h;exact UnaryOp_ (thn (ha pins s σ H _ I h) λv s1 ⟨x,H1,I1,r1,q1⟩=>ho pins s1 σ H1 x v Q I1 r1 q1)
theorem opI {f:Value->Value->Sem Value} {C:Int->Int->Prop} 
  (rule:∀(i j:Int) (t u:Tok) (s:Shared) (Q:Value->Shared->Prop) (E:Value->Shared->Prop),C i j->Q (.int (g i j) s.toks) {s with toks:=s.toks+1}->wpAny (model X.prog X.w) X.A (f (.int i t) (.int j u)) Q E s):
  OpR X f (rI C λi j=> .int (g i j)):=by
 intro pins s σ H x y v u Q I rx ry h;obtain⟨i,j,rfl,rfl,hc,q⟩:=h;obtain⟨t,rfl⟩:=rx;obtain⟨t',rfl⟩:=ry;exact rule i j t t' s _ _ hc ⟨.int (g i j),H,I.tok _,⟨_,rfl⟩,q⟩
theorem opI0 {f:Value->Value->Sem Value} 
  (rule:∀(i j:Int) (t u:Tok) (s:Shared) (Q:Value->Shared->Prop) (E:Value->Shared->Prop),Q (.int (g i j) s.toks) {s with toks:=s.toks+1}->wpAny (model X.prog X.w) X.A (f (.int i t) (.int j u)) Q E s):
  OpR X f (rI0 λi j=> .int (g i j)):=by
 intro pins s σ H x y v u Q I rx ry h;obtain⟨i,j,rfl,rfl,q⟩:=h;obtain⟨t,rfl⟩:=rx;obtain⟨t',rfl⟩:=ry;exact rule i j t t' s _ _ ⟨.int (g i j),H,I.tok _,⟨_,rfl⟩,q⟩
theorem CV {f:Value->Value->Sem Value} {g:Int->Int->Bool}
  (rule:∀(i j:Int) (t u:Tok) (s:Shared) (Q:Value->Shared->Prop) (E:Value->Shared->Prop),Q (.bool (g i j)) s->wpAny (model X.prog X.w) X.A (f (.int i t) (.int j u)) Q E s):
  OpR X f (rI0 λi j=> .bl (g i j)):=by
 intro pins s σ H x y v u Q I rx ry h;obtain⟨i,j,rfl,rfl,q⟩:=h;obtain⟨t,rfl⟩:=rx;obtain⟨t',rfl⟩:=ry;exact rule i j t t' s _ _ ⟨.bl (g i j),H,I,rfl,q⟩
def CDiv (i j:Int):Prop:=0<j/\j<1073741824
def CPow (i j:Int):Prop:=0<=j/\j<=1000000/\i.natAbs<2^64
def CMul (i j:Int):Prop:=(-(2^64)<i/\i<2^64)\/(-(2^64)<j/\j<2^64)
theorem CMul.ok {i j:Int} (h:CMul i j):IntMulOk i j:=by
 rcases h with⟨h1,h2⟩|⟨h1,h2⟩
 .exact .of_left (intBits_le_64 h1 h2)
 .exact .of_right (intBits_le_64 h1 h2)
theorem wV (k:Nat):(0:Int)<=2^k:=by
 rw[two_pow_cast];exact Int.natCast_nonneg _
theorem bp:OpR X (binaryOp .Add) (rI0 λi j=> .int (i+j)):=opI0 λ_ _ _ _ _ _ _ q=>add_int q
theorem jE:OpR X (binaryOp .Sub) (rI0 λi j=> .int (i-j)):=opI0 λ_ _ _ _ _ _ _ q=>sub_int q
theorem iY:OpR X (binaryOp .Mult) (rI CMul λi j=> .int (i*j)):=opI λ_ _ _ _ _ _ _ hc q=>mul_int q hc.ok
theorem iZ:OpR X (binaryOp .FloorDiv) (rI CDiv λi j=> .int (i/j)):=opI λi j _ _ _ _ _ hc q=>by
 have h1:(0:Int)<j:=hc.1;have h2:j<1073741824:=hc.2;exact floordiv_int (by lia) (by rw[XZ i (by lia)];exact q) (.inl (PyProof.noPylong_small (by lia)))
theorem bn:OpR X (binaryOp .Mod) (rI (λ_ j=>0<j) λi j=> .int (i%j)):=opI λi j _ _ _ _ _ hc q=>by
 have h1:(0:Int)<j:=hc;exact mod_int' (by lia) (by rw[Int.fmod_eq_emod_of_nonneg i (by lia)];exact q)
theorem uC:OpR X (binaryOp .Pow) (rI CPow λi j=> .int (i^j.toNat)):=opI λ_ _ _ _ _ _ _ hc q=>pow_int_small hc.1 hc.2.1 hc.2.2 q
theorem Ev:OpR X (binaryOp .RShift) (rI (λ_ j=>0<=j) λi j=> .int (i/2^j.toNat)):=opI λi j _ _ _ _ _ hc q=>
 rshift_int hc (by rw[XZ i (wV _)];exact q)
theorem unI {f:Value->Sem Value} {g:Int->Int}
  (rule:∀(i:Int) (t:Tok) (s:Shared) (Q:Value->Shared->Prop) (E:Value->Shared->Prop),Q (.int (g i) s.toks) {s with toks:=s.toks+1}->wpAny (model X.prog X.w) X.A (f (.int i t)) Q E s):
  UnR X f (rU λi=> .int (g i)):=by
 intro pins s σ H x v Q I rx h;obtain⟨i,rfl,q⟩:=h;obtain⟨t,rfl⟩:=rx;exact rule i t s _ _ ⟨.int (g i),H,I.tok _,⟨_,rfl⟩,q⟩
theorem nQ:UnR X (unaryOp .USub) (rU λi=> .int (-i)):=unI λ_ _ _ _ _ q=>neg_int q
end
def scal:V->V->Bool
 | .non,.non=>true| .non,.int _=>true| .int _,.non=>true| .non,.bl _=>true| .bl _,.non=>true| .non,.str _=>true| .str _,.non=>true
 | .int _,.int _=>true| .bl _,.bl _=>true| .str _,.str _=>true| .byt _,.byt _=>true
 | .int _,.str _=>true| .str _,.int _=>true| .bl _,.str _=>true| .str _,.bl _=>true
 |_,_=>false
def rEq:R2:=λx y H Q=>scal x y=true/\Q (.bl (decide (x=y))) H
def rNe:R2:=λx y H Q=>scal x y=true/\Q (.bl (!decide (x=y))) H
theorem yI {i j:Int}:decide (V.int i=V.int j)=(i==j):=by
 rw[Xj];simp
theorem BA {i j:Bool}:decide (V.bl i=V.bl j)=(i==j):=by
 rw[Xj];simp
theorem yH {i j:Str}:decide (V.str i=V.str j)=(i==j):=by
 rw[Xj];simp
theorem yJ {i j:Array UInt8}:decide (V.byt i=V.byt j)=(i.toList==j.toList):=by
 rw[Xj];cases i;cases j;simp
section
variable {a b:Expr} {tb tc:TE}
theorem a9 {Q:VK} {k k':Bool} (I:Inv X pins σ H s) (q:Q (.bl k) H) (e:k=k'):EP X pins σ Q (.bool k') s:=by
 subst e;exact⟨.bl k,H,I,rfl,q⟩
theorem bV:OpR X (compareOp .Eq) rEq:=by
 intro pins s σ H x y v u Q I rx ry h;obtain⟨hs,q⟩:=h;cases x with
 |non=>
  cases rx;cases y with
  |non=>cases ry;exact PySem.EqNone.eq_none_none (a9 I q (by simp))
  |bl j=>cases ry;exact PySem.EqNone.eq_none_bool (a9 I q (by simp))
  |int j=>obtain⟨t',rfl⟩:=ry;exact PySem.EqNone.eq_none_int (a9 I q (by simp))
  |str j=>obtain⟨t',rfl⟩:=ry;exact PySem.EqNone.eq_none_str (a9 I q (by simp))
  |_=>exact absurd (show false=true from hs) Q7
 |bl i=>
  cases rx;cases y with
  |non=>cases ry;exact PySem.EqNone.eq_bool_none (a9 I q (by simp))
  |bl j=>cases ry;exact eq_bool (a9 I q BA)
  |str j=>obtain⟨t',rfl⟩:=ry;exact PySem.EqMixed.eq_bool_str (a9 I q (by simp))
  |_=>exact absurd (show false=true from hs) Q7
 |int i=>
  obtain⟨t,rfl⟩:=rx;cases y with
  |non=>cases ry;exact PySem.EqNone.eq_int_none (a9 I q (by simp))
  |int j=>obtain⟨t',rfl⟩:=ry;exact eq_int (a9 I q yI)
  |str j=>obtain⟨t',rfl⟩:=ry;exact PySem.EqMixed.eq_int_str (a9 I q (by simp))
  |_=>exact absurd (show false=true from hs) Q7
 |str i=>
  obtain⟨t,rfl⟩:=rx;cases y with
  |non=>cases ry;exact PySem.EqNone.eq_str_none (a9 I q (by simp))
  |bl j=>cases ry;exact PySem.EqMixed.eq_str_bool (a9 I q (by simp))
  |int j=>obtain⟨t',rfl⟩:=ry;exact PySem.EqMixed.eq_str_int (a9 I q (by simp))
  |str j=>obtain⟨t',rfl⟩:=ry;exact eq_str (a9 I q yH)
  |_=>exact absurd (show false=true from hs) Q7
 |byt i=>
  obtain⟨t,rfl⟩:=rx;cases y with
  |byt j=>obtain⟨t',rfl⟩:=ry;exact PySem.W.eq_bytes (a9 I q yJ)
  |_=>exact absurd (show false=true from hs) Q7
 |_=>cases y<;>exact absurd (show false=true from hs) Q7
theorem AI:OpR X (compareOp .NotEq) rNe:=by
 intro pins s σ H x y v u Q I rx ry h;obtain⟨hs,q⟩:=h;cases x with
 |non=>
  cases rx;cases y with
  |non=>cases ry;exact PySem.EqNone.ne_none_none (a9 I q (by simp))
  |bl j=>cases ry;exact PySem.EqNone.ne_none_bool (a9 I q (by simp))
  |int j=>obtain⟨t',rfl⟩:=ry;exact PySem.EqNone.ne_none_int (a9 I q (by simp))
  |str j=>obtain⟨t',rfl⟩:=ry;exact PySem.EqNone.ne_none_str (a9 I q (by simp))
  |_=>exact absurd (show false=true from hs) Q7
 |bl i=>
  cases rx;cases y with
  |non=>cases ry;exact PySem.EqNone.ne_bool_none (a9 I q (by simp))
  |bl j=>cases ry;exact ne_bool (a9 I q (congrArg not BA))
  |str j=>obtain⟨t',rfl⟩:=ry;exact PySem.EqMixed.ne_bool_str (a9 I q (by simp))
  |_=>exact absurd (show false=true from hs) Q7
 |int i=>
  obtain⟨t,rfl⟩:=rx;cases y with
  |non=>cases ry;exact PySem.EqNone.ne_int_none (a9 I q (by simp))
  |int j=>obtain⟨t',rfl⟩:=ry;exact ne_int (a9 I q (congrArg not yI))
  |str j=>obtain⟨t',rfl⟩:=ry;exact PySem.EqMixed.ne_int_str (a9 I q (by simp))
  |_=>exact absurd (show false=true from hs) Q7
 |str i=>
  obtain⟨t,rfl⟩:=rx;cases y with
  |non=>cases ry;exact PySem.EqNone.ne_str_none (a9 I q (by simp))
  |bl j=>cases ry;exact PySem.EqMixed.ne_str_bool (a9 I q (by simp))
  |int j=>obtain⟨t',rfl⟩:=ry;exact PySem.EqMixed.ne_str_int (a9 I q (by simp))
  |str j=>obtain⟨t',rfl⟩:=ry;exact ne_str (a9 I q (congrArg not yH))
  |_=>exact absurd (show false=true from hs) Q7
 |byt i=>
  obtain⟨t,rfl⟩:=rx;cases y with
  |byt j=>obtain⟨t',rfl⟩:=ry;exact PySem.W.ne_bytes (a9 I q (congrArg not yJ))
  |_=>exact absurd (show false=true from hs) Q7
 |_=>cases y<;>exact absurd (show false=true from hs) Q7
theorem eF:OpR X (compareOp .Lt) (rI0 λi j=> .bl (decide (i<j))):=CV λ_ _ _ _ _ _ _ q=>lt_int q
theorem mN:OpR X (compareOp .LtE) (rI0 λi j=> .bl (decide (i<=j))):=CV λ_ _ _ _ _ _ _ q=>le_int q
theorem oU:OpR X (compareOp .Gt) (rI0 λi j=> .bl (decide (j<i))):=CV λ_ _ _ _ _ _ _ q=>gt_int q
theorem yg:OpR X (compareOp .GtE) (rI0 λi j=> .bl (decide (j<=i))):=CV λ_ _ _ _ _ _ _ q=>ge_int q
theorem jF:OpR X (compareOp .Is) (λx y H Q=>y= .non/\Q (.bl (decide (x= .non))) H):=by
 intro pins s σ H x y v u Q I rx ry h;obtain⟨rfl,q⟩:=h;cases ry;refine is_none_gen (a9 I q ?_);cases x<;>first
  |(cases rx;rfl)
  |(obtain⟨t,rfl⟩:=rx;rfl)
theorem uD:OpR X (compareOp .IsNot) (λx y H Q=>y= .non/\Q (.bl (!decide (x= .non))) H):=by
 intro pins s σ H x y v u Q I rx ry h;obtain⟨rfl,q⟩:=h;cases ry;refine isnot_none_gen (a9 I q ?_);cases x<;>first
  |(cases rx;rfl)
  |(obtain⟨t,rfl⟩:=rx;rfl)
theorem ay (b:Expr) (h:op≠ .In:=by decide) (h2:op≠ .NotIn:=by decide):behindInMarks op b=false:=by
 have e1:(op==CmpOp.In)=false:=by cases op<;>first|rfl|exact absurd rfl h
 have e2:(op==CmpOp.NotIn)=false:=by cases op<;>first|rfl|exact absurd rfl h2
 cases b<;>simp[behindInMarks,e1,e2]
theorem bq {r:R2} (ho:OpR X (compareOp op) r) (ha:PE X a ta) (hb:PE X b tb) (hm:behindInMarks op b=false):PE X (.Compare a [op] [b] pos) (tOp r ta tb):=by
 intro pins s σ H Q I h;exact wpAny_Compare1 (E5 ha hb I h λv u s2 x y H2 I2 rx ry q=>ho pins s2 σ H2 x y v u Q I2 rx ry q) hm
def Fi (t:TE):TT:=λσ H Q=>t σ H λx H'=>∃k,x= .bl k/\Q k H'
theorem aA {r:R2} (ho:OpR X (compareOp op) r) (ha:PE X a ta) (hb:PE X b tb) (hm:behindInMarks op b=false):PT X (.Compare a [op] [b] pos) (Fi (tOp r ta tb)):=by
 intro pins s σ H Q I h;refine wpAny_isTrue_Compare1 (thn (ha pins s σ H _ I h) λv s1 ⟨x,H1,I1,r1,q1⟩=>thn (hb pins s1 σ H1 _ I1 q1) λu s2 ⟨y,H2,I2,r2,q2⟩=>
  thn (ho pins s2 σ H2 x y v u _ I2 r1 r2 q2) λc s3 ⟨z,H3,I3,r3,k,e,q3⟩=>?_) hm
 subst e;cases r3;exact wpAny_truthy_bool ⟨H3,I3,q3⟩
theorem rA:(sizeLine:Nat)<2^63:=by rw[sizeLine_eq];decide
theorem i4:OpR X (binaryOp .Add) (λx y H Q=>∃i j,x= .str i/\y= .str j/\i.length+j.length<=sizeLine/\Q (.str (i++j)) H):=by
 intro pins s σ H x y v u Q I rx ry h;obtain⟨i,j,rfl,rfl,hz,q⟩:=h;obtain⟨t,rfl⟩:=rx;obtain⟨t',rfl⟩:=ry;exact add_str (λt' tk=>⟨.str (i++j),H,I.tok _,⟨_,rfl⟩,q⟩) hz
theorem oR {x:V} (r:Vals [x] us):∃u,us=[u]/\RelV x u:=by
 cases r with
 |cons r1 r2=>cases r2;exact⟨_,rfl,r1⟩
theorem sU {x:V} (r:Vals [x,y] us):∃u w',us=[u,w']/\RelV x u/\RelV y w':=by
 cases r with
 |cons r1 r2=>
  cases r2 with
  |cons r3 r4=>cases r4;exact⟨_,_,rfl,r1,r3⟩
theorem oK (hc:X.calm=true):iM X (.builtin "max") (λxs H Q=>∃i j,xs=[.int i,.int j]/\Q (.int (if j>i then j else i)) H):=by
 intro pins s σ H xs us Q I r h;obtain⟨i,j,rfl,q⟩:=h;obtain⟨u,w',rfl,⟨t,rfl⟩,⟨t',rfl⟩⟩:=sU r;refine max_two_ints (I.ok.hd hc) λh' tk k=>⟨_,H,I.kept k,?_,q⟩;by_cases hj:j>i
 .rw[if_pos hj,if_pos hj];exact⟨_,rfl⟩
 .rw[if_neg hj,if_neg hj];exact⟨_,rfl⟩
theorem kA (hc:X.calm=true):iM X (.builtin "min") (λxs H Q=>∃i j,xs=[.int i,.int j]/\Q (.int (if j<i then j else i)) H):=by
 intro pins s σ H xs us Q I r h;obtain⟨i,j,rfl,q⟩:=h;obtain⟨u,w',rfl,⟨t,rfl⟩,⟨t',rfl⟩⟩:=sU r;refine min_two_ints (I.ok.hd hc) λh' tk k=>⟨_,H,I.kept k,?_,q⟩;by_cases hj:j<i
 .rw[if_pos hj,if_pos hj];exact⟨_,rfl⟩
 .rw[if_neg hj,if_neg hj];exact⟨_,rfl⟩
theorem fB:iM X (.type "str") (λxs H Q=>∃i,xs=[.int i]/\i.natAbs.log2<1920/\Q (.str (toString i)) H):=by
 intro pins s σ H xs us Q I r h;obtain⟨i,rfl,hz,q⟩:=h;obtain⟨u,rfl,t,rfl⟩:=oR r;exact PySem.P.str_of_int hz ⟨.str _,H,I.tok _,⟨_,rfl⟩,q⟩
end
end
section
structure ObjM (h:Heap) (x dx C:Addr) (mA:Str->Option Value):Prop where
 obj:h.get? x=some (PySem.W.instObj C dx)
 ns:h.Ns1 dx mA
 ne:dx≠x
theorem tI {mA:Str->Option Value} (n:h.Ns1 dx mA):∃od,h.get? dx=some od/\∀name,PySem.W.lookIn name od=some (mA name):=by
 obtain⟨o,es,ep,ho,hd,hk,_,hm⟩:=n;refine⟨o,ho,λname=>?_⟩;have e:=hm name;unfold nsFind findBy at e;rw[<-Array.find?_toList]at e;unfold PySem.W.lookIn;rw[hd];dsimp only;split
 .rename_i y q
  rw[q]at e;exact congrArg some e
 .rename_i q
  rw[q]at e;have a:es.toList.any (·.refKey)=false:=by
   rw[List.any_eq_false];intro y hy;obtain⟨z,t,hkey⟩:=hk y (Array.mem_toList_iff.mp hy);simp[DictEntry.refKey,hkey]
  have a':¬es.toList.any (·.refKey)=true:=by rw[a];exact Q7
  rw[if_neg a'];exact congrArg some e
theorem ObjM.look {x:Addr} {mA:Str->Option Value} (I:ObjM h x dx C mA):∃od,PySem.W.InstAt h x (PySem.W.instObj C dx) C (some od)/\∀name,PySem.W.lookIn name od=some (mA name):=
 let⟨od,ho,hl⟩:=tI I.ns
 ⟨od,⟨I.obj,rfl,rfl,ho⟩,hl⟩
section
variable {x:Addr} {mA:Str->Option Value} {v:Value}
theorem Df {expr:Bool} (X:K.In s.heap) (I:ObjM s.heap x dx C mA) (hg:PySem.W.plainGet K C name=true) (hh:PySem.W.hasDictIn K C=true)
  (ha:PySem.W.findIn K (.ref C) name=some none) (hv:mA name=some v) (hv':PySem.W.handedIn v=true) (h:Q v {s with toks:=s.toks+1}):
  wpAny (model prog w) A (getAttr (.ref x) name expr) Q E s:=by
 obtain⟨od,J,hl⟩:=I.look;exact PySem.W.get_value X J (XA hg).1 (PySem.W.findObj_own hh ha rfl (by rw[hl,hv])) hv' h
theorem Bn {pl:Sem Bool} {Q:Value×List Value->Shared->Prop} (X:K.In s.heap) (I:ObjM s.heap x dx C mA) (hg:PySem.W.plainGet K C name=true)
  (hf:PySem.W.findIn K (.ref C) name=some (some (.ref f))) (ht:PySem.W.isFn K (.ref f)=true) (hv:mA name=none) (h:Q (.ref f,[.ref x]) s):
  wpAny (model prog w) A (getMethod (.ref x) name pl) Q E s:=by
 obtain⟨od,J,hl⟩:=I.look;exact PySem.W.method_fn X J (XA hg).1 (XA hg).2 hf (beq_iff_eq.mp ht) (by show(PySem.W.lookIn name od).map (·.isSome)=some false;rw[hl,hv];rfl) h
theorem Cy {ns:List Str} {Q:Unit->Shared->Prop} (X:K.In s.heap) (I:ObjM s.heap x dx C mA)
  (hs:PySem.W.findIn K (.ref C) "__setattr__"=some (some (.builtin "object.__setattr__"))) (hp:PySem.W.plainOver K C=true) (ht:PySem.W.takerIn K C name=some none) (hh:PySem.W.hasDictIn K C=true)
  (hw:PySem.Within mA ns) (hsz:ns.length<=sizeLine)
  (h:∀h',ObjM h' x dx C (λy=>if y=name then some v else mA y)->Heap.SameBut dx s.heap h'->Q () {s with heap:=h',toks:=s.toks+2}):
  wpAny (model prog w) A (setAttr (.ref x) name v) Q E s:=by
 obtain⟨od,J,hl⟩:=I.look;refine PySem.W.set_plain X J hs (PySem.W.osa_open (s:={s with toks:=s.toks+1}) (r:=none) X J hp ht λb=>?_);obtain⟨cd,hc,hd'⟩:=PySem.W.any_some hh;have hx:s.heap.get? x=some ⟨.ref C,some dx,.plain, #[]⟩:=I.obj;refine wpAny_bind (wpAny_pure (wpAny_bind (wpAny_bind (wpAny_loadPart hx (wpAny_bind (PySem.W.Looks.here (s:={s with toks:=s.toks+1}) (PySem.W.looks_clsIn X hc) ?_))))));rw[hd'];refine wpAny_pure (a:=some dx) (wpAny_bind (wpAny_pure (wpAny_bind ?_)));refine wpAny_nsSet1 (s:={s with toks:=s.toks+1}) I.ns λh' hn2 hs2=>?_;obtain⟨oD,esD,epD,hoD,hdD,hcD⟩:=hn2.count (PySem.Within.cons name v hw);refine wpAny_bind (wpAny_lookBehind hoD (by rw[hdD];exact pastItsLine_dict (QL hcD (by rw[Qf];lia))) ?_);exact wpAny_pure (h _ ⟨(hs2.2 _ (Ne.symm I.ne)).trans I.obj,hn2,I.ne⟩ hs2)
theorem AX {vs:List Value} (X:K.In s.heap) (hm:PySem.W.makesIn K C=true)
  (hi:PySem.W.findIn K (.ref C) "__init__"=some (some (.ref f))) (hf:PySem.W.typeIn K (.ref f)=some (.type "function"))
  (h:codeAny (model prog w) (A.under (.builtin "type.__call__" ⟨.ref C::vs,kw⟩)) (.call (.ref f) ⟨.ref (s.heap.objs.size+1)::vs,kw⟩) (PySem.W.InitBack (s.heap.objs.size+1) R)
   {s with heap:=(s.heap.push PySem.W.emptyDict).push (PySem.W.instObj C s.heap.objs.size)}):
  codeAny (model prog w) A (.call (.ref C) ⟨vs,kw⟩) R s:=by
 obtain⟨hh,g,d,t,os⟩:=s;exact PySem.W.make_core (PySem.W.makes_of X hm) (PySem.W.looks_findIn X hi) (λself=>PySem.W.bind_fn X self hf) (.inl rfl) h
end
def a6 (f:Str) (v:V):List (Str×V)->List (Str×V)
 | []=> [(f,v)]
 |(g,x)::r=>if g=f then(g,v)::r else(g,x)::a6 f v r
theorem a7 (f g:Str) (v:V):∀fs:List (Str×V),(a6 f v fs).lookup g=if g=f then some v else fs.lookup g
 | []=>by
  show List.lookup g [(f,v)]=_;by_cases h:g=f
  .have hb:(g==f)=true:=beq_iff_eq.mpr h;simp only[List.lookup,hb,if_pos h]
  .have hb:(g==f)=false:=beq_eq_false_iff_ne.mpr h;simp only[List.lookup,hb,if_neg h]
 |(k,x)::r=>by
  have ih:=a7 f g v r;rw[show a6 f v ((k,x)::r)=(if k=f then(k,v)::r else(k,x)::a6 f v r) from rfl];by_cases hk:k=f
  .rw[if_pos hk];by_cases h:g=k
   .have hb:(g==k)=true:=beq_iff_eq.mpr h;simp only[List.lookup,hb,if_pos (h.trans hk)]
   .have hb:(g==k)=false:=beq_eq_false_iff_ne.mpr h;simp only[List.lookup,hb,if_neg (λe:g=f=>h (e.trans hk.symm))]
  .rw[if_neg hk];by_cases h:g=k
   .have hb:(g==k)=true:=beq_iff_eq.mpr h;simp only[List.lookup,hb,if_neg (λe:g=f=>hk (h.symm.trans e))]
   .have hb:(g==k)=false:=beq_eq_false_iff_ne.mpr h;simp only[List.lookup,hb];exact ih
theorem oA (f:Str) (v:V):∀fs:List (Str×V),f∈(a6 f v fs).map (·.1)/\∀g,g∈fs.map (·.1)->g∈(a6 f v fs).map (·.1)
 | []=>⟨by simp[a6],λg h=>by simp at h⟩
 |(k,x)::r=>by
  obtain⟨i1,i2⟩:=oA f v r;rw[show a6 f v ((k,x)::r)=(if k=f then(k,v)::r else(k,x)::a6 f v r) from rfl];by_cases hk:k=f
  .rw[if_pos hk];subst hk;exact⟨by simp,λg h=>by simpa using h⟩
  .rw[if_neg hk];refine⟨?_,λg h=>?_⟩
   .rw[Qu];exact Qa _ i1
   .rw[Qu]at h⊢;rcases Qj.mp h with e|e
    .exact Qj.mpr (.inl e)
    .exact Qa _ (i2 g e)
theorem o9 (f:Str) (v:V):∀fs:List (Str×V),(a6 f v fs).length<=fs.length+1
 | []=>by simp[a6]
 |(k,x)::r=>by
  have ih:=o9 f v r;rw[show a6 f v ((k,x)::r)=(if k=f then(k,v)::r else(k,x)::a6 f v r) from rfl];by_cases hk:k=f
  .rw[if_pos hk,Qf,Qf];lia
  .rw[if_neg hk,Qf,Qf];lia
theorem RelO.some_of (r:RelO (some v) o):∃u,o=some u/\RelV v u:=by
 cases o with
 |none=>exact(show False from r).elim
 |some u=>exact⟨u,rfl,r⟩
theorem RelO.none_of (r:RelO none o):o=none:=by
 cases o with
 |none=>rfl
 |some u=>exact(show False from r).elim
theorem tL (r:RelV v u):PySem.W.handedIn u=true:=by
 cases v with
 |non=>cases (show u=Value.none from r);rfl
 |bl b=>cases (show u=Value.bool b from r);rfl
 |int i=>obtain⟨t,e⟩:=(show ∃t,u=Value.int i t from r);cases e;rfl
 |str x=>obtain⟨t,e⟩:=(show ∃t,u=Value.str x t from r);cases e;rfl
 |byt b=>obtain⟨t,e⟩:=(show ∃t,u=Value.bytes b t from r);cases e;rfl
 |flt b=>obtain⟨t,e⟩:=(show ∃t,u=Value.float b t from r);cases e;rfl
 |ref a=>cases (show u=Value.ref a from r);rfl
 |ty n=>cases (show u=Value.type n from r);rfl
section
variable {fs fs':List (Str×V)}
theorem ins_get (hok:HOk P w H h) (e:H a=some (.ins C dx fs)):∃mA,ObjM h a dx C mA/\(∀f,RelO (fs.lookup f) (mA f))/\PySem.Within mA (fs.map (·.1))/\fs.length<=1000/\H dx=some (.own a):=by
 obtain⟨d,z,ne,ob,mA,n,r,q⟩:=(show ObjOk P w H h a (.ins C dx fs) from hok a _ e);exact⟨mA,⟨ob,n,ne⟩,r,q,z,d⟩
end
structure Cls (K:PySem.W.Frag) (C:Addr):Prop where
 pg:PySem.W.plainGet K C Str.empty=true
 hd:PySem.W.hasDictIn K C=true
 po:PySem.W.plainOver K C=true
 sa:PySem.W.findIn K (.ref C) "__setattr__"=some (some (.builtin "object.__setattr__"))
theorem Cls.get (c:Cls K C) (f:Str):PySem.W.plainGet K C f=true:=c.pg
def NoAttr (K:PySem.W.Frag) (C:Addr) (f:Str):Prop:=PySem.W.findIn K (.ref C) f=some none
theorem NoAttr.taker {f:Str} (n:NoAttr K C f):PySem.W.takerIn K C f=some none:=by
 unfold PySem.W.takerIn;rw[show PySem.W.findIn K (.ref C) f=some none from n];rfl
structure bX (K:PySem.W.Frag) (C:Addr) (m:Str) (f:Addr):Prop where
 at_:PySem.W.findIn K (.ref C) m=some (some (.ref f))
 fn:PySem.W.isFn K (.ref f)=true
 kp:PySem.W.keepIn K (.ref f)=true
section
variable {fs:List (Str×V)} {f:Str}
theorem rF {b:Bool} (I:Inv X pins σ H s) (e:H a=some (.ins C dx fs)) (c:Cls X.K C) (n:NoAttr X.K C f) (l:fs.lookup f=some v)
  (h:∀u s',Inv X pins σ H s'->RelV v u->Q u s'):wpAny (model X.prog X.w) A (getAttr (.ref a) f b) Q E s:=by
 obtain⟨mA,O,r,_,_,_⟩:=ins_get I.hok e;obtain⟨u,hu,ru⟩:=RelO.some_of (v:=v) (o:=mA f) (by rw[<-l];exact r f);exact Df I.kIn O (c.get f) c.hd n hu (tL ru) (h u _ (I.tok _) ru)
theorem i7 {g:Addr} {pl:Sem Bool} {Q:Value×List Value->Shared->Prop} (I:Inv X pins σ H s) (e:H a=some (.ins C dx fs)) (c:Cls X.K C) (k:bX X.K C m g) (l:fs.lookup m=none)
  (h:Q (.ref g,[.ref a]) s):wpAny (model X.prog X.w) A (getMethod (.ref a) m pl) Q E s:=by
 obtain⟨mA,O,r,_,_,_⟩:=ins_get I.hok e;have hn:mA m=none:=RelO.none_of (by rw[<-l];exact r m);exact Bn I.kIn O (c.get m) k.at_ k.fn hn h
theorem qw {Q:Unit->Shared->Prop} (I:Inv X pins σ H s) (e:H a=some (.ins C dx fs)) (c:Cls X.K C) (n:NoAttr X.K C f) (hl:fs.length<1000) (ry:RelV y u)
  (h:∀s',Inv X pins σ (upd H a (.ins C dx (a6 f y fs))) s'->Q () s'):wpAny (model X.prog X.w) A (setAttr (.ref a) f u) Q E s:=by
 obtain⟨mA,O,r,wi,_,ho⟩:=ins_get I.hok e;have hz:(fs.map (·.1)).length<=sizeLine:=by rw[Q0,sizeLine_eq];lia
 refine Cy I.kIn O c.sa c.po n.taker c.hd wi hz λh' O' sb=>h _ ?_;have hd:∃o,h'.get? dx=some o:=let⟨o,_,_,e',_⟩:=O'.ns;⟨o,e'⟩
 refine I.write (x:=a) (e:=dx) (by rw[e];exact True.intro) (.inr ho) (λb q hb z=>(sb.2 b hb).trans z) hd ?_;refine⟨by rw[ac O.ne];exact ho,?_,O.ne,O'.obj,_,O'.ns,λg=>?_,λg hg=>?_⟩
 .have:=o9 f y fs;lia
 .show RelO ((a6 f y fs).lookup g) (if g=f then some u else mA g);rw[a7];by_cases q:g=f
  .rw[if_pos q,if_pos q];exact ry
  .rw[if_neg q,if_neg q];exact r g
 .by_cases q:g=f
  .rw[q];exact(oA f y fs).1
  .refine(oA f y fs).2 g (wi g λz=>hg ?_);show(if g=f then some u else mA g)=none;rw[if_neg q];exact z
theorem Inv.made (I:Inv X pins σ H s):Inv X pins σ (upd (upd H s.heap.objs.size (.own (s.heap.objs.size+1))) (s.heap.objs.size+1) (.ins C s.heap.objs.size []))
  {s with heap:=(s.heap.push PySem.W.emptyDict).push (PySem.W.instObj C s.heap.objs.size)}:=by
 have e1:(s.heap.push PySem.W.emptyDict).get? s.heap.objs.size=some PySem.W.emptyDict:=Heap.get?_push_size s.heap rfl;have e2:((s.heap.push PySem.W.emptyDict).push (PySem.W.instObj C s.heap.objs.size)).get? (s.heap.objs.size+1)=some (PySem.W.instObj C s.heap.objs.size):=by
  have:=Heap.get?_push_size (s.heap.push PySem.W.emptyDict) (o:=PySem.W.instObj C s.heap.objs.size) rfl;rwa [Heap.size_push]at this
 have e3:(s.heap.push PySem.W.emptyDict).Ns s.heap.objs.size (λ_=>none):=⟨PySem.W.emptyDict, #[],_,e1,rfl,(λe he=>absurd he (by simp)),λ_=>rfl⟩;have I1:=I.laid (a:=s.heap.objs.size) (o:= .own (s.heap.objs.size+1)) (h':=s.heap.push PySem.W.emptyDict) (t':=s.toks) (λb u q=>Heap.get?_push_of_some _ q) (Q5 _) ⟨_,e1⟩;refine I1.laid (a:=s.heap.objs.size+1) (o:= .ins C s.heap.objs.size []) (t':=s.toks) (λb u q=>Heap.get?_push_of_some _ q) (Zc (Heap.size_push _ _)) ?_;have ne:s.heap.objs.size≠s.heap.objs.size+1:=Qv (ZJ _);refine⟨by rw[ac ne,af],Qi _,ne,e2,λ_=>none,(Heap.Ns1.of_empty e3).at λo q=>Heap.get?_push_of_some _ q,λ_=>True.intro,λy hy=>absurd rfl hy⟩
theorem yQ {env:Env} {f:Str} (hb:attributeBase e f env (eval e env)=eval e env)
  (h:wpAny (model prog w) A (eval e env) (λo s₁=>wpAny (model prog w) A (getAttr o f true) Q E s₁) E s):wpAny (model prog w) A (eval (.Attribute e f pos) env) Q E s:=
 Attribute_any_ h (by rw[arm_eval_Attribute,hb])
end
def tFld (K:PySem.W.Frag) (ta:TE) (f:Str):TE:=λσ H Q=>ta σ H λx H1=>∃a C dx fs v,x= .ref a/\H1 a=some (.ins C dx fs)/\Cls K C/\NoAttr K C f/\fs.lookup f=some v/\Q v H1
def sFld (K:PySem.W.Frag) (ta tv:TE) (f:Str):TS:=λD σ H=>tv σ H λy H1=>ta σ H1 λx H2=>∃a C dx fs,x= .ref a/\H2 a=some (.ins C dx fs)/\Cls K C/\NoAttr K C f/\fs.length<1000/\
 D.nx σ (upd H2 a (.ins C dx (a6 f y fs)))
def Dv (X:Cx) (op:Operator) (rd:V->V->Hp->VK->Prop):Prop:=
 ∀(pins:List (Addr×Obj)) (s:Shared) (σ:St) (H:Hp) (x y:V) (u v:Value) (Q:VK),Inv X pins σ H s->RelV x u->RelV y v->rd x y H Q->wpAny (model X.prog X.w) X.A (inplaceOp op u v) (EP X pins σ Q) X.xe s
def Cz (K:PySem.W.Frag) (ta tv:TE) (rd:V->V->Hp->VK->Prop) (f:Str):TS:=λD σ H=>ta σ H λx H1=>∃a C dx fs v,x= .ref a/\H1 a=some (.ins C dx fs)/\Cls K C/\NoAttr K C f/\fs.lookup f=some v/\
 tv σ H1 λy H2=>rd v y H2 λz H3=>∃dx' fs',H3 a=some (.ins C dx' fs')/\fs'.length<1000/\D.nx σ (upd H3 a (.ins C dx' (a6 f z fs')))
section
variable {o value:Expr} {f:Str} {tpos:Pos} {tv:TE}
theorem am (he:PE X e ta) (hb:attributeBase e f X.env (eval e X.env)=eval e X.env):PE X (.Attribute e f pos) (tFld X.K ta f):=by
 intro pins s σ H Q I h;refine yQ hb (thn (he pins s σ H _ I h) λu s1 hzz=>?_);obtain⟨x,H1,I1,rx,a,C,dx,fs,v,ex,ea,c,n,l,q⟩:=hzz;subst ex;obtain rfl:u=Value.ref a:=rx;exact rF I1 ea c n l λu' s2 I2 ru=>⟨v,H1,I2,ru,q⟩
theorem bQ (ha:PE X o ta) (hv:PE X value tv) (hs:swapsWith value (some (.Attribute o f pos')) pos.line X.env=pure false):PS X (.Assign [.Attribute o f pos'] value pos) (sFld X.K ta tv f):=by
 intro pins s σ H D I h;refine plainObj_wpAny_Assign_Attribute (thn (hv pins s σ H _ I h) λu s1 ⟨y,H1,I1,ry,q⟩=>thn (ha pins s1 σ H1 _ I1 q) λov s2 hzz=>?_) hs;obtain⟨x,H2,I2,rx,a,C,dx,fs,ex,ea,c,n,l,q2⟩:=hzz;subst ex;obtain rfl:ov=Value.ref a:=rx;exact qw I2 ea c n l ry λs3 I3=>⟨σ,_,I3,q2⟩
theorem kr {op:Operator} (ha:PE X o ta) (hv:PE X value tv) (hop:Dv X op rd):PS X (.AugAssign (.Attribute o f tpos) op value pos) (Cz X.K ta tv rd f):=by
 intro pins s σ H D I h;refine wpAny_AugAssign_AttributeAny (thn (ha pins s σ H _ I h) λov s1 hzz=>?_);obtain⟨x,H1,I1,rx,a,C,dx,fs,v,ex,ea,c,n,l,q⟩:=hzz;subst ex;obtain rfl:ov=Value.ref a:=rx;refine rF I1 ea c n l λu s2 I2 ru=>thn (hv pins s2 σ H1 _ I2 q) λw3 s3 ⟨y,H2,I3,ry,q3⟩=>thn (hop pins s3 σ H2 v y u w3 _ I3 ru ry q3) λw4 s4 hzz=>?_;obtain⟨z,H3,I4,rz,dx',fs',ea',l',q4⟩:=hzz;exact qw I4 ea' c n l' rz λs5 I5=>⟨σ,_,I5,q4⟩
def rAdd:V->V->Hp->VK->Prop:=λx y H Q=>∃i j,x= .int i/\y= .int j/\Q (.int (i+j)) H
def rSub:V->V->Hp->VK->Prop:=λx y H Q=>∃i j,x= .int i/\y= .int j/\Q (.int (i-j)) H
theorem xz:Dv X .Add rAdd:=by
 rintro pins s σ H x y u v Q I rx ry ⟨i,j,rfl,rfl,q⟩;obtain⟨t,rfl⟩:=(show ∃t,u=Value.int i t from rx);obtain⟨t',rfl⟩:=(show ∃t',v=Value.int j t' from ry);exact PyProof.Rows.iadd_int ⟨.int (i+j),H,I.tok _,⟨_,rfl⟩,q⟩
theorem Bi:Dv X .Sub rSub:=by
 rintro pins s σ H x y u v Q I rx ry ⟨i,j,rfl,rfl,q⟩;obtain⟨t,rfl⟩:=(show ∃t,u=Value.int i t from rx);obtain⟨t',rfl⟩:=(show ∃t',v=Value.int j t' from ry);exact PyProof.Rows.isub_int ⟨.int (i-j),H,I.tok _,⟨_,rfl⟩,q⟩
end
section
variable {c:Value} {b:Bool}
inductive TyOf (K:PySem.W.Frag) (H:Hp):V->Value->Prop where
 |non:TyOf K H .non (.type "NoneType")
 |bl (x:Bool):TyOf K H (.bl x) (.type "bool")
 |int (i:Int):TyOf K H (.int i) (.type "int")
 |str (x:Str):TyOf K H (.str x) (.type "str")
 |flt (x:UInt64):TyOf K H (.flt x) (.type "float")
 |lst {a:Addr} {xs:List V} (e:H a=some (.lst xs)):TyOf K H (.ref a) (.type "list")
 |frz {a:Addr} {o:Obj} {xs:List V} (e:H a=some (.frz o (.lst xs))):TyOf K H (.ref a) (.type "list")
 |tup {a:Addr} {xs:List V} (e:H a=some (.tup xs)):TyOf K H (.ref a) (.type "tuple")
 |dK {a:Addr} {kvs:List (Key×V)} (e:H a=some (.dK kvs)):TyOf K H (.ref a) (.type "dict")
 |dT {a:Addr} {kvs:List (List Key×V)} (e:H a=some (.dT kvs)):TyOf K H (.ref a) (.type "dict")
 |ins {a C dx:Addr} {fs:List (Str×V)} (e:H a=some (.ins C dx fs)) (cl:Cls K C) (ha:PySem.W.findIn K (.ref C) "__class__"=some (some (.builtin "object.__class__")))
   (hn:PySem.W.specialIn K (.builtin "object.__class__") "__get__"=some (some (.builtin "getset_descriptor.__get__"))) (htk:PySem.W.takesIn K (.builtin "object.__class__")=some true)
   (hm:PySem.W.mroIn K C (.type "object")=some true):TyOf K H (.ref a) (.ref C)
theorem tK {x:V} {t:Value} (I:Inv X pins σ H s) (rx:RelV x u) (ty:TyOf X.K H x t) (e:PySem.W.kitOne X.K t c=some b) (h:∀tk,Q (.bool b) {s with toks:=tk}):
  wpAny (model X.prog X.w) A (call (.builtin "isinstance") [u,c]) Q E s:=by
 cases ty with
 |non=>cases (show u=Value.none from rx);exact Z2 PySem.W.kitx_none I.kIn True.intro e (λz=>nomatch z) h
 |bl y=>cases (show u=Value.bool y from rx);exact Z2 PySem.W.kitx_bool I.kIn True.intro e (λz=>nomatch z) h
 |int i=>obtain⟨t,q⟩:=(show ∃t,u=Value.int i t from rx);cases q;exact Z2 PySem.W.kitx_int I.kIn True.intro e (λz=>nomatch z) h
 |str y=>obtain⟨t,q⟩:=(show ∃t,u=Value.str y t from rx);cases q;exact Z2 PySem.W.kitx_str I.kIn True.intro e (λz=>nomatch z) h
 |flt y=>obtain⟨t,q⟩:=(show ∃t,u=Value.float y t from rx);cases q;exact Z2 PySem.W.kitx_float I.kIn True.intro e (λz=>nomatch z) h
 | @lst a xs ea=>
  cases (show u=Value.ref a from rx);obtain⟨_,_,n,_,h1⟩:=(show ObjOk X.prog X.w H s.heap a (.lst xs) from I.hok a _ ea);exact Z2 PySem.W.kitx_list I.kIn ⟨_,h1,rfl⟩ e (λz=>nomatch z) h
 | @frz a ob xs ea=>
  cases (show u=Value.ref a from rx);obtain⟨_,_,_,n,_,h1⟩:=(show ObjOk X.prog X.w H s.heap a (.frz ob (.lst xs)) from I.hok a _ ea);exact Z2 PySem.W.kitx_list I.kIn ⟨_,h1,rfl⟩ e (λz=>nomatch z) h
 | @tup a xs ea=>
  cases (show u=Value.ref a from rx);obtain⟨_,_,_,p⟩:=(show ObjOk X.prog X.w H s.heap a (.tup xs) from I.hok a _ ea);obtain⟨o,h1,h2,_⟩:=p;exact Z2 PySem.W.kitx_tuple I.kIn ⟨o,h1,h2⟩ e (λz=>nomatch z) h
 | @dK a kvs ea=>
  cases (show u=Value.ref a from rx);obtain⟨_,_,vs,_,p⟩:=(show ObjOk X.prog X.w H s.heap a (.dK kvs) from I.hok a _ ea);obtain⟨o,es,ep,h1,h2,_⟩:=p;exact Z2 PySem.W.kitx_dict I.kIn ⟨o,h1,h2.1⟩ e (λz=>nomatch z) h
 | @dT a kvs ea=>
  cases (show u=Value.ref a from rx);obtain⟨_,_,xs,_,o,es,ep,h1,h2,_⟩:=(show ObjOk X.prog X.w H s.heap a (.dT kvs) from I.hok a _ ea);exact Z2 PySem.W.kitx_dict I.kIn ⟨o,h1,h2.1⟩ e (λz=>nomatch z) h
 | @ins a C dx fs ea cl ha hn htk hm=>
  cases (show u=Value.ref a from rx);obtain⟨mA,O,_⟩:=ins_get I.hok ea;obtain⟨od,J,_⟩:=O.look;exact Z2 (PySem.W.kitx_own (cl.get _) cl.hd ha hn htk hm) I.kIn J e (λz=>nomatch z) h
end
end
section
structure Room (k:Nat) (A:Around):Prop where
 hd:A.handled=none
 dp:A.depth+3*k+5<recursionLimit
 un:A.units+16*k+200<cLine
theorem Room.mono {k:Nat} (r:Room k A) (h:j<=k):Room j A:=⟨r.hd,by have:=r.dp;lia,by have:=r.un;lia⟩
theorem Room.deeper {k:Nat} (r:Room (k+1) A) (env:Env):Room k (A.deeper env):=
 ⟨r.hd,by have:=r.dp;show A.depth+1+3*k+5<_;lia,by have:=r.un;show A.units+3+16*k+200<_;lia⟩
theorem xw:(A.under (.builtin "type.__call__" ⟨.ref C::us,kw⟩)).depth=A.depth+1:=by
 first|rfl|simp[Around.under,Code.weight,Code.isCreation,Code.isGuard,Code.isCaller,Code.frames,Code.isFrame,guardIds]
theorem xv:(A.under (.builtin "type.__call__" ⟨.ref C::us,kw⟩)).units=A.units+1:=by
 first|rfl|simp[Around.under,Code.cUnits,Code.frames,Code.isFrame]
theorem Room.make {k:Nat} (r:Room (k+1) A) (C:Addr) (us:List Value) (kw:List (Str×Value)):Room k (A.under (.builtin "type.__call__" ⟨.ref C::us,kw⟩)):=
 ⟨r.hd,by have:=r.dp;rw[xw];lia,by have:=r.un;rw[xv];lia⟩
theorem Room.depth {k:Nat} (r:Room k A):A.depth<recursionLimit:=by have:=r.dp;lia
theorem Room.units {k:Nat} (r:Room k A):A.units+64<cLine:=by have:=r.un;lia
def Cr:TA:=λ_ H Q=>Q [] H
def DJ (ta:TE) (tr:TA):TA:=λσ H Q=>ta σ H λx H1=>tr σ H1 λxs H2=>Q (x::xs) H2
section
variable {t:TA}
theorem ag:PA X [] Cr:=λ_ _ _ _ H Q I h=>Calls.spliced_nil ⟨[],H,I,.nil,h⟩
theorem aa (ha:PE X e te) (hr:PA X es t) (hs:starEach (e::es) X.env=(false,eval e X.env)::starEach es X.env:=by rfl):PA X (e::es) (DJ te t):=by
 intro pos pins s σ H Q I h;rw[hs];show wpAny _ _ (spliced ((false,eval e X.env)::backTo pos (starEach es X.env))) _ _ s;refine Calls.spliced_cons (thn (ha pins s σ H _ I h) λu s1 hzz=>?_);obtain⟨x,H1,I1,r1,q1⟩:=hzz;exact thn (hr pos pins s1 σ H1 _ I1 q1) λus s2 ⟨xs,H2,I2,r2,q2⟩=>⟨x::xs,H2,I2,.cons r1 r2,q2⟩
def tTup (t:TA):TE:=λσ H Q=>t σ H λxs H1=>xs.length<=sizeLine/\∀p,H1 p=none->Q (.ref p) (upd H1 p (.tup xs))
def tLst (t:TA):TE:=λσ H Q=>t σ H λxs H1=>xs.length<=sizeLine/\∀p,H1 p=none->Q (.ref p) (upd H1 p (.lst xs))
theorem iX {x1} (h:PA X es t):PE X (.Tuple es x1 pos) (tTup t):=by
 intro pins s σ H Q I hq;refine wpAny_Tuple_spliced (thn (h pos pins s σ H _ I hq) λus s1 ⟨xs,H1,I1,r,z,q⟩=>⟨by rw[<-r.length];exact z,?_⟩);have hf:H1 s1.heap.objs.size=none:=I1.hok.fresh (Q5 _);refine⟨.ref s1.heap.objs.size,upd H1 s1.heap.objs.size (.tup xs),I1.laid (t':=s1.toks) (λb u e=>Heap.get?_push_of_some _ e) (Q5 _) ?_,rfl,q _ hf⟩;exact⟨z,us,r,⟨_,Heap.get?_push_size _ rfl,rfl,_,rfl⟩⟩
theorem eK (h:PA X es t):PE X (.List es pos) (tLst t):=by
 intro pins s σ H Q I hq;refine wpAny_List_spliced (thn (h pos pins s σ H _ I hq) λus s1 ⟨xs,H1,I1,r,z,q⟩=>⟨by rw[<-r.length];exact z,?_⟩);have hf:H1 s1.heap.objs.size=none:=I1.hok.fresh (Q5 _);refine⟨.ref s1.heap.objs.size,upd H1 s1.heap.objs.size (.lst xs),I1.laid (t':=s1.toks) (λb u e=>Heap.get?_push_of_some _ e) (Q5 _) ?_,rfl,q _ hf⟩;exact⟨z,us,0,r,Heap.get?_push_size _ rfl⟩
end
abbrev Sp:=List V->Hp->VK->XK->Prop
abbrev CXT:=List Env->Hp->Shared->XK->Value->Shared->Prop
structure Env0 (P:Program) (w:World) (K:PySem.W.Frag) (mg:Str->Option Value) (base:Heap) (A:Around) (outer:List Env) (s:Shared) (H:Hp):Prop where
 frames:A.frames=some outer
 mod:Mod K mg base
 bs:∀b o,base.get? b=some o->s.heap.get? b=some o/\H b=none
 bsz:base.objs.size<=s.heap.objs.size
 funs:s.heap.FunFrames base outer
 frf:∀b∈frs outer,H b=none
 hok:HOk P w H s.heap
 bare:AllBare s.gens
def CE (outer:List Env) (P:Program) (w:World) (H:Hp) (s:Shared) (Q:VK) (u:Value) (s':Shared):Prop:=
 ∃v H',s'.os=s.os/\AllBare s'.gens/\Un (frs outer) [] H H' s.heap s'.heap/\HOk P w H' s'.heap/\RelV v u/\Q v H'
def CR (CX:CXT) (outer:List Env) (P:Program) (w:World) (H:Hp) (s:Shared) (Q:VK) (E:XK) (r:Result) (s':Shared):Prop:=
 match r with
 | .ok (.ret u)=>CE outer P w H s Q u s'
 | .ok _=>False
 | .error e=>CX outer H s E e s'
structure FnOk (P:Program) (w:World) (K:PySem.W.Frag) (mg:Str->Option Value) (base:Heap) (CX:CXT) (k:Nat) (f:Addr) (fd:FuncData) (ps:List Str) (sp:Sp):Prop where
 len:∀vs H Q E,sp vs H Q E->vs.length=ps.length
 run:∀(A:Around) (outer:List Env) (s:Shared) (H:Hp) (args:Args) (us:List Value) (vs:List V) (Q:VK) (E:XK),Room k A->Env0 P w K mg base A outer s H->BindsTo s fd args (ps.zip us)->Vals vs us->sp vs H Q E->
  codeAny (model P w) A (.call (.ref f) args) (CR CX outer P w H s Q E) s
theorem FnOk.mono {mg:Str->Option Value} {k:Nat} (F:FnOk P w K mg base CX j f fd ps sp) (h:j<=k):
  FnOk P w K mg base CX k f fd ps sp:=⟨F.len,λA outer s H args us vs Q E hr=>F.run A outer s H args us vs Q E (hr.mono h)⟩
theorem Env0.make {mg:Str->Option Value} (e:Env0 P w K mg base A outer s H) (C:Addr) (us:List Value) (kw:List (Str×Value)):
  Env0 P w K mg base (A.under (.builtin "type.__call__" ⟨.ref C::us,kw⟩)) outer s H:=⟨by first|exact e.frames|(simpa[Around.under,Code.envs,Code.isFrame,pushEnvs]using e.frames),e.mod,e.bs,e.bsz,e.funs,e.frf,e.hok,e.bare⟩
section
theorem Inv.env0 (I:Inv X pins σ H s):Env0 X.prog X.w X.K X.mg X.base X.A X.stack s H:=
 ⟨I.ok.frames,I.ok.mod,I.bs,QL I.ok.bsz I.sz,I.stack,I.stkFree,I.hok,I.bare⟩
theorem Inv.after {Q:VK} (I:Inv X pins σ H s) (h:CE X.stack X.prog X.w H s Q u s'):EP X pins σ Q u s':=by
 obtain⟨v,H',os,bare,un,hok,r,q⟩:=h;obtain⟨hh,g,d,t,os'⟩:=s';obtain rfl:os'=s.os:=os;exact⟨v,H',I.call (h':=hh) (g':=g) (d':=d) (t':=t) (ch:=[]) un hok bare (λb z=>absurd z (by simp)),r,q⟩
end
def DK (sp:Sp) (dvs:List V) (E:XK) (t:TA):TE:=λσ H Q=>t σ H λvs H1=>sp (vs++dvs) H1 Q E
def DG (C:Addr) (m:Str) (sp:Sp) (dvs:List V) (E:XK) (ta:TE) (t:TA):TE:=λσ H Q=>ta σ H λx H1=>∃a dx fs,x= .ref a/\H1 a=some (.ins C dx fs)/\fs.lookup m=none/\
 t σ H1 λvs H2=>sp (x::(vs++dvs)) H2 Q E
def DH (C:Addr) (sp:Sp) (dvs:List V) (E:XK) (t:TA):TE:=λσ H Q=>t σ H λvs H1=>∀x dx,H1 x=none->H1 dx=none->dx≠x->
 sp (.ref x::(vs++dvs)) (upd (upd H1 dx (.own x)) x (.ins C dx [])) (λv H2=>v= .non/\Q (.ref x) H2) E
def Binds (K:PySem.W.Frag) (fd:FuncData) (ps:List Str) (ds:List Value):Prop:=
 ∀(s:Shared) (us:List Value),K.In s.heap->(us++ds).length=ps.length->BindsTo s fd ⟨us,[]⟩ (ps.zip (us++ds))
theorem Binds.all (h:∀us:List Value,us.length=ps.length->bindArgs fd ⟨us,[]⟩=pure (ps.zip us)):Binds K fd ps []:=λs us _ hl=>by
 rw[ZG]at hl⊢;exact .of_eq (h us hl)
def eR (CX:CXT) (X:Cx) (E:XK):Prop:=∀(pins:List (Addr×Obj)) (σ:St) (H:Hp) (s:Shared) (e:Value) (s':Shared),Inv X pins σ H s->CX X.stack H s E e s'->X.xe e s'
section
variable {k:Nat} {dvs:List V} {ds:List Value} {E:XK} {apos:Pos} {o:Expr} {t:TA}
theorem qJ {Q:VK} (F:FnOk X.prog X.w X.K X.mg X.base CX k f fd ps sp) (hr:Room k X.A) (hb:Binds X.K fd ps ds) (hd:Vals dvs ds) (hx:eR CX X E)
  (I:Inv X pins σ H s) (r:Vals vs us) (h:sp (vs++dvs) H Q E):wpAny (model X.prog X.w) X.A (call (.ref f) us) (EP X pins σ Q) X.xe s:=by
 have r2:Vals (vs++dvs) (us++ds):=r.append hd;have hl:(us++ds).length=ps.length:=by rw[<-r2.length];exact F.len _ _ _ _ h
 refine wpAny_call (codeAny_mono (F.run X.A X.stack s H ⟨us,[]⟩ (us++ds) (vs++dvs) Q E hr I.env0 (hb s us I.kIn hl) r2 h) λr s' hq=>?_);cases r with
 |error e=>exact hx pins σ H s e s' I hq
 |ok fl=>
  cases fl with
  |ret u=>exact I.after hq
  |next=>exact False.elim hq
  |brk=>exact False.elim hq
  |cont=>exact False.elim hq
theorem aL (F:FnOk X.prog X.w X.K X.mg X.base CX k f fd ps sp) (hr:Room k X.A) (hg:Gl X x) (hm:X.mg x=some (.ref f)) (hk:PySem.W.keepIn X.K (.ref f)=true) (hb:Binds X.K fd ps ds) (hd:Vals dvs ds) (hx:eR CX X E)
  (ha:PA X (e::es) t) (hdb:(x==("__debug__":Str))=false:=by decide) (he:starEach (e::es) X.env=(false,eval e X.env)::starEach es X.env:=by rfl) (hpl:(backTo pos (starEach es X.env)).any (·.1)=false:=by rfl):
  PE X (.Call (.Name x p) (e::es) [] pos) (DK sp dvs E t):=by
 intro pins s σ H Q I h;refine wpAny_Call_Name_kw (gH I hg hm ?_ hdb);refine Zo (h₀:=X.base) I.ok.mod.kin hk (thn (ha pos pins s σ H _ I h) λus s1 ⟨vs,H1,I1,r,q⟩=>⟨I1.kIn,?_⟩) he hpl;exact qJ F hr hb hd hx I1 r q
theorem aN {pl:Sem Bool} (he:PE X o ta) (c:Cls X.K C) (hm:bX X.K C m f) (F:FnOk X.prog X.w X.K X.mg X.base CX k f fd ps sp) (hr:Room k X.A) (hb:Binds X.K fd ps ds) (hd:Vals dvs ds) (hx:eR CX X E) (ha:PA X (e::es) t)
  (hst:starEach (e::es) X.env=(false,eval e X.env)::starEach es X.env:=by rfl) (hpl:(backTo pos (starEach es X.env)).any (·.1)=false:=by rfl)
  (ht:eval (.Call (.Attribute o m apos) (e::es) [] pos) X.env=(do
   let ov<-eval o X.env
   standAt apos.atName
   let(f,first)<-holding [ov] (getMethod ov m pl)
   callWith pos f first (backTo pos (starEach (e::es) X.env)) (backToKw pos (keywordEach [] X.env))):=by rfl):
  PE X (.Call (.Attribute o m apos) (e::es) [] pos) (DG C m sp dvs E ta t):=by
 intro pins s σ H Q I h;refine Zr (pl:=pl) (thn (he pins s σ H _ I h) λu s1 hzz=>?_) ht;obtain⟨x,H1,I1,rx,a,dx,fs,ex,ea,l,q⟩:=hzz;subst ex;obtain rfl:u=Value.ref a:=rx;refine i7 I1 ea c hm l ?_;refine Zo (first:=[.ref a]) (h₀:=X.base) I.ok.mod.kin hm.kp (thn (ha pos pins s1 σ H1 _ I1 q) λus s2 ⟨vs,H2,I2,r,q2⟩=>⟨I2.kIn,?_⟩) hst hpl;exact qJ (us:= .ref a::us) (vs:= .ref a::vs) F hr hb hd hx I2 (.cons rfl r) q2
theorem cx {pl:Sem Bool} (he:PE X o ta) (c:Cls X.K C) (hm:bX X.K C m f) (F:FnOk X.prog X.w X.K X.mg X.base CX k f fd ps sp) (hr:Room k X.A) (hb:Binds X.K fd ps ds) (hd:Vals dvs ds) (hx:eR CX X E)
  (ht:eval (.Call (.Attribute o m apos) [] [] pos) X.env=(do
   let ov<-eval o X.env
   standAt apos.atName
   let(f,first)<-holding [ov] (getMethod ov m pl)
   callWith pos f first (backTo pos (starEach [] X.env)) (backToKw pos (keywordEach [] X.env))):=by rfl):
  PE X (.Call (.Attribute o m apos) [] [] pos) (DG C m sp dvs E ta Cr):=by
 intro pins s σ H Q I h;refine Zr (pl:=pl) (thn (he pins s σ H _ I h) λu s1 hzz=>?_) ht;obtain⟨x,H1,I1,rx,a,dx,fs,ex,ea,l,q⟩:=hzz;subst ex;obtain rfl:u=Value.ref a:=rx;refine i7 I1 ea c hm l ?_;exact PySem.W.callWith_K0 (first:=[.ref a]) I1.kIn hm.kp (qJ (us:=[.ref a]) (vs:=[.ref a]) F hr hb hd hx I1 (.cons rfl .nil) q)
structure Mk (K:PySem.W.Frag) (C f:Addr):Prop where
 makes:PySem.W.makesIn K C=true
 init:PySem.W.findIn K (.ref C) "__init__"=some (some (.ref f))
 fn:PySem.W.isFn K (.ref f)=true
 kp:PySem.W.keepIn K (.ref C)=true
theorem vK {Q:VK} (M:Mk X.K C f) (F:FnOk X.prog X.w X.K X.mg X.base CX k f fd ps sp) (hr:Room (k+1) X.A) (hb:Binds X.K fd ps ds) (hd:Vals dvs ds)
  (hx:eR CX X E) (I:Inv X pins σ H s) (r:Vals vs us)
  (h:∀x dx,H x=none->H dx=none->dx≠x->sp (.ref x::(vs++dvs)) (upd (upd H dx (.own x)) x (.ins C dx [])) (λv H2=>v= .non/\Q (.ref x) H2) E):
  wpAny (model X.prog X.w) X.A (call (.ref C) us) (EP X pins σ Q) X.xe s:=by
 have hq:=h (s.heap.objs.size+1) s.heap.objs.size (I.hok.fresh (ZE _)) (I.hok.fresh (Q5 _)) (Qv (ZJ _));have I2:=Inv.made (C:=C) I;have r2:Vals (V.ref (s.heap.objs.size+1)::(vs++dvs)) (Value.ref (s.heap.objs.size+1)::(us++ds)):= .cons rfl (r.append hd);have hl:(Value.ref (s.heap.objs.size+1)::us++ds).length=ps.length:=by
  have e:=r2.length;rw[F.len _ _ _ _ hq]at e;exact e.symm
 refine wpAny_call (AX (f:=f) I.kIn M.makes M.init (beq_iff_eq.mp M.fn) (codeAny_mono (F.run _ X.stack _ _ ⟨Value.ref (s.heap.objs.size+1)::us,[]⟩ (Value.ref (s.heap.objs.size+1)::(us++ds)) _ _ E (hr.make C us [])
  (I2.env0.make C us []) (hb _ (Value.ref (s.heap.objs.size+1)::us) I2.kIn hl) r2 hq) λr s' hq'=>?_))
 cases r with
 |error e=>exact hx pins σ _ _ e s' I2 hq'
 |ok fl=>
  cases fl with
  |ret u=>
   obtain⟨v,H',I3,rv,ev,q3⟩:=I2.after hq';subst ev;exact⟨rv,⟨V.ref (s.heap.objs.size+1),H',I3,rfl,q3⟩⟩
  |next=>exact False.elim hq'
  |brk=>exact False.elim hq'
  |cont=>exact False.elim hq'
theorem kt (M:Mk X.K C f) (F:FnOk X.prog X.w X.K X.mg X.base CX k f fd ps sp) (hr:Room (k+1) X.A) (hg:Gl X x) (hm:X.mg x=some (.ref C)) (hb:Binds X.K fd ps ds) (hd:Vals dvs ds) (hx:eR CX X E)
  (ha:PA X (e::es) t) (hdb:(x==("__debug__":Str))=false:=by decide) (he:starEach (e::es) X.env=(false,eval e X.env)::starEach es X.env:=by rfl) (hpl:(backTo pos (starEach es X.env)).any (·.1)=false:=by rfl):
  PE X (.Call (.Name x p) (e::es) [] pos) (DH C sp dvs E t):=by
 intro pins s σ H Q I h;refine wpAny_Call_Name_kw (gH I hg hm ?_ hdb);refine Zo (h₀:=X.base) I.ok.mod.kin M.kp (thn (ha pos pins s σ H _ I h) λus s1 ⟨vs,H1,I1,r,q⟩=>⟨I1.kIn,?_⟩) he hpl;exact vK M F hr hb hd hx I1 r q
theorem fW (M:Mk X.K C f) (F:FnOk X.prog X.w X.K X.mg X.base CX k f fd ps sp) (hr:Room (k+1) X.A) (hg:Gl X x) (hm:X.mg x=some (.ref C)) (hb:Binds X.K fd ps ds) (hd:Vals dvs ds) (hx:eR CX X E)
  (hdb:(x==("__debug__":Str))=false:=by decide):PE X (.Call (.Name x p) [] [] pos) (DH C sp dvs E Cr):=by
 intro pins s σ H Q I h;refine wpAny_Call_Name_kw (gH I hg hm ?_ hdb);exact PySem.W.callWith_K0 I.kIn M.kp (vK (us:=[]) M F hr hb hd hx I .nil h)
end
structure ax (N P:List Str) (sc:Scope):Prop where
 kind:sc.kind= .function
 co:sc.isCoroutine=false
 gen:sc.isGenerator=false
 nd:N.Nodup
 pre:N.take P.length=P
 par:∀x∈P,sc.names.lookup x=some .local\/sc.names.lookup x=some .cell
 nofree:∀y∈sc.names,y.2≠ .free
theorem tZ {kindOf:Str->Option NameKind} {x:Str}:∀{binds:List (Str×Value)} {m:Str->Option Value},(∀v,(x,v)∉binds)->bindL kindOf binds m x=m x
 | [],_,_=>rfl
 |(n,v)::r,m,h=>by
  unfold bindL;rw[tZ λw hw=>h w (Qa _ hw)];split
  .have:x≠n:=by rintro rfl;exact h v Qd
   simp[this]
  .rfl
theorem t6 {kindOf:Str->Option NameKind} {x:Str}:∀{binds:List (Str×Value)} {m:Str->Option Value},(∀v,(x,v)∉binds)->bindC kindOf binds m x=m x
 | [],_,_=>rfl
 |(n,v)::r,m,h=>by
  unfold bindC;rw[t6 λw hw=>h w (Qa _ hw)];split
  .rfl
  .have:x≠n:=by rintro rfl;exact h v Qd
   simp[this]
theorem t5 {kindOf:Str->Option NameKind} {x:Str} {v:Value}:∀{P:List Str} {vs:List Value} {i:Nat} {m:Str->Option Value},P.Nodup->P[i]?=some x->vs[i]?=some v->kindOf x=some .local->
  bindL kindOf (P.zip vs) m x=some v
 | [],_,_,_,_,h,_,_=>by simp at h
 |_::_,[],_,_,_,_,h,_=>by simp at h
 |p::P,w::vs,0,m,nd,h1,h2,hk=>by
  simp at h1 h2;subst h1;subst h2;show bindL kindOf ((p,w)::P.zip vs) m p=_;unfold bindL;rw[tZ λv hv=>(QE.mp nd).1 (Xk hv).1,if_pos hk];simp
 |p::P,w::vs,i+1,m,nd,h1,h2,hk=>by
  show bindL kindOf ((p,w)::P.zip vs) m x=_;unfold bindL;exact t5 (i:=i) (QE.mp nd).2 (by simpa using h1) (by simpa using h2) hk
theorem t7 {kindOf:Str->Option NameKind} {x:Str} {v:Value}:∀{P:List Str} {vs:List Value} {i:Nat} {m:Str->Option Value},P.Nodup->P[i]?=some x->vs[i]?=some v->kindOf x≠some .local->
  bindC kindOf (P.zip vs) m x=some v
 | [],_,_,_,_,h,_,_=>by simp at h
 |_::_,[],_,_,_,_,h,_=>by simp at h
 |p::P,w::vs,0,m,nd,h1,h2,hk=>by
  simp at h1 h2;subst h1;subst h2;show bindC kindOf ((p,w)::P.zip vs) m p=_;unfold bindC;rw[t6 λv hv=>(QE.mp nd).1 (Xk hv).1,if_neg hk];simp
 |p::P,w::vs,i+1,m,nd,h1,h2,hk=>by
  show bindC kindOf ((p,w)::P.zip vs) m x=_;unfold bindC;exact t7 (i:=i) (QE.mp nd).2 (by simpa using h1) (by simpa using h2) hk
def start (N:List Str) (vs:List V):St:=vs.map some++List.replicate (N.length-vs.length) none
def m6 (CX:CXT) (P:Program) (w:World) (K:PySem.W.Frag) (mg:Str->Option Value) (base:Heap) (N:List Str) (qual:Str) (scope:Scope) (f:Addr) (cd:Value) (A:Around) (outer:List Env) (s:Shared) (H:Hp) (E:XK):Cx where
 prog:=P
 w:=w
 K:=K
 mg:=mg
 base:=base
 A:=A.deeper (envOfC qual scope s.heap.objs.size f cd)
 N:=N
 s₀:=s
 H₀:=H
 env:=envOfC qual scope s.heap.objs.size f cd
 outer:=outer
 stack:=envOfC qual scope s.heap.objs.size f cd::outer
 ex:=[]
 calm:=true
 fn:=λ_=>true
 pn:=[]
 xe:=λe s'=>wpAny (model P w) (A.deeper (envOfC qual scope s.heap.objs.size f cd)) (leaving (envOfC qual scope s.heap.objs.size f cd) e) (λ_ s''=>CX outer H s E e s'') (λe' s''=>CX outer H s E e' s'') s'
theorem wz {sc:Scope} (h:sc.names.lookup x=some .cell):∃c,(cellsFrom n sc.names []).lookup x=some c:=by
 have q:=PySem.W.cellsFrom_some sc.names n [] (.inl h);exact ZM.mp q
theorem zF {mg:Str->Option Value} {cd:Value} {s1:Shared} {E:XK} 
  (S:ax N ps scope) (hd:A.handled=none) (e0:Env0 P w K mg base A outer s H) (hl:vs.length=ps.length) (r:Vals vs us)
  (x:InCallC s s.heap.objs.size (bindL (envOfC qual scope s.heap.objs.size f cd).kindOf (ps.zip us) λ_=>none) (cellsFrom (s.heap.objs.size+1) scope.names []) (bindC (envOfC qual scope s.heap.objs.size f cd).kindOf (ps.zip us) λ_=>none) s1):
  Inv (m6 CX P w K mg base N qual scope f cd A outer s H E) [] (start N vs) H s1:=by
 have hpl:ps.length<=N.length:=by have:=congrArg List.length S.pre;rw[Qb]at this;lia
 obtain⟨h1,tk,rfl,hk⟩:=x.done;have noA:∀b:Addr,b∉(m6 CX P w K mg base N qual scope f cd A outer s H E).ex:=λb z=>absurd (show b∈([]:List Addr) from z) (by simp);refine⟨⟨e0.mod,S.kind,rfl,rfl,Q5 _,λy z c h1 h2=>?_,λy hy=>?_,λy c _ h=>?_,λ_=>hd,Around.frames_deeper e0.frames,.inr ⟨rfl,rfl⟩,λb z=>absurd z (noA b),e0.bs,e0.bsz,λb _ _=>noA b,λb z=>absurd z (noA b),e0.funs,e0.frf⟩,
  rfl,e0.bare,Un.kept hk,⟨_,x.toInCall.ns,λi y v h1 h2 h3=>?_⟩,λy c h=>⟨_,x.cell y c h⟩,e0.hok.fresh (Q5 _),λy c h=>?_,λp hp=>absurd (show p∈([]:List (Addr×Obj)) from hp) (by simp),e0.hok.kept hk,?_⟩
 .exact name_of_addr x.apart (PySem.mem_of_lookup h1) (PySem.mem_of_lookup h2)
 .have hy:scope.names.lookup y=some .cell\/scope.names.lookup y=some .free:=hy;rcases hy with hy|hy
  .exact wz hy
  .exact absurd rfl (S.nofree _ (PySem.mem_of_lookup hy))
 .exact Z6 (x.above y c (PySem.mem_of_lookup h))
 .have hi:i<vs.length:=by
   unfold start at h2;by_cases hi:i<vs.length
   .exact hi
   .rw[Zp (by simpa using hi)]at h2;rw[List.getElem?_replicate]at h2;split at h2<;>cases h2
  have ha:vs[i]?=some v:=by
   unfold start at h2;rw[Z7 (by simpa using hi),Qg]at h2;cases e:vs[i]? with
   |none=>rw[e]at h2;cases h2
   |some a=>rw[e]at h2;cases h2;rfl
  obtain⟨u,hu,rv⟩:=r.get ha;have hp:ps[i]?=some y:=by
   rw[<-S.pre,ZN (by lia)];exact h1
  have ndP:ps.Nodup:=by rw[<-S.pre];exact S.nd.sublist (List.take_sublist _ _)
  refine⟨u,rv,?_⟩;rcases S.par y (Q2 hp)with k|k
  .exact .inl ⟨k,t5 ndP hp hu k⟩
  .obtain⟨c,e⟩:=wz (n:=s.heap.objs.size+1) k;refine .inr ⟨.inl k,c,e,?_⟩;have q:=x.cell y c e;rw[t7 ndP hp hu (by show scope.names.lookup y≠_;rw[k];decide)]at q;exact q
 .exact e0.hok.fresh (Z6 (x.above y c (PySem.mem_of_lookup h)))
 .unfold start;show _=N.length;rw[Q9,Q0,Zs];lia
theorem yD {mg:Str->Option Value} {k:Nat} {params:Arguments} {dV kV doc pm cdv ct oc:Value} {an od:Option Addr}
  {osl:Array (Option Value)} (lk:K.lookup f=some ⟨oc,od,.func (PySem.W.fnOf name qual params body scope dV kV doc pm an cdv ct),osl⟩) (hcd:PySem.W.codeIn K cdv qual=true) (S:ax N ps scope)
  (len:∀vs H Q E,sp vs H Q E->vs.length=ps.length)
  (hbody:∀(A:Around) (outer:List Env) (s:Shared) (H:Hp) (vs:List V) (Q:VK) (E:XK),Room k (A.deeper (envOfC qual scope s.heap.objs.size f cdv))->sp vs H Q E->
   ∃t,PSs (m6 CX P w K mg base N qual scope f cdv A outer s H E) body t/\t {nx:=λ_ H'=>Q .non H',rt:=Q} (start N vs) H):
  FnOk P w K mg base CX (k+1) f (PySem.W.fnOf name qual params body scope dV kV doc pm an cdv ct) ps sp:=by
 refine⟨len,λA outer s H args us vs Q E hr e0 hb r hsp=>?_⟩;have hl:=len _ _ _ _ hsp;have KX:K.In s.heap:=e0.mod.kin.keeps λb o e=>(e0.bs b o e).1;have lim:s.heap.NoLimit:=e0.mod.nolimit.keeps λb o e=>(e0.bs b o e).1;have hkind:∀y∈ps.zip us,scope.names.lookup y.1=some .local\/(scope.names.lookup y.1=some .cell/\((cellsFrom (s.heap.objs.size+1) scope.names []).lookup y.1).isSome=true):=λ⟨n,v⟩ hy=>by
  rcases S.par n (Xk hy).1 with q|q
  .exact .inl q
  .exact .inr ⟨q,PySem.W.cellsFrom_some _ _ _ (.inl q)⟩
 refine codeAny_call_function hr.depth (KX _ _ lk) rfl S.co S.gen rfl (PySem.W.codeRec_of KX hcd) (hb _ _ _ _ ?_);refine wpAny_newFunctionEnv_cells S.kind hkind λenv he s1 x=>?_;subst he;refine⟨lim.keeps x.toInCall.keep,codeAny_func ?_⟩;obtain⟨t,ht,hq⟩:=hbody A outer s H vs Q E (hr.deeper _) hsp;have I:Inv (m6 CX P w K mg base N qual scope f cdv A outer s H E) [] (start N vs) H s1:=zF S hr.hd e0 hl r x;refine wpAny_mono (ht [] s1 (start N vs) H _ I hq) (λfl s' hs=>?_) λe s' hs=>hs;have fin:∀{σ':St} {H':Hp} {v:V} {u:Value},Inv (m6 CX P w K mg base N qual scope f cdv A outer s H E) [] σ' H' s'->RelV v u->Q v H'->CE outer P w H s Q u s':=
  λ{σ' H' v u} J rv q=>⟨v,H',J.os,J.bare,J.base,J.hok,rv,q⟩
 cases fl with
 |ret u=>
  obtain⟨v,σ',H',J,rv,q⟩:=hs;exact fin J rv q
 |next=>
  obtain⟨σ',H',J,q⟩:=hs;exact fin (v:=V.non) (u:=Value.none) J rfl q
 |brk=>
  obtain⟨_,_,_,q⟩:=hs;exact False.elim q
 |cont=>
  obtain⟨_,_,_,q⟩:=hs;exact False.elim q
end
section
section
variable {t:TA} {id T:String} {r:List V->Hp->VK->Prop}
def tCB (r:List V->Hp->VK->Prop) (t:TA):TE:=λσ H Q=>t σ H λvs H1=>r vs H1 Q
theorem au (hc:iM X (.builtin id) r) (hg:Gl X x) (hm:X.mg x=none) (hv:bootBuiltins x=some (.builtin id)) (ha:PA X (e::es) t) (hn:x≠"__name__":=by decide) (hdb:(x==("__debug__":Str))=false:=by decide)
  (he:starEach (e::es) X.env=(false,eval e X.env)::starEach es X.env:=by rfl) (hpl:(backTo pos (starEach es X.env)).any (·.1)=false:=by rfl):PE X (.Call (.Name x p) (e::es) [] pos) (tCB r t):=by
 intro pins s σ H Q I h;refine wpAny_Call_Name_kw (oz I hg hm hv ?_ hn hdb);exact PyProof.Rows.callWith_builtin1 (thn (ha pos pins s σ H _ I h) λus s1 ⟨vs,H1,I1,r1,q1⟩=>hc pins s1 σ H1 vs us Q I1 r1 q1) he hpl
theorem iz (hc:iM X (.type T) r) (hg:Gl X x) (hm:X.mg x=none) (hv:bootBuiltins x=some (.type T)) (ha:PA X (e::es) t) (hn:x≠"__name__":=by decide) (hdb:(x==("__debug__":Str))=false:=by decide)
  (he:starEach (e::es) X.env=(false,eval e X.env)::starEach es X.env:=by rfl) (hpl:(backTo pos (starEach es X.env)).any (·.1)=false:=by rfl):PE X (.Call (.Name x p) (e::es) [] pos) (tCB r t):=by
 intro pins s σ H Q I h;refine wpAny_Call_Name_kw (oz I hg hm hv ?_ hn hdb);exact PyProof.Rows.callWith_type1 (thn (ha pos pins s σ H _ I h) λus s1 ⟨vs,H1,I1,r1,q1⟩=>hc pins s1 σ H1 vs us Q I1 r1 q1) he hpl
end
end
end L2
namespace HT
open PySem PyProof.Rows
variable {E:Value->Shared->Prop}
def lexLt:List Int->List Int->Bool
 | [],[]=>false
 | [],_::_=>true
 |_::_,[]=>false
 |x::xs,y::ys=>if x=y then lexLt xs ys else decide (x<y)
theorem lexLt_cons (x y:Int) (xs ys:List Int):lexLt (x::xs) (y::ys)=if x=y then lexLt xs ys else decide (x<y):=rfl
theorem lexLt_nil_nil:lexLt [] []=false:=rfl
theorem lexLt_nil_cons (y:Int) (ys:List Int):lexLt [] (y::ys)=true:=rfl
theorem lexLt_cons_nil (x:Int) (xs:List Int):lexLt (x::xs) []=false:=rfl
section
variable {prog:Program} {w:World} {A:Around} {s:Shared}
def sIx (n d:Nat):Option Int->Nat
 |none=>d
 |some v=>if v<0 then(v+(n:Int)).toNat else min v.toNat n
theorem sIx_none (n d:Nat):sIx n d none=d:=rfl
theorem sIx_nat (n d k:Nat):sIx n d (some (k:Int))=min k n:=by
 show(if(k:Int)<0 then((k:Int)+(n:Int)).toNat else min (k:Int).toNat n)=min k n;rw[if_neg (by lia),QW]
end
end HT
namespace L2
open PySem PySem.Spec PyProof.Rows
variable {a b:Addr} {A:Around} {X:Cx} {e:Expr} {h':Heap} {H H':Hp} {i:Int} {pins:List (Addr×Obj)} {kvs:List (Key×V)} {vs:List (Key×Value)} {its its':List Value} {j n t':Nat} {o:Option V} {pos:Pos} {P:Program} {s:Shared} {σ:St} {T:String} {α:Type} {v x y:V} {u:Value} {E Q:Value->Shared->Prop} {rd:V->V->Hp->VK->Prop} {w:World}
section
abbrev TO:=St->Hp->(Option Int->Hp->Prop)->Prop
def PO (X:Cx) (e:Option Expr) (t:TO):Prop:=
 ∀(pins:List (Addr×Obj)) (s:Shared) (σ:St) (H:Hp) (Q:Option Int->Hp->Prop),Inv X pins σ H s->t σ H Q->
  wpAny (model X.prog X.w) X.A (evalPart e X.env) (λu s'=>∃o H',Inv X pins σ H' s'/\IsPart u o/\Q o H') X.xe s
def Cq:TO:=λ_ H Q=>Q none H
def DF (t:TE):TO:=λσ H Q=>t σ H λx H1=>∃i,x= .int i/\Q (some i) H1
theorem rD {ns:List Int}:∀{us:List Value},Vals (ns.map V.int) us->IntsAre us ns:=by
 induction ns with
 |nil=>intro us r;rw[List.map_nil]at r;cases r;exact .nil
 |cons n ns ih=>
  intro us r;rw[Qu]at r;cases r with
  |cons r1 r2=>
   obtain⟨t,e⟩:=r1;subst e;exact .cons n t (ih r2)
section
variable {te:TE} {lo hi:Option Expr} {tl th:TO} {p2:Pos}
theorem eU:PO X none Cq:=by
 intro pins s σ H Q I h;rw[evalPart_none];exact wpAny_pure ⟨none,H,I,.none,h⟩
theorem cK (h:PE X e te):PO X (some e) (DF te):=by
 intro pins s σ H Q I hw;rw[evalPart_some];refine thn (h pins s σ H _ I hw) λu s1 hzz=>?_;obtain⟨x,H1,I1,r1,q1⟩:=hzz;obtain⟨i,rfl,q⟩:=q1;obtain⟨t,rfl⟩:=r1;exact⟨some i,H1,I1,.int i t,q⟩
def SlR (X:Cx) (r:V->Option Int->Option Int->Hp->VK->Prop):Prop:=
 ∀(pins:List (Addr×Obj)) (s:Shared) (σ:St) (H:Hp) (x:V) (v vl vu:Value) (lo hi:Option Int) (sl:Addr) (Q:VK),Inv X pins σ H s->RelV x v->s.heap.IsSliceOf sl vl vu .none->IsPart vl lo->IsPart vu hi->r x lo hi H Q->
  ∃T id,typeLookup (.type T) "__getitem__"=pure (some (.builtin id))/\s.TypeIs v T/\wpAny (model X.prog X.w) X.A (getItem v (.ref sl)) (EP X pins σ Q) X.xe s
def tSl (r:V->Option Int->Option Int->Hp->VK->Prop) (te:TE) (tl th:TO):TE:=λσ H Q=>te σ H λx H1=>tl σ H1 λl H2=>th σ H2 λu H3=>r x l u H3 Q
theorem dj {r:V->Option Int->Option Int->Hp->VK->Prop} (hr:SlR X r) (he:PE X e te) (hl:PO X lo tl) (hu:PO X hi th):PE X (.Subscript e (.Slice lo hi none p2) pos) (tSl r te tl th):=by
 intro pins s σ H Q I h;refine Subscript_ (thn (he pins s σ H _ I h) λv s1 hzz=>?_);obtain⟨x,H1,I1,r1,q1⟩:=hzz;refine wpAny_Slice (thn (hl pins s1 σ H1 _ I1 q1) λvl s2 ⟨l,H2,I2,pl,q2⟩=>thn (hu pins s2 σ H2 _ I2 q2) λvu s3 hzz=>?_);obtain⟨u,H3,I3,pu,q3⟩:=hzz;rw[evalPart_none];refine wpAny_pure ?_;have I4:Inv X pins σ H3 {s3 with heap:=s3.heap.push {cls:= .type "slice",data:= .fields #[vl,vu,.none]}}:=I3.kept (t':=s3.toks) λb ob q=>Heap.get?_push_of_some _ q;obtain⟨T,id,hT,ht,hg⟩:=hr pins {s3 with heap:=s3.heap.push {cls:= .type "slice",data:= .fields #[vl,vu,.none]}} σ H3 x v vl vu l u s3.heap.objs.size Q I4 r1 (Heap.IsSliceOf.new ..) pl pu q3;show wpAny (model X.prog X.w) X.A (subscriptTail e (.Slice lo hi none p2) v (.ref s3.heap.objs.size)) (EP X pins σ Q) X.xe {s3 with heap:=s3.heap.push {cls:= .type "slice",data:= .fields #[vl,vu,.none]}};exact tail_any (ops:=[.ref s3.heap.objs.size,v]) ht hT hg (by with_unfolding_all rfl)
def iI (xs:List V) (lo hi:Option Int):List V:=(xs.drop (HT.sIx xs.length 0 lo)).take (HT.sIx xs.length xs.length hi-HT.sIx xs.length 0 lo)
theorem wx (xs:List V) (lo hi:Option Int):(iI xs lo hi).length<=xs.length:=by
 unfold iI;rw[Qb,Qr];lia
end
end
section
def ixN (n:Nat) (i:Int):Option Nat:=if 0<=i then(if i<n then some i.toNat else none)else if-(n:Int)<=i then some (i+n).toNat else none
def atI {α:Type} (xs:List α) (i:Int):Option α:=(ixN xs.length i).bind λj=>xs[j]?
theorem yz (h:ixN n i=some j):seqIndex? i n=some j/\j<n/\-(n:Int)<=i/\i<n:=by
 unfold ixN at h;by_cases h0:0<=i
 .rw[if_pos h0]at h;by_cases h1:i<n
  .rw[if_pos h1]at h;have e:i.toNat=j:=Option.some.inj h;exact⟨by rw[seqIndex_of h0 h1,e],by lia,by lia,h1⟩
  .rw[if_neg h1]at h;cases h
 .rw[if_neg h0]at h;by_cases h1: -(n:Int)<=i
  .rw[if_pos h1]at h;have e:(i+n).toNat=j:=Option.some.inj h;exact⟨by rw[seqIndex_neg (by lia) h1,e],by lia,h1,by lia⟩
  .rw[if_neg h1]at h;cases h
theorem yT {xs:List α} {v:α} (h:atI xs i=some v):∃j,seqIndex? i xs.length=some j/\xs[j]?=some v/\j<xs.length/\-(xs.length:Int)<=i/\i<xs.length:=by
 unfold atI at h;cases e:ixN xs.length i with
 |none=>rw[e]at h;cases h
 |some j=>
  rw[e]at h;obtain⟨h1,h2,h3,h4⟩:=yz e;exact⟨j,h1,h,h2,h3,h4⟩
theorem vf {xs:List α} {v:α} (h:xs[j]?=some v):atI xs (j:Int)=some v:=by
 have hj:j<xs.length:=(Q3.mp h).1;have e:ixN xs.length (j:Int)=some j:=by
  unfold ixN;rw[if_pos (by lia),if_pos (by lia)];simp
 unfold atI;rw[e];exact h
theorem BI (xs:List α) (v:α):atI (xs++ [v]) (-1)=some v:=by
 have hl:(xs++ [v]).length=xs.length+1:=by simp
 have e:ixN (xs++ [v]).length (-1)=some xs.length:=by
  unfold ixN;rw[hl,if_neg (by decide),if_pos (by lia)];congr 1;lia
 unfold atI;rw[e];show(xs++ [v])[xs.length]?=some v;simp
def Du (b:Expr):Prop:=∀o i,subscripted b false o i=operate [o,i] (getItem o i)
def IxR (X:Cx) (r:R2):Prop:=
 ∀(value slice:Expr) (pins:List (Addr×Obj)) (s:Shared) (σ:St) (H:Hp) (x y:V) (v u:Value) (Q:VK),Inv X pins σ H s->RelV x v->RelV y u->r x y H Q->
  subscripted slice false v u=operate [v,u] (getItem v u)->wpAny (model X.prog X.w) X.A (subscriptTail value slice v u) (EP X pins σ Q) X.xe s
def MtR (X:Cx) (id:String) (r:V->List V->Hp->VK->Prop):Prop:=
 ∀(pins:List (Addr×Obj)) (s:Shared) (σ:St) (H:Hp) (x:V) (xs:List V) (v:Value) (us:List Value) (Q:VK),Inv X pins σ H s->RelV x v->Vals xs us->r x xs H Q->
  wpAny (model X.prog X.w) X.A (call (.builtin id) (v::us)) (EP X pins σ Q) X.xe s
section
variable {a b:Expr} {ta tb:TE}
theorem aY {r:R2} (hr:IxR X r) (ha:PE X a ta) (hb:PE X b tb) (hs:Du b):PE X (.Subscript a b pos) (tOp r ta tb):=by
 intro pins s σ H Q I h;exact Subscript_ (E5 ha hb I h λv u s2 x y H2 I2 rx ry q=>hr a b pins s2 σ H2 x y v u Q I2 rx ry q (hs _ _))
def rIxL (K:PySem.W.Frag):R2:=λx y H Q=>∃p xs i v,x= .ref p/\y= .int i/\SqL K H p xs/\atI xs i=some v/\Q v H
def rIxT (K:PySem.W.Frag):R2:=λx y H Q=>∃p xs i v,x= .ref p/\y= .int i/\SqT K H p xs/\atI xs i=some v/\Q v H
theorem aT:IxR X (rIxL X.K):=by
 intro value slice pins s σ H x y v u Q I rx ry h hs;obtain⟨p,xs,i,z,rfl,rfl,hq,he,q⟩:=h;cases rx;obtain⟨t,rfl⟩:=ry;obtain⟨its,r,pl,hz⟩:=I.list hq;obtain⟨j,h1,h2,h3,h4,h5⟩:=yT he;obtain⟨w,ew,rw'⟩:=r.get h2;have hl:=r.length;have hn:=rA;have fin:EP X pins σ Q w s:=⟨z,H,I,rw',q⟩;by_cases h0:0<=i
 .have hj:i.toNat=j:=by
   rw[seqIndex_of h0 h5]at h1;exact Option.some.inj h1
  exact item_listR pl.isList h0 (by lia) (by rw[hj];simpa using ew) fin hs
 .have hj:(i+(its.toArray.size:Int)).toNat=j:=by
   rw[seqIndex_neg (by lia) h4]at h1;rw[Qc,<-hl];exact Option.some.inj h1
  exact subscriptTail_builtinR (x:=w) pl.isList.typeIs slot_list_getitem.lookup
   (wpAny_getItem_list_neg (Q:=λr s'=>r=w/\EP X pins σ Q r s') pl.isList (by lia) (by rw[Qc]<;>lia) (by lia) (by rw[hj];simpa using ew) ⟨rfl,fin⟩) hs
theorem dB:IxR X (rIxT X.K):=by
 intro value slice pins s σ H x y v u Q I rx ry h hs;obtain⟨p,xs,i,z,rfl,rfl,hq,he,q⟩:=h;cases rx;obtain⟨t,rfl⟩:=ry;obtain⟨its,r,pl,hz⟩:=I.tuple hq;obtain⟨j,h1,h2,h3,h4,h5⟩:=yT he;obtain⟨w,ew,rw'⟩:=r.get h2;have hl:=r.length;have hn:=rA;have fin:EP X pins σ Q w s:=⟨z,H,I,rw',q⟩;exact subscriptTail_builtinR (x:=w) pl.typeIs slot_tuple_getitem.lookup
  (getItem_tuple (j:=j) (Q:=λr s'=>r=w/\EP X pins σ Q r s') pl (by lia) (by lia) (by rw[Qc,<-hl];exact h1) (by simpa using ew) ⟨rfl,fin⟩) hs
theorem xu (its:List Value) (n j:Nat) (u:Value):Obj.mapSeq (·.setIfInBounds j u) {cls:= .type "list",data:= .seq its.toArray n}={cls:= .type "list",data:= .seq (its.set j u).toArray n}:=by
 simp[Obj.mapSeq]
theorem Inv.lst {pins:List (Addr×Obj)} {σ:St} {H:Hp} {s:Shared} {p:Addr} {xs:List V} (I:Inv X pins σ H s) (h:H p=some (.lst xs)):
  ∃(its:List Value) (n:Nat),Vals xs its/\s.heap.get? p=some {cls:= .type "list",data:= .seq its.toArray n}/\xs.length<=sizeLine:=by
 obtain⟨z,its,n,r,e⟩:=I.hok p _ h;exact⟨its,n,r,e,z⟩
theorem Inv.lstUpd {p:Addr} {xs ys:List V} {n':Nat} {f:Obj->Obj} (I:Inv X pins σ H s) (h:H p=some (.lst xs))
  (ho:s.heap.get? p=some {cls:= .type "list",data:= .seq its.toArray n}) (hf:f {cls:= .type "list",data:= .seq its.toArray n}={cls:= .type "list",data:= .seq its'.toArray n'}) (r:Vals ys its') (hz:ys.length<=sizeLine) (t:Nat):
  Inv X pins σ (upd H p (.lst ys)) {s with heap:=s.heap.update p f,toks:=t}:=by
 have e:(s.heap.update p f).get? p=some {cls:= .type "list",data:= .seq its'.toArray n'}:=by
  rw[Heap.get?_update_self f ho (by rw[hf]<;>rfl),hf]
 refine I.write (x:=p) (e:=p) (by rw[h];trivial) (.inl rfl) (λb u hb q=>(Heap.get?_update_other _ _ (Ne.symm hb)).trans q) ⟨_,e⟩ ?_;exact⟨hz,its',n',r,e⟩
def Fz:V->V->V->Hp->(Hp->Prop)->Prop:=λo i v H Q=>∃p xs k j,o= .ref p/\i= .int k/\H p=some (.lst xs)/\ixN xs.length k=some j/\Q (upd H p (.lst (xs.set j v)))
theorem qy:PSet X Fz:=by
 intro pins s σ H o i v ov iv u Q I ro ri rv h;obtain⟨p,xs,k,j,rfl,rfl,hp,hj,q⟩:=h;cases ro;obtain⟨t,rfl⟩:=ri;obtain⟨its,n,r,ho,hz⟩:=I.lst hp;obtain⟨h1,h2,h3,h4⟩:=yz hj;have hl:=r.length;have hn:=rA;have I':Inv X pins σ (upd H p (.lst (xs.set j v))) {s with heap:=s.heap.update p (Obj.mapSeq (·.setIfInBounds j u))}:=
  I.lstUpd hp ho (xu its n j u) (r.set rv j) (by rw[QF];exact hz) s.toks
 by_cases h0:0<=k
 .have hk:k.toNat=j:=by
   rw[seqIndex_of h0 h4]at h1;exact Option.some.inj h1
  exact PySem.W.ki_setAt ho h0 (by lia) (by rw[Qc,<-hl];exact h4) (by rw[hk];exact⟨_,I',q⟩)
 .have hk:(k+(its.toArray.size:Int)).toNat=j:=by
   rw[seqIndex_neg (by lia) h3]at h1;rw[Qc,<-hl];exact Option.some.inj h1
  exact PySem.W.ki_setBack ho (by lia) (by rw[Qc,<-hl];exact h3) (by lia) (by rw[hk];exact⟨_,I',q⟩)
theorem uo (lo hi:Option Int) (n:Nat):(sliceBounds lo hi none n).1=((HT.sIx n 0 lo:Nat):Int)/\(sliceBounds lo hi none n).2.1=((HT.sIx n n hi:Nat):Int)/\(sliceBounds lo hi none n).2.2=1:=by
 refine⟨?_,?_,rfl⟩
 .cases lo with
  |none=>simp[sliceBounds,HT.sIx]
  |some i=>
   simp only[sliceBounds,HT.sIx,Option.getD_none,show(1:Int)>0 by decide,if_true];by_cases h:i<0
   .simp only[h,if_true]<;>lia
   .simp only[h,if_false]<;>lia
 .cases hi with
  |none=>simp[sliceBounds,HT.sIx]
  |some i=>
   simp only[sliceBounds,HT.sIx,Option.getD_none,show(1:Int)>0 by decide,if_true];by_cases h:i<0
   .simp only[h,if_true]<;>lia
   .simp only[h,if_false]<;>lia
theorem sr (its:List Value) (lo hi:Option Int):slicePick its.toArray lo hi none=((its.drop (HT.sIx its.length 0 lo)).take (HT.sIx its.length its.length hi-HT.sIx its.length 0 lo)).toArray:=by
 obtain⟨h1,h2,h3⟩:=uo lo hi its.toArray.size;unfold slicePick;rw[h1,h2,h3];simp only[sliceRange_one,pick_run,Qc]<;>rfl
def rSlL (K:PySem.W.Frag):V->Option Int->Option Int->Hp->VK->Prop:=λx lo hi H Q=>∃a xs,x= .ref a/\SqL K H a xs/\∀p,H p=none->Q (.ref p) (upd H p (.lst (iI xs lo hi)))
theorem eS:SlR X (rSlL X.K):=by
 intro pins s σ H x v vl vu lo hi sl Q I rx hs pl pu h;obtain⟨a,xs,rfl,hx,q⟩:=h;cases rx;obtain⟨its,r,ht,hz⟩:=I.list hx;have hlen:=r.length;refine⟨"list",_,slot_list_getitem.lookup,ht.isList.typeIs,?_⟩;refine wpAny_getItem_list_slice ht.isList hs pl pu .none (by simp) ?_ (by rw[Qc]<;>lia);rw[sr,<-hlen];refine⟨.ref s.heap.objs.size,_,I.laid (t':=s.toks) (o:= .lst (iI xs lo hi)) (λb ob q=>Heap.get?_push_of_some _ q) (Q5 _) ?_,rfl,q _ (I.hok.fresh (Q5 _))⟩;exact⟨QL (wx xs lo hi) hz,_,0,(r.drop (HT.sIx xs.length 0 lo)).take (HT.sIx xs.length xs.length hi-HT.sIx xs.length 0 lo),Heap.get?_push_size _ rfl⟩
def kQ:V->Bool
 | .non=>true
 | .bl _=>true
 | .int _=>true
 | .str _=>true
 |_=>false
def eqV:V->V->Bool
 | .non,.non=>true
 | .bl a,.bl b=>a==b
 | .bl a,.int b=>(if a then 1 else 0)==b
 | .int a,.bl b=>a==(if b then 1 else 0)
 | .int a,.int b=>a==b
 | .str a,.str b=>a==b
 |_,_=>false
theorem EZ {v:Value} (ry:RelV y u) (rx:RelV x v) (fy:kQ y=true) (fx:kQ x=true):SeqAt.EqAt A s u v (eqV y x):=by
 cases y with
 |non=>
  cases ry;cases x with
  |non=>cases rx;exact SeqAt.EqAt.same _
  |bl b=>cases rx;exact SeqAt.EqAt.none_bool b
  |int b=>obtain⟨t,rfl⟩:=rx;exact SeqAt.EqAt.none_int b t
  |str b=>obtain⟨t,rfl⟩:=rx;exact SeqAt.EqAt.none_str b t
  |_=>exact absurd (show false=true from fx) Q7
 |bl a=>
  cases ry;cases x with
  |non=>cases rx;exact SeqAt.EqAt.bool_none a
  |bl b=>cases rx;exact SeqAt.EqAt.bool_bool a b
  |int b=>obtain⟨t,rfl⟩:=rx;exact SeqAt.EqAt.bool_int a b t
  |str b=>obtain⟨t,rfl⟩:=rx;exact SeqAt.EqAt.bool_str a b t
  |_=>exact absurd (show false=true from fx) Q7
 |int a=>
  obtain⟨t',rfl⟩:=ry;cases x with
  |non=>cases rx;exact SeqAt.EqAt.int_none a t'
  |bl b=>cases rx;exact SeqAt.EqAt.int_bool a t' b
  |int b=>obtain⟨t,rfl⟩:=rx;exact SeqAt.EqAt.int_int a t' b t
  |str b=>obtain⟨t,rfl⟩:=rx;exact SeqAt.EqAt.int_str a t' b t
  |_=>exact absurd (show false=true from fx) Q7
 |str a=>
  obtain⟨t',rfl⟩:=ry;cases x with
  |non=>cases rx;exact SeqAt.EqAt.str_none a t'
  |bl b=>cases rx;exact SeqAt.EqAt.str_bool a t' b
  |int b=>obtain⟨t,rfl⟩:=rx;exact SeqAt.EqAt.str_int a t' b t
  |str b=>obtain⟨t,rfl⟩:=rx;exact SeqAt.EqAt.str_str a t' b t
  |_=>exact absurd (show false=true from fx) Q7
 |_=>exact absurd (show false=true from fy) Q7
def eqU (x:V) (u:Value):Bool:=match u with
 | .none=>eqV .non x
 | .bool b=>eqV (.bl b) x
 | .int i _=>eqV (.int i) x
 | .str z _=>eqV (.str z) x
 |_=>false
theorem Bx (r:RelV y u) (f:kQ y=true):eqU x u=eqV y x:=by
 cases y with
 |non=>cases r;rfl
 |bl b=>cases r;rfl
 |int i=>obtain⟨t,rfl⟩:=r;rfl
 |str z=>obtain⟨t,rfl⟩:=r;rfl
 |_=>exact absurd (show false=true from f) Q7
theorem vg {x:V}:∀{xs:List V} {us:List Value},Vals xs us->xs.all kQ=true->us.any (eqU x)=xs.any λy=>eqV y x
 |_,_,.nil,_=>rfl
 |y::xs,u::us,.cons r t,f=>by
  rw[List.all_cons,ZW]at f;rw[ZY,ZY,Bx r f.1,vg t f.2]
theorem rl {A:Around} {s:Shared} {x:V} {v:Value} (rx:RelV x v) (fx:kQ x=true):∀{xs:List V} {us:List Value},Vals xs us->xs.all kQ=true->∀u∈us,SeqAt.EqAt A s u v (eqU x u)
 |_,_,.nil,_=>λu hu=>by cases hu
 |y::xs,u::us,.cons r t,f=>λu' hu=>by
  rw[List.all_cons,ZW]at f;rcases Qj.mp hu with rfl|hu
  .rw[Bx r f.1];exact EZ r rx f.1 fx
  .exact rl rx fx t f.2 u' hu
def inV (x:V) (xs:List V):Bool:=xs.any λy=>eqV y x
def rIn (K:PySem.W.Frag) (neg:Bool):R2:=λx y H Q=>∃p xs,y= .ref p/\(SqL K H p xs\/SqT K H p xs)/\kQ x=true/\xs.all kQ=true/\Q (.bl (if neg then !inV x xs else inV x xs)) H
theorem tz:OpR X (compareOp .In) (rIn X.K false):=by
 intro pins s σ H x y v u Q I rx ry h;obtain⟨p,xs,rfl,hq,fx,fs,q⟩:=h;cases ry;rcases hq with hq|hq
 .obtain⟨its,r,pl,hz⟩:=I.list hq;refine SeqAt.in_listAt (eqU x) pl.isList (λw hw=>rl rx fx r fs w (by simpa using hw)) ⟨.bl _,H,I,rfl,?_⟩;rw[show its.toArray.any (eqU x)=its.any (eqU x) by simp,vg r fs];exact q
 .obtain⟨its,r,pl,hz⟩:=I.tuple hq;refine SeqAt.in_tupleAt (eqU x) pl (λw hw=>rl rx fx r fs w (by simpa using hw)) ⟨.bl _,H,I,rfl,?_⟩;rw[show its.toArray.any (eqU x)=its.any (eqU x) by simp,vg r fs];exact q
theorem aq:iM X (.builtin "len") (λxs H Q=>∃p ys,xs=[.ref p]/\(SqL X.K H p ys\/SqT X.K H p ys)/\Q (.int ys.length) H):=by
 intro pins s σ H xs us Q I r h;obtain⟨p,ys,rfl,hq,q⟩:=h;obtain⟨u,rfl,rx⟩:=oR r;cases rx;have hn:=rA;rcases hq with hq|hq
 .obtain⟨its,r',pl,hz⟩:=I.list hq;have hlen:=r'.length;exact Calls.call_len_list pl.isList (by simp only[Qc]<;>lia) ⟨.int ys.length,H,I.tok _,⟨s.toks+1,by rw[Qc,hlen]⟩,q⟩
 .obtain⟨its,r',pl,hz⟩:=I.tuple hq;have hlen:=r'.length;exact len_tuple pl (by simp only[Qc]<;>lia) ⟨.int ys.length,H,I.tok _,⟨s.toks+1,by rw[Qc,hlen]⟩,q⟩
def tyV (K:PySem.W.Frag) (T:String) (x:V) (H:Hp):Prop:=match x with
 | .str _=>T="str"
 | .int _=>T="int"
 | .ref p=>(T="list"/\∃xs,SqL K H p xs)\/(T="tuple"/\∃o,K.lookup p=some o/\o.cls= .type "tuple"/\o.dict=none)\/
   (T="dict"/\((∃kvs,H p=some (.dK kvs))\/∃kvs,H p=some (.dT kvs)))\/(T="set"/\∃S n,H p=some (.set S n))
 |_=>False
theorem Aj {v:Value} (I:Inv X pins σ H s) (r:RelV x v) (ty:tyV X.K T x H):
  s.TypeIs v T/\∀a,v= .ref a->∃ob,s.heap.get? a=some ob/\ob.dict=none:=by
 cases x with
 |str z=>
  obtain⟨t,rfl⟩:=r;cases (show T="str" from ty);exact⟨typeIs_str s z t,λ_ e=>nomatch e⟩
 |int i=>
  obtain⟨t,rfl⟩:=r;cases (show T="int" from ty);exact⟨typeIs_int s i t,λ_ e=>nomatch e⟩
 |ref p=>
  cases r;rcases ty with⟨rfl,xs,hq⟩|⟨rfl,o,hk,hc,hd⟩|⟨rfl,hk⟩|⟨rfl,S,n,hk⟩
  .obtain⟨its,_,pl,_⟩:=I.list hq;refine⟨pl.isList.typeIs,λa e=>?_⟩;cases e;obtain⟨o,n,e,c,hd,_⟩:=pl;exact⟨o,e,hd⟩
  .refine⟨⟨o,I.kIn p o hk,hc⟩,λa e=>?_⟩;cases e;exact⟨o,I.kIn _ o hk,hd⟩
  .have z:∃o,s.heap.get? p=some o/\o.ExactDict:=by
    rcases hk with⟨kvs,hk⟩|⟨kvs,hk⟩
    .obtain⟨_,_,_,_,o,_,_,e,ex,_⟩:=I.hok p _ hk;exact⟨o,e,ex⟩
    .obtain⟨_,_,_,_,o,_,_,e,ex,_⟩:=I.hok p _ hk;exact⟨o,e,ex⟩
   obtain⟨o,e,ex⟩:=z;refine⟨⟨o,e,ex.1⟩,λa e2=>?_⟩;cases e2;exact⟨o,e,ex.2.1⟩
  .obtain⟨o,_,_,_,e,ex,_⟩:=I.hok p _ hk;refine⟨⟨o,e,ex.1⟩,λa e2=>?_⟩;cases e2;exact⟨o,e,ex.2.1⟩
 |_=>exact False.elim ty
def tBM0 (K:PySem.W.Frag) (T:String) (r:V->List V->Hp->VK->Prop) (to:TE):TE:=λσ H Q=>to σ H λx H1=>tyV K T x H1/\r x [] H1 Q
def tBM (K:PySem.W.Frag) (T:String) (r:V->List V->Hp->VK->Prop) (to:TE) (t:TA):TE:=λσ H Q=>to σ H λx H1=>tyV K T x H1/\t σ H1 λxs H2=>r x xs H2 Q
variable {o:Expr} {es:List Expr} {to:TE} {t:TA} {name:Str} {apos cpos:Pos} {id:String} {r:V->List V->Hp->VK->Prop}
theorem qQ (pa:PlainAttrs T) (slot:Slot T name id) (hty:typeOf (.builtin id)=pure (.type "method_descriptor")) (hm:MtR X id r) (ho:PE X o to)
  (hbase:attributeBase o name X.env (eval o X.env)=eval o X.env:=by rfl) (hline:(apos.endLine==cpos.line)=true:=by rfl):PE X (.Call (.Attribute o name apos) [] [] cpos) (tBM0 X.K T r to):=by
 intro pins s σ H Q I h;refine wpAny_Call_method0_late hbase hline (thn (ho pins s σ H _ I h) λv s1 hzz=>?_);obtain⟨x,H1,I1,r1,ty,q1⟩:=hzz;obtain⟨h1,h2⟩:=Aj I1 r1 ty;exact⟨T,id,pa,slot,hty,h1,h2,Calls.callWith_builtin rfl (PySem.evalArgs_none (hm pins s1 σ H1 x [] v [] Q I1 r1 .nil q1))⟩
theorem dU (pa:PlainAttrs T) (slot:Slot T name id) (hty:typeOf (.builtin id)=pure (.type "method_descriptor")) (hm:MtR X id r) (ho:PE X o to) (ha:PA X (e::es) t)
  (hbase:attributeBase o name X.env (eval o X.env)=eval o X.env:=by rfl)
  (hfew:((backTo cpos (starEach (e::es) X.env)).all (λx=>!x.1)&&(backToKw cpos (keywordEach [] X.env)).all (λx=>x.1.isSome)
   &&decide ((e::es).length+([]:List Keyword).length+(if([]:List Keyword).isEmpty then 0 else 1)<30))=true:=by rfl)
  (hline:(apos.endLine==cpos.line)=true:=by rfl) (hs:starEach (e::es) X.env=(false,eval e X.env)::starEach es X.env:=by rfl) (hplain:(backTo cpos (starEach es X.env)).any (·.1)=false:=by rfl):
  PE X (.Call (.Attribute o name apos) (e::es) [] cpos) (tBM X.K T r to t):=by
 intro pins s σ H Q I h;refine wpAny_Call_method_late hbase hfew hline rfl (thn (ho pins s σ H _ I h) λv s1 hzz=>?_);obtain⟨x,H1,I1,r1,ty,q1⟩:=hzz;obtain⟨h1,h2⟩:=Aj I1 r1 ty;refine⟨T,id,pa,slot,hty,h1,h2,?_⟩;have hA:=ha cpos pins s1 σ H1 _ I1 q1;rw[hs]at hA⊢;refine Calls.callWith_builtin (by show(false||(backTo cpos (starEach es X.env)).any (·.1))=false;rw[hplain]<;>rfl) (Calls.evalArgs_plain ?_);exact thn hA λus s2 ⟨vs,H2,I2,r2,q2⟩=>hm pins s2 σ H2 x vs v us Q I2 r1 r2 q2
end
end
section
def MtM (X:Cx) (id:String) (r:V->List V->Hp->VK->Prop):Prop:=
 ∀(pins:List (Addr×Obj)) (s:Shared) (σ:St) (H:Hp) (x:V) (xs:List V) (v:Value) (us:List Value) (Q:VK),Inv X pins σ H s->RelV x v->Vals xs us->r x xs H Q->
  wpAny (model X.prog X.w) X.A (call (.builtin id) (v::us)) (EP X pins σ Q) X.xe s
theorem Vals.one:∀{x:V} {us:List Value},Vals [x] us->∃u,us=[u]/\RelV x u
 |_,_,.cons r .nil=>⟨_,rfl,r⟩
theorem Vals.two:∀{x y:V} {us:List Value},Vals [x,y] us->∃u v,us=[u,v]/\RelV x u/\RelV y v
 |_,_,_,.cons r (.cons q .nil)=>⟨_,_,rfl,r,q⟩
theorem Vals.eraseIdx:∀{xs:List V} {us:List Value} (i:Nat),Vals xs us->Vals (xs.eraseIdx i) (us.eraseIdx i)
 |_,_,_,.nil=> .nil
 |_,_,0,.cons _ t=>t
 |_,_,i+1,.cons r t=> .cons r (Vals.eraseIdx i t)
theorem oy {α:Type}:∀(l:List α) (i:Nat),(l.eraseIdx i).length<=l.length
 | [],_=>Q5 _
 |_::_,0=>ZE _
 |_::r,i+1=>Nat.succ_le_succ (oy r i)
section
variable {l:Addr} {xs ys zs:List V}
theorem Inv.lset {f:Array Value->Array Value} (I:Inv X pins σ H s) (hH:H l=some (.lst xs))
  (e:s.heap.get? l=some {cls:= .type "list",data:= .seq its.toArray n}) (hf:f its.toArray=its'.toArray) (hv:Vals ys its') (hz:ys.length<=sizeLine):
  Inv X pins σ (upd H l (.lst ys)) {s with heap:=s.heap.update l (Obj.mapSeq f),toks:=t'}:=by
 have q:=PySem.IsL.update e f;rw[hf]at q;refine I.write (x:=l) (e:=l) (by rw[hH];exact trivial) (.inl rfl) (λb' u hb hu=>(Heap.get?_update_other s.heap (Obj.mapSeq f) (Ne.symm hb)).trans hu) ⟨_,q⟩ ?_;exact⟨hz,its',_,hv,q⟩
theorem Inv.lnew (I:Inv X pins σ H s) (hv:Vals ys its) (hz:ys.length<=sizeLine):
  Inv X pins σ (upd H s.heap.objs.size (.lst ys)) {s with heap:=s.heap.push {cls:= .type "list",data:= .seq its.toArray},toks:=t'}:=
 I.laid (λ_ _ q=>Heap.get?_push_of_some _ q) (Q5 _) ⟨hz,its,0,hv,Heap.get?_push_size _ rfl⟩
theorem Inv.fresh (I:Inv X pins σ H s):H s.heap.objs.size=none:=I.hok.fresh (Q5 _)
theorem Inv.lstM (I:Inv X pins σ H s) (hH:H l=some (.lst xs)):xs.length<=sizeLine/\∃(its:List Value) (n:Nat),Vals xs its/\xs.length=its.length/\s.heap.get? l=some {cls:= .type "list",data:= .seq its.toArray n}:=by
 obtain⟨z,its,n,r,e⟩:=I.hok l _ hH;exact⟨z,its,n,r,r.length,e⟩
theorem AK (h:n<=sizeLine):Builtin.List.listTooLong n=false:=by
 unfold Builtin.List.listTooLong;exact decide_eq_false (by lia)
end
section
def CI:V->List V->Hp->VK->Prop:=λx vs H Q=>∃l xs y,x= .ref l/\vs=[y]/\H l=some (.lst xs)/\xs.length<sizeLine/\Q .non (upd H l (.lst (xs++ [y])))
theorem eL:MtM X "list.append" CI:=by
 intro pins s σ H x vs v us Q I rx rv h;obtain⟨l,xs,y,rfl,rfl,hH,hz,q⟩:=h;cases rx;obtain⟨u,rfl,ru⟩:=rv.one;obtain⟨z,its,n,r,hl,e⟩:=I.lstM hH;refine call_meets F.slot_list_append ⟨_,e,rfl⟩ F.entry_list_append (F.args_list_append_2 _ _) (PySem.list_append l its.toArray n u (by rw[Qc];lia)) ⟨e,?_⟩;refine⟨.non,_,I.lset (its':=its++ [u]) hH e (by simp) (r.append (.cons ru .nil)) ?_,rfl,q⟩;rw[Q9,Qz];lia
def CH:V->List V->Hp->VK->Prop:=λx vs H Q=>∃l b xs zs,x= .ref l/\vs=[.ref b]/\H l=some (.lst xs)/\H b=some (.lst zs)/\xs.length+zs.length<=sizeLine/\Q .non (upd H l (.lst (xs++zs)))
theorem tF:MtM X "list.extend" CH:=by
 intro pins s σ H x vs v us Q I rx rv h;obtain⟨l,b,xs,zs,rfl,rfl,hH,hB,hz,q⟩:=h;cases rx;obtain⟨u,rfl,ru⟩:=rv.one;cases ru;obtain⟨z,its,n,r,hl,e⟩:=I.lstM hH;obtain⟨z2,its2,n2,r2,hl2,e2⟩:=I.lstM hB;have hsz:its.toArray.size+its2.toArray.size<=sizeLine:=by rw[Qc,Qc];lia
 have hlong:¬(!its.toArray.isEmpty&&Builtin.List.listTooLong (its.toArray.size+its2.toArray.size))=true:=by
  rw[AK hsz,K0];exact Q7
 refine call_meets F.slot_list_extend ⟨_,e,rfl⟩ F.entry_list_extend (F.args_list_extend_2 _ _)
  (AutoSeq1.list_extend_list_list_0 l its.toArray n b its2.toArray n2 hlong (by rw[Qc];lia) (by lia)) ⟨e,e2,?_⟩
 refine⟨.non,_,I.lset (its':=its++its2) hH e (by simp) (r.append r2) ?_,rfl,q⟩;rw[Q9];lia
def Ek:V->List V->Hp->VK->Prop:=λx vs H Q=>∃l xs i k y,x= .ref l/\vs=[.int i]/\H l=some (.lst xs)/\-(2^63)<=i/\i<2^63/\seqIndex? i xs.length=some k/\xs[k]?=some y/\Q y (upd H l (.lst (xs.eraseIdx k)))
theorem vV:MtM X "list.pop" Ek:=by
 intro pins s σ H x vs v us Q I rx rv h;obtain⟨l,xs,i,k,y,rfl,rfl,hH,h1,h2,hk,hy,q⟩:=h;cases rx;obtain⟨u,rfl,ru⟩:=rv.one;obtain⟨t,rfl⟩:=ru;obtain⟨z,its,n,r,hl,e⟩:=I.lstM hH;obtain⟨w,hw,rw'⟩:=r.get hy;refine call_meets F.slot_list_pop ⟨_,e,rfl⟩ F.entry_list_pop (F.args_list_pop_2 _ _)
  (MeetsSeq.list_pop_at l its.toArray n i t k w (fitsIndex_both h1 h2) (by rw[Qc,<-hl];exact hk) (by rw[<-Qx];exact hw) (by rw[Qc];lia)) ⟨e,?_⟩
 refine⟨y,_,I.lset (its':=its.eraseIdx k) hH e ?_ (r.eraseIdx k) ?_,rw',q⟩
 .show its.toArray.eraseIdxIfInBounds k=(its.eraseIdx k).toArray;rw[XU]
 .have:=oy xs k;lia
def rCat:R2:=λx y H Q=>∃l b xs zs,x= .ref l/\y= .ref b/\H l=some (.lst xs)/\H b=some (.lst zs)/\xs.length+zs.length<=sizeLine/\∀p,H p=none->Q (.ref p) (upd H p (.lst (xs++zs)))
theorem xm:OpR X (binaryOp .Add) rCat:=by
 intro pins s σ H x y v u Q I rx ry h;obtain⟨l,b,xs,zs,rfl,rfl,hH,hB,hz,q⟩:=h;cases rx;cases ry;obtain⟨z,its,n,r,hl,e⟩:=I.lstM hH;obtain⟨z2,its2,n2,r2,hl2,e2⟩:=I.lstM hB;refine PySem.P.add_list e e2 ?_ (by rw[Qc,Qc];lia);have ea:its.toArray++its2.toArray=(its++its2).toArray:=by simp
 rw[ea];exact⟨.ref _,_,I.lnew (t':=s.toks) (r.append r2) (by rw[Q9];lia),rfl,q _ I.fresh⟩
end
end
section
section
variable {κ:Type} [DecidableEq κ]
def aK (kvs:List (κ×V)) (k:κ):Option V:=(kvs.find? λkv=>decide (kv.1=k)).map (·.2)
def aW (kvs:List (κ×V)) (k:κ) (v:V):List (κ×V):=
 if(kvs.any λkv=>decide (kv.1=k))=true then kvs.map (λkv=>if kv.1=k then(kv.1,v)else kv)else kvs++ [(k,v)]
def bi (kvs:List (κ×V)) (k:κ):List (κ×V):=kvs.filter λkv=>decide (kv.1≠k)
theorem iy {k:κ}:aK ([]:List (κ×V)) k=none:=rfl
theorem a8 {p:κ×V} {r:List (κ×V)} {k:κ} (e:p.1=k):aK (p::r) k=some p.2:=by simp[aK,Zv,e]
theorem aZ {p:κ×V} {r:List (κ×V)} {k:κ} (e:¬p.1=k):aK (p::r) k=aK r k:=by simp[aK,Zv,e]
theorem cn (k:κ):∀kvs:List (κ×V),(kvs.any λkv=>decide (kv.1=k))=(aK kvs k).isSome
 | []=>rfl
 |p::r=>by
  rw[ZY];by_cases e:p.1=k
  .simp only[a8 e,decide_eq_true e,Bool.true_or,Option.isSome_some]
  .rw[aZ e,decide_eq_false e,Bool.false_or];exact cn k r
theorem vx (k j:κ) (y:V):∀kvs:List (κ×V),aK (kvs.map λkv=>if kv.1=k then(kv.1,y)else kv) j=(aK kvs j).map λx=>if j=k then y else x
 | []=>rfl
 |p::r=>by
  have ih:=vx k j y r;rw[Qu];by_cases h:p.1=k
  .rw[if_pos h];by_cases e:p.1=j
   .rw[a8 (p:=(p.1,y)) e,a8 e,Xl,if_pos (e.symm.trans h)]
   .rw[aZ (p:=(p.1,y)) e,aZ e,ih]
  .rw[if_neg h];by_cases e:p.1=j
   .rw[a8 (p:=p) e,a8 e,Xl,if_neg (λz=>h (e.trans z))]
   .rw[aZ (p:=p) e,aZ e,ih]
theorem sV (k j:κ) (y:V):∀kvs:List (κ×V),aK kvs k=none->aK (kvs++ [(k,y)]) j=if j=k then some y else aK kvs j
 | [],_=>by
  by_cases e:k=j
  .rw[if_pos e.symm];exact a8 (p:=(k,y)) e
  .rw[if_neg (λz=>e z.symm)];exact aZ (p:=(k,y)) e
 |p::r,hn=>by
  rw[Xb];have hk:¬p.1=k:=λz=>by rw[a8 z]at hn;cases hn
  rw[aZ hk]at hn;have ih:=sV k j y r hn;by_cases e:p.1=j
  .rw[a8 e,a8 e,if_neg (λz=>hk (e.trans z))]
  .rw[aZ e,aZ e,ih]
theorem cj (kvs:List (κ×V)) (k j:κ) (y:V):aK (aW kvs k y) j=if j=k then some y else aK kvs j:=by
 unfold aW;by_cases a:(kvs.any λkv=>decide (kv.1=k))=true
 .rw[if_pos a,vx];rw[cn]at a;by_cases e:j=k
  .obtain⟨x,hx⟩:=ZM.mp a;rw[if_pos e,e,hx,Xl,if_pos rfl]
  .rw[if_neg e];cases aK kvs j with
   |none=>rfl
   |some x=>rw[Xl,if_neg e]
 .rw[if_neg a];refine sV k j y kvs ?_;rw[cn]at a;cases q:aK kvs k with
  |none=>rfl
  |some x=>rw[q]at a;exact(a rfl).elim
theorem dH (kvs:List (κ×V)) (k:κ) (v:V):(aW kvs k v).length<=kvs.length+1:=by
 unfold aW;split
 .rw[Q0];lia
 .rw[Q9,Qf,X1];lia
theorem Az {kvs:List (κ×V)} {k:κ} (v:V) (h:aK kvs k=none):aW kvs k v=kvs++ [(k,v)]:=by
 unfold aW;rw[cn,h];exact if_neg (by decide)
theorem RelO.isSome_eq {u:Option Value} (r:RelO o u):o.isSome=u.isSome:=by
 cases o with
 |none=>cases u with
  |none=>rfl
  |some _=>exact(show False from r).elim
 |some _=>cases u with
  |none=>exact(show False from r).elim
  |some _=>rfl
theorem RelO.getD {u:Option Value} {d:V} {d':Value} (r:RelO o u) (rd:RelV d d'):RelV (o.getD d) (u.getD d'):=by
 cases o with
 |none=>cases u with
  |none=>exact rd
  |some _=>exact(show False from r).elim
 |some _=>cases u with
  |none=>exact(show False from r).elim
  |some _=>exact r
theorem KV.val {kvs:List (κ×V)} {vs:List (κ×Value)} (r:KV kvs vs) (k:κ):RelO (aK kvs k) (valueAt vs k):=by
 unfold KV at r
 induction r with
 |nil=>exact True.intro
 | @cons p q ps qs h t ih=>
  obtain⟨h1,h2⟩:=h;by_cases e:p.1=k
  .have e':q.1=k:=h1.symm.trans e;have b:valueAt (q::qs) k=some q.2:=by simp[valueAt,Zv,e']
   rw[a8 e,b];exact h2
  .have e':¬q.1=k:=λz=>e (h1.trans z);have b:valueAt (q::qs) k=valueAt qs k:=by simp[valueAt,Zv,e']
   rw[aZ e,b];exact ih
theorem KV.any {kvs:List (κ×V)} {vs:List (κ×Value)} (r:KV kvs vs) (k:κ):(kvs.any λkv=>decide (kv.1=k))=vs.any λkv=>decide (kv.1=k):=by
 unfold KV at r
 induction r with
 |nil=>rfl
 |cons h t ih=>rw[ZY,ZY,ih,h.1]
theorem KV.repl {kvs:List (κ×V)} {vs:List (κ×Value)} (r:KV kvs vs) (k:κ) (ry:RelV y u):
  KV (kvs.map λkv=>if kv.1=k then(kv.1,y)else kv) (vs.map λkv=>if kv.1=k then(kv.1,u)else kv):=by
 unfold KV at r⊢
 induction r with
 |nil=>exact .nil
 | @cons p q ps qs h t ih=>
  rw[Qu,Qu];refine .cons ?_ ih;obtain⟨h1,h2⟩:=h;by_cases e:p.1=k
  .rw[if_pos e,if_pos (h1.symm.trans e)];exact⟨h1,ry⟩
  .rw[if_neg e,if_neg (λz=>e (h1.trans z))];exact⟨h1,h2⟩
theorem KV.put {kvs:List (κ×V)} {vs:List (κ×Value)} (r:KV kvs vs) (k:κ) (ry:RelV y u):KV (aW kvs k y) (stored vs k u):=by
 unfold aW stored;rw[r.any k];by_cases e:(vs.any λkv=>decide (kv.1=k))=true
 .rw[if_pos e,if_pos e];exact r.repl k ry
 .rw[if_neg e,if_neg e];exact Paired.snoc r ⟨rfl,ry⟩
theorem KV.drop {kvs:List (κ×V)} {vs:List (κ×Value)} (r:KV kvs vs) (k:κ):KV (bi kvs k) (without vs k):=by
 unfold KV at r⊢;unfold bi without
 induction r with
 |nil=>exact .nil
 | @cons p q ps qs h t ih=>
  obtain⟨h1,h2⟩:=h;rw[QN,QN];by_cases e:p.1=k
  .have a:¬decide (p.1≠k)=true:=by simp[e]
   have b:¬decide (q.1≠k)=true:=by simp[h1.symm.trans e]
   rw[if_neg a,if_neg b];exact ih
  .have e':¬q.1=k:=λz=>e (h1.trans z);have a:decide (p.1≠k)=true:=by simp[e]
   have b:decide (q.1≠k)=true:=by simp[e']
   rw[if_pos a,if_pos b];exact .cons ⟨h1,h2⟩ ih
theorem KV.length {kvs:List (κ×V)} {vs:List (κ×Value)} (r:KV kvs vs):kvs.length=vs.length:=Paired.length r
theorem By (kvs:List (κ×V)) (k:κ):(bi kvs k).length<=kvs.length:=Ql _ _
end
theorem pc {k:Key} (r:RelV (kV k) u):(aU P w).is k u=true:=by
 cases k with
 |inl i=>obtain⟨t,e⟩:=(show ∃t,u=Value.int i t from r);subst e;exact v7 P w i t
 |inr x=>obtain⟨t,e⟩:=(show ∃t,u=Value.str x t from r);subst e;exact v6 P w x t
theorem tJ {P:Program} {w:World}:∀{ks:List Key} {us:List Value},Vals (ks.map kV) us->ItemsAre (aU P w) ks us
 | [],_,r=>by rw[List.map_nil]at r;cases r;exact .nil
 |k::ks,_,r=>by
  rw[Qu]at r;cases r with
  |cons h t=>exact .cons (pc h) (tJ t)
abbrev KT (H:Hp):List (List Key×V)->List (List Key×Addr×Value)->Prop:=Paired λp q=>p.1=q.1/\H q.2.1=some (.tup (p.1.map kV))/\RelV p.2 q.2.2
theorem KT.val {kvs:List (List Key×V)} {xs:List (List Key×Addr×Value)} (r:KT H kvs xs) (k:List Key):RelO (aK kvs k) ((atKey xs k).map (·.2)):=by
 induction r with
 |nil=>exact True.intro
 | @cons p q ps qs h t ih=>
  obtain⟨h1,_,h2⟩:=h;by_cases e:p.1=k
  .have e':q.1=k:=h1.symm.trans e;have b:atKey (q::qs) k=some q.2:=by simp[atKey,Zv,e']
   rw[a8 e,b];exact h2
  .have e':¬q.1=k:=λz=>e (h1.trans z);have b:atKey (q::qs) k=atKey qs k:=by simp[atKey,Zv,e']
   rw[aZ e,b];exact ih
theorem KT.repl {kvs:List (List Key×V)} {xs:List (List Key×Addr×Value)} (r:KT H kvs xs) (k:List Key) (ry:RelV y u):
  KT H (kvs.map λkv=>if kv.1=k then(kv.1,y)else kv) (xs.map (putAt k u)):=by
 induction r with
 |nil=>exact .nil
 | @cons p q ps qs h t ih=>
  rw[Qu,Qu];refine .cons ?_ ih;obtain⟨h1,h2,h3⟩:=h;unfold putAt;by_cases e:p.1=k
  .rw[if_pos e,if_pos (h1.symm.trans e)];exact⟨h1,h2,ry⟩
  .rw[if_neg e,if_neg (λz=>e (h1.trans z))];exact⟨h1,h2,h3⟩
theorem KT.put {kvs:List (List Key×V)} {xs:List (List Key×Addr×Value)} (r:KT H kvs xs) (k:List Key) (hb:H b=some (.tup (k.map kV))) (ry:RelV y u):
  KT H (aW kvs k y) (storedH xs k b u):=by
 have e:(kvs.any λkv=>decide (kv.1=k))=(atKey xs k).isSome:=by
  rw[cn,(r.val k).isSome_eq,XJ]
 unfold aW storedH;rw[e];by_cases q:(atKey xs k).isSome=true
 .rw[if_pos q,if_pos q];exact r.repl k ry
 .rw[if_neg q,if_neg q];exact Paired.snoc r ⟨rfl,hb,ry⟩
theorem KT.keeps {kvs:List (List Key×V)} {xs:List (List Key×Addr×Value)} (r:KT H kvs xs) (ht:∀b ys,H b=some (.tup ys)->H' b=some (.tup ys)):KT H' kvs xs:=
 Paired.mapP r λ_ _ z=>⟨z.1,ht _ _ z.2.1,z.2.2⟩
section
variable {h:Heap}
theorem DM {u:HO} (ok:HOk P w H h) (e:Rd H a u):ObjOk P w H h a u:=e.ok ok
theorem pd (ok:HOk P w H h) (e:Rd H a (.dK kvs)):kvs.length<=sizeLine/\(a==sysModules)=false/\∃vs,KV kvs vs/\h.DictOf (aU P w) a vs:=
 show ObjOk P w H h a (.dK kvs) from DM ok e
theorem jm (ok:HOk P w H h) (e:H a=some (.dK kvs)):kvs.length<=sizeLine/\(a==sysModules)=false/\∃vs,KV kvs vs/\h.DictOf (aU P w) a vs:=pd ok (.inl e)
theorem oC {ks:List Key} (ok:HOk P w H h) (e:H a=some (.tup (ks.map kV))):(tupleKind (aU P w)).is h ks a:=by
 obtain⟨_,its,r,o,h1,h2,n,h3⟩:=(show ObjOk P w H h a (.tup (ks.map kV)) from ok a _ e);exact⟨o,its.toArray,n,h1,h2,h3,by simpa using tJ r⟩
theorem tS {kvs:List (List Key×V)} (ok:HOk P w H h) (e:Rd H a (.dT kvs)):kvs.length<=sizeLine/\(a==sysModules)=false/\
  ∃xs,KT H kvs xs/\h.DictOfH (tupleKind (aU P w)) a xs:=by
 obtain⟨z,y,xs,r,o,es,ep,h1,h2,h3,h4,h5⟩:=(show ObjOk P w H h a (.dT kvs) from DM ok e);refine⟨z,y,xs,r,o,es,ep,h1,h2,h3,h4,λx hx=>?_,h5⟩;have all:∀{l:List (List Key×V)} {m:List (List Key×Addr×Value)},KT H l m->∀x∈m,(tupleKind (aU P w)).is h x.1 x.2.1:=by
  intro l m q
  induction q with
  |nil=>intro x hx;exact nomatch hx
  | @cons p q ps qs hq t ih=>
   intro x hx;rcases Qj.mp hx with e|hx
   .subst e;exact oC ok (by rw[<-hq.1];exact hq.2.1)
   .exact ih x hx
 exact all r x hx
theorem FW {kvs:List (List Key×V)} (ok:HOk P w H h) (e:H a=some (.dT kvs)):kvs.length<=sizeLine/\(a==sysModules)=false/\
  ∃xs,KT H kvs xs/\h.DictOfH (tupleKind (aU P w)) a xs:=tS ok (.inl e)
end
def DGet (H:Hp) (a:Addr) (y:V) (r:Option V):Prop:=
 (∃kvs k,Rd H a (.dK kvs)/\y=kV k/\r=aK kvs k)\/∃kvs k b,Rd H a (.dT kvs)/\y= .ref b/\H b=some (.tup (k.map kV))/\r=aK kvs k
def DPut (H:Hp) (a:Addr) (y v:V) (H':Hp):Prop:=
 (∃kvs k,H a=some (.dK kvs)/\y=kV k/\kvs.length<sizeLine/\H'=upd H a (.dK (aW kvs k v)))\/
 ∃kvs k b,H a=some (.dT kvs)/\y= .ref b/\H b=some (.tup (k.map kV))/\kvs.length<sizeLine/\H'=upd H a (.dT (aW kvs k v))
theorem DGet.k {k:Key} (e:H a=some (.dK kvs)):DGet H a (kV k) (aK kvs k):= .inl ⟨kvs,k,.inl e,rfl,rfl⟩
theorem DPut.k {k:Key} (e:H a=some (.dK kvs)) (hl:kvs.length<sizeLine):DPut H a (kV k) v (upd H a (.dK (aW kvs k v))):= .inl ⟨kvs,k,e,rfl,hl,rfl⟩
section
variable {r:Value}
theorem Inv.big (I:Inv X pins σ H s):sysModules<s.heap.objs.size:=by
 have h:mainGlobals<s.heap.objs.size:=(I.mod.glob.keeps I.bk).lt;exact Nat.lt_trans (by decide) h
theorem tX (hu:A.units+1<cLine) (I:Inv X pins σ H s) (g:DGet H a y (some v)) (ry:RelV y u) (h:∀w' s',Inv X pins σ H s'->RelV v w'->Q w' s'):
  wpAny (model X.prog X.w) A (getItem (.ref a) u) Q E s:=by
 rcases g with⟨kvs,k,e,ey,l⟩|⟨kvs,k,b,e,ey,eb,l⟩
 .subst ey;obtain⟨z,hd,vs,rel,dd⟩:=pd I.hok e;obtain⟨w',hw,rw'⟩:=RelO.some_of (v:=v) (o:=valueAt vs k) (by rw[l];exact rel.val k);exact wpAny_getItem_of (pc ry) dd.mapOf hw (h w' _ (I.tok _) rw')
 .subst ey;cases (show u=Value.ref b from ry);obtain⟨z,hd,xs,rel,dd⟩:=tS I.hok e;obtain⟨w',hw,rw'⟩:=RelO.some_of (v:=v) (o:=(atKey xs k).map (·.2)) (by rw[l];exact rel.val k);obtain⟨p,hp,hp2⟩:=Z5.mp hw;refine wpAny_getItem_heap (tupleKind_room_in1 hu) (oC I.hok eb) dd hp ?_;rw[hp2];exact h w' _ (I.tok _) rw'
theorem d_in (hu:A.units+1<cLine) (I:Inv X pins σ H s) (g:DGet H a y o) (ry:RelV y u) (h:∀s',Inv X pins σ H s'->Q (.bool o.isSome) s'):
  wpAny (model X.prog X.w) A (compareOp .In u (.ref a)) Q E s:=by
 rcases g with⟨kvs,k,e,ey,l⟩|⟨kvs,k,b,e,ey,eb,l⟩
 .subst ey;obtain⟨z,hd,vs,rel,dd⟩:=pd I.hok e;refine wpAny_in_of (pc ry) hd dd.mapOf ?_;rw[<-(rel.val k).isSome_eq,<-l];exact h _ (I.tok _)
 .subst ey;cases (show u=Value.ref b from ry);obtain⟨z,hd,xs,rel,dd⟩:=tS I.hok e;refine wpAny_in_heap (tupleKind_room_in1 hu) (oC I.hok eb) hd dd ?_;have q:=(rel.val k).isSome_eq;rw[XJ]at q;rw[<-q,<-l];exact h _ (I.tok _)
theorem Do (hu:A.units+1<cLine) (I:Inv X pins σ H s) (g:DGet H a y o) (ry:RelV y u) (h:∀s',Inv X pins σ H s'->Q (.bool (!o.isSome)) s'):
  wpAny (model X.prog X.w) A (compareOp .NotIn u (.ref a)) Q E s:=by
 rcases g with⟨kvs,k,e,ey,l⟩|⟨kvs,k,b,e,ey,eb,l⟩
 .subst ey;obtain⟨z,hd,vs,rel,dd⟩:=pd I.hok e;refine wpAny_notIn_of (pc ry) hd dd.mapOf ?_;rw[<-(rel.val k).isSome_eq,<-l];exact h _ (I.tok _)
 .subst ey;cases (show u=Value.ref b from ry);obtain⟨z,hd,xs,rel,dd⟩:=tS I.hok e;refine wpAny_notIn_heap (tupleKind_room_in1 hu) (oC I.hok eb) hd dd ?_;have q:=(rel.val k).isSome_eq;rw[XJ]at q;rw[<-q,<-l];exact h _ (I.tok _)
theorem qb {ob:HO} (I:Inv X pins σ H s) (mu:Mut (H a)) (hs:Heap.SameBut a s.heap h') (he:∃q,h'.get? a=some q) (new:ObjOk X.prog X.w (upd H a ob) h' a ob):
  Inv X pins σ (upd H a ob) {s with heap:=h',toks:=t'}:=
 I.write (x:=a) (e:=a) mu (.inl rfl) (λb q hb z=>(hs.2 b hb).trans z) he new
theorem xC (z:kvs.length<=sizeLine) (hd:(a==sysModules)=false) (rel:KV kvs vs) (dd:h'.DictOf (aU P w) a vs):
  ObjOk P w H' h' a (.dK kvs):=⟨z,hd,vs,rel,dd⟩
theorem tW {Q:Unit->Shared->Prop} (hu:A.units+1<cLine) (I:Inv X pins σ H s) (g:DPut H a y v H') (ry:RelV y u) (rv:RelV v r) (h:∀s',Inv X pins σ H' s'->Q () s'):
  wpAny (model X.prog X.w) A (setItem (.ref a) u r) Q E s:=by
 rcases g with⟨kvs,k,e,ey,l,eH⟩|⟨kvs,k,b,e,ey,eb,l,eH⟩
 .subst ey eH;obtain⟨z,hd,vs,rel,dd⟩:=jm I.hok e;have hz:vs.length<=sizeLine:=by rw[<-rel.length];exact z
  have hl:(aW kvs k v).length<=sizeLine:=by have:=dH kvs k v;lia
  refine wpAny_setItem_pairs (hsz:=hz) (pc ry) dd λh' dd' hs=>h _ ?_;have he:∃q,h'.get? a=some q:=let⟨q,_,_,hq,_⟩:=dd';⟨q,hq⟩
  exact qb I (by rw[e];exact True.intro) hs he (xC hl hd (rel.put k rv) dd')
 .subst ey eH;cases (show u=Value.ref b from ry);obtain⟨z,hd,xs,rel,dd⟩:=FW I.hok e;have hz:xs.length<=sizeLine:=by rw[<-Paired.length rel];exact z
  have hl:(aW kvs k v).length<=sizeLine:=by have:=dH kvs k v;lia
  refine wpAny_setItem_heap (hsz:=hz) (tupleKind_room_in1 hu) (oC I.hok eb) dd λh' dd' hs=>h _ ?_;obtain⟨q,es,ep,hq,h2,h3,h4,_,h5⟩:=dd';refine qb I (by rw[e];exact True.intro) hs ⟨q,hq⟩ ⟨hl,hd,_,(rel.put k eb rv).keeps λc ys ec=>?_,q,es,ep,hq,h2,h3,h4,h5⟩;rw[ac (bW ec e (λz=>nomatch z))];exact ec
end
section
variable {k:Key}
theorem FX {more:List Value} (I:Inv X pins σ H s) (e:H a=some (.dK kvs)) (ry:RelV (kV k) u) (l:aK kvs k=some v) (hm:more=[]\/∃x,more=[x])
  (h:∀w' s',Inv X pins σ (upd H a (.dK (bi kvs k))) s'->RelV v w'->Q w' s'):wpAny (model X.prog X.w) A (call (.builtin "dict.pop") (.ref a::u::more)) Q E s:=by
 obtain⟨z,hd,vs,rel,dd⟩:=jm I.hok e;obtain⟨w',hw,rw'⟩:=RelO.some_of (v:=v) (o:=valueAt vs k) (by rw[<-l];exact rel.val k);have hp:(keyPart u).isSome=true:=by
  cases k with
  |inl i=>obtain⟨t,q⟩:=(show ∃t,u=Value.int i t from ry);subst q;rfl
  |inr x=>obtain⟨t,q⟩:=(show ∃t,u=Value.str x t from ry);subst q;rfl
 have ha:argsOk "dict.pop" ⟨.ref a::u::more,[]⟩:=by
  rcases hm with q|⟨x,q⟩
  .subst q;exact PySem.F.args_dict_pop_2 _ _
  .subst q;exact PySem.F.args_dict_pop_3 _ _ _
 refine call_meetsIn ZT dd.typeIs PySem.F.entry_dict_pop ha (meets_dict_pop_there (aU X.prog X.w) a (pc ry) more hm hp)
  ⟨vs,w',dd,by rw[<-rel.length];exact z,hw,λh' dd' hs=>h w' _ ?_ rw'⟩
 have he:∃q,h'.get? a=some q:=let⟨q,_,_,hq,_⟩:=dd';⟨q,hq⟩
 exact qb I (by rw[e];exact True.intro) hs he (xC (QL (By kvs k) z) hd (rel.drop k) dd')
theorem FY (I:Inv X pins σ H s) (e:Rd H a (.dK kvs)) (h:∀t s',Inv X pins σ H s'->Q (.int kvs.length t) s'):wpAny (model X.prog X.w) A (call (.builtin "len") [.ref a]) Q E s:=by
 obtain⟨z,hd,vs,rel,dd⟩:=pd I.hok e;refine call_len_dict hd dd (by rw[<-rel.length];rw[sizeLine_eq]at z;lia) ?_;rw[<-rel.length];exact h _ _ (I.tok _)
end
def NoSl (i:Expr):Prop:=∀ov iv,subscripted i false ov iv=operate [ov,iv] (getItem ov iv)
theorem Cw {prog:Program} {env:Env} {value slice:Expr} {id:String} 
  (hl:typeLookup (.type T) "__getitem__"=pure (some (.builtin id))) (hs:NoSl slice)
  (h:wpAny (model prog w) A (eval value env) (λo s₁=>wpAny (model prog w) A (eval slice env) (λi s₂=>s₂.TypeIs o T/\wpAny (model prog w) A (getItem o i) Q E s₂) E s₁) E s):
  wpAny (model prog w) A (eval (.Subscript value slice pos) env) Q E s:=by
 refine Subscript_ (wpAny_mono h (λo s₁ h₁=>wpAny_mono h₁ (λi s₂ h₂=>?_) λ_ _ x=>x) λ_ _ x=>x);obtain⟨hT,h₂⟩:=h₂;unfold subscriptTail;refine wpAny_bind ?_;rw[getitemInPython_of_ne hT.not_modules];refine wpAny_bind (wpAny_specialOf hT hl ?_);have fin:wpAny (model prog w) A (subscripted slice false o i) (λr s₃=>wpAny (model prog w) A (letTemporaryGo value o r>>=λ_=>pure r) Q E s₃) E s₂:=by
  rw[hs o i];exact wpAny_operating (wpAny_mono h₂ (λr s₃ h₃=>wpAny_bind (wpAny_letTemporaryGo (wpAny_pure h₃))) λ_ _ x=>x)
 first
  |exact wpAny_pure (wpAny_bind fin)
  |exact wpAny_bind (wpAny_pure (wpAny_bind fin))
  |exact wpAny_bind fin
theorem wv (I:Inv X pins σ H s) (g:DGet H a y o):s.TypeIs (.ref a) "dict":=by
 rcases g with⟨kvs,k,e,_,_⟩|⟨kvs,k,b,e,_,_,_⟩
 .obtain⟨_,_,vs,_,dd⟩:=pd I.hok e;exact dd.typeIs
 .obtain⟨_,_,xs,_,dd⟩:=tS I.hok e;exact dd.typeIs
def Fp (td ty:TE):TE:=λσ H Q=>td σ H λx H1=>ty σ H1 λy H2=>∃a v,x= .ref a/\DGet H2 a y (some v)/\Q v H2
def tDIn (ty td:TE):TE:=λσ H Q=>ty σ H λy H1=>td σ H1 λx H2=>∃a o,x= .ref a/\DGet H2 a y o/\Q (.bl o.isSome) H2
def Cs (ty td:TE):TE:=λσ H Q=>ty σ H λy H1=>td σ H1 λx H2=>∃a o,x= .ref a/\DGet H2 a y o/\Q (.bl (!o.isSome)) H2
def Fw (td ty tv:TE):TS:=λD σ H=>tv σ H λv H1=>td σ H1 λx H2=>ty σ H2 λy H3=>∃a H4,x= .ref a/\DPut H3 a y v H4/\D.nx σ H4
def Fx (td ty tv:TE) (rd:V->V->Hp->VK->Prop):TS:=λD σ H=>td σ H λx H1=>ty σ H1 λy H2=>∃a v,x= .ref a/\DGet H2 a y (some v)/\
 tv σ H2 λy2 H3=>rd v y2 H3 λz H4=>∃H5,DPut H4 a y z H5/\D.nx σ H5
section
variable {o i value:Expr} {pos' tpos:Pos} {td ty tv:TE}
theorem yc (hu:X.A.units+1<cLine) (ho:PE X o td) (hi:PE X i ty) (hs:NoSl i):PE X (.Subscript o i pos) (Fp td ty):=by
 intro pins s σ H Q I h;refine Cw PySem.F.slot_dict_getitem.lookup hs (thn (ho pins s σ H _ I h) λu s1 ⟨x,H1,I1,rx,q1⟩=>thn (hi pins s1 σ H1 _ I1 q1) λiv s2 hzz=>?_);obtain⟨y,H2,I2,ry,a,v,ex,g,q2⟩:=hzz;subst ex;obtain rfl:u=Value.ref a:=rx;exact⟨wv I2 g,tX hu I2 g ry λw' s3 I3 rw'=>⟨v,H2,I3,rw',q2⟩⟩
theorem AG (hu:X.A.units+1<cLine) (hi:PE X i ty) (ho:PE X o td):PC X .In i o (tDIn ty td):=by
 intro pins s σ H Q I h;refine thn (hi pins s σ H _ I h) λiv s1 ⟨y,H1,I1,ry,q1⟩=>thn (ho pins s1 σ H1 _ I1 q1) λu s2 hzz=>?_;obtain⟨x,H2,I2,rx,a,ov,ex,g,q2⟩:=hzz;subst ex;obtain rfl:u=Value.ref a:=rx;exact d_in hu I2 g ry λs3 I3=>⟨.bl ov.isSome,H2,I3,rfl,q2⟩
theorem tw (hu:X.A.units+1<cLine) (hi:PE X i ty) (ho:PE X o td):PC X .NotIn i o (Cs ty td):=by
 intro pins s σ H Q I h;refine thn (hi pins s σ H _ I h) λiv s1 ⟨y,H1,I1,ry,q1⟩=>thn (ho pins s1 σ H1 _ I1 q1) λu s2 hzz=>?_;obtain⟨x,H2,I2,rx,a,ov,ex,g,q2⟩:=hzz;subst ex;obtain rfl:u=Value.ref a:=rx;exact Do hu I2 g ry λs3 I3=>⟨.bl (!ov.isSome),H2,I3,rfl,q2⟩
theorem p6 (hu:X.A.units+1<cLine) (ho:PE X o td) (hi:PE X i ty) (hv:PE X value tv) (hs:swapsWith value (some (.Subscript o i pos')) pos.line X.env=pure false):
  PS X (.Assign [.Subscript o i pos'] value pos) (Fw td ty tv):=by
 intro pins s σ H D I h;refine wpAny_Assign_Subscript (thn (hv pins s σ H _ I h) λr s1 ⟨v,H1,I1,rv,q1⟩=>thn (ho pins s1 σ H1 _ I1 q1) λu s2 ⟨x,H2,I2,rx,q2⟩=>thn (hi pins s2 σ H2 _ I2 q2) λiv s3 hzz=>?_) hs;obtain⟨y,H3,I3,ry,a,H4,ex,g,q3⟩:=hzz;subst ex;obtain rfl:u=Value.ref a:=rx;exact tW hu I3 g ry rv λs4 I4=>⟨σ,H4,I4,q3⟩
theorem CL {op:Operator} (hu:X.A.units+1<cLine) (ho:PE X o td) (hi:PE X i ty) (hv:PE X value tv) (hop:Dv X op rd)
  (ha:∀ov iv new,augStore i ov iv new=(do holding [new,ov,iv] (setItem ov iv new);release [new,ov,iv] [];pure .next)):PS X (.AugAssign (.Subscript o i tpos) op value pos) (Fx td ty tv rd):=by
 intro pins s σ H D I h;refine wpAny_AugAssign_SubscriptAny (thn (ho pins s σ H _ I h) λu s1 ⟨x,H1,I1,rx,q1⟩=>thn (hi pins s1 σ H1 _ I1 q1) λiv s2 hzz=>?_) ha;obtain⟨y,H2,I2,ry,a,v,ex,g,q2⟩:=hzz;subst ex;obtain rfl:u=Value.ref a:=rx;refine tX hu I2 g ry λw' s3 I3 rw'=>thn (hv pins s3 σ H2 _ I3 q2) λw2 s4 ⟨y2,H3,I4,ry2,q3⟩=>thn (hop pins s4 σ H3 v y2 w' w2 _ I4 rw' ry2 q3) λw3 s5 hzz=>?_;obtain⟨z,H4,I5,rz,H5,g5,q4⟩:=hzz;exact tW hu I5 g5 ry rz λs6 I6=>⟨σ,H5,I6,q4⟩
end
theorem wt (h:Heap) (hb:sysModules<h.objs.size):ObjOk P w H (h.push {cls:= .type "dict",data:= .dict #[]}) h.objs.size (.dK []):=
 ⟨Qi _,beq_eq_false_iff_ne.mpr (Ne.symm (Qv hb)),[],.nil,Heap.DictOf.new h⟩
def Eg:TE:=λ_ H Q=>∀p,H p=none->Q (.ref p) (upd H p (.dK []))
section
theorem jD:PE X (.Dict [] [] pos) Eg:=λpins s σ H Q I h=>
 wpAny_Dict_empty ⟨.ref s.heap.objs.size,_,I.laid (a:=s.heap.objs.size) (o:= .dK []) (t':=s.toks) (λ_ _ q=>Heap.get?_push_of_some _ q) (Q5 _) (wt s.heap I.big),rfl,h _ (I.hok.fresh (Q5 _))⟩
end
section
variable {d:V} {r:Value}
theorem E2 (hu:A.units+1<cLine) (I:Inv X pins σ H s) (g:DGet H a y o) (ry:RelV y u) (rd:RelV d r) (h:∀w' s',Inv X pins σ H s'->RelV (o.getD d) w'->Q w' s'):
  wpAny (model X.prog X.w) A (call (.builtin "dict.get") [.ref a,u,r]) Q E s:=by
 rcases g with⟨kvs,k,e,ey,l⟩|⟨kvs,k,b,e,ey,eb,l⟩
 .subst ey;obtain⟨z,hd,vs,rel,dd⟩:=pd I.hok e;refine call_meetsIn Xo dd.typeIs PySem.F.entry_dict_get (PySem.F.args_dict_get_3 _ _ _) (meets_dict_get_default (aU X.prog X.w) a (pc ry) hd r) ⟨_,dd.mapOf,h _ _ (I.tok _) ?_⟩;rw[l];exact(rel.val k).getD rd
 .subst ey;cases (show u=Value.ref b from ry);obtain⟨z,hd,xs,rel,dd⟩:=tS I.hok e;refine call_meetsIn Xo dd.typeIs PySem.F.entry_dict_get (PySem.F.args_dict_get_3 _ _ _) (meetsH_dict_get_default (tupleKind (aU X.prog X.w)) a b hd r) ⟨tupleKind_room_in1 hu,k,xs,oC I.hok eb,dd,h _ _ (I.tok _) ?_⟩;rw[l];exact(rel.val k).getD rd
end
end
end L2
namespace Att
open PySem PySem.W PySem.Calls PyProof.Rows
variable {h:Heap} {n:Nat} {l:OpenLaw} {P:Params} {YP:World->Heap->Prop}
theorem pY:∀(ns:List Int) (vs:List Value),WellAll P h vs (ns.map WData.int)->IntsAre vs ns:=by
 intro ns
 induction ns with
 |nil=>
  intro vs w;rw[List.map_nil]at w;cases w;exact .nil
 |cons n ns ih=>
  intro vs w;rw[Qu]at w;cases w with
  |cons a b=>
   cases a;exact .cons _ _ (ih _ b)
theorem ze (hn:l.most=some n) {args:List WData} {vals:List Value}
  (hpre:l.row.toRowW.claim.pre args=true) (hwl:WellAll P h vals args):
  ∃a vs ns,vals=[Value.ref a]/\args=[WData.list (ns.map WData.int)]/\h.get? a=some {cls:= .type "list",data:= .seq vs.toArray}/\IntsAre vs ns/\ns.length<=n:=by
 have hsh:WShape.hasAll [] args [.list .int]=true:=(pre_splitW hpre).1;have hc:l.pre.holds [] {args:=args}=true:=(pre_splitW hpre).2;obtain⟨d,r,rfl,h1,h2⟩:=hasAllW_cons hsh;obtain rfl:=hasAllW_nil h2;obtain⟨xs,rfl,h3⟩:=hasW_list h1;obtain⟨ns,rfl⟩:=items_int h3;have hlen:ns.length<=n:=by
  unfold OpenLaw.pre at hc;have h4:(WTm.not (.lt (.lit (.int (n:Int))) (.len (.arg 0)))).holds [] {args:=[.list (ns.map .int)]}=true:=by
   have h4:=(holds_andW hc).1;rw[hn]at h4;exact h4
  have h5:=condW_of h4 (w_not (w_lt w_lit (w_len_list (w_arg rfl))));rw[Q0]at h5;refine Nat.le_of_not_lt λq=>?_;have q':(n:Int)<((ns.length:Nat):Int):=by lia
  first
   |(rw[decide_eq_true q']at h5;exact absurd h5 (by decide))
   |(simp at h5;lia)
 cases hwl with
 |cons w1 w2=>
  cases w2;cases w1 with
  |list ho hall=>exact⟨_,_,ns,rfl,rfl,ho,pY ns _ hall,hlen⟩
theorem zi (l:OpenLaw) (args:List WData):l.row.toRowW.claim.post args (.bool true) args=true:=
 postW_of (r:=l.row.toRowW) (X:=(true==true))
  (show WShape.has [] (.bool true) .bool=true by first|rfl|decide|simp[WShape.has,WShape.arms,WShape.armsAll])
  (show(WTm.eq .res (.lit (.bool true))).value [] {args:=args,res:=some (.bool true),after:=args}=some (.bool (true==true)) from w_eq_bool (w_res rfl) w_lit) rfl
theorem attach_call {q:Program} {loose:List Str} {XP:(Str->Option Value)->Heap->Prop} {d:DefRec}
  (hn:l.most=some n) (hdf:d.params.defaults=[])
  (call:∀(w:World) (s₀ s₁:Shared) (mg mb:Str->Option Value) (fa:Addr) (o:Obj) (pm cd doc:Value) (a:Addr) (vs:List Value) (ns:List Int),
   Ground q loose [] XP w s₀ mg mb s₁.heap->YP w s₁.heap->
   s₁.heap.get? fa=some o->o.data= .func (docDef d.name d.params d.body d.scope pm cd doc)->s₁.heap.CodeRec cd d.name->mg d.name=some (.ref fa)->
   s₁.heap.get? a=some {cls:= .type "list",data:= .seq vs.toArray}->IntsAre vs ns->ns.length<=n->s₁.gens= #[]->
   codeAny (model l.prog w) callerA (.call (.ref fa) ⟨[.ref a],[]⟩) (λr s'=>r= .ok (.ret (.bool true))/\OldK s₁.heap s'.heap/\s'.os=s₁.os/\AllBare s'.gens) s₁):
  WalkO q loose XP YP l.row.toRowW d [] (λf vs=>PySem.call f vs):=by
 intro w s₀ s₁ mg mb G Y fa o pm cd doc dV kV ho hd hcd hD hmg hg args vals as hpre hlay hrd hwl hlo;obtain rfl:dV= .none:=Dflts.none hD hdf;obtain rfl:kV= .none:=Dflts.noKw hD;obtain⟨a,vs,ns,rfl,rfl,hobj,hints,hlen⟩:=ze hn hpre hwl;refine enter_call (codeAny_mono (call w s₀ s₁ mg mb fa o pm cd doc a vs ns G Y ho (fd_plain hd) hcd hmg hobj hints hlen hg) λr s' hq=>?_);obtain⟨rfl,h2,h3,h4⟩:=hq;exact⟨.inl ⟨.bool true,.bool true,[],rfl,λ_=>rfl,.bool true,zi l _,λ_=>⟨List.Pairwise.nil,λ_ hm=>(nomatch hm)⟩⟩,h2,h3,h4⟩
end Att
namespace L2
open PySem PySem.Spec PyProof.Rows
variable {a f:Addr} {X:Cx} {fd:FuncData} {base:Heap} {H:Hp} {ns:List Int} {N:List Str} {n:Nat} {P:Program} {A B c:Prop} {K:PySem.W.Frag} {sp:Sp} {σ:St} {st:Stmt} {qual x:Str} {nx:St->Hp->Prop} {g:TG} {tb:TS} {rt:VK} {w:World} {YP:World->Heap->Prop}
section
theorem sT:∀{vs:List Value} {ns:List Int},IntsAre vs ns->Vals (ns.map V.int) vs
 |_,_,.nil=> .nil
 |_,_,.cons n t h=> .cons ⟨t,rfl⟩ (sT h)
def Fb (H:Hp):Prop:=∀b,H b=none\/∃o xs,H b=some (.frz o (.lst xs))
theorem Bd {mg mb:Str->Option Value} {CX:CXT} {k:Nat} {fa:Addr} {s₁:Shared} {vs:List Value} 
  (KX:K.In s₁.heap) (hns:s₁.heap.Ns mainGlobals mg) (hb:s₁.heap.Ns builtinsNs mb) (hbb:∀x:Str,x≠"__name__"->mb x=bootBuiltins x) (hlim:s₁.heap.NoLimit) (hg:s₁.gens= #[])
  (ha:s₁.heap.get? a=some {cls:= .type "list",data:= .seq vs.toArray}) (hi:IntsAre vs ns) (hl:ns.length<=sizeLine) (hr:Room k callerA)
  (F:∀base:Heap,K.In base->base.Ns mainGlobals mg->FnOk P w K mg base CX k fa fd [x] sp) (hbind:∀(s:Shared) (u:Value),BindsTo s fd ⟨[u],[]⟩ [(x,u)])
  (hsp:∀H:Hp,Fb H->SqL K H a (ns.map V.int)->sp [.ref a] H (λv _=>v= .bl true) λ_ _ _=>False)
  (hCX:∀H e s',CX [] H s₁ (λ_ _ _=>False) e s'->False):
  codeAny (model P w) callerA (.call (.ref fa) ⟨[.ref a],[]⟩) (λr s'=>r= .ok (.ret (.bool true))/\OldK s₁.heap s'.heap/\s'.os=s₁.os/\AllBare s'.gens) s₁:=by
 have rv:=sT hi;have lenV:=hi.length;have core:∀H:Hp,Fb H->SqL K H a (ns.map V.int)->HOk P w H s₁.heap->(∀b,H b≠none->b=a)->(H a≠none->K.lookup a=none)->
   codeAny (model P w) callerA (.call (.ref fa) ⟨[.ref a],[]⟩) (λr s'=>r= .ok (.ret (.bool true))/\OldK s₁.heap s'.heap/\s'.os=s₁.os/\AllBare s'.gens) s₁:=by
  intro H hO hS hok hA hK;have base_of:∀{b:Addr} {o:Obj},s₁.heap.get? b=some o->H b=none->(uZ s₁.heap H).get? b=some o:=λe n=>Bm e n;have noA:∀{b:Addr} {o:Obj} {es:Array DictEntry} {ep:Nat},s₁.heap.get? b=some o->o.data= .dict es ep->H b=none:=λ{b o es ep} e d=>by
   cases q:H b with
   |none=>rfl
   |some u=>
    have e':b=a:=hA b (by rw[q];simp);subst e';rw[ha]at e;cases e;have d':Data.seq vs.toArray _=Data.dict es ep:=d;cases d'
  have nsK:∀{b:Addr} {m:Str->Option Value},s₁.heap.Ns b m->(uZ s₁.heap H).Ns b m:=λ{b m} ⟨o,es,ep,e,d,r⟩=>⟨o,es,ep,base_of e (noA e d),d,r⟩;have hKb:K.In (uZ s₁.heap H):=λb o e=>base_of (KX b o e) (by
   cases q:H b with
   |none=>rfl
   |some u=>
    have e':b=a:=hA b (by rw[q];simp);subst e';rw[hK (by rw[q];simp)]at e;cases e)
  have hM:Mod K mg (uZ s₁.heap H):=⟨hKb,nsK hns,⟨mb,nsK hb,hbb⟩,let⟨mc,h1,h2⟩:=hlim;⟨mc,nsK h1,h2⟩⟩;have e0:Env0 P w K mg (uZ s₁.heap H) callerA [] s₁ H:=⟨rfl,hM,λb o e=>CY e,Zc (zH _ _),trivial,λb hb=>absurd (show b∈([]:List Addr) from hb) (by simp),hok,.of_eq hg⟩;refine codeAny_mono ((F _ hKb (nsK hns)).run callerA [] s₁ H ⟨[.ref a],[]⟩ [.ref a] [.ref a] _ _ hr e0 (hbind s₁ (.ref a)) (.cons rfl .nil) (hsp H hO hS)) λr s' h=>?_;cases r with
  |error e=>exact(hCX H e s' h).elim
  |ok fl=>
   cases fl with
   |next=>exact False.elim h
   |brk=>exact False.elim h
   |cont=>exact False.elim h
   |ret u=>
    obtain⟨v,H',os,bare,un,hok',r',q⟩:=h;have q':v= .bl true:=q;subst q';obtain rfl:u=Value.bool true:=r';refine⟨rfl,OldK.of_keep λb o e=>?_,os,bare⟩;cases q:H b with
    |none=>exact un.keep b o e q (by intro z;exact absurd (show b∈([]:List Addr) from z) (by simp)) (by simp)
    |some u=>
     rcases hO b with z|⟨ob,xs,z⟩
     .rw[q]at z;cases z
     .have z2:=un.frzs b ob _ z;obtain⟨e1,_⟩:=hok b _ z;obtain⟨e2,_⟩:=hok' b _ z2;rw[e]at e1;cases e1;exact e2
 cases hk:K.lookup a with
 |some o=>
  have e:=KX a o hk;rw[ha]at e;cases e;refine core (λ_=>none) (λ_=> .inl rfl) (.inr ⟨_,vs.toArray,_,hk,rfl,rfl,rfl,by rw[Qc,lenV];exact hl,by simpa using rv⟩) (λb u z=>by have z':(none:Option HO)=some u:=z;cases z') (λb z=>absurd rfl z) λz=>absurd rfl z
 |none=>
  refine core (λb=>if b=a then some (.frz {cls:= .type "list",data:= .seq vs.toArray} (.lst (ns.map V.int)))else none) (λb=>?_) (.inl (.inr ⟨{cls:= .type "list",data:= .seq vs.toArray},if_pos rfl⟩)) (λb u z=>?_) (λb z=>?_) λ_=>hk
  .by_cases hb:b=a
   .exact .inr ⟨_,_,if_pos hb⟩
   .exact .inl (if_neg hb)
  .by_cases hb:b=a
   .have z':=(if_pos hb).symm.trans z;cases z';subst hb;exact⟨ha,by rw[Q0];exact hl,vs,_,rv,ha⟩
   .have z':=(if_neg hb).symm.trans z;cases z'
  .by_cases hb:b=a
   .exact hb
   .exact absurd (if_neg hb) z
end
section
theorem walk_of {l:PySem.W.OpenLaw} {k:Nat} {q:Program} {loose:List Str} {XP:(Str->Option Value)->Heap->Prop} {d:DefRec} {K:Params->PySem.W.Frag} {CX:World->CXT} {sp:World->Sp} 
  (hn:l.most=some n) (hn2:n<=sizeLine) (hdf:d.params.defaults=[]) (hr:Room k callerA)
  (hY:∀(w:World) (h:Heap),YP w h->(K w.params).In h)
  (F:∀(w:World) (mg:Str->Option Value) (fa:Addr) (h:Heap),(K w.params).In h->h.Ns mainGlobals mg->mg d.name=some (.ref fa)->
   ∃fd:FuncData,(∀(s:Shared) (u:Value),BindsTo s fd ⟨[u],[]⟩ [(x,u)])/\
    ∀base:Heap,(K w.params).In base->base.Ns mainGlobals mg->FnOk l.prog w (K w.params) mg base (CX w) k fa fd [x] (sp w))
  (hsp:∀(w:World) (H:Hp) (a:Addr) (ns:List Int),ns.length<=n->Fb H->SqL (K w.params) H a (ns.map V.int)->sp w [.ref a] H (λv _=>v= .bl true) λ_ _ _=>False)
  (hCX:∀(w:World) (H:Hp) (s:Shared) (e:Value) (s':Shared),CX w [] H s (λ_ _ _=>False) e s'->False):
  PySem.W.WalkO q loose XP YP l.row.toRowW d [] (λf vs=>PySem.call f vs):=by
 refine Att.attach_call hn hdf λw s₀ s₁ mg mb fa o pm cd doc a vs ns G Y ho hd hcd hmg hobj hints hlen hg=>?_;have KX:=hY w _ Y;obtain⟨fd,hb,hF⟩:=F w mg fa _ KX G.T.g hmg;exact Bd KX G.T.g G.T.b G.T.builtins G.T.nolimit hg hobj hints (QL hlen hn2) hr hF hb (λH hO hS=>hsp w H a ns hlen hO hS) λH e s'=>hCX w H s₁ e s'
end
section
abbrev CX0:CXT:=λ_ _ _ _ _ _=>False
abbrev E0:XK:=λ_ _ _=>False
theorem az:eR CX0 X E0:=λ_ _ _ _ _ _ _ h=>h.elim
structure Fun (K:PySem.W.Frag) (x qual:Str) (st:Stmt) (f:Addr) (fd:FuncData):Prop where
 ex:∃(oc:Value) (od:Option Addr) (kV doc pm:Value) (an:Option Addr) (cdv ct:Value) (osl:Array (Option Value)),
  fd=PySem.W.fnOf x qual (fA st) (b7 st) (aj st) .none kV doc pm an cdv ct/\K.lookup f=some ⟨oc,od,.func fd,osl⟩/\PySem.W.codeIn K cdv qual=true
 kp:PySem.W.keepIn K (.ref f)=true
section
variable {mg:Str->Option Value}
theorem Fun.ok {ps:List Str} {k:Nat} (F:Fun K x qual st f fd) (S:ax N ps (aj st)) (len:∀vs H Q E,sp vs H Q E->vs.length=ps.length)
  (hbody:∀(cdv:Value) (A:Around) (outer:List Env) (s:Shared) (H:Hp) (vs:List V) (Q:VK) (E:XK),Room k (A.deeper (envOfC qual (aj st) s.heap.objs.size f cdv))->sp vs H Q E->
   ∃t,PSs (m6 CX0 P w K mg base N qual (aj st) f cdv A outer s H E).nox (b7 st) t/\t {nx:=λ_ H'=>Q .non H',rt:=Q} (start N vs) H):FnOk P w K mg base CX0 (k+1) f fd ps sp:=by
 obtain⟨oc,od,kV,doc,pm,an,cdv,ct,osl,rfl,lk,hcd⟩:=F.ex;refine yD lk hcd S len λA outer s H vs Q E hr hsp=>?_;obtain⟨t,h,q⟩:=hbody cdv A outer s H vs Q E hr hsp;exact⟨t,h.nox,q⟩
theorem EX {oc:Value} {od an:Option Addr} {osl:Array (Option Value)} {kV doc pm cdv ct:Value} (l:K.lookup f=some ⟨oc,od,.func (PySem.W.fnOf x qual (fA st) (b7 st) (aj st) .none kV doc pm an cdv ct),osl⟩)
  (c:PySem.W.codeIn K cdv qual=true) (k:PySem.W.keepIn K (.ref f)=true):Fun K x qual st f (PySem.W.fnOf x qual (fA st) (b7 st) (aj st) .none kV doc pm an cdv ct):=⟨⟨oc,od,kV,doc,pm,an,cdv,ct,osl,rfl,l,c⟩,k⟩
end
theorem jj {A:Around} {k:Nat} (hr:Room k A):A.units+1<cLine:=X5 (Nat.add_le_add_left (by decide:1<=64) _) hr.units
theorem cI (h:n<=1000):n<sizeLine:=X5 h (by decide)
section
theorem pv (i:Nat) {pos:Pos} (hN:X.N[i]?=some x:=by rfl) (hv:Vis X.env.scope x:=by first|exact Or.inl rfl|exact Or.inr (Or.inl rfl)|exact Or.inr (Or.inr rfl)) (hd:(x==("__debug__":Str))=false:=by decide)
  (hcd:(x==("__classdict__":Str))=false:=by decide):PE X (.Name x pos) (Ap i):=Er hN hv hd hcd
end
theorem bF (h:B):if false=true then A else B:=by
 rw[if_neg Q7];exact h
theorem bN (h:A):if true=true then A else B:=by
 rw[if_pos rfl];exact h
theorem dC [Decidable c] (h1:c->A) (h2:¬c->B):if c then A else B:=by
 by_cases h:c
 .rw[if_pos h];exact h1 h
 .rw[if_neg h];exact h2 h
theorem FO [Decidable c] (hc:c) (h:B):if(!decide c)=true then A else B:=by
 rw[decide_eq_true hc];exact bF h
def Same (H H':Hp):Prop:=∀b o,H b=some o->H' b=some o
theorem Same.refl (H:Hp):Same H H:=λ_ _ h=>h
theorem Same.trans {H1 H2:Hp} (a:Same H H1) (b:Same H1 H2):Same H H2:=λc o h=>b c o (a c o h)
end
section
section
theorem zU:iM X (.builtin "len") (λxs H Q=>∃a kvs,xs=[V.ref a]/\H a=some (.dK kvs)/\Q (.int kvs.length) H):=by
 intro pins s σ H xs us Q I r h;obtain⟨a,kvs,rfl,ha,q⟩:=h;obtain⟨u,rfl,ru⟩:=oR r;cases ru;exact FY I (.inl ha) λt s' I'=>⟨.int kvs.length,H,I',⟨t,rfl⟩,q⟩
end
section
variable {κ:Type} [DecidableEq κ]
theorem Ah {kvs:List (κ×V)} {k:κ} (h:aK kvs k=none):¬k∈kvs.map (·.1):=by
 intro m;obtain⟨p,hp,e⟩:=Qh.mp m;have q:(kvs.any λkv=>decide (kv.1=k))=true:=List.any_eq_true.mpr ⟨p,hp,decide_eq_true e⟩;rw[cn,h]at q;exact absurd q (by simp)
theorem p4 {kvs:List (κ×V)} {k:κ} {v:V} (h:aK kvs k=some v):k∈kvs.map (·.1):=by
 have q:(kvs.any λkv=>decide (kv.1=k))=true:=by
  rw[cn,h]
  all_goals rfl
 obtain⟨p,hp,e⟩:=List.any_eq_true.mp q;exact Qh.mpr ⟨p,hp,of_decide_eq_true e⟩
theorem yi:∀{l:List κ} {k:κ},l.Nodup->¬k∈l->(l++ [k]).Nodup
 | [],k,_,_=>by simp
 |a::r,k,h,hk=>by
  obtain⟨h1,h2⟩:=QE.mp h;show(a::(r++ [k])).Nodup;refine QE.mpr ⟨λm=>?_,yi h2 λm=>hk (Qj.mpr (Or.inr m))⟩;rcases Q6.mp m with q|q
  .exact h1 q
  .exact hk (Qj.mpr (Or.inl (Qe.mp q).symm))
theorem CZ {kvs:List (κ×V)} {k:κ} (v:V) (hn:(kvs.map (·.1)).Nodup) (h:aK kvs k=none):((aW kvs k v).map (·.1)).Nodup:=by
 rw[Az v h,Qm];exact yi hn (Ah h)
theorem oG {p:κ×V} {r:List (κ×V)} {k:κ} (e:p.1=k):bi (p::r) k=bi r k:=by
 unfold bi;rw[QN,if_neg (by simp[e])]
theorem kx {p:κ×V} {r:List (κ×V)} {k:κ} (e:¬p.1=k):bi (p::r) k=p::bi r k:=by
 unfold bi;rw[QN,if_pos (by simp[e])]
theorem wq:∀{kvs:List (κ×V)} {k:κ},¬k∈kvs.map (·.1)->bi kvs k=kvs
 | [],_,_=>rfl
 |p::r,k,h=>by
  have h':¬k∈r.map (·.1):=λm=>by
   obtain⟨q,hq,e⟩:=Qh.mp m;exact h (Qh.mpr ⟨q,Qj.mpr (Or.inr hq),e⟩)
  rw[kx λe=>h (Qh.mpr ⟨p,Qj.mpr (Or.inl rfl),e⟩),wq h']
theorem tT {kvs:List (κ×V)} {k:κ} {p:κ×V} (h:p∈bi kvs k):p∈kvs:=(Qt.mp h).1
theorem mR:∀{kvs:List (κ×V)} {k:κ},(kvs.map (·.1)).Nodup->((bi kvs k).map (·.1)).Nodup
 | [],_,_=>ZC
 |p::r,k,h=>by
  have h:(p.1::r.map (·.1)).Nodup:=h;obtain⟨h1,h2⟩:=QE.mp h;by_cases e:p.1=k
  .rw[oG e];exact mR h2
  .rw[kx e];show(p.1::(bi r k).map (·.1)).Nodup;refine QE.mpr ⟨λm=>h1 ?_,mR h2⟩;obtain⟨q,hq,eq⟩:=Qh.mp m;exact Qh.mpr ⟨q,tT hq,eq⟩
theorem tU:∀{kvs:List (κ×V)} {k:κ},(kvs.map (·.1)).Nodup->k∈kvs.map (·.1)->(bi kvs k).length+1=kvs.length
 | [],_,_,m=>by simp at m
 |p::r,k,h,m=>by
  have h:(p.1::r.map (·.1)).Nodup:=h;have m:k=p.1\/k∈r.map (·.1):=Qj.mp m;obtain⟨h1,h2⟩:=QE.mp h;by_cases e:p.1=k
  .subst e;rw[oG rfl,wq h1]
   all_goals rfl
  .have m':k∈r.map (·.1):=m.resolve_left λz=>e z.symm;have q:=tU h2 m';rw[kx e,Qf,Qf];lia
end
end
section
theorem aX:bootBuiltins "len"=some (.builtin "len"):=by decide+kernel
theorem bf:bootBuiltins "isinstance"=some (.builtin "isinstance"):=by decide+kernel
theorem rM:bootBuiltins "min"=some (.builtin "min"):=by decide+kernel
theorem kB:bootBuiltins "sorted"=some (.builtin "sorted"):=by decide+kernel
theorem E4:bootBuiltins "int"=some (.type "int"):=by decide+kernel
theorem Dr:bootBuiltins "bool"=some (.type "bool"):=by decide+kernel
theorem u9:bootBuiltins "str"=some (.type "str"):=by decide+kernel
theorem xH:bootBuiltins "max"=some (.builtin "max"):=by decide+kernel
theorem Dq:bootBuiltins "dict"=some (.type "dict"):=by decide+kernel
theorem BC:bootBuiltins "tuple"=some (.type "tuple"):=by decide+kernel
theorem EH:PySem.W.kitOne K (.type "int") (.type "int")=some true:=by kernel_rfl
theorem EI:PySem.W.kitOne K (.type "int") (.type "bool")=some false:=by kernel_rfl
theorem EE:PySem.W.kitOne K (.type "tuple") (.type "tuple")=some true:=by kernel_rfl
theorem EJ:PySem.W.kitOne K (.type "bool") (.type "int")=some true:=by kernel_rfl
theorem EK:PySem.W.kitOne K (.type "bool") (.type "bool")=some true:=by kernel_rfl
theorem EG:PySem.W.kitOne K (.type "NoneType") (.type "int")=some false:=by kernel_rfl
theorem EF:PySem.W.kitOne K (.type "str") (.type "int")=some false:=by kernel_rfl
theorem iH [Decidable c] (hc:c) (h:A):if decide c=true then A else B:=by
 rw[decide_eq_true hc];exact bN h
theorem bJ [Decidable c] (hc:¬c) (h:B):if decide c=true then A else B:=by
 rw[decide_eq_false hc];exact bF h
theorem tN {xs:List V} (Pv:Nat->St->Hp->Prop) (h0:Pv 0 σ H) (hl:∀i σ H,i<=xs.length->Pv i σ H->SqL K H a xs)
  (hs:∀i x σ H,xs[i]?=some x->Pv i σ H->g x σ H λσ2 H2=>tb ⟨Pv (i+1),rt,nx,Pv (i+1)⟩ σ2 H2) (hd:∀σ H,Pv xs.length σ H->nx σ H):
  ∃W:Nat->Nat->St->Hp->Prop,(∃m,W 0 m σ H)/\∀i m σ H,W i m σ H->
   ((Itl K a).stop i H/\nx σ H)\/((Itl K a).go i H/\∃N:St->Hp->Prop,(∀σ' H',N σ' H'->∃m',m'<m/\W (i+1) m' σ' H')/\∀x H',(Itl K a).yld i H x H'->g x σ H' λσ2 H2=>tb ⟨N,rt,nx,N⟩ σ2 H2):=
 Br (D:=⟨nx,rt,λ_ _=>False,λ_ _=>False⟩) Pv h0 hl hs hd
theorem rG {lo:Int} (Pv:Nat->St->Hp->Prop) (h0:Pv 0 σ H)
  (hs:∀i σ H,i<n->Pv i σ H->g (.int (lo+i)) σ H λσ2 H2=>tb ⟨Pv (i+1),rt,nx,Pv (i+1)⟩ σ2 H2) (hd:∀σ H,Pv n σ H->nx σ H):
  ∃W:Nat->Nat->St->Hp->Prop,(∃m,W 0 m σ H)/\∀i m σ H,W i m σ H->
   ((Itr lo n).stop i H/\nx σ H)\/((Itr lo n).go i H/\∃N:St->Hp->Prop,(∀σ' H',N σ' H'->∃m',m'<m/\W (i+1) m' σ' H')/\∀x H',(Itr lo n).yld i H x H'->g x σ H' λσ2 H2=>tb ⟨N,rt,nx,N⟩ σ2 H2):=
 zK (D:=⟨nx,rt,λ_ _=>False,λ_ _=>False⟩) Pv h0 hs hd
theorem m8 {k:Int} (h0:0<=k) (h:k<(ns.length:Int)):atI (ns.map V.int) k=some (.int (ns.getD k.toNat 0)):=by
 obtain⟨j,rfl⟩:=Xc h0;refine vf ?_;have hj:j<ns.length:=by lia
 rw[Qg,Q4 hj,QW,Qy,Q4 hj];rfl
theorem BB {k:Int} (h:¬k<(ns.length:Int)):ns.getD k.toNat 0=0:=by
 rw[Qy,Xp (by lia)];rfl
section
theorem j2:iM X (.builtin "isinstance") (λxs H Q=>∃x n t b,xs=[x,.ty n]/\TyOf X.K H x t/\PySem.W.kitOne X.K t (.type n)=some b/\Q (.bl b) H):=by
 intro pins s σ H xs us Q I r h;obtain⟨x,n,t,b,rfl,ty,e,q⟩:=h;obtain⟨u,w',rfl,ru,rw'⟩:=sU r;cases (show w'=Value.type n from rw');exact tK I ru ty e λtk=>⟨.bl b,H,I.tok _,rfl,q⟩
end
theorem fsc {P:List Str} {sc:Scope} (a:sc.kind= .function:=by rfl) (b:sc.isCoroutine=false:=by rfl) (c:sc.isGenerator=false:=by rfl) (d:N.Nodup:=by decide+kernel) (e:N.take P.length=P:=by rfl) (f:∀x∈P,sc.names.lookup x=some .local\/sc.names.lookup x=some .cell:=by decide+kernel) (g:∀y∈sc.names,y.2≠ .free:=by decide+kernel):ax N P sc:=⟨a,b,c,d,e,f,g⟩
theorem Room.mo {j k:Nat} {A:Around} (r:Room k A) (h:j<=k:=by decide):Room j A:=r.mono h
theorem Fun.okl {mg:Str->Option Value} {ps:List Str} {k:Nat} (F:Fun K x qual st f fd) (S:ax N ps (aj st))
  (hbody:∀(cdv:Value) (A:Around) (outer:List Env) (s:Shared) (H:Hp) (vs:List V) (Q:VK) (E:XK),Room k (A.deeper (envOfC qual (aj st) s.heap.objs.size f cdv))->sp vs H Q E->
   ∃t,PSs (m6 CX0 P w K mg base N qual (aj st) f cdv A outer s H E).nox (b7 st) t/\t {nx:=λ_ H'=>Q .non H',rt:=Q} (start N vs) H)
  (len:∀vs H Q E,sp vs H Q E->vs.length=ps.length:=by intro _ _ _ _ h;repeat (first|(obtain⟨rfl,_⟩:=h;exact rfl)|obtain⟨_,h⟩:=h)):FnOk P w K mg base CX0 (k+1) f fd ps sp:=F.ok S len hbody
end
end L2
namespace SW
end SW
namespace L2
open PySem PySem.Spec PyProof.Rows
variable {C T f:Addr} {old:Addr->Prop} {A:Around} {g:Array GenState} {vs:Array Value} {ab:Bool} {d:Drawn} {base h:Heap} {φ:Heap->Prop} {H:Hp} {l:List Addr} {outer:List Env} {N sn:List Str} {bm sub us:List Value} {M:Model} {t:Nat} {dd od:Option Addr} {col:Option Bool} {os:OsState} {P prog:Program} {K:PySem.W.Frag} {R:Result->Shared->Prop} {s s':Shared} {qual:Str} {Q:Unit->Shared->Prop} {e:Value} {E W:Value->Shared->Prop} {w:World}
section
abbrev aO (C:Addr) (od:Option Addr) (vs:Array Value):Obj:={cls:= .ref C,dict:=od,data:= .fields vs}
def Trc (h:Heap) (e:Addr) (vs:Array Value) (T:Addr) (fl:Value):Prop:=
 vs[1]?=some (.ref T)/\T≠e/\∃oT ts,h.get? T=some oT/\oT.data= .fields ts/\ts[3]?=some fl
structure Noted (l:List Addr) (e:Addr) (old:Addr->Prop) (h h':Heap):Prop where
 keep:∀b o,h.get? b=some o->b∉l->b≠e->¬old b->h'.get? b=some o
 slot:∀b o,h.get? b=some o->b∈l->b≠e->¬old b->∃sl,h'.get? b=some {o with slots:=sl}
 there:∀b o,h.get? b=some o->∃o',h'.get? b=some o'
section
variable {env:Env} {L e:Addr}
theorem EY (hl:s.heap.FunFrames base (env::outer)) (he:s.heap.get? e=some (aO C od vs)):e∉frs (env::outer):=λhm=>by
 obtain⟨_,o,ho,hn⟩:=hl.mem hm;cases he.symm.trans ho;exact hn vs rfl
theorem rc {head:Value} {had:Bool} (hfr:A.frames=some (env::outer)) (hl:s.heap.FunFrames base (env::outer)) (hf:env.frame=some L) (he:s.heap.get? e=some (aO C od vs)) (hsz:1<vs.size)
  (q:∀h' T vs',Noted (frs (env::outer)) e (λ_=>False) s.heap h'->h'.get? e=some (aO C od vs')->(vs'.size=vs.size/\vs'[2]?=vs[2]?)->s.heap.objs.size<=T->Trc h' e vs' T (rawInt L)->Q () {s with heap:=h'}):
  wpAny M A (do let a<-frameOf env;let pl<-entryPlaceOf L had;let b<-EntryCells.newEntry head a .none (rawInt L) .none pl;setField (.ref e) 1 b) Q E s:=by
 have nf:e∉(env::outer).filterMap (·.frame):=EY hl he;refine wpAny_bind (wpAny_frameOf_fun hfr hl hf λh1 so=>?_);refine wpAny_bind (wpAny_entryPlaceOf λpl ip=>?_);unfold EntryCells.newEntry newFields;refine wpAny_bind (wpAny_newObj_type ?_ (ip.sizeOk5 _ _ _ _ _));have e1:h1.get? e=some (aO C od vs):=(so.2.1 e nf).trans he;have big:3<([head,Value.ref L,.none,rawInt L,.none]++(if pl.isEmpty then List.replicate 6 Value.none else pl)).toArray.size:=by
  simp only[Qc,Q9,Qf,X1];lia
 have at3:([head,Value.ref L,.none,rawInt L,.none]++(if pl.isEmpty then List.replicate 6 Value.none else pl)).toArray[3]?=some (rawInt L):=by simp
 generalize ([head,Value.ref L,.none,rawInt L,.none]++(if pl.isEmpty then List.replicate 6 Value.none else pl)).toArray=ts at big at3;generalize eo:({cls:= .type "traceback",dict:=none,data:= .fields ts}:Obj)=oT;have e2:(h1.push oT).get? e=some (aO C od vs):=Heap.get?_push_of_some _ e1;have ne:h1.objs.size≠e:=XI (Heap.lt_size e1);refine wpAny_setField e2 rfl hsz (q _ h1.objs.size (vs.setIfInBounds 1 (.ref h1.objs.size)) ⟨λb o g1 g2 g3 _=>?_,λb o g1 _ g3 _=>?_,λb o g1=>?_⟩ ?_ ⟨Array.size_setIfInBounds,by simp⟩ (Zc so.1.symm) ⟨by simp[hsz],ne,oT,ts,?_,by rw[<-eo],at3⟩)
 .rw[Heap.get?_update_other _ _ (Ne.symm g3)];exact Heap.get?_push_of_some _ ((so.2.1 b g2).trans g1)
 .obtain⟨sl,r⟩:=so.2.2 b o g1;exact⟨sl,(Heap.get?_update_other _ _ (Ne.symm g3)).trans (Heap.get?_push_of_some _ r)⟩
 .by_cases z:b=e
  .subst z;exact⟨_,Heap.get?_update_self _ e2 rfl⟩
  .obtain⟨sl,r⟩:=so.2.2 b o g1;exact⟨_,(Heap.get?_update_other _ _ (Ne.symm z)).trans (Heap.get?_push_of_some _ r)⟩
 .exact Heap.get?_update_self _ e2 rfl
 .rw[Heap.get?_update_other _ _ (Ne.symm ne),<-eo];exact Heap.get?_push_size h1 rfl
theorem xp (hfr:A.frames=some (env::outer)) (hl:s.heap.FunFrames base (env::outer)) (hf:env.frame=some L) (he:s.heap.get? e=some (aO C od vs)) (h1:vs[1]?=some .none)
  (q:∀h' T vs',Noted (frs (env::outer)) e (λ_=>False) s.heap h'->h'.get? e=some (aO C od vs')->(vs'.size=vs.size/\vs'[2]?=vs[2]?)->s.heap.objs.size<=T->Trc h' e vs' T (rawInt L)->Q () {s with heap:=h'}):
  wpAny M A (noteFrame (.ref e) env) Q E s:=by
 unfold noteFrame;simp only[hf];refine wpAny_bind (wpAny_field he rfl h1 ?_);rw[if_neg (by decide)];exact rc hfr hl hf he (ZH.mp h1).1 q
theorem zn (hfr:A.frames=some (env::outer)) (hl:s.heap.FunFrames base (env::outer)) (hf:env.frame=some L) (he:s.heap.get? e=some (aO C od vs)) (tr:Trc s.heap e vs T .none)
  (q:∀h' T' vs',Noted (frs (env::outer)) e (· =T) s.heap h'->h'.get? e=some (aO C od vs')->(vs'.size=vs.size/\vs'[2]?=vs[2]?)->s.heap.objs.size<=T'->Trc h' e vs' T' (rawInt L)->Q () {s with heap:=h'}):
  wpAny M A (noteFrame (.ref e) env) Q E s:=by
 obtain⟨h1,ne,oT,ts,hT,hd,h3⟩:=tr;unfold noteFrame;simp only[hf];refine wpAny_bind (wpAny_field he rfl h1 ?_);rw[if_pos (show(Value.ref T !=Value.none)=true by simp)];refine wpAny_bind (wpAny_field hT hd h3 ?_);rw[if_neg (show ¬(Value.none==rawInt L)=true by simp[rawInt])];have oth:∀b,b≠T->(s.heap.update T (Obj.mapFields (·.setIfInBounds 3 Value.none))).get? b=s.heap.get? b:=λb z=>Heap.get?_update_other _ _ (Ne.symm z);have nofr:∀b o,s.heap.get? b=some o->(∀ws,o.data≠ .fields ws)->b≠T:=λb o g1 g2 z=>by
  subst z;cases hT.symm.trans g1;exact g2 ts hd
 refine wpAny_bind (wpAny_setField hT hd (ZH.mp h3).1 ?_);refine rc hfr (hl.of_keeps λb o g1 g2=>⟨o,(oth b (nofr b o g1 g2)).trans g1,rfl⟩) hf ((oth e (Ne.symm ne)).trans he) (ZH.mp h1).1 λh' T' vs' n g1 g2 g3 g4=>?_;refine q h' T' vs' ⟨λb o k1 k2 k3 k4=>n.keep b o ((oth b k4).trans k1) k2 k3 id,λb o k1 k2 k3 k4=>n.slot b o ((oth b k4).trans k1) k2 k3 id,λb o k1=>?_⟩ g1 g2 (by rw[Heap.size_after_update]at g3;exact g3) g4;by_cases z:b=T
 .subst z;exact n.there b _ (Heap.get?_update_self _ hT (Obj.isFreed_of_fields (Obj.data_mapFields hd _)))
 .exact n.there b o ((oth b z).trans k1)
theorem l4 {l:List Addr} {fl:Value} (he:s.heap.get? e=some (aO C od vs)) (tr:Trc s.heap e vs T fl)
  (q:∀h',(∀b o,b≠T->s.heap.get? b=some o->h'.get? b=some o)->h'.get? e=some (aO C od vs)->(∃o,h'.get? T=some o)->h'.objs.size=s.heap.objs.size->Trc h' e vs T .none->Q () {s with heap:=h'}):
  wpAny M A (setFlight (.ref e) none) Q E s:=by
 obtain⟨h1,ne,oT,ts,hT,hd,h3⟩:=tr;have big:3<ts.size:=(ZH.mp h3).1;unfold setFlight;refine wpAny_bind (wpAny_field he rfl h1 ?_);rw[if_pos (show(Value.ref T !=Value.none)=true by simp)];have oth:∀b,b≠T->(s.heap.update T (Obj.mapFields (·.setIfInBounds 3 ((none:Option Addr).elim Value.none λf=>rawInt f)))).get? b=s.heap.get? b:=λb z=>Heap.get?_update_other _ _ (Ne.symm z);have new:=Heap.get?_update_self (Obj.mapFields (·.setIfInBounds 3 ((none:Option Addr).elim Value.none λf=>rawInt f))) hT (Obj.isFreed_of_fields (Obj.data_mapFields hd _));exact wpAny_setField hT hd big (q _ (λb o z g=>(oth b z).trans g) ((oth e (Ne.symm ne)).trans he) ⟨_,new⟩ (Heap.size_after_update ..) ⟨h1,ne,_,_,new,Obj.data_mapFields hd _,by simp[big]⟩)
end
end
section
def XN (e C:Addr) (od:Option Addr):HO:= .ext λh=>∃t,h.get? e=some (aO C od #[.ref t,.none,.none,.none,.bool false,.none])
def XO (e C:Addr) (od:Option Addr):HO:= .ext λh=>∃vs,h.get? e=some (aO C od vs)/\1<vs.size
section
variable {h':Heap} {e:Addr}
theorem Aa {t:Addr} (k:h.get? e=some (aO C od #[.ref t,.none,.none,.none,.bool false,.none])):ObjOk P w H h e (XN e C od):=
 ⟨⟨t,k⟩,⟨_,k⟩,λ_ _ ⟨t,k⟩ st=>⟨t,st _ k⟩⟩
theorem DB (k:h.get? e=some (aO C od vs)) (z:1<vs.size):ObjOk P w H h e (XO e C od):=
 ⟨⟨vs,k,z⟩,⟨_,k⟩,λ_ _ ⟨vs,k,z⟩ st=>⟨vs,st _ k,z⟩⟩
theorem Ab (ok:HOk P w H h) (q:H e=some (XN e C od)):∃t,h.get? e=some (aO C od #[.ref t,.none,.none,.none,.bool false,.none]):=(ok e _ q).1
theorem DD (ok:HOk P w H h) (q:H e=some (XO e C od)):∃vs,h.get? e=some (aO C od vs)/\1<vs.size:=(ok e _ q).1
theorem Noted.hok (n:Noted l e old h h') (ok:HOk P w H h) (hl:∀b∈l,H b=none) (ho:∀b,old b->H b=none) (he:H e=some (.ext φ))
  (new:h'.get? e=some (aO C od vs)) (z:1<vs.size):HOk P w (upd H e (XO e C od)) h':=λb u q=>by
 by_cases hb:b=e
 .subst hb;rw[af]at q;cases q;exact DB new z
 .rw[ac hb]at q;have oth:∀c v,H c=some v->c≠e->∀o,h.get? c=some o->h'.get? c=some o:=λc v r ne o g=>
   n.keep c o g (λm=>by rw[hl c m]at r;cases r) ne λm=>by rw[ho c m]at r;cases r
  refine(ok b u q).stay (λc v hc r=>?_) (λc r=>?_) λc xs r=>?_
  .rcases hc with rfl|hc
   .exact oth _ _ q hb v r
   .exact oth _ _ hc (λm=>by rw[m,he]at hc;cases hc) v r
  .rw[ac (λm=>by rw[m,he]at r;cases r)];exact r
  .rw[ac (λm=>by rw[m,he]at r;cases r)];exact r
theorem Noted.un {ch:List Addr} {o':HO} (n:Noted l e old h h') (hc:∀b,old b->b∈ch) (he:H e=some (.ext φ)):Un l ch H (upd H e o') h h':=by
 have ne:∀b,H b=none->b≠e:=λb r z=>by rw[z,he]at r;cases r
 refine⟨λb o g r m k=>n.keep b o g m (ne b r) λz=>k (hc b z),λb o g r m k=>n.slot b o g m (ne b r) λz=>k (hc b z),λb o _ r _=>by rw[ac (ne b r)];exact r,λb o g _=>n.there b o g,λb xs r=>?_,λb o u r=>?_,λb ps r=>⟨#[],?_⟩⟩
 .rw[ac (λm=>by rw[m,he]at r;cases r)];exact r
 .rw[ac (λm=>by rw[m,he]at r;cases r)];exact r
 .rw[ac (λm=>by rw[m,he]at r;cases r),r];simp
end
def CX1 (P:Program) (w:World):CXT:=λouter H s E e s'=>∃(ea C:Addr) (od:Option Addr) (vs:Array Value) (T:Addr) (H':Hp),
 e= .ref ea/\s'.os=s.os/\AllBare s'.gens/\Un (frs outer) [] H H' s.heap s'.heap/\HOk P w H' s'.heap/\H' ea=some (XO ea C od)/\s'.heap.get? ea=some (aO C od vs)/\1<vs.size/\
 Trc s'.heap ea vs T .none/\H' T=none/\s.heap.objs.size<=T/\E (.ref ea) od H'
end
section
theorem qf {a:Addr} {o:HO} (h:H a=some o):upd H a o=H:=by
 funext b;by_cases z:b=a
 .subst z;rw[af,h]
 .rw[ac z]
def yV (X:Cx) (E:St->XK) (e:Value) (s:Shared):Prop:=∃(pins:List (Addr×Obj)) (σ:St) (H:Hp) (ea C:Addr) (od:Option Addr) (vs:Array Value) (φ:Heap->Prop),
 e= .ref ea/\Inv X pins σ H s/\H ea=some (.ext φ)/\s.heap.get? ea=some (aO C od vs)/\1<vs.size/\(vs[1]?=some .none\/∃T,Trc s.heap ea vs T .none/\kg X pins H T)/\E σ (.ref ea) od (upd H ea (XO ea C od))
section
variable {X:Cx} {pins:List (Addr×Obj)} {σ:St}
theorem xo {ea:Addr} (I:Inv X pins σ H s) (hst:X.stack=X.env::X.outer) (hf:X.env.frame=some X.env.locals) (hA:A.frames=some X.stack)
  (hx:H ea=some (.ext φ)) (hr:s.heap.get? ea=some (aO C od vs)) (hz:1<vs.size) (ht:vs[1]?=some .none\/(∃T,Trc s.heap ea vs T .none/\kg X pins H T)\/∃T,Trc s.heap ea vs T (rawInt X.env.locals)/\kg X pins H T)
  (q:∀s' vs' T,Inv X pins σ (upd H ea (XO ea C od)) s'->s'.heap.get? ea=some (aO C od vs')->1<vs'.size->Trc s'.heap ea vs' T .none->kg X pins (upd H ea (XO ea C od)) T->vs'[2]?=vs[2]?->Q () s'):
  wpAny M A (noteFrame (.ref ea) X.env) (λ_ s1=>wpAny M A (setFlight (.ref ea) none) Q W s1) W s:=by
 rw[hst]at hA;have hl:s.heap.FunFrames X.base (X.env::X.outer):=hst▸I.stack;have hfree:∀b∈frs (X.env::X.outer),H b=none:=hst▸I.stkFree;have fin:∀(old:Addr->Prop) (ch:List Addr) (h1:Heap) (T':Addr) (vs':Array Value),(∀b,old b↔b∈ch)->(∀b∈ch,kg X pins H b)->Noted (frs (X.env::X.outer)) ea old s.heap h1->h1.get? ea=some (aO C od vs')->(vs'.size=vs.size/\vs'[2]?=vs[2]?)->
   s.heap.objs.size<=T'->Trc h1 ea vs' T' (rawInt X.env.locals)->wpAny M A (setFlight (.ref ea) none) Q W {s with heap:=h1}:=by
  intro old ch h1 T' vs' hoc hch n g1 g2 g3 g4;refine l4 (l:=[]) (s:={s with heap:=h1}) g1 g4 λh2 k1 k2 k3 k4 k5=>?_;have nT:∀b o,s.heap.get? b=some o->b≠T':=λb o g z=>absurd (Heap.lt_size g) (XF.mpr (z▸g3));have n2:Noted (frs (X.env::X.outer)) ea old s.heap h2:=⟨λb o r1 r2 r3 r4=>k1 b o (nT b o r1) (n.keep b o r1 r2 r3 r4),λb o r1 r2 r3 r4=>by
    obtain⟨sl,r⟩:=n.slot b o r1 r2 r3 r4;exact⟨sl,k1 b _ (nT b o r1) r⟩,λb o r1=>by
    obtain⟨o',r⟩:=n.there b o r1;exact⟨o',k1 b _ (nT b o r1) r⟩⟩
  have hok2:HOk X.prog X.w (upd H ea (XO ea C od)) h2:=n2.hok I.hok hfree (λb z=>(hch b ((hoc b).mp z)).1) hx k2 (g2.1▸hz);have un2:Un (frs X.stack) ch H (upd H ea (XO ea C od)) s.heap h2:=by
   rw[hst];exact n2.un (λb z=>(hoc b).mp z) hx
  have I2:Inv X pins σ (upd H ea (XO ea C od)) {s with heap:=h2}:=I.call' (s':={s with heap:=h2}) rfl un2 hok2 I.bare λb hb=>by
   obtain⟨z1,z2,z3,z4,z5,z6⟩:=hch b hb;exact⟨z4,z2,z5,z6⟩
  refine q _ vs' T' I2 k2 (g2.1▸hz) k5 (I.fpOk g3 ?_) g2.2;have neT:T'≠ea:=Ne.symm (nT ea _ hr);rw[ac neT];exact I.hok.fresh g3
 rcases ht with h1|⟨T,tr,fp⟩|⟨T,tr,fp⟩
 .exact xp hA hl hf hr h1 λh1 T' vs' n g1 g2 g3 g4=>fin (λ_=>False) [] h1 T' vs' (λb=>by simp) (λb z=>nomatch z) n g1 g2 g3 g4
 .exact zn hA hl hf hr tr λh1 T' vs' n g1 g2 g3 g4=>fin (· =T) [T] h1 T' vs' (λb=>by simp) (λb z=>by rw[Qe.mp z];exact fp) n g1 g2 g3 g4
 .obtain⟨h1,ne,oT,ts,hT,hd,h3⟩:=id tr;refine wpAny_noteFrame_inFlight hf hr rfl h1 hT hd h3 ?_;refine l4 (l:=[]) hr tr λh' k1 k2 k3 k4 k5=>?_;have I1:Inv X pins σ H {s with heap:=h'}:=I.turned (t':=s.toks) (it:=T) k1 fp.1 fp.2.1 fp.2.2.2.1 fp.2.2.2.2.1 fp.2.2.2.2.2;have I2:Inv X pins σ (upd H ea (XO ea C od)) {s with heap:=h'}:=I1.write (x:=ea) (e:=ea) (t':=s.toks) (by rw[hx];exact True.intro) (.inl rfl) (λ_ _ _ e=>e) ⟨_,k2⟩ (DB k2 hz);exact q _ vs T I2 k2 hz k5 ⟨by rw[ac ne];exact fp.1,fp.2.1,fp.2.2.1,fp.2.2.2.1,fp.2.2.2.2.1,fp.2.2.2.2.2⟩ rfl
theorem tD {ea:Addr} (I:Inv X pins σ H s) (hst:X.stack=X.env::X.outer) (hf:X.env.frame=some X.env.locals) (hA:A.frames=some X.stack)
  (hx:H ea=some (.ext φ)) (hr:s.heap.get? ea=some (aO C od vs)) (hz:1<vs.size) (ht:vs[1]?=some .none\/∃T,Trc s.heap ea vs T .none/\kg X pins H T)
  (q:∀s' vs' T,Inv X pins σ (upd H ea (XO ea C od)) s'->s'.heap.get? ea=some (aO C od vs')->1<vs'.size->Trc s'.heap ea vs' T .none->kg X pins (upd H ea (XO ea C od)) T->Q () s'):
  wpAny M A (noteFrame (.ref ea) X.env) (λ_ s1=>wpAny M A (setFlight (.ref ea) none) Q W s1) W s:=
 xo I hst hf hA hx hr hz (ht.imp id .inl) λs' vs' T I' r z t f _=>q s' vs' T I' r z t f
theorem Inv.thrown {E:XK} (I:Inv X pins σ H s) (h:CX1 X.prog X.w X.stack H s E e s'):∃(ea C:Addr) (od:Option Addr) (vs:Array Value) (H':Hp),e= .ref ea/\Inv X pins σ H' s'/\H' ea=some (XO ea C od)/\
  s'.heap.get? ea=some (aO C od vs)/\1<vs.size/\(∃T,Trc s'.heap ea vs T .none/\kg X pins H' T)/\E (.ref ea) od H':=by
 obtain⟨ea,C,od,vs,T,H',rfl,os,bare,un,hok,hx,hr,hz,tr,hT,hn,q⟩:=h;exact⟨ea,C,od,vs,H',rfl,I.call' os un hok bare λb z=>absurd z (by simp),hx,hr,hz,⟨T,tr,I.fpOk hn hT⟩,q⟩
theorem Inv.flies {E:XK} {F:St->XK} (I:Inv X pins σ H s) (h:CX1 X.prog X.w X.stack H s E e s') (k:∀v od H',E v od H'->F σ v od H'):yV X F e s':=by
 obtain⟨ea,C,od,vs,H',rfl,I',hx,hr,hz,ht,q⟩:=I.thrown h;exact⟨pins,σ,H',ea,C,od,vs,_,rfl,I',hx,hr,hz,.inr ht,by rw[qf hx];exact k _ _ _ q⟩
end
section
variable {mg:Str->Option Value} {scope:Scope} {cd:Value} {E:XK}
theorem we (h:yV (m6 (CX1 P w) P w K mg base N qual scope f cd A outer s H E) (λ_=>E) e s'):(m6 (CX1 P w) P w K mg base N qual scope f cd A outer s H E).xe e s':=by
 obtain⟨pins,σ,H1,ea,C,od,vs,φ,rfl,I,hx,hr,hz,ht,q⟩:=h;show wpAny _ _ (leaving _ (.ref ea)) _ _ s';unfold leaving;refine wpAny_bind (tD I rfl rfl I.ok.frames hx hr hz ht λs2 vs2 T I2 r2 z2 t2 f2=>?_);refine⟨ea,C,od,vs2,T,_,rfl,I2.os,I2.bare,I2.base,I2.hok,af,r2,z2,t2,f2.1,?_,q⟩;rcases f2.2.2.2.1 with z|z
 .exact absurd (show T∈([]:List Addr) from z) (by simp)
 .exact z
theorem FH:eR (CX1 P w) (m6 (CX1 P w) P w K mg base N qual scope f cd A outer s H E) E:=
 λ_ _ _ _ _ _ I h=>we (I.flies h λ_ _ _ q=>q)
theorem Fun.okX {x:Str} {st:Stmt} {fd:FuncData} {ps:List Str} {k:Nat} {sp:Sp} (F:Fun K x qual st f fd) (S:ax N ps (aj st)) (len:∀vs H Q E,sp vs H Q E->vs.length=ps.length)
  (hbody:∀(cdv:Value) (A:Around) (outer:List Env) (s:Shared) (H:Hp) (vs:List V) (Q:VK) (E:XK),Room k (A.deeper (envOfC qual (aj st) s.heap.objs.size f cdv))->sp vs H Q E->
   ∃t,PSs (m6 (CX1 P w) P w K mg base N qual (aj st) f cdv A outer s H E) (b7 st) t/\t {nx:=λ_ H'=>Q .non H',rt:=Q} (start N vs) H):FnOk P w K mg base (CX1 P w) (k+1) f fd ps sp:=by
 obtain⟨oc,od,kV,doc,pm,an,cdv,ct,osl,rfl,lk,hcd⟩:=F.ex;exact yD lk hcd S len λA outer s H vs Q E hr hsp=>hbody cdv A outer s H vs Q E hr hsp
end
end
section
abbrev vBase:List Value:=[.type "ValueError",.type "Exception",.type "BaseException",.type "object"]
def ExcMro (bm:List Value):Prop:=∃ups:List Addr,bm=ups.map Value.ref++vBase
theorem ExcMro.typ (B:ExcMro bm) (T:String):bm.contains (.type T)=vBase.contains (.type T):=by
 obtain⟨ups,rfl⟩:=B
 induction ups with
 |nil=>rfl
 |cons a r ih=>rw[Qu,Xb,Za,ih];rfl
theorem ExcMro.val (B:ExcMro bm):bm.contains (.type "ValueError")=true:=(B.typ _).trans (by decide+kernel)
theorem ExcMro.bas (B:ExcMro bm):bm.contains (.type "BaseException")=true:=(B.typ _).trans (by decide+kernel)
theorem ExcMro.att (B:ExcMro bm):bm.contains (.type "AttributeError")=false:=(B.typ _).trans (by decide+kernel)
theorem ExcMro.nam (B:ExcMro bm):bm.contains (.type "NameError")=false:=(B.typ _).trans (by decide+kernel)
theorem ExcMro.obj (B:ExcMro bm):bm.contains (.type "object")=true:=(B.typ _).trans (by decide+kernel)
theorem ExcMro.pass (B:ExcMro bm) (self:Value):refuseLoop self "__setattr__" bm=pure ():=by
 obtain⟨ups,rfl⟩:=B
 induction ups with
 |nil=>exact PySem.F.store_ValueError.passes self
 |cons a r ih=>rw[Qu,Xb,refuseLoop_ref];exact ih
structure XCls (K:PySem.W.Frag) (C:Addr) (bm:List Value):Prop where
 ob:∃nm q N bs sn sub ab col dd k0 k1 k2 k3 k5,K.lookup C=some (excClassObj nm q C N bs bm true sn sub ab col dd k0 k1 k2 k3 k5 "ValueError.__new__")
 mro:ExcMro bm
 kp:PySem.W.keepIn K (.ref C)=true
 ga:PySem.W.findIn K (.ref C) "__getattribute__"=some (some (.builtin "BaseException.__getattribute__"))
 gn:PySem.W.findIn K (.ref C) "__getattr__"=some none
 sa:PySem.W.findIn K (.ref C) "__setattr__"=some (some (.builtin "object.__setattr__"))
section
variable {nm q:Str} {N:Addr} {bs:List Value} {k0 k1 k2 k3 k5:Option Value}
abbrev cN (C t:Addr):Obj:=aO C none #[.ref t,.none,.none,.none,.bool false,.none]
abbrev iN (us:List Value):Obj:={cls:= .type "tuple",data:= .seq us.toArray}
theorem Dk {rest:List Value} (B:ExcMro bm) (hC:h.get? C=some (excClassObj nm q C N bs bm true sn sub ab col dd k0 k1 k2 k3 k5 "ValueError.__new__")) (hz:rest.length<=sizeLine)
  (hq:R (.ok (.ret (.ref (h.objs.size+1)))) ⟨(h.push (iN rest)).push (cN C h.objs.size),g,d,t,os⟩):
  codeAny (model prog w) A (.call (.builtin "ValueError.__new__") ⟨.ref C::rest,[]⟩) R ⟨h,g,d,t,os⟩:=by
 have F:=K2;have c1:(Value.ref C::bm).contains (.type "ValueError")=true:=by rw[Za,B.val,Xf]
 have c2:(Value.ref C::bm).contains (.type "AttributeError")=false:=by rw[Za,B.att];rfl
 have c3:(Value.ref C::bm).contains (.type "NameError")=false:=by rw[Za,B.nam];rfl
 have st:=F.noStar;have en:=F.ends;refine codeAny_call_builtin_code (Code.quiet_builtin _ F.quiet) ?_;simp only[checkBuiltinCall,F.newKind,F.newSplit,F.newRow]
 repeat (first|refine wpAny_loadPart_at hC ?_|(refine wpAny_isSubtype_exc hC ?_;rw[c1])|refine wpAny_staticBase_exc hC ?_|refine wpAny_madeBy_exc hC ?_|simp only[bne_self_eq_false,QS,if_false]|wp_step)
 refine codeAny_builtinAt F.entry ?_;unfold Builtin.«BaseException.__new__»;refine PySem.wpAt_bind ?_;show PySem.wpAt _ _ _ (stack>>=_) _ _ _;refine PySem.wpAt_bind (PySem.wpAt_stack λp below=>PySem.wpAt_of_wpAny ?_)
 wp_walk
 refine PySem.wpAt_of_wpAny ?_;rw[F.owner]
 repeat (first|with_reducible refine wpAny_madeHere_exc F.canon hC ?_|with_reducible refine wpAny_loadPart_at hC ?_|(with_reducible refine wpAny_isSubtype_exc hC ?_;first|rw[c1]|rw[c2]|rw[c3])|wp_step)
 show R _ _;rw[Heap.size_push];exact hq
open PySem.W in
theorem Bu {fi:Value} (X:K.In h) (Y:XCls K C bm) (hz:us.length<=sizeLine) (hi:findIn K (.ref C) "__init__"=some (some fi)) (hf:∀self,Looks (model prog w) h (bindSpecial fi self) (fi,[self]))
  (hq:codeAny (model prog w) (A.under (.builtin "type.__call__" ⟨.ref C::us,[]⟩)) (.call fi ⟨.ref (h.objs.size+1)::us,[]⟩) (InitBack (h.objs.size+1) R) ⟨(h.push (iN us)).push (cN C h.objs.size),g,d,t,os⟩):
  codeAny (model prog w) A (.call (.ref C) ⟨us,[]⟩) R ⟨h,g,d,t,os⟩:=by
 obtain⟨nm,q,N,bs,sn,sub,ab,col,dd,k0,k1,k2,k3,k5,hK⟩:=Y.ob;have hC:=X _ _ hK;have B:=Y.mro;have cC:(Value.ref C::bm).contains (.ref C)=true:=by simp
 have hl:=looks_findIn (M:=model prog w) X hi;have f1:=tc_lookup;have f2:=tc_bind (.ref C);have hT:(⟨h,g,d,t,os⟩:Shared).TypeIs (.ref C) "type":=⟨_,hC,rfl⟩;refine codeAny_of_tree ?_;show wpAny _ _ (callAny (.ref C) _) _ _ _
 repeat (any_goals (first|assumption|with_reducible refine wpAny_loadPart_at hC ?_|wp_step))
 refine⟨rfl,?_⟩;refine codeAny_call_builtin_at (Code.quiet_builtin _ (by decide+kernel)) entry_typeCall (wpAny_check_type_call_sub hC ?_)
 repeat (first|with_reducible refine wpAny_loadPart_at hC ?_|with_reducible refine wpAny_madeBy_exc hC ?_|wp_step)
 refine Dk B hC hz ?_;show wpAny _ (A.under (.builtin "type.__call__" ⟨.ref C::us,[]⟩)) _ _ _ ⟨(h.push (iN us)).push (cN C h.objs.size),g,d,t,os⟩;have k:∀b o,h.get? b=some o->((h.push (iN us)).push (cN C h.objs.size)).get? b=some o:=λb o e=>Heap.get?_push_of_some _ (Heap.get?_push_of_some _ e);have he:((h.push (iN us)).push (cN C h.objs.size)).get? (h.objs.size+1)=some (cN C h.objs.size):=by heap_get
 have hC1:=k _ _ hC;have hl1:=hl.keeps k;have fb:=(hf (.ref (h.objs.size+1))).keeps k;have t1:Looks (model prog w) ((h.push (iN us)).push (cN C h.objs.size)) (typeOf (.ref (h.objs.size+1))) (.ref C):=(Looks.ld he).andThen .now;have s1:Looks (model prog w) ((h.push (iN us)).push (cN C h.objs.size)) (isSubtype (.ref C) (.ref C)) true:=λA' Q' E' s' kk z=>by
  obtain⟨hp,g',d',t',os'⟩:=s';exact wpAny_isSubtype_exc (kk _ _ hC1) (by rw[cC];exact z)
 unfold isInstance callSpecial? specialOf
 repeat (first|simp only[cC,Bool.not_true,QS,if_false]|with_reducible refine wpAny_call ?_|lk)
 refine codeAny_mono hq λr s' z=>?_;rcases r with e|(v|_|_|_)<;>first|exact z|exact z.elim|skip
 obtain⟨rfl,z⟩:=z;exact wpAny_pure (wpAny_pure z)
end
end
section
section
variable {nm q:Str} {N:Addr} {bs:List Value} {k0 k1 k2 k3 k5:Option Value}
theorem Bv {e:Addr} {t0:Addr} (B:ExcMro bm) (hC:h.get? C=some (excClassObj nm q C N bs bm true sn sub ab col dd k0 k1 k2 k3 k5 "ValueError.__new__"))
  (he:h.get? e=some (aO C od #[.ref t0,.none,.none,.none,.bool false,.none])) (hz:us.length<=sizeLine)
  (hq:∀h',(∀b o,b≠e->h.get? b=some o->h'.get? b=some o)->h'.get? e=some (aO C od #[.ref h.objs.size,.none,.none,.none,.bool false,.none])->R (.ok (.ret .none)) ⟨h',g,d,t,os⟩):
  codeAny (model prog w) A (.call (.builtin "ValueError.__init__") ⟨.ref e::us,[]⟩) R ⟨h,g,d,t,os⟩:=by
 have F:=K2;have c1:(Value.ref C::bm).contains (.type "ValueError")=true:=by rw[Za,B.val,Xf]
 have st:=F.noStar;refine codeAny_call_builtin F.init.plain F.initEntry ?_;simp only[checkBuiltinCall,F.initKind,F.initSplit,F.initRow]
 repeat (first|with_reducible refine wpAny_loadPart_at he ?_|with_reducible refine wpAny_loadPart_at hC ?_|(with_reducible refine wpAny_isSubtype_exc hC ?_;rw[c1])|wp_step)
 refine wpAny_onRaise ?_;rw[show ∀(a b:String) (n:Nat),Bind.check ⟨.positional,"*","ValueError",.self,[⟨"args",.varPos,false⟩]⟩ a b n (List.map (λx=>x.fst) ({pos:=Value.ref e::us}:Args).kw)=pure () from λa b n=>check_star_args _ _ _ _ _ _];refine wpAny_pure ?_
 wp_walk
 have he1:(h.push (iN us)).get? e=some (aO C od #[.ref t0,.none,.none,.none,.bool false,.none]):=Heap.get?_push_of_some _ he;refine hq _ (λb o z k=>?_) ?_
 .rw[Heap.get?_update_other _ _ (Ne.symm z)];exact Heap.get?_push_of_some _ k
 .exact Heap.get?_update_self _ he1 rfl
end
end
end L2
namespace L2
open PySem PySem.Spec PyProof.Rows PySem.W
variable {vs:Array Value} {Q:Unit->Shared->Prop} {E:Value->Shared->Prop}
section
variable {prog:Program} {w:World} {A:Around} {s:Shared} {K:PySem.W.Frag} {e C:Addr} {bm:List Value}
theorem XCls.cd (Y:XCls K C bm):∃cd,clsIn K C=some cd/\cd.mro= .ref C::bm/\cd.hasDict=true:=by
 obtain⟨nm,q,N,bs,sn,sub,ab,col,dd,k0,k1,k2,k3,k5,hK⟩:=Y.ob;exact⟨_,by unfold clsIn;rw[hK],rfl,rfl⟩
theorem XCls.inst (Y:XCls K C bm) (X:K.In s.heap) {od:Option Addr} (he:s.heap.get? e=some (aO C od vs)) (T:String) (hT:bm.contains (.type T)=true):Looks (model prog w) s.heap (isInstance (.ref e) (.type T)) true:=by
 obtain⟨cd,hc,hm,_⟩:=Y.cd;refine((Looks.ld he).andThen .now:Looks (model prog w) s.heap (typeOf (.ref e)) (.ref C)).andThen (looks_mroIn X ?_);unfold mroIn;rw[hc,Option.bind_some,if_neg (by rw[hm];exact Q7),hm,Za,hT,Xf]
theorem Dj {name:Str} {v:Value} (X:K.In s.heap) (Y:XCls K C bm) (hn:findIn K (.ref C) name=some none) (he:s.heap.get? e=some (aO C none vs))
  (hq:∀h' tk,(∀b o,b≠e->s.heap.get? b=some o->h'.get? b=some o)->h'.get? e=some (aO C (some s.heap.objs.size) vs)->h'.Ns1 s.heap.objs.size (λy=>if y=name then some v else none)->Q () {s with heap:=h',toks:=tk}):
  wpAny (model prog w) A (setAttr (.ref e) name v) Q E s:=by
 have SF:=PySem.F.store_object;obtain⟨cd,hc,hm,hd⟩:=Y.cd;have I:InstAt s.heap e (aO C none vs) C none:=⟨he,rfl,rfl,True.intro⟩;have ty:Looks (model prog w) s.heap (typeOf (.ref e)) (.ref C):=I.type;have mo:Looks (model prog w) s.heap (mroOf (.ref C)) (.ref C::bm):=hm▸(looks_clsIn X hc).andThen .now;refine set_plain X I Y.sa (codeAny_call_builtin SF.slot.plain SF.entry (@check_slot (model prog w) _ _ {s with toks:=s.toks+1} "object.__setattr__" "object" "__setattr__" (.ref e) [.str name s.toks,v] [] _ SF.kind SF.split (Y.inst X he "object" Y.mro.obj) (SF.args (.ref e) (.str name s.toks) v) ?_));obtain⟨h,g,d,t,os⟩:=s;rw[osa_eq,refuse_eq];refine wpAny_bind (wpAny_bind (ty.at (wpAny_bind (mo.at ?_))));rw[refuseLoop_ref,Y.mro.pass];have lk1:=looks_findIn (M:=model prog w) (h:=h) X hn;refine wpAny_pure (wpAny_bind (ty.at (wpAny_bind (lk1.at (wpAny_bind (wpAny_pure ?_))))));have e1:(h.push {cls:= .type "dict",data:= .dict #[]}).get? e=some (aO C none vs):=Heap.get?_push_of_some _ he;have ne:e≠h.objs.size:=Qv (Heap.lt_size he);have C1:=looks_clsIn (M:=model prog w) (h:=h) X hc;show wpAny _ _ (Builtin.ObjectAttr.storeInOwnDict _ _ _ _ _ _) _ _ _;unfold Builtin.ObjectAttr.storeInOwnDict Builtin.ObjectAttr.ownDictForStores
 repeat (first|with_reducible refine wpAny_loadPart_at he ?_|lk|wp_step)
 have eg:((h.push {cls:= .type "dict",data:= .dict #[]}).update e λo=>{cls:=o.cls,dict:=some h.objs.size,data:=o.data,slots:=o.slots}).get? h.objs.size=some {cls:= .type "dict",data:= .dict #[]}:=
  (Heap.get?_update_ne _ _ _ _ ne.symm).trans (Heap.get?_push_at rfl rfl)
 have en:((h.push {cls:= .type "dict",data:= .dict #[]}).update e λo=>{cls:=o.cls,dict:=some h.objs.size,data:=o.data,slots:=o.slots}).Ns h.objs.size (λ_=>none):=
  ⟨_, #[],_,eg,rfl,λx hx=>absurd hx (by simp),λ_=>rfl⟩
 have ee:((h.push {cls:= .type "dict",data:= .dict #[]}).update e λo=>{cls:=o.cls,dict:=some h.objs.size,data:=o.data,slots:=o.slots}).get? e=some (aO C (some h.objs.size) vs):=Heap.get?_update_self _ e1 rfl;refine wpAny_update' e1 ?_;refine wpAny_pure ?_;show wpAny _ _ (Builtin.ObjectAttr.storeInDict h.objs.size (.str name t) name v) _ _ _;unfold Builtin.ObjectAttr.storeInDict Builtin.ObjectAttr.newKeyGuard;refine wpAny_bind (wpAny_pure (wpAny_bind (wpAny_nsSet1 (Heap.Ns1.of_empty en) λh2 n2 sb=>?_)));obtain⟨oD,esD,epD,hoD,hdD,hcD⟩:=n2.count (Within.cons name v Within.nil);refine wpAny_bind (wpAny_lookBehind hoD (by rw[hdD];exact pastItsLine_dict (QL hcD (by rw[Qf,X1,sizeLine_eq];lia))) (wpAny_pure ?_));exact hq h2 _ (λb o z k=>(sb.2 b (Qv (Heap.lt_size k))).trans ((Heap.get?_update_ne _ _ _ _ z).trans (Heap.get?_push_of_some _ k))) ((sb.2 e ne).trans ee) n2
end
end L2
namespace L2
open PySem PySem.Spec PyProof.Rows PySem.W
variable {vs:Array Value} {expr:Bool} {r:Builtin.ObjectAttr.Found} {name:Str} {E Q:Value->Shared->Prop}
section
variable {prog:Program} {w:World} {A:Around} {s:Shared} {K:PySem.W.Frag} {e C:Addr} {bm:List Value}
theorem bga_slot:Slot "ValueError" "__getattribute__" "BaseException.__getattribute__":=
 .of (owner:="BaseException") (n:="__getattribute__") (by rw[typeLookup_type,builtinLookup_eq_fast];kernel_rfl) (by decide+kernel) (by decide+kernel) (by decide+kernel)
  (by first|exact .inl (by decide+kernel)|exact .inr (by decide+kernel)) (by rw[isSubtype_type];kernel_rfl)
theorem Bt {odx:Option Addr} {od:Option Obj} {fill:Bool} {tk:Tok} (X:K.In s.heap) (Y:XCls K C bm) (I:InstAt s.heap e (aO C odx vs) C od)
  (hf:findObj K C od name=some r)
  (hq:wpAny (model prog w) A.in1 (match r with| .value v=>ret v| .bind g a=>Builtin.ObjectAttr.bindTo g a (.ref e) (.ref C)| .missing=>ret .none) (λfin s'=>match fin with| .done (.ret v)=>wpAny (model prog w) A (handedOut v) Q E s'|_=>False) (λ_ _=>False) s)
  (hr:r≠ .missing):wpAny (model prog w) A (getAttrBy (.ref e) (.str name tk) fill expr) Q E s:=by
 obtain⟨h,g,d,t,os⟩:=s;have L0:=I.type (M:=model prog w);have L1:=looks_findIn (M:=model prog w) (h:=h) X Y.ga;have L2:=looks_findIn (M:=model prog w) (h:=h) X Y.gn;have L3:=looks_find (M:=model prog w) (h:=h) X I hf;unfold getAttrBy;refine wpAny_holding (wpAny_bind (L0.at (wpAny_bind (L1.at ?_))));dsimp only;have n2:(Value.builtin "BaseException.__getattribute__"==Value.builtin "object.__getattribute__")=false:=by decide+kernel
 rw[n2,K0,if_neg Q7];unfold getAttrByItsOwn hookBefore;rw[if_pos (show onTheHeap (.ref C)=true from rfl)];refine wpAny_bind (L2.at (wpAny_bind (wpAny_attempt (wpAny_holding ?_))));unfold callGetattribute;rw[show(expr&&onTheHeap (Value.builtin "BaseException.__getattribute__"))=false from K0 _,if_neg Q7];unfold boundAndCalled;rw[bga_slot.bind];refine wpAny_bind (wpAny_pure ?_);show wpAny _ _ (call (.builtin "BaseException.__getattribute__") [.ref e,.str name tk]) _ _ _;refine wpAny_call (codeAny_call_builtin bga_slot.plain PySem.F.entry_bexc_ga (@check_slot (model prog w) _ _ ⟨h,g,d,t,os⟩ "BaseException.__getattribute__" "BaseException" "__getattribute__" (.ref e) [.str name tk] [] _ (by decide+kernel) (by decide+kernel) (Y.inst (s:=⟨h,g,d,t,os⟩) X I.at_ "BaseException" Y.mro.bas) (PySem.F.args_bexc_ga _ _) ?_));unfold Builtin.«object.__getattribute__»;refine wpAny_bind (wpAny_pure (wpAny_bind (wpAny_pure (wpAny_bind (L0.at (wpAny_bind (L3.at ?_)))))));cases r with
 |missing=>exact absurd rfl hr
 |value v=>
  refine wpAny_mono hq (λfin s' z=>?_) λ_ _ z=>z.elim;rcases fin with(_|_|_|_)|_<;>first|exact z|exact z.elim
 |bind g' a=>
  refine wpAny_mono hq (λfin s' z=>?_) λ_ _ z=>z.elim;rcases fin with(_|_|_|_)|_<;>first|exact z|exact z.elim
theorem Dl {dx:Addr} {mA:Str->Option Value} {v:Value} (X:K.In s.heap) (Y:XCls K C bm) (hn:findIn K (.ref C) name=some none) (he:s.heap.get? e=some (aO C (some dx) vs))
  (hd:s.heap.Ns1 dx mA) (hv:mA name=some v) (hh:handedIn v=true) (hq:Q v {s with toks:=s.toks+1}):wpAny (model prog w) A (getAttr (.ref e) name expr) Q E s:=by
 obtain⟨cd,hc,hm,hdc⟩:=Y.cd;obtain⟨od,ho,hl⟩:=tI hd;have I:InstAt s.heap e (aO C (some dx) vs) C (some od):=⟨he,rfl,rfl,ho⟩;refine wpAny_bind (wpAny_mkText ?_);refine Bt (s:={s with toks:=s.toks+1}) (od:=some od) X Y I (findObj_own (by show(clsIn K C).any (·.hasDict)=true;rw[hc];exact hdc) hn rfl (by rw[hl,hv])) ?_ (by intro z;cases z);exact wpAny_pure (by show wpAny _ _ (handedOut v) _ _ _;rw[handedOut_of hh];exact wpAny_pure hq)
structure XIs (K:PySem.W.Frag) (C:Addr):Prop where
 ha:findIn K (.ref C) "__class__"=some (some (.builtin "object.__class__"))
 hn:specialIn K (.builtin "object.__class__") "__get__"=some (some (.builtin "getset_descriptor.__get__"))
 tk:takesIn K (.builtin "object.__class__")=some true
 hm:mroIn K C (.type "object")=some true
end
end L2
namespace L2
open PySem PySem.Spec PyProof.Rows PySem.W
def Eb (H:Hp) (e:Addr) (od:Option Addr) (C:Addr) (fs:List (Str×V)):Prop:=H e=some (XO e C od)/\((fs=[]/\od=none)\/∃dx,od=some dx/\H dx=some (.xd fs))
section
variable {X:Cx} {pins:List (Addr×Obj)} {σ:St} {H:Hp} {s:Shared}
theorem bU (K:PySem.W.Frag) (hK:X.K=K):iM X (.builtin "isinstance") (λxs H Q=>∃x D t b,xs=[x,.ref D]/\TyOf K H x t/\kitOne K t (.ref D)=some b/\Q (.bl b) H):=by
 subst hK;intro pins s σ H xs us Q I r h;obtain⟨x,D,t,b,rfl,ty,e,q⟩:=h;obtain⟨u,w',rfl,ru,rw'⟩:=sU r;cases (show w'=Value.ref D from rw');exact tK I ru ty e λtk=>⟨.bl b,H,I.tok _,rfl,q⟩
def DI (K:PySem.W.Frag) (ta:TE) (f:Str):TE:=λσ H Q=>ta σ H λx H1=>∃e C dx fs bm v,x= .ref e/\H1 e=some (XO e C (some dx))/\H1 dx=some (.xd fs)/\XCls K C bm/\NoAttr K C f/\fs.lookup f=some v/\Q v H1
theorem CU {o:Expr} {ta:TE} {f:Str} {pos:Pos} (he:PE X o ta) (hb:attributeBase o f X.env (eval o X.env)=eval o X.env):PE X (.Attribute o f pos) (DI X.K ta f):=by
 intro pins s σ H Q I h;refine yQ hb (thn (he pins s σ H _ I h) λu s1 hzz=>?_);obtain⟨x,H1,I1,rx,e,C,dx,fs,bm,v,ex,ea,ed,Y,n,l,q⟩:=hzz;subst ex;obtain rfl:u=Value.ref e:=rx;obtain⟨vs,r,_⟩:=DD I1.hok ea;obtain⟨mA,hA,ro⟩:=(show ObjOk X.prog X.w H1 s1.heap dx (.xd fs) from I1.hok dx _ ed);obtain⟨w',hu,ru⟩:=RelO.some_of (v:=v) (o:=mA f) (by rw[<-l];exact ro f);exact Dl I1.kIn Y n r hA hu (tL ru) ⟨v,H1,I1.tok _,ru,q⟩
end
end L2
namespace L2
open PySem PySem.Spec PyProof.Rows PySem.W
variable {C:Addr} {φ:Heap->Prop} {us:List Value}
section
variable {X:Cx} {pins:List (Addr×Obj)} {σ:St} {H:Hp} {s:Shared}
theorem Inv.madeX (I:Inv X pins σ H s):Inv X pins σ (upd H (s.heap.objs.size+1) (XN (s.heap.objs.size+1) C none)) {s with heap:=(s.heap.push (iN us)).push (cN C s.heap.objs.size)}:=
 I.laid (t':=s.toks) (λb o e=>Heap.get?_push_of_some _ (Heap.get?_push_of_some _ e)) (ZE _) (Aa (t:=s.heap.objs.size) (by heap_get))
def Aq (C:Addr) (sp:Sp) (dvs:List V) (E:XK) (t:TA):TE:=λσ H Q=>t σ H λvs H1=>vs.length<=1000/\∀e,H1 e=none->sp (.ref e::(vs++dvs)) (upd H1 e (XN e C none)) (λv H2=>v= .non/\Q (.ref e) H2) E
variable {CX:CXT} {k:Nat} {f:Addr} {fd:FuncData} {ps:List Str} {sp:Sp} {dvs:List V} {ds:List Value} {E:XK} {x m:Str} {p pos apos:Pos} {e o:Expr} {es:List Expr} {ta:TE} {t:TA} {bm:List Value}
theorem zg {Q:VK} {vs:List V} (Y:XCls X.K C bm) (hi:findIn X.K (.ref C) "__init__"=some (some (.ref f))) (hf:isFn X.K (.ref f)=true) (F:FnOk X.prog X.w X.K X.mg X.base CX k f fd ps sp) (hr:Room (k+1) X.A) (hb:Binds X.K fd ps ds) (hd:Vals dvs ds)
  (hx:eR CX X E) (I:Inv X pins σ H s) (r:Vals vs us) (hz:vs.length<=1000)
  (h:∀e,H e=none->sp (.ref e::(vs++dvs)) (upd H e (XN e C none)) (λv H2=>v= .non/\Q (.ref e) H2) E):wpAny (model X.prog X.w) X.A (call (.ref C) us) (EP X pins σ Q) X.xe s:=by
 have hq:=h (s.heap.objs.size+1) (I.hok.fresh (ZE _));have I2:=Inv.madeX (C:=C) (us:=us) I;have r2:Vals (V.ref (s.heap.objs.size+1)::(vs++dvs)) (Value.ref (s.heap.objs.size+1)::(us++ds)):= .cons rfl (r.append hd);have hl:(Value.ref (s.heap.objs.size+1)::us++ds).length=ps.length:=by
  have z:=r2.length;rw[F.len _ _ _ _ hq]at z;exact z.symm
 have hz2:us.length<=sizeLine:=by rw[<-r.length];exact Z6 (cI hz)
 obtain⟨h0,g0,d0,t0,o0⟩:=s;refine wpAny_call (Bu I.kIn Y hz2 hi (λself=>bind_fn I.kIn self (beq_iff_eq.mp hf)) (codeAny_mono (F.run _ X.stack _ _ ⟨Value.ref (h0.objs.size+1)::us,[]⟩ (Value.ref (h0.objs.size+1)::(us++ds)) _ _ E (hr.make C us [])
  (I2.env0.make C us []) (hb _ (Value.ref (h0.objs.size+1)::us) I2.kIn hl) r2 hq) λr s' hq'=>?_))
 cases r with
 |error e=>exact hx pins σ _ _ e s' I2 hq'
 |ok fl=>
  cases fl with
  |ret u=>
   obtain⟨v,H',I3,rv,ev,q3⟩:=I2.after hq';subst ev;exact⟨rv,⟨V.ref (h0.objs.size+1),H',I3,rfl,q3⟩⟩
  |next=>exact False.elim hq'
  |brk=>exact False.elim hq'
  |cont=>exact False.elim hq'
theorem qO (Y:XCls X.K C bm) (hi:findIn X.K (.ref C) "__init__"=some (some (.ref f))) (hf:isFn X.K (.ref f)=true) (F:FnOk X.prog X.w X.K X.mg X.base CX k f fd ps sp) (hr:Room (k+1) X.A) (hg:Gl X x) (hm:X.mg x=some (.ref C)) (hb:Binds X.K fd ps ds) (hd:Vals dvs ds) (hx:eR CX X E)
  (ha:PA X (e::es) t) (hdb:(x==("__debug__":Str))=false:=by decide) (he:starEach (e::es) X.env=(false,eval e X.env)::starEach es X.env:=by rfl) (hpl:(backTo pos (starEach es X.env)).any (·.1)=false:=by rfl):
  PE X (.Call (.Name x p) (e::es) [] pos) (Aq C sp dvs E t):=by
 intro pins s σ H Q I h;refine wpAny_Call_Name_kw (gH I hg hm ?_ hdb);refine Zo (h₀:=X.base) I.ok.mod.kin Y.kp (thn (ha pos pins s σ H _ I h) λus s1 ⟨vs,H1,I1,r,hz,q⟩=>⟨I1.kIn,?_⟩) he hpl;exact zg Y hi hf F hr hb hd hx I1 r hz q
theorem Inv.rewrite {ea:Addr} {od:Option Addr} {t1:Addr} {h':Heap} {tk:Nat} (I:Inv X pins σ H s) (hx:H ea=some (.ext φ)) (k:∀b o,b≠ea->s.heap.get? b=some o->h'.get? b=some o)
  (new:h'.get? ea=some (aO C od #[.ref t1,.none,.none,.none,.bool false,.none])):Inv X pins σ (upd H ea (XN ea C od)) {s with heap:=h',toks:=tk}:=
 I.write (x:=ea) (e:=ea) (by rw[hx];exact True.intro) (.inl rfl) k ⟨_,new⟩ (Aa new)
end
end L2
namespace L2
open PySem PySem.Spec PyProof.Rows PySem.W
variable {f:Addr} {A:Around} {Q:Flow->Shared->Prop} {H:Hp} {pos:Pos} {s:Shared} {ta:TE} {W:Value->Shared->Prop} {E:XK}
structure yU (K:PySem.W.Frag) (C:Addr) (m:Str) (v:Value):Prop where
 sp:specialIn K (.ref C) "__getattribute__"=some (some (.builtin "type.__getattribute__"))
 rd:readsIn K C (.type "type")=true
 at_:findCls K (.ref C) (.type "type") m=some (.val v)
section
variable {X:Cx} {pins:List (Addr×Obj)} {σ:St}
variable {CX:CXT} {k:Nat} {C:Addr} {fd:FuncData} {ps:List Str} {sp:Sp} {dvs:List V} {ds:List Value} {x m:Str} {p apos:Pos} {e o:Expr} {es:List Expr} {t:TA} {bm:List Value}
theorem ye {pl:Sem Bool} (hg:Gl X x) (hm:X.mg x=some (.ref C)) (hc:yU X.K C m (.ref f)) (hk:PySem.W.keepIn X.K (.ref f)=true) (F:FnOk X.prog X.w X.K X.mg X.base CX k f fd ps sp) (hr:Room k X.A) (hb:Binds X.K fd ps ds) (hd:Vals dvs ds) (hx:eR CX X E) (ha:PA X (e::es) t)
  (hdb:(x==("__debug__":Str))=false:=by decide)
  (hst:starEach (e::es) X.env=(false,eval e X.env)::starEach es X.env:=by rfl) (hpl:(backTo pos (starEach es X.env)).any (·.1)=false:=by rfl)
  (ht:eval (.Call (.Attribute (.Name x p) m apos) (e::es) [] pos) X.env=(do
   let ov<-eval (.Name x p) X.env
   standAt apos.atName
   let(f,first)<-holding [ov] (getMethod ov m pl)
   callWith pos f first (backTo pos (starEach (e::es) X.env)) (backToKw pos (keywordEach [] X.env))):=by rfl):
  PE X (.Call (.Attribute (.Name x p) m apos) (e::es) [] pos) (DK sp dvs E t):=by
 intro pins s σ H Q I h;refine Zr (pl:=pl) (gH I hg hm ?_ hdb) ht;refine method_cls I.kIn hc.sp (cls_value I.kIn hc.rd hc.at_ rfl ?_);refine Zo (first:=[]) (h₀:=X.base) I.ok.mod.kin hk (thn (ha pos pins _ σ H _ (I.tok _) h) λus s2 ⟨vs,H2,I2,r,q2⟩=>⟨I2.kIn,?_⟩) hst hpl;exact qJ F hr hb hd hx I2 r q2
def Ft (K:PySem.W.Frag) (t:TA):TE:=λσ H Q=>t σ H λvs H1=>∃ea C od r bm,vs= .ref ea::r/\r.length<=1000/\H1 ea=some (XN ea C od)/\XCls K C bm/\Q .non H1
theorem yf {pl:Sem Bool} (hg:Gl X x) (hm:X.mg x=some (.ref C)) (hc:yU X.K C m (.builtin "ValueError.__init__")) (ha:PA X (e::es) t)
  (hdb:(x==("__debug__":Str))=false:=by decide)
  (hst:starEach (e::es) X.env=(false,eval e X.env)::starEach es X.env:=by rfl) (hpl:(backTo pos (starEach es X.env)).any (·.1)=false:=by rfl)
  (ht:eval (.Call (.Attribute (.Name x p) m apos) (e::es) [] pos) X.env=(do
   let ov<-eval (.Name x p) X.env
   standAt apos.atName
   let(f,first)<-holding [ov] (getMethod ov m pl)
   callWith pos f first (backTo pos (starEach (e::es) X.env)) (backToKw pos (keywordEach [] X.env))):=by rfl):
  PE X (.Call (.Attribute (.Name x p) m apos) (e::es) [] pos) (Ft X.K t):=by
 intro pins s σ H Q I h;refine Zr (pl:=pl) (gH I hg hm ?_ hdb) ht;refine method_cls I.kIn hc.sp (cls_value I.kIn hc.rd hc.at_ (by decide+kernel) ?_);have hA:=ha pos pins _ σ H _ (I.tok (s.toks+1)) h;show wpAny _ _ (callWith pos (.builtin "ValueError.__init__") [] (backTo pos (starEach (e::es) X.env)) []) _ _ _;rw[hst]at hA⊢;refine Calls.callWith_builtin (by show(false||(backTo pos (starEach es X.env)).any (·.1))=false;rw[hpl]<;>rfl) (Calls.evalArgs_plain ?_);refine thn hA λus s2 hzz=>?_;obtain⟨vs,H2,I2,r2,ea,C',od,r,bm,ev,hz,hx,Y,q2⟩:=hzz;subst ev;obtain⟨nm,q',N,bs,sn,sub,ab,col,dd,k0,k1,k2,k3,k5,hK⟩:=Y.ob;have hC:=I2.kIn _ _ hK;cases r2 with
 | @cons _ u _ us' r0 r1=>
  cases (show u=Value.ref ea from r0);obtain⟨t0,he⟩:=Ab I2.hok hx;obtain⟨h0,g0,d0,tk0,o0⟩:=s2;refine wpAny_call (Bv (us:=us') Y.mro hC he (by rw[<-r1.length];exact Z6 (cI hz)) λh' k' n'=>?_);have I3:=I2.rewrite (C:=C') (od:=od) (tk:=tk0) hx k' n';rw[qf hx]at I3;exact⟨V.non,H2,I3,rfl,q2⟩
theorem Inv.newfld {ea:Addr} {t1:Addr} {fn:Str} {y:V} {u:Value} {h':Heap} {tk:Nat} (I:Inv X pins σ H s) (hx:H ea=some (XN ea C none)) (k:∀b o,b≠ea->s.heap.get? b=some o->h'.get? b=some o)
  (new:h'.get? ea=some (aO C (some s.heap.objs.size) #[.ref t1,.none,.none,.none,.bool false,.none])) (hn:h'.Ns1 s.heap.objs.size (λz=>if z=fn then some u else none)) (ry:RelV y u):
  Inv X pins σ (upd (upd H s.heap.objs.size (.xd [(fn,y)])) ea (XN ea C (some s.heap.objs.size))) {s with heap:=h',toks:=tk}:=by
 have nd:H s.heap.objs.size=none:=I.hok.fresh (Q5 _);have ne:ea≠s.heap.objs.size:=λz=>by rw[z,nd]at hx;cases hx
 have ub:∀b v,H b=some v->b≠ea->upd (upd H s.heap.objs.size (.xd [(fn,y)])) ea (XN ea C (some s.heap.objs.size)) b=some v:=λb v q z=>by
  rw[ac z,ac (ak q nd)];exact q
 have un:∀b,H b=none->b≠s.heap.objs.size->upd (upd H s.heap.objs.size (.xd [(fn,y)])) ea (XN ea C (some s.heap.objs.size)) b=none:=λb q z=>by
  rw[ac (λw=>by rw[w,hx]at q;cases q),ac z];exact q
 have nea:∀b,H b=none->b≠ea:=λb q z=>by rw[z,hx]at q;cases q
 have lt:∀b o,s.heap.get? b=some o->b≠s.heap.objs.size:=λb o q=>Qv (Heap.lt_size q);refine I.un (t':=tk) ⟨λb o g1 g2 _ _=>k b o (nea b g2) g1,λb o g1 g2 _ _=>⟨o.slots,k b o (nea b g2) g1⟩,λb o g1 g2 _=>un b g2 (lt b o g1),λb o g1 _=>?_,λb xs g1=>ub b _ g1 λz=>(by rw[z,hx]at g1;cases g1),λb o v g1=>ub b _ g1 λz=>(by rw[z,hx]at g1;cases g1),λb ps g1=>⟨#[],?_⟩⟩ λb v q=>?_
 .by_cases z:b=ea
  .exact⟨_,z▸new⟩
  .exact⟨o,k b o z g1⟩
 .rw[ub b _ g1 λz=>(by rw[z,hx]at g1;cases g1)];simp
 .by_cases z:b=ea
  .subst z;rw[af]at q;cases q;exact Aa new
  .rw[ac z]at q;by_cases z2:b=s.heap.objs.size
   .subst z2;rw[af]at q;cases q;refine⟨_,hn,λg=>?_⟩;show RelO (List.lookup g [(fn,y)]) (if g=fn then some u else none);by_cases z3:g=fn
    .subst z3;rw[if_pos rfl];show RelO (match g==g with|true=>some y|false=>none) (some u);rw[beq_self_eq_true];exact ry
    .rw[if_neg z3];show RelO (match g==fn with|true=>some y|false=>none) none;rw[beq_eq_false_iff_ne.mpr z3];exact True.intro
   .rw[ac z2]at q;refine(I.hok b v q).stay (λc w hc r=>k c w ?_ r) (λc r=>ub c _ r λz=>(by rw[z,hx]at r;cases r)) λc xs r=>ub c _ r λz=>(by rw[z,hx]at r;cases r);rcases hc with rfl|hc
    .exact z
    .exact λz=>by rw[z,hx]at hc;cases hc
def Fv (K:PySem.W.Frag) (ta tv:TE) (f:Str):TS:=λD σ H=>tv σ H λy H1=>ta σ H1 λx H2=>∃ea C bm,x= .ref ea/\H2 ea=some (XN ea C none)/\XCls K C bm/\NoAttr K C f/\∀dx,H2 dx=none->D.nx σ (upd (upd H2 dx (.xd [(f,y)])) ea (XN ea C (some dx)))
theorem ya {o value:Expr} {tv:TE} {f:Str} {pos':Pos} (ha:PE X o ta) (hv:PE X value tv) (hs:swapsWith value (some (.Attribute o f pos')) pos.line X.env=pure false):PS X (.Assign [.Attribute o f pos'] value pos) (Fv X.K ta tv f):=by
 intro pins s σ H D I h;refine plainObj_wpAny_Assign_Attribute (thn (hv pins s σ H _ I h) λu s1 ⟨y,H1,I1,ry,q⟩=>thn (ha pins s1 σ H1 _ I1 q) λov s2 hzz=>?_) hs;obtain⟨x,H2,I2,rx,ea,C,bm,ex,hx,Y,n,q2⟩:=hzz;subst ex;obtain rfl:ov=Value.ref ea:=rx;obtain⟨t1,he⟩:=Ab I2.hok hx;refine Dj I2.kIn Y n he λh' tk k1 k2 k3=>⟨σ,_,I2.newfld hx k1 k2 k3 ry,q2 _ (I2.hok.fresh (Q5 _))⟩
theorem zh {env:Env} {y:Sem Value} {M:Model} (hh:A.handled=none)
  (h:wpAny M A y (λv s1=>∃ea C od t nm q N bs bm sn sub ab col dd k0 k1 k2 k3 k5,v= .ref ea/\s1.heap.get? C=some (excClassObj nm q C N bs bm true sn sub ab col dd k0 k1 k2 k3 k5 "ValueError.__new__")/\ExcMro bm/\
   s1.heap.get? ea=some (aO C od #[.ref t,.none,.none,.none,.bool false,.none])/\W (.ref ea) s1) W s):wpAny M A (raiseStmt env (some y) none) Q W s:=by
 unfold raiseStmt;refine wpAny_bind (wpAny_mono h (λv s1 z=>?_) λ_ _ z=>z);obtain⟨ea,C,od,t,nm,q,N,bs,bm,sn,sub,ab,col,dd,k0,k1,k2,k3,k5,rfl,hC,B,he,hE⟩:=z;have cB:(Value.ref C::bm).contains (.type "BaseException")=true:=by rw[Za,B.bas,Xf]
 obtain⟨hp,g,d,tk,os⟩:=s1
 repeat (first|with_reducible refine wpAny_loadPart_at he ?_|with_reducible refine wpAny_loadPart_at hC ?_|(with_reducible refine wpAny_isSubtype_exc hC ?_;rw[cB])|wp_step)
 exact wpAny_raiseNew_none hh hE
def BL (X:Cx) (E:XK):Prop:=∀e s,yV X (λ_=>E) e s->X.xe e s
def Ax (K:PySem.W.Frag) (te:TE) (E:XK):TS:=λ_ σ H=>te σ H λv H1=>∃ea C od bm,v= .ref ea/\H1 ea=some (XN ea C od)/\XCls K C bm/\E (.ref ea) od (upd H1 ea (XO ea C od))
theorem qM {ex:Expr} {te:TE} (hc:X.calm=true) (hx:BL X E) (he:PE X ex te):PS X (.Raise (some ex) none pos) (Ax X.K te E):=by
 intro pins s σ H D I h;rw[arm_exec_Raise];simp only[evalOpt,Option.map];refine wpAny_bind (wpAny_standAt (zh (I.ok.hd hc) (wpAny_bind (thn (he pins s σ H _ I h) λv s1 ⟨y,H1,I1,ry,ea,C,od,bm,ev,hn,Y,q⟩=>wpAny_bind (wpAny_standAt (wpAny_pure ?_))))));subst ev;cases (show v=Value.ref ea from ry);obtain⟨nm,q',N,bs,sn,sub,ab,col,dd,k0,k1,k2,k3,k5,hK⟩:=Y.ob;obtain⟨t,he'⟩:=Ab I1.hok hn;exact⟨ea,C,od,t,nm,q',N,bs,bm,sn,sub,ab,col,dd,k0,k1,k2,k3,k5,rfl,I1.kIn _ _ hK,Y.mro,he',hx _ _ ⟨pins,σ,H1,ea,C,od,_,_,rfl,I1,hn,he',(by show 1<6;decide),.inl rfl,q⟩⟩
end
theorem ug {P:Program} {w:World} {K:PySem.W.Frag} {mg:Str->Option Value} {base:Heap} {N:List Str} {qual:Str} {scope:Scope} {cd:Value} {outer:List Env}:
  BL (m6 (CX1 P w) P w K mg base N qual scope f cd A outer s H E) E:=λ_ _ h=>we h
end L2
namespace L2
open PySem PySem.Spec PyProof.Rows PySem.W
variable {A:Around} {Q:Bool->Shared->Prop} {pn:List (Addr×Obj)} {M:Model} {s:Shared} {W:Value->Shared->Prop}
section
variable {nm q nm' q':Str} {C N C' N':Addr} {bs bm bs' bm':List Value} {sn sn':List Str} {sub sub':List Value} {ab ab':Bool} {col col':Option Bool} {dd dd':Option Addr} {k0 k1 k2 k3 k5 k0' k1' k2' k3' k5':Option Value}
theorem zO {e:Addr} {od:Option Addr} {vs:Array Value} {b:Bool} (hC:s.heap.get? C=some (excClassObj nm q C N bs bm true sn sub ab col dd k0 k1 k2 k3 k5 "ValueError.__new__"))
  (hD:s.heap.get? C'=some (excClassObj nm' q' C' N' bs' bm' true sn' sub' ab' col' dd' k0' k1' k2' k3' k5' "ValueError.__new__")) (B:ExcMro bm') (he:s.heap.get? e=some (aO C od vs)) (hb:(Value.ref C::bm).contains (.ref C')=b)
  (hq:Q b s):wpAny M A (excMatches (.ref e) (.ref C')) Q W s:=by
 have cB:(Value.ref C'::bm').contains (.type "BaseException")=true:=by rw[Za,B.bas,Xf]
 have f:=tc_notTuple;obtain⟨hp,g,d,t,os⟩:=s;unfold excMatches
 repeat (first|with_reducible refine wpAny_loadPart_at he ?_|with_reducible refine wpAny_loadPart_at hD ?_|(with_reducible refine wpAny_isSubtype_exc hD ?_;rw[cB])|(with_reducible refine wpAny_isSubtype_exc hC ?_;rw[hb])|wp_step)
 cases b<;>(wp_walk;exact hq)
end
abbrev Cx.sui (X:Cx) (ea:Addr):Cx:={X with A:=X.A.mark (some (.ref ea)),calm:=false,xe:=λ_ _=>False}
abbrev Cx.tr (X:Cx) (pn:List (Addr×Obj)) (E:St->XK):Cx:={X with pn:=X.pn++pn,xe:=yV {X with pn:=X.pn++pn} E}
section
variable {X:Cx} {pins:List (Addr×Obj)} {σ:St} {H:Hp}
theorem Cx.Ok.sui (ok:X.Ok) (ea:Addr):(X.sui ea).Ok:=
 ⟨ok.mod,ok.kind,ok.glob,ok.blt,ok.above,ok.inj,ok.has,ok.cab,λz=>absurd z Q7,ok.frames,ok.stk,ok.exf,ok.bs,ok.bsz,ok.noex,ok.exfs,ok.funs,ok.frf⟩
theorem Inv.sui (I:Inv X pins σ H s) (ea:Addr):Inv (X.sui ea) pins σ H s:=⟨I.ok.sui ea,I.os,I.bare,I.base,I.loc,I.cell,I.free,I.freeC,I.pin,I.hok,I.len⟩
theorem Inv.back {ea:Addr} (ok:X.Ok) (I:Inv (X.sui ea) pins σ H s):Inv X pins σ H s:=⟨ok,I.os,I.bare,I.base,I.loc,I.cell,I.free,I.freeC,I.pin,I.hok,I.len⟩
theorem Cx.Ok.tr (ok:X.Ok) (pn:List (Addr×Obj)) (E:St->XK):(X.tr pn E).Ok:=
 ⟨ok.mod,ok.kind,ok.glob,ok.blt,ok.above,ok.inj,ok.has,ok.cab,ok.hd,ok.frames,ok.stk,ok.exf,ok.bs,ok.bsz,ok.noex,ok.exfs,ok.funs,ok.frf⟩
theorem Inv.tr (I:Inv X pins σ H s) (E:St->XK):Inv (X.tr pins E) [] σ H s:=⟨I.ok.tr pins E,I.os,I.bare,I.base,I.loc,I.cell,I.free,I.freeC,λp hp=>I.pin p (by simpa using hp),I.hok,I.len⟩
theorem Inv.untr (ok:X.Ok) (I:Inv {X with pn:=X.pn++pn} pins σ H s):Inv X pn σ H s:=
 ⟨ok,I.os,I.bare,I.base,I.loc,I.cell,I.free,I.freeC,λp hp=>I.pin p (Zh _ hp),I.hok,I.len⟩
theorem Inv.untr' {E:St->XK} (ok:X.Ok) (I:Inv (X.tr pn E) pins σ H s):Inv X pn σ H s:=
 ⟨ok,I.os,I.bare,I.base,I.loc,I.cell,I.free,I.freeC,λp hp=>I.pin p (Zh _ hp),I.hok,I.len⟩
theorem ko {i:Nat} {x:Str} {pos:Pos} {Q:Unit->Shared->Prop} (I:Inv X pins σ H s) (hN:X.N.Nodup) (hi:X.N[i]?=some x) (hk:X.env.scope.names.lookup x=some .local)
  (h:∀s',Inv X pins (σ.set i none) H s'->Q () s'):wpAny M A (do bindName X.env x .none;unbindBehindTheSuite X.env x pos) Q W s:=by
 obtain⟨m,hn,hl⟩:=id I.loc;have hiσ:i<σ.length:=by rw[I.len];exact(Q3.mp hi).1
 have above:∀b o,X.s₀.heap.get? b=some o->b≠X.env.locals:=λb o e=>Qv (Qs (Heap.lt_size e) I.ok.above);refine wpAny_nameGoes_keeps hk hn (by rw[I.ok.kind];rfl) λh' v hn' hs=>h _ ?_;have cl:∀y c,X.env.cells.lookup y=some c->∀w,s.heap.IsCell c w->h'.IsCell c w:=λy c e w z=>z.sameBut hs (I.cne y c e);refine⟨I.ok,I.os,I.bare,⟨λb o e n hb hx=>(hs.2 b (above b o e)).trans (I.base.keep b o e n hb hx),λb o e n hb hx=>?_,I.base.free,λb o e hx=>?_,I.base.tups,I.base.frzs,I.base.tbls⟩,⟨_,hn',λj y v' e1 e2 e3=>?_⟩,λy c e=>?_,I.free,I.freeC,λp hp=>?_,λb ob e=>?_,by simpa using I.len⟩
 .obtain⟨sl,r⟩:=I.base.slot b o e n hb hx;exact⟨sl,(hs.2 b (above b o e)).trans r⟩
 .obtain⟨o',r⟩:=I.base.there b o e hx;exact⟨o',(hs.2 b (above b o e)).trans r⟩
 .have hj:j≠i:=λz=>by rw[z,ZR hiσ]at e2;cases e2
  rw[Xv (Ne.symm hj)]at e2;obtain⟨u,r,q⟩:=hl j y v' e1 e2 e3;refine⟨u,r,?_⟩;rcases q with⟨k,e⟩|⟨k,c,e,z⟩
  .have ny:y≠x:=λz=>hj (rf hN e1 (z▸hi));exact .inl ⟨k,by simp[ny,e]⟩
  .exact .inr ⟨k,c,e,cl y c e _ z⟩
 .obtain⟨w',z⟩:=I.cell y c e;exact⟨w',cl y c e w' z⟩
 .obtain⟨e,n,ne,nf,d⟩:=I.pin p hp;exact⟨(hs.2 p.1 ne).trans e,n,ne,nf,d⟩
 .refine(I.hok b ob e).stay (λc w' hc r=>(hs.2 c ?_).trans r) (λ_ r=>r) λ_ _ r=>r;rintro rfl;have fr:=I.free;rcases hc with rfl|hc
  .rw[fr]at e;cases e
  .rw[fr]at hc;cases hc
end
end L2
namespace L2
open PySem PySem.Spec PyProof.Rows PySem.W
variable {b:Bool} {Q:Flow->Shared->Prop} {hs:List ExceptHandler} {bm:List Value}
abbrev TH:=Ends->St->Hp->Addr->Addr->Option Addr->Prop
def PH (X:Cx) (hs:List ExceptHandler) (t:TH):Prop:=∀(pins:List (Addr×Obj)) (s:Shared) (σ:St) (H:Hp) (D:Ends) (ea C:Addr) (od:Option Addr) (vs:Array Value) (T:Addr),Inv X pins σ H s->H ea=some (XO ea C od)->
 s.heap.get? ea=some (aO C od vs)->Trc s.heap ea vs T .none->kg X pins H T->t D σ H ea C od->wpAny (model X.prog X.w) X.A (handleBy (.ref ea) X.env hs) (SP X pins D) X.xe s
def FT:TH:=λ_ _ _ _ _ _=>False
def Ends.gone (D:Ends) (i:Nat):Ends:=⟨λσ H=>D.nx (σ.set i none) H,D.rt,λσ H=>D.bk (σ.set i none) H,λσ H=>D.ct (σ.set i none) H⟩
def hAs (K:PySem.W.Frag) (Dc:Addr) (i:Nat) (ts:TS) (tr:TH):TH:=λD σ H ea C od=>∃bm b,XCls K C bm/\subIn K (.ref C) (.ref Dc)=some b/\if b=true then ts (D.gone i) (σ.set i (some (.ref ea))) H else tr D σ H ea C od
section
variable {X:Cx} {x n:Str} {np pos:Pos} {b0:Stmt} {suite:List Stmt} {rest:List ExceptHandler} {i:Nat} {ts:TS} {tr:TH} {Dc:Addr} {bm':List Value}
theorem CP:PH X hs FT:=λ_ _ _ _ _ _ _ _ _ _ _ _ _ _ _ h=>h.elim
theorem Cv {K:PySem.W.Frag} {C D:Addr} (Y:XCls K C bm) (h:subIn K (.ref C) (.ref D)=some b):(Value.ref C::bm).contains (.ref D)=b:=by
 obtain⟨cd,hc,hm,_⟩:=Y.cd;have h:mroIn K C (.ref D)=some b:=h;unfold mroIn at h;rw[hc,Option.bind_some,if_neg (by rw[hm];exact Q7),hm]at h;exact Option.some.inj h
theorem CO {name:Option Str} {pins:List (Addr×Obj)} {s:Shared} {σ:St} {H:Hp} {ea C:Addr} {od:Option Addr} {vs:Array Value} (I:Inv X pins σ H s) (hr:s.heap.get? ea=some (aO C od vs)) (hg:Gl X x) (hm:X.mg x=some (.ref Dc)) (Z:XCls X.K Dc bm')
  (Y:XCls X.K C bm) (hb:subIn X.K (.ref C) (.ref Dc)=some b) (hdb:(x==("__debug__":Str))=false)
  (h1:b=true->codeAny (model X.prog X.w) (X.A.mark (some (.ref ea))) (.handlers (.ref ea) [.ExceptHandler none name (b0::suite) pos] X.env) (λr s2=>match r with
     | .ok f=>(match name with
      |none=>Q f s2
      |some n=>wpAny (model X.prog X.w) X.A (do bindName X.env n .none;unbindBehindTheSuite X.env n pos) (λ_ s3=>Q f s3) X.xe s2)
     | .error x=>cameBackBy (model X.prog X.w) X.A X.env X.xe x s2) s)
  (h2:b=false->wpAny (model X.prog X.w) X.A (handleBy (.ref ea) X.env rest) Q X.xe s):
  wpAny (model X.prog X.w) X.A (handleBy (.ref ea) X.env (.ExceptHandler (some (.Name x np)) name (b0::suite) pos::rest)) Q X.xe s:=by
 obtain⟨nm,q1,N,bs,sn,sub,ab,col,dd,k0,k1,k2,k3,k5,hK⟩:=Y.ob;obtain⟨nm',q1',N',bs',sn',sub',ab',col',dd',k0',k1',k2',k3',k5',hK'⟩:=Z.ob;refine wpAny_handleBy_cons (codeAny_handlers_test (gH (X:=X.sui ea) (I.sui ea) hg hm ?_ hdb)) (by intro q;cases q);refine zO (I.kIn _ _ hK) (I.kIn _ _ hK') Z.mro hr (Cv Y hb) ?_;cases b with
 |true=>exact h1 rfl
 |false=>exact h2 rfl
theorem DR (hN:X.N.Nodup) (hi:X.N[i]?=some n) (hk:X.env.scope.names.lookup n=some .local) (hg:Gl X x) (hm:X.mg x=some (.ref Dc)) (Z:XCls X.K Dc bm') (hs:∀ea,PSs (X.sui ea) (b0::suite) ts) (hr:PH X rest tr) (hdb:(x==("__debug__":Str))=false:=by decide):
  PH X (.ExceptHandler (some (.Name x np)) (some n) (b0::suite) pos::rest) (hAs X.K Dc i ts tr):=by
 intro pins s σ H D ea C od vs T I hx hre htr hfp h;obtain⟨bm,b,Y,hb,h⟩:=h;refine CO I hre hg hm Z Y hb hdb (λz=>?_) (λz=>?_)
 .subst z;rw[if_pos rfl]at h;refine codeAny_handlers_suite_as (l4 (l:=[]) hre htr λh' g1 g2 g3 g4 g5=>?_);have I1:Inv X pins σ H {s with heap:=h'}:=I.turned (t':=s.toks) (it:=T) g1 hfp.1 hfp.2.1 hfp.2.2.2.1 hfp.2.2.2.2.1 hfp.2.2.2.2.2;refine mt (v:= .ref ea) I1 hN hi (.inl hk) rfl (λs2 I2=>?_) (.inr hk);refine wpAny_mono (hs ea pins s2 _ H (D.gone i) (I2.sui ea) h) (λf s4 z=>?_) λ_ _ z=>z.elim;cases f with
  |next=>
   obtain⟨σ',H',I',q⟩:=z;exact ko (I'.back I.ok) hN hi hk λs5 I5=>⟨_,H',I5,q⟩
  |brk=>
   obtain⟨σ',H',I',q⟩:=z;exact ko (I'.back I.ok) hN hi hk λs5 I5=>⟨_,H',I5,q⟩
  |cont=>
   obtain⟨σ',H',I',q⟩:=z;exact ko (I'.back I.ok) hN hi hk λs5 I5=>⟨_,H',I5,q⟩
  |ret u=>
   obtain⟨v,σ',H',I',rv,q⟩:=z;exact ko (I'.back I.ok) hN hi hk λs5 I5=>⟨v,_,H',I5,rv,q⟩
 .subst z;rw[if_neg Q7]at h;exact hr pins s σ H D ea C od vs T I hx hre htr hfp h
def sTry (tb:(St->XK)->TS) (th:TH):TS:=λD σ H=>tb (λσ1 v od H1=>∃ea C,v= .ref ea/\H1 ea=some (XO ea C od)/\th D σ1 H1 ea C od) D σ H
theorem Eo {body:List Stmt} {h0:ExceptHandler} {tb:(St->XK)->TS} {th:TH} (hst:X.stack=X.env::X.outer) (hf:X.env.frame=some X.env.locals) (hb:∀pn E,PSs (X.tr pn E) body (tb E)) (hh:PH X (h0::hs) th):
  PS X (.Try body (h0::hs) [] [] pos) (sTry tb th):=by
 intro pins s σ H D I h;refine wpAny_Try_except (wpAny_mono (hb pins _ [] s σ H D (I.tr _) h) (λf s1 z=>?_) λe s1 z=>?_)
 .cases f with
  |next=>
   obtain⟨σ',H',I',q⟩:=z;exact wpAny_execs_nil ⟨σ',H',I'.untr' I.ok,q⟩
  |brk=>
   obtain⟨σ',H',I',q⟩:=z;exact⟨σ',H',I'.untr' I.ok,q⟩
  |cont=>
   obtain⟨σ',H',I',q⟩:=z;exact⟨σ',H',I'.untr' I.ok,q⟩
  |ret u=>
   obtain⟨v,σ',H',I',rv,q⟩:=z;exact⟨v,σ',H',I'.untr' I.ok,rv,q⟩
 .obtain⟨pins1,σ1,H1,ea,C,od,vs,φ,rfl,I1,hx,hr,hz,ht,ea',C',e1,e2,q⟩:=z;obtain rfl:ea=ea':=Value.ref.inj e1;refine tD (X:={X with pn:=X.pn++pins}) I1 hst hf I1.ok.frames hx hr hz ht λs2 vs2 T I2 r2 z2 t2 f2=>?_;obtain⟨vs3,r3,_⟩:=DD I2.hok e2;obtain rfl:C=C':=by
   have z:=congrArg Obj.cls (Option.some.inj (r2.symm.trans r3));exact Value.ref.inj z
  exact hh pins s2 σ1 _ D ea C od vs2 T (I2.untr I.ok) e2 r2 t2 ⟨f2.1,f2.2.1,f2.2.2.1,f2.2.2.2.1,f2.2.2.2.2.1,λp hp=>f2.2.2.2.2.2 p (Zh _ hp)⟩ q
end
end L2
namespace L2
open PySem PySem.Spec PyProof.Rows PySem.W
variable {X:Cx} {E:St->XK}
def vj (CX:CXT) (X:Cx) (E:St->XK):Prop:=∀(pins:List (Addr×Obj)) (σ:St) (H:Hp) (s:Shared) (e:Value) (s':Shared),Inv X pins σ H s->CX X.stack H s (E σ) e s'->X.xe e s'
theorem FG {pn:List (Addr×Obj)}:vj (CX1 X.prog X.w) (X.tr pn E) E:=λpins σ H s e s' I h=>by
 have ok:Cx.Ok {X with pn:=X.pn++pn}:=⟨I.ok.mod,I.ok.kind,I.ok.glob,I.ok.blt,I.ok.above,I.ok.inj,I.ok.has,I.ok.cab,I.ok.hd,I.ok.frames,I.ok.stk,I.ok.exf,I.ok.bs,I.ok.bsz,I.ok.noex,I.ok.exfs,I.ok.funs,I.ok.frf⟩;have I':Inv {X with pn:=X.pn++pn} pins σ H s:=⟨ok,I.os,I.bare,I.base,I.loc,I.cell,I.free,I.freeC,I.pin,I.hok,I.len⟩;exact I'.flies h λ_ _ _ q=>q
def Ed (C:Addr) (m:Str) (sp:Sp) (dvs:List V) (E:St->XK) (ta:TE) (t:TA):TE:=λσ H Q=>ta σ H λx H1=>∃a dx fs,x= .ref a/\H1 a=some (.ins C dx fs)/\fs.lookup m=none/\
 t σ H1 λvs H2=>sp (x::(vs++dvs)) H2 Q (E σ)
section
variable {CX:CXT} {k:Nat} {f C:Addr} {fd:FuncData} {ps:List Str} {sp:Sp} {dvs:List V} {ds:List Value} {x m:Str} {p pos apos:Pos} {e o:Expr} {es:List Expr} {ta:TE} {t:TA}
theorem CA {pins:List (Addr×Obj)} {σ:St} {H:Hp} {s:Shared} {Q:VK} {us:List Value} {vs:List V} (F:FnOk X.prog X.w X.K X.mg X.base CX k f fd ps sp) (hr:Room k X.A) (hb:Binds X.K fd ps ds) (hd:Vals dvs ds) (hx:vj CX X E)
  (I:Inv X pins σ H s) (r:Vals vs us) (h:sp (vs++dvs) H Q (E σ)):wpAny (model X.prog X.w) X.A (call (.ref f) us) (EP X pins σ Q) X.xe s:=by
 have r2:Vals (vs++dvs) (us++ds):=r.append hd;have hl:(us++ds).length=ps.length:=by rw[<-r2.length];exact F.len _ _ _ _ h
 refine wpAny_call (codeAny_mono (F.run X.A X.stack s H ⟨us,[]⟩ (us++ds) (vs++dvs) Q (E σ) hr I.env0 (hb s us I.kIn hl) r2 h) λr s' hq=>?_);cases r with
 |error e=>exact hx pins σ H s e s' I hq
 |ok fl=>cases fl<;>first|exact I.after hq|exact False.elim hq
theorem AD {pl:Sem Bool} (he:PE X o ta) (c:Cls X.K C) (hm:bX X.K C m f) (F:FnOk X.prog X.w X.K X.mg X.base CX k f fd ps sp) (hr:Room k X.A) (hb:Binds X.K fd ps ds) (hd:Vals dvs ds) (hx:vj CX X E) (ha:PA X (e::es) t)
  (hst:starEach (e::es) X.env=(false,eval e X.env)::starEach es X.env:=by rfl) (hpl:(backTo pos (starEach es X.env)).any (·.1)=false:=by rfl)
  (ht:eval (.Call (.Attribute o m apos) (e::es) [] pos) X.env=(do
   let ov<-eval o X.env
   standAt apos.atName
   let(f,first)<-holding [ov] (getMethod ov m pl)
   callWith pos f first (backTo pos (starEach (e::es) X.env)) (backToKw pos (keywordEach [] X.env))):=by rfl):
  PE X (.Call (.Attribute o m apos) (e::es) [] pos) (Ed C m sp dvs E ta t):=by
 intro pins s σ H Q I h;refine Zr (pl:=pl) (thn (he pins s σ H _ I h) λu s1 hzz=>?_) ht;obtain⟨x,H1,I1,rx,a,dx,fs,ex,ea,l,q⟩:=hzz;subst ex;obtain rfl:u=Value.ref a:=rx;refine i7 I1 ea c hm l ?_;refine Zo (first:=[.ref a]) (h₀:=X.base) I.ok.mod.kin hm.kp (thn (ha pos pins s1 σ H1 _ I1 q) λus s2 ⟨vs,H2,I2,r,q2⟩=>⟨I2.kIn,?_⟩) hst hpl;exact CA (us:= .ref a::us) (vs:= .ref a::vs) F hr hb hd hx I2 (.cons rfl r) q2
end
end L2
namespace L2
open PySem PySem.Spec PyProof.Rows PySem.W
variable {T:Addr} {P:Program} {w:World}
theorem uA {X:Cx}:eR (CX1 P w) X E0:=λ_ _ _ _ _ _ _ ⟨_,_,_,_,_,_,_,_,_,_,_,_,_,_,_,_,_,z⟩=>z.elim
def r6 (K:PySem.W.Frag) (fd:FuncData) (ps:List Str) (dvs:List V):Prop:=∃ds,Binds K fd ps ds/\Vals dvs ds
structure FunD (K:PySem.W.Frag) (x qual:Str) (st:Stmt) (f:Addr) (fd:FuncData):Prop where
 ex:∃(oc:Value) (od:Option Addr) (dV kV doc pm:Value) (an:Option Addr) (cdv ct:Value) (osl:Array (Option Value)),
  fd=fnOf x qual (fA st) (b7 st) (aj st) dV kV doc pm an cdv ct/\K.lookup f=some ⟨oc,od,.func fd,osl⟩/\codeIn K cdv qual=true
 kp:keepIn K (.ref f)=true
section
variable {K:PySem.W.Frag} {mg:Str->Option Value} {base:Heap} {x qual:Str} {st:Stmt} {f:Addr} {fd:FuncData} {N ps:List Str} {k:Nat} {sp:Sp}
theorem FunD.ok (F:FunD K x qual st f fd) (S:ax N ps (aj st)) (len:∀vs H Q E,sp vs H Q E->vs.length=ps.length)
  (hbody:∀(cdv:Value) (A:Around) (outer:List Env) (s:Shared) (H:Hp) (vs:List V) (Q:VK) (E:XK),Room k (A.deeper (envOfC qual (aj st) s.heap.objs.size f cdv))->sp vs H Q E->
   ∃t,PSs (m6 CX0 P w K mg base N qual (aj st) f cdv A outer s H E).nox (b7 st) t/\t {nx:=λ_ H'=>Q .non H',rt:=Q} (start N vs) H):FnOk P w K mg base CX0 (k+1) f fd ps sp:=by
 obtain⟨oc,od,dV,kV,doc,pm,an,cdv,ct,osl,rfl,lk,hcd⟩:=F.ex;refine yD lk hcd S len λA outer s H vs Q E hr hsp=>?_;obtain⟨t,h,q⟩:=hbody cdv A outer s H vs Q E hr hsp;exact⟨t,h.nox,q⟩
theorem FunD.okX (F:FunD K x qual st f fd) (S:ax N ps (aj st)) (len:∀vs H Q E,sp vs H Q E->vs.length=ps.length)
  (hbody:∀(cdv:Value) (A:Around) (outer:List Env) (s:Shared) (H:Hp) (vs:List V) (Q:VK) (E:XK),Room k (A.deeper (envOfC qual (aj st) s.heap.objs.size f cdv))->sp vs H Q E->
   ∃t,PSs (m6 (CX1 P w) P w K mg base N qual (aj st) f cdv A outer s H E) (b7 st) t/\t {nx:=λ_ H'=>Q .non H',rt:=Q} (start N vs) H):FnOk P w K mg base (CX1 P w) (k+1) f fd ps sp:=by
 obtain⟨oc,od,dV,kV,doc,pm,an,cdv,ct,osl,rfl,lk,hcd⟩:=F.ex;exact yD lk hcd S len λA outer s H vs Q E hr hsp=>hbody cdv A outer s H vs Q E hr hsp
structure Fc (K:PySem.W.Frag) (x qual:Str) (st:Stmt) (T f:Addr) (fd:FuncData):Prop where
 toD:FunD K x qual st f fd
 ex:∃(kV doc pm:Value) (an:Option Addr) (cdv ct:Value),fd=fnOf x qual (fA st) (b7 st) (aj st) (.ref T) kV doc pm an cdv ct
theorem yC {oc:Value} {od an:Option Addr} {osl:Array (Option Value)} {kV doc pm cdv ct:Value} (l:K.lookup f=some ⟨oc,od,.func (fnOf x qual (fA st) (b7 st) (aj st) (.ref T) kV doc pm an cdv ct),osl⟩)
  (c:codeIn K cdv qual=true) (k:keepIn K (.ref f)=true):Fc K x qual st T f (fnOf x qual (fA st) (b7 st) (aj st) (.ref T) kV doc pm an cdv ct):=⟨⟨⟨oc,od,_,kV,doc,pm,an,cdv,ct,osl,rfl,l,c⟩,k⟩,⟨kV,doc,pm,an,cdv,ct,rfl⟩⟩
theorem j3 {dd:Option Addr} {items:Array Value} {n:Nat} {sl:Array (Option Value)} {ds:List Value} (g:Nat) (hg:g+ds.length=ps.length) (F:Fc K x qual st T f fd) (hT:K.lookup T=some ⟨.type "tuple",dd,.seq items n,sl⟩)
  (h:∀(kV doc pm:Value) (an:Option Addr) (cdv ct:Value) (us:List Value),us.length=g->∃k,bindArgs (fnOf x qual (fA st) (b7 st) (aj st) (.ref T) kV doc pm an cdv ct) ⟨us,[]⟩=seqItems? (.ref T)>>=k/\k (some items)=pure (ps.zip (us++ds))):
  Binds K fd ps ds:=by
 obtain⟨kV,doc,pm,an,cdv,ct,rfl⟩:=F.ex;intro s us X hl;obtain⟨k,h1,h2⟩:=h kV doc pm an cdv ct us (by rw[Q9]at hl;lia);exact BindsTo.of_defaults rfl (X _ _ hT) rfl h1 h2
end
end L2
namespace L2
open PySem PySem.Spec PyProof.Rows
inductive DV where
 |non|bl (b:Bool)|int (i:Int)|str (x:Str)|lst (xs:List DV)|tup (xs:List DV)
end L2
namespace L2
open PySem PySem.Spec PyProof.Rows
end L2
namespace L2
open PySem PySem.Spec PyProof.Rows SeqAt
section
variable {X:Cx}
theorem mL {st:Stmt}:PS X st (λ_ _ _=>False):=λ_ _ _ _ _ _ h=>h.elim
theorem PlainL.isL {h:Heap} {a:Addr} {xs:Array Value} (p:PlainL h a xs):h.IsList a xs:=by
 obtain⟨o,n,e,c,_,d⟩:=p;exact⟨o,e,c,n,d⟩
def rEqN (K:PySem.W.Frag) (f:Bool):R2:=λx y H Q=>∃a b xs,x= .ref a/\y= .ref b/\SqL K H a xs/\SqL K H b []/\Q (.bl (xs.isEmpty !=f)) H
theorem Ex (K:PySem.W.Frag) (hK:X.K=K) (hu:X.A.units+20<cLine):OpR X (compareOp .Eq) (rEqN K false):=by
 subst hK;intro pins s σ H x y v u Q I rx ry h;obtain⟨a,b,xs,rfl,rfl,h1,h2,q⟩:=h;cases rx;cases ry;obtain⟨i1,r1,p1,z1⟩:=I.list h1;obtain⟨i2,r2,p2,z2⟩:=I.list h2;have hu0:X.A.units<cLine:=by lia
 cases r2;cases r1 with
 |nil=>exact RcAt.lists (A:=X.A) (e:=λ_=>true) (PlainL.isL p1) (PlainL.isL p2) rfl hu0 (λj h1=>absurd h1 (Xm _)) _ _ _ _ ⟨.bl _,H,I,rfl,q⟩
 |cons r t=>exact RcAt.lists_lengths (PlainL.isL p1) (PlainL.isL p2) (by simp) hu0 _ _ _ _ ⟨.bl _,H,I,rfl,q⟩
theorem Ew (K:PySem.W.Frag) (hK:X.K=K) (hu:X.A.units+20<cLine):OpR X (compareOp .NotEq) (rEqN K true):=by
 subst hK;intro pins s σ H x y v u Q I rx ry h;obtain⟨a,b,xs,rfl,rfl,h1,h2,q⟩:=h;cases rx;cases ry;obtain⟨i1,r1,p1,z1⟩:=I.list h1;obtain⟨i2,r2,p2,z2⟩:=I.list h2;have hu0:X.A.units<cLine:=by lia
 cases r2;cases r1 with
 |nil=>exact RcNeAt.lists (A:=X.A) (e:=λ_=>true) (PlainL.isL p1) (PlainL.isL p2) rfl hu0 (λj h1=>absurd h1 (Xm _)) _ _ _ _ ⟨.bl _,H,I,rfl,q⟩
 |cons r t=>exact RcNeAt.lists_lengths (PlainL.isL p1) (PlainL.isL p2) (by simp) hu0 _ _ _ _ ⟨.bl _,H,I,rfl,q⟩
end
end L2
namespace L2
open PySem PySem.Spec PyProof.Rows SeqAt
def Fl:V->Prop
 | .int _=>True| .str _=>True| .non=>True|_=>False
section
variable {X:Cx} {pins:List (Addr×Obj)} {σ:St} {H:Hp} {s:Shared}
theorem yE {A:Around} {x:V} {u v:Value} (h:Fl x) (r1:RelV x u) (r2:RelV x v):EqAt A s u v true:=by
 cases x with
 |int n=>
  obtain⟨t1,rfl⟩:=r1;obtain⟨t2,rfl⟩:=r2;have:=EqAt.int_int (A:=A) (s:=s) n t1 n t2;rwa [beq_self_eq_true]at this
 |str n=>
  obtain⟨t1,rfl⟩:=r1;obtain⟨t2,rfl⟩:=r2;have:=EqAt.str_str (A:=A) (s:=s) n t1 n t2;rwa [beq_self_eq_true]at this
 |non=>
  cases (show u=Value.none from r1);cases (show v=Value.none from r2);exact EqAt.same _
 |_=>exact h.elim
end
end L2
namespace L2
open PySem PySem.Spec PyProof.Rows SeqAt
def Alk (K:PySem.W.Frag) (H:Hp):Nat->V->V->Prop
 |0,x,y=>Fl x/\x=y
 |n+1,x,y=>(Fl x/\x=y)\/∃a b xs ys,x= .ref a/\y= .ref b/\(SqL K H a xs/\SqL K H b ys\/SqT K H a xs/\SqT K H b ys)/\xs.length=ys.length/\∀(j:Nat) (u v:V),xs[j]?=some u->ys[j]?=some v->Alk K H n u v
theorem rQ:∀{xs:List V} {us:List Value},Vals xs us->∀(j:Nat) (h:j<us.length),∃x,xs[j]?=some x/\RelV x us[j]
 |_,_,.nil,_,h=>absurd h (Xm _)
 |_,_,.cons r _,0,_=>⟨_,rfl,r⟩
 |_,_,.cons _ r,j+1,h=>rQ r j (Nat.lt_of_succ_lt_succ h)
section
variable {X:Cx} {pins:List (Addr×Obj)} {σ:St} {H:Hp} {s:Shared}
theorem BK (I:Inv X pins σ H s):∀(n:Nat) {A:Around} {x y:V} {u v:Value},A.units+n<cLine->Alk X.K H n x y->RelV x u->RelV y v->EqAt A s u v true
 |0,_,_,_,_,_,_,⟨f,e⟩,r1,r2=>yE f r1 (e▸r2)
 |n+1,A,x,y,u,v,hu,h,r1,r2=>by
  rcases h with⟨f,e⟩|⟨a,b,xs,ys,rfl,rfl,o,l,g⟩
  .exact yE f r1 (e▸r2)
  cases r1;cases r2;by_cases e:a=b
  .subst e;exact EqAt.same _
  have it:∀{us vs:List Value},Vals xs us->Vals ys vs->∀(j:Nat) (h1:j<us.length) (h2:j<vs.length),EqAt A.in1 s us[j] vs[j] true:=λv1 v2 j h1 h2=>by
   obtain⟨x,e1,q1⟩:=rQ v1 j h1;obtain⟨y,e2,q2⟩:=rQ v2 j h2;exact BK I n (by show A.units+1+n<cLine;lia) (g j x y e1 e2) q1 q2
  refine EqAt.of_refs e ?_;rcases o with⟨h1,h2⟩|⟨h1,h2⟩
  .obtain⟨i1,v1,p1,_⟩:=I.list h1;obtain⟨i2,v2,p2,_⟩:=I.list h2;have:=RcAt.lists (A:=A) (e:=λ_=>true) (PlainL.isL p1) (PlainL.isL p2) (by simpa[<-v1.length,<-v2.length]using l) (by lia) (λj a b=>by simpa using it v1 v2 j (by simpa using a) (by simpa using b));rw[QY.mpr λ_ _=>rfl]at this;exact this
  .obtain⟨i1,v1,p1,_⟩:=I.tuple h1;obtain⟨i2,v2,p2,_⟩:=I.tuple h2;have:=RcAt.tuples (A:=A) (e:=λ_=>true) p1 p2 (by lia) (λj a b=>by simpa using it v1 v2 j (by simpa using a) (by simpa using b));rw[QY.mpr λ_ _=>rfl]at this;simpa[<-v1.length,<-v2.length,l]using this
def rAlk (K:PySem.W.Frag) (f:Bool):R2:=λx y H Q=>∃(a b:Addr) (xs ys:List V),x= .ref a/\y= .ref b/\(SqL K H a xs/\SqL K H b ys\/SqT K H a xs/\SqT K H b ys)/\xs.length=ys.length/\(∀(j:Nat) (u v:V),xs[j]?=some u->ys[j]?=some v->Alk K H 4 u v)/\Q (.bl (!f)) H
theorem AH (K:PySem.W.Frag) (hK:X.K=K) (hu:X.A.units+20<cLine):OpR X (compareOp .NotEq) (rAlk K true):=by
 subst hK;intro pins s σ H x y v u Q I rx ry h;obtain⟨a,b,xs,ys,rfl,rfl,o,l,g,q⟩:=h;cases rx;cases ry;have it:∀{us vs:List Value},Vals xs us->Vals ys vs->∀(j:Nat) (h1:j<us.length) (h2:j<vs.length),EqAt X.A.in1 s us[j] vs[j] true:=λv1 v2 j h1 h2=>by
  obtain⟨x,e1,q1⟩:=rQ v1 j h1;obtain⟨y,e2,q2⟩:=rQ v2 j h2;exact BK I 4 (by show X.A.units+1+4<cLine;lia) (g j x y e1 e2) q1 q2
 rcases o with⟨h1,h2⟩|⟨h1,h2⟩
 .obtain⟨i1,v1,p1,_⟩:=I.list h1;obtain⟨i2,v2,p2,_⟩:=I.list h2;have:=RcNeAt.lists (A:=X.A) (e:=λ_=>true) (PlainL.isL p1) (PlainL.isL p2) (by simpa[<-v1.length,<-v2.length]using l) (by lia) (λj a b=>by simpa using it v1 v2 j (by simpa using a) (by simpa using b));rw[QY.mpr λ_ _=>rfl]at this;exact this _ _ _ _ ⟨.bl _,H,I,rfl,q⟩
 .obtain⟨i1,v1,p1,_⟩:=I.tuple h1;obtain⟨i2,v2,p2,_⟩:=I.tuple h2;have:=RcNeAt.tuples (A:=X.A) (e:=λ_=>true) p1 p2 (by lia) (λj a b=>by simpa using it v1 v2 j (by simpa using a) (by simpa using b));rw[QY.mpr λ_ _=>rfl,show(true&&i1.toArray.size==i2.toArray.size)=true by simp[<-v1.length,<-v2.length,l]]at this;exact this _ _ _ _ ⟨.bl _,H,I,rfl,q⟩
end
end L2
namespace L2
open PySem PySem.Spec PyProof.Rows
variable {p:Addr} {D:Addr->Sp->Prop} {o:HO} {H:Hp} {L:List V} {kk:Nat}
theorem oE {x y:V} {A B:Prop} (e:x=y) (h:A):if decide (x=y)=true then A else B:=by
 rw[decide_eq_true e];exact bN h
theorem al (h:H p=none):Same H (upd H p o):=λb u e=>by
 rw[ac (ak e h)];exact e
theorem nW {H':Hp} (s:Same H H') (h:H' p=none):H p=none:=by
 cases e:H p with
 |none=>rfl
 |some o=>rw[s p o e]at h;cases h
def AllI (P:Int->Prop):List V->Prop
 | []=>True
 | .int m::r=>P m/\AllI P r
 |_::_=>False
theorem AllI.ints {P:Int->Prop}:∀{L:List V},AllI P L->∃ns:List Int,L=ns.map V.int/\∀m∈ns,P m
 | [],_=>⟨[],rfl,λ_ z=>nomatch z⟩
 | .int m::r,h=>by
  obtain⟨ns,e,q⟩:=AllI.ints h.2;refine⟨m::ns,by rw[e];rfl,λx hx=>?_⟩;rcases Qj.mp hx with rfl|hx
  .exact h.1
  .exact q x hx
theorem FF {P:Int->Prop} {c n:Int} (h:AllI P L) (hn:(L.length:Int)=n) (hp:0<n):∃m,atI L (c%n)=some (.int m)/\P m:=by
 obtain⟨ns,e,q⟩:=h.ints;subst e;have a:=QK c (X3 hp);have b:=QT c hp;rw[Q0]at hn;have hlt:(c%n).toNat<ns.length:=by lia
 refine⟨_,m8 a (by lia),q _ ?_⟩;rw[Qy,Q4 hlt];exact Z4 hlt
theorem FE {c n:Int} (hn:(L.length:Int)=n) (hp:0<n):∃v,atI L (c%n)=some v/\v∈L:=by
 have a:=QK c (X3 hp);have b:=QT c hp;have hlt:(c%n).toNat<L.length:=by lia
 refine⟨L[(c%n).toNat],?_,Z4 hlt⟩;unfold atI ixN;rw[if_pos a,if_pos (by lia)];exact Q4 hlt
theorem cq {H':Hp} {l:Addr} (s:Same H H') (n:H l=none):Same H (upd H' l o):=λb u e=>by
 rw[ac (ak e n)];exact s b u e
theorem Bf {K:PySem.W.Frag} {C D:Addr} {b:Bool} (h1:PySem.W.typeIn K (.ref D)=some (.type "type")) (h2:PySem.W.isClsIn K D=true) (h3:PySem.W.subIn K (.ref C) (.ref D)=some b) (hne:C=D->b=true):
  PySem.W.kitOne K (.ref C) (.ref D)=some b:=by
 unfold PySem.W.kitOne;by_cases z:((Value.ref C:Value)== .ref D)=true
 .rw[if_pos z,hne (Value.ref.inj (beq_iff_eq.mp z))]
 .rw[if_neg z];show(if((PySem.W.clsIn K D).isSome&&PySem.W.typeIn K (.ref D)==some (.type "type"))=true then PySem.W.subIn K (.ref C) (.ref D)else none)=some b;have:(PySem.W.clsIn K D).isSome=true:=h2;rw[if_pos (by rw[this,h1];simp),h3]
theorem Room.u20 {k:Nat} {A:Around} (r:Room k A):A.units+20<cLine:=by have:=r.un;lia
section
variable {X:Cx} {k:Nat} {f C:Addr} {fd:FuncData} {ps:List Str} {sp:Sp} {dvs:List V} {ds:List Value} {E:XK} {x m:Str} {p pos apos:Pos} {e o:Expr} {es:List Expr} {ta:TE} {t:TA}
theorem vP (K:PySem.W.Frag) (hK:X.K=K) {f:Str} (he:PE X o ta) (hb:attributeBase o f X.env (eval o X.env)=eval o X.env):PE X (.Attribute o f pos) (DI K ta f):=by
 subst hK;exact CU he hb
def BQ (X:Cx) (kk:Nat) (m:Str) (C:Addr) (sp:Sp):Prop:=Cls X.K C/\∃f fd ps,bX X.K C m f/\FnOk X.prog X.w X.K X.mg X.base CX0 kk f fd ps sp/\Binds X.K fd ps []
def D1 (C:Addr) (sp:Sp):Addr->Sp->Prop:=λC' sp'=>C'=C/\sp'=sp
def DOr (D D':Addr->Sp->Prop):Addr->Sp->Prop:=λC sp=>D C sp\/D' C sp
theorem wu (c:Cls X.K C) (hm:bX X.K C m f) (F:FnOk X.prog X.w X.K X.mg X.base CX0 k f fd ps sp) (hb:Binds X.K fd ps []) (hk:k<=kk):∀C' sp',D1 C sp C' sp'->BQ X kk m C' sp':=λC' sp' h=>by
 obtain⟨rfl,rfl⟩:=h;exact⟨c,f,fd,ps,hm,F.mono hk,hb⟩
theorem Dn {D':Addr->Sp->Prop} (h:∀C sp,D C sp->BQ X kk m C sp) (h':∀C sp,D' C sp->BQ X kk m C sp):∀C sp,DOr D D' C sp->BQ X kk m C sp:=λC sp z=>z.elim (h C sp) (h' C sp)
def Ee (D:Addr->Sp->Prop) (m:Str) (ta:TE) (t:TA):TE:=λσ H Q=>ta σ H λx H1=>∃a C dx fs sp,x= .ref a/\H1 a=some (.ins C dx fs)/\fs.lookup m=none/\D C sp/\
 t σ H1 λvs H2=>sp (x::vs) H2 Q E0
theorem AE {pl:Sem Bool} (hD:∀C sp,D C sp->BQ X kk m C sp) (hr:Room kk X.A) (he:PE X o ta) (ha:PA X (e::es) t)
  (hst:starEach (e::es) X.env=(false,eval e X.env)::starEach es X.env:=by rfl) (hpl:(backTo pos (starEach es X.env)).any (·.1)=false:=by rfl)
  (ht:eval (.Call (.Attribute o m apos) (e::es) [] pos) X.env=(do
   let ov<-eval o X.env
   standAt apos.atName
   let(f,first)<-holding [ov] (getMethod ov m pl)
   callWith pos f first (backTo pos (starEach (e::es) X.env)) (backToKw pos (keywordEach [] X.env))):=by rfl):
  PE X (.Call (.Attribute o m apos) (e::es) [] pos) (Ee D m ta t):=by
 intro pins s σ H Q I h;refine Zr (pl:=pl) (thn (he pins s σ H _ I h) λu s1 hzz=>?_) ht;obtain⟨x,H1,I1,rx,a,C,dx,fs,sp,ex,ea,l,d,q⟩:=hzz;subst ex;obtain rfl:u=Value.ref a:=rx;obtain⟨c,f,fd,ps,hm,F,hb⟩:=hD C sp d;refine i7 I1 ea c hm l ?_;refine Zo (first:=[.ref a]) (h₀:=X.base) I.ok.mod.kin hm.kp (thn (ha pos pins s1 σ H1 _ I1 q) λus s2 ⟨vs,H2,I2,r,q2⟩=>⟨I2.kIn,?_⟩) hst hpl;exact qJ (us:= .ref a::us) (vs:= .ref a::vs) (dvs:=[]) F hr hb .nil az I2 (.cons rfl r) (by rw[ZG];exact q2)
end
end L2
namespace Srt
open PySem PyProof.Rows
variable {xs ys:Array Keyed} {blt:Keyed->Keyed->Bool} {e hi i j lo n nrem:Nat} {st:SortSt} {γ:Type} {Q:Unit->SortSt->Prop} {E:Value->Shared->Prop}
abbrev dk:Keyed:=(Value.none,Value.none)
def g (xs:Array Keyed) (i:Nat):Keyed:=xs[i]?.getD dk
theorem da (h:i<xs.size):xs[i]?=some (g xs i):=by
 unfold g;rw[getElem?_pos xs i h];rfl
theorem mZ (h:xs[i]?=ys[j]?):g xs i=g ys j:=by unfold g;rw[h]
theorem tM (h:i<xs.size):g xs i∈xs:=by
 have e:=da h;exact Array.mem_of_getElem? e
structure Cmp (blt:Keyed->Keyed->Bool):Prop where
 asym:∀x y,blt x y=true->blt y x=false
 tr:∀x y z,blt y x=false->blt z y=false->blt z x=false
section
variable (C:Cmp blt)
abbrev le (blt:Keyed->Keyed->Bool) (x y:Keyed):Prop:=blt y x=false
include C
theorem Cmp.trans {x y z:Keyed} (h1:le blt x y) (h2:le blt y z):le blt x z:=C.tr x y z h1 h2
theorem Cmp.of_lt {x y:Keyed} (h:blt x y=true):le blt x y:=C.asym _ _ h
end
def On (blt:Keyed->Keyed->Bool) (xs:Array Keyed) (lo hi:Nat):Prop:=∀i j,lo<=i->i<j->j<hi->le blt (g xs i) (g xs j)
def Off (blt:Keyed->Keyed->Bool) (xs:Array Keyed) (lo hi:Nat):Prop:=∀i j,lo<=i->i<j->j<hi->le blt (g xs j) (g xs i)
theorem On.one:On blt xs lo (lo+1):=λi j h1 h2 h3=>by lia
theorem Off.one:Off blt xs lo (lo+1):=λi j h1 h2 h3=>by lia
theorem On.congr (h:On blt xs lo hi) (e:∀k,lo<=k->k<hi->g ys k=g xs k):On blt ys lo hi:=λi j h1 h2 h3=>by
 rw[e i h1 (by lia),e j (by lia) h3];exact h i j h1 h2 h3
theorem On.sub {lo' hi':Nat} (h:On blt xs lo hi) (h1:lo<=lo') (h2:hi'<=hi):On blt xs lo' hi':=λi j a b c=>h i j (by lia) b (by lia)
section
variable (C:Cmp blt)
include C
theorem On.snoc (h:On blt xs lo (lo+n)) (hn:1<=n) (e:le blt (g xs (lo+n-1)) (g xs (lo+n))):On blt xs lo (lo+(n+1)):=λi j h1 h2 h3=>by
 by_cases z:j<lo+n
 .exact h i j h1 h2 z
 .have ej:j=lo+n:=by lia
  subst ej;by_cases y:i=lo+n-1
  .subst y;exact e
  .exact C.trans (h i (lo+n-1) h1 (by lia) (by lia)) e
theorem Off.snoc (h:Off blt xs lo (lo+n)) (hn:1<=n) (e:le blt (g xs (lo+n)) (g xs (lo+n-1))):Off blt xs lo (lo+(n+1)):=λi j h1 h2 h3=>by
 by_cases z:j<lo+n
 .exact h i j h1 h2 z
 .have ej:j=lo+n:=by lia
  subst ej;by_cases y:i=lo+n-1
  .subst y;exact e
  .exact C.trans e (h i (lo+n-1) h1 (by lia) (by lia))
end
theorem Bo (hj:j<=xs.size) (k:Nat):g (mirror xs i j ((j-i)/2)) k=if i<=k/\k<j then g xs (i+j-1-k)else g xs k:=by
 have e:=getElem?_mirror_all (i:=i) hj k;by_cases h1:i<=k/\k<j
 .rw[if_pos h1]at e⊢;exact mZ e
 .rw[if_neg h1]at e⊢;exact mZ e
theorem Bp {src d:Nat} (hs:src<xs.size) (hd:d<=src) (k:Nat):g (bubble xs src d) k=if k=src-d then g xs src else if src-d<k/\k<=src then g xs (k-1)else g xs k:=by
 have e:=getElem?_bubble hs d hd k;by_cases h1:k=src-d
 .rw[if_pos h1]at e⊢;exact mZ e
 .rw[if_neg h1]at e⊢;by_cases h2:src-d<k/\k<=src
  .rw[if_pos h2]at e⊢;exact mZ e
  .rw[if_neg h2]at e⊢;exact mZ e
section
variable {prog:Program} {w:World} {A:Around} {s:Shared} {a₀:Array Keyed} {κ:SortKind}
def vi (prog:Program) (w:World) (A:Around) (E:Value->Shared->Prop) (s:Shared) (a₀:Array Keyed) (κ:SortKind) (blt:Keyed->Keyed->Bool):Prop:=
 ∀(x y:Keyed) (st:SortSt) (Q:Option Bool->SortSt->Prop),x∈a₀->y∈a₀->kindOf st=κ->Q (some (blt x y)) st->wpS (model prog w) A E s (lt' x y) Q st
structure Base (a₀:Array Keyed) (κ:SortKind) (st:SortSt):Prop where
 kind:kindOf st=κ
 fine:failedOf st=none
 perm:(arrOf st).Perm a₀
theorem Base.size (B:Base a₀ κ st):(arrOf st).size=a₀.size:=B.perm.size_eq
theorem Base.mem (B:Base a₀ κ st) (h:i<a₀.size):g (arrOf st) i∈a₀:=(B.perm.mem_iff).mp (tM (by rw[B.size];exact h))
variable (L:vi prog w A E s a₀ κ blt)
include L
theorem mr {Q:Option Bool->SortSt->Prop} (B:Base a₀ κ st) (hi:i<a₀.size) (hj:j<a₀.size) (h:Q (some (blt (g (arrOf st) i) (g (arrOf st) j))) st):
  wpS (model prog w) A E s (ltAt' i j) Q st:=by
 rw[ltAt'_eq];refine wpS_bind (wpS_get ?_);show wpS _ _ _ _ (do let x<-elem' (arrOf st) i;let y<-elem' (arrOf st) j;lt' x y) Q st;rw[elem'_eq,elem'_eq,da (by rw[B.size];exact hi),da (by rw[B.size];exact hj)];refine wpS_bind (wpS_pure (wpS_bind (wpS_pure ?_)));exact L _ _ st Q (B.mem hi) (B.mem hj) B.kind h
omit L in
theorem Af {α:Type} {m m':StateT SortSt Sem α} {Q:α->SortSt->Prop} (e:m=m') (h:wpS (model prog w) A E s m' Q st):wpS (model prog w) A E s m Q st:=by rw[e];exact h
abbrev Keep (lo:Nat) (xs ys:Array Keyed):Prop:=∀k,k<lo->g ys k=g xs k
theorem fH (B:Base a₀ κ st) (hj:j<=a₀.size)
  (h:∀st',Base a₀ κ st'->pendingOf st'=pendingOf st->(∀k,g (arrOf st') k=if i<=k/\k<j then g (arrOf st) (i+j-1-k)else g (arrOf st) k)->Q () st'):
  wpS (model prog w) A E s (reverseSlice' i j) Q st:=by
 rw[reverseSlice'_eq];refine wpS_modify (h _ ⟨B.kind,B.fine,(mirror_perm _ _ _ _).trans B.perm⟩ rfl λk=>?_);exact Bo (by rw[B.size];exact hj) k
theorem Ae {a:Nat} {f:Nat->Option γ×Nat->StateT SortSt Sem (ForInStep (Option γ×Nat))} {Q:Option γ×Nat->SortSt->Prop} (C:Cmp blt) (B:Base a₀ κ st) (ha:1<=a) (han:a<=nrem) (hz:lo+nrem<=a₀.size) (hs:On blt (arrOf st) lo (lo+a))
  (hf:∀(i n:Nat) (R:ForInStep (Option γ×Nat)->SortSt->Prop),n<nrem->1<=n->(blt (g (arrOf st) (lo+n)) (g (arrOf st) (lo+n-1))=true->R (.done (none,n)) st)->(blt (g (arrOf st) (lo+n)) (g (arrOf st) (lo+n-1))=false->R (.yield (none,n+1)) st)->wpS (model prog w) A E s (f i (none,n)) R st)
  (h:∀n,a<=n->n<=nrem->On blt (arrOf st) lo (lo+n)->(n<nrem->blt (g (arrOf st) (lo+n)) (g (arrOf st) (lo+n-1))=true)->Q (none,n) st):
  wpS (model prog w) A E s (forIn [a:nrem] (none,a) f) Q st:=by
 refine wpS_forRange (I:=λi c st'=>st'=st/\c=(none,i)/\a<=i/\i<=nrem/\On blt (arrOf st) lo (lo+i)) ?_ ?_ ⟨rfl,rfl,Q5 _,han,hs⟩
 .rintro i c st' h1 h2 ⟨rfl,rfl,h3,h4,h5⟩;refine hf i i _ h2 (by lia) (λe=>?_) (λe=>?_)
  .exact h i h3 h4 h5 λ_=>e
  .exact⟨rfl,rfl,by lia,by lia,h5.snoc C (by lia) e⟩
 .rintro c st' ⟨rfl,rfl,h3,h4,h5⟩;have e:max a nrem=nrem:=QO han;rw[e]at h5⊢;exact h nrem han (Q5 _) h5 λz=>absurd z (ZA _)
omit L in
theorem oh {b:Nat} (hb:lo<=b) (h:Off blt xs lo e) (o:On blt xs b e) (hy:∀k,g ys k=if b<=k/\k<e then g xs (b+e-1-k)else g xs k):Off blt ys lo e:=λi j h1 h2 h3=>by
 rw[hy i,hy j];by_cases jb:b<=j
 .rw[if_pos ⟨jb,h3⟩];by_cases ib:b<=i
  .rw[if_pos ⟨ib,by lia⟩];exact o _ _ (by lia) (by lia) (by lia)
  .rw[if_neg (by lia)];exact h _ _ h1 (by lia) (by lia)
 .rw[if_neg (by lia),if_neg (by lia)];exact h i j h1 h2 h3
omit L in
theorem Ey (h:Off blt xs lo e) (hy:∀k,g ys k=if lo<=k/\k<e then g xs (lo+e-1-k)else g xs k):On blt ys lo e:=λi j h1 h2 h3=>by
 rw[hy i,hy j,if_pos ⟨h1,by lia⟩,if_pos ⟨by lia,h3⟩];exact h _ _ (by lia) (by lia) (by lia)
omit L in
theorem CW (h:On blt xs lo e) (hy:∀k,g ys k=if lo<=k/\k<e then g xs (lo+e-1-k)else g xs k):Off blt ys lo e:=λi j h1 h2 h3=>by
 rw[hy i,hy j,if_pos (show lo<=j/\j<e by lia),if_pos (show lo<=i/\i<e by lia)];exact h _ _ (by lia) (by lia) (by lia)
def BJ (lo:Nat):Nat->Option (Option Nat)×Nat->StateT SortSt Sem (ForInStep (Option (Option Nat)×Nat)):=λ_ __s=>do
 let __x<-ltAt' (lo+__s.snd) (lo+__s.snd-1)
 match __x with
 |some smaller=>if smaller=true then pure (ForInStep.done (none,__s.snd))else pure (ForInStep.yield (none,__s.snd+1))
 |_=>pure (ForInStep.done (some none,__s.snd))
def sW (lo n nrem:Nat):StateT SortSt Sem (Option Nat):=do
 reverseSlice' lo (lo+n)
 let __s<-forIn [n:nrem] (none,n) (BJ lo)
 match __s.fst with
 |some r=>pure r
 |none=>pure (some __s.snd)
def yG (lo:Nat):Nat->Option (Option Nat)×Nat×Nat->StateT SortSt Sem (ForInStep (Option (Option Nat)×Nat×Nat)):=λ_ __s=>do
 let __x<-ltAt' (lo+__s.snd.fst) (lo+__s.snd.fst-1)
 match __x with
 |some smaller=>
  if smaller=true then
   if __s.snd.snd>0 then do
    reverseSlice' (lo+__s.snd.fst-(__s.snd.snd+1)) (lo+__s.snd.fst)
    pure (ForInStep.yield (none,__s.snd.fst+1,0))
   else pure (ForInStep.yield (none,__s.snd.fst+1,0))
  else do
   let __x<-ltAt' (lo+__s.snd.fst-1) (lo+__s.snd.fst)
   match __x with
   |some larger=>
    if larger=true then pure (ForInStep.done (none,__s.snd.fst,__s.snd.snd))
    else pure (ForInStep.yield (none,__s.snd.fst+1,__s.snd.snd+1))
   |_=>pure (ForInStep.done (some none,__s.snd.fst,__s.snd.snd))
 |_=>pure (ForInStep.done (some none,__s.snd.fst,__s.snd.snd))
def tV (lo n nrem:Nat):StateT SortSt Sem (Option Nat):=do
 liftM (rule "list.sort.descending-run")
 let __s<-forIn [n+1:nrem] (none,n+1,0) (yG lo)
 match __s.fst with
 |some r=>pure r
 |none=>
  if __s.snd.snd>0 then do
   reverseSlice' (lo+__s.snd.fst-(__s.snd.snd+1)) (lo+__s.snd.fst)
   sW lo __s.snd.fst nrem
  else sW lo __s.snd.fst nrem
theorem xT {R:ForInStep (Option (Option Nat)×Nat)->SortSt->Prop} (B:Base a₀ κ st) (hz:lo+nrem<=a₀.size) (hn:n<nrem) (h1:1<=n)
  (ht:blt (g (arrOf st) (lo+n)) (g (arrOf st) (lo+n-1))=true->R (.done (none,n)) st) (hf:blt (g (arrOf st) (lo+n)) (g (arrOf st) (lo+n-1))=false->R (.yield (none,n+1)) st):wpS (model prog w) A E s (BJ lo i (none,n)) R st:=by
 unfold BJ;refine wpS_bind (mr L B (by dsimp only;lia) (by dsimp only;lia) ?_);dsimp only;cases e:blt (g (arrOf st) (lo+n)) (g (arrOf st) (lo+n-1))with
 |true=>exact wpS_pure (ht e)
 |false=>exact wpS_pure (hf e)
theorem mq {Q:Option Nat->SortSt->Prop} (C:Cmp blt) (B:Base a₀ κ st) (h1:1<=n) (hn:n<=nrem) (hz:lo+nrem<=a₀.size) (ho:Off blt (arrOf st) lo (lo+n))
  (h:∀m st',Base a₀ κ st'->pendingOf st'=pendingOf st->1<=m->m<=nrem->On blt (arrOf st') lo (lo+m)->Keep lo (arrOf st) (arrOf st')->Q (some m) st'):wpS (model prog w) A E s (sW lo n nrem) Q st:=by
 unfold sW;refine wpS_bind (fH L B (by lia) λst' B' hp hy=>?_);refine wpS_bind (Ae L C B' h1 hn hz (Ey ho hy) (λi n R hn h1 ht hf=>xT L B' (i:=i) hz hn h1 ht hf) (λm ha hm hs _=>?_));exact wpS_pure (h m st' B' hp (by lia) hm hs λk hk=>by rw[hy k,if_neg (by lia)])
theorem vp {Q:Option Nat->SortSt->Prop} (C:Cmp blt) (B:Base a₀ κ st) (h1:1<=n) (hn:n+1<=nrem) (hz:lo+nrem<=a₀.size) (ho:Off blt (arrOf st) lo (lo+(n+1)))
  (h:∀m st',Base a₀ κ st'->pendingOf st'=pendingOf st->1<=m->m<=nrem->On blt (arrOf st') lo (lo+m)->Keep lo (arrOf st) (arrOf st')->Q (some m) st'):wpS (model prog w) A E s (tV lo n nrem) Q st:=by
 unfold tV;refine wpS_bind (wpS_lift (wpAny_rule ⟨rfl,?_⟩));refine wpS_bind (wpS_forRange (I:=λi c st'=>∃q,c=(none,i,q)/\Base a₀ κ st'/\pendingOf st'=pendingOf st/\Keep lo (arrOf st) (arrOf st')/\n+1<=i/\i<=nrem/\q+1<=i/\Off blt (arrOf st') lo (lo+i)/\On blt (arrOf st') (lo+i-(q+1)) (lo+i)) ?_ ?_
  ⟨0,rfl,B,rfl,λ_ _=>rfl,Q5 _,hn,by lia,ho,λi j a b c=>by lia⟩)
 .rintro i c st' hi1 hi2 ⟨q,rfl,B',hp,hk,h2,h3,h4,off,on⟩;unfold yG;refine wpS_bind (mr L B' (by dsimp only;lia) (by dsimp only;lia) ?_);dsimp only;cases e:blt (g (arrOf st') (lo+i)) (g (arrOf st') (lo+i-1))with
  |true=>
   by_cases q0:q>0
   .rw[if_pos rfl,if_pos q0];refine wpS_bind (fH L B' (by lia) λst2 B2 hp2 hy=>?_);refine wpS_pure ⟨0,rfl,B2,hp2.trans hp,λk hk2=>by rw[hy k,if_neg (by lia)];exact hk k hk2,by lia,by lia,by lia,?_,λi j a b c=>by lia⟩;refine(oh (by lia) off on hy).snoc C (by lia) ?_;rw[hy,hy,if_neg (by lia),if_pos (by lia)];have z:lo+i-(q+1)+(lo+i)-1-(lo+i-1)=lo+i-(q+1):=by lia
    rw[z];exact C.trans (C.of_lt e) (off _ _ (by lia) (by lia) (by lia))
   .rw[if_pos rfl,if_neg q0];exact wpS_pure ⟨0,rfl,B',hp,hk,by lia,by lia,by lia,off.snoc C (by lia) (C.of_lt e),λi j a b c=>by lia⟩
  |false=>
   simp only[QS,if_false];refine wpS_bind (mr L B' (by lia) (by lia) ?_);dsimp only;cases e2:blt (g (arrOf st') (lo+i-1)) (g (arrOf st') (lo+i))with
   |true=>
    simp only[if_true];refine wpS_pure ?_;dsimp only;by_cases q0:q>0
    .rw[if_pos q0];refine wpS_bind (fH L B' (by lia) λst2 B2 hp2 hy=>?_);refine mq L C B2 (by lia) h3 hz (oh (by lia) off on hy) λm st3 B3 hp3 a b c d=>h m st3 B3 (hp3.trans (hp2.trans hp)) a b c λk hk2=>?_;rw[d k hk2,hy k,if_neg (by lia)];exact hk k hk2
    .rw[if_neg q0];exact mq L C B' (by lia) h3 hz off λm st3 B3 hp3 a b c d=>h m st3 B3 (hp3.trans hp) a b c λk hk2=>(d k hk2).trans (hk k hk2)
   |false=>
    simp only[QS,if_false];refine wpS_pure ⟨q+1,rfl,B',hp,hk,by lia,by lia,by lia,off.snoc C (by lia) e2,?_⟩;have z:lo+(i+1)-(q+1+1)=lo+i-(q+1):=by lia
    rw[z];intro x y hx hy hz';by_cases hyi:y<lo+i
    .exact on x y hx hy hyi
    .have ey:y=lo+i:=by lia
     subst ey;by_cases hxi:x=lo+i-1
     .subst hxi;exact e
     .exact C.trans (on x (lo+i-1) hx (by lia) (by lia)) e
 .rintro c st' ⟨q,rfl,B',hp,hk,h2,h3,h4,off,on⟩;have em:max (n+1) nrem=nrem:=QO hn;rw[em]at h3 h4 off on⊢;dsimp only;by_cases q0:q>0
  .rw[if_pos q0];refine wpS_bind (fH L B' (by lia) λst2 B2 hp2 hy=>?_);refine mq L C B2 (by lia) h3 hz (oh (by lia) off on hy) λm st3 B3 hp3 a b c d=>h m st3 B3 (hp3.trans (hp2.trans hp)) a b c λk hk2=>?_;rw[d k hk2,hy k,if_neg (by lia)];exact hk k hk2
  .rw[if_neg q0];exact mq L C B' (by lia) h3 hz off λm st3 B3 hp3 a b c d=>h m st3 B3 (hp3.trans hp) a b c λk hk2=>(d k hk2).trans (hk k hk2)
theorem Ad {Q:Option Nat->SortSt->Prop} (C:Cmp blt) (B:Base a₀ κ st) (h1:1<=nrem) (hz:lo+nrem<=a₀.size)
  (h:∀n st',Base a₀ κ st'->pendingOf st'=pendingOf st->1<=n->n<=nrem->On blt (arrOf st') lo (lo+n)->Keep lo (arrOf st) (arrOf st')->Q (some n) st'):wpS (model prog w) A E s (countRun' lo nrem) Q st:=by
 rw[countRun'_eq];dsimp only;refine wpS_bind (Ae L C B (Q5 1) h1 hz On.one (λi n R hn h1 ht hf=>xT L B (i:=i) hz hn h1 ht hf) (λn ha hn hs hlt=>?_));dsimp only;by_cases en:n=nrem
 .subst en;simp only[beq_self_eq_true,if_true];exact wpS_pure (h n st B rfl ha hn hs λ_ _=>rfl)
 .have eb:(n==nrem)=false:=beq_eq_false_iff_ne.mpr en;simp only[eb,QS,if_false];have fall:=hlt (by lia);by_cases n1:n>1
  .rw[if_pos n1];refine wpS_bind (mr L B (by lia) (by lia) ?_);dsimp only;cases e:blt (g (arrOf st) lo) (g (arrOf st) (lo+n-1))with
   |true=>
    simp only[if_true];exact wpS_pure (h n st B rfl ha hn hs λ_ _=>rfl)
   |false=>
    simp only[QS,if_false];refine wpS_bind (fH L B (by lia) λst2 B2 hp2 hy=>?_);have off:Off blt (arrOf st2) lo (lo+(n+1)):=by
     refine(CW hs hy).snoc C ha ?_;rw[hy,hy,if_neg (by lia),if_pos (by lia)];have z:lo+(lo+n)-1-(lo+n-1)=lo:=by lia
     rw[z];exact C.trans (C.of_lt fall) e
    refine Af (m':=tV lo n nrem) (by
      unfold tV sW BJ yG;congr 1;funext _u;congr 1;funext s2;obtain⟨r2,n2,q2⟩:=s2;cases r2 with
      |some r2=>rfl
      |none=>
       dsimp only;split
       .congr 1;funext _v;congr 1;funext _w;congr 1;funext s3;obtain⟨r3,n3⟩:=s3;cases r3<;>rfl
       .congr 1;funext _w;congr 1;funext s3;obtain⟨r3,n3⟩:=s3;cases r3<;>rfl) (vp L C B2 ha (by lia) hz off λm st3 B3 hp3 a b c d=>h m st3 B3 (hp3.trans hp2) a b c λk hk=>by rw[d k hk,hy k,if_neg (by lia)])
  .rw[if_neg n1];have e1:n=1:=by lia
   subst e1;refine Af (m':=tV lo 1 nrem) (by
      unfold tV sW BJ yG;congr 1;funext _u;congr 1;funext s2;obtain⟨r2,n2,q2⟩:=s2;cases r2 with
      |some r2=>rfl
      |none=>
       dsimp only;split
       .congr 1;funext _v;congr 1;funext _w;congr 1;funext s3;obtain⟨r3,n3⟩:=s3;cases r3<;>rfl
       .congr 1;funext _w;congr 1;funext s3;obtain⟨r3,n3⟩:=s3;cases r3<;>rfl) (vp L C B ha (by lia) hz (Off.one.snoc C (Q5 1) (C.of_lt fall)) h)
omit L in
theorem xS {k l:Nat} (B:Base a₀ κ st) (hk:k<a₀.size) (hl:l<=k)
  (h:∀st',Base a₀ κ st'->pendingOf st'=pendingOf st->(∀j,g (arrOf st') j=if j=l then g (arrOf st) k else if l<j/\j<=k then g (arrOf st) (j-1)else g (arrOf st) j)->Q () st'):
  wpS (model prog w) A E s (moveDown' k l) Q st:=by
 rw[moveDown'_eq];refine wpS_modify (h _ ⟨B.kind,B.fine,(bubble_perm _ _ _).trans B.perm⟩ rfl λj=>?_);have e:=Bp (xs:=arrOf st) (src:=k) (d:=k-l) (by rw[B.size];exact hk) (by lia) j;have z:k-(k-l)=l:=by lia
 rw[z]at e;exact e
theorem y3 {ok:Nat} {Q:Bool->SortSt->Prop} (C:Cmp blt) (B:Base a₀ κ st) (h1:1<=ok) (hok:ok<=n) (hz:lo+n<=a₀.size) (hs:On blt (arrOf st) lo (lo+ok))
  (h:∀st',Base a₀ κ st'->pendingOf st'=pendingOf st->On blt (arrOf st') lo (lo+n)->Keep lo (arrOf st) (arrOf st')->Q true st'):wpS (model prog w) A E s (binarySort' lo n ok) Q st:=by
 rw[binarySort'_eq];dsimp only;have em:max ok 1=ok:=Nat.max_eq_left h1;rw[em];refine wpS_bind (wpS_forRange (I:=λi c st'=>c=(none,())/\Base a₀ κ st'/\pendingOf st'=pendingOf st/\Keep lo (arrOf st) (arrOf st')/\ok<=i/\i<=n/\On blt (arrOf st') lo (lo+i)) ?_ ?_
  ⟨rfl,B,rfl,λ_ _=>rfl,Q5 _,hok,hs⟩)
 .rintro k c st' hk1 hk2 ⟨rfl,B',hp,hk,h2,h3,on⟩;refine wpS_bind (wpS_forRange (I:=λi c st2=>st2=st'/\∃l r,c=(none,l,r)/\l<=r/\r<=k/\r-l<=k-i/\(∀j,j<l->le blt (g (arrOf st') (lo+j)) (g (arrOf st') (lo+k)))/\(∀j,r<=j->j<k->le blt (g (arrOf st') (lo+k)) (g (arrOf st') (lo+j)))) ?_ ?_
   ⟨rfl,0,k,rfl,Qi _,Q5 _,Q5 _,λj hj=>absurd hj (Xm _),λj a b=>by lia⟩)
  .rintro i c st2 hi1 hi2 ⟨rfl,l,r,rfl,hlr,hrk,hm,below,above⟩;dsimp only;by_cases hge:l>=r
   .rw[if_pos hge];refine wpS_pure ?_;dsimp only;have elr:l=r:=by lia
    refine wpS_bind (xS B' (by lia) (by lia) λst3 B3 hp3 hy=>wpS_pure ⟨rfl,B3,hp3.trans hp,λq hq=>?_,by lia,by lia,?_⟩)
    .rw[hy q,if_neg (by lia),if_neg (by lia)];exact hk q hq
    .intro a b ha hab hb;rw[hy a,hy b];by_cases b1:b=lo+l
     .rw[if_pos b1,if_neg (by lia),if_neg (by lia)];have:=below (a-lo) (by lia);rwa [show lo+(a-lo)=a by lia]at this
     .rw[if_neg b1];by_cases b2:lo+l<b/\b<=lo+k
      .rw[if_pos b2];by_cases a1:a=lo+l
       .rw[if_pos a1];have:=above (b-1-lo) (by lia) (by lia);rwa [show lo+(b-1-lo)=b-1 by lia]at this
       .rw[if_neg a1];by_cases a2:lo+l<a/\a<=lo+k
        .rw[if_pos a2];exact on _ _ (by lia) (by lia) (by lia)
        .rw[if_neg a2];exact on _ _ (by lia) (by lia) (by lia)
      .rw[if_neg b2,if_neg (by lia),if_neg (by lia)];exact on _ _ ha hab (by lia)
   .rw[if_neg hge];refine wpS_bind (mr L B' (by lia) (by lia) ?_);dsimp only;cases e:blt (g (arrOf st2) (lo+k)) (g (arrOf st2) (lo+(l+r)/2))with
    |true=>
     rw[if_pos rfl];refine wpS_pure ⟨rfl,l,(l+r)/2,rfl,by lia,by lia,by lia,below,λj a b=>?_⟩;by_cases ej:j=(l+r)/2
     .subst ej;exact C.of_lt e
     .exact C.trans (C.of_lt e) (on _ _ (by lia) (by lia) (by lia))
    |false=>
     rw[if_neg (by decide)];refine wpS_pure ⟨rfl,(l+r)/2+1,r,rfl,by lia,by lia,by lia,λj a=>?_,above⟩;by_cases ej:j=(l+r)/2
     .subst ej;exact e
     .exact C.trans (on _ _ (by lia) (by lia) (by lia)) e
  .rintro c st2 ⟨rfl,l,r,rfl,hlr,hrk,hm,below,above⟩;have ek:max 0 k=k:=QO (Qi _);rw[ek]at hm;have elr:l=r:=by lia
   dsimp only;refine wpS_bind (xS B' (by lia) (by lia) λst3 B3 hp3 hy=>wpS_pure ⟨rfl,B3,hp3.trans hp,λq hq=>?_,by lia,by lia,?_⟩)
   .rw[hy q,if_neg (by lia),if_neg (by lia)];exact hk q hq
   .intro a b ha hab hb;rw[hy a,hy b];by_cases b1:b=lo+l
    .rw[if_pos b1,if_neg (by lia),if_neg (by lia)];have:=below (a-lo) (by lia);rwa [show lo+(a-lo)=a by lia]at this
    .rw[if_neg b1];by_cases b2:lo+l<b/\b<=lo+k
     .rw[if_pos b2];by_cases a1:a=lo+l
      .rw[if_pos a1];have:=above (b-1-lo) (by lia) (by lia);rwa [show lo+(b-1-lo)=b-1 by lia]at this
      .rw[if_neg a1];by_cases a2:lo+l<a/\a<=lo+k
       .rw[if_pos a2];exact on _ _ (by lia) (by lia) (by lia)
       .rw[if_neg a2];exact on _ _ (by lia) (by lia) (by lia)
     .rw[if_neg b2,if_neg (by lia),if_neg (by lia)];exact on _ _ ha hab (by lia)
 .rintro c st' ⟨rfl,B',hp,hk,h2,h3,on⟩;have e:max ok n=n:=QO hok;rw[e]at on;exact wpS_pure (h st' B' hp on hk)
def Dg:Bool->Keyed->Array Keyed->Nat->Nat->Nat->StateT SortSt Sem (Option Nat):=sortPriv%PySem.Builtin.gallop
omit L in
theorem sR {f:Nat->Option γ×Nat×Nat->StateT SortSt Sem (ForInStep (Option γ×Nat×Nat))} {Q:Option γ×Nat×Nat->SortSt->Prop} (be:Nat->Bool) (mono:∀i j,i<=j->j<n->be j=true->be i=true)
  (hf:∀(i lo hi:Nat) (R:ForInStep (Option γ×Nat×Nat)->SortSt->Prop),hi<=n->(lo>=hi->R (.done (none,lo,hi)) st)->(lo<hi->be (lo+(hi-lo)/2)=true->R (.yield (none,lo+(hi-lo)/2+1,hi)) st)->(lo<hi->be (lo+(hi-lo)/2)=false->R (.yield (none,lo,lo+(hi-lo)/2)) st)->wpS (model prog w) A E s (f i (none,lo,hi)) R st)
  (h1:lo<=hi) (h2:hi<=n) (ht:∀i,i<lo->be i=true) (hF:∀i,hi<=i->i<n->be i=false)
  (h:∀k,k<=n->(∀i,i<k->be i=true)->(∀i,k<=i->i<n->be i=false)->Q (none,k,k) st):wpS (model prog w) A E s (forIn [0:n] (none,lo,hi) f) Q st:=by
 refine wpS_forRange (I:=λi c st'=>st'=st/\∃lo hi,c=(none,lo,hi)/\lo<=hi/\hi<=n/\hi-lo<=n-i/\(∀i,i<lo->be i=true)/\(∀i,hi<=i->i<n->be i=false)) ?_ ?_
  ⟨rfl,lo,hi,rfl,h1,h2,by lia,ht,hF⟩
 .rintro i c st' hi1 hi2 ⟨rfl,lo,hi,rfl,g1,g2,g3,g4,g5⟩;refine hf i lo hi _ g2 (λz=>?_) (λz e=>?_) (λz e=>?_)
  .have e:lo=hi:=by lia
   subst e;exact h lo g2 g4 g5
  .exact⟨rfl,_,_,rfl,by lia,g2,by lia,λj hj=>mono j _ (by lia) (by lia) e,g5⟩
  .refine⟨rfl,_,_,rfl,by lia,by lia,by lia,g4,λj a b=>?_⟩;cases q:be j with
   |false=>rfl
   |true=>rw[mono _ j a b q]at e;cases e
 .rintro c st' ⟨rfl,lo,hi,rfl,g1,g2,g3,g4,g5⟩;have em:max 0 n=n:=QO (Qi _);rw[em]at g3;have e:lo=hi:=by lia
  subst e;exact h lo g2 g4 g5
theorem fF {left:Bool} {key:Keyed} {arr:Array Keyed} {base hint:Nat} {Q:Option Nat->SortSt->Prop} (hK:kindOf st=κ) (hk:key∈a₀) (ha:∀i,i<n->base+i<arr.size/\g arr (base+i)∈a₀) (hh:hint<n)
  (be:Nat->Bool) (hbe:∀i,i<n->be i=if left=true then blt (g arr (base+i)) key else !blt key (g arr (base+i))) (mono:∀i j,i<=j->j<n->be j=true->be i=true)
  (h:∀k,k<=n->(∀i,i<k->be i=true)->(∀i,k<=i->i<n->be i=false)->Q (some k) st):wpS (model prog w) A E s (Dg left key arr base n hint) Q st:=by
 have bey:∀(i:Nat) (R:Option Bool->SortSt->Prop),i<n->R (some (be i)) st->wpS (model prog w) A E s (elem' arr (base+i)>>=λx=>if left=true then lt' x key else lt' key x>>=λr=>pure (r.map λx=>!x)) R st:=by
  intro i R hi q;obtain⟨h1,h2⟩:=ha i hi;rw[elem'_eq,da h1];refine wpS_bind (wpS_pure ?_);have e:=hbe i hi;cases left with
  |true=>
   rw[if_pos rfl]at e⊢;exact L _ _ st R h2 hk hK (by rw[<-e];exact q)
  |false=>
   rw[if_neg (by decide)]at e⊢;refine wpS_bind (L _ _ st _ hk h2 hK (wpS_pure ?_));show R (some (!blt key (g arr (base+i)))) st;rw[<-e];exact q
 refine wpS_bind ?_;dsimp only;refine bey hint _ hh ?_;dsimp only;cases e0:be hint with
 |true=>
  rw[if_pos rfl];refine wpS_bind (wpS_mono (wpS_forRange (I:=λi c st'=>st'=st/\∃la ofs,c=(none,la,ofs)/\la<ofs/\i+1<=ofs/\hint+la<n/\be (hint+la)=true)
   (Q:=λc st'=>st'=st/\∃la ofs,c=(none,la,ofs)/\la<ofs/\hint+la<n/\be (hint+la)=true/\(n-hint<=ofs\/(hint+ofs<n/\be (hint+ofs)=false))) ?_ ?_ ⟨rfl,0,1,rfl,by lia,by lia,by lia,e0⟩) ?_)
  .rintro i c st' hi1 hi2 ⟨rfl,la,ofs,rfl,a1,a2,a3,a4⟩;dsimp only;by_cases z:ofs>=n-hint
   .rw[if_pos z];exact wpS_pure ⟨rfl,la,ofs,rfl,a1,a3,a4,.inl z⟩
   .rw[if_neg z];refine wpS_bind (bey (hint+ofs) _ (by lia) ?_);dsimp only;cases e:be (hint+ofs)with
    |false=>
     rw[if_pos (by decide)];exact wpS_pure ⟨rfl,la,ofs,rfl,a1,a3,a4,.inr ⟨by lia,e⟩⟩
    |true=>
     rw[if_neg (by decide)];exact wpS_pure ⟨rfl,ofs,2*ofs+1,rfl,by lia,by lia,by lia,e⟩
  .rintro c st' ⟨rfl,la,ofs,rfl,a1,a2,a3,a4⟩;have em:max 0 n=n:=QO (Qi _);rw[em]at a2;exact⟨rfl,la,ofs,rfl,a1,a3,a4,.inl (by lia)⟩
  .rintro c st' ⟨rfl,la,ofs,rfl,a1,a3,a4,a5⟩;dsimp only;refine wpS_bind (sR be mono (λi lo hi R hn c1 c2 c3=>?_) (by lia) (by lia) (λi hi=>mono i (hint+la) (by lia) a3 a4) (λi h1 h2=>?_) λk h1 h2 h3=>?_)
   .dsimp only;by_cases z:lo>=hi
    .rw[if_pos z];exact wpS_pure (c1 z)
    .rw[if_neg z];refine wpS_bind (bey _ _ (by lia) ?_);dsimp only;cases e:be (lo+(hi-lo)/2)with
     |true=>rw[if_pos rfl];exact wpS_pure (c2 (by lia) e)
     |false=>rw[if_neg (by decide)];exact wpS_pure (c3 (by lia) e)
   .rcases a5 with z|⟨z1,z2⟩
    .lia
    .cases q:be i with
     |false=>rfl
     |true=>rw[mono (hint+ofs) i (by lia) h2 q]at z2;cases z2
   .exact wpS_pure (h k h1 h2 h3)
 |false=>
  rw[if_neg (by decide)];refine wpS_bind (wpS_mono (wpS_forRange (I:=λi c st'=>st'=st/\∃la ofs,c=(none,la,ofs)/\la<ofs/\i+1<=ofs/\la<=hint/\be (hint-la)=false)
   (Q:=λc st'=>st'=st/\∃la ofs,c=(none,la,ofs)/\la<ofs/\la<=hint/\be (hint-la)=false/\(hint+1<=ofs\/(ofs<=hint/\be (hint-ofs)=true))) ?_ ?_ ⟨rfl,0,1,rfl,by lia,by lia,by lia,e0⟩) ?_)
  .rintro i c st' hi1 hi2 ⟨rfl,la,ofs,rfl,a1,a2,a3,a4⟩;dsimp only;by_cases z:ofs>=hint+1
   .rw[if_pos z];exact wpS_pure ⟨rfl,la,ofs,rfl,a1,a3,a4,.inl z⟩
   .rw[if_neg z];refine wpS_bind (bey (hint-ofs) _ (by lia) ?_);dsimp only;cases e:be (hint-ofs)with
    |true=>
     rw[if_pos rfl];exact wpS_pure ⟨rfl,la,ofs,rfl,a1,a3,a4,.inr ⟨by lia,e⟩⟩
    |false=>
     rw[if_neg (by decide)];exact wpS_pure ⟨rfl,ofs,2*ofs+1,rfl,by lia,by lia,by lia,e⟩
  .rintro c st' ⟨rfl,la,ofs,rfl,a1,a2,a3,a4⟩;have em:max 0 n=n:=QO (Qi _);rw[em]at a2;exact⟨rfl,la,ofs,rfl,a1,a3,a4,.inl (by lia)⟩
  .rintro c st' ⟨rfl,la,ofs,rfl,a1,a3,a4,a5⟩;dsimp only;refine wpS_bind (sR be mono (λi lo hi R hn c1 c2 c3=>?_) (by lia) (by lia) (λi hi=>?_) (λi h1 h2=>?_) λk h1 h2 h3=>?_)
   .dsimp only;by_cases z:lo>=hi
    .rw[if_pos z];exact wpS_pure (c1 z)
    .rw[if_neg z];refine wpS_bind (bey _ _ (by lia) ?_);dsimp only;cases e:be (lo+(hi-lo)/2)with
     |true=>rw[if_pos rfl];exact wpS_pure (c2 (by lia) e)
     |false=>rw[if_neg (by decide)];exact wpS_pure (c3 (by lia) e)
   .rcases a5 with z|⟨z1,z2⟩
    .lia
    .exact mono i (hint-ofs) (by lia) (by lia) z2
   .cases q:be i with
    |false=>rfl
    |true=>rw[mono (hint-la) i (by lia) h2 q]at a4;cases a4
   .exact wpS_pure (h k h1 h2 h3)
end
end Srt
namespace Srt
open PySem PyProof.Rows
variable {A:Around} {a₀:Array Keyed} {x:Keyed} {blt:Keyed->Keyed->Bool} {R:Keyed->SortSt->Prop} {all o ra rb:List Keyed} {i n:Nat} {prog:Program} {B:Prop} {s:Shared} {κ:SortKind} {st:SortSt} {α:Type} {Q:Unit->SortSt->Prop} {E:Value->Shared->Prop} {w:World}
def AT:Array Keyed->Array Keyed->StateT SortSt Sem (Array Keyed):=sortPriv%PySem.Builtin.mergeLo
def AU:Array Keyed->Array Keyed->StateT SortSt Sem (Array Keyed):=sortPriv%PySem.Builtin.mergeHi
section
abbrev PW (blt:Keyed->Keyed->Bool) (l:List Keyed):Prop:=l.Pairwise (le blt)
structure Lo (blt:Keyed->Keyed->Bool) (all o ra rb:List Keyed):Prop where
 perm:(o++(ra++rb)).Perm all
 srt:PW blt o
 low:∀x∈o,∀y∈ra++rb,le blt x y
theorem Lo.a {ca:List Keyed} (h:Lo blt all o (ca++ra) rb) (hs:PW blt (ca++ra)) (hc:∀x∈ca,∀y∈rb,le blt x y):Lo blt all (o++ca) ra rb where
 perm:=by
  refine List.Perm.trans ?_ h.perm;rw[Qn,Qn]
 srt:=Qk.mpr ⟨h.srt,(Qk.mp hs).1,λx hx y hy=>h.low x hx y (by simp[hy])⟩
 low:=λx hx y hy=>by
  rcases Q6.mp hx with q|q
  .exact h.low x q y (by rcases Q6.mp hy with z|z<;>simp[z])
  .rcases Q6.mp hy with z|z
   .exact(Qk.mp hs).2.2 x q y z
   .exact hc x q y z
theorem Lo.b {cb:List Keyed} (h:Lo blt all o ra (cb++rb)) (hs:PW blt (cb++rb)) (hc:∀x∈cb,∀y∈ra,le blt x y):Lo blt all (o++cb) ra rb where
 perm:=by
  refine List.Perm.trans ?_ h.perm;rw[Qn];refine List.Perm.append_left o ?_;rw[<-Qn,<-Qn];exact List.Perm.append_right rb ZU
 srt:=Qk.mpr ⟨h.srt,(Qk.mp hs).1,λx hx y hy=>h.low x hx y (by simp[hy])⟩
 low:=λx hx y hy=>by
  rcases Q6.mp hx with q|q
  .exact h.low x q y (by rcases Q6.mp hy with z|z<;>simp[z])
  .rcases Q6.mp hy with z|z
   .exact hc x q y z
   .exact(Qk.mp hs).2.2 x q y z
theorem Lo.endA (h:Lo blt all o ra []) (hs:PW blt ra):(o++ra).Perm all/\PW blt (o++ra):=
 ⟨by simpa using h.perm,Qk.mpr ⟨h.srt,hs,λx hx y hy=>h.low x hx y (by simp[hy])⟩⟩
theorem Lo.endB {z:Keyed} (h:Lo blt all o [z] rb) (hs:PW blt rb) (hz:∀x∈rb,le blt x z):(o++(rb++ [z])).Perm all/\PW blt (o++(rb++ [z])):=by
 refine⟨List.Perm.trans (List.Perm.append_left o ZU) h.perm,Qk.mpr ⟨h.srt,Qk.mpr ⟨hs,ZP _ _,λx hx y hy=>?_⟩,λx hx y hy=>h.low x hx y ?_⟩⟩
 .rw[Qe.mp hy];exact hz x hx
 .rcases Q6.mp hy with q|q<;>simp_all
theorem rH {a:Array Keyed} (h:i<a.size):a.toList.drop i=g a i::a.toList.drop (i+1):=by
 have e:=da h;rw[<-Qx]at e;obtain⟨h1,h2⟩:=Q3.mp e;rw[QR h1,h2]
theorem i6 {a:Array Keyed} (h:x∈a.toList.drop i):∃j,i<=j/\j<a.size/\x=g a j:=by
 obtain⟨k,hk,e⟩:=ZI.mp h;rw[Qr]at hk;have hs:i+k<a.size:=by rw[<-Q8];lia
 refine⟨i+k,by lia,hs,?_⟩;have e2:=da hs;rw[<-Qx]at e2;rw[Zw]at e;rw[Q4 (by rw[Q8];exact hs)]at e2;rw[<-e];exact Option.some.inj e2
theorem fR {a:Array Keyed} (h:On blt a 0 a.size) (i:Nat):PW blt (a.toList.drop i):=by
 refine QJ.mpr λj k hj hk hjk=>?_;rw[Qr,Q8]at hj hk;have e1:=da (xs:=a) (i:=i+j) (by lia);have e2:=da (xs:=a) (i:=i+k) (by lia);rw[<-Qx,Q4 (by rw[Q8];lia)]at e1 e2;rw[Zw,Zw,Option.some.inj e1,Option.some.inj e2];exact h _ _ (Qi _) (by lia) (by lia)
theorem AJ {a:Array Keyed} (h:PW blt a.toList):On blt a 0 a.size:=λi j _ hij hj=>by
 have e1:=da (xs:=a) (i:=i) (by lia);have e2:=da (xs:=a) (i:=j) hj;rw[<-Qx,Q4 (by rw[Q8];lia)]at e1 e2;rw[<-Option.some.inj e1,<-Option.some.inj e2];exact QJ.mp h i j _ _ hij
theorem m7 (a:Array Keyed) (i k:Nat):(a.extract i (i+k)).toList=(a.toList.drop i).take k:=by
 rw[Zi,QZ];congr 1;lia
theorem fG (a:Array Keyed) (i:Nat):(a.extract i).toList=a.toList.drop i:=by
 rw[Zi,QZ,QC];rw[Qr,Q8];exact Q5 _
theorem wp (l:List Keyed) (i k:Nat):l.drop i=(l.drop i).take k++l.drop (i+k):=by
 rw[<-K3,QA]
end
theorem yw {P H:α->Prop} (body:(∀x,H x->P x)->B) (last:∀x,H x->P x):B:=body last
theorem mV {β:Type} {P H:α->β->Prop} (body:(∀x y,H x y->P x y)->B) (last:∀x y,H x y->P x y):B:=body last
structure Like (st st':SortSt):Prop where
 kind:kindOf st'=kindOf st
 arr:arrOf st'=arrOf st
 pend:pendingOf st'=pendingOf st
 fail:failedOf st'=failedOf st
theorem Like.refl (st:SortSt):Like st st:=⟨rfl,rfl,rfl,rfl⟩
section
theorem bC {arr:Array Keyed} (h:i<arr.size) (q:R (g arr i) st):wpS (model prog w) A E s (elem' arr i) R st:=by
 rw[elem'_eq,da h];exact wpS_pure q
def xc:Nat->StateT SortSt Sem Unit:=sortPriv%PySem.Builtin.setMinGallop
theorem Ac {m:Nat} (h:∀st',Like st st'->Q () st'):wpS (model prog w) A E s (xc m) Q st:=wpS_modify (h _ ⟨rfl,rfl,rfl,rfl⟩)
variable (L:vi prog w A E s a₀ κ blt)
include L
theorem wR {a b:Array Keyed} {Q:Array Keyed->SortSt->Prop} (C:Cmp blt) (hK:kindOf st=κ) (hm:∀x,x∈a.toList++b.toList->x∈a₀) (oa:On blt a 0 a.size) (ob:On blt b 0 b.size) (ha:0<a.size) (hb:0<b.size)
  (hfirst:blt (g b 0) (g a 0)=true) (hlast:∀j,j<b.size->blt (g b j) (g a (a.size-1))=true)
  (h:∀res st',Like st st'->res.toList.Perm (a.toList++b.toList)->PW blt res.toList->Q res st'):wpS (model prog w) A E s (AT a b) Q st:=by
 have ma:∀i,i<a.size->g a i∈a₀:=λi hi=>hm _ (by have:=tM hi;simp[this]);have mb:∀i,i<b.size->g b i∈a₀:=λi hi=>hm _ (by have:=tM hi;simp[this]);have doneA:∀(o:List Keyed) (ia:Nat) (st':SortSt) (res:Array Keyed),Like st st'->Lo blt (a.toList++b.toList) o (a.toList.drop ia) []->res.toList=o++a.toList.drop ia->Q res st':=λo ia st' res lk lo e=>by
  obtain⟨p1,p2⟩:=lo.endA (fR oa ia);exact h res st' lk (by rw[e];exact p1) (by rw[e];exact p2)
 have doneB:∀(o:List Keyed) (ib:Nat) (st':SortSt) (res:Array Keyed),Like st st'->Lo blt (a.toList++b.toList) o (a.toList.drop (a.size-1)) (b.toList.drop ib)->res.toList=o++(b.toList.drop ib++a.toList.drop (a.size-1))->Q res st':=λo ib st' res lk lo e=>by
  have ez:a.toList.drop (a.size-1)=[g a (a.size-1)]:=by
   rw[rH (by lia),QU (by rw[Q8];lia)]
  rw[ez]at lo e;obtain⟨p1,p2⟩:=lo.endB (fR ob ib) (λx hx=>by
   obtain⟨j,_,hj,rfl⟩:=i6 hx;exact C.of_lt (hlast j hj))
  exact h res st' lk (by rw[e];exact p1) (by rw[e];exact p2)
 have chunkA:∀(out:Array Keyed) (ia ib k:Nat),ia+k<=a.size->ib<b.size->Lo blt (a.toList++b.toList) out.toList (a.toList.drop ia) (b.toList.drop ib)->(∀i,i<k->blt (g b ib) (g a (ia+i))=false)->
   Lo blt (a.toList++b.toList) (out++a.extract ia (ia+k)).toList (a.toList.drop (ia+k)) (b.toList.drop ib):=λout ia ib k h1 h2 lo hk=>by
  rw[QH,m7];have pa:=fR oa ia;rw[wp a.toList ia k]at lo pa;refine lo.a pa λx hx y hy=>?_;obtain⟨i,hi,e⟩:=ZI.mp hx;rw[Qb,Qr,Q8]at hi;have ex:x=g a (ia+i):=by
   have e2:=da (xs:=a) (i:=ia+i) (by lia);rw[<-Qx,Q4 (by rw[Q8];lia)]at e2;rw[Zx,Zw]at e;rw[<-e];exact Option.some.inj e2
  obtain⟨j,hj1,hj2,rfl⟩:=i6 hy;have l1:le blt x (g b ib):=by rw[ex];exact hk i (by lia)
  by_cases ej:j=ib
  .rw[ej];exact l1
  .exact C.trans l1 (ob ib j (Qi _) (by lia) hj2)
 have chunkB:∀(out:Array Keyed) (ia ib k:Nat),ib+k<=b.size->ia<a.size->Lo blt (a.toList++b.toList) out.toList (a.toList.drop ia) (b.toList.drop ib)->(∀i,i<k->blt (g b (ib+i)) (g a ia)=true)->
   Lo blt (a.toList++b.toList) (out++b.extract ib (ib+k)).toList (a.toList.drop ia) (b.toList.drop (ib+k)):=λout ia ib k h1 h2 lo hk=>by
  rw[QH,m7];have pb:=fR ob ib;rw[wp b.toList ib k]at lo pb;refine lo.b pb λx hx y hy=>?_;obtain⟨i,hi,e⟩:=ZI.mp hx;rw[Qb,Qr,Q8]at hi;have ex:x=g b (ib+i):=by
   have e2:=da (xs:=b) (i:=ib+i) (by lia);rw[<-Qx,Q4 (by rw[Q8];lia)]at e2;rw[Zx,Zw]at e;rw[<-e];exact Option.some.inj e2
  obtain⟨j,hj1,hj2,rfl⟩:=i6 hy;have l1:le blt x (g a ia):=by rw[ex];exact C.of_lt (hk i (by lia))
  by_cases ej:j=ia
  .rw[ej];exact l1
  .exact C.trans l1 (oa ia j (Qi _) (by lia) hj2)
 have one:∀(x:Array Keyed) (i:Nat),i<x.size->(x.extract i (i+1))= #[g x i]:=λx i hi=>by
  apply Array.ext';rw[m7,rH hi];rfl
 have stepB:∀(out:Array Keyed) (ia ib:Nat),ia<a.size->ib<b.size->Lo blt (a.toList++b.toList) out.toList (a.toList.drop ia) (b.toList.drop ib)->blt (g b ib) (g a ia)=true->
   Lo blt (a.toList++b.toList) (out.push (g b ib)).toList (a.toList.drop ia) (b.toList.drop (ib+1)):=λout ia ib h1 h2 lo hk=>by
  have:=chunkB out ia ib 1 (by lia) h1 lo λi hi=>by rw[show ib+i=ib by lia];exact hk
  rwa [one b ib h2,<-X0]at this
 have stepA:∀(out:Array Keyed) (ia ib:Nat),ia<a.size->ib<b.size->Lo blt (a.toList++b.toList) out.toList (a.toList.drop ia) (b.toList.drop ib)->blt (g b ib) (g a ia)=false->
   Lo blt (a.toList++b.toList) (out.push (g a ia)).toList (a.toList.drop (ia+1)) (b.toList.drop ib):=λout ia ib h1 h2 lo hk=>by
  have:=chunkA out ia ib 1 (by lia) h2 lo λi hi=>by rw[show ia+i=ia by lia];exact hk
  rwa [one a ia h1,<-X0]at this
 have endA:∀(out:Array Keyed) (ia ib:Nat) (st':SortSt),Like st st'->b.size<=ib->Lo blt (a.toList++b.toList) out.toList (a.toList.drop ia) (b.toList.drop ib)->Q (out++a.extract ia++b.extract ib) st':=λout ia ib st' lk hb lo=>by
  have en:b.toList.drop ib=[]:=QU (by rw[Q8];lia);rw[en]at lo;refine doneA _ ia st' _ lk lo ?_;rw[QH,QH,fG,fG,en,ZG]
 have endB:∀(out:Array Keyed) (ia ib:Nat) (st':SortSt),Like st st'->ia+1=a.size->Lo blt (a.toList++b.toList) out.toList (a.toList.drop ia) (b.toList.drop ib)->Q (out++b.extract ib++a.extract ia) st':=λout ia ib st' lk ha lo=>by
  have en:ia=a.size-1:=by lia
  refine doneB out.toList ib st' _ lk (by rw[<-en];exact lo) ?_;rw[QH,QH,fG,fG,<-en,Qn]
 have monoA:∀(ka:Nat) (x:Keyed) (i j:Nat),i<=j->ka+j<a.size->(!blt x (g a (ka+j)))=true->(!blt x (g a (ka+i)))=true:=λka x i j h1 h2 h3=>by
  have h3:blt x (g a (ka+j))=false:=by simpa using h3
  by_cases e:i=j
  .subst e;simpa using h3
  .have:=C.trans (oa (ka+i) (ka+j) (Qi _) (by lia) h2) h3;simpa using this
 have monoB:∀(kb:Nat) (x:Keyed) (i j:Nat),i<=j->kb+j<b.size->blt (g b (kb+j)) x=true->blt (g b (kb+i)) x=true:=λkb x i j h1 h2 h3=>by
  by_cases e:i=j
  .subst e;exact h3
  .have q:=ob (kb+i) (kb+j) (Qi _) (by lia) h2;cases z:blt (g b (kb+i)) x with
   |true=>rfl
   |false=>
    have f:blt (g b (kb+j)) x=false:=C.trans z q;rw[h3]at f;cases f
 refine wpS_bind ?_;dsimp only;refine wpS_lift (wpAny_rule ⟨rfl,?_⟩);refine wpS_bind (bC hb ?_);have start:Lo blt (a.toList++b.toList) [g b 0] (a.toList.drop 0) (b.toList.drop 1):=by
  have l0:Lo blt (a.toList++b.toList) [] (a.toList.drop 0) ([g b 0]++b.toList.drop 1):=by
   refine⟨?_,List.Pairwise.nil,λx hx=>absurd hx ZX⟩;have e:=rH hb;rw[Zq]at e;rw[Zq,Xn,List.singleton_append,<-e]
  have:=l0.b (by have:=fR ob 0;rw[rH hb]at this;exact this) (λx hx y hy=>by
   rw[Qe.mp hx];obtain⟨j,_,hj,rfl⟩:=i6 hy;by_cases j0:j=0
   .rw[j0];exact C.of_lt hfirst
   .exact C.trans (C.of_lt hfirst) (oa 0 j (Q5 _) (by lia) hj))
  simpa using this
 by_cases b1:1=b.size
 .have eb:(1==b.size)=true:=beq_iff_eq.mpr b1;rw[if_pos eb];refine wpS_pure ?_;have en:b.toList.drop 1=[]:=QU (by rw[Q8];lia);rw[en]at start;refine doneA _ 0 st _ (Like.refl _) start ?_;simp[b1]
 .have eb:¬(1==b.size)=true:=by simpa using b1
  rw[if_neg eb];by_cases a1:0+1=a.size
  .have ea:(0+1==a.size)=true:=beq_iff_eq.mpr a1;rw[if_pos ea];refine wpS_pure ?_;have e0:a.size-1=0:=by lia
   refine doneB [g b 0] 1 st _ (Like.refl _) (by rw[e0];exact start) ?_;rw[e0,QH,QH,fG,fG,Qn]
  .have ea:¬(0+1==a.size)=true:=by simpa using a1
   rw[if_neg ea];refine wpS_bind (wpS_get ?_);refine wpS_bind (wpS_mono (wpS_forRange (I:=λi c st'=>Like st st'/\∃out ia ib mg,c=(none,out,ia,ib,mg)/\ia+1<a.size/\ib<b.size/\i<=ia+ib/\Lo blt (a.toList++b.toList) out.toList (a.toList.drop ia) (b.toList.drop ib))
    (Q:=λc st'=>∃res,c.1=some res/\Q res st') ?_ ?_ ⟨Like.refl _, #[g b 0],0,1,_,rfl,by lia,by lia,by lia,start⟩) ?_)
   .rintro i c st' hi1 hi2 ⟨lk,out,ia,ib,mg,rfl,ha1,hb1,hi,lo⟩;have hK':kindOf st'=κ:=lk.kind.trans hK;refine wpS_bind (wpS_mono (wpS_forRange (I:=λj c st2=>st2=st'/\∃out ja jb p q,c=(none,out,ja,jb,p,q)/\ja+1<a.size/\jb<b.size/\ia+ib<=ja+jb/\Lo blt (a.toList++b.toList) out.toList (a.toList.drop ja) (b.toList.drop jb))
     (Q:=λc st2=>st2=st'/\((∃res,c.1=some res/\Q res st')\/∃out ja jb p q,c=(none,out,ja,jb,p,q)/\ja+1<a.size/\jb<b.size/\ia+ib<=ja+jb/\Lo blt (a.toList++b.toList) out.toList (a.toList.drop ja) (b.toList.drop jb))) ?_ ?_
     ⟨rfl,out,ia,ib,0,0,rfl,ha1,hb1,Q5 _,lo⟩) ?_)
    .rintro j c st2 hj1 hj2 ⟨rfl,out,ja,jb,p,q,rfl,hja,hjb,hij,lo⟩;dsimp only;refine wpS_bind (bC hjb (wpS_bind (bC (by lia) (wpS_bind (L _ _ _ _ (mb jb hjb) (ma ja (by lia)) hK' ?_)))));dsimp only;cases e:blt (g b jb) (g a ja)with
     |true=>
      rw[if_pos rfl];have lo':=stepB out ja jb (by lia) hjb lo e;refine wpS_bind (bC hjb ?_);by_cases z:jb+1=b.size
      .rw[if_pos (beq_iff_eq.mpr z)];exact wpS_pure ⟨rfl,.inl ⟨_,rfl,endA _ ja (jb+1) _ lk (by lia) lo'⟩⟩
      .rw[if_neg (by simpa using z)];by_cases y:q+1>=mg
       .rw[if_pos y];exact wpS_pure ⟨rfl,.inr ⟨_,_,_,_,_,rfl,hja,by lia,by lia,lo'⟩⟩
       .rw[if_neg y];exact wpS_pure ⟨rfl,_,_,_,_,_,rfl,hja,by lia,by lia,lo'⟩
     |false=>
      rw[if_neg (by decide)];have lo':=stepA out ja jb (by lia) hjb lo e;refine wpS_bind (bC (by lia) ?_);by_cases z:ja+1+1=a.size
      .rw[if_pos (beq_iff_eq.mpr z)];exact wpS_pure ⟨rfl,.inl ⟨_,rfl,endB _ (ja+1) jb _ lk z lo'⟩⟩
      .rw[if_neg (by simpa using z)];by_cases y:p+1>=mg
       .rw[if_pos y];exact wpS_pure ⟨rfl,.inr ⟨_,_,_,_,_,rfl,by lia,hjb,by lia,lo'⟩⟩
       .rw[if_neg y];exact wpS_pure ⟨rfl,_,_,_,_,_,rfl,by lia,hjb,by lia,lo'⟩
    .rintro c st2 ⟨rfl,out,ja,jb,p,q,rfl,hja,hjb,hij,lo⟩;exact⟨rfl,.inr ⟨_,_,_,_,_,rfl,hja,hjb,hij,lo⟩⟩
    .rintro ⟨r,c⟩ st2 ⟨rfl,⟨res,e,q⟩|⟨out,ja,jb,p,q,e,hja,hjb,hij,lo⟩⟩
     .dsimp only at e;subst e;exact wpS_pure ⟨res,rfl,q⟩
     .obtain⟨rfl,rfl⟩:=Prod.mk.inj e;dsimp only;refine wpS_bind (wpS_lift (wpAny_rule ⟨rfl,?_⟩));refine wpS_bind (wpS_mono (wpS_forRange (I:=λj c st3=>Like st st3/\∃out ka kb m' p q,c=(none,out,ka,kb,m',p,q)/\ka+1<a.size/\kb<b.size/\ia+ib+j<=ka+kb/\Lo blt (a.toList++b.toList) out.toList (a.toList.drop ka) (b.toList.drop kb))
       (Q:=λc st3=>Like st st3/\((∃res,c.1=some res/\Q res st3)\/∃out ka kb m' p q,c=(none,out,ka,kb,m',p,q)/\ka+1<a.size/\kb<b.size/\ia+ib+1<=ka+kb/\Lo blt (a.toList++b.toList) out.toList (a.toList.drop ka) (b.toList.drop kb))) ?_ ?_
       ⟨lk,out,ja,jb,_,_,_,rfl,hja,hjb,by lia,lo⟩) ?_)
      .rintro j c st3 hj1 hj2 ⟨lk3',out,ka,kb,m',p,q,rfl,hka,hkb,hij,lo⟩;dsimp only;apply yw (α:=Nat) (H:=λ_=>True)
       .intro key;by_cases m1:m'>1
        .rw[if_pos m1];generalize m'-1=mm;exact key mm trivial
        .rw[if_neg m1];exact key m' trivial
       intro mm _;refine wpS_bind (Ac λst4 lk3=>?_);have lk4:Like st st4:=⟨lk3.kind.trans lk3'.kind,lk3.arr.trans lk3'.arr,lk3.pend.trans lk3'.pend,lk3.fail.trans lk3'.fail⟩;have hK4:kindOf st4=κ:=lk4.kind.trans hK;refine wpS_bind (bC hkb ?_);refine wpS_bind (fF L hK4 (mb kb hkb) (λi hi=>⟨by lia,ma _ (by lia)⟩) (by lia) (λi=>!blt (g b kb) (g a (ka+i))) (λi hi=>rfl) (λi j h1 h2 h3=>monoA ka _ i j h1 (by lia) h3) λk hk1 hk2 hk3=>?_);dsimp only;have klt:k<a.size-ka:=by
        rcases Nat.lt_or_ge k (a.size-ka)with z|z
        .exact z
        .have f:=hk2 (a.size-1-ka) (by lia);rw[show ka+(a.size-1-ka)=a.size-1 by lia,hlast kb hkb]at f;cases f
       have hk2':∀i,i<k->blt (g b kb) (g a (ka+i))=false:=λi hi=>by have:=hk2 i hi;simpa using this
       have bw:blt (g b kb) (g a (ka+k))=true:=by have:=hk3 k (Q5 _) klt;simpa using this
       apply mV (H:=λ(kc:Nat) (o':Array Keyed)=>ka<=kc/\kc+1<a.size/\Lo blt (a.toList++b.toList) o'.toList (a.toList.drop kc) (b.toList.drop kb)/\blt (g b kb) (g a kc)=true)
       .intro key;by_cases k0:k>0
        .rw[if_pos k0];have lo1:=chunkA out ka kb k (by lia) hkb lo hk2';by_cases z:ka+k+1=a.size
         .rw[if_pos (beq_iff_eq.mpr z)];exact wpS_pure ⟨lk4,.inl ⟨_,rfl,endB _ (ka+k) kb _ lk4 z lo1⟩⟩
         have zz:¬ka+k=a.size:=by lia
         rw[if_neg (by simpa using z),if_neg (by simpa using zz)];have k5:ka<=ka+k/\ka+k+1<a.size:=by lia
         have bv:=bw;generalize out++a.extract ka (ka+k)=o' at lo1⊢;generalize ka+k=kc at lo1 bv k5⊢;exact key kc o' ⟨k5.1,k5.2,lo1,bv⟩
        .rw[if_neg k0];have bv:=bw;rw[show k=0 by lia,Xg]at bv;exact key ka out ⟨Q5 _,by lia,lo,bv⟩
       intro kc o' hc;obtain⟨c1,c2,lo1,bw⟩:=hc;refine wpS_bind (bC hkb ?_);have lo2:=stepB _ kc kb (by lia) hkb lo1 bw;by_cases z2:kb+1=b.size
       .rw[if_pos (beq_iff_eq.mpr z2)];exact wpS_pure ⟨lk4,.inl ⟨_,rfl,endA _ kc (kb+1) _ lk4 (by lia) lo2⟩⟩
       rw[if_neg (by simpa using z2)];refine wpS_bind (bC (by lia) ?_);refine wpS_bind (fF L hK4 (ma _ (by lia)) (λi hi=>⟨by lia,mb _ (by lia)⟩) (by lia) (λi=>blt (g b (kb+1+i)) (g a kc)) (λi hi=>rfl) (λi j h1 h2 h3=>monoB (kb+1) _ i j h1 (by lia) h3) λk2 h1 h2 h3=>?_);dsimp only;apply mV (H:=λ(kd:Nat) (o2:Array Keyed)=>kb+1<=kd/\kd<b.size/\Lo blt (a.toList++b.toList) o2.toList (a.toList.drop kc) (b.toList.drop kd)/\blt (g b kd) (g a kc)=false)
       .intro key;by_cases q0:k2>0
        .rw[if_pos q0];have lo3:=chunkB _ kc (kb+1) k2 (by lia) (by lia) lo2 h2;by_cases z3:kb+1+k2=b.size
         .rw[if_pos (beq_iff_eq.mpr z3)];exact wpS_pure ⟨lk4,.inl ⟨_,rfl,endA _ kc (kb+1+k2) _ lk4 (by lia) lo3⟩⟩
         rw[if_neg (by simpa using z3)];have w3:=h3 k2 (Q5 _) (by lia);have k5:kb+1<=kb+1+k2/\kb+1+k2<b.size:=by lia
         generalize o'.push (g b kb)++b.extract (kb+1) (kb+1+k2)=o2 at lo3⊢;generalize kb+1+k2=kd at lo3 w3 k5⊢;exact key kd o2 ⟨k5.1,k5.2,lo3,w3⟩
        .rw[if_neg q0];have w3:blt (g b (kb+1)) (g a kc)=false:=h3 0 (by lia) (by lia);have k5:kb+1<b.size:=by lia
         exact key (kb+1) _ ⟨Q5 _,k5,lo2,w3⟩
       intro kd o2 hd;obtain⟨d1,d2,lo3,w3⟩:=hd;refine wpS_bind (bC (by lia) ?_);have lo4:=stepA _ kc kd (by lia) (by lia) lo3 w3;by_cases z4:kc+1+1=a.size
       .rw[if_pos (beq_iff_eq.mpr z4)];exact wpS_pure ⟨lk4,.inl ⟨_,rfl,endB _ (kc+1) kd _ lk4 z4 lo4⟩⟩
       rw[if_neg (by simpa using z4)];split
       .exact wpS_pure ⟨lk4,.inr ⟨_,_,_,_,_,_,rfl,by lia,by lia,by lia,lo4⟩⟩
       .exact wpS_pure ⟨lk4,_,_,_,_,_,_,rfl,by lia,by lia,by lia,lo4⟩
      .rintro c st3 ⟨lk3,out,ka,kb,m',p,q,rfl,hka,hkb,hij,lo⟩;have em:max 0 (a.size+b.size)=a.size+b.size:=QO (Qi _);rw[em]at hij;lia
      .rintro ⟨r,c⟩ st3 ⟨lk3,⟨res,e,q⟩|⟨out,ka,kb,m',p,q,e,hka,hkb,hij,lo⟩⟩
       .dsimp only at e;subst e;exact wpS_pure ⟨res,rfl,q⟩
       .obtain⟨rfl,rfl⟩:=Prod.mk.inj e;dsimp only;refine wpS_bind (wpS_modify (wpS_pure ⟨⟨lk3.kind,lk3.arr,lk3.pend,lk3.fail⟩,_,_,_,_,rfl,hka,hkb,by lia,lo⟩))
   .rintro c st' ⟨lk,out,ia,ib,mg,rfl,ha1,hb1,hi,lo⟩;have em:max 0 (a.size+b.size)=a.size+b.size:=QO (Qi _);rw[em]at hi;lia
   .rintro ⟨r,c⟩ st' ⟨res,e,q⟩;dsimp only at e;subst e;exact wpS_pure q
end
section
structure Hi (blt:Keyed->Keyed->Bool) (all o ra rb:List Keyed):Prop where
 perm:((ra++rb)++o).Perm all
 srt:PW blt o
 high:∀x∈ra++rb,∀y∈o,le blt x y
theorem Hi.a {ca:List Keyed} (h:Hi blt all o (ra++ca) rb) (hs:PW blt (ra++ca)) (hc:∀x∈rb,∀y∈ca,le blt x y):Hi blt all (ca++o) ra rb where
 perm:=by
  refine List.Perm.trans ?_ h.perm;rw[<-Qn];refine List.Perm.append_right o ?_;rw[Qn,Qn];exact List.Perm.append_left ra ZU
 srt:=Qk.mpr ⟨(Qk.mp hs).2.1,h.srt,λx hx y hy=>h.high x (by simp[hx]) y hy⟩
 high:=λx hx y hy=>by
  rcases Q6.mp hy with q|q
  .rcases Q6.mp hx with z|z
   .exact(Qk.mp hs).2.2 x z y q
   .exact hc x z y q
  .exact h.high x (by rcases Q6.mp hx with z|z<;>simp[z]) y q
theorem Hi.b {cb:List Keyed} (h:Hi blt all o ra (rb++cb)) (hs:PW blt (rb++cb)) (hc:∀x∈ra,∀y∈cb,le blt x y):Hi blt all (cb++o) ra rb where
 perm:=by
  refine List.Perm.trans ?_ h.perm;rw[<-Qn];refine List.Perm.append_right o ?_;rw[Qn]
 srt:=Qk.mpr ⟨(Qk.mp hs).2.1,h.srt,λx hx y hy=>h.high x (by simp[hx]) y hy⟩
 high:=λx hx y hy=>by
  rcases Q6.mp hy with q|q
  .rcases Q6.mp hx with z|z
   .exact hc x z y q
   .exact(Qk.mp hs).2.2 x z y q
  .exact h.high x (by rcases Q6.mp hx with z|z<;>simp[z]) y q
theorem An {a:Array Keyed} (h:i<a.size):a.toList.take (i+1)=a.toList.take i++ [g a i]:=by
 have e:=da h;rw[<-Qx]at e;rw[Qw,e];rfl
theorem gb {a:Array Keyed} (h:x∈a.toList.take n):∃j,j<n/\j<a.size/\x=g a j:=by
 obtain⟨k,hk,e⟩:=ZI.mp h;rw[Qb,Q8]at hk;refine⟨k,by lia,by lia,?_⟩;have e2:=da (xs:=a) (i:=k) (by lia);rw[<-Qx,Q4 (by rw[Q8];lia)]at e2;rw[Zx]at e;rw[<-e];exact Option.some.inj e2
theorem dG {a:Array Keyed} (h:x∈(a.extract i n).toList):∃j,i<=j/\j<n/\j<a.size/\x=g a j:=by
 rw[Zi,QZ]at h;obtain⟨k,hk,e⟩:=ZI.mp h;rw[Qb,Qr,Q8]at hk;refine⟨i+k,by lia,by lia,by lia,?_⟩;have e2:=da (xs:=a) (i:=i+k) (by lia);rw[<-Qx,Q4 (by rw[Q8];lia)]at e2;rw[Zx,Zw]at e;rw[<-e];exact Option.some.inj e2
theorem kq {a:Array Keyed} (h:On blt a 0 a.size) (n:Nat):PW blt (a.toList.take n):=by
 have:=fR h 0;rw[Zq]at this;exact List.Pairwise.sublist (List.take_sublist _ _) this
theorem vB {a:Array Keyed} (h:i<=n):a.toList.take n=a.toList.take i++(a.extract i n).toList:=by
 rw[Zi,QZ];obtain⟨k,rfl⟩:∃k,n=i+k:=⟨n-i,by lia⟩;rw[List.take_add,show i+k-i=k by lia]
theorem Dp (a:Array Keyed) (n:Nat):(a.extract 0 n).toList=a.toList.take n:=by
 rw[Zi,QZ,Zq,Nat.sub_zero]
end
section
variable (L:vi prog w A E s a₀ κ blt)
include L
theorem wS {a b:Array Keyed} {Q:Array Keyed->SortSt->Prop} (C:Cmp blt) (hK:kindOf st=κ) (hm:∀x,x∈a.toList++b.toList->x∈a₀) (oa:On blt a 0 a.size) (ob:On blt b 0 b.size) (ha:0<a.size) (hb:0<b.size)
  (hfirst:blt (g b 0) (g a 0)=true) (hlast:∀j,j<b.size->blt (g b j) (g a (a.size-1))=true)
  (h:∀res st',Like st st'->res.toList.Perm (a.toList++b.toList)->PW blt res.toList->Q res st'):wpS (model prog w) A E s (AU a b) Q st:=by
 have ma:∀i,i<a.size->g a i∈a₀:=λi hi=>hm _ (by have:=tM hi;simp[this]);have mb:∀i,i<b.size->g b i∈a₀:=λi hi=>hm _ (by have:=tM hi;simp[this]);have bfirst:∀i,i<a.size->blt (g b 0) (g a i)=true:=λi hi=>by
  by_cases i0:i=0
  .rw[i0];exact hfirst
  .cases z:blt (g b 0) (g a i)with
   |true=>rfl
   |false=>
    have f:blt (g b 0) (g a 0)=false:=C.trans (oa 0 i (Q5 _) (by lia) hi) z;rw[hfirst]at f;cases f
 have chunkA:∀(out:Array Keyed) (na nb k:Nat),k<=na->na<=a.size->1<=nb->nb<=b.size->Hi blt (a.toList++b.toList) out.reverse.toList (a.toList.take na) (b.toList.take nb)->(∀i,k<=i->i<na->blt (g b (nb-1)) (g a i)=true)->
   Hi blt (a.toList++b.toList) (out++(a.extract k na).reverse).reverse.toList (a.toList.take k) (b.toList.take nb):=λout na nb k h1 h2 h3 h4 lo hk=>by
  have er:(out++(a.extract k na).reverse).reverse.toList=(a.extract k na).toList++out.reverse.toList:=by simp
  have pa:=kq oa na;rw[vB h1]at lo pa;rw[er];refine lo.a pa λx hx y hy=>?_;obtain⟨i,hi1,hi2,hi3,rfl⟩:=dG hy;obtain⟨j,hj1,hj2,rfl⟩:=gb hx;have l1:=C.of_lt (hk i hi1 hi2);by_cases ej:j=nb-1
  .rw[ej];exact l1
  .exact C.trans (ob j (nb-1) (Qi _) (by lia) (by lia)) l1
 have chunkB:∀(out:Array Keyed) (na nb k:Nat),k<=nb->nb<=b.size->1<=na->na<=a.size->Hi blt (a.toList++b.toList) out.reverse.toList (a.toList.take na) (b.toList.take nb)->(∀i,k<=i->i<nb->blt (g b i) (g a (na-1))=false)->
   Hi blt (a.toList++b.toList) (out++(b.extract k nb).reverse).reverse.toList (a.toList.take na) (b.toList.take k):=λout na nb k h1 h2 h3 h4 lo hk=>by
  have er:(out++(b.extract k nb).reverse).reverse.toList=(b.extract k nb).toList++out.reverse.toList:=by simp
  have pb:=kq ob nb;rw[vB h1]at lo pb;rw[er];refine lo.b pb λx hx y hy=>?_;obtain⟨i,hi1,hi2,hi3,rfl⟩:=dG hy;obtain⟨j,hj1,hj2,rfl⟩:=gb hx;have l1:le blt (g a (na-1)) (g b i):=hk i hi1 hi2;by_cases ej:j=na-1
  .rw[ej];exact l1
  .exact C.trans (oa j (na-1) (Qi _) (by lia) (by lia)) l1
 have one:∀(x:Array Keyed) (i:Nat),i<x.size->(x.extract i (i+1)).reverse= #[g x i]:=λx i hi=>by
  have:x.extract i (i+1)= #[g x i]:=by
   apply Array.ext';rw[m7,rH hi];rfl
  rw[this];rfl
 have stepA:∀(out:Array Keyed) (na nb:Nat),1<=na->na<=a.size->1<=nb->nb<=b.size->Hi blt (a.toList++b.toList) out.reverse.toList (a.toList.take na) (b.toList.take nb)->blt (g b (nb-1)) (g a (na-1))=true->
   Hi blt (a.toList++b.toList) (out.push (g a (na-1))).reverse.toList (a.toList.take (na-1)) (b.toList.take nb):=λout na nb h1 h2 h3 h4 lo hk=>by
  have:=chunkA out na nb (na-1) (by lia) h2 h3 h4 lo λi hi hj=>by rw[show i=na-1 by lia];exact hk
  rwa [show a.extract (na-1) na=a.extract (na-1) (na-1+1) by rw[show na-1+1=na by lia],one a (na-1) (by lia),<-X0]at this
 have stepB:∀(out:Array Keyed) (na nb:Nat),1<=na->na<=a.size->1<=nb->nb<=b.size->Hi blt (a.toList++b.toList) out.reverse.toList (a.toList.take na) (b.toList.take nb)->blt (g b (nb-1)) (g a (na-1))=false->
   Hi blt (a.toList++b.toList) (out.push (g b (nb-1))).reverse.toList (a.toList.take na) (b.toList.take (nb-1)):=λout na nb h1 h2 h3 h4 lo hk=>by
  have:=chunkB out na nb (nb-1) (by lia) h4 h1 h2 lo λi hi hj=>by rw[show i=nb-1 by lia];exact hk
  rwa [show b.extract (nb-1) nb=b.extract (nb-1) (nb-1+1) by rw[show nb-1+1=nb by lia],one b (nb-1) (by lia),<-X0]at this
 have endA:∀(out:Array Keyed) (na nb:Nat) (st':SortSt),Like st st'->na=0->nb<=b.size->Hi blt (a.toList++b.toList) out.reverse.toList (a.toList.take na) (b.toList.take nb)->Q (a.extract 0 na++b.extract 0 nb++out.reverse) st':=λout na nb st' lk hn hb2 lo=>by
  subst hn;have e:(a.extract 0 0++b.extract 0 nb++out.reverse).toList=b.toList.take nb++out.reverse.toList:=by
   rw[QH,QH,Dp,Dp];rfl
  refine h _ st' lk ?_ ?_
  .rw[e];exact lo.perm
  .rw[e];exact Qk.mpr ⟨kq ob nb,lo.srt,λx hx y hy=>lo.high x (by simp[hx]) y hy⟩
 have endB:∀(out:Array Keyed) (na nb:Nat) (st':SortSt),Like st st'->nb=1->na<=a.size->Hi blt (a.toList++b.toList) out.reverse.toList (a.toList.take na) (b.toList.take nb)->Q (b.extract 0 nb++a.extract 0 na++out.reverse) st':=λout na nb st' lk hn ha2 lo=>by
  subst hn;have e:(b.extract 0 1++a.extract 0 na++out.reverse).toList=(b.toList.take 1++a.toList.take na)++out.reverse.toList:=by
   rw[QH,QH,Dp,Dp]
  refine h _ st' lk ?_ ?_
  .rw[e];exact List.Perm.trans (List.Perm.append_right _ ZU) lo.perm
  .rw[e];refine Qk.mpr ⟨Qk.mpr ⟨kq ob 1,kq oa na,λx hx y hy=>?_⟩,lo.srt,λx hx y hy=>lo.high x ?_ y hy⟩
   .obtain⟨i,hi1,hi2,rfl⟩:=gb hx;obtain⟨j,hj1,hj2,rfl⟩:=gb hy;rw[show i=0 by lia];exact C.of_lt (bfirst j hj2)
   .rcases Q6.mp hx with z|z
    .exact Q6.mpr (.inr z)
    .exact Q6.mpr (.inl z)
 have monoA:∀(ka:Nat) (x:Keyed) (i j:Nat),i<=j->ka+j<a.size->(!blt x (g a (ka+j)))=true->(!blt x (g a (ka+i)))=true:=λka x i j h1 h2 h3=>by
  have h3:blt x (g a (ka+j))=false:=by simpa using h3
  by_cases e:i=j
  .subst e;simpa using h3
  .have:=C.trans (oa (ka+i) (ka+j) (Qi _) (by lia) h2) h3;simpa using this
 have monoB:∀(kb:Nat) (x:Keyed) (i j:Nat),i<=j->kb+j<b.size->blt (g b (kb+j)) x=true->blt (g b (kb+i)) x=true:=λkb x i j h1 h2 h3=>by
  by_cases e:i=j
  .subst e;exact h3
  .have q:=ob (kb+i) (kb+j) (Qi _) (by lia) h2;cases z:blt (g b (kb+i)) x with
   |true=>rfl
   |false=>
    have f:blt (g b (kb+j)) x=false:=C.trans z q;rw[h3]at f;cases f
 refine wpS_bind ?_;dsimp only;refine wpS_lift (wpAny_rule ⟨rfl,?_⟩);refine wpS_bind (bC (by lia) ?_);have start:Hi blt (a.toList++b.toList) (#[g a (a.size-1)]:Array Keyed).reverse.toList (a.toList.take (a.size-1)) (b.toList.take b.size):=by
  have l0:Hi blt (a.toList++b.toList) [] (a.toList.take (a.size-1)++ [g a (a.size-1)]) (b.toList.take b.size):=by
   refine⟨?_,List.Pairwise.nil,λx _ y hy=>absurd hy ZX⟩;rw[<-An (by lia),show a.size-1+1=a.size by lia,ZG];have e1:a.toList.take a.size=a.toList:=QC (by rw[Q8];exact Q5 _);have e2:b.toList.take b.size=b.toList:=QC (by rw[Q8];exact Q5 _);rw[e1,e2]
  have:=l0.a (by rw[<-An (by lia)];exact kq oa _) (λx hx y hy=>by
   rw[Qe.mp hy];obtain⟨j,_,hj,rfl⟩:=gb hx;exact C.of_lt (hlast j hj))
  exact this
 by_cases a1:a.size-1=0
 .rw[if_pos (beq_iff_eq.mpr a1)];exact wpS_pure (endA _ (a.size-1) b.size st (Like.refl _) a1 (Q5 _) start)
 .rw[if_neg (by simpa using a1)];by_cases b1:b.size=1
  .rw[if_pos (beq_iff_eq.mpr b1)];exact wpS_pure (endB _ (a.size-1) b.size st (Like.refl _) b1 (by lia) start)
  .rw[if_neg (by simpa using b1)];refine wpS_bind (wpS_get ?_);refine wpS_bind (wpS_mono (wpS_forRange (I:=λi c st'=>Like st st'/\∃na nb out mg,c=(none,na,nb,out,mg)/\1<=na/\na<=a.size/\2<=nb/\nb<=b.size/\na+nb+i<=a.size+b.size/\Hi blt (a.toList++b.toList) out.reverse.toList (a.toList.take na) (b.toList.take nb))
    (Q:=λc st'=>∃res,c.1=some res/\Q res st') ?_ ?_ ⟨Like.refl _,_,_, #[g a (a.size-1)],_,rfl,by lia,by lia,by lia,Q5 _,by lia,start⟩) ?_)
   .rintro i c st' hi1 hi2 ⟨lk,na,nb,out,mg,rfl,ha1,ha2,hb1,hb2,hi,lo⟩;have hK':kindOf st'=κ:=lk.kind.trans hK;refine wpS_bind (wpS_mono (wpS_forRange (I:=λj c st2=>st2=st'/\∃ja jb out p q,c=(none,ja,jb,out,p,q)/\1<=ja/\ja<=a.size/\2<=jb/\jb<=b.size/\ja+jb<=na+nb/\Hi blt (a.toList++b.toList) out.reverse.toList (a.toList.take ja) (b.toList.take jb))
     (Q:=λc st2=>st2=st'/\((∃res,c.1=some res/\Q res st')\/∃ja jb out p q,c=(none,ja,jb,out,p,q)/\1<=ja/\ja<=a.size/\2<=jb/\jb<=b.size/\ja+jb<=na+nb/\Hi blt (a.toList++b.toList) out.reverse.toList (a.toList.take ja) (b.toList.take jb))) ?_ ?_
     ⟨rfl,na,nb,out,0,0,rfl,ha1,ha2,hb1,hb2,Q5 _,lo⟩) ?_)
    .rintro j c st2 hj1 hj2 ⟨rfl,ja,jb,out,p,q,rfl,hja,hja2,hjb,hjb2,hij,lo⟩;dsimp only;refine wpS_bind (bC (by lia) (wpS_bind (bC (by lia) (wpS_bind (L _ _ _ _ (mb (jb-1) (by lia)) (ma (ja-1) (by lia)) hK' ?_)))));dsimp only;cases e:blt (g b (jb-1)) (g a (ja-1))with
     |true=>
      rw[if_pos rfl];have lo':=stepA out ja jb (by lia) hja2 (by lia) hjb2 lo e;refine wpS_bind (bC (by lia) ?_);by_cases z:ja-1=0
      .rw[if_pos (beq_iff_eq.mpr z)];exact wpS_pure ⟨rfl,.inl ⟨_,rfl,endA _ (ja-1) jb _ lk z hjb2 lo'⟩⟩
      .rw[if_neg (by simpa using z)];by_cases y:p+1>=mg
       .rw[if_pos y];exact wpS_pure ⟨rfl,.inr ⟨_,_,_,_,_,rfl,by lia,by lia,hjb,hjb2,by lia,lo'⟩⟩
       .rw[if_neg y];exact wpS_pure ⟨rfl,_,_,_,_,_,rfl,by lia,by lia,hjb,hjb2,by lia,lo'⟩
     |false=>
      rw[if_neg (by decide)];have lo':=stepB out ja jb (by lia) hja2 (by lia) hjb2 lo e;refine wpS_bind (bC (by lia) ?_);by_cases z:jb-1=1
      .rw[if_pos (beq_iff_eq.mpr z)];exact wpS_pure ⟨rfl,.inl ⟨_,rfl,endB _ ja (jb-1) _ lk z hja2 lo'⟩⟩
      .rw[if_neg (by simpa using z)];by_cases y:q+1>=mg
       .rw[if_pos y];exact wpS_pure ⟨rfl,.inr ⟨_,_,_,_,_,rfl,hja,hja2,by lia,by lia,by lia,lo'⟩⟩
       .rw[if_neg y];exact wpS_pure ⟨rfl,_,_,_,_,_,rfl,hja,hja2,by lia,by lia,by lia,lo'⟩
    .rintro c st2 ⟨rfl,ja,jb,out,p,q,rfl,hja,hja2,hjb,hjb2,hij,lo⟩;exact⟨rfl,.inr ⟨_,_,_,_,_,rfl,hja,hja2,hjb,hjb2,hij,lo⟩⟩
    .rintro ⟨r,c⟩ st2 ⟨rfl,⟨res,e,q⟩|⟨ja,jb,out,p,q,e,hja,hja2,hjb,hjb2,hij,lo⟩⟩
     .dsimp only at e;subst e;exact wpS_pure ⟨res,rfl,q⟩
     .obtain⟨rfl,rfl⟩:=Prod.mk.inj e;dsimp only;refine wpS_bind (wpS_lift (wpAny_rule ⟨rfl,?_⟩));refine wpS_bind (wpS_mono (wpS_forRange (I:=λj c st3=>Like st st3/\∃ka kb out m' p q,c=(none,ka,kb,out,m',p,q)/\1<=ka/\ka<=a.size/\2<=kb/\kb<=b.size/\ka+kb+j<=na+nb/\Hi blt (a.toList++b.toList) out.reverse.toList (a.toList.take ka) (b.toList.take kb))
       (Q:=λc st3=>Like st st3/\((∃res,c.1=some res/\Q res st3)\/∃ka kb out m' p q,c=(none,ka,kb,out,m',p,q)/\1<=ka/\ka<=a.size/\2<=kb/\kb<=b.size/\ka+kb+1<=na+nb/\Hi blt (a.toList++b.toList) out.reverse.toList (a.toList.take ka) (b.toList.take kb))) ?_ ?_
       ⟨lk,ja,jb,out,_,_,_,rfl,hja,hja2,hjb,hjb2,by lia,lo⟩) ?_)
      .rintro j c st3 hj1 hj2 ⟨lk3',ka,kb,out,m',p,q,rfl,hka,hka2,hkb,hkb2,hij,lo⟩;dsimp only;apply yw (α:=Nat) (H:=λ_=>True)
       .intro key;by_cases m1:m'>1
        .rw[if_pos m1];generalize m'-1=mm;exact key mm trivial
        .rw[if_neg m1];exact key m' trivial
       intro mm _;refine wpS_bind (Ac λst4 lk3=>?_);have lk4:Like st st4:=⟨lk3.kind.trans lk3'.kind,lk3.arr.trans lk3'.arr,lk3.pend.trans lk3'.pend,lk3.fail.trans lk3'.fail⟩;have hK4:kindOf st4=κ:=lk4.kind.trans hK;refine wpS_bind (bC (by lia) ?_);refine wpS_bind (fF L hK4 (mb (kb-1) (by lia)) (λi hi=>⟨by lia,ma _ (by lia)⟩) (by lia) (λi=>!blt (g b (kb-1)) (g a (0+i))) (λi hi=>rfl) (λi j h1 h2 h3=>monoA 0 _ i j h1 (by lia) h3) λk hk1 hk2 hk3=>?_);dsimp only;have hk2':∀i,i<k->blt (g b (kb-1)) (g a i)=false:=λi hi=>by have f:=hk2 i hi;rw[XM]at f;simpa using f
       have hk3':∀i,k<=i->i<ka->blt (g b (kb-1)) (g a i)=true:=λi hi hj=>by have f:=hk3 i hi hj;rw[XM]at f;simpa using f
       apply mV (H:=λ(kc:Nat) (o':Array Keyed)=>0<kc/\kc<=ka/\(∀i,i<kc->blt (g b (kb-1)) (g a i)=false)/\Hi blt (a.toList++b.toList) o'.reverse.toList (a.toList.take kc) (b.toList.take kb))
       .intro key;by_cases k0:ka-k>0
        .rw[if_pos k0];have lo1:=chunkA out ka kb k (by lia) (by lia) (by lia) (by lia) lo hk3';by_cases z:k=0
         .rw[if_pos (beq_iff_eq.mpr z)];exact wpS_pure ⟨lk4,.inl ⟨_,rfl,endA _ k kb _ lk4 z (by lia) lo1⟩⟩
         rw[if_neg (by simpa using z)];generalize out++(a.extract k ka).reverse=o' at lo1⊢;obtain⟨kc,ek⟩:∃kc,kc=k:=⟨_,rfl⟩;rw[<-ek]at lo1⊢;exact key kc o' ⟨by lia,by lia,by rw[ek];exact hk2',lo1⟩
        .rw[if_neg k0];have e0:k=ka:=by lia
         rw[e0];exact key ka out ⟨by lia,Q5 _,by rw[<-e0];exact hk2',lo⟩
       intro kc o' hc;obtain⟨c1,c2,hk2',lo1⟩:=hc;refine wpS_bind (bC (by lia) ?_);have lo2:=stepB _ kc kb (by lia) (by lia) (by lia) (by lia) lo1 (hk2' (kc-1) (by lia));by_cases z2:kb-1=1
       .rw[if_pos (beq_iff_eq.mpr z2)];exact wpS_pure ⟨lk4,.inl ⟨_,rfl,endB _ kc (kb-1) _ lk4 z2 (by lia) lo2⟩⟩
       rw[if_neg (by simpa using z2)];refine wpS_bind (bC (by lia) ?_);refine wpS_bind (fF L hK4 (ma _ (by lia)) (λi hi=>⟨by lia,mb _ (by lia)⟩) (by lia) (λi=>blt (g b (0+i)) (g a (kc-1))) (λi hi=>rfl) (λi j h1 h2 h3=>monoB 0 _ i j h1 (by lia) h3) λk2 h1 h2 h3=>?_);dsimp only;have k2p:0<k2:=by
        rcases ZF k2 with z|z
        .have f:blt (g b (0+0)) (g a (kc-1))=false:=h3 0 (by lia) (by lia);rw[Xg,bfirst (kc-1) (by lia)]at f;cases f
        .exact z
       have h2':∀i,i<k2->blt (g b i) (g a (kc-1))=true:=λi hi=>by have f:=h2 i hi;rwa [XM]at f
       have h3':∀i,k2<=i->i<kb-1->blt (g b i) (g a (kc-1))=false:=λi hi hj=>by have f:=h3 i hi hj;rwa [XM]at f
       apply mV (H:=λ(kd:Nat) (o2:Array Keyed)=>1<kd/\kd<=kb-1/\(∀i,i<kd->blt (g b i) (g a (kc-1))=true)/\Hi blt (a.toList++b.toList) o2.reverse.toList (a.toList.take kc) (b.toList.take kd))
       .intro key;by_cases q0:kb-1-k2>0
        .rw[if_pos q0];have lo3:=chunkB _ kc (kb-1) k2 (by lia) (by lia) (by lia) (by lia) lo2 h3';by_cases z3:k2=1
         .rw[if_pos (beq_iff_eq.mpr z3)];exact wpS_pure ⟨lk4,.inl ⟨_,rfl,endB _ kc k2 _ lk4 z3 (by lia) lo3⟩⟩
         have zz:¬k2=0:=by lia
         rw[if_neg (by simpa using z3),if_neg (by simpa using zz)];generalize o'.push (g b (kb-1))++(b.extract k2 (kb-1)).reverse=o2 at lo3⊢;obtain⟨kd,ed⟩:∃kd,kd=k2:=⟨_,rfl⟩;rw[<-ed]at lo3⊢;exact key kd o2 ⟨by lia,by lia,by rw[ed];exact h2',lo3⟩
        .rw[if_neg q0];have e2:k2=kb-1:=by lia
         rw[e2];exact key (kb-1) _ ⟨by lia,Q5 _,by rw[<-e2];exact h2',lo2⟩
       intro kd o2 hd;obtain⟨d1,d2,h2',lo3⟩:=hd;refine wpS_bind (bC (by lia) ?_);have lo4:=stepA _ kc kd (by lia) (by lia) (by lia) (by lia) lo3 (h2' (kd-1) (by lia));by_cases z4:kc-1=0
       .rw[if_pos (beq_iff_eq.mpr z4)];exact wpS_pure ⟨lk4,.inl ⟨_,rfl,endA _ (kc-1) kd _ lk4 z4 (by lia) lo4⟩⟩
       rw[if_neg (by simpa using z4)];split
       .exact wpS_pure ⟨lk4,.inr ⟨_,_,_,_,_,_,rfl,by lia,by lia,by lia,by lia,by lia,lo4⟩⟩
       .exact wpS_pure ⟨lk4,_,_,_,_,_,_,rfl,by lia,by lia,by lia,by lia,by lia,lo4⟩
      .rintro c st3 ⟨lk3,ka,kb,out,m',p,q,rfl,hka,hka2,hkb,hkb2,hij,lo⟩;have em:max 0 (a.size+b.size)=a.size+b.size:=QO (Qi _);rw[em]at hij;lia
      .rintro ⟨r,c⟩ st3 ⟨lk3,⟨res,e,q⟩|⟨ka,kb,out,m',p,q,e,hka,hka2,hkb,hkb2,hij,lo⟩⟩
       .dsimp only at e;subst e;exact wpS_pure ⟨res,rfl,q⟩
       .obtain⟨rfl,rfl⟩:=Prod.mk.inj e;dsimp only;refine wpS_bind (wpS_modify (wpS_pure ⟨⟨lk3.kind,lk3.arr,lk3.pend,lk3.fail⟩,_,_,_,_,rfl,hka,hka2,hkb,hkb2,by lia,lo⟩))
   .rintro c st' ⟨lk,na,nb,out,mg,rfl,ha1,ha2,hb1,hb2,hi,lo⟩;have em:max 0 (a.size+b.size)=a.size+b.size:=QO (Qi _);rw[em]at hi;lia
   .rintro ⟨r,c⟩ st' ⟨res,e,q⟩;dsimp only at e;subst e;exact wpS_pure q
end
end Srt
namespace Srt
open PySem PyProof.Rows
variable {A:Around} {p:Array (Nat×Nat×Nat)} {arr a₀ m xs:Array Keyed} {Q:Bool->SortSt->Prop} {blt:Keyed->Keyed->Bool} {l:List (Nat×Nat×Nat)} {at_ i lo n:Nat} {prog:Program} {s:Shared} {κ:SortKind} {st:SortSt} {α:Type} {E:Value->Shared->Prop} {w:World}
section
def lay (arr:Array Keyed) (at_:Nat) (m:Array Keyed):Array Keyed:=m.toList.zipIdx.foldl (λa p=>a.setIfInBounds (at_+p.2) p.1) arr
theorem Bc:∀(l:List Keyed) (j:Nat) (arr:Array Keyed) (at_:Nat),at_+j+l.length<=arr.size->
  ((l.zipIdx j).foldl (λa p=>a.setIfInBounds (at_+p.2) p.1) arr).toList=arr.toList.take (at_+j)++l++arr.toList.drop (at_+j+l.length)
 | [],j,arr,at_,h=>by simp
 |x::l,j,arr,at_,h=>by
  rw[List.zipIdx_cons,List.foldl_cons];have hl:at_+j<arr.size:=by simp at h;lia
  have ih:=Bc l (j+1) (arr.setIfInBounds (at_+j) x) at_ (by simp at h⊢;lia)
  rw[ih,K4];have e1:(arr.toList.set (at_+j) x).take (at_+(j+1))=arr.toList.take (at_+j)++ [x]:=by
   rw[show at_+(j+1)=at_+j+1 by lia,Qw,List.take_set_of_le (Q5 _),ZR (by rw[Q8];exact hl)];rfl
  have e2:(arr.toList.set (at_+j) x).drop (at_+(j+1)+l.length)=arr.toList.drop (at_+j+(x::l).length):=by
   rw[List.drop_set_of_lt (by lia)];congr 1;simp;lia
  rw[e1,e2,Qn,Qn,Qn];rfl
theorem wf (h:at_+m.size<=arr.size):(lay arr at_ m).toList=arr.toList.take at_++m.toList++arr.toList.drop (at_+m.size):=by
 have:=Bc m.toList 0 arr at_ (by simpa using h)
 simpa[lay]using this
theorem u7 (xs:Array Keyed) (k:Nat):g xs k=(xs.toList[k]?).getD dk:=by unfold g;rw[Qx]
theorem FU (h:at_+m.size<=arr.size) (k:Nat):g (lay arr at_ m) k=if at_<=k/\k<at_+m.size then g m (k-at_)else g arr k:=by
 rw[u7,wf h];have l1:(arr.toList.take at_).length=at_:=by rw[Qb,Q8];lia
 by_cases a:k<at_
 .rw[if_neg (by lia),Qn,Z7 (by lia),ZN a,<-u7]
 .by_cases b:k<at_+m.size
  .rw[if_pos ⟨by lia,b⟩,Qn,Zp (by lia),l1,Z7 (by rw[Q8];lia),<-u7]
  .rw[if_neg (by lia),Zp (by rw[Q9,l1,Q8];lia),Q9,l1,Q8,X6,show at_+m.size+(k-(at_+m.size))=k by lia,<-u7]
theorem Bb (h:at_+m.size<=arr.size) (p:m.toList.Perm ((arr.toList.drop at_).take m.size)):(lay arr at_ m).Perm arr:=by
 rw[X7,wf h];have e:arr.toList=arr.toList.take at_++((arr.toList.drop at_).take m.size++arr.toList.drop (at_+m.size)):=by
  rw[<-K3,QA,QA]
 refine List.Perm.trans ?_ (List.Perm.of_eq e.symm);rw[Qn];exact List.Perm.append_left _ (List.Perm.append_right _ p)
theorem kP (h:n<=arr.size) {k:Nat} (hk:k<n-i):g (arr.extract i n) k=g arr (i+k):=by
 unfold g;rw[Array.getElem?_extract,if_pos (by lia)]
theorem qv (h:n<=arr.size):(arr.extract i n).size=n-i:=by rw[Array.size_extract];lia
theorem uE (h:n<=arr.size) (o:On blt arr i n):On blt (arr.extract i n) 0 (arr.extract i n).size:=λa b _ hab hb=>by
 rw[qv h]at hb;rw[kP h (by lia),kP h hb];exact o _ _ (by lia) (by lia) (by lia)
end
section
theorem Co {x:SortSt} {Q:PUnit->SortSt->Prop} (h:Q ⟨⟩ x):wpS (model prog w) A E s (set x:StateT SortSt Sem PUnit) Q st:=by
 unfold wpS;rw[StateT.run_set];exact wpAny_pure ⟨rfl,h⟩
variable (L:vi prog w A E s a₀ κ blt)
include L
theorem wT {sa na pa sb nb pb:Nat} (C:Cmp blt) (B:Base a₀ κ st) (hi:(pendingOf st)[i]?=some (sa,na,pa)) (hj:(pendingOf st)[i+1]?=some (sb,nb,pb)) (hb:sb=sa+na) (h1:1<=na) (h2:1<=nb) (hz:sb+nb<=a₀.size)
  (oa:On blt (arrOf st) sa (sa+na)) (ob:On blt (arrOf st) sb (sb+nb))
  (h:∀st',Base a₀ κ st'->pendingOf st'=((pendingOf st).setIfInBounds i (sa,na+nb,pa)).eraseIdxIfInBounds (i+1)->On blt (arrOf st') sa (sa+(na+nb))->(∀k,k<sa\/sa+(na+nb)<=k->g (arrOf st') k=g (arrOf st) k)->Q true st'):
  wpS (model prog w) A E s (mergeAt' i) Q st:=by
 subst hb;have hsz:=B.size;have hsz':((sortPriv%PySem.Builtin.SortState.a) st).size=a₀.size:=B.size;refine wpS_bind (wpS_get ?_);dsimp only;rw[hi,hj];dsimp only;refine wpS_bind (Co ?_);have B1:Base a₀ κ (SortSt.mk' (kindOf st) (arrOf st) (((pendingOf st).setIfInBounds i (sa,na+nb,pa)).eraseIdxIfInBounds (i+1)) (gallopOf st) (failedOf st)):=⟨B.kind,B.fine,B.perm⟩;refine wpS_bind (bC (by lia) ?_);refine wpS_bind (fF L B1.kind (B.mem (by lia)) (λj hj=>⟨by lia,B.mem (by lia)⟩) (by lia) (λj=>!blt (g (arrOf st) (sa+na)) (g (arrOf st) (sa+j))) (λj hj=>rfl) (λx y h3 h4 h5=>?_) λk hk1 hk2 hk3=>?_)
 .have h5:blt (g (arrOf st) (sa+na)) (g (arrOf st) (sa+y))=false:=by simpa using h5
  by_cases e:x=y
  .subst e;simpa using h5
  .have:=C.trans (oa (sa+x) (sa+y) (by lia) (by lia) (by lia)) h5;simpa using this
 .dsimp only;have low:∀j,j<k->le blt (g (arrOf st) (sa+j)) (g (arrOf st) (sa+na)):=λj hj=>by have:=hk2 j hj;simpa using this
  have up:∀j,k<=j->j<na->blt (g (arrOf st) (sa+na)) (g (arrOf st) (sa+j))=true:=λj hj hj2=>by have:=hk3 j hj hj2;simpa using this
  have lowB:∀j x,j<k->sa+na<=x->x<sa+na+nb->le blt (g (arrOf st) (sa+j)) (g (arrOf st) x):=λj x hj hx hx2=>by
   by_cases e:x=sa+na
   .rw[e];exact low j hj
   .exact C.trans (low j hj) (ob (sa+na) x (Q5 _) (by lia) hx2)
  by_cases n0:na-k=0
  .rw[if_pos (beq_iff_eq.mpr n0)];refine wpS_pure (h _ B1 rfl (λx y hx hxy hy=>?_) λ_ _=>rfl);by_cases c:y<sa+na
   .exact oa x y hx hxy c
   .by_cases d:x<sa+na
    .have:=lowB (x-sa) y (by lia) (by lia) (by lia);rwa [show sa+(x-sa)=x by lia]at this
    .exact ob x y (by lia) hxy (by lia)
  .rw[if_neg (by simpa using n0)];refine wpS_bind (bC (by lia) ?_);rw[show sa+k+(na-k)-1=sa+na-1 by lia];refine wpS_bind (fF L B1.kind (B.mem (by lia)) (λj hj=>⟨by lia,B.mem (by lia)⟩) (by lia) (λj=>blt (g (arrOf st) (sa+na+j)) (g (arrOf st) (sa+na-1))) (λj hj=>rfl) (λx y h3 h4 h5=>?_) λm hm1 hm2 hm3=>?_)
   .by_cases e:x=y
    .subst e;exact h5
    .cases z:blt (g (arrOf st) (sa+na+x)) (g (arrOf st) (sa+na-1))with
     |true=>rfl
     |false=>
      have f:blt (g (arrOf st) (sa+na+y)) (g (arrOf st) (sa+na-1))=false:=C.trans z (ob (sa+na+x) (sa+na+y) (by lia) (by lia) (by lia));rw[h5]at f;cases f
   .dsimp only;have hk2':∀j,j<m->blt (g (arrOf st) (sa+na+j)) (g (arrOf st) (sa+na-1))=true:=hm2;have first:blt (g (arrOf st) (sa+na+0)) (g (arrOf st) (sa+k+0))=true:=by
     rw[Xg,Xg];exact up k (Q5 _) (by lia)
    have mp:0<m:=by
     rcases ZF m with z|z
     .have f:blt (g (arrOf st) (sa+na+0)) (g (arrOf st) (sa+na-1))=false:=hm3 0 (by lia) (by lia);have q:=up (na-1) (by lia) (by lia);rw[show sa+(na-1)=sa+na-1 by lia]at q;rw[Xg,q]at f;cases f
     .exact z
    have high:∀x,sa+na+m<=x->x<sa+na+nb->le blt (g (arrOf st) (sa+na-1)) (g (arrOf st) x):=λx hx hx2=>by
     have f:blt (g (arrOf st) (sa+na+(x-(sa+na)))) (g (arrOf st) (sa+na-1))=false:=hm3 (x-(sa+na)) (by lia) (by lia);rwa [show sa+na+(x-(sa+na))=x by lia]at f
    have highA:∀y x,sa<=y->y<sa+na->sa+na+m<=x->x<sa+na+nb->le blt (g (arrOf st) y) (g (arrOf st) x):=λy x hy hy2 hx hx2=>by
     by_cases e:y=sa+na-1
     .rw[e];exact high x hx hx2
     .exact C.trans (oa y (sa+na-1) hy (by lia) (by lia)) (high x hx hx2)
    rw[if_neg (by have:¬m=0:=by lia
                  simpa using this)]
    have sx:((arrOf st).extract (sa+k) (sa+na)).size=sa+na-(sa+k):=qv (by lia);have sy:((arrOf st).extract (sa+na) (sa+na+m)).size=sa+na+m-(sa+na):=qv (by lia);have oa':On blt (arrOf st) (sa+k) (sa+na):=oa.sub (by lia) (by lia);have ob':On blt (arrOf st) (sa+na) (sa+na+m):=ob.sub (by lia) (by lia);have tail:∀(res:Array Keyed) (st2:SortSt),Like (SortSt.mk' (kindOf st) (arrOf st) (((pendingOf st).setIfInBounds i (sa,na+nb,pa)).eraseIdxIfInBounds (i+1)) (gallopOf st) (failedOf st)) st2->res.toList.Perm (((arrOf st).extract (sa+k) (sa+na)).toList++((arrOf st).extract (sa+na) (sa+na+m)).toList)->PW blt res.toList->
      wpS (model prog w) A E s (modify (λs=>SortSt.mk' (kindOf s) (lay (arrOf s) (sa+k) res) (pendingOf s) (gallopOf s) (failedOf s))>>=λ_=>get>>=λx=>pure (failedOf x).isNone) Q st2:=λres st2 lk pm pw=>by
     have rs:res.size=na-k+m:=by
      have:=pm.length_eq;rw[Q9,Q8,Q8,Q8,sx,sy]at this;lia
     have rm:∀j,j<res.size->∃x,sa+k<=x/\x<sa+na+m/\g res j=g (arrOf st) x:=λj hj=>by
      have mem:g res j∈res.toList:=by have:=tM hj;simpa using this
      rcases Q6.mp (pm.mem_iff.mp mem)with q|q
      .obtain⟨x,x1,x2,_,x4⟩:=dG q;exact⟨x,by lia,by lia,x4⟩
      .obtain⟨x,x1,x2,_,x4⟩:=dG q;exact⟨x,by lia,by lia,x4⟩
     have fit:sa+k+res.size<=(arrOf st2).size:=by rw[lk.arr];show sa+k+res.size<=(arrOf st).size;lia
     refine wpS_bind (wpS_modify ?_);refine wpS_bind (wpS_get (wpS_pure ?_));have hg:∀x,g (lay (arrOf st2) (sa+k) res) x=if sa+k<=x/\x<sa+k+res.size then g res (x-(sa+k))else g (arrOf st) x:=λx=>by
      rw[FU fit,lk.arr]
     have ef:(failedOf st2).isNone=true:=by
      rw[lk.fail];show(failedOf st).isNone=true;rw[B.fine];rfl
     show Q (failedOf st2).isNone _;rw[ef];have on:=AJ pw;refine h _ ⟨lk.kind.trans B.kind,lk.fail.trans B.fine,?_⟩ lk.pend ?_ ?_
     .refine(Bb fit ?_).trans (by rw[lk.arr];exact B.perm);rw[lk.arr];show res.toList.Perm (((arrOf st).toList.drop (sa+k)).take res.size);refine pm.trans (List.Perm.of_eq ?_);rw[Zi,Zi,QZ,QZ,rs,show sa+na-(sa+k)=na-k by lia,show sa+na+m-(sa+na)=m by lia,List.take_add,K3,show sa+k+(na-k)=sa+na by lia]
     .intro x y hx hxy hy;show le blt (g (lay (arrOf st2) (sa+k) res) x) (g (lay (arrOf st2) (sa+k) res) y);rw[hg x,hg y];by_cases y1:sa+k<=y/\y<sa+k+res.size
      .rw[if_pos y1];by_cases x1:sa+k<=x/\x<sa+k+res.size
       .rw[if_pos x1];exact on _ _ (Qi _) (by lia) (by lia)
       .rw[if_neg x1];obtain⟨z,z1,z2,z3⟩:=rm (y-(sa+k)) (by lia);rw[z3];by_cases zz:z<sa+na
        .exact oa x z hx (by lia) zz
        .have:=lowB (x-sa) z (by lia) (by lia) (by lia);rwa [show sa+(x-sa)=x by lia]at this
      .rw[if_neg y1];by_cases x1:sa+k<=x/\x<sa+k+res.size
       .rw[if_pos x1];obtain⟨z,z1,z2,z3⟩:=rm (x-(sa+k)) (by lia);rw[z3];by_cases zz:z<sa+na
        .exact highA z y (by lia) zz (by lia) (by lia)
        .exact ob z y (by lia) (by lia) (by lia)
       .rw[if_neg x1];by_cases yy:y<sa+na
        .exact oa x y hx hxy yy
        .by_cases xx:x<sa+na
         .exact highA x y hx xx (by lia) (by lia)
         .exact ob x y (by lia) hxy (by lia)
     .intro x hx;show g (lay (arrOf st2) (sa+k) res) x=g (arrOf st) x;rw[hg x,if_neg (by lia)]
    by_cases c:na-k<=m
    .rw[if_pos c];refine wpS_bind (wR L C B1.kind (λx hx=>?_) (uE (by lia) oa') (uE (by lia) ob') (by rw[sx];lia) (by rw[sy];lia) ?_ ?_ λres st2 lk pm pw=>?_)
     .rcases Q6.mp hx with q|q
      .obtain⟨j,_,_,hj3,rfl⟩:=dG q;exact B.mem (by lia)
      .obtain⟨j,_,_,hj3,rfl⟩:=dG q;exact B.mem (by lia)
     .rw[kP (by lia) (by lia),kP (by lia) (by lia)];exact first
     .intro j hj;rw[sy]at hj;rw[sx,kP (by lia) (by lia),kP (by lia) (by lia),show sa+k+(sa+na-(sa+k)-1)=sa+na-1 by lia];exact hk2' j (by lia)
     .exact tail res st2 lk pm pw
    .rw[if_neg c];refine wpS_bind (wS L C B1.kind (λx hx=>?_) (uE (by lia) oa') (uE (by lia) ob') (by rw[sx];lia) (by rw[sy];lia) ?_ ?_ λres st2 lk pm pw=>?_)
     .rcases Q6.mp hx with q|q
      .obtain⟨j,_,_,hj3,rfl⟩:=dG q;exact B.mem (by lia)
      .obtain⟨j,_,_,hj3,rfl⟩:=dG q;exact B.mem (by lia)
     .rw[kP (by lia) (by lia),kP (by lia) (by lia)];exact first
     .intro j hj;rw[sy]at hj;rw[sx,kP (by lia) (by lia),kP (by lia) (by lia),show sa+k+(sa+na-(sa+k)-1)=sa+na-1 by lia];exact hk2' j (by lia)
     .exact tail res st2 lk pm pw
end
section
def Stack (blt:Keyed->Keyed->Bool) (xs:Array Keyed):List (Nat×Nat×Nat)->Nat->Nat->Prop
 | [],f,t=>f=t
 |(st,len,_)::r,f,t=>st=f/\1<=len/\On blt xs st (st+len)/\Stack blt xs r (st+len) t
theorem Stack.le {xs:Array Keyed}:∀{l:List (Nat×Nat×Nat)} {f t:Nat},Stack blt xs l f t->f+l.length<=t
 | [],f,t,h=>by cases h;simp
 |(st,len,p)::r,f,t,h=>by
  obtain⟨rfl,h1,_,h3⟩:=h;have:=Stack.le h3;simp;lia
theorem Stack.app {xs:Array Keyed}:∀{l r:List (Nat×Nat×Nat)} {f t:Nat},Stack blt xs (l++r) f t↔∃m,Stack blt xs l f m/\Stack blt xs r m t
 | [],r,f,t=>⟨λh=>⟨f,rfl,h⟩,λ⟨m,e,h⟩=>by cases e;exact h⟩
 |(st,len,p)::l,r,f,t=>by
  constructor
  .rintro ⟨h1,h2,h3,h4⟩;obtain⟨m,a,b⟩:=Stack.app.mp h4;exact⟨m,⟨h1,h2,h3,a⟩,b⟩
  .rintro ⟨m,⟨h1,h2,h3,a⟩,b⟩;exact⟨h1,h2,h3,Stack.app.mpr ⟨m,a,b⟩⟩
theorem Stack.congr {ys:Array Keyed}:∀{l:List (Nat×Nat×Nat)} {f t:Nat},Stack blt xs l f t->(∀k,f<=k->k<t->g ys k=g xs k)->Stack blt ys l f t
 | [],f,t,h,_=>h
 |(st,len,p)::r,f,t,h,e=>by
  obtain⟨rfl,h1,h2,h3⟩:=h;have:=h3.le;exact⟨rfl,h1,h2.congr λk a b=>e k a (by lia),h3.congr λk a b=>e k (by lia) b⟩
theorem Stack.pw {a b p q:Nat} {f t:Nat} (h:Stack blt xs (l++ [(a,b,p)]) f t):Stack blt xs (l++ [(a,b,q)]) f t:=by
 obtain⟨m,h1,h2⟩:=Stack.app.mp h;exact Stack.app.mpr ⟨m,h1,h2⟩
theorem iV {q:Nat} (S:Stack blt xs p.toList 0 lo) (h:1<=n) (o:On blt xs lo (lo+n)):Stack blt xs (p.push (lo,n,q)).toList 0 (lo+n):=by
 rw[XQ];exact Stack.app.mpr ⟨lo,S,rfl,h,o,rfl⟩
theorem vZ (q:Array α) (x:α) (f:α->α):(q.push x).modify ((q.push x).size-1) f=q.push (f x):=by
 have e:(q.push x).size-1=q.size:=by simp
 rw[e];apply Array.ext
 .simp
 .intro i h1 h2;rw[Array.getElem_modify];by_cases hi:q.size=i
  .subst hi;simp
  .rw[if_neg hi];have:i<q.size:=by simp at h2;lia
   rw[Xq this,Xq this]
theorem mS {pw:Nat} (z:1<=p.size) (S:Stack blt xs p.toList 0 lo):Stack blt xs (p.modify (p.size-1) λx=>(x.1,x.2.1,pw)).toList 0 lo:=by
 obtain⟨q,x,rfl⟩:∃q x,p=q.push x:=⟨p.pop,p[p.size-1],by
  apply Array.ext
  .simp;lia
  .intro i h1 h2;by_cases hi:i<p.pop.size
   .rw[Xq hi];simp
   .have:i=p.size-1:=by simp at h2 hi;lia
    subst this;rw[Array.getElem_push];rw[dif_neg (by simp)]⟩
 rw[vZ,XQ];rw[XQ]at S;obtain⟨a,b,c⟩:=x;exact S.pw
theorem As {l:List α} {x y:α} (h1:l[i]?=some x) (h2:l[i+1]?=some y):∃p r,l=p++x::y::r/\p.length=i:=by
 obtain⟨a1,e1⟩:=Q3.mp h1;obtain⟨a2,e2⟩:=Q3.mp h2;refine⟨l.take i,l.drop (i+2),?_,by rw[Qb];lia⟩;have d1:=QR a1;have d2:=QR a2;rw[e1]at d1;rw[e2]at d2
 calc l=l.take i++l.drop i:=(QA _ _).symm
  _=_:=by rw[d1,d2]
theorem Bw {p r:List α} {x y v:α}:((p++x::y::r).set p.length v).eraseIdx (p.length+1)=p++v::r:=by
 rw[List.set_append_right _ _ (Q5 _),Nat.sub_self];rw[XH (by lia),show p.length+1-p.length=1 by lia];rfl
end
section
variable (L:vi prog w A E s a₀ κ blt)
include L
theorem nM (C:Cmp blt) (B:Base a₀ κ st) (S:Stack blt (arrOf st) (pendingOf st).toList 0 lo) (hlo:lo<=a₀.size) (hi:i+1<(pendingOf st).size)
  (h:∀st',Base a₀ κ st'->Stack blt (arrOf st') (pendingOf st').toList 0 lo->(pendingOf st').size+1=(pendingOf st).size->(∀k,lo<=k->g (arrOf st') k=g (arrOf st) k)->Q true st'):
  wpS (model prog w) A E s (mergeAt' i) Q st:=by
 have q1:(pendingOf st)[i]?=some ((pendingOf st)[i]'(by lia)):=getElem?_pos _ _ _;have q2:(pendingOf st)[i+1]?=some ((pendingOf st)[i+1]'hi):=getElem?_pos _ _ _;obtain⟨⟨sa,na,pa⟩,e1⟩:∃x,x=(pendingOf st)[i]'(by lia):=⟨_,rfl⟩;obtain⟨⟨sb,nb,pb⟩,e2⟩:∃x,x=(pendingOf st)[i+1]'hi:=⟨_,rfl⟩;rw[<-e1]at q1;rw[<-e2]at q2;have t1:=q1;have t2:=q2;rw[<-Qx]at t1 t2;obtain⟨p,r,el,pl⟩:=As t1 t2;rw[el]at S;obtain⟨m,S1,S2⟩:=Stack.app.mp S;obtain⟨rfl,n1,o1,rfl,n2,o2,S3⟩:=S2;have l3:=S3.le;have l1:=S1.le;refine wT L C B q1 q2 rfl n1 n2 (by lia) o1 o2 λst' B' hp on keep=>?_;have ep:(pendingOf st').toList=p++(sa,na+nb,pa)::r:=by
  rw[hp,Array.toList_eraseIdxIfInBounds,K4,el,<-pl,Bw]
 have kz:∀k,k<sa\/sa+na+nb<=k->g (arrOf st') k=g (arrOf st) k:=λk hk=>keep k (by lia);refine h st' B' ?_ ?_ λk hk=>kz k (by lia)
 .rw[ep];refine Stack.app.mpr ⟨sa,S1.congr λk a b=>kz k (.inl b),rfl,by lia,on,?_⟩;rw[show sa+(na+nb)=sa+na+nb by lia];exact S3.congr λk a b=>kz k (.inr a)
 .have a:=congrArg List.length ep;have b:=congrArg List.length el;simp at a b;lia
theorem vo {Q:Unit->SortSt->Prop} (C:Cmp blt) (B:Base a₀ κ st) (hp:pendingOf st= #[]) (h2:1<=a₀.size)
  (h:∀st',Base a₀ κ st'->On blt (arrOf st') 0 a₀.size->Q () st'):wpS (model prog w) A E s sortRuns' Q st:=by
 rw[sortRuns'_eq];refine wpS_bind (wpS_get ?_);dsimp only;have hsz:=B.size;rw[hsz];refine wpS_bind (wpS_mono (wpS_forRange
  (I:=λi c st'=>∃lo,c=(none,lo)/\i<=lo/\lo<=a₀.size/\Base a₀ κ st'/\Stack blt (arrOf st') (pendingOf st').toList 0 lo)
  (Q:=λc st'=>c=(none,a₀.size)/\Base a₀ κ st'/\Stack blt (arrOf st') (pendingOf st').toList 0 a₀.size) ?step ?fin ⟨0,rfl,Q5 _,Qi _,B,by rw[hp];exact rfl⟩) ?post)
 case fin=>
  rintro c st' ⟨lo,rfl,h1,h3,B',S⟩;have em:max 0 a₀.size=a₀.size:=QO (Qi _);rw[em]at h1;have e:lo=a₀.size:=by lia
  subst e;exact⟨rfl,B',S⟩
 case step=>
  rintro i c st' _ hi ⟨lo,rfl,h1,h3,B',S⟩;dsimp only;by_cases z:lo>=a₀.size
  .rw[if_pos z];have e:lo=a₀.size:=by lia
   subst e;exact wpS_pure ⟨rfl,B',S⟩
  .rw[if_neg z];refine wpS_bind (Ad L C B' (by lia) (by lia) λn st2 B2 p2 m1 m2 O2 k2=>?_);dsimp only;have S2:Stack blt (arrOf st2) (pendingOf st2).toList 0 lo:=by
    rw[p2];exact S.congr λk _ b=>k2 k b
   by_cases small:n<minRun' a₀.size a₀.size 0
   .rw[if_pos small];refine wpS_bind (wpS_lift (wpAny_rule ⟨rfl,?_⟩));refine wpS_bind (y3 L C B2 m1 (by lia) (by lia) O2 λst3 B3 p3 O3 k3=>?_);rw[if_neg (by decide)];have S3:Stack blt (arrOf st3) (pendingOf st3).toList 0 lo:=by
     rw[p3];exact S2.congr λk _ b=>k3 k b
    generalize hn:min (a₀.size-lo) (minRun' a₀.size a₀.size 0)=n' at O3;have n1':1<=n':=by lia
    have n2':lo+n'<=a₀.size:=by lia
    refine wpS_bind (wpS_get ?_);cases eb:(pendingOf st3).back? with
    |none=>
     dsimp only;exact wpS_bind (wpS_modify (wpS_pure ⟨lo+n',rfl,by lia,by lia,⟨B3.kind,B3.fine,B3.perm⟩,iV S3 (by lia) O3⟩))
    |some tt=>
     obtain⟨s1,n1,p1⟩:=tt;dsimp only;have hsz3:1<=(pendingOf st3).size:=by
      rcases ZF (pendingOf st3).size with q|q
      .rw[Array.size_eq_zero_iff.mp q]at eb;cases eb
      .exact q
     refine wpS_bind (wpS_mono (wpS_forRange (I:=λ_ c st4=>c=(none,())/\Base a₀ κ st4/\Stack blt (arrOf st4) (pendingOf st4).toList 0 lo/\On blt (arrOf st4) lo (lo+n')/\1<=(pendingOf st4).size)
      (Q:=λc st4=>c=(none,())/\Base a₀ κ st4/\Stack blt (arrOf st4) (pendingOf st4).toList 0 lo/\On blt (arrOf st4) lo (lo+n')/\1<=(pendingOf st4).size) ?_ (λ_ _ q=>q) ⟨rfl,B3,S3,O3,hsz3⟩) ?_)
     .rintro j c st4 _ _ ⟨rfl,B4,S4,O4,z4⟩;refine wpS_bind (wpS_get ?_);by_cases big:(pendingOf st4).size>1
      .rw[if_pos big,getElem?_pos (pendingOf st4) ((pendingOf st4).size-2) (by lia)];obtain⟨⟨u1,u2,older⟩,eu⟩:∃x,x=(pendingOf st4)[(pendingOf st4).size-2]'(by(clear big hsz3 eb n2' n1' hn p3 small m2 m1 p2 z h3 h1 hi hsz h2 hp;omega (config:={}))):=⟨_,rfl⟩;rw[<-eu];dsimp only;split
       .exact wpS_pure ⟨rfl,B4,S4,O4,z4⟩
       .refine wpS_bind (nM L C B4 S4 (by lia) (by lia) λst5 B5 S5 z5 k5=>?_);rw[if_neg (by decide)];exact wpS_pure ⟨rfl,B5,S5,O4.congr λk a b=>k5 k a,by lia⟩
      .rw[if_neg big];exact wpS_pure ⟨rfl,B4,S4,O4,z4⟩
     .rintro c st4 ⟨rfl,B4,S4,O4,z4⟩;dsimp only;refine wpS_bind (wpS_modify (wpS_bind (wpS_modify (wpS_pure ⟨lo+n',rfl,by lia,by lia,⟨B4.kind,B4.fine,B4.perm⟩,?_⟩))));exact iV (mS z4 S4) (by lia) O4
   .rw[if_neg small];have B3:=B2;have S3:=S2;have O3:=O2;obtain⟨st3,e3⟩:∃x,x=st2:=⟨_,rfl⟩;rw[<-e3]at B3 S3 O3⊢;refine wpS_bind (wpS_get ?_);cases eb:(pendingOf st3).back? with
    |none=>
     dsimp only;exact wpS_bind (wpS_modify (wpS_pure ⟨lo+n,rfl,by lia,by lia,⟨B3.kind,B3.fine,B3.perm⟩,iV S3 (by lia) O3⟩))
    |some tt=>
     obtain⟨s1,n1,p1⟩:=tt;dsimp only;have hsz3:1<=(pendingOf st3).size:=by
      rcases ZF (pendingOf st3).size with q|q
      .rw[Array.size_eq_zero_iff.mp q]at eb;cases eb
      .exact q
     refine wpS_bind (wpS_mono (wpS_forRange (I:=λ_ c st4=>c=(none,())/\Base a₀ κ st4/\Stack blt (arrOf st4) (pendingOf st4).toList 0 lo/\On blt (arrOf st4) lo (lo+n)/\1<=(pendingOf st4).size)
      (Q:=λc st4=>c=(none,())/\Base a₀ κ st4/\Stack blt (arrOf st4) (pendingOf st4).toList 0 lo/\On blt (arrOf st4) lo (lo+n)/\1<=(pendingOf st4).size) ?_ (λ_ _ q=>q) ⟨rfl,B3,S3,O3,hsz3⟩) ?_)
     .rintro j c st4 _ _ ⟨rfl,B4,S4,O4,z4⟩;refine wpS_bind (wpS_get ?_);by_cases big:(pendingOf st4).size>1
      .rw[if_pos big,getElem?_pos (pendingOf st4) ((pendingOf st4).size-2) (by lia)];obtain⟨⟨u1,u2,older⟩,eu⟩:∃x,x=(pendingOf st4)[(pendingOf st4).size-2]'(by omega (config:={})):=⟨_,rfl⟩;rw[<-eu];dsimp only;split
       .exact wpS_pure ⟨rfl,B4,S4,O4,z4⟩
       .refine wpS_bind (nM L C B4 S4 (by lia) (by lia) λst5 B5 S5 z5 k5=>?_);rw[if_neg (by decide)];exact wpS_pure ⟨rfl,B5,S5,O4.congr λk a b=>k5 k a,by lia⟩
      .rw[if_neg big];exact wpS_pure ⟨rfl,B4,S4,O4,z4⟩
     .rintro c st4 ⟨rfl,B4,S4,O4,z4⟩;dsimp only;refine wpS_bind (wpS_modify (wpS_bind (wpS_modify (wpS_pure ⟨lo+n,rfl,by lia,by lia,⟨B4.kind,B4.fine,B4.perm⟩,?_⟩))));exact iV (mS z4 S4) (by lia) O4
 case post=>
  rintro c st' ⟨rfl,B',S⟩;dsimp only;have lenS:=S.le;refine wpS_bind (wpS_mono (wpS_forRange (I:=λi c st2=>c=(none,())/\Base a₀ κ st2/\Stack blt (arrOf st2) (pendingOf st2).toList 0 a₀.size/\(pendingOf st2).size+i<=a₀.size+1)
   (Q:=λc st2=>c=(none,())/\Base a₀ κ st2/\Stack blt (arrOf st2) (pendingOf st2).toList 0 a₀.size/\(pendingOf st2).size<=1) ?_ ?_ ⟨rfl,B',S,by rw[Q8]at lenS;lia⟩) ?_)
  .rintro i c st2 _ hi ⟨rfl,B2,S2,z2⟩;refine wpS_bind (wpS_get ?_);by_cases one:(pendingOf st2).size<=1
   .rw[if_pos one];exact wpS_pure ⟨rfl,B2,S2,one⟩
   .rw[if_neg one];generalize hix:(if Option.any _ _=true then(pendingOf st2).size-2-1 else(pendingOf st2).size-2)=ix;have gen:∀bb:Bool,(if bb=true then(pendingOf st2).size-2-1 else(pendingOf st2).size-2)+1<(pendingOf st2).size:=λbb=>by
     cases bb with
     |true=>rw[if_pos rfl];lia
     |false=>rw[if_neg (by decide)];lia
    have hx:ix+1<(pendingOf st2).size:=by
     rw[<-hix];exact gen _
    refine wpS_bind (nM L C B2 S2 (Q5 _) hx λst3 B3 S3 z3 k3=>?_);rw[if_neg (by decide)];exact wpS_pure ⟨rfl,B3,S3,by lia⟩
  .rintro c st2 ⟨rfl,B2,S2,z2⟩;have em:max 0 a₀.size=a₀.size:=QO (Qi _);rw[em]at z2;exact⟨rfl,B2,S2,by lia⟩
  .rintro c st2 ⟨rfl,B2,S2,z2⟩;dsimp only;refine wpS_pure (h st2 B2 ?_)
   match hl:(pendingOf st2).toList,S2 with
   | [],S2=>
    have e:0=a₀.size:=S2;lia
   | [(a,b,p)],S2=>
    obtain⟨rfl,_,o,e⟩:=S2;have e:0+b=a₀.size:=e;rw[e]at o;exact o
   |_::_::_,_=>
    have:=congrArg List.length hl;simp at this;lia
end
end Srt
namespace Srt
open PySem PyProof.Rows
variable {blt:Keyed->Keyed->Bool} {E:Value->Shared->Prop}
section
variable {prog:Program} {w:World} {A:Around} {s:Shared} {κ:SortKind}
abbrev But (a:Addr) (s s':Shared):Prop:=∀b o,b≠a->s.heap.get? b=some o->s'.heap.get? b=some o
theorem sZ {a:Addr} {vs:List Value} {n:Nat} {P:PySem.Fin->Shared->Prop} (ho:s.heap.get? a=some (seqObj "list" vs.toArray n)) (hz:vs.length<=sizeLine) (C:Cmp blt)
  (hkk:∀h':Heap,But a s {s with heap:=h'}->2<=vs.length->∀Q':SortKind->Shared->Prop,Q' κ {s with heap:=h'}->wpAny (model prog w) A (keyKind' vs.toArray) Q' E {s with heap:=h'})
  (L:∀h':Heap,But a s {s with heap:=h'}->vi prog w A E {s with heap:=h'} (pairsOf vs) κ blt)
  (h:∀out:Array Keyed,out.Perm (pairsOf vs)->PW blt out.toList->P (.done (.ret .none)) {s with heap:=sortedHeap s.heap a vs (out.map (·.2))}):wpAny (model prog w) A (Builtin.«list.sort» ⟨[.ref a],[]⟩) P E s:=by
 have hv:vs.toArray.size=vs.length:=Qc;have ha:=Heap.lt_size ho;rw[list_sort_plain];refine wpAny_bind (listItems_at ho rfl (wpAny_bind (listUpdate_at ho rfl ?_ (hsz:=by rw[hv];exact hz))));obtain⟨e1,ho1⟩:∃k,(s.heap.update a (Obj.mapSeq λ_=> #[])).get? a=some (seqObj "list" #[] k):=⟨_,get?_update_seq ho (λ_=> #[])⟩;refine wpAny_bind (seqEpoch_at ho1 rfl (wpAny_bind (wpAny_newTuple ?_ (hsz:=hz))));refine wpAny_bind (wpAny_newList (wpAny_holding ?_));generalize hh:((s.heap.update a (Obj.mapSeq λ_=> #[])).push (seqObj "tuple" vs.toArray 0)).push (seqObj "list" #[] 0)=h6;have up:∀b o,(s.heap.update a (Obj.mapSeq λ_=> #[])).get? b=some o->h6.get? b=some o:=λb o e=>by
  rw[<-hh];exact Heap.get?_push_of_some _ (Heap.get?_push_of_some _ e)
 have ho6:=up a _ ho1;have but:But a s {s with heap:=h6}:=λb o hb e=>up b o (by exact(Heap.get?_update_other _ _ (Ne.symm hb)).trans e);have fin:∀out:Array Keyed,out.Perm (pairsOf vs)->PW blt out.toList->P (.done (.ret .none)) {s with heap:=h6.update a (Obj.mapSeq λ_=>out.map (·.2))}:=λout p q=>by
  have:=h out p q;unfold sortedHeap at this;rw[hh]at this;exact this
 have hsz2:∀out:Array Keyed,out.Perm (pairsOf vs)->(out.map (·.2)).size<=sizeLine+1:=λout p=>by
  have:=p.size_eq;rw[pairsOf_size]at this;rw[Array.size_map];lia
 dsimp only;by_cases h2:vs.toArray.size<2
 .rw[if_pos h2,if_pos h2];refine wpAny_bind (wpAny_pure ?_);rw[StateT.run_pure];refine wpAny_bind (wpAny_pure ?_);dsimp only;have pr:(SortSt.mk' general' (vs.toArray.zip vs.toArray) #[] 7 none|>arrOf).Perm (pairsOf vs):=Array.Perm.refl _;refine wpAny_bind (seqEpoch_at ho6 rfl (wpAny_bind (listUpdate_at ho6 rfl ?_ (hsz:=Qi _) (hsz2:=hsz2 _ pr))));simp only[bne_self_eq_false,QS,if_false];refine wpAny_pure (fin _ pr ?_);have l1:(vs.toArray.zip vs.toArray).toList.length<=1:=by simp at h2⊢;lia
  show PW blt (vs.toArray.zip vs.toArray).toList;revert l1;generalize (vs.toArray.zip vs.toArray).toList=l;rcases l with _|⟨x,_|⟨y,t⟩⟩<;>intro l1<;>first|exact List.Pairwise.nil|exact ZP _ _|exact absurd l1 (Nat.not_le_of_lt (Nat.succ_lt_succ (Nat.succ_pos _)))
 .rw[if_neg h2,if_neg h2];refine wpAny_bind (hkk h6 but (by lia) _ ?_);refine wpAny_bind (wpAny_mono (vo (L h6 but) (st:=SortSt.mk' κ (vs.toArray.zip vs.toArray) #[] 7 none) (Q:=λ_ st'=>Base (pairsOf vs) κ st'/\On blt (arrOf st') 0 (pairsOf vs).size) C
   ⟨rfl,rfl,Array.Perm.refl _⟩ rfl (by rw[pairsOf_size];lia) λst' B O=>⟨B,O⟩) ?_ λ_ _ e=>e)
  rintro ⟨⟨⟩,st'⟩ s' ⟨rfl,B,O⟩;dsimp only;refine wpAny_bind (seqEpoch_at ho6 rfl (wpAny_bind (listUpdate_at ho6 rfl ?_ (hsz:=Qi _) (hsz2:=hsz2 _ B.perm))));rw[B.fine];simp only[bne_self_eq_false,QS,if_false];refine wpAny_pure (fin _ B.perm ?_);have:=fR (a:=arrOf st') (blt:=blt) (by rw[B.size];exact O) 0;rwa [Zq]at this
end
end Srt
namespace Srt
open PySem PyProof.Rows
variable {blt:Keyed->Keyed->Bool} {E:Value->Shared->Prop}
theorem wc:∀(a b:List Int),HT.lexLt a b=true->HT.lexLt b a=false
 | [],[],h=>rfl
 | [],_::_,_=>rfl
 |_::_,[],h=>by rw[HT.lexLt_cons_nil]at h;cases h
 |x::xs,y::ys,h=>by
  rw[HT.lexLt_cons]at h⊢;by_cases e:x=y
  .rw[if_pos e]at h;rw[if_pos e.symm];exact wc xs ys h
  .rw[if_neg e]at h;rw[if_neg (Ne.symm e)];have:=of_decide_eq_true h;exact decide_eq_false (by lia)
theorem Ba:∀(a b c:List Int),HT.lexLt b a=false->HT.lexLt c b=false->HT.lexLt c a=false
 | [],b,[],_,_=>rfl
 |x::xs,[],c,h,_=>by rw[HT.lexLt_nil_cons]at h;cases h
 |a,y::ys,[],_,h=>by rw[HT.lexLt_nil_cons]at h;cases h
 | [],_,_::_,_,_=>HT.lexLt_cons_nil _ _
 |x::xs,y::ys,z::zs,h1,h2=>by
  rw[HT.lexLt_cons]at h1 h2⊢;by_cases e1:y=x
  .rw[if_pos e1]at h1;by_cases e2:z=y
   .rw[if_pos e2]at h2;rw[if_pos (e2.trans e1)];exact Ba xs ys zs h1 h2
   .rw[if_neg e2]at h2;rw[if_neg (by rw[<-e1];exact e2)];have:=of_decide_eq_false h2;exact decide_eq_false (by lia)
  .rw[if_neg e1]at h1;have g1:=of_decide_eq_false h1;by_cases e2:z=y
   .rw[if_pos e2]at h2;rw[if_neg (by lia)];exact decide_eq_false (by lia)
   .rw[if_neg e2]at h2;have g2:=of_decide_eq_false h2;by_cases e3:z=x
    .lia
    .rw[if_neg e3];exact decide_eq_false (by lia)
theorem cmp_of (k:Keyed->List Int):Cmp λp q=>HT.lexLt (k p) (k q):=⟨λx y h=>wc _ _ h,λx y z h1 h2=>Ba _ _ _ h1 h2⟩
theorem runs_of {prog:Program} {w:World} {A:Around} {s:Shared} {a₀:Array Keyed} {κ:SortKind} 
  (h:∀(x y:Keyed) (E':Value->Shared->Prop) (Q:Bool->Shared->Prop),x∈a₀->y∈a₀->Q (blt x y) s->wpAny (model prog w) A (keyLt' κ x.1 y.1) Q E' s):vi prog w A E s a₀ κ blt:=by
 intro x y st Q hx hy hk q;rw[lt'_eq];refine wpS_bind (wpS_get ?_);rw[hk];refine wpS_bind (wpS_lift (wpAny_attempt (h x y _ _ hx hy ⟨rfl,?_⟩)));exact wpS_pure q
end Srt
namespace L2
open PySem PySem.Spec PyProof.Rows
variable {u:Value}
def unV (u:Value):V:=(absV u).getD .non
theorem Ai {x:V} (r:RelV x u):unV u=x:=by unfold unV;rw[r.abs];rfl
theorem xU:∀{xs:List V} {us:List Value},Vals xs us->us.map unV=xs
 |_,_,.nil=>rfl
 |_,_,.cons r t=>by rw[Qu,Ai r,xU t]
theorem vq {xs:List V} {us:List Value} (h:Vals xs us) (hu:u∈us):∃x∈xs,RelV x u:=by
 induction h with
 |nil=>exact absurd hu ZX
 |cons r t ih=>
  rcases Qj.mp hu with e|e
  .subst e;exact⟨_,Qd,r⟩
  .obtain⟨x,h1,h2⟩:=ih e;exact⟨x,Qa _ h1,h2⟩
theorem xV:∀{us:List Value},(∀u∈us,RelV (unV u) u)->Vals (us.map unV) us
 | [],_=> .nil
 |u::r,h=> .cons (h u Qd) (xV λv hv=>h v (Qa _ hv))
section
variable {X:Cx}
def uT:V->List Int
 | .int i=> [i]
 |_=> []
theorem zj {ns:List Int} {ys:List V} (h:ys.Perm (ns.map V.int)):∃ms:List Int,ys=ms.map V.int/\ms.Perm ns:=by
 have e:ys=(ys.map λy=>match y with| .int i=>i|_=>0).map V.int:=by
  rw[QD];refine(List.map_id' ys).symm.trans (Zk λy hy=>?_);obtain⟨i,_,rfl⟩:=Qh.mp (h.mem_iff.mp hy);rfl
 refine⟨_,e,?_⟩;refine(h.map λy=>match y with| .int i=>i|_=>0).trans (List.Perm.of_eq ?_);rw[QD];exact List.map_id' ns
end
end L2
namespace Srt
open PySem PyProof.Rows
variable {blt:Keyed->Keyed->Bool} {E Q:Value->Shared->Prop}
section
variable {prog:Program} {w:World} {A:Around} {s:Shared} {κ:SortKind}
theorem sorted_src {r:Value} {G:List Value->Prop} 
  (hc:∀(R:List Value->Shared->Prop) (E':Value->Shared->Prop),(∀(h1:Heap) (tk:Nat) (vs:List Value),(∀b o,s.heap.get? b=some o->h1.get? b=some o)->G vs->R vs {s with heap:=h1,toks:=tk})->wpAny (model prog w) A.in1 (collect r) R E' s)
  (hz:∀vs,G vs->vs.length<=sizeLine) (C:Cmp blt)
  (hkk:∀(vs:List Value) (h':Heap) (tk:Nat),G vs->(∀b o,s.heap.get? b=some o->h'.get? b=some o)->2<=vs.length->∀Q':SortKind->Shared->Prop,Q' κ {s with heap:=h',toks:=tk}->wpAny (model prog w) A.in1.in1 (keyKind' vs.toArray) Q' (λ_ _=>False) {s with heap:=h',toks:=tk})
  (L:∀(vs:List Value) (h':Heap) (tk:Nat),G vs->(∀b o,s.heap.get? b=some o->h'.get? b=some o)->vi prog w A.in1.in1 (λ_ _=>False) {s with heap:=h',toks:=tk} (pairsOf vs) κ blt)
  (h:∀(vs:List Value) (h1 h2:Heap) (tk e:Nat) (out:Array Keyed),G vs->(∀b o,s.heap.get? b=some o->h1.get? b=some o)->(∀b o,h1.get? b=some o->h2.get? b=some o)->h2.get? h1.objs.size=some (seqObj "list" (out.map (·.2)) e)->out.Perm (pairsOf vs)->PW blt out.toList->Q (.ref h1.objs.size) {s with heap:=h2,toks:=tk}):
  wpAny (model prog w) A (call (.builtin "sorted") [r]) Q E s:=by
 refine Calls.call_function_entry kind_sorted plain_sorted entry_sorted (args_sorted1 _) ?_;unfold Builtin.«sorted»;refine wpAny_bind (m:=checkCount "sorted" 1 1 _) (wpAny_pure (wpAny_bind (hc _ _ λh1 tk vs k1 g=>?_)));refine wpAny_bind (wpAny_newList ?_ (hsz:=hz vs g));have new:(h1.push (seqObj "list" vs.toArray 0)).get? h1.objs.size=some (seqObj "list" vs.toArray 0):=Heap.get?_push_size _ rfl;have keep:∀h':Heap,But h1.objs.size {s with heap:=h1.push (seqObj "list" vs.toArray 0),toks:=tk} {s with heap:=h',toks:=tk}->∀b o,s.heap.get? b=some o->h'.get? b=some o:=λh' k b o e=>
  k b o (Qv (Heap.lt_size (k1 b o e))) (Heap.get?_push_of_some _ (k1 b o e))
 show wpAny _ _ _ _ _ {s with heap:=h1.push (seqObj "list" vs.toArray 0),toks:=tk};refine wpAny_bind (wpAny_holding (wpAny_mono (wpAny_call_entry (E:=λ_ _=>False) slot_list_sort ⟨_,new,rfl⟩ entry_list_sort (sZ (s:={s with heap:=h1.push (seqObj "list" vs.toArray 0),toks:=tk}) (κ:=κ) (blt:=blt) new (hz vs g) C (λh' k=>hkk vs h' tk g (keep h' k)) (λh' k=>L vs h' tk g (keep h' k)) λout p q=>⟨_,rfl,?_⟩) (args_list_sort _)) (λ_ _ q=>q) λ_ _ f=>f.elim));refine wpAny_pure ⟨_,rfl,?_⟩;obtain⟨e,at_⟩:=sortedHeap_at (out:=out.map (·.2)) new;refine h vs h1 _ tk e out g k1 (λb o q=>?_) at_ p q
 have lt:=Heap.lt_size q;rw[sortedHeap_old (Qv lt) (by rw[size_push'];exact Nat.lt_succ_of_lt lt)];exact Heap.get?_push_of_some _ q
end
end Srt
namespace L2
open PySem PySem.Spec PyProof.Rows
variable {C D a d:Addr} {X:Cx} {elt iter l tg:Expr} {h':Heap} {H H1 H4:Hp} {Fin:Hp->Prop} {J:It} {R:It->Hp->Prop} {pins:List (Addr×Obj)} {kvs:List (Key×V)} {vs:List (Key×Value)} {cl:List (Str×Addr)} {elts ifs:List Expr} {M N':List Str} {xs ys:List V} {ep i n:Nat} {ob:Obj} {pos px:Pos} {P:Program} {K:PySem.W.Frag} {scope:Scope} {s:Shared} {σ:St} {x y:Str} {nx:St->Hp->Prop} {B:St->VK->It->Hp->Prop} {te:TE} {g:TG} {wi:TI} {tb:TS} {tc:TT} {Q rt:VK} {RR:Value->Addr->Result->Shared->Prop} {w:World}
section
section
theorem p9 {k:Key} {v:Value} (h:(aU P w).is k v=true):RelV (kV k) v:=by
 rw[xt]at h;cases k with
 |inl i=>
  cases v with
  |int j t=>exact⟨t,by simp[jR,Value.isInt]at h;rw[h]⟩
  |_=>simp[jR,Value.isInt]at h
 |inr x=>
  cases v with
  |str y t=>exact⟨t,by simp[jR,Value.isStrOf]at h;rw[h]⟩
  |_=>simp[jR,Value.isStrOf]at h
def mX (kvs:List (Key×V)):List V:=kvs.map λp=>kV p.1
theorem wU {acc:List Value} (rel:KV kvs vs) (hl:acc.length=vs.length)
  (hv:∀(j:Nat) (v:Value),acc[j]?=some v->∃k x,vs[j]?=some (k,x)/\(aU P w).is k v=true):Vals (mX kvs) acc:=by
 induction rel generalizing acc with
 |nil=>cases acc with
  |nil=>exact .nil
  |cons a b=>simp at hl
 |cons r t ih=>
  rename_i p q ps qs
  cases acc with
  |nil=>simp at hl
  |cons a b=>
   refine .cons ?_ (ih (by simpa using hl) λj v e=>?_)
   .obtain⟨k,x,e1,e2⟩:=hv 0 a rfl;simp at e1;subst e1;show RelV (kV p.1) a;rw[r.1];exact p9 e2
   .exact hv (j+1) v (by simpa using e)
theorem oS {T:String} {r:Addr} {OK:Heap->Prop} {ns:List Int} (hh:X.A.handled=none) (I:Inv X pins σ H s) (rel:KV kvs vs) (z:kvs.length<=sizeLine)
  (src:PySem.W.KdlSrc X.prog X.w T r d vs.length (λi v=>∃k x,vs[i]?=some (k,x)/\(aU X.prog X.w).is k v=true) OK) (hok:OK s.heap) (hns:mX kvs=ns.map V.int)
  (q:∀(l:Addr) (ms:List Int),H l=none->ms.Perm ns->ms.Pairwise (· <= ·)->Q (.ref l) (upd H l (.lst (ms.map V.int)))):wpAny (model X.prog X.w) X.A (call (.builtin "sorted") [.ref r]) (EP X pins σ Q) X.xe s:=by
 have hlen:kvs.length=vs.length:=rel.length;have hlk:(mX kvs).length=kvs.length:=Q0 _;have allI:∀its:List Value,Vals (mX kvs) its->∀v∈its,∃i t,v=Value.int i t:=λits rv v hv=>by
  obtain⟨x,hx,rx⟩:=vq rv hv;rw[hns]at hx;obtain⟨i,_,rfl⟩:=Qh.mp hx;obtain⟨t,e⟩:=rx;exact⟨i,t,e⟩
 have mem:∀(its:List Value) (z:Keyed),z∈pairsOf its->z.1=z.2/\z.1∈its:=λits z hz=>by
  have:z∈(pairsOf its).toList:=by simpa using hz
  rw[pairsOf_toList]at this;exact mem_zip_self this
 refine Srt.sorted_src (G:=λits=>Vals (mX kvs) its) (κ:=oneType') (blt:=λa b=>HT.lexLt (uT (unV a.1)) (uT (unV b.1))) (λR E' k=>?_) (λits rv=>by rw[<-rv.length,hlk];exact z) (Srt.cmp_of λa=>uT (unV a.1))
  (λits h' tk rv k h2 Q' hQ=>?_) (λits h' tk rv k=>Srt.runs_of λx y E' Q' hx hy hQ=>?_) (λits h1 h2 tk e out rv k1 k2 at_ pm pw=>?_)
 .refine PySem.W.kdu_collect src hh hok (by lia) λh' tk acc hk hacc=>k h' tk acc.toList hk ?_;exact wU rel (by rw[Q8];exact hacc.1) λj v e=>hacc.2 j v (by rw[<-Qx];exact e)
 .refine PySem.W.kas_kind (T:= .type "int") h2 (λv hv=>?_) (by decide+kernel) (by decide+kernel) hQ;obtain⟨i,t,rfl⟩:=allI its rv v hv;exact PySem.W.Looks.of_pure rfl
 .obtain⟨i,t,e1⟩:=allI its rv _ (mem its x hx).2;obtain⟨j,t',e2⟩:=allI its rv _ (mem its y hy).2;rw[e1,e2]at hQ⊢;refine PySem.W.kat_lt_int ?_;have e:HT.lexLt (uT (unV (.int i t))) (uT (unV (.int j t')))=decide (i<j):=by
   show HT.lexLt [i] [j]=_;rw[HT.lexLt_cons];by_cases z:i=j
   .rw[if_pos z,HT.lexLt_nil_nil,decide_eq_false (by lia)]
   .rw[if_neg z]
  rw[e]at hQ;exact hQ
 .have pml:out.toList.Perm (its.zip its):=by
   have:=X7.mp pm;rwa [pairsOf_toList]at this
  have eqs:∀z∈out.toList,z.1=z.2/\z.1∈its:=λz hz=>mem_zip_self (pml.mem_iff.mp hz);have e2:(out.map (·.2)).toList=out.toList.map (·.2):=Array.toList_map;have pv:((out.map (·.2)).toList).Perm its:=by
   rw[e2];refine(pml.map _).trans (List.Perm.of_eq ?_);exact List.map_snd_zip (Q5 _)
  have hu:∀u∈(out.map (·.2)).toList,RelV (unV u) u:=λu hu=>by
   obtain⟨x,_,r⟩:=vq rv (pv.mem_iff.mp hu);rw[Ai r];exact r
  have vy:=xV hu;have I1:Inv X pins σ H {s with heap:=h1,toks:=tk}:=I.kept k1;have py:((out.map (·.2)).toList.map unV).Perm (ns.map V.int):=by
   rw[<-hns,<-xU rv];exact pv.map _
  have pw2:((out.map (·.2)).toList.map unV).Pairwise (λa b=>HT.lexLt (uT b) (uT a)=false):=by
   rw[e2,QD];refine Zy.mpr (pw.imp_of_mem λ{a b} ha hb h=>?_);show HT.lexLt (uT (unV b.2)) (uT (unV a.2))=false;rw[<-(eqs a ha).1,<-(eqs b hb).1];exact h
  have lz:((out.map (·.2)).toList.map unV).length<=sizeLine:=by
   rw[py.length_eq,<-hns,hlk];exact z
  obtain⟨ms,em,pm'⟩:=zj py;rw[em]at vy pw2 lz;refine⟨.ref h1.objs.size,upd H h1.objs.size (.lst (ms.map V.int)),I1.laid (t':=tk) k2 (Q5 _) ⟨lz,_,e,vy,?_⟩,rfl,q _ _ (I1.hok.fresh (Q5 _)) pm' ?_⟩
  .rw[at_,Xu]
  .refine(Zy.mp pw2).imp λ{a b} h=>?_;have h:HT.lexLt [b] [a]=false:=h;rw[HT.lexLt_cons]at h;by_cases z:b=a
   .lia
   .rw[if_neg z]at h;have:=of_decide_eq_false h;lia
theorem u8 (hh:X.A.handled=none):iM X (.builtin "sorted") (λxs H Q=>∃(a:Addr) (kvs:List (Key×V)) (ns:List Int),xs=[.ref a]/\Rd H a (.dK kvs)/\mX kvs=ns.map V.int/\
  ∀(l:Addr) (ms:List Int),H l=none->ms.Perm ns->ms.Pairwise (· <= ·)->Q (.ref l) (upd H l (.lst (ms.map V.int)))):=by
 intro pins s σ H xs us Q I r h;obtain⟨a,kvs,ns,rfl,hd,hns,q⟩:=h;obtain⟨u,rfl,ru⟩:=oR r;cases ru;obtain⟨z,lo,vs,rel,dd⟩:=pd I.hok hd;obtain⟨ep,hat⟩:=dd.dictAt;exact oS hh I rel z (PySem.W.kdl_dict (knd:=aU X.prog X.w) (kvs:=vs) (ep:=ep) lo) hat hns q
def FB:V->List V->Hp->VK->Prop:=λx vs H Q=>∃a kvs k v,x= .ref a/\vs=[kV k]/\H a=some (.dK kvs)/\aK kvs k=some v/\Q v (upd H a (.dK (bi kvs k)))
theorem uK:MtR X "dict.pop" FB:=by
 intro pins s σ H x vs v us Q I rx rv h;obtain⟨a,kvs,k,y,rfl,rfl,hH,hl,q⟩:=h;cases rx;obtain⟨u,rfl,ru⟩:=rv.one;exact FX I hH ru hl (.inl rfl) λw' s' I' r'=>⟨y,_,I',r',q⟩
end
end
section
theorem mi {env:Env}:∀(l:List (Str×NameKind)) (cs:List (Str×Addr)),(∀p∈l,p.2= .free->∃c,env.cells.lookup p.1=some c)->
  ∃cl,(forIn l cs (λp cs=>if(p.2==NameKind.free)=true then cellOf env p.1>>=λa=>pure (ForInStep.yield ((p.1,a)::cs))else pure (ForInStep.yield cs)):Sem _)=pure cl/\
   (∀y c,cl.lookup y=some c->cs.lookup y=some c\/env.cells.lookup y=some c)/\(∀y c,cs.lookup y=some c->∃c',cl.lookup y=some c')/\(∀y,(y,NameKind.free)∈l->∃c,cl.lookup y=some c)
 | [],cs,_=>⟨cs,by rw[List.forIn_nil],λy c h=> .inl h,λy c h=>⟨c,h⟩,λy h=>nomatch h⟩
 |(n,k)::r,cs,h=>by
  rw[List.forIn_cons];by_cases hk:k= .free
  .subst hk;obtain⟨c,hc⟩:=h (n,.free) Qd rfl;have hc:env.cells.lookup n=some c:=hc;have e:cellOf env n=pure c:=by unfold cellOf;rw[hc]
   obtain⟨cl,h1,h2,h3,h4⟩:=mi r ((n,c)::cs) λp hp=>h p (Qa _ hp);refine⟨cl,?_,λy c' hy=>?_,λy c' hy=>?_,λy hy=>?_⟩
   .simp only[beq_self_eq_true,if_true,e,pure_bind];exact h1
   .rcases h2 y c' hy with q|q
    .rw[ZL]at q;split at q
     .rename_i z
      cases q;rw[beq_iff_eq]at z;subst z;exact .inr hc
     .exact .inl q
    .exact .inr q
   .by_cases z:y=n
    .exact h3 y c (by rw[ZL,z];simp)
    .exact h3 y c' (by rw[ZL,beq_eq_false_iff_ne.mpr z];exact hy)
   .rcases Qj.mp hy with q|q
    .have e1:y=n:=(Prod.mk.inj q).1;exact h3 y c (by rw[ZL,e1];simp)
    .exact h4 y q
  .have hb:(k==NameKind.free)=false:=by simpa using hk
   obtain⟨cl,h1,h2,h3,h4⟩:=mi r cs λp hp=>h p (Qa _ hp);refine⟨cl,?_,h2,h3,λy hy=>?_⟩
   .simp only[hb,QS,if_false,pure_bind];exact h1
   .rcases Qj.mp hy with q|q
    .exact absurd (Prod.mk.inj q).2.symm hk
    .exact h4 y q
theorem rK {env:Env} (h:∀p∈scope.names,p.2= .free->∃c,env.cells.lookup p.1=some c):
  ∃cl,closureFor scope env=pure cl/\(∀y c,cl.lookup y=some c->env.cells.lookup y=some c)/\(∀y,(y,NameKind.free)∈scope.names->∃c,cl.lookup y=some c):=by
 obtain⟨cl,h1,h2,_,h4⟩:=mi scope.names [] h;refine⟨cl,?_,λy c hy=>(h2 y c hy).resolve_left λz=>by simp at z,h4⟩;unfold closureFor;simp only[bind_pure];exact h1
def cCx (X:Cx) (M N':List Str) (scope:Scope) (cl:List (Str×Addr)) (C:Addr) (s₂:Shared) (H₂:Hp) (fp:List Addr):Cx:=
 {X with N:=M++N',s₀:=s₂,H₀:=H₂,env:=compEnvC scope cl C X.env,outer:=X.stack,stack:=X.stack,ex:=fp,fn:=λ_=>false,pn:=[],xe:=λ_ _=>False}
structure CScope (X:Cx) (M N':List Str) (scope:Scope):Prop where
 kind:scope.kind= .function
 nd:(M++N').Nodup
 ln:N'.length=X.N.length
 own:∀x∈M,scope.names.lookup x=some .local
 nocell:∀y∈scope.names,y.2≠ .cell
 names:∀y∈scope.names,y.2= .local->scope.names.lookup y.1=some .local
 free:∀y∈scope.names,y.2= .free->X.env.kindOf y.1=some .cell
 vis:∀(j:Nat) (y:Str),N'[j]?=some y->Vis (relabel scope X.env) y->X.N[j]?=some y/\(y,NameKind.free)∈scope.names/\(relabel scope X.env).names.lookup y=some .cell
 cells:∀y,((relabel scope X.env).names.lookup y=some .cell\/(relabel scope X.env).names.lookup y=some .free)->(y,NameKind.free)∈scope.names
def wA (n:Nat) (g:TG) (tc:TT) (te:TE) (σ:St) (Q:VK) (J:It) (H1:Hp):Prop:=∀D,H1 D=none->∃W:Nat->Nat->St->List V->Hp->Prop,(∃m,W 0 m (List.replicate n none++σ) [] (upd H1 D (.lst [])))/\∀i m τ ys H2,W i m τ ys H2->H2 D=some (.lst ys)->
 (J.stop i H2/\Q (.ref D) H2)\/(J.go i H2/\∀x H3,J.yld i H2 x H3->∃G:St->Hp->Prop,(∀τ2 H4,G τ2 H4->∃(Ny:VK) (Ns:Hp->Prop),(∀y H6,Ny y H6->H6 D=some (.lst ys)/\ys.length<sizeLine/\∃m',m'<m/\W (i+1) m' τ2 (ys++ [y]) (upd H6 D (.lst (ys++ [y]))))/\
  (∀H5,Ns H5->H5 D=some (.lst ys)/\∃m',m'<m/\W (i+1) m' τ2 ys H5)/\tc τ2 H4 λb H5=>if b=true then te τ2 H5 Ny else Ns H5)/\g x τ H3 G)
def DE:TT:=λ_ H Q=>Q true H
def PTs (X:Cx) (ifs:List Expr) (tc:TT):Prop:=∀(pins:List (Addr×Obj)) (s:Shared) (σ:St) (H:Hp) (Q:Bool->Hp->Prop),Inv X pins σ H s->tc σ H Q->
 wpAny (model X.prog X.w) X.A (forIn ifs true λc r=>if r=true then do let ok<-isTrue c X.env (eval c X.env);pure (ForInStep.yield ok)else pure (ForInStep.yield r)) (λb s'=>∃H',Inv X pins σ H' s'/\Q b H') X.xe s
section
theorem CK:PTs X [] DE:=λ_ _ _ H _ I h=>wpAny_tests_nil ⟨H,I,h⟩
theorem xZ {c:Expr} (h:PT X c tc):PTs X [c] tc:=λpins s σ H Q I q=>wpAny_tests_one (h pins s σ H Q I q)
theorem CScope.pg {s₂:Shared} {H₂:Hp} {fp:List Addr} (S:CScope X M N' scope) (h:M[i]?=some x):PG (cCx X M N' scope cl C s₂ H₂ fp) (.Name x px) (jk i):=
 eV S.nd (by show(M++N')[i]?=_;rw[Z7 (Q3.mp h).1];exact h) (.inl (lookup_relabel_local (S.own x (Q2 h)))) (.inr (lookup_relabel_local (S.own x (Q2 h))))
structure D9 (X:Cx) (pins:List (Addr×Obj)) (H:Hp) (C:Addr):Prop where
 no:H C=none
 fr:C≠X.env.locals
 ab:X.s₀.heap.objs.size<=C
 ce:∀x c,X.env.cells.lookup x=some c->c≠C
 pi:∀p∈X.pn++pins,p.1≠C
theorem tY (hc:X.calm=true) (S:CScope X M N' scope) (hi:PI X tg iter wi)
  (hg:∀cl C s₂ H₂ fp,PG (cCx X M N' scope cl C s₂ H₂ fp) tg g) (hcn:∀cl C s₂ H₂ fp,PTs (cCx X M N' scope cl C s₂ H₂ fp) ifs tc) (he:∀cl C s₂ H₂ fp,PE (cCx X M N' scope cl C s₂ H₂ fp) elt te)
  (cl1:∀y c,cl.lookup y=some c->X.env.cells.lookup y=some c) (cl2:∀y,(y,NameKind.free)∈scope.names->∃c,cl.lookup y=some c) (I:Inv X pins σ H s) (h:wi σ H R) (hB:∀J H,R J H->wA M.length g tc te σ Q J H)
  (hR:∀D C s4 H',Inv X pins σ H' s4->(∃m,s4.heap.Ns C m)->D9 X pins H' C->Q (.ref D) H'->RR (.ref D) C (.ok .next) s4):
  wpAny (model X.prog X.w) X.A (eval iter X.env) (λv s1=>wpAny (model X.prog X.w) X.A (pyIter v) (λitv s2=>wpAny (model X.prog X.w) X.A (newList []) (λacc s3=>
   wpAny (model X.prog X.w) X.A (newFunctionEnv scope X.env.globals cl [] X.env.qual none .none (some X.env)) (λcenv s4=>
    codeAny (model X.prog X.w) X.A (.compStart (.ListComp elt [⟨tg,iter,ifs,0⟩] scope pos) 0 itv acc {cenv with scope:=relabel scope X.env}) (RR acc cenv.locals) s4) X.xe s3) X.xe s2) X.xe s1) X.xe s:=by
 refine thn (hi pins s σ H _ I h) λv s1 h1=>thn h1 λitv s2 h2=>?_;obtain⟨it,fp,tn,J,H2,e,I2,T,st2,f2,h⟩:=h2;subst e;refine wpAny_newObj_type (wpAny_newFunctionEnv S.nocell (by intro y hy;simp at hy) (λh₁ hns₁ hsb₁=>?_) S.kind);dsimp only at hns₁ hsb₁⊢;generalize hD:s2.heap.objs.size=D at*;generalize hH3:s2.heap.push {cls:= .type "list",dict:=none,data:= .seq ([]:List Value).toArray}=h3 at hns₁ hsb₁⊢;have hCs:h3.objs.size=D+1:=by rw[<-hH3,Heap.size_push,hD]
 have fD:H2 D=none:=I2.hok.fresh (Zc hD);obtain⟨W,⟨m0,w0⟩,turn⟩:=hB _ _ h D fD;generalize hC:h3.objs.size=C at*;have gD:s2.heap.get? D=none:=Heap.get?_none_of_le (Zc hD);have gC:s2.heap.get? C=none:=Heap.get?_none_of_le (by rw[hD,hCs];exact ZE _);have DC:D≠C:=by rw[hCs];exact Qv (ZJ _)
 have up3:∀b o,s2.heap.get? b=some o->h3.get? b=some o:=λb o e=>by rw[<-hH3];exact Heap.get?_push_of_some _ e
 have hold:∀b o,h3.get? b=some o->h₁.get? b=some o:=λb o e=>hsb₁.extBut b o (by intro z;have:=Heap.lt_size e;rw[z,hC]at this;exact absurd this (ZA _)) (Heap.get?_push_of_some _ e);have up:∀b o,s2.heap.get? b=some o->h₁.get? b=some o:=λb o e=>hold b o (up3 b o e);have oD:h₁.get? D=some {cls:= .type "list",dict:=none,data:= .seq ([]:List Value).toArray}:=hold _ _ (by rw[<-hH3,<-hD];exact Heap.get?_push_size _ rfl);have fpo:∀b∈fp,b≠C/\b∉frs X.stack:=λb hb=>by
  obtain⟨o,e,_⟩:=T.obj _ _ st2 b hb;refine⟨λz=>(by rw[z,gC]at e;cases e),λz=>?_⟩;rcases Qj.mp (I2.stkSub b z)with q|q
  .exact(f2 b hb).2.1 q
  .exact(f2 b hb).2.2.1 q
 have fC:H2 C=none:=I2.hok.fresh (by rw[hD,hCs];exact ZE _);have ok:(cCx X M N' scope cl C s2 H2 fp).Ok:=
  {mod:=I2.ok.mod,kind:=S.kind,glob:=I2.ok.glob,blt:=I2.ok.blt,above:=by show s2.heap.objs.size<=C;rw[hD,hCs];exact ZE _
   inj:=λy z c h1 h2=>I2.ok.inj y z c (cl1 _ _ h1) (cl1 _ _ h2),has:=λy hy=>cl2 y (S.cells y hy),cab:=λy c z=>by cases z
   hd:=I2.ok.hd,frames:=I2.ok.frames,stk:= .inl rfl,exf:=λb hb=>⟨(fpo b hb).1,λy c e=>(f2 b hb).2.2.2.2.1 y c (cl1 y c e)⟩
   bs:=I2.bs,bsz:=QL I2.ok.bsz I2.sz
   noex:=λb o e hb=>by
    rcases(f2 b hb).2.2.2.1 with q|q
    .exact I2.ok.noex b o e q
    .exact absurd (Qs (Heap.lt_size e) (QL I2.ok.bsz q)) (ZA _)
   exfs:=λb hb=>(fpo b hb).2,funs:=I2.stack,frf:=I2.stkFree}
 have ne2:∀b u,H2 b=some u->b≠D:=λb u e=>ak e fD;have I3:Inv (cCx X M N' scope cl C s2 H2 fp) [] (List.replicate M.length none++σ) (upd H2 D (.lst [])) {s2 with heap:=h₁,toks:=s2.toks+([]:List (Str×Value)).length}:=
  {ok:=ok,os:=rfl,bare:=I2.bare,base:=Un.laid up (Zc hD) fD
   loc:=⟨_,hns₁,λi y v e1 e2 e3=>by
    by_cases lt:i<M.length
    .have e2:(List.replicate M.length none++σ)[i]?=some (some v):=e2;rw[Z7 (by rw[Zs];exact lt),List.getElem?_replicate,if_pos lt]at e2;cases e2
    .have e1:(M++N')[i]?=some y:=e1;have e2:(List.replicate M.length none++σ)[i]?=some (some v):=e2;rw[Zp (XF.mp lt)]at e1;rw[Zp (by rw[Zs];exact XF.mp lt),Zs]at e2;generalize i-M.length=j at e1 e2;obtain⟨e1,q1,q2⟩:=S.vis j y e1 e3;have kc:=S.free _ q1 rfl;obtain⟨m,hn,hl⟩:=I2.loc;obtain⟨u,r,l⟩:=hl j y v e1 e2 (.inr (.inl kc));refine⟨u,r,?_⟩;rcases l with⟨k,_⟩|⟨_,c,e,z⟩
     .rw[kc]at k;cases k
     .obtain⟨c',e'⟩:=cl2 y q1;have ee:=cl1 _ _ e';rw[e]at ee;cases ee;obtain⟨o,ho,hd⟩:=z;exact .inr ⟨.inl q2,c,e',o,up _ _ ho,hd⟩⟩
   cell:=λy c e=>by
    obtain⟨v,o,ho,hd⟩:=I2.cell y c (cl1 _ _ e);exact⟨v,o,up _ _ ho,hd⟩
   free:=by show upd H2 D (.lst []) C=none;rw[ac DC.symm];exact fC
   freeC:=λy c e=>by
    have q:=I2.freeC y c (cl1 _ _ e);obtain⟨v,o,ho,hd⟩:=I2.cell y c (cl1 _ _ e);rw[ac (λz=>by rw[z,gD]at ho;cases ho)];exact q
   pin:=λp hp=>absurd (show p∈([]:List (Addr×Obj)) from hp) (by simp)
   hok:=I2.hok.laid up (Zc hD) ⟨Qi _,[],0,.nil,oD⟩
   len:=by show(List.replicate M.length none++σ).length=(M++N').length;rw[Q9,Q9,Zs,I2.len,S.ln]}
 have stat:∀{H':Hp},(∀b∈fp,H' b=none)->∀b∈fp,kg (cCx X M N' scope cl C s2 H2 fp) [] H' b:=λhn b hb=>
  ⟨hn b hb,(fpo b hb).1,(fpo b hb).2,.inl hb,λy c e=>(f2 b hb).2.2.2.2.1 y c (cl1 _ _ e),λp hp=>absurd (show p∈([]:List (Addr×Obj)) from hp) (by simp)⟩
 have st3:tn 0 h₁:=T.keep _ _ _ st2 λb hb o e=>up b o e;have loop:∀s3:Shared,s3={s2 with heap:=h₁,toks:=s2.toks+([]:List (Str×Value)).length}->
   codeAny (model X.prog X.w) X.A (.compLoop (.ListComp elt [⟨tg,iter,ifs,0⟩] scope pos) 0 (.ref it) (.ref D) (compEnvC scope cl C X.env)) (RR (.ref D) C) s3:=by
  rintro s3 rfl;refine codeAny_loop rfl (λn s'=>∃i τ ys H',Inv (cCx X M N' scope cl C s2 H2 fp) [] τ H' s'/\tn i s'.heap/\(∀b∈fp,H' b=none)/\H' D=some (.lst ys)/\W i n τ ys H') ?_ m0
   ⟨0,_,[],_,I3,st3,λb hb=>by rw[ac (λz=>by obtain⟨o,e,_⟩:=T.obj _ _ st2 b hb;rw[z,gD]at e;cases e)];exact(f2 b hb).1,af,w0⟩
  rintro n s' ⟨i,τ,ys,H',I',st',fr',hD',w'⟩;show wpAny _ X.A ((compTurn (.ListComp elt [⟨tg,iter,ifs,0⟩] scope pos) 0 (.ref it) (.ref D) (compEnvC scope cl C X.env)).onRaise (λx=>do noteFrame x (compEnvC scope cl C X.env);theTreesLotGoes x)) _ _ s';refine wpAny_noted ?_;rw[compTurn_list];refine wpAny_bind (wpAny_standAt (wpAny_bind ?_));rcases turn i n τ ys H' w' hD' with⟨stop,qn⟩|⟨go,step⟩
  .refine thn (T.done (cCx X M N' scope cl C s2 H2 fp) rfl rfl rfl hc i [] s' _ H' _ I' (stat fr') st' stop) λr s4 ⟨hr,I4⟩=>?_;subst hr;refine wpAny_pure ?_;obtain⟨m,hn,_⟩:=I4.loc;have IX:Inv X pins σ H' s4:=I2.call' (s':=s4) I4.os (show Un (frs X.stack) fp H2 H' s2.heap s4.heap from I4.base) I4.hok I4.bare λb hb=>⟨(f2 b hb).2.2.2.1,(f2 b hb).2.1,(f2 b hb).2.2.2.2.1,(f2 b hb).2.2.2.2.2⟩;refine hR D C s4 H' IX ⟨m,hn⟩ ⟨I4.free,λz=>?_,?_,λy c e z=>?_,λp hp z=>?_⟩ qn
   .have:=I2.lt;rw[<-z,hCs,hD]at this;exact absurd this (XF.mpr (ZE _))
   .refine QL I2.sz ?_;rw[hD,hCs];exact ZE _
   .obtain⟨v,o,ho,_⟩:=I2.cell y c e;rw[z,gC]at ho;cases ho
   .have ho:=(I2.pin p hp).1;rw[z,gC]at ho;cases ho
  .refine thn (T.item (cCx X M N' scope cl C s2 H2 fp) rfl rfl rfl hc i [] s' _ H' _ I' (stat fr') st' go) λr s4 ⟨u,hr,h4⟩=>?_;subst hr;refine wpAny_bind (thn h4 λ_ s5 hzz=>?_);obtain⟨y,H5,I5,r5,y5,st5,fr5⟩:=hzz;have I5':=I5.pinned (stat fr5) (T.obj _ _ st5);obtain⟨G,hG,gq⟩:=step y H5 y5;refine wpAny_bind (wpAny_mono (hg cl C s2 H2 fp _ s5 _ H5 y _ _ I5' r5 gq) (λ_ s6 hzz=>?_) λ_ _ f=>f.elim);obtain⟨τ6,H6,I6,q6⟩:=hzz;have fin:∀{τ7:St} {H7:Hp} {s7:Shared},Inv (cCx X M N' scope cl C s2 H2 fp) ([]++qN fp s5.heap) τ7 H7 s7->tn (i+1) s7.heap/\∀b∈fp,H7 b=none:=λ{τ7 H7 s7} I7=>by
    refine⟨T.keep _ _ _ st5 λb hb o e=>(I7.pin (b,o) (Qo _ (Qo _ (i5 hb e)))).1,λb hb=>?_⟩;obtain⟨o,e,d⟩:=T.obj _ _ st5 b hb;exact(I7.pin (b,o) (Qo _ (Qo _ (i5 hb e)))).2.1
   obtain⟨Ny,Ns,hy,hn,q6⟩:=hG _ _ q6;refine wpAny_bind (wpAny_mono (hcn cl C s2 H2 fp _ s6 _ H6 _ I6 q6) (λb s7 ⟨H7,I7,q7⟩=>?_) λ_ _ f=>f.elim);cases b with
   |false=>
    rw[if_neg Q7]at q7;obtain⟨hD7,m',hm',w7⟩:=hn _ q7;exact wpAny_pure (show _/\_ from⟨rfl,m',hm',i+1,τ6,ys,_,I7.unpinned,(fin I7).1,(fin I7).2,hD7,w7⟩)
   |true=>
    rw[if_pos rfl]at q7;refine wpAny_bind (wpAny_bind (wpAny_mono (he cl C s2 H2 fp _ s7 _ H7 _ I7 q7) (λz s8 hzz=>?_) λ_ _ f=>f.elim));obtain⟨y',H8,I8,r8,q8⟩:=hzz;obtain⟨hD8,hl8,m',hm',w8⟩:=hy _ _ q8;refine wpAny_bind (wpAny_mono (eL (X:=cCx X M N' scope cl C s2 H2 fp) _ s8 _ H8 (.ref D) [y'] (.ref D) [z] (λ_ H9=>H9=upd H8 D (.lst (ys++ [y']))) I8 rfl (.cons r8 .nil) ⟨D,ys,y',rfl,rfl,hD8,hl8,rfl⟩) (λz9 s9 hzz=>?_) λ_ _ f=>f.elim);obtain⟨_,H9,I9,_,e9⟩:=hzz;subst e9;exact wpAny_pure (wpAny_pure ⟨rfl,m',hm',i+1,τ6,ys++ [y'],_,I9.unpinned,(fin I9).1,(fin I9).2,af,w8⟩)
 exact codeAny_compStart_list (loop _ rfl) (T.self _ 0 _ _ _ st3 (loop _ rfl))
theorem Inv.loose (I:Inv X pins σ H s) (l:D9 X pins H C) (sb:Heap.SameBut C s.heap h'):Inv X pins σ H {s with heap:=h'}:=
 I.turned (t':=s.toks) (λb o hb e=>(sb.2 b hb).trans e) l.no l.fr (.inr l.ab) l.ce l.pi
section
variable {py spos:Pos}
theorem vQ (hB:∀σ Q J H,B σ Q J H->wA M.length g tc te σ Q J H) (hc:X.calm=true) (S:CScope X M N' scope) (hi:PI X tg iter wi) (hg:CScope X M N' scope->∀cl C s₂ H₂ fp,PG (cCx X M N' scope cl C s₂ H₂ fp) tg g) (hcn:∀cl C s₂ H₂ fp,PTs (cCx X M N' scope cl C s₂ H₂ fp) ifs tc) (he:∀cl C s₂ H₂ fp,PE (cCx X M N' scope cl C s₂ H₂ fp) elt te)
  (hs:∀x,foldedSetIterable iter X.env x=pure x:=by intro _;rfl):PE X (.ListComp elt [⟨tg,iter,ifs,0⟩] scope pos) (λσ H Q=>wi σ H (B σ Q)):=by
 intro pins s σ H Q I h;obtain⟨cl,hclos,cl1,cl2⟩:=rK (env:=X.env) (scope:=scope) λp hp hf=>I.ok.has p.1 (.inl (S.free p hp hf));rw[eval_ListComp];refine wpAny_comprehension_free (use:=none) rfl hs hclos S.kind S.names (tY hc S hi (hg S) hcn he cl1 cl2 I h (hB _ _) λD C s4 H' I4 hn l q=>?_);obtain⟨m,hn⟩:=hn;exact⟨m,hn,λh' sb=>⟨.ref D,H',I4.loose l sb,rfl,q⟩⟩
theorem AA (hB:∀σ Q J H,B σ Q J H->wA M.length g tc te σ Q J H) (hc:X.calm=true) (S:CScope X M N' scope) (hi:PI X tg iter wi) (hg:CScope X M N' scope->∀cl C s₂ H₂ fp,PG (cCx X M N' scope cl C s₂ H₂ fp) tg g) (hcn:∀cl C s₂ H₂ fp,PTs (cCx X M N' scope cl C s₂ H₂ fp) ifs tc) (he:∀cl C s₂ H₂ fp,PE (cCx X M N' scope cl C s₂ H₂ fp) elt te)
  (hN:X.N.Nodup) (hy:X.N[i]?=some y) (hk:X.env.scope.names.lookup y=some .local) (hsw:swapsWith (.ListComp elt [⟨tg,iter,ifs,0⟩] scope pos) (some (.Name y py)) spos.line X.env=pure true:=by rfl)
  (hs:∀x,foldedSetIterable iter X.env x=pure x:=by intro _;rfl):PS X (.Assign [.Name y py] (.ListComp elt [⟨tg,iter,ifs,0⟩] scope pos) spos) (Ct (λσ H Q=>wi σ H (B σ Q)) (jk i)):=by
 intro pins s σ H D I h;obtain⟨cl,hclos,cl1,cl2⟩:=rK (env:=X.env) (scope:=scope) λp hp hf=>I.ok.has p.1 (.inl (S.free p hp hf));rw[exec_Assign_Name_used _ _ _ _ hsw];refine wpAny_bind (wpAny_standAt (wpAny_bind ?_));show wpAny _ X.A (do let _<-comprehension (.ListComp elt [⟨tg,iter,ifs,0⟩] scope pos) scope X.env _ (newList []) false (eval iter X.env) (some (assign (.Name y py) X.env))) _ _ s;refine wpAny_bind (thn (wpAny_comprehension_free (use:=some (assign (.Name y py) X.env)) (Q:=λ_ s'=>SP X pins D .next s') rfl hs hclos S.kind S.names
  (tY (Q:=λv H'=>D.nx (σ.set i (some v)) H') hc S hi (hg S) hcn he cl1 cl2 I h (hB _ _) λD' C s4 H' I4 hn l q=>?_)) λ_ s' hq=>wpAny_pure (wpAny_pure hq))
 obtain⟨m,hn⟩:=hn;show wpAny _ X.A (assign (.Name y py) X.env (.ref D')) _ _ _;refine wpAny_assign_Name (sX (v:= .ref D') I4 hN hy (.inl hk) rfl (λs5 I5 hzz=>?_) (.inr hk));obtain⟨a,sb,ha⟩:=hzz;have ne:C≠a:=by
  rcases ha with z|z
  .rw[z];exact l.fr
  .exact Ne.symm (l.ce _ _ z)
 exact⟨m,hn.sameBut sb ne,λh' sb'=>⟨_,H',I5.loose l sb',q⟩⟩
end
def xG (te:TE) (σ:St) (Q:VK) (J:It) (H1:Hp):Prop:=∀D,H1 D=none->∃W:Nat->Nat->List V->Hp->Prop,(∃m,W 0 m [] (upd H1 D (.lst [])))/\∀i m ys H2,W i m ys H2->H2 D=some (.lst ys)->
 (J.stop i H2/\Q (.ref D) H2)\/(J.go i H2/\∀x H3,J.yld i H2 x H3->te (some x::σ) H3 λy H4=>H4 D=some (.lst ys)/\ys.length<sizeLine/\∃m',m'<m/\W (i+1) m' (ys++ [y]) (upd H4 D (.lst (ys++ [y]))))
def Fq (wi:TI) (te:TE):TE:=λσ H Q=>wi σ H (xG te σ Q)
theorem FZ (h:xG te σ Q J H1):wA 1 (jk 0) DE te σ Q J H1:=λD hD=>by
 obtain⟨W,⟨m0,w0⟩,turn⟩:=h D hD;refine⟨λi m τ ys H=>(∃v,τ=v::σ)/\W i m ys H,⟨m0,⟨none,rfl⟩,w0⟩,λi m τ ys H2 w e=>?_⟩;obtain⟨⟨v,rfl⟩,w⟩:=w;rcases turn i m ys H2 w e with z|⟨go,z⟩
 .exact .inl z
 .refine .inr ⟨go,λx H3 y=>⟨λτ2 H4=>τ2=some x::σ/\H4=H3,λτ2 H4 e=>?_,rfl,rfl⟩⟩;obtain⟨rfl,rfl⟩:=e;refine⟨λy H6=>H6 D=some (.lst ys)/\ys.length<sizeLine/\∃m',m'<m/\W (i+1) m' (ys++ [y]) (upd H6 D (.lst (ys++ [y]))),λ_=>False,λy H6 n=>?_,λ_ n=>n.elim,?_⟩
  .obtain⟨n1,n2,m',n3,n4⟩:=n;exact⟨n1,n2,m',n3,⟨_,rfl⟩,n4⟩
  .exact bN (B:=False) (z x _ y)
theorem yd (hc:X.calm=true) (S:CScope X [x] N' scope) (hi:PI X (.Name x px) iter wi) (he:∀cl C s₂ H₂ fp,PE (cCx X [x] N' scope cl C s₂ H₂ fp) elt te)
  (hs:∀x,foldedSetIterable iter X.env x=pure x:=by intro _;rfl):PE X (.ListComp elt [⟨.Name x px,iter,[],0⟩] scope pos) (Fq wi te):=
 vQ (B:=xG te) (λ_ _ _ _=>FZ) hc S hi (λS _ _ _ _ _=>S.pg rfl) (λ_ _ _ _ _=>CK) he hs
end
def vN (scope dsc:Scope):List (Str×NameKind):=scope.names.map λp=>if(p.2==NameKind.free&&dsc.kind==ScopeKind.function&&dsc.names.lookup p.1==some NameKind.cell)=true then(p.1,NameKind.cell)else(p.1,p.2)
def DY (M N N':List Str) (dsc:Scope) (scope:Scope):Bool:=
 (scope.kind==ScopeKind.function)&&decide (M++N').Nodup&&(M.all λx=>scope.names.lookup x==some NameKind.local)&&(scope.names.all λy=>y.2 !=NameKind.cell)&&(scope.names.all λy=>y.2 !=NameKind.local||scope.names.lookup y.1==some NameKind.local)
 &&(scope.names.all λy=>y.2 !=NameKind.free||dsc.names.lookup y.1==some NameKind.cell)&&(N'.all λy=>(vN scope dsc).lookup y !=some NameKind.local&&(vN scope dsc).lookup y !=some NameKind.free)&&decide (N'.length=N.length)&&(N'.zip N).all λp=>p.1==p.2||(vN scope dsc).lookup p.1==none
theorem mH {dsc:Scope}:∀{l:List (Str×NameKind)} {y:Str} {k:NameKind},(∀p∈l,p.2≠NameKind.cell)->(l.map λp=>if(p.2==NameKind.free&&dsc.kind==ScopeKind.function&&dsc.names.lookup p.1==some NameKind.cell)=true then(p.1,NameKind.cell)else(p.1,p.2)).lookup y=some k->(k= .cell\/k= .free)->(y,NameKind.free)∈l
 | [],y,k,_,h,_=>by simp at h
 |(n,kk)::r,y,k,hn,h,hk=>by
  rw[Qu]at h;by_cases c:(kk==NameKind.free&&dsc.kind==ScopeKind.function&&dsc.names.lookup n==some NameKind.cell)=true
  .dsimp only at h;rw[if_pos c,ZL]at h;split at h
   .rename_i z
    rw[beq_iff_eq]at z;subst z;have:kk= .free:=by
     rw[ZW,ZW]at c;simpa using c.1.1
    rw[this];exact Qd
   .exact Qa _ (mH (λp hp=>hn p (Qa _ hp)) h hk)
  .dsimp only at h;rw[if_neg c,ZL]at h;split at h
   .rename_i z
    rw[beq_iff_eq]at z;subst z;cases h;rcases hk with e|e
    .exact absurd e (hn _ Qd)
    .rw[e];exact Qd
   .exact Qa _ (mH (λp hp=>hn p (Qa _ hp)) h hk)
theorem CScope.of {dsc:Scope} {N:List Str} (eN:X.N=N) (ed:X.env.scope=dsc) (h:DY M N N' dsc scope=true):CScope X M N' scope:=by
 unfold DY at h;simp only[ZW]at h;obtain⟨⟨⟨⟨⟨⟨⟨⟨h1,h2⟩,h3⟩,h4⟩,h5⟩,h6⟩,h7⟩,h8⟩,h9⟩:=h;have hrel:(relabel scope X.env).names=vN scope dsc:=by rw[<-ed];rfl
 have nocell:∀y∈scope.names,y.2≠NameKind.cell:=λy hy=>by have:=QY.mp h4 y hy;simpa using this
 refine⟨by simpa using h1,of_decide_eq_true h2,by rw[eN];exact of_decide_eq_true h8,λx hx=>by simpa using QY.mp h3 x hx,nocell,λy hy e=>?_,λy hy e=>?_,λj y hj v=>?_,λy e=>?_⟩
 .have:=QY.mp h5 y hy;rw[e]at this;simpa using this
 .have:=QY.mp h6 y hy;rw[e]at this;show X.env.scope.names.lookup y.1=_;rw[ed];simpa using this
 .have nl:=QY.mp h7 y (Q2 hj);have hz:∃z,N[j]?=some z/\(y,z)∈N'.zip N:=by
   have lj:=(Q3.mp hj).1;have l8:N'.length=N.length:=of_decide_eq_true h8;refine⟨N[j]'(by lia),Q4 _,?_⟩;refine Q2 (i:=j) ?_;rw[List.getElem?_zip_eq_some];exact⟨hj,Q4 _⟩
  obtain⟨z,hz,mz⟩:=hz;have e9:=QY.mp h9 _ mz;unfold Vis at v;rw[hrel]at v⊢;have nl:¬(vN scope dsc).lookup y=some NameKind.local/\¬(vN scope dsc).lookup y=some NameKind.free:=by simpa using nl
  rcases v with v|v|v
  .exact absurd v nl.1
  .refine⟨?_,mH nocell v (.inl rfl),v⟩;rw[eN,hz];dsimp only at e9;rw[v,Bool.or_eq_true]at e9;rcases e9 with e9|e9
   .rw[beq_iff_eq]at e9;rw[e9]
   .cases e9
  .exact absurd v nl.2
 .have e:(vN scope dsc).lookup y=some .cell\/(vN scope dsc).lookup y=some .free:=by rw[<-hrel];exact e
  rcases e with e|e
  .exact mH nocell e (.inl rfl)
  .exact mH nocell e (.inr rfl)
def CNext (n i:Nat) (ys:List V) (D:Addr) (Pv:Nat->List V->Hp->Prop):VK:=λy H4=>H4 D=some (.lst ys)/\ys.length<sizeLine/\∃m',m'<n-i/\m'=n-(i+1)/\i+1<=n/\Pv (i+1) (ys++ [y]) (upd H4 D (.lst (ys++ [y])))
theorem CNext.mk {Pv:Nat->List V->Hp->Prop} {y:V} (hi:i<n) (h1:H4 D=some (.lst ys)) (h2:ys.length<sizeLine) (h3:Pv (i+1) (ys++ [y]) (upd H4 D (.lst (ys++ [y])))):CNext n i ys D Pv y H4:=
 ⟨h1,h2,n-(i+1),by lia,rfl,hi,h3⟩
theorem zS (Pv:Nat->List V->Hp->Prop) (h0:Pv 0 [] (upd H1 D (.lst []))) (hl:∀i ys H,i<=xs.length->Pv i ys H->SqL K H a xs)
  (hs:∀i x ys H2,xs[i]?=some x->Pv i ys H2->H2 D=some (.lst ys)->te (some x::σ) H2 (CNext xs.length i ys D Pv))
  (hd:∀ys H2,Pv xs.length ys H2->H2 D=some (.lst ys)->Fin H2):
  ∃W:Nat->Nat->List V->Hp->Prop,(∃m,W 0 m [] (upd H1 D (.lst [])))/\∀i m ys H2,W i m ys H2->H2 D=some (.lst ys)->
   ((Itl K a).stop i H2/\Fin H2)\/((Itl K a).go i H2/\∀x H3,(Itl K a).yld i H2 x H3->te (some x::σ) H3 λy H4=>H4 D=some (.lst ys)/\ys.length<sizeLine/\∃m',m'<m/\W (i+1) m' (ys++ [y]) (upd H4 D (.lst (ys++ [y])))):=by
 refine⟨λi m ys H=>m=xs.length-i/\i<=xs.length/\Pv i ys H,⟨xs.length,by simp,Qi _,h0⟩,?_⟩;rintro i m ys H ⟨rfl,hi,p⟩ hD;have q:=hl i ys H hi p;by_cases lt:i<xs.length
 .refine .inr ⟨⟨xs,xs[i],q,by simp[lt]⟩,λx H' y=>?_⟩;obtain⟨e,y⟩:=y;subst e;exact hs i x ys _ (y xs q) p hD
 .have e:i=xs.length:=by lia
  subst e;exact .inl ⟨⟨xs,q,Q5 _⟩,hd ys H p hD⟩
theorem xD {lo:Int} (Pv:Nat->List V->Hp->Prop) (h0:Pv 0 [] (upd H1 D (.lst [])))
  (hs:∀i ys H2,i<n->Pv i ys H2->H2 D=some (.lst ys)->te (some (.int (lo+i))::σ) H2 (CNext n i ys D Pv))
  (hd:∀ys H2,Pv n ys H2->H2 D=some (.lst ys)->Fin H2):
  ∃W:Nat->Nat->List V->Hp->Prop,(∃m,W 0 m [] (upd H1 D (.lst [])))/\∀i m ys H2,W i m ys H2->H2 D=some (.lst ys)->
   ((Itr lo n).stop i H2/\Fin H2)\/((Itr lo n).go i H2/\∀x H3,(Itr lo n).yld i H2 x H3->te (some x::σ) H3 λy H4=>H4 D=some (.lst ys)/\ys.length<sizeLine/\∃m',m'<m/\W (i+1) m' (ys++ [y]) (upd H4 D (.lst (ys++ [y])))):=by
 refine⟨λi m ys H=>m=n-i/\i<=n/\Pv i ys H,⟨n,by simp,Qi _,h0⟩,?_⟩;rintro i m ys H ⟨rfl,hi,p⟩ hD;by_cases lt:i<n
 .refine .inr ⟨lt,λx H' y=>?_⟩;obtain⟨e,y⟩:=y;subst e y;exact hs i ys _ lt p hD
 .have e:i=n:=by lia
  subst e;exact .inl ⟨Q5 _,hd ys H p hD⟩
end
section
def rL (tc:TT) (te:TE) (σ:St) (Q:VK) (J:It) (H1:Hp):Prop:=∀D,H1 D=none->∃W:Nat->Nat->List V->Hp->Prop,(∃m,W 0 m [] (upd H1 D (.lst [])))/\∀i m ys H2,W i m ys H2->H2 D=some (.lst ys)->
 (J.stop i H2/\Q (.ref D) H2)\/(J.go i H2/\∀x H3,J.yld i H2 x H3->tc (some x::σ) H3 λb H4=>if b=true then te (some x::σ) H4 λy H5=>H5 D=some (.lst ys)/\ys.length<sizeLine/\∃m',m'<m/\W (i+1) m' (ys++ [y]) (upd H5 D (.lst (ys++ [y])))else H4 D=some (.lst ys)/\∃m',m'<m/\W (i+1) m' ys H4)
def Ar (wi:TI) (tc:TT) (te:TE):TE:=λσ H Q=>wi σ H (rL tc te σ Q)
theorem DZ (h:rL tc te σ Q J H1):wA 1 (jk 0) tc te σ Q J H1:=λD hD=>by
 obtain⟨W,⟨m0,w0⟩,turn⟩:=h D hD;refine⟨λi m τ ys H=>(∃v,τ=v::σ)/\W i m ys H,⟨m0,⟨none,rfl⟩,w0⟩,λi m τ ys H2 w e=>?_⟩;obtain⟨⟨v,rfl⟩,w⟩:=w;rcases turn i m ys H2 w e with z|⟨go,z⟩
 .exact .inl z
 .refine .inr ⟨go,λx H3 y=>⟨λτ2 H4=>τ2=some x::σ/\H4=H3,λτ2 H4 e=>?_,rfl,rfl⟩⟩;obtain⟨rfl,rfl⟩:=e;refine⟨_,_,λy H6 n=>?_,λH5 n=>?_,z x _ y⟩
  .obtain⟨n1,n2,m',n3,n4⟩:=n;exact⟨n1,n2,m',n3,⟨_,rfl⟩,n4⟩
  .obtain⟨n1,m',n3,n4⟩:=n;exact⟨n1,m',n3,⟨_,rfl⟩,n4⟩
section
theorem qP {cnd:Expr} (hc:X.calm=true) (S:CScope X [x] N' scope) (hi:PI X (.Name x px) iter wi) (hcn:∀cl C s₂ H₂ fp,PT (cCx X [x] N' scope cl C s₂ H₂ fp) cnd tc) (he:∀cl C s₂ H₂ fp,PE (cCx X [x] N' scope cl C s₂ H₂ fp) elt te)
  (hs:∀x,foldedSetIterable iter X.env x=pure x:=by intro _;rfl):PE X (.ListComp elt [⟨.Name x px,iter,[cnd],0⟩] scope pos) (Ar wi tc te):=
 vQ (B:=rL tc te) (λ_ _ _ _=>DZ) hc S hi (λS _ _ _ _ _=>S.pg rfl) (λ_ _ _ _ _=>xZ (hcn _ _ _ _ _)) he hs
theorem mM {cnd:Expr} {py spos:Pos} (hc:X.calm=true) (S:CScope X [x] N' scope) (hi:PI X (.Name x px) iter wi) (hcn:∀cl C s₂ H₂ fp,PT (cCx X [x] N' scope cl C s₂ H₂ fp) cnd tc) (he:∀cl C s₂ H₂ fp,PE (cCx X [x] N' scope cl C s₂ H₂ fp) elt te)
  (hN:X.N.Nodup) (hy:X.N[i]?=some y) (hk:X.env.scope.names.lookup y=some .local) (hsw:swapsWith (.ListComp elt [⟨.Name x px,iter,[cnd],0⟩] scope pos) (some (.Name y py)) spos.line X.env=pure true:=by rfl)
  (hs:∀x,foldedSetIterable iter X.env x=pure x:=by intro _;rfl):PS X (.Assign [.Name y py] (.ListComp elt [⟨.Name x px,iter,[cnd],0⟩] scope pos) spos) (Ct (Ar wi tc te) (jk i)):=
 AA (B:=rL tc te) (λ_ _ _ _=>DZ) hc S hi (λS _ _ _ _ _=>S.pg rfl) (λ_ _ _ _ _=>xZ (hcn _ _ _ _ _)) he hN hy hk hsw hs
end
def CSkip (n i:Nat) (ys:List V) (D:Addr) (Pv:Nat->List V->Hp->Prop) (H4:Hp):Prop:=H4 D=some (.lst ys)/\∃m',m'<n-i/\m'=n-(i+1)/\i+1<=n/\Pv (i+1) ys H4
theorem CSkip.mk {Pv:Nat->List V->Hp->Prop} (hi:i<n) (h1:H4 D=some (.lst ys)) (h3:Pv (i+1) ys H4):CSkip n i ys D Pv H4:=⟨h1,n-(i+1),by lia,rfl,hi,h3⟩
theorem gw (Pv:Nat->List V->Hp->Prop) (h0:Pv 0 [] (upd H1 D (.lst []))) (hl:∀i ys H,i<=xs.length->Pv i ys H->SqL K H a xs)
  (hs:∀i x ys H2,xs[i]?=some x->Pv i ys H2->H2 D=some (.lst ys)->tc (some x::σ) H2 λb H4=>if b=true then te (some x::σ) H4 (CNext xs.length i ys D Pv)else CSkip xs.length i ys D Pv H4)
  (hd:∀ys H2,Pv xs.length ys H2->H2 D=some (.lst ys)->Fin H2):
  ∃W:Nat->Nat->List V->Hp->Prop,(∃m,W 0 m [] (upd H1 D (.lst [])))/\∀i m ys H2,W i m ys H2->H2 D=some (.lst ys)->
   ((Itl K a).stop i H2/\Fin H2)\/((Itl K a).go i H2/\∀x H3,(Itl K a).yld i H2 x H3->tc (some x::σ) H3 λb H4=>if b=true then te (some x::σ) H4 λy H5=>H5 D=some (.lst ys)/\ys.length<sizeLine/\∃m',m'<m/\W (i+1) m' (ys++ [y]) (upd H5 D (.lst (ys++ [y])))else H4 D=some (.lst ys)/\∃m',m'<m/\W (i+1) m' ys H4):=by
 refine⟨λi m ys H=>m=xs.length-i/\i<=xs.length/\Pv i ys H,⟨xs.length,by simp,Qi _,h0⟩,?_⟩;rintro i m ys H ⟨rfl,hi,p⟩ hD;have q:=hl i ys H hi p;by_cases lt:i<xs.length
 .refine .inr ⟨⟨xs,xs[i],q,by simp[lt]⟩,λx H' y=>?_⟩;obtain⟨e,y⟩:=y;subst e;exact hs i x ys _ (y xs q) p hD
 .have e:i=xs.length:=by lia
  subst e;exact .inl ⟨⟨xs,q,Q5 _⟩,hd ys H p hD⟩
end
section
end
section
def vwO (a d:Addr):HO:= .ext λh=>h.IsItemsView a d
def Itd (ob:Obj) (d:Addr) (kvs:List (Key×V)):It:=
 ⟨λi H=>H d=some (.frz ob (.dK kvs))/\i<kvs.length,λi H x H'=>∃p k v,x= .ref p/\H p=none/\kvs[i]?=some (k,v)/\H'=upd H p (.tup [kV k,v]),λi H=>H d=some (.frz ob (.dK kvs))/\kvs.length<=i⟩
def Fe (P:Program) (w:World) (ob:Obj) (d:Addr) (kvs:List (Key×V)) (vs:List (Key×Value)) (ep:Nat):Prop:=
 KV kvs vs/\∀h:Heap,h.get? d=some ob->h.DictAt (aU P w) d vs ep
theorem KV.getI (h:KV kvs vs):∀{i:Nat} {k:Key} {v:V},kvs[i]?=some (k,v)->∃u,vs[i]?=some (k,u)/\RelV v u:=by
 induction h with
 |nil=>intro i k v e;simp at e
 |cons r t ih=>
  rename_i p q ps qs
  intro i k v e;cases i with
  |zero=>
   simp at e;subst e;exact⟨q.2,by simp[show k=q.1 from r.1],r.2⟩
  |succ j=>
   obtain⟨u,h1,h2⟩:=ih (i:=j) (by simpa using e);exact⟨u,by simpa using h1,h2⟩
theorem wY {x1} (it:Addr) (D:Fe P w ob d kvs vs ep):
  xK P w K (.Tuple elts x1 pos) (Itd ob d kvs) [it] it (λi h=>∃ok ov,IsItemIter h it d i vs.length ep ok ov) where
 mem:=by simp
 obj:=λi h st b hb=>by
  obtain⟨ok,ov,st⟩:=st;have z:b=it:=by simpa using hb
  subst z;exact⟨_,st,λv z=>by cases z⟩
 keep:=λi h h' st k=>by
  obtain⟨ok,ov,st⟩:=st;exact⟨ok,ov,k it (by simp) _ st⟩
 item:=by
  intro X hP hw hK hc i pins s σ H E I hf st hg;subst hP hw hK;obtain⟨ok,ov,st⟩:=st;obtain⟨hq,hi⟩:=hg;have fi:=hf it (by simp);obtain⟨hob,_⟩:=I.hok d _ hq;have hat:=D.2 s.heap hob;obtain⟨⟨k,v⟩,hx⟩:∃kv,kvs[i]?=some kv:=⟨kvs[i],by simp[hi]⟩;obtain⟨u,hu,ru⟩:=KV.getI D.1 hx;refine wpAny_pyNext_items_item st hat hu λkey h' hkey g1 g3 gz g5=>⟨_,rfl,?_⟩;refine wpAny_letOwnedTupleGo_items g1 λh2 k1 k2=>?_;have rk:RelV (kV k) key:=p9 hkey;have np:H s.heap.objs.size=none:=I.hok.fresh (Q5 _);have nit:s.heap.objs.size≠it:=XI (Heap.lt_size st);have keep:∀b o,b≠it->s.heap.get? b=some o->h2.get? b=some o:=λb o z q=>(k2.2 b z).trans (g5 b o z q);have tupAt:h2.get? s.heap.objs.size=some {cls:= .type "tuple",data:= .seq #[key,u]}:=(k2.2 _ nit).trans g3;have trk:∀b v,H b=some v->b≠it:=λb v q z=>by rw[z,fi.1]at q;cases q
  have un:Un (frs X.stack) [it] H (upd H s.heap.objs.size (.tup [kV k,v])) s.heap h2:=by
   refine⟨λb o q n hb hx=>keep b o (λz=>hx (by simp[z])) q,λb o q n hb hx=>⟨o.slots,keep b o (λz=>hx (by simp[z])) q⟩,λb o q n hx=>?_,
    λb o q hx=>⟨o,keep b o (λz=>hx (by simp[z])) q⟩,λb ys q=>?_,λb o v q=>?_,λb ps q=>⟨#[],?_⟩⟩
   .rw[ac (Qv (Heap.lt_size q))];exact n
   .rw[ac (ak q np)];exact q
   .rw[ac (ak q np)];exact q
   .rw[ac (ak q np),q];simp
  have hok:HOk X.prog X.w (upd H s.heap.objs.size (.tup [kV k,v])) h2:=λb v' q=>by
   by_cases z:b=s.heap.objs.size
   .subst z;rw[af]at q;cases q;exact⟨by show 2<=sizeLine;decide,[key,u],.cons rk (.cons ru .nil),_,tupAt,rfl,_,rfl⟩
   .rw[ac z]at q;refine(I.hok b v' q).stay (λc o hc r=>?_) (λc r=>by rw[ac (ak r np)];exact r) λc ys r=>by rw[ac (ak r np)];exact r
    rcases hc with rfl|hc
    .exact keep _ _ (trk _ _ q) r
    .exact keep _ _ (trk _ _ hc) r
  have I2:Inv X pins σ (upd H s.heap.objs.size (.tup [kV k,v])) {s with heap:=h2}:=I.call' (s':={s with heap:=h2}) rfl un hok I.bare λb hb=>by
   have z:kg X pins H b:=hf b hb;exact⟨z.2.2.2.1,z.2.1,z.2.2.2.2.1,z.2.2.2.2.2⟩
  refine⟨.ref s.heap.objs.size,_,I2,rfl,⟨_,k,v,rfl,np,hx,rfl⟩,⟨key,u,k1⟩,λb hb=>?_⟩;have z:b=it:=by simpa using hb
  subst z;rw[ac (Ne.symm nit)];exact fi.1
 done:=by
  intro X hP hw hK hc i pins s σ H E I hf st hg;subst hP hw hK;obtain⟨ok,ov,st⟩:=st;obtain⟨hq,hi⟩:=hg;obtain⟨hob,_⟩:=I.hok d _ hq;have hat:=D.2 s.heap hob;obtain⟨f0,f1,f2,f3,f4,f5⟩:=hf it (by simp);have hl:kvs.length=vs.length:=D.1.length;exact wpAny_pyNext_items_end (I.ok.hd hc) st hat (by simp;lia) λh' eb=>⟨rfl,I.turned (t':=s.toks) (λb o hb e=>eb b o hb e) f0 f1 f3 f4 f5⟩
 self:=λ_ _ _ _ _ st h=>let⟨_,_,st⟩:=st;PySem.W.kcp_self st h
section
def El:V->List V->Hp->VK->Prop:=λx vs H Q=>∃d kvs,x= .ref d/\vs=[]/\H d=some (.dK kvs)/\∀a,H a=none->Q (.ref a) (upd H a (vwO a d))
theorem vW:MtR X "dict.items" El:=by
 intro pins s σ H x vs v us Q I rx rv h;obtain⟨d,kvs,rfl,rfl,hd,q⟩:=h;cases rx;cases rv;obtain⟨z,lo,ws,rel,dd⟩:=jm I.hok hd;refine call_meetsIn Xd dd.typeIs PySem.F.entry_dict_items (PySem.F.args_dict_items_1 _) (meets_dict_items (aU X.prog X.w) d lo) ⟨⟨ws,dd⟩,?_⟩;have new:(s.heap.push {cls:= .type "dict_items",data:= .fields #[.ref d]}).get? s.heap.objs.size=some {cls:= .type "dict_items",data:= .fields #[.ref d]}:=Heap.get?_push_size _ rfl;refine⟨.ref s.heap.objs.size,_,I.laid (t':=s.toks) (λb o e=>Heap.get?_push_of_some _ e) (Q5 _) (show ObjOk X.prog X.w _ _ _ (vwO s.heap.objs.size d) from⟨⟨_,new,rfl,rfl⟩,⟨_,new⟩,λh1 h2 p k=>?_⟩),rfl,q _ (I.hok.fresh (Q5 _))⟩;obtain⟨o,e,c⟩:=p;exact⟨o,k o e,c⟩
theorem Inv.freeze (I:Inv X pins σ H s) (hd:H d=some (.dK kvs)) (ho:s.heap.get? d=some ob):Inv X pins σ (upd H d (.frz ob (.dK kvs))) s:=by
 have own:∀b y,H b=some (.own y)->upd H d (.frz ob (.dK kvs)) b=some (.own y):=λb y q=>by rw[ac (λz=>by rw[z,hd]at q;cases q)];exact q
 have tup:∀b xs,H b=some (.tup xs)->upd H d (.frz ob (.dK kvs)) b=some (.tup xs):=λb xs q=>by rw[ac (λz=>by rw[z,hd]at q;cases q)];exact q
 have non:∀b,H b=none->upd H d (.frz ob (.dK kvs)) b=none:=λb q=>by rw[ac (λz=>by rw[z,hd]at q;cases q)];exact q
 refine⟨I.ok,I.os,I.bare,⟨I.base.keep,I.base.slot,λb o e n hx=>non b (I.base.free b o e n hx),I.base.there,λb xs e=>tup b xs (I.base.tups b xs e),λb o u e=>?_,λb ps e=>?_⟩,I.loc,I.cell,non _ I.free,λx c e=>non c (I.freeC x c e),λp hp=>?_,λb o e=>?_,I.len⟩
 .have:=I.base.frzs b o u e;rw[ac (λz=>by rw[z,hd]at this;cases this)];exact this
 .obtain⟨m,q⟩:=I.base.tbls b ps e;exact⟨m,by rw[ac (λz=>by rw[z,hd]at q;cases q)];exact q⟩
 .obtain⟨h1,h2,h3⟩:=I.pin p hp;exact⟨h1,non _ h2,h3⟩
 .by_cases z:b=d
  .subst z;rw[af]at e;cases e;exact⟨ho,(I.hok b _ hd).stay (λ_ _ _ q=>q) (λc q=>own c b q) tup⟩
  .rw[ac z]at e;exact(I.hok b o e).stay (λ_ _ _ q=>q) (λc q=>own c b q) tup
theorem Inv.thaw (I:Inv X pins σ H s) (hd:H d=some (.frz ob (.dK kvs))) (h0:∀o u,X.H₀ d≠some (.frz o u)):Inv X pins σ (upd H d (.dK kvs)) s:=by
 have own:∀b y,H b=some (.own y)->upd H d (.dK kvs) b=some (.own y):=λb y q=>by rw[ac (λz=>by rw[z,hd]at q;cases q)];exact q
 have tup:∀b xs,H b=some (.tup xs)->upd H d (.dK kvs) b=some (.tup xs):=λb xs q=>by rw[ac (λz=>by rw[z,hd]at q;cases q)];exact q
 have non:∀b,H b=none->upd H d (.dK kvs) b=none:=λb q=>by rw[ac (λz=>by rw[z,hd]at q;cases q)];exact q
 refine⟨I.ok,I.os,I.bare,⟨I.base.keep,I.base.slot,λb o e n hx=>non b (I.base.free b o e n hx),I.base.there,λb xs e=>tup b xs (I.base.tups b xs e),λb o u e=>?_,λb ps e=>?_⟩,I.loc,I.cell,non _ I.free,λx c e=>non c (I.freeC x c e),λp hp=>?_,λb o e=>?_,I.len⟩
 .have:=I.base.frzs b o u e;rw[ac (λz=>by rw[z]at e;exact h0 _ _ e)];exact this
 .obtain⟨m,q⟩:=I.base.tbls b ps e;exact⟨m,by rw[ac (λz=>by rw[z,hd]at q;cases q)];exact q⟩
 .obtain⟨h1,h2,h3⟩:=I.pin p hp;exact⟨h1,non _ h2,h3⟩
 .by_cases z:b=d
  .subst z;rw[af]at e;cases e;obtain⟨_,q⟩:=I.hok b _ hd;exact ObjOk.stay (show ObjOk X.prog X.w H s.heap b (.dK kvs) from q) (λ_ _ _ q=>q) (λc q=>own c b q) tup
  .rw[ac z]at e;exact(I.hok b o e).stay (λ_ _ _ q=>q) (λc q=>own c b q) tup
theorem Inv.noFrz (I:Inv X pins σ H s) (hd:H d=some (.dK kvs)):∀o u,X.H₀ d≠some (.frz o u):=λo u e=>by
 have:=I.base.frzs d o u e;rw[hd]at this;cases this
def EV (te:TE):TI:=λσ H R=>te σ H λx H1=>∃a d kvs,x= .ref a/\H1 a=some (vwO a d)/\H1 d=some (.dK kvs)/\∀ob,R (Itd ob d kvs) (upd H1 d (.frz ob (.dK kvs)))
theorem AC {x1} (hl:PE X l te):PI X (.Tuple elts x1 pos) l (EV te):=by
 intro pins s σ H R I h;refine thn (hl pins s σ H _ I h) λv s1 hzz=>?_;obtain⟨x,H1,I1,r1,q1⟩:=hzz;obtain⟨a,d,kvs,e,ha,hd,q⟩:=q1;subst e;cases r1;obtain⟨z,lo,vs,rel,dd⟩:=jm I1.hok hd;obtain⟨ep,hat⟩:=dd.dictAt;obtain⟨vw,_,_⟩:=(show ObjOk X.prog X.w H1 s1.heap a (vwO a d) from I1.hok a _ ha);obtain⟨ob,es,hob,rest⟩:=id hat;refine wpAny_pyIter_items vw hat ?_;have If:=I1.freeze hd hob;refine⟨s1.heap.objs.size,[s1.heap.objs.size],_,_,_,rfl,If.kept (t':=s1.toks) λb o e=>Heap.get?_push_of_some _ e,wY _ ⟨rel,λh e=>⟨ob,es,e,rest⟩⟩,⟨_,_,Heap.get?_push_size _ rfl⟩,λb hb=>?_,q ob⟩;have e:b=s1.heap.objs.size:=by simpa using hb
 subst e;exact If.fpOk (Q5 _) (If.hok.fresh (Q5 _))
def Fh (t:TS):TS:=λD σ H=>∃d kvs,H d=some (.dK kvs)/\t ⟨λσ' H'=>∃ob,H' d=some (.frz ob (.dK kvs))/\D.nx σ' (upd H' d (.dK kvs)),λv H'=>∃ob,H' d=some (.frz ob (.dK kvs))/\D.rt v (upd H' d (.dK kvs)),
 λσ' H'=>∃ob,H' d=some (.frz ob (.dK kvs))/\D.bk σ' (upd H' d (.dK kvs)),λσ' H'=>∃ob,H' d=some (.frz ob (.dK kvs))/\D.ct σ' (upd H' d (.dK kvs))⟩ σ H
theorem uy {st:Stmt} {t:TS} (h:PS X st t):PS X st (Fh t):=by
 intro pins s σ H D I ⟨d,kvs,hd,q⟩;have h0:=I.noFrz hd;refine thn (h pins s σ H _ I q) λf s1 q1=>?_;cases f with
 |next=>obtain⟨σ7,H7,I7,ob,e,q7⟩:=q1;exact⟨σ7,_,I7.thaw e h0,q7⟩
 |cont=>obtain⟨σ7,H7,I7,ob,e,q7⟩:=q1;exact⟨σ7,_,I7.thaw e h0,q7⟩
 |brk=>obtain⟨σ7,H7,I7,ob,e,q7⟩:=q1;exact⟨σ7,_,I7.thaw e h0,q7⟩
 |ret v=>obtain⟨x7,σ7,H7,I7,r7,ob,e,q7⟩:=q1;exact⟨x7,σ7,_,I7.thaw e h0,r7,q7⟩
end
theorem xB (Pv:Nat->St->Hp->Prop) (h0:Pv 0 σ H) (hl:∀i σ H,i<=kvs.length->Pv i σ H->H d=some (.frz ob (.dK kvs)))
  (hs:∀i k v p σ H,kvs[i]?=some (k,v)->Pv i σ H->H p=none->g (.ref p) σ (upd H p (.tup [kV k,v])) λσ2 H2=>tb ⟨Pv (i+1),rt,nx,Pv (i+1)⟩ σ2 H2) (hd:∀σ H,Pv kvs.length σ H->nx σ H):
  ∃W:Nat->Nat->St->Hp->Prop,(∃m,W 0 m σ H)/\∀i m σ H,W i m σ H->
   ((Itd ob d kvs).stop i H/\nx σ H)\/((Itd ob d kvs).go i H/\∃N:St->Hp->Prop,(∀σ' H',N σ' H'->∃m',m'<m/\W (i+1) m' σ' H')/\∀x H',(Itd ob d kvs).yld i H x H'->g x σ H' λσ2 H2=>tb ⟨N,rt,nx,N⟩ σ2 H2):=by
 refine⟨λi m σ H=>m=kvs.length-i/\i<=kvs.length/\Pv i σ H,⟨kvs.length,by simp,Qi _,h0⟩,?_⟩;rintro i m σ H ⟨rfl,hi,p⟩;have q:=hl i σ H hi p;by_cases lt:i<kvs.length
 .refine .inr ⟨⟨q,lt⟩,Pv (i+1),λσ' H' z=>⟨kvs.length-(i+1),by lia,rfl,lt,z⟩,λx H' y=>?_⟩;obtain⟨pp,k,v,rfl,np,e,rfl⟩:=y;exact hs i k v pp σ H e p np
 .have e:i=kvs.length:=by lia
  subst e;exact .inl ⟨⟨q,Q5 _⟩,hd σ H p⟩
end
section
section
variable (K:PySem.W.Frag) (hK:X.K=K)
include hK
theorem uU:IxR X (rIxT K):=by subst hK;exact dB
end
end
section
theorem tE {y:Int}:∀{ns:List Int} {m:Nat},m<ns.idxOf y->(h:m<ns.length)->ns[m]≠y
 | [],m,_,h=>by simp at h
 |a::r,m,lt,h=>by
  rw[List.idxOf_cons]at lt;by_cases c:a=y
  .rw[c]at lt;simp at lt
  .have:(a==y)=false:=beq_eq_false_iff_ne.mpr c;rw[this]at lt;cases m with
   |zero=>exact c
   |succ j=>exact tE (ns:=r) (m:=j) (by simpa using lt) (by simpa using h)
theorem tR:∀(ns:List Int) (i:Nat),(ns.eraseIdx i).map V.int=(ns.map V.int).eraseIdx i
 | [],_=>rfl
 |_::_,0=>rfl
 |a::r,i+1=>by
  show V.int a::(r.eraseIdx i).map V.int=V.int a::(r.map V.int).eraseIdx i;rw[tR r i]
section
def CG:V->List V->Hp->VK->Prop:=λx vs H Q=>∃(l:Addr) (xs:List V) (k:Int) (y:V),x= .ref l/\vs=[.int k,y]/\H l=some (.lst xs)/\0<=k/\k<=(xs.length:Int)/\xs.length<sizeLine/\Q .non (upd H l (.lst (xs.take k.toNat++y::xs.drop k.toNat)))
theorem oq:MtM X "list.insert" CG:=by
 intro pins s σ H x vs v us Q I rx rv h;obtain⟨l,xs,k,y,rfl,rfl,hH,h0,hk,hz,q⟩:=h;cases rx;obtain⟨u1,u,rfl,⟨t,rfl⟩,ru⟩:=rv.two;obtain⟨z,its,n,r,hl,e⟩:=I.lstM hH;have fits:¬(!Builtin.List.listFitsIndex k)=true:=by
  have line:=rA;rw[fitsIndex_both (by lia) (by lia)];exact Q7
 have hsz:its.toArray.size<=sizeLine:=by rw[Qc];lia
 refine call_meets F.slot_list_insert ⟨_,e,rfl⟩ F.entry_list_insert (F.args_list_insert_3 _ _ _) (AutoListH.list_insert_list_int_val_1 l its.toArray n k t u fits hsz) ⟨e,?_⟩;refine⟨.non,_,I.lset (its':=its.take k.toNat++u::its.drop k.toNat) hH e ?_ ((r.take k.toNat).append (.cons ru (r.drop k.toNat))) ?_,rfl,q⟩
 .have e0:(if k<0 then(k+((its.toArray.size:Nat):Int)).toNat else min k.toNat its.toArray.size)=k.toNat:=by
   rw[if_neg (by lia),Qc];lia
  show(its.toArray.extract 0 _).push u++its.toArray.extract _=_;rw[e0];simp;exact QC (by rw[Qr];lia)
 .rw[Q9,Qf,Qb,Qr];lia
def CF:V->List V->Hp->VK->Prop:=λx vs H Q=>∃(l:Addr) (ns:List Int) (y:Int),x= .ref l/\vs=[.int y]/\H l=some (.lst (ns.map V.int))/\y∈ns/\Q .non (upd H l (.lst ((ns.erase y).map V.int)))
theorem zt:MtM X "list.remove" CF:=by
 intro pins s σ H x vs v us Q I rx rv h;obtain⟨l,ns,y,rfl,rfl,hH,hy,q⟩:=h;cases rx;obtain⟨u,rfl,ru⟩:=rv.one;obtain⟨t,rfl⟩:=ru;obtain⟨z,its,n,r,hl,e⟩:=I.lstM hH;have hi:IntsAre its ns:=rD r;have at_:∀(m:Nat) (hm:m<its.toArray.size),∃t',its.toArray[m]=Value.int (ns.getD m 0) t':=λm hm=>by
  have hm':m<ns.length:=by rw[Qc,<-hl,Q0]at hm;exact hm
  obtain⟨w,hw,rw'⟩:=r.get (i:=m) (x:= .int (ns.getD m 0)) (by rw[Qg,Q4 hm',Qy,Q4 hm'];rfl);obtain⟨t',rfl⟩:=rw';refine⟨t',?_⟩;have:=(Q3.mp hw).2;simpa using this
 have hx:ns.idxOf y<ns.length:=List.idxOf_lt_length_of_mem hy;have ga:∀m,m<ns.length->ns.getD m 0=ns[m]!:=λm hm=>by simp[hm]
 refine call_meets F.slot_list_remove ⟨_,e,rfl⟩ F.entry_list_remove (F.args_list_remove_2 _ _) (MeetsSeq.list_remove l its.toArray n (.int y t) (λv=>match v with| .int i _=>i==y|_=>false) (λv hv=>?_) (ns.idxOf y) (by rw[Qc,<-hl,Q0];exact hx) ?_ (λm hm lt=>?_) (by rw[Qc];lia)) ⟨e,?_⟩
 .obtain⟨m,hm,em⟩:=Array.getElem_of_mem hv;obtain⟨t',et⟩:=at_ m hm
  rw[<-em,et];exact MeetsSeq.EqGives.int _ _ _ _
 .obtain⟨t',et⟩:=at_ (ns.idxOf y) (by rw[Qc,<-hl,Q0];exact hx)
  rw[et];show(ns.getD (ns.idxOf y) 0==y)=true;rw[Qy,Q4 hx,Option.getD_some,List.getElem_idxOf hx];exact beq_self_eq_true y
 .obtain⟨t',et⟩:=at_ m hm
  rw[et];show(ns.getD m 0==y)=false;have hm':m<ns.length:=by lia
  rw[Qy,Q4 hm',Option.getD_some];exact beq_eq_false_iff_ne.mpr (λw=>tE lt hm' w)
 .have ee:ns.erase y=ns.eraseIdx (ns.idxOf y):=(List.erase_eq_eraseIdx_of_idxOf rfl);have em:(ns.eraseIdx (ns.idxOf y)).map V.int=(ns.map V.int).eraseIdx (ns.idxOf y):=tR _ _;rw[ee,em]at q;refine⟨.non,_,I.lset (its':=its.eraseIdx (ns.idxOf y)) hH e ?_ (r.eraseIdx (ns.idxOf y)) ?_,rfl,q⟩
  .show its.toArray.eraseIdxIfInBounds (ns.idxOf y)=(its.eraseIdx (ns.idxOf y)).toArray;rw[XU]
  .have:=oy (ns.map V.int) (ns.idxOf y);lia
end
end
section
def Itk (ob:Obj) (d:Addr) (kvs:List (Key×V)):It:=
 ⟨λi H=>H d=some (.frz ob (.dK kvs))/\i<kvs.length,λi H x H'=>H'=H/\∃k v,kvs[i]?=some (k,v)/\x=kV k,λi H=>H d=some (.frz ob (.dK kvs))/\kvs.length<=i⟩
theorem za (it:Addr) (D:Fe P w ob d kvs vs ep):
  xK P w K tg (Itk ob d kvs) [it] it (λi h=>h.IsKeyIter it d i vs.length ep) where
 mem:=by simp
 obj:=λi h st b hb=>by
  have z:b=it:=by simpa using hb
  subst z;obtain⟨o,e,c,dd⟩:=st;exact⟨o,e,λv z=>by rw[dd]at z;cases z⟩
 keep:=λi h h' st k=>by
  obtain⟨o,e,r⟩:=st;exact⟨o,k it (by simp) _ e,r⟩
 item:=by
  intro X hP hw hK hc i pins s σ H E I hf st hg;subst hP hw hK;obtain⟨hq,hi⟩:=hg;obtain⟨f0,f1,f2,f3,f4,f5⟩:=hf it (by simp);obtain⟨hob,_⟩:=I.hok d _ hq;have hat:=D.2 s.heap hob;obtain⟨⟨k,v⟩,hx⟩:∃kv,kvs[i]?=some kv:=⟨kvs[i],by simp[hi]⟩;obtain⟨u,hu,ru⟩:=KV.getI D.1 hx;refine wpAny_pyNext_dict_item st hat hu λkey h' hkey st' sb=>?_;have I1:Inv X pins σ H {s with heap:=h'}:=I.turned (t':=s.toks) (λb o hb e=>(sb.2 b hb).trans e) f0 f1 f3 f4 f5;obtain⟨o,e,c,dd⟩:=id st';exact⟨key,rfl,wn (s:={s with heap:=h'}) e c dd (by decide) ⟨kV k,H,I1,p9 hkey,⟨rfl,k,v,hx,rfl⟩,st',λb hb=>(hf b hb).1⟩⟩
 done:=by
  intro X hP hw hK hc i pins s σ H E I hf st hg;subst hP hw hK;obtain⟨hq,hi⟩:=hg;obtain⟨hob,_⟩:=I.hok d _ hq;have hat:=D.2 s.heap hob;obtain⟨f0,f1,f2,f3,f4,f5⟩:=hf it (by simp);have hl:kvs.length=vs.length:=D.1.length;exact wpAny_pyNext_dict_end (I.ok.hd hc) st hat (by simp;lia) λh' eb=>⟨rfl,I.turned (t':=s.toks) (λb o hb e=>eb b o hb e) f0 f1 f3 f4 f5⟩
 self:=λ_ _ _ _ _ st h=>wpAny_pyIter_keyiter st h
section
def FS (te:TE):TI:=λσ H R=>te σ H λx H1=>∃d kvs,x= .ref d/\H1 d=some (.dK kvs)/\∀ob,R (Itk ob d kvs) (upd H1 d (.frz ob (.dK kvs)))
theorem CN (hl:PE X l te):PI X tg l (FS te):=by
 intro pins s σ H R I h;refine thn (hl pins s σ H _ I h) λv s1 hzz=>?_;obtain⟨x,H1,I1,r1,q1⟩:=hzz;obtain⟨d,kvs,e,hd,q⟩:=q1;subst e;cases r1;obtain⟨z,lo,vs,rel,dd⟩:=jm I1.hok hd;obtain⟨ep,hat⟩:=dd.dictAt;obtain⟨ob,es,hob,rest⟩:=id hat;refine wpAny_pyIter_dict lo hat ?_;have If:=I1.freeze hd hob;refine⟨s1.heap.objs.size,[s1.heap.objs.size],_,_,_,rfl,If.kept (t':=s1.toks) λb o e=>Heap.get?_push_of_some _ e,za _ ⟨rel,λh e=>⟨ob,es,e,rest⟩⟩,⟨_,Heap.get?_push_size _ rfl,rfl,rfl⟩,λb hb=>?_,q ob⟩;have e:b=s1.heap.objs.size:=by simpa using hb
 subst e;exact If.fpOk (Q5 _) (If.hok.fresh (Q5 _))
theorem xF:iM X (.type "dict") (λxs H Q=>∃d kvs,xs=[.ref d]/\H d=some (.dK kvs)/\∀p,H p=none->Q (.ref p) (upd H p (.dK kvs))):=by
 intro pins s σ H xs us Q I r h;obtain⟨d,kvs,rfl,hd,q⟩:=h;obtain⟨u,rfl,ru⟩:=oR r;cases ru;obtain⟨z,lo,vs,rel,dd⟩:=jm I.hok hd;refine kt_call_dict lo dd (by rw[<-rel.length];exact z) λh' hm hs=>?_;obtain⟨_,nm,_⟩:=wt (P:=X.prog) (w:=X.w) (H:=H) s.heap I.big;refine⟨.ref s.heap.objs.size,_,I.laid (a:=s.heap.objs.size) (o:= .dK kvs) (t':=s.toks) (λb o e=>(hs.2 b (Qv (Heap.lt_size e))).trans (Heap.get?_push_of_some _ e)) (Q5 _) ⟨z,nm,vs,rel,hm⟩,rfl,q _ (I.hok.fresh (Q5 _))⟩
end
theorem zL (Pv:Nat->St->Hp->Prop) (h0:Pv 0 σ H) (hl:∀i σ H,i<=kvs.length->Pv i σ H->H d=some (.frz ob (.dK kvs)))
  (hs:∀i k v σ H,kvs[i]?=some (k,v)->Pv i σ H->g (kV k) σ H λσ2 H2=>tb ⟨Pv (i+1),rt,nx,Pv (i+1)⟩ σ2 H2) (hd:∀σ H,Pv kvs.length σ H->nx σ H):
  ∃W:Nat->Nat->St->Hp->Prop,(∃m,W 0 m σ H)/\∀i m σ H,W i m σ H->
   ((Itk ob d kvs).stop i H/\nx σ H)\/((Itk ob d kvs).go i H/\∃N:St->Hp->Prop,(∀σ' H',N σ' H'->∃m',m'<m/\W (i+1) m' σ' H')/\∀x H',(Itk ob d kvs).yld i H x H'->g x σ H' λσ2 H2=>tb ⟨N,rt,nx,N⟩ σ2 H2):=by
 refine⟨λi m σ H=>m=kvs.length-i/\i<=kvs.length/\Pv i σ H,⟨kvs.length,by simp,Qi _,h0⟩,?_⟩;rintro i m σ H ⟨rfl,hi,p⟩;have q:=hl i σ H hi p;by_cases lt:i<kvs.length
 .refine .inr ⟨⟨q,lt⟩,Pv (i+1),λσ' H' z=>⟨kvs.length-(i+1),by lia,rfl,lt,z⟩,λx H' y=>?_⟩;obtain⟨rfl,k,v,e,rfl⟩:=y;exact hs i k v σ _ e p
 .have e:i=kvs.length:=by lia
  subst e;exact .inl ⟨⟨q,Q5 _⟩,hd σ H p⟩
end
section
section
theorem sS:∀as:List Addr,Vals (as.map V.ref) (as.map Value.ref)
 | []=> .nil
 |_::as=> .cons rfl (sS as)
theorem vn:∀{as:List Addr} {kvs:List (Key×V)} {j:Nat} {a:Addr} {kv:Key×V},as.Pairwise (· < ·)->as[j]?=some a->kvs[j]?=some kv->(as.zip kvs).find? (λp=>decide (p.1=a))=some (a,kv)
 | [],_,_,_,_,_,h,_=>by simp at h
 |_::_,[],_,_,_,_,_,h=>by simp at h
 |b::as,kv'::kvs,0,a,kv,_,h1,h2=>by
  simp at h1 h2;subst h1 h2;rw[List.zip_cons_cons,List.find?_cons_of_pos (by simp)]
 |b::as,kv'::kvs,j+1,a,kv,up,h1,h2=>by
  rw[QX]at h1 h2;rw[Zb]at up;have lt:b<a:=up.1 a (Q2 h1);rw[List.zip_cons_cons,List.find?_cons_of_neg (by simp;exact Qv lt)];exact vn up.2 h1 h2
theorem qc {as:List Addr} (h:a∉as):(as.zip kvs).find? (λp=>decide (p.1=a))=none:=by
 refine List.find?_eq_none.mpr λp hp=>?_;have:=(Xk (a:=p.1) (b:=p.2) hp).1;simp;intro e;exact h (e▸this)
theorem Un.many {fs ex:List Addr} {H':Hp} {h:Heap} (k:∀b u,h.get? b=some u->h'.get? b=some u) (hs:Same H H') (hn:∀b,b<h.objs.size->H' b=H b):Un fs ex H H' h h' where
 keep:=λb u q _ _ _=>k b u q
 slot:=λb u q _ _ _=>⟨u.slots,k b u q⟩
 free:=λb u q n _=>by rw[hn b (Heap.lt_size q)];exact n
 there:=λb u q _=>⟨u,k b u q⟩
 tups:=λb xs q=>hs _ _ q
 frzs:=λb u xs q=>hs _ _ q
 tbls:=λb ps q=>⟨#[],by rw[hs _ _ q];simp⟩
end
end
end L2
namespace Srt
open PySem PySem.Calls PySem.Spec PyProof.Rows
variable {blt:Heap->Keyed->Keyed->Bool} {E Q:Value->Shared->Prop}
section
variable {prog:Program} {w:World} {A:Around} {s:Shared} {κ:SortKind}
theorem sorted_src2 {r:Value} {G:Heap->List Value->Prop} 
  (hc:∀(R:List Value->Shared->Prop) (E':Value->Shared->Prop),(∀(h1:Heap) (tk:Nat) (vs:List Value),(∀b o,s.heap.get? b=some o->h1.get? b=some o)->G h1 vs->R vs {s with heap:=h1,toks:=tk})->wpAny (model prog w) A.in1 (collect r) R E' s)
  (hz:∀h vs,G h vs->vs.length<=sizeLine) (C:∀h,Cmp (blt h))
  (hkk:∀(vs:List Value) (h1 h':Heap) (tk:Nat),G h1 vs->(∀b o,h1.get? b=some o->h'.get? b=some o)->2<=vs.length->∀Q':SortKind->Shared->Prop,Q' κ {s with heap:=h',toks:=tk}->wpAny (model prog w) A.in1.in1 (keyKind' vs.toArray) Q' (λ_ _=>False) {s with heap:=h',toks:=tk})
  (L:∀(vs:List Value) (h1 h':Heap) (tk:Nat),G h1 vs->(∀b o,h1.get? b=some o->h'.get? b=some o)->vi prog w A.in1.in1 (λ_ _=>False) {s with heap:=h',toks:=tk} (pairsOf vs) κ (blt h1))
  (h:∀(vs:List Value) (h1 h2:Heap) (tk e:Nat) (out:Array Keyed),G h1 vs->(∀b o,s.heap.get? b=some o->h1.get? b=some o)->(∀b o,h1.get? b=some o->h2.get? b=some o)->h2.get? h1.objs.size=some (seqObj "list" (out.map (·.2)) e)->out.Perm (pairsOf vs)->PW (blt h1) out.toList->Q (.ref h1.objs.size) {s with heap:=h2,toks:=tk}):
  wpAny (model prog w) A (call (.builtin "sorted") [r]) Q E s:=by
 refine Calls.call_function_entry kind_sorted plain_sorted entry_sorted (args_sorted1 _) ?_;unfold Builtin.«sorted»;refine wpAny_bind (m:=checkCount "sorted" 1 1 _) (wpAny_pure (wpAny_bind (hc _ _ λh1 tk vs k1 g=>?_)));refine wpAny_bind (wpAny_newList ?_ (hsz:=hz h1 vs g));have new:(h1.push (seqObj "list" vs.toArray 0)).get? h1.objs.size=some (seqObj "list" vs.toArray 0):=Heap.get?_push_size _ rfl;have keep:∀h':Heap,But h1.objs.size {s with heap:=h1.push (seqObj "list" vs.toArray 0),toks:=tk} {s with heap:=h',toks:=tk}->∀b o,h1.get? b=some o->h'.get? b=some o:=λh' k b o e=>
  k b o (Qv (Heap.lt_size e)) (Heap.get?_push_of_some _ e)
 show wpAny _ _ _ _ _ {s with heap:=h1.push (seqObj "list" vs.toArray 0),toks:=tk};refine wpAny_bind (wpAny_holding (wpAny_mono (wpAny_call_entry (E:=λ_ _=>False) slot_list_sort ⟨_,new,rfl⟩ entry_list_sort (sZ (s:={s with heap:=h1.push (seqObj "list" vs.toArray 0),toks:=tk}) (κ:=κ) (blt:=blt h1) new (hz h1 vs g) (C h1) (λh' k=>hkk vs h1 h' tk g (keep h' k)) (λh' k=>L vs h1 h' tk g (keep h' k)) λout p q=>⟨_,rfl,?_⟩) (args_list_sort _)) (λ_ _ q=>q) λ_ _ f=>f.elim));refine wpAny_pure ⟨_,rfl,?_⟩;obtain⟨e,at_⟩:=sortedHeap_at (out:=out.map (·.2)) new;refine h vs h1 _ tk e out g k1 (λb o q=>?_) at_ p q
 have lt:=Heap.lt_size q;rw[sortedHeap_old (Qv lt) (by rw[size_push'];exact Nat.lt_succ_of_lt lt)];exact Heap.get?_push_of_some _ q
end
end Srt
namespace L2
open PySem PySem.Spec PyProof.Rows Srt
section
variable {X:Cx}
def layT (H:Hp) (as:List Addr) (kvs:List (Key×V)):Hp:=λb=>match (as.zip kvs).find? (λp=>decide (p.1=b))with
 |some p=>some (.tup [kV p.2.1,p.2.2])
 |none=>H b
def ivs (ns:List (Int×Int)):List (Key×V):=ns.map λp=>(Sum.inl p.1,V.int p.2)
def kyP (h:Heap):Value->List Int
 | .ref b=>match h.get? b with
  |some o=>match o.data with
   | .seq xs _=>match xs.toList with
    | [.int i _,.int j _]=> [i,j]
    |_=> []
   |_=> []
  |none=> []
 |_=> []
theorem uR {h:Heap} {b:Addr} {i j:Int} {t t':Tok} (e:h.get? b=some {cls:= .type "tuple",data:= .seq #[Value.int i t,Value.int j t']}):kyP h (.ref b)=[i,j]:=by
 simp only[kyP,e]
theorem sG (hh:X.A.handled=none):iM X (.builtin "sorted") (λxs H Q=>∃(a d:Addr) (ns:List (Int×Int)),xs=[.ref a]/\H a=some (vwO a d)/\H d=some (.dK (ivs ns))/\
  ∀(H':Hp) (l:Addr) (es:List (Addr×Int×Int)),Same H H'->H l=none->H' l=some (.lst (es.map λe=>V.ref e.1))->(∀e∈es,H e.1=none/\H' e.1=some (.tup [.int e.2.1,.int e.2.2]))->(es.map (·.2)).Perm ns->(es.map (·.2)).Pairwise (λp q=>HT.lexLt [q.1,q.2] [p.1,p.2]=false)->Q (.ref l) H'):=by
 intro pins s σ H xs us Q I r h;obtain⟨a,d,ns,rfl,ha,hd,q⟩:=h;obtain⟨u,rfl,ru⟩:=oR r;cases ru;obtain⟨z,lo,vs,rel,dd⟩:=jm I.hok hd;obtain⟨ep,hat⟩:=dd.dictAt;obtain⟨vw,_,_⟩:=(show ObjOk X.prog X.w H s.heap a (vwO a d) from I.hok a _ ha);have hlen:(ivs ns).length=vs.length:=rel.length;have hln:(ivs ns).length=ns.length:=Q0 _;have pr:∀{h1 h':Heap} {as:List Addr},PySem.W.KdxG (aU X.prog X.w) vs s.heap.objs.size h1 as->as.length=vs.length->(∀b o,h1.get? b=some o->h'.get? b=some o)->∀(j:Nat) (b:Addr),as[j]?=some b->∃(p:Int×Int) (t t':Tok),ns[j]?=some p/\h'.get? b=some {cls:= .type "tuple",data:= .seq #[Value.int p.1 t,Value.int p.2 t']}:=λ{h1 h' as} g gl k j b hb=>by
  obtain⟨key,k0,x,e1,e2,e3⟩:=g.pairs j b hb;have jl:j<ns.length:=by
   have:=(Q3.mp hb).1;lia
  have e4:(ivs ns)[j]?=some (Sum.inl ns[j].1,V.int ns[j].2):=by
   unfold ivs;rw[Qg,Q4 jl];rfl
  obtain⟨u,e5,ru⟩:=KV.getI rel e4;rw[e1]at e5;cases e5;obtain⟨t',rfl⟩:=ru;obtain⟨t,rfl⟩:=(show RelV (.int ns[j].1) key from p9 e2);exact⟨ns[j],t,t',Q4 jl,k _ _ e3⟩
 refine Srt.sorted_src2 (G:=λh its=>∃as:List Addr,its=as.map Value.ref/\as.length=vs.length/\PySem.W.KdxG (aU X.prog X.w) vs s.heap.objs.size h as) (κ:=tuples' (Value.type "int" !=Value.type "tuple")) (blt:=λh a b=>HT.lexLt (kyP h a.1) (kyP h b.1)) (λR E' k=>?_) (λh its g=>?_) (λh=>Srt.cmp_of λa=>kyP h a.1)
  (λits h1 h' tk g k h2 Q' hQ=>?_) (λits h1 h' tk g k=>Srt.runs_of λx y E' Q' hx hy hQ=>?_) (λits h1 h2 tk e out g k1 k2 at_ pm pw=>?_)
 .exact PySem.W.kdx_collect (knd:=aU X.prog X.w) hh vw hat (by lia) λh' tk as hk hl G=>k h' tk _ hk ⟨as,rfl,hl,G⟩
 .obtain⟨as,rfl,hl,_⟩:=g;rw[Q0];lia
 .obtain⟨as,rfl,hl,G⟩:=g;have pr:=pr G hl k;have tups:∀(bs:List Addr),(∀b∈bs,∃(p:Int×Int) (t t':Tok),h'.get? b=some {cls:= .type "tuple",data:= .seq #[Value.int p.1 t,Value.int p.2 t']})->∃fs:List Value,PySem.W.KatTups h' (bs.map Value.ref) fs/\(∀f∈fs,∃i t,f=Value.int i t)/\fs.length=bs.length:=by
   intro bs
   induction bs with
   |nil=>intro _;exact⟨[],.nil,λ_ h=>absurd h ZX,rfl⟩
   |cons b bs ih=>
    intro hb;obtain⟨fs,t,hi,hl⟩:=ih λc hc=>hb c (Qa _ hc);obtain⟨p,t1,t2,e⟩:=hb b Qd;refine⟨Value.int p.1 t1::fs,.cons e rfl rfl rfl t,λf hf=>?_,by rw[Qf,Qf,hl]⟩;rcases Qj.mp hf with z|z
    .exact⟨p.1,t1,z⟩
    .exact hi f z
  obtain⟨fs,t,hi,hl2⟩:=tups as λb hb=>by
   obtain⟨j,hj⟩:=Z9.mp hb;obtain⟨p,t,t',_,e⟩:=pr j b hj;exact⟨p,t,t',e⟩
  refine PySem.W.kat_kind (T:= .type "int") t (by rw[Q0]at h2;lia) (λv hv=>?_) (by decide+kernel) hQ;obtain⟨i,t,rfl⟩:=hi v hv;exact PySem.W.Looks.of_pure rfl
 .obtain⟨as,rfl,hl,G⟩:=g;have mem:∀{z:Keyed},z∈pairsOf (as.map Value.ref)->∃b∈as,z.1=Value.ref b:=λ{z} hz=>by
   have:z∈(pairsOf (as.map Value.ref)).toList:=by simpa using hz
   rw[pairsOf_toList]at this;obtain⟨b,hb,e⟩:=Qh.mp (mem_zip_self this).2;exact⟨b,hb,e.symm⟩
  obtain⟨b,hb,eb⟩:=mem hx;obtain⟨c,hc,ec⟩:=mem hy;obtain⟨j,hj⟩:=Z9.mp hb;obtain⟨j',hj'⟩:=Z9.mp hc;obtain⟨p,t1,t2,_,e1⟩:=pr G hl (λ_ _ h=>h) j b hj;obtain⟨p',t3,t4,_,e2⟩:=pr G hl (λ_ _ h=>h) j' c hj';have hQ:Q' (HT.lexLt (kyP h1 x.1) (kyP h1 y.1)) {s with heap:=h',toks:=tk}:=hQ;rw[eb,ec,uR e1,uR e2,HT.lexLt_cons,HT.lexLt_cons,HT.lexLt_nil_nil]at hQ;rw[eb,ec];refine PySem.W.kat_lt (k _ _ e1) rfl (k _ _ e2) rfl (PySem.W.kat_cons (SeqAt.EqAt.int_int _ _ _ _ _ _ _ _ (PySem.W.kat_go (λe=>PySem.W.kat_yes ?_) (λe=>PySem.W.kat_no ?_))))
  .rw[if_pos (beq_iff_eq.mp e)]at hQ;refine PySem.W.kat_cons (SeqAt.EqAt.int_int _ _ _ _ _ _ _ _ (PySem.W.kat_go (λe=>PySem.W.kat_yes ?_) (λe=>PySem.W.kat_no ?_)))
   .rw[if_pos (beq_iff_eq.mp e)]at hQ;exact PySem.W.kat_nil (by simpa using hQ)
   .rw[if_neg (beq_eq_false_iff_ne.mp e)]at hQ;exact PySem.W.kat_one _ _ (lt_int hQ)
  .rw[if_neg (beq_eq_false_iff_ne.mp e)]at hQ;exact oneLt_int hQ
 .obtain⟨as,rfl,hl,G⟩:=g;have na:∀b∈as,H b=none:=λb hb=>I.hok.fresh (Z6 (G.above b hb));have sm:Same H (layT H as (ivs ns)):=λb o e=>by
   unfold layT;rw[qc λz=>ak e (na b z) rfl];exact e
  have lo':∀b,b<s.heap.objs.size->layT H as (ivs ns) b=H b:=λb hb=>by
   unfold layT;rw[qc λz=>absurd (G.above b z) (XF.mpr (Z6 hb))]
  have at2:∀(j:Nat) (b:Addr) (p:Int×Int),as[j]?=some b->ns[j]?=some p->layT H as (ivs ns) b=some (.tup [.int p.1,.int p.2]):=λj b p h1 h2=>by
   unfold layT;have e:(ivs ns)[j]?=some (Sum.inl p.1,V.int p.2):=by
    unfold ivs;rw[Qg,h2];rfl
   rw[vn G.rise h1 e];rfl
  have hok:HOk X.prog X.w (layT H as (ivs ns)) h1:=λb o e=>by
   by_cases c2:b∈as
   .obtain⟨j,hj⟩:=Z9.mp c2;obtain⟨p,t,t',e1,e2⟩:=pr G hl (λ_ _ h=>h) j b hj;rw[at2 j b p hj e1]at e;cases e;exact⟨by show 2<=sizeLine;decide,[Value.int p.1 t,Value.int p.2 t'],.cons ⟨t,rfl⟩ (.cons ⟨t',rfl⟩ .nil),_,e2,rfl,_,rfl⟩
   .have:layT H as (ivs ns) b=H b:=by
     unfold layT;rw[qc c2]
    rw[this]at e;exact(I.hok b o e).stay (λc v _ q=>k1 c v q) (λc q=>sm _ _ q) λc xs q=>sm _ _ q
  have I1:Inv X pins σ (layT H as (ivs ns)) {s with heap:=h1,toks:=tk}:=I.un (t':=tk) (Un.many k1 sm lo') hok;have pml:out.toList.Perm ((as.map Value.ref).zip (as.map Value.ref)):=by
   have:=X7.mp pm;rwa [pairsOf_toList]at this
  have eqs:∀z∈out.toList,z.1=z.2:=λz hz=>(mem_zip_self (pml.mem_iff.mp hz)).1;have e2:(out.map (·.2)).toList=out.toList.map (·.2):=Array.toList_map;have pv:((out.map (·.2)).toList).Perm (as.map Value.ref):=by
   rw[e2];exact(pml.map _).trans (List.Perm.of_eq (List.map_snd_zip (Q5 _)))
  obtain⟨bs,eb,pb⟩:∃bs:List Addr,(out.map (·.2)).toList=bs.map Value.ref/\bs.Perm as:=by
   refine⟨(out.map (·.2)).toList.map λv=>match v with| .ref b=>b|_=>0,?_,?_⟩
   .rw[QD];refine(List.map_id _).symm.trans (Zk λv hv=>?_);obtain⟨b,_,rfl⟩:=Qh.mp (pv.mem_iff.mp hv);rfl
   .have:=pv.map λv:Value=>match v with| .ref b=>b|_=>0
    rw[QD]at this;exact this.trans (List.Perm.of_eq (List.map_id _))
  let gp:Addr->Int×Int:=λb=>((kyP h1 (.ref b)).getD 0 0,(kyP h1 (.ref b)).getD 1 0)
  have ga:∀(j:Nat) (b:Addr),as[j]?=some b->ns[j]?=some (gp b):=λj b hb=>by
   obtain⟨p,t,t',e1,e3⟩:=pr G hl (λ_ _ h=>h) j b hb;show ns[j]?=some ((kyP h1 (.ref b)).getD 0 0,(kyP h1 (.ref b)).getD 1 0);rw[uR e3];exact e1
  have gk:∀b∈as,kyP h1 (.ref b)=[(gp b).1,(gp b).2]:=λb hb=>by
   obtain⟨j,hj⟩:=Z9.mp hb;obtain⟨p,t,t',e1,e3⟩:=pr G hl (λ_ _ h=>h) j b hj;have:=ga j b hj;rw[e1]at this;rw[uR e3,<-Option.some.inj this]
  have gn:as.map gp=ns:=by
   refine List.ext_getElem? λj=>?_;rw[Qg];cases c:as[j]? with
   |none=>
    have:=Z8.mp c;rw[Xp (by lia)];rfl
   |some b=>exact(ga j b c).symm
  have lz:(bs.map V.ref).length<=sizeLine:=by
   rw[Q0,pb.length_eq];lia
  have fl:=I1.hok.fresh (Q5 h1.objs.size);have nl:H h1.objs.size=none:=by
   cases c:H h1.objs.size with
   |none=>rfl
   |some o=>rw[sm _ _ c]at fl;cases fl
  refine⟨.ref h1.objs.size,upd (layT H as (ivs ns)) h1.objs.size (.lst (bs.map V.ref)),I1.laid (t':=tk) k2 (Q5 _) ⟨lz,bs.map Value.ref,e,sS bs,?_⟩,rfl,q _ _ (bs.map λb=>(b,gp b)) (sm.trans (λb o eb=>by rw[ac (ak eb fl)];exact eb)) nl ?_ (λx hx=>?_) ?_ ?_⟩
  .rw[at_,<-eb,Xu]
  .rw[af,QD];rfl
  .obtain⟨b,hb,rfl⟩:=Qh.mp hx;have hb:=pb.mem_iff.mp hb;obtain⟨j,hj⟩:=Z9.mp hb;refine⟨na b hb,?_⟩;have e5:=at2 j b (gp b) hj (ga j b hj);rw[ac (ak e5 fl)];exact e5
  .rw[QD];exact(pb.map gp).trans (List.Perm.of_eq gn)
  .rw[QD];refine Zy.mpr ?_;have pw2:(bs.map Value.ref).Pairwise (λa b=>HT.lexLt (kyP h1 b) (kyP h1 a)=false):=by
    rw[<-eb,e2];refine Zy.mpr (pw.imp_of_mem λ{a b} ha hb h=>?_);show HT.lexLt (kyP h1 b.2) (kyP h1 a.2)=false;rw[<-eqs a ha,<-eqs b hb];exact h
   refine(Zy.mp pw2).imp_of_mem λ{a b} ha hb h=>?_;rw[gk a (pb.mem_iff.mp ha),gk b (pb.mem_iff.mp hb)]at h;exact h
end
end L2
namespace L2
open PySem PySem.Spec PyProof.Rows
variable {a:Addr} {X:Cx} {tg:Expr} {H:Hp} {kvs:List (Key×V)} {vs:List (Key×Value)} {xs:List V} {bt:Nat->Nat->Bool} {ob:Obj} {pos:Pos} {P:Program} {K:PySem.W.Frag} {R:Result->Shared->Prop} {σ:St} {nx:St->Hp->Prop} {te:TE} {g:TG} {tb:TS} {rt:VK} {d:Value} {E Q:Value->Shared->Prop} {w:World}
section
section
def CD:V->List V->Hp->VK->Prop:=λx vs H Q=>∃a kvs k y,x= .ref a/\vs=[kV k,y]/\H a=some (.dK kvs)/\kvs.length<sizeLine/\(∀v,aK kvs k=some v->Q v H)/\(aK kvs k=none->Q y (upd H a (.dK (aW kvs k y))))
theorem zr:MtR X "dict.setdefault" CD:=by
 intro pins s σ H x vs v us Q I rx rv h;obtain⟨a,kvs,k,y,rfl,rfl,hH,hl,q1,q2⟩:=h;cases rx;obtain⟨u,r,rfl,ru,rr⟩:=sU rv;obtain⟨z,hd,ws,rel,dd⟩:=jm I.hok hH;have rk:=rel.val k;refine call_meetsIn XY dd.typeIs PySem.F.entry_dict_setdefault (PySem.F.args_dict_setdefault_3 _ _ _) (kt_meets_setdefault (aU X.prog X.w) a (pc ru) hd r) ⟨ws,dd,by rw[<-rel.length];exact z,λv hv=>?_,λhn h' dd' hs=>?_⟩
 .rw[hv]at rk;cases e:aK kvs k with
  |none=>rw[e]at rk;exact rk.elim
  |some x=>
   rw[e]at rk;exact⟨x,H,I.tok _,rk,q1 x e⟩
 .rw[hn]at rk;cases e:aK kvs k with
  |some x=>rw[e]at rk;exact rk.elim
  |none=>
   have he:∃q,h'.get? a=some q:=let⟨q,_,_,hq,_⟩:=dd';⟨q,hq⟩
   have lp:=dH kvs k y;exact⟨y,_,qb I (by rw[hH];exact True.intro) hs he (xC (by lia) hd (rel.put k rr) dd'),rr,q2 e⟩
end
end
section
end
section
def vwV (a d:Addr):HO:= .ext λh=>h.IsValuesView a d
def Itw (ob:Obj) (d:Addr) (kvs:List (Key×V)):It:=
 ⟨λi H=>H d=some (.frz ob (.dK kvs))/\i<kvs.length,λi H x H'=>H'=H/\∃k,kvs[i]?=some (k,x),λi H=>H d=some (.frz ob (.dK kvs))/\kvs.length<=i⟩
theorem y7 {d:Addr} {ep:Nat} (it:Addr) (D:Fe P w ob d kvs vs ep):
  xK P w K tg (Itw ob d kvs) [it] it (λi h=>h.IsValIter it d i vs.length ep) where
 mem:=by simp
 obj:=λi h st b hb=>by
  have z:b=it:=by simpa using hb
  subst z;obtain⟨o,e,c,dd⟩:=st;exact⟨o,e,λv z=>by rw[dd]at z;cases z⟩
 keep:=λi h h' st k=>by
  obtain⟨o,e,r⟩:=st;exact⟨o,k it (by simp) _ e,r⟩
 item:=by
  intro X hP hw hK hc i pins s σ H E I hf st hg;subst hP hw hK;obtain⟨hq,hi⟩:=hg;obtain⟨f0,f1,f2,f3,f4,f5⟩:=hf it (by simp);obtain⟨hob,_⟩:=I.hok d _ hq;have hat:=D.2 s.heap hob;obtain⟨⟨k,v⟩,hx⟩:∃kv,kvs[i]?=some kv:=⟨kvs[i],by simp[hi]⟩;obtain⟨u,hu,ru⟩:=KV.getI D.1 hx;refine wpAny_pyNext_values_item st hat hu λh' st' sb=>?_;have I1:Inv X pins σ H {s with heap:=h'}:=I.turned (t':=s.toks) (λb o hb e=>(sb.2 b hb).trans e) f0 f1 f3 f4 f5;obtain⟨o,e,c,dd⟩:=id st';exact⟨u,rfl,wn (s:={s with heap:=h'}) e c dd (by decide) ⟨v,H,I1,ru,⟨rfl,k,hx⟩,st',λb hb=>(hf b hb).1⟩⟩
 done:=by
  intro X hP hw hK hc i pins s σ H E I hf st hg;subst hP hw hK;obtain⟨hq,hi⟩:=hg;obtain⟨hob,_⟩:=I.hok d _ hq;have hat:=D.2 s.heap hob;obtain⟨f0,f1,f2,f3,f4,f5⟩:=hf it (by simp);have hl:kvs.length=vs.length:=D.1.length;exact wpAny_pyNext_values_end (I.ok.hd hc) st hat (by simp;lia) λh' eb=>⟨rfl,I.turned (t':=s.toks) (λb o hb e=>eb b o hb e) f0 f1 f3 f4 f5⟩
 self:=λ_ _ _ _ _ st h=>wpAny_pyIter_valiter st h
section
def Fy:V->List V->Hp->VK->Prop:=λx vs H Q=>∃d kvs,x= .ref d/\vs=[]/\H d=some (.dK kvs)/\∀a,H a=none->Q (.ref a) (upd H a (vwV a d))
theorem zq:MtR X "dict.values" Fy:=by
 intro pins s σ H x vs v us Q I rx rv h;obtain⟨d,kvs,rfl,rfl,hd,q⟩:=h;cases rx;cases rv;obtain⟨z,lo,ws,rel,dd⟩:=jm I.hok hd;refine call_meetsIn PySem.F.slot_dict_values dd.typeIs PySem.F.entry_dict_values (PySem.F.args_dict_values_1 _) (meets_dict_values (aU X.prog X.w) d lo) ⟨⟨ws,dd⟩,?_⟩;have new:(s.heap.push {cls:= .type "dict_values",data:= .fields #[.ref d]}).get? s.heap.objs.size=some {cls:= .type "dict_values",data:= .fields #[.ref d]}:=Heap.get?_push_size _ rfl;refine⟨.ref s.heap.objs.size,_,I.laid (t':=s.toks) (λb o e=>Heap.get?_push_of_some _ e) (Q5 _) (show ObjOk X.prog X.w _ _ _ (vwV s.heap.objs.size d) from⟨⟨_,new,rfl,rfl⟩,⟨_,new⟩,λh1 h2 p k=>?_⟩),rfl,q _ (I.hok.fresh (Q5 _))⟩;obtain⟨o,e,c⟩:=p;exact⟨o,k o e,c⟩
def FP (te:TE):TI:=λσ H R=>te σ H λx H1=>∃a d kvs,x= .ref a/\H1 a=some (vwV a d)/\H1 d=some (.dK kvs)/\∀ob,R (Itw ob d kvs) (upd H1 d (.frz ob (.dK kvs)))
theorem CM {l:Expr} (hl:PE X l te):PI X tg l (FP te):=by
 intro pins s σ H R I h;refine thn (hl pins s σ H _ I h) λv s1 hzz=>?_;obtain⟨x,H1,I1,r1,q1⟩:=hzz;obtain⟨a,d,kvs,e,ha,hd,q⟩:=q1;subst e;cases r1;obtain⟨z,lo,vs,rel,dd⟩:=jm I1.hok hd;obtain⟨ep,hat⟩:=dd.dictAt;obtain⟨vw,_,_⟩:=(show ObjOk X.prog X.w H1 s1.heap a (vwV a d) from I1.hok a _ ha);obtain⟨ob,es,hob,rest⟩:=id hat;refine wpAny_pyIter_values vw hat ?_;have If:=I1.freeze hd hob;refine⟨s1.heap.objs.size,[s1.heap.objs.size],_,_,_,rfl,If.kept (t':=s1.toks) λb o e=>Heap.get?_push_of_some _ e,y7 _ ⟨rel,λh e=>⟨ob,es,e,rest⟩⟩,⟨_,Heap.get?_push_size _ rfl,rfl,rfl⟩,λb hb=>?_,q ob⟩;have e:b=s1.heap.objs.size:=by simpa using hb
 subst e;exact If.fpOk (Q5 _) (If.hok.fresh (Q5 _))
theorem C3 (hu:X.A.units+1<cLine):MtR X "dict.get" (λx vs H Q=>∃a y o z,x= .ref a/\vs=[y,z]/\DGet H a y o/\Q (o.getD z) H):=by
 intro pins s σ H x vs v us Q I rx rv h;obtain⟨a,y,o,z,rfl,rfl,g,q⟩:=h;cases rx;obtain⟨u,r,rfl,ru,rr⟩:=sU rv;exact E2 hu I g ru rr λw' s' I' r'=>⟨_,H,I',r',q⟩
end
theorem Bq {d:Addr} (Pv:Nat->St->Hp->Prop) (h0:Pv 0 σ H) (hl:∀i σ H,i<=kvs.length->Pv i σ H->H d=some (.frz ob (.dK kvs)))
  (hs:∀i k v σ H,kvs[i]?=some (k,v)->Pv i σ H->g v σ H λσ2 H2=>tb ⟨Pv (i+1),rt,nx,Pv (i+1)⟩ σ2 H2) (hd:∀σ H,Pv kvs.length σ H->nx σ H):
  ∃W:Nat->Nat->St->Hp->Prop,(∃m,W 0 m σ H)/\∀i m σ H,W i m σ H->
   ((Itw ob d kvs).stop i H/\nx σ H)\/((Itw ob d kvs).go i H/\∃N:St->Hp->Prop,(∀σ' H',N σ' H'->∃m',m'<m/\W (i+1) m' σ' H')/\∀x H',(Itw ob d kvs).yld i H x H'->g x σ H' λσ2 H2=>tb ⟨N,rt,nx,N⟩ σ2 H2):=by
 refine⟨λi m σ H=>m=kvs.length-i/\i<=kvs.length/\Pv i σ H,⟨kvs.length,by simp,Qi _,h0⟩,?_⟩;rintro i m σ H ⟨rfl,hi,p⟩;have q:=hl i σ H hi p;by_cases lt:i<kvs.length
 .refine .inr ⟨⟨q,lt⟩,Pv (i+1),λσ' H' z=>⟨kvs.length-(i+1),by lia,rfl,lt,z⟩,λx H' y=>?_⟩;obtain⟨rfl,k,e⟩:=y;exact hs i k x σ _ e p
 .have e:i=kvs.length:=by lia
  subst e;exact .inl ⟨⟨q,Q5 _⟩,hd σ H p⟩
end
section
section
def vwK (a d:Addr):HO:= .ext λh=>PySem.W.KdlKeysView h a d
def FA:V->List V->Hp->VK->Prop:=λx vs H Q=>∃d kvs,x= .ref d/\vs=[]/\H d=some (.dK kvs)/\∀a,H a=none->Q (.ref a) (upd H a (vwK a d))
theorem yj:MtR X "dict.keys" FA:=by
 intro pins s σ H x vs v us Q I rx rv h;obtain⟨d,kvs,rfl,rfl,hd,q⟩:=h;cases rx;cases rv;obtain⟨z,lo,ws,rel,dd⟩:=jm I.hok hd;refine call_meetsIn Xh dd.typeIs PySem.F.entry_dict_keys (PySem.F.args_dict_keys_1 _) (PySem.W.kdl_meets_keys (aU X.prog X.w) d lo) ⟨⟨ws,dd⟩,?_⟩;have new:(s.heap.push {cls:= .type "dict_keys",data:= .fields #[.ref d]}).get? s.heap.objs.size=some {cls:= .type "dict_keys",data:= .fields #[.ref d]}:=Heap.get?_push_size _ rfl;refine⟨.ref s.heap.objs.size,_,I.laid (t':=s.toks) (λb o e=>Heap.get?_push_of_some _ e) (Q5 _) (show ObjOk X.prog X.w _ _ _ (vwK s.heap.objs.size d) from⟨⟨_,new,rfl,rfl⟩,⟨_,new⟩,λh1 h2 p k=>?_⟩),rfl,q _ (I.hok.fresh (Q5 _))⟩;obtain⟨o,e,c⟩:=p;exact⟨o,k o e,c⟩
theorem nu (hh:X.A.handled=none):iM X (.builtin "sorted") (λxs H Q=>∃(a d:Addr) (kvs:List (Key×V)) (ns:List Int),xs=[.ref a]/\H a=some (vwK a d)/\H d=some (.dK kvs)/\mX kvs=ns.map V.int/\
  ∀(l:Addr) (ms:List Int),H l=none->ms.Perm ns->ms.Pairwise (· <= ·)->Q (.ref l) (upd H l (.lst (ms.map V.int)))):=by
 intro pins s σ H xs us Q I r h;obtain⟨a,d,kvs,ns,rfl,ha,hd,hns,q⟩:=h;obtain⟨u,rfl,ru⟩:=oR r;cases ru;obtain⟨z,lo,vs,rel,dd⟩:=jm I.hok hd;obtain⟨ep,hat⟩:=dd.dictAt;obtain⟨vw,_,_⟩:=(show ObjOk X.prog X.w H s.heap a (vwK a d) from I.hok a _ ha);exact oS hh I rel z (PySem.W.kdl_keys (knd:=aU X.prog X.w) (kvs:=vs) (ep:=ep)) ⟨vw,hat⟩ hns q
end
end
section
theorem zV (a d:Value):argsOk "min" ⟨[a],[("default",d)]⟩:=by unfold argsOk;kernel_rfl
section
variable {prog:Program} {A:Around}
theorem C4 {I S:Addr} {fp wr:List Addr} {n:Nat} {P:Nat->Value->Prop} {St:Nat->Heap->Prop} (W:Walks prog w A.in1 I fp wr n P St) (hcmp:CmpOf prog w A.in1 .Lt P bt) (hSf:S∉fp):
  ∀(k j:Nat) (s:Shared) (old:List Value) (c:Nat),n-j=k->j<=n->St j s.heap->(j=0/\old=[]\/∃i vb,j=i+1/\old=[vb,vb]/\P (argBest bt i) vb)->
  s.heap.get? S=some {cls:= .type "list",dict:=none,data:= .seq old.toArray c,slots:= #[]}->
  (∀v h' tk,(n=0/\v=d\/0<n/\P (argBest bt (n-1)) v)->(∀b o,b∉wr->b≠S->s.heap.get? b=some o->h'.get? b=some o)->R (.ok (.ret v)) {s with heap:=h',toks:=tk})->
  codeAny (model prog w) A (.builtin "min.loop" ⟨[.ref I,.none,.ref S],[("default",d)]⟩) R s:=by
 have hSw:S∉wr:=λh=>hSf (W.sub _ h);have hname:(toString "min"++toString ".loop":String)="min.loop":=by decide
 intro k
 induction k with
 |zero=>
  intro j s old c hk hj hst ho hS hR;have hin:j=n:=by lia
  refine codeAny_builtin F.entry_min_loop ?_;rw[Around.under_plainId F.plain_min_loop _];show wpAny _ A.in1 (seqItems? (.ref S)>>=_) _ _ s;refine wpAny_bind (wpAny_seqItems hS rfl ?_);show wpAny _ A.in1 (tryCatch (pyNext (.ref I)) _>>=_) _ _ s;refine wpAny_bind (wpAny_tryCatch (W.done s _ _ (hin▸hst) λh' tk hk'=>?_));have hS':=hk' S _ hSw hS;rcases ho with⟨h0,rfl⟩|⟨i,vb,h0,rfl,hP⟩
  .refine wpAny_bind (wpAny_rule (wpAny_pure (hR d _ tk (.inl ⟨by lia,rfl⟩) λb o hbw _ e=>hk' b o hbw e)))
  .show wpAny _ A.in1 (updateSeq S (λ_=> #[])>>=_) _ _ _;refine wpAny_bind (wpAny_updateSeq hS' rfl (wpAny_bind (wpAny_letGo (wpAny_pure (hR vb _ tk (.inr ⟨by lia,?_⟩) λb o hbw hbS e=>(Heap.get?_update_other _ _ (Ne.symm hbS)).trans (hk' b o hbw e))))));have:n-1=i:=by lia
   rw[this];exact hP
 |succ k ih=>
  intro j s old c hk hj hst ho hS hR;have hlt:j<n:=by lia
  refine codeAny_builtin F.entry_min_loop ?_;rw[Around.under_plainId F.plain_min_loop _];show wpAny _ A.in1 (seqItems? (.ref S)>>=_) _ _ s;refine wpAny_bind (wpAny_seqItems hS rfl ?_);show wpAny _ A.in1 (tryCatch (pyNext (.ref I)) _>>=_) _ _ s;refine wpAny_bind (wpAny_tryCatch (W.item j s _ _ hlt hst λv h' tk hP hst' hk'=>?_));have hS':=hk' S _ hSw hS;have up:∀{o:Obj->Obj},(∀v' h'' tk'',(n=0/\v'=d\/0<n/\P (argBest bt (n-1)) v')->(∀b o',b∉wr->b≠S->(h'.update S o).get? b=some o'->h''.get? b=some o')->R (.ok (.ret v')) {s with heap:=h'',toks:=tk''}):=λ{o} v' h'' tk'' hP' hk''=>
   hR v' h'' tk'' hP' λb o' hbw hbS e=>hk'' b o' hbw hbS ((Heap.get?_update_other _ _ (Ne.symm hbS)).trans (hk' b o' hbw e))
  have fr:∀{o:Obj->Obj},St (j+1) (h'.update S o):=λ{o}=>W.frame _ _ _ hst' λb hbf o e=>(Heap.get?_update_other _ _ (λh:S=b=>hSf (by rw[h];exact hbf))).trans e;rcases ho with⟨rfl,rfl⟩|⟨i,vb,rfl,rfl,hPb⟩
  .show wpAny _ A.in1 (updateSeq S (λ_=> #[v,v])>>=_) _ _ _;refine wpAny_bind (wpAny_updateSeq hS' rfl ?_);rw[hname];exact wpAny_pure ⟨plainId_quiet F.plain_min_loop _,ih 1 _ [v,v] _ (by lia) hlt fr (.inr ⟨0,v,rfl,rfl,hP⟩) (Heap.get?_update_self _ hS' rfl) up⟩
  .show wpAny _ A.in1 (tryCatch (holding [v,v] (richCompare .Lt v vb>>=_)) _>>=_) _ _ _;refine wpAny_bind (wpAny_tryCatch (wpAny_holding (wpAny_bind (hcmp (i+1) (argBest bt i) v vb _ _ _ hP hPb ?_))));refine wpAny_bind (wpAny_holding (wpAny_truthy_bool ?_));refine wpAny_bind (wpAny_letGo (wpAny_pure ?_));cases hb:bt (i+1) (argBest bt i)with
   |true=>
    simp only[if_true];refine wpAny_bind (wpAny_updateSeq hS' rfl (wpAny_bind (wpAny_letGo ?_)));rw[hname];exact wpAny_pure ⟨plainId_quiet F.plain_min_loop _,ih (i+2) _ [v,v] _ (by lia) hlt fr (.inr ⟨i+1,v,rfl,rfl,by simp only[argBest,hb,if_true];exact hP⟩) (Heap.get?_update_self _ hS' rfl) up⟩
   |false=>
    simp only[QS,if_false];refine wpAny_bind (wpAny_letGo ?_);rw[hname];exact wpAny_pure ⟨plainId_quiet F.plain_min_loop _,ih (i+2) _ [vb,vb] c (by lia) hlt hst' (.inr ⟨i+1,vb,rfl,rfl,by simp only[argBest,hb,QS,if_false];exact hPb⟩) hS' λv' h'' tk'' hP' hk''=>hR v' h'' tk'' hP' λb o hbw hbS e=>hk'' b o hbw hbS (hk' b o hbw e)⟩
theorem zT {s:Shared} {l:Addr} {xs:Array (Int×Tok)} (hh:A.handled=none) (hl:s.heap.IsList l (intItems xs))
  (h:∀v h' tk,(xs.size=0/\v=d\/0<xs.size/\(intItems xs)[argBest (λi j=>decide (numAt xs i<numAt xs j)) (xs.size-1)]?=some v)->(∀b o,s.heap.get? b=some o->h'.get? b=some o)->Q v {s with heap:=h',toks:=tk}):
  wpAny (model prog w) A (call (.builtin "min") [.ref l] [("default",d)]) Q E s:=by
 have hname:(toString "min"++toString ".loop":String)="min.loop":=by decide
 refine wpAny_call (codeAny_call_builtin F.plain_min F.entry_min ?_);simp only[checkBuiltinCall,F.kind_min];have hc:wpAny (model prog w) A.in1 (Builtin.«min» ⟨[.ref l],[("default",d)]⟩) (λfin s'=>match fin with
   | .done f=>(match (Except.ok f:Result)with| .ok (.ret v)=>Q v s'| .ok _=>False| .error e=>E e s')
   | .again c'=>c'.quiet=true/\codeAny (model prog w) A c' (λr s'=>match r with| .ok (.ret v)=>Q v s'| .ok _=>False| .error e=>E e s') s') E s:=by
  show wpAny _ A.in1 (Builtin.Builtins.bindParams "min" ["key","default"] 0 ⟨[],[("default",d)]⟩>>=_) _ _ s;refine wpAny_bind (wpAny_of_eq (show Builtin.Builtins.bindParams "min" ["key","default"] 0 ⟨[],[("default",d)]⟩=pure [none,some d] from rfl) ?_);refine wpAny_bind (wpAny_pure (wpAny_bind (iter_intList hl λs₂ e st hfp hlI=>?_)));subst e;refine wpAny_bind (wpAny_newObj_type ?_);rw[hname];have W:=Walks.list (prog:=prog) (w:=w) (A:=A.in1) hh _ l hlI (intItems xs);have hSf:=λhm=>ZA _ (hfp _ hm);refine wpAny_pure ⟨plainId_quiet F.plain_min_loop _,C4 W (CmpOf.ints_lt (numAt xs) (λ_ _=>intItems_at)) hSf _ 0 _ [] 0 rfl (Qi _) (W.frame _ _ _ st λb _ o e=>Heap.get?_push_of_some _ e) (.inl ⟨rfl,rfl⟩) (Heap.get?_push_size _ rfl) λv h' tk hP hk=>?_⟩;refine h v h' tk (by simpa[intItems]using hP) (old_kept λb o hbw e=>hk b o hbw (Qv (Heap.lt_size e)) (Heap.get?_push_of_some _ e))
 cases hsig:Manifest.signature? "min" with
 |none=>exact wpAny_pure hc
 |some sig=>
  have ha:=zV (.ref l) d;simp only[argsOk,hsig]at ha;simp only[ha];exact wpAny_pure hc
end
section
variable {e v:Expr} {td:TE} {p kp:Pos}
def Fn (K:PySem.W.Frag) (te td:TE):TE:=λσ H Q=>te σ H λx H1=>td σ H1 λy H2=>∃(p:Addr) (ns:List Int),x= .ref p/\SqL K H2 p (ns.map V.int)/\(ns=[]->Q y H2)/\∀M,M∈ns->(∀a∈ns,M<=a)->Q (.int M) H2
theorem CT (K:PySem.W.Frag) (hK:X.K=K) (hc:X.calm=true) (hg:Gl X "min") (hm:X.mg "min"=none) (he:PE X e te) (hd:PE X v td) (h1:starEach [e] X.env=(false,eval e X.env)::starEach [] X.env:=by rfl) (h2:backTo pos (starEach [e] X.env)=(false,eval e X.env)::backTo pos (starEach [] X.env):=by rfl) (h3:(backTo pos (starEach [e] X.env)).any (·.1)=false:=by rfl):
  PE X (.Call (.Name "min" p) [e] [⟨some "default",v,kp⟩] pos) (Fn K te td):=by
 subst hK;intro pins s σ H Q I h;refine wpAny_Call_Name_kw (oz I hg hm rM ?_ (by decide) (by decide));refine callWith_kw (thn (aa he ag h1 pos pins s σ H (λvs H1=>match vs with| [x]=>td σ H1 λy H2=>∃(p:Addr) (ns:List Int),x= .ref p/\SqL X.K H2 p (ns.map V.int)/\(ns=[]->Q y H2)/\∀M,M∈ns->(∀a∈ns,M<=a)->Q (.int M) H2|_=>False) I ?_) λus s1 ⟨vs,H1,I1,r1,q1⟩=>?_) h2 h3
 .exact h
 .match vs,r1,q1 with
  | [x],r1,q1=>
   obtain⟨u,rfl,ru⟩:=oR r1;refine kws_cons (thn (hd pins s1 σ H1 _ I1 q1) λu2 s2 ⟨y,H2,I2,ry,q2⟩=>kws_nil ?_);obtain⟨l,ns,rfl,hq,q3,q4⟩:=q2;cases ru;obtain⟨its,rv,pl,hz⟩:=I2.list hq;have hi:IntsAre its ns:=rD rv;obtain⟨xs,e⟩:=hi.allInts.items;have hns:ns=xs.toList.map (·.1):=by
    rw[<-hi.numsOf,<-nums_intItems,<-e]
   have hl:=pl.isList;rw[e]at hl;have hsz:ns.length=xs.size:=by rw[hns,Q0,Q8]
   refine zT (I2.ok.hd hc) hl λw h' tk hw hk=>?_;rcases hw with⟨h0,rfl⟩|⟨h0,hw⟩
   .exact⟨y,H2,I2.kept (t':=tk) hk,ry,q3 (ZQ.mp (by lia))⟩
   .obtain⟨t,rfl⟩:=intItems_at hw;obtain⟨g1,g2⟩:=argBest_lt (numAt xs) (xs.size-1);refine⟨.int _,H2,I2.kept (t':=tk) hk,⟨t,rfl⟩,q4 _ ?_ λa ha=>?_⟩
    .rw[hns,numAt_eq];exact getD_mem (by rw[Q0,Q8];lia)
    .rw[hns]at ha;obtain⟨j,hj,rfl⟩:=mem_getD ha;rw[Q0,Q8]at hj;rw[<-numAt_eq];exact g2 j (by lia)
end
end
section
def Itv (K:PySem.W.Frag) (a:Addr) (n:Nat):It:=
 ⟨λi H=>i<n/\∃xs x,SqL K H a xs/\xs[n-1-i]?=some x,λi H x H'=>H'=H/\∀xs,SqL K H a xs->xs[n-1-i]?=some x,λi _=>n<=i⟩
theorem Ak (a it:Addr) (n:Nat):xK P w K tg (Itv K a n) [it] it (λi h=>i<=n/\h.IsRevIter it a ((n:Int)-1-(i:Int))) where
 mem:=by simp
 obj:=λi h st b hb=>by
  have e:b=it:=by simpa using hb
  subst e;obtain⟨_,o,e,c,d⟩:=st;exact⟨o,e,λv z=>by rw[d]at z;cases z⟩
 keep:=λi h h' st k=>⟨st.1,st.2.at λo e=>k it (by simp) o e⟩
 item:=by
  intro X hP hw hK hc i pins s σ H E I hf st hg;subst hP hw hK;obtain⟨hi,xs,x,hq,hx⟩:=hg;obtain⟨its,rv,p,hz⟩:=I.list hq;obtain⟨u,hu,ru⟩:=rv.get hx;obtain⟨f0,f1,f2,f3,f4,f5⟩:=hf it (by simp);have e1:(n:Int)-1-(i:Int)=((n-1-i:Nat):Int):=by lia
  have hit:=st.2;rw[e1]at hit;refine wpAny_pyNext_rev_item hit p.isList (x:=u) (by simpa using hu) λh' st' sb=>?_;have e2:((n-1-i:Nat):Int)-1=(n:Int)-1-((i+1:Nat):Int):=by lia
  rw[e2]at st';have I1:Inv X pins σ H {s with heap:=h'}:=I.turned (t':=s.toks) (λb o hb e=>(sb.2 b hb).trans e) f0 f1 f3 f4 f5;obtain⟨o,e,c,d⟩:=id st';exact⟨u,rfl,wn (s:={s with heap:=h'}) e c d (by decide) ⟨x,H,I1,ru,⟨rfl,λys hy=>by rw[I.list_inj hy hq];exact hx⟩,⟨hi,st'⟩,λb hb=>(hf b hb).1⟩⟩
 done:=by
  intro X hP hw hK hc i pins s σ H E I hf st hg;subst hP hw hK;obtain⟨f0,f1,f2,f3,f4,f5⟩:=hf it (by simp);have hit:=st.2;have hn:n<=i:=hg;have e:(n:Int)-1-(i:Int)= -1:=by have:=st.1;lia
  rw[e]at hit;exact wpAny_pyNext_rev_end (I.ok.hd hc) hit λh' eb=>⟨rfl,I.turned (t':=s.toks) (λb o hb e=>eb b o hb e) f0 f1 f3 f4 f5⟩
 self:=λ_ _ _ _ _ st h=>wpAny_pyIter_revIter st.2 h
section
def iRev (K:PySem.W.Frag) (ta:TA):TI:=λσ H R=>ta σ H λvs H1=>∃a xs,vs=[.ref a]/\SqL K H1 a xs/\R (Itv K a xs.length) H1
theorem AB {a:Expr} {ta:TA} {p:Pos} (hg:Gl X "reversed") (hm:X.mg "reversed"=none) (ha:PA X [a] ta) (hs:starEach [a] X.env=[(false,eval a X.env)]:=by rfl):PI X tg (.Call (.Name "reversed" p) [a] [] pos) (iRev X.K ta):=by
 intro pins s σ H R I h;refine Call_ (oz I hg hm Boot.«reversed» (PyProof.Rows.callWith_type1 (thn (ha pos pins s σ H _ I h) λus s1 hzz=>?_) hs rfl));obtain⟨vs,H1,I1,r1,q1⟩:=hzz;obtain⟨b,xs,e,hq,q⟩:=q1;subst e;cases r1 with
 |cons r rr=>
  cases rr;cases r;obtain⟨its,rv,p,hz⟩:=I1.list hq;have hl:=rv.length;refine call_reversed_list p.isList ?_;refine wpAny_pyIter_revIter (l:=b) (i:=(its.toArray.size:Int)-1) ⟨_,Heap.get?_push_size _ rfl,rfl,rfl⟩ ?_;refine⟨s1.heap.objs.size,[s1.heap.objs.size],_,_,H1,rfl,I1.kept (t':=s1.toks) λb o e=>Heap.get?_push_of_some _ e,Ak b _ xs.length,⟨Qi _,?_⟩,λb hb=>?_,q⟩
  .have e:(xs.length:Int)-1-((0:Nat):Int)=(its.toArray.size:Int)-1:=by simp;lia
   rw[e];exact⟨_,Heap.get?_push_size _ rfl,rfl,rfl⟩
  .have e:b=s1.heap.objs.size:=by simpa using hb
   subst e;exact I1.fpOk (Q5 _) (I1.hok.fresh (Q5 _))
end
theorem zR {D:Addr} {tc:TT} {H1:Hp} {Fin:Hp->Prop} (Pv:Nat->List V->Hp->Prop) (h0:Pv 0 [] (upd H1 D (.lst []))) (hl:∀i ys H,i<=xs.length->Pv i ys H->SqL K H a xs)
  (hs:∀i x ys H2,xs.reverse[i]?=some x->Pv i ys H2->H2 D=some (.lst ys)->tc (some x::σ) H2 λb H4=>if b=true then te (some x::σ) H4 (CNext xs.length i ys D Pv)else CSkip xs.length i ys D Pv H4)
  (hd:∀ys H2,Pv xs.length ys H2->H2 D=some (.lst ys)->Fin H2):
  ∃W:Nat->Nat->List V->Hp->Prop,(∃m,W 0 m [] (upd H1 D (.lst [])))/\∀i m ys H2,W i m ys H2->H2 D=some (.lst ys)->
   ((Itv K a xs.length).stop i H2/\Fin H2)\/((Itv K a xs.length).go i H2/\∀x H3,(Itv K a xs.length).yld i H2 x H3->tc (some x::σ) H3 λb H4=>if b=true then te (some x::σ) H4 λy H5=>H5 D=some (.lst ys)/\ys.length<sizeLine/\∃m',m'<m/\W (i+1) m' (ys++ [y]) (upd H5 D (.lst (ys++ [y])))else H4 D=some (.lst ys)/\∃m',m'<m/\W (i+1) m' ys H4):=by
 refine⟨λi m ys H=>m=xs.length-i/\i<=xs.length/\Pv i ys H,⟨xs.length,by simp,Qi _,h0⟩,?_⟩;rintro i m ys H ⟨rfl,hi,p⟩ hD;have q:=hl i ys H hi p;by_cases lt:i<xs.length
 .refine .inr ⟨⟨lt,xs,xs[xs.length-1-i]'(by lia),q,Q4 _⟩,λx H' y=>?_⟩;obtain⟨e,y⟩:=y;subst e;exact hs i x ys _ (by rw[List.getElem?_reverse lt];exact y xs q) p hD
 .have e:i=xs.length:=by lia
  subst e;exact .inl ⟨Q5 _,hd ys H p hD⟩
theorem Di (Pv:Nat->St->Hp->Prop) (h0:Pv 0 σ H) (hl:∀i σ H,i<=xs.length->Pv i σ H->SqL K H a xs)
  (hs:∀i x σ H,xs.reverse[i]?=some x->Pv i σ H->g x σ H λσ2 H2=>tb ⟨Pv (i+1),rt,nx,Pv (i+1)⟩ σ2 H2) (hd:∀σ H,Pv xs.length σ H->nx σ H):
  ∃W:Nat->Nat->St->Hp->Prop,(∃m,W 0 m σ H)/\∀i m σ H,W i m σ H->
   ((Itv K a xs.length).stop i H/\nx σ H)\/((Itv K a xs.length).go i H/\∃N:St->Hp->Prop,(∀σ' H',N σ' H'->∃m',m'<m/\W (i+1) m' σ' H')/\∀x H',(Itv K a xs.length).yld i H x H'->g x σ H' λσ2 H2=>tb ⟨N,rt,nx,N⟩ σ2 H2):=by
 refine⟨λi m σ H=>m=xs.length-i/\i<=xs.length/\Pv i σ H,⟨xs.length,by simp,Qi _,h0⟩,?_⟩;rintro i m σ H ⟨rfl,hi,p⟩;have q:=hl i σ H hi p;by_cases lt:i<xs.length
 .refine .inr ⟨⟨lt,xs,xs[xs.length-1-i]'(by lia),q,Q4 _⟩,Pv (i+1),λσ' H' z=>⟨xs.length-(i+1),by lia,rfl,lt,z⟩,λx H' y=>?_⟩;obtain⟨e,y⟩:=y;subst e;exact hs i x σ _ (by rw[List.getElem?_reverse lt];exact y xs q) p
 .have e:i=xs.length:=by lia
  subst e;exact .inl ⟨Q5 _,hd σ H p⟩
end
section
def sY (xs:List V) (lo hi:Option Int) (st:Int):List V:=
 (sliceRange (sliceBounds lo hi (some st) xs.length).1 (sliceBounds lo hi (some st) xs.length).2.1 (sliceBounds lo hi (some st) xs.length).2.2).filterMap (xs[·]?)
theorem Ag {us:List Value} (r:Vals xs us):∀k:Nat,(xs[k]?=none/\us[k]?=none)\/∃x u,xs[k]?=some x/\us[k]?=some u/\RelV x u:=by
 induction r with
 |nil=>exact λk=> .inl ⟨by simp,by simp⟩
 |cons r1 r2 ih=>
  intro k;cases k with
  |zero=>exact .inr ⟨_,_,rfl,rfl,r1⟩
  |succ k=>rw[QX,QX];exact ih k
theorem nO {xs:List V} {us:List Value} (r:Vals xs us):∀idx:List Nat,Vals (idx.filterMap (xs[·]?)) (idx.filterMap (us[·]?))
 | []=> .nil
 |k::l=>by
  rcases Ag r k with⟨h1,h2⟩|⟨x,u,h1,h2,h3⟩
  .rw[List.filterMap_cons_none h1,List.filterMap_cons_none h2];exact nO r l
  .rw[List.filterMap_cons_some h1,List.filterMap_cons_some h2];exact .cons h3 (nO r l)
theorem zc (xs:List V):sY xs none none (-1)=xs.reverse:=by
 unfold sY;rw[PySem.W.krv_bounds];show(sliceRange ((xs.length:Int)-1) (-1) (-1)).filterMap (xs[·]?)=_;rw[PySem.W.krv_sliceRange,PySem.W.krv_range,List.filterMap_reverse];have h:=PySem.W.krv_all xs.toArray;have e:(λx:Nat=>xs.toArray[x]?)=λx=>xs[x]?:=funext λx=>List.getElem?_toArray;rw[e,Qc]at h;rw[h]
section
variable {e est:Expr} {ts:TE} {lo hi:Option Expr} {tl th:TO} {p2:Pos}
def rStL (K:PySem.W.Frag):V->Option Int->Option Int->Option Int->Hp->VK->Prop:=λx l u o H Q=>∃a xs st,x= .ref a/\o=some st/\st≠0/\SqL K H a xs/\∀p,H p=none->Q (.ref p) (upd H p (.lst (sY xs l u st)))
def Fj (K:PySem.W.Frag) (te:TE) (tl th:TO) (ts:TE):TE:=λσ H Q=>te σ H λx H1=>tl σ H1 λl H2=>th σ H2 λu H3=>DF ts σ H3 λo H4=>rStL K x l u o H4 Q
theorem CS (he:PE X e te) (hl:PO X lo tl) (hu:PO X hi th) (hs:PE X est ts):PE X (.Subscript e (.Slice lo hi (some est) p2) pos) (Fj X.K te tl th ts):=by
 intro pins s σ H Q I h;refine Subscript_ (thn (he pins s σ H _ I h) λv s1 hzz=>?_);obtain⟨x,H1,I1,r1,q1⟩:=hzz;refine wpAny_Slice (thn (hl pins s1 σ H1 _ I1 q1) λvl s2 ⟨l,H2,I2,pl,q2⟩=>thn (hu pins s2 σ H2 _ I2 q2) λvu s3 ⟨u,H3,I3,pu,q3⟩=>thn (cK hs pins s3 σ H3 _ I3 q3) λvs s4 hzz=>?_);obtain⟨o,H4,I4,ps,q4⟩:=hzz;have I5:Inv X pins σ H4 {s4 with heap:=s4.heap.push {cls:= .type "slice",data:= .fields #[vl,vu,vs]}}:=I4.kept (t':=s4.toks) λb ob q=>Heap.get?_push_of_some _ q;obtain⟨a,xs,st,ex,eo,h0,hx,q⟩:=q4;subst ex;subst eo;obtain rfl:v=Value.ref a:=r1;obtain⟨its,r,ht,hz⟩:=I5.list hx;have hlen:=r.length;show wpAny (model X.prog X.w) X.A (subscriptTail e (.Slice lo hi (some est) p2) (.ref a) (.ref s4.heap.objs.size)) (EP X pins σ Q) X.xe {s4 with heap:=s4.heap.push {cls:= .type "slice",data:= .fields #[vl,vu,vs]}};refine tail_any (ops:=[.ref a,.ref s4.heap.objs.size]) ht.isList.typeIs slot_list_getitem.lookup (wpAny_getItem_list_slice ht.isList (Heap.IsSliceOf.new ..) pl pu ps (by intro z;exact h0 (Option.some.inj z)) ?_ (by rw[Qc]<;>lia)) (by with_unfolding_all rfl);have ep:slicePick its.toArray l u (some st)=((sliceRange (sliceBounds l u (some st) xs.length).1 (sliceBounds l u (some st) xs.length).2.1 (sliceBounds l u (some st) xs.length).2.2).filterMap (its[·]?)).toArray:=by
  unfold slicePick;have ef:(λx:Nat=>its.toArray[x]?)=λx=>its[x]?:=funext λx=>List.getElem?_toArray;rw[Qc,<-hlen,ef]
 have le:=slicePick_size_le its.toArray l u (some st);rw[ep,Qc,Qc]at le;rw[ep];have rv:=nO r (sliceRange (sliceBounds l u (some st) xs.length).1 (sliceBounds l u (some st) xs.length).2.1 (sliceBounds l u (some st) xs.length).2.2);refine⟨.ref _,_,I5.laid (t':=s4.toks) (o:= .lst (sY xs l u st)) (λb ob q=>Heap.get?_push_of_some _ q) (Q5 _) ?_,rfl,q _ (I5.hok.fresh (Q5 _))⟩;exact⟨by show(sY xs l u st).length<=_;unfold sY;rw[rv.length];lia,_,0,rv,Heap.get?_push_size _ rfl⟩
end
end
end L2
namespace SW
open PySem L2
set_option maxHeartbeats 0
variable {C L a b c dx h p q r s tb:Addr} {F F':Addr->Prop} {t:Adr} {up:Bool} {D:Ends} {o:HO} {x':HSt} {H H' H1:Hp} {fl k m sz:Int} {R:Int->Int->Prop} {ho kv' kvs:List (Int×V)} {ls:List (List Int)} {A:List Addr} {ks ks' l x y:List Int} {es:List Mk1} {pa pa':List Pk} {ts:List Tp} {xs:List V} {i i0 j n:Nat} {E:Nat->Prop} {K:PySem.W.Frag} {st:SSt} {d:SlD} {σ:St} {f:Str} {u:TS} {α β:Type} {av v:V} {Q:VK}
structure Txt (K:PySem.W.Frag) (mg:Str->Option Value) (t:Adr):Prop where
 uN:mg "WalkError"=some (.ref t.bS)
 GB:mg "NoToken"=some (.ref t.oM)
 GC:mg "NoKey"=some (.ref t.yM)
 GA:mg "Twice"=some (.ref t.yL)
 zw:mg "TooOld"=some (.ref t.cE)
 oZ:mg "NoMoment"=some (.ref t.bE)
 AS:mg "Token"=some (.ref t.fE)
 oY:mg "Up"=some (.ref t.cR)
 mU:mg "Down"=some (.ref t.ba)
 zx:mg "Leaves"=some (.ref t.bj)
 FM:mg "Makes"=some (.ref t.cU)
 FL:mg "Slots"=some (.ref t.aV)
 FN:mg "House"=some (.ref t.aB)
 GY:Fun K "__init__" "NoKey.__init__" kJ t.Cb t.kT
 GT:Binds K t.kT ["self","key"] []
 GW:Fun K "__init__" "Twice.__init__" kH t.Ca t.kR
 GR:Binds K t.kR ["self","key"] []
 BM:Fun K "__init__" "TooOld.__init__" fO t.gx t.gj
 BF:Binds K t.gj ["self","moment"] []
 zY:Fun K "__init__" "NoMoment.__init__" eI t.eQ t.eP
 oO:Binds K t.eP ["self","moment"] []
 Ff:mg "mark_of"=some (.ref t.ud)
 zW:Fun K "mark_of" "mark_of" nY t.ud t.oI
 Fg:Binds K t.oI ["key"] []
 tH:mg "slot_of"=some (.ref t.uc)
 oQ:Fun K "slot_of" "slot_of" nX t.uc t.oH
 t8:Binds K t.oH ["key","size"] []
 EB:mg "is_whole"=some (.ref t.rR)
 xM:Fun K "is_whole" "is_whole" lN t.rR t.l9
 E6:Binds K t.l9 ["thing"] []
 ox:mg "is_from"=some (.ref t.ue)
 kC:Fun K "is_from" "is_from" nZ t.ue t.oJ
 oN:Binds K t.oJ ["thing","low"] []
 lI:Fun K "__init__" "Token.__init__" gQ t.iw t.hI
 sI:Binds K t.hI ["self","kind","at","end"] []
 Fd:FunD K "__init__" "Up.__init__" lP t.rV t.gh
 xJ:Binds K t.gh ["self","at","end"] []
 wE:r6 K t.gh ["self","at","end"] [.non]
 wD:r6 K t.gh ["self","at","end"] [(.int (0)),.non]
 Ea:Fun K "holds" "Up.holds" jz t.pC t.jZ
 D5:Binds K t.jZ ["self","key"] []
 Dz:FunD K "__init__" "Down.__init__" iU t.nK t.eC
 ve:Binds K t.eC ["self","at","end"] []
 sO:r6 K t.eC ["self","at","end"] [(.int (0))]
 sN:r6 K t.eC ["self","at","end"] [.non,(.int (0))]
 Cn:Fun K "holds" "Down.holds" g7 t.lH t.iu
 B9:Binds K t.iu ["self","key"] []
 AZ:mg "keys_of_page"=some (.ref t.j6)
 rY:Fun K "keys_of_page" "keys_of_page" dM t.j6 t.gd
 BE:Binds K t.gd ["leaves","token","many"] []
 DT:mg "keys_near"=some (.ref t.pf)
 wF:Fun K "keys_near" "keys_near" ju t.pf t.jT
 D0:Binds K t.jT ["leaves","token","most"] []
 AY:mg "token_behind"=some (.ref t.j5)
 rX:Fun K "token_behind" "token_behind" fK t.j5 t.gc
 BD:Binds K t.gc ["token","key"] []
 BO:Fun K "__init__" "Leaves.__init__" fP t.ke t.gu
 rO:Binds K t.gu ["self"] []
 Ch:Fun K "add" "Leaves.add" eT t.lr t.ig
 sK:Binds K t.ig ["self","key"] []
 yZ:Fun K "discard" "Leaves.discard" dP t.gM t.eB
 yP:Binds K t.eB ["self","key"] []
 Cg:Fun K "has" "Leaves.has" gV t.lq t.hZ
 sJ:Binds K t.hZ ["self","key"] []
 GZ:Fun K "many" "Leaves.many" jA t.rW t.j1
 GU:Binds K t.j1 ["self"] []
 yY:Fun K "from_on" "Leaves.from_on" b3 t.gL t.d9
 yO:Binds K t.d9 ["self","key","most"] []
 wO:Fun K "down_from" "Leaves.down_from" bO t.ft t.de
 wM:Binds K t.de ["self","key","most"] []
 yX:Fun K "leaf_of" "Leaves.leaf_of" dO t.gK t.d7
 b8:Binds K t.d7 ["self","key"] []
 wN:Fun K "part_leaf" "Leaves.part_leaf" cX t.fo t.db
 wL:Binds K t.db ["self","at"] []
 wI:Fun K "join_small" "Leaves.join_small" cw t.e7 t.cz
 j4:Binds K t.cz ["self","at"] []
 Cf:Fun K "__init__" "Makes.__init__" gU t.k8 t.hX
 B6:Binds K t.hX ["self"] []
 Ce:Fun K "note" "Makes.note" gT t.kZ t.hW
 B0:Binds K t.hW ["self","moment","value"] []
 yW:Fun K "value_at" "Makes.value_at" dN t.gJ t.d6
 yN:Binds K t.d6 ["self","moment"] []
 BN:Fun K "sweep" "Makes.sweep" cr t.j9 t.gr
 BG:Binds K t.gr ["self","floor"] []
 o7:mg "empty_row"=some (.ref t.pj)
 kh:Fun K "empty_row" "empty_row" gE t.pj t.jU
 pe:Binds K t.jU ["size"] []
 Cc:Fun K "__init__" "Slots.__init__" gR t.kX t.hJ
 BY:Binds K t.hJ ["self"] []
 Dw:Fun K "put" "Slots.put" iR t.nG t.jc
 Dt:Binds K t.jc ["self","key","value"] []
 Cd:Fun K "drop" "Slots.drop" gS t.kY t.hV
 BZ:Binds K t.hV ["self","key"] []
 Dx:Fun K "has" "Slots.has" iS t.nI t.jd
 vc:Binds K t.jd ["self","key"] []
 GX:Fun K "rows" "Slots.rows" kI t.sP t.kS
 GS:Binds K t.kS ["self"] []
 zX:Fun K "cell_of" "Slots.cell_of" eG t.iK t.eO
 iJ:Binds K t.eO ["self","key"] []
 xO:Fun K "move_slot" "Slots.move_slot" dw t.gy t.dD
 mj:Binds K t.dD ["self"] []
 xP:Fun K "begin_row" "Slots.begin_row" dz t.gA t.dE
 mn:Binds K t.dE ["self"] []
 Ci:Fun K "__init__" "House.__init__" gW t.lu t.ii
 B7:Binds K t.ii ["self"] []
 Dy:Fun K "put" "House.put" iT t.nJ t.je
 vd:Binds K t.je ["self","key","value"] []
 Cl:Fun K "drop" "House.drop" gZ t.lF t.iq
 B8:Binds K t.iq ["self","key"] []
 Cj:Fun K "hold" "House.hold" gX t.lw t.ik
 sL:Binds K t.ik ["self"] []
 z7:Fun K "let_go" "House.let_go" e8 t.jn t.fg
 pZ:Binds K t.fg ["self","moment"] []
 Ck:Fun K "held" "House.held" gY t.lE t.io
 kU:Binds K t.io ["self"] []
 BP:Fun K "sweep" "House.sweep" fQ t.kf t.gv
 rP:Binds K t.gv ["self"] []
 G0:Fun K "was" "House.was" mG t.vh t.m5
 GV:Binds K t.m5 ["self","key","moment"] []
 zZ:FunD K "page_at" "House.page_at" cJ t.iL t.cQ
 oP:Binds K t.cQ ["self","moment","token","many"] []
 nB:r6 K t.cQ ["self","moment","token","many"] [(.int (10))]
 Cm:Fun K "done" "House.done" g6 t.lG t.ir
 sM:Binds K t.ir ["self","row","value"] []
 uf:Fun K "refuse_outside" "House.refuse_outside" bP t.dI t.bR
 ua:Binds K t.bR ["self","moment"] []
 wP:Fun K "value_then" "House.value_then" cY t.fu t.dh
 kG:Binds K t.dh ["self","key","moment"] []
 dY:mg "_law_cell_at"=some (.ref t.j8)
 cG:Fun K "_law_cell_at" "_law_cell_at" fN t.j8 t.gg
 eE:Binds K t.gg ["_law_script","_law_k"] []
 bH:mg "_law_drawn"=some (.ref t.nE)
 bz:Fun K "_law_drawn" "_law_drawn" iQ t.nE t.i9
 bI:Binds K t.i9 ["_law_cell","_law_k"] []
 xy:mg "_law_key"=some (.ref t.rS)
 rZ:Fun K "_law_key" "_law_key" lO t.rS t.mf
 xI:Binds K t.mf ["_law_cell"] []
 wb:mg "_law_deed"=some (.ref t.pB)
 pE:Fun K "_law_deed" "_law_deed" jy t.pB t.jY
 wC:Binds K t.jY ["_law_house","_law_plain","_law_cell","_law_calm"] []
 C7:mg "_law_token"=some (.ref t.nC)
 vk:Fun K "_law_token" "_law_token" iO t.nC t.i8
 Ds:Binds K t.i8 ["_law_cell","_law_plain"] []
 DW:mg "_law_held"=some (.ref t.pA)
 wH:Fun K "_law_held" "_law_held" jx t.pA t.jX
 D4:Binds K t.jX ["_law_token_here","_law_key_here"] []
 EC:mg "_law_due"=some (.ref t.rT)
 xN:Fun K "_law_due" "_law_due" iP t.rT t.mh
 E7:Binds K t.mh ["_law_token_here","_law_plain"] []
 DU:mg "_law_next"=some (.ref t.pz)
 wG:Fun K "_law_next" "_law_next" jw t.pz t.jW
 D3:Binds K t.jW ["_law_token_here","_law_found","_law_last"] []
 wa:mg "_law_page"=some (.ref t.pq)
 pD:Fun K "_law_page" "_law_page" jv t.pq t.jV
 wB:Binds K t.jV ["_law_house","_law_moment","_law_token_here","_law_many"] []
 rq:mg "_law_refused"=some (.ref t.j7)
 kj:Fun K "_law_refused" "_law_refused" fL t.j7 t.gf
 rN:Binds K t.gf ["_law_house","_law_moment","_law_token_here"] []
 BW:mg "_law_walked"=some (.ref t.kW)
 sQ:Fun K "_law_walked" "_law_walked" gP t.kW t.g9
 BX:Binds K t.g9 ["_law_house","_law_plain","_law_moment","_law_token_here","_law_cells","_law_way"] []
 Gf:mg "law"=some (.ref t.D6)
 Ga:Fun K "law" "law" Aw t.D6 t.yK
 b_law:Binds K t.yK ["_law_script"] []
 Go:XCls K t.bS (([]:List Addr).map Value.ref++vBase)
 Gq:XCls K t.oM (([t.bS]:List Addr).map Value.ref++vBase)
 Gy:NoAttr K t.yM "key"
 Gr:XCls K t.yM (([t.bS]:List Addr).map Value.ref++vBase)
 Gu:NoAttr K t.yL "key"
 Gp:XCls K t.yL (([t.bS]:List Addr).map Value.ref++vBase)
 oj:NoAttr K t.cE "moment"
 km:XCls K t.cE (([t.bS]:List Addr).map Value.ref++vBase)
 Gg:XIs K t.cE
 ET:PySem.W.findIn K (.ref t.cE) "__init__"=some (some (.ref t.gx))
 EU:PySem.W.isFn K (.ref t.gx)=true
 fY:NoAttr K t.bE "moment"
 cf:XCls K t.bE (([t.bS]:List Addr).map Value.ref++vBase)
 Gj:XIs K t.bE
 uV:PySem.W.findIn K (.ref t.bE) "__init__"=some (some (.ref t.eQ))
 uW:PySem.W.isFn K (.ref t.eQ)=true
 Gv:NoAttr K t.fE "kind"
 Gx:NoAttr K t.fE "at"
 Gw:NoAttr K t.fE "end"
 GQ:Cls K t.fE
 Gz:Mk K t.fE t.iw
 Gh:XIs K t.fE
 GH:PySem.W.kitOne K (.ref t.fE) (.ref t.ba)=some false
 GG:PySem.W.kitOne K (.ref t.fE) (.ref t.cR)=some false
 EA:NoAttr K t.cR "kind"
 jP:NoAttr K t.cR "at"
 cO:NoAttr K t.cR "end"
 du:Cls K t.cR
 AR:Mk K t.cR t.rV
 cc:XIs K t.cR
 EL:PySem.W.kitOne K (.ref t.cR) (.ref t.ba)=some false
 mW:PySem.W.kitOne K (.ref t.cR) (.ref t.cR)=some true
 DS:bX K t.cR "holds" t.pC
 C2:NoAttr K t.ba "kind"
 cy:NoAttr K t.ba "at"
 dF:NoAttr K t.ba "end"
 bx:Cls K t.ba
 uM:Mk K t.ba t.nK
 bg:XIs K t.ba
 uS:PySem.W.kitOne K (.ref t.ba) (.ref t.ba)=some true
 lY:PySem.W.kitOne K (.ref t.ba) (.ref t.cR)=some false
 BV:bX K t.ba "holds" t.lH
 ar:NoAttr K t.bj "leaves"
 aC:Cls K t.bj
 zu:Mk K t.bj t.ke
 Gm:XIs K t.bj
 GN:PySem.W.kitOne K (.ref t.bj) (.ref t.ba)=some false
 GM:PySem.W.kitOne K (.ref t.bj) (.ref t.cR)=some false
 sD:bX K t.bj "add" t.lr
 yr:bX K t.bj "discard" t.gM
 sC:bX K t.bj "has" t.lq
 GE:bX K t.bj "many" t.rW
 yq:bX K t.bj "from_on" t.gL
 wK:bX K t.bj "down_from" t.ft
 b4:bX K t.bj "leaf_of" t.gK
 wJ:bX K t.bj "part_leaf" t.fo
 jQ:bX K t.bj "join_small" t.e7
 bZ:NoAttr K t.cU "made"
 eD:Cls K t.cU
 FJ:Mk K t.cU t.k8
 Gk:XIs K t.cU
 GL:PySem.W.kitOne K (.ref t.cU) (.ref t.ba)=some false
 GK:PySem.W.kitOne K (.ref t.cU) (.ref t.cR)=some false
 BS:bX K t.cU "note" t.kZ
 yp:bX K t.cU "value_at" t.gJ
 AW:bX K t.cU "sweep" t.j9
 aR:NoAttr K t.aV "table"
 bK:NoAttr K t.aV "shifted"
 bu:NoAttr K t.aV "kept"
 aH:Cls K t.aV
 FI:Mk K t.aV t.kX
 Gi:XIs K t.aV
 GJ:PySem.W.kitOne K (.ref t.aV) (.ref t.ba)=some false
 GI:PySem.W.kitOne K (.ref t.aV) (.ref t.cR)=some false
 C6:bX K t.aV "put" t.nG
 BR:bX K t.aV "drop" t.kY
 uO:bX K t.aV "has" t.nI
 GD:bX K t.aV "rows" t.sP
 iD:bX K t.aV "cell_of" t.iK
 lU:bX K t.aV "move_slot" t.gy
 lV:bX K t.aV "begin_row" t.gA
 bh:NoAttr K t.aB "now"
 dX:NoAttr K t.aB "floor"
 fZ:NoAttr K t.aB "slots"
 ji:NoAttr K t.aB "leaves"
 oo:NoAttr K t.aB "written"
 AO:NoAttr K t.aB "marks"
 dn:NoAttr K t.aB "past"
 br:NoAttr K t.aB "holders"
 ao:Cls K t.aB
 FK:Mk K t.aB t.lu
 Gn:XIs K t.aB
 GP:PySem.W.kitOne K (.ref t.aB) (.ref t.ba)=some false
 GO:PySem.W.kitOne K (.ref t.aB) (.ref t.cR)=some false
 uP:bX K t.aB "put" t.nJ
 BU:bX K t.aB "drop" t.lF
 sE:bX K t.aB "hold" t.lw
 pX:bX K t.aB "let_go" t.jn
 kN:bX K t.aB "held" t.lE
 rn:bX K t.aB "sweep" t.kf
 GF:bX K t.aB "was" t.vh
 iE:bX K t.aB "page_at" t.iL
 sF:bX K t.aB "done" t.lG
 tG:bX K t.aB "refuse_outside" t.dI
 kF:bX K t.aB "value_then" t.fu
 sB:yU K t.fE "__init__" (.ref t.iw)
 mQ:yU K t.bS "__init__" (.builtin "ValueError.__init__")
 vC:PySem.W.subIn K (.ref t.bE) (.ref t.bE)=some true
 wZ:PySem.W.subIn K (.ref t.bE) (.ref t.cE)=some false
 Gs:PySem.W.subIn K (.ref t.cE) (.ref t.bE)=some false
 zb:PySem.W.subIn K (.ref t.cE) (.ref t.cE)=some true
 g_PLACES:∃tk,mg "PLACES"=some (.int 65536 tk)
 g_MOST_IN_LEAF:∃tk,mg "MOST_IN_LEAF"=some (.int 8 tk)
 g_LEAST_IN_TWO:∃tk,mg "LEAST_IN_TWO"=some (.int 5 tk)
 g_LEAST_SIZE:∃tk,mg "LEAST_SIZE"=some (.int 4 tk)
 g_GREATEST_SIZE:∃tk,mg "GREATEST_SIZE"=some (.int 256 tk)
 Gd:mg "bool"=none
 Gc:mg "dict"=none
 Ge:mg "int"=none
 bG:mg "isinstance"=none
 bB:mg "len"=none
 DA:mg "max"=none
 xR:mg "min"=none
 xQ:mg "range"=none
 wQ:mg "reversed"=none
 qd:mg "sorted"=none
 z8:mg "str"=none
 z_sum:mg "sum"=none
 Gb:mg "tuple"=none
theorem pP:ax ["self","moment"] ["self","moment"] (aj fO):=fsc
theorem mF:ax ["self","moment"] ["self","moment"] (aj eI):=fsc
theorem xg:ax ["key"] ["key"] (aj nY):=fsc
theorem xf:ax ["key","size"] ["key","size"] (aj nX):=fsc
theorem vI:ax ["thing"] ["thing"] (aj lN):=fsc
theorem xh:ax ["thing","low"] ["thing","low"] (aj nZ):=fsc
theorem qz:ax ["self","kind","at","end"] ["self","kind","at","end"] (aj gQ):=fsc
theorem vJ:ax ["self","at","end"] ["self","at","end"] (aj lP):=fsc
theorem ux:ax ["self","key"] ["self","key"] (aj jz):=fsc
theorem sv:ax ["self","at","end"] ["self","at","end"] (aj iU):=fsc
theorem qI:ax ["self","key"] ["self","key"] (aj g7):=fsc
theorem sc_keys_of_page:ax ["leaves","token","many","most","held","page"] ["leaves","token","many"] (aj dM):=fsc
theorem ur:ax ["leaves","token","most"] ["leaves","token","most"] (aj ju):=fsc
theorem pN:ax ["token","key"] ["token","key"] (aj fK):=fsc
theorem pQ:ax ["self"] ["self"] (aj fP):=fsc
theorem sc_Leaves__add:ax ["self","key","at","leaf"] ["self","key"] (aj eT):=fsc
theorem sc_Leaves__discard:ax ["self","key","at"] ["self","key"] (aj dP):=fsc
theorem sc_Leaves__has:ax ["self","key","at"] ["self","key"] (aj gV):=fsc
theorem sc_Leaves__from_on:ax ["self","key","most","told","at"] ["self","key","most"] (aj b3):=fsc
theorem sc_Leaves__down_from:ax ["self","key","most","told","at"] ["self","key","most"] (aj bO):=fsc
theorem sc_Leaves__leaf_of:ax ["self","key","low","high","middle"] ["self","key"] (aj dO):=fsc
theorem sc_Leaves__part_leaf:ax ["self","at","leaf","middle"] ["self","at"] (aj cX):=fsc
theorem sc_Leaves__join_small:ax ["self","at","both"] ["self","at"] (aj cw):=fsc
theorem qD:ax ["self"] ["self"] (aj gU):=fsc
theorem qC:ax ["self","moment","value"] ["self","moment","value"] (aj gT):=fsc
theorem sc_Makes__value_at:ax ["self","moment","make"] ["self","moment"] (aj dN):=fsc
theorem sc_Makes__sweep:ax ["self","floor","old","stay","thrown"] ["self","floor"] (aj cr):=fsc
theorem ut:ax ["size"] ["size"] (aj gE):=fsc
theorem qA:ax ["self"] ["self"] (aj gR):=fsc
theorem sc_Slots__put:ax ["self","key","value","cell"] ["self","key","value"] (aj iR):=fsc
theorem qB:ax ["self","key"] ["self","key"] (aj gS):=fsc
theorem ss:ax ["self","key"] ["self","key"] (aj iS):=fsc
theorem sc_Slots__cell_of:ax ["self","key","old","slot","new"] ["self","key"] (aj eG):=fsc
theorem sc_Slots__move_slot:ax ["self","old","new","key","value"] ["self"] (aj dw):=fsc
theorem sc_Slots__begin_row:ax ["self","size"] ["self"] (aj dz):=fsc
theorem qE:ax ["self"] ["self"] (aj gW):=fsc
theorem su:ax ["self","key","value"] ["self","key","value"] (aj iT):=fsc
theorem qH:ax ["self","key"] ["self","key"] (aj gZ):=fsc
theorem qF:ax ["self"] ["self"] (aj gX):=fsc
theorem nV:ax ["self","moment"] ["self","moment"] (aj e8):=fsc
theorem qG:ax ["self"] ["self"] (aj gY):=fsc
theorem sc_House__sweep:ax ["self","thrown","of_key"] ["self"] (aj fQ):=fsc
theorem sc_House__page_at:ax ["self","moment","token","many","then","key","page"] ["self","moment","token","many"] (aj cJ):=fsc
theorem sc_House__done:ax ["self","row","value","key"] ["self","row","value"] (aj g6):=fsc
theorem gO:ax ["self","moment"] ["self","moment"] (aj bP):=fsc
theorem jt:ax ["self","key","moment"] ["self","key","moment"] (aj cY):=fsc
theorem pO:ax ["_law_script","_law_k"] ["_law_script","_law_k"] (aj fN):=fsc
theorem sc__law_drawn:ax ["_law_cell","_law_k","_law_number"] ["_law_cell","_law_k"] (aj iQ):=fsc
theorem sc__law_key:ax ["_law_cell","_law_number","_law_way"] ["_law_cell"] (aj lO):=fsc
theorem sc__law_deed:ax ["_law_house","_law_plain","_law_cell","_law_calm","_law_key_here","_law_some","_law_way","_law_many","_law_k"] ["_law_house","_law_plain","_law_cell","_law_calm"] (aj jy):=fsc
theorem sc__law_token:ax ["_law_cell","_law_plain","_law_some","_law_one","_law_other","_law_way"] ["_law_cell","_law_plain"] (aj iO):=fsc
theorem uw:ax ["_law_token_here","_law_key_here"] ["_law_token_here","_law_key_here"] (aj jx):=fsc
theorem sc__law_due:ax ["_law_token_here","_law_plain","_law_rows"] ["_law_token_here","_law_plain"] (aj iP):=fsc
theorem uv:ax ["_law_token_here","_law_found","_law_last"] ["_law_token_here","_law_found","_law_last"] (aj jw):=fsc
theorem uu:ax ["_law_house","_law_moment","_law_token_here","_law_many"] ["_law_house","_law_moment","_law_token_here","_law_many"] (aj jv):=fsc
theorem sc__law_refused:ax ["_law_house","_law_moment","_law_token_here","_law_word","e"] ["_law_house","_law_moment","_law_token_here"] (aj fL):=fsc
theorem sc__law_walked:ax ["_law_house","_law_plain","_law_moment","_law_token_here","_law_cells","_law_way","_law_due_here","_law_beside","_law_k","_law_many","_law_found"] ["_law_house","_law_plain","_law_moment","_law_token_here","_law_cells","_law_way"] (aj gP):=fsc
theorem sc_law:ax ["_law_script","_law_house","_law_plain","_law_cut","_law_cell","_law_way","_law_moment","_law_token_here","_law_later","_law_one"] ["_law_script"] (aj Aw):=fsc
def Sc:V->Prop
 | .non=>True| .bl _=>True| .int _=>True| .str _=>True|_=>False
theorem T0 (z:Int):Sc (.int z):=True.intro
def isW:V->Bool
 | .int _=>true|_=>false
def Fr (F F':Addr->Prop) (H H':Hp):Prop:=∀b o,¬F b->H b=some o->H' b=some o/\¬F' b
theorem Fr.refl:Fr F F H H:=λ_ _ n e=>⟨e,n⟩
theorem Fr.trans {F'':Addr->Prop} {H'':Hp} (x:Fr F F' H H') (y:Fr F' F'' H' H''):Fr F F'' H H'':=λb o n e=>y b o (x b o n e).2 (x b o n e).1
theorem Fr.of_same (s:Same H H'):Fr F F H H':=λb o n e=>⟨s b o e,n⟩
def aE (kv:List (Int×V)):List (Key×V):=kv.map λp=>(Sum.inl p.1,p.2)
theorem liftK_val {kv:List (Int×V)}:aK (aE kv) (Sum.inl k:Key)=aK kv k:=by
 induction kv with
 |nil=>rfl
 |cons p r ih=>
  show aK ((Sum.inl p.1,p.2)::aE r) (Sum.inl k:Key)=_;by_cases e:p.1=k
  .rw[a8 e,a8 (by show(Sum.inl p.1:Key)=_;rw[e])]
  .rw[aZ e,aZ (by show ¬(Sum.inl p.1:Key)=_;exact λz=>e (Sum.inl.inj z)),ih]
theorem zA {kv:List (Int×V)}:((aE kv).any λx=>decide (x.1=(Sum.inl k:Key)))=kv.any λx=>decide (x.1=k):=by
 rw[cn,cn,liftK_val]
theorem eM {kv:List (Int×V)}:aW (aE kv) (Sum.inl k:Key) v=aE (aW kv k v):=by
 unfold aW;rw[zA];by_cases c:(kv.any λx=>decide (x.1=k))=true
 .rw[if_pos c,if_pos c];unfold aE;rw[QD,QD];refine Zk λp _=>?_;show(if(Sum.inl p.1:Key)=Sum.inl k then _ else _)=_;by_cases e:p.1=k
  .rw[if_pos (by rw[e])];simp[e]
  .rw[if_neg λz=>e (Sum.inl.inj z)];simp[e]
 .rw[if_neg c,if_neg c];unfold aE;rw[Qm];rfl
theorem lX {kv:List (Int×V)}:bi (aE kv) (Sum.inl k:Key)=aE (bi kv k):=by
 unfold bi aE;rw[List.filter_map];congr 1;refine X8 λp _=>?_;show decide ((Sum.inl p.1:Key)≠Sum.inl k)=_;by_cases e:p.1=k
 .rw[e];simp
 .have:¬(Sum.inl p.1:Key)=Sum.inl k:=λz=>e (Sum.inl.inj z);simp[e,this]
theorem cP {kv:List (Int×V)}:(aE kv).length=kv.length:=Q0 _
theorem jB {f:Str} {v:V}:∀fs:List (Str×V),(a6 f v fs).length<=fs.length+1
 | []=>Q5 _
 |(g,x)::r=>by
  rw[a6];split
  .rw[Qf,Qf];lia
  .have:=jB (f:=f) (v:=v) r;rw[Qf,Qf];lia
section
variable {κ:Type} [DecidableEq κ] {kv:List (κ×V)} {k j:κ}
theorem bY:∀{kv:List (κ×V)},aK (bi kv k) j=if j=k then none else aK kv j
 | []=>by
  show aK ([]:List (κ×V)) j=_;rw[iy];split<;>rfl
 |p::r=>by
  by_cases e:p.1=k
  .rw[oG e,bY];by_cases z:j=k
   .rw[if_pos z,if_pos z]
   .rw[if_neg z,if_neg z,aZ λy=>z (y.symm.trans e)]
  .rw[kx e];by_cases y:p.1=j
   .rw[a8 y,a8 y,if_neg λz=>e (y.trans z)]
   .rw[aZ y,aZ y,bY]
theorem mem_keys:∀{kv:List (κ×V)},k∈kv.map (·.1)↔(aK kv k).isSome=true
 | []=>by simp[iy]
 |p::r=>by
  by_cases e:p.1=k
  .rw[a8 e];simp[e]
  .rw[aZ e,<-mem_keys];simp[Ne.symm e]
theorem iG:(aW kv k v).map (·.1)=if(aK kv k).isSome=true then kv.map (·.1)else kv.map (·.1)++ [k]:=by
 unfold aW;rw[cn];by_cases c:(aK kv k).isSome=true
 .rw[if_pos c,if_pos c,QD];refine Zk λp _=>?_;show(if p.1=k then(p.1,v)else p).1=p.1;split<;>rfl
 .rw[if_neg c,if_neg c,Qm];rfl
theorem oi (h:(kv.map (·.1)).Nodup):((aW kv k v).map (·.1)).Nodup:=by
 cases e:aK kv k with
 |none=>exact CZ v h e
 |some x=>rw[iG,e];exact h
theorem iB:∀{l S:List κ},l.Nodup->(∀x∈l,x∈S)->l.length<=S.length
 | [],_,_,_=>Qi _
 |x::xs,S,hn,hs=>by
  obtain⟨h1,h2⟩:=QE.mp hn;have hx:x∈S:=hs x Qd;have:=iB (S:=S.erase x) h2 λy hy=>(List.mem_erase_of_ne λz=>h1 (by rw[<-z];exact hy)).mpr (hs y (Qa _ hy));rw[List.length_erase_of_mem hx]at this;have:=List.length_pos_of_mem hx;rw[Qf];lia
end
def SqF (K:PySem.W.Frag) (F:Addr->Prop) (H:Hp) (a:Addr) (xs:List V):Prop:=(Rd H a (.lst xs)/\¬F a)\/∀H',SqL K H' a xs
theorem SqF.sq (h:SqF K F H a xs):SqL K H a xs:=by
 rcases h with h|h
 .exact .inl h.1
 .exact h H
theorem SqF.of (h:SqL K H a xs) (n:∀o,H a=some o->¬F a):SqF K F H a xs:=by
 rcases h with h|h
 .rcases h with h|⟨o,h⟩
  .exact .inl ⟨.inl h,n _ h⟩
  .exact .inl ⟨.inr ⟨o,h⟩,n _ h⟩
 .exact .inr λ_=> .inr h
theorem SqF.fr (h:SqF K F H a xs) (f:Fr F F' H H'):SqF K F' H' a xs:=by
 rcases h with⟨h,n⟩|h
 .rcases h with h|⟨o,h⟩
  .exact .inl ⟨.inl (f _ _ n h).1,(f _ _ n h).2⟩
  .exact .inl ⟨.inr ⟨o,(f _ _ n h).1⟩,(f _ _ n h).2⟩
 .exact .inr h
structure SSt where
 kv:List (Int×V)
 size:Int
 nxt:Option Int
 mv:Int
def SSt.new:SSt:=⟨[],4,none,0⟩
def SSt.one (s:SSt):SSt:=match s.nxt with
 |none=>s
 |some m=>if s.mv+1=s.size then{s with size:=m,nxt:=none,mv:=0}else{s with mv:=s.mv+1}
def SSt.three (s:SSt):SSt:=match s.nxt with
 |some _=>s
 |none=>if s.size<(s.kv.length:Int)/\s.size<256 then{s with nxt:=some (2*s.size),mv:=0}else if 4*(s.kv.length:Int)<s.size/\4<s.size then{s with nxt:=some (s.size/2),mv:=0}else s
def SSt.put (s:SSt) (k:Int) (v:V):SSt:=SSt.three {s.one with kv:=aW s.kv k v}
def SSt.drop (s:SSt) (k:Int):SSt:=SSt.three {s.one with kv:=bi s.kv k}
def SSt.moved (s:SSt):Int:=match s.nxt with
 |none=>0
 |some _=>s.mv
structure SlD where
 tb:Addr
 r0:Addr
 r1:Addr
 A0:List Addr
 A1:List Addr
 C0:List (List (Int×V))
 C1:List (List (Int×V))
 n:Int
def slF (tb:Addr) (sh n:Int):List (Str×V):=[("table",.ref tb),("shifted",.int sh),("kept",.int n)]
theorem eY {k:Str} {r:List (Str×V)}:((k,v)::r).lookup k=some v:=by
 have hb:(k==k)=true:=beq_iff_eq.mpr rfl;simp only[List.lookup,hb]
theorem bd {k m:Str} {r:List (Str×V)} (h:m≠k):((k,v)::r).lookup m=r.lookup m:=by
 have hb:(m==k)=false:=beq_eq_false_iff_ne.mpr h;simp only[List.lookup,hb]
section
variable {tb':Addr} {sh sh' n n':Int} {m:Str}
theorem jf:(slF tb sh n).lookup ("table":Str)=some (.ref tb):=eY
theorem vH:(slF tb sh n).lookup ("shifted":Str)=some (.int sh):=by unfold slF;rw[bd (by decide+kernel),eY]
theorem mD:(slF tb sh n).lookup ("kept":Str)=some (.int n):=by unfold slF;rw[bd (by decide+kernel),bd (by decide+kernel),eY]
def NoM (m:Str):Prop:=m≠("table":Str)/\m≠("shifted":Str)/\m≠("kept":Str)
instance:Decidable (NoM m):=by unfold NoM;infer_instance
theorem DL (h:NoM m):(slF tb sh n).lookup m=none:=by unfold slF;rw[bd h.1,bd h.2.1,bd h.2.2];rfl
theorem FD:a6 ("table":Str) (.ref tb') (slF tb sh n)=slF tb' sh n:=by unfold slF;rw[a6,if_pos rfl]
theorem DP:a6 ("shifted":Str) (.int sh') (slF tb sh n)=slF tb sh' n:=by unfold slF;rw[a6,if_neg (by decide+kernel),a6,if_pos rfl]
theorem DQ:a6 ("kept":Str) (.int n') (slF tb sh n)=slF tb sh n':=by unfold slF;rw[a6,if_neg (by decide+kernel),a6,if_neg (by decide+kernel),a6,if_pos rfl]
theorem mC:(slF tb sh n).length<1000:=by show 3<1000;decide
end
structure RowOk (H:Hp) (r:Addr) (A:List Addr) (C:List (List (Int×V))) (sz:Int):Prop where
 lst:H r=some (.lst (A.map V.ref))
 la:(A.length:Int)=sz
 lc:(C.length:Int)=sz
 cell:∀(j:Nat) (b:Addr) (kv:List (Int×V)),A[j]?=some b->C[j]?=some kv->H b=some (.dK (aE kv))
 ndk:∀(j:Nat) (kv:List (Int×V)),C[j]?=some kv->(kv.map (·.1)).Nodup
 inj:∀(i j:Nat) (b:Addr),A[i]?=some b->A[j]?=some b->i=j
 home:∀(j:Nat) (kv:List (Int×V)),C[j]?=some kv->∀p∈kv,p.1%65536%sz=(j:Int)
theorem RowOk.has {C:List (List (Int×V))} (h:RowOk H r A C sz) (hb:b∈A):∃(j:Nat) (kv:List (Int×V)),A[j]?=some b/\C[j]?=some kv/\H b=some (.dK (aE kv)):=by
 obtain⟨j,hj,e⟩:=QI hb;have hc:j<C.length:=by have:=h.la;have:=h.lc;lia
 have e1:A[j]?=some b:=by rw[Q4 hj,e]
 have e2:C[j]?=some C[j]:=Q4 hc;exact⟨j,C[j],e1,e2,h.cell j b _ e1 e2⟩
theorem RowOk.frame {C:List (List (Int×V))} (h:RowOk H r A C sz) (f:∀b,b=r\/b∈A->H' b=H b):RowOk H' r A C sz:=
 ⟨by rw[f r (.inl rfl)];exact h.lst,h.la,h.lc,λj b kv e1 e2=>by rw[f b (.inr (Q2 e1))];exact h.cell j b kv e1 e2,h.ndk,h.inj,h.home⟩
theorem RowOk.notr {C:List (List (Int×V))} (h:RowOk H r A C sz) (hb:b∈A) {x:Addr} (e:H x=some o) (ne:∀kvs,o≠ .dK kvs):b≠x:=λz=>by
 obtain⟨j,kv,_,_,q⟩:=h.has hb;rw[z,e]at q;cases q;exact ne _ rfl
theorem RowOk.set {C:List (List (Int×V))} (h:RowOk H r A C sz) (ea:A[j]?=some c) (nd:(kv'.map (·.1)).Nodup) (hm:∀p∈kv',p.1%65536%sz=(j:Int)):
  RowOk (upd H c (.dK (aE kv'))) r A (C.set j kv') sz:=by
 have hc:r≠c:=(h.notr (Q2 ea) h.lst (λ_ z=>by cases z)).symm;refine⟨by rw[ac hc];exact h.lst,h.la,by rw[QF];exact h.lc,λi b kv e1 e2=>?_,λi kv e=>?_,h.inj,λi kv e=>?_⟩
 .rw[Qq]at e2;by_cases z:j=i
  .subst z;rw[ea]at e1;cases e1;rw[if_pos rfl]at e2;split at e2
   .cases e2;exact af
   .cases e2
  .rw[if_neg z]at e2;rw[ac λy=>z (h.inj j i c ea (by rw[<-y];exact e1))];exact h.cell i b kv e1 e2
 .rw[Qq]at e;by_cases z:j=i
  .rw[if_pos z]at e;split at e
   .cases e;exact nd
   .cases e
  .rw[if_neg z]at e;exact h.ndk i kv e
 .rw[Qq]at e;by_cases z:j=i
  .subst z;rw[if_pos rfl]at e;split at e
   .cases e;exact hm
   .cases e
  .rw[if_neg z]at e;exact h.home i kv e
def SlF (a:Addr) (st:SSt) (d:SlD):Addr->Prop:=λb=>b=a\/b=d.tb\/b=d.r0\/b∈d.A0\/(st.nxt.isSome=true/\b=d.r1)\/b∈d.A1
def IsCell (d:SlD) (st:SSt) (k:Int) (c:Addr) (kv:List (Int×V)):Prop:=
 (st.moved<=k%65536%st.size/\d.A0[(k%65536%st.size).toNat]?=some c/\d.C0[(k%65536%st.size).toNat]?=some kv)\/
 (∃m,st.nxt=some m/\k%65536%st.size<st.moved/\d.A1[(k%65536%m).toNat]?=some c/\d.C1[(k%65536%m).toNat]?=some kv)
structure SzOk (st:SSt):Prop where
 pw:st.size∈([4,8,16,32,64,128,256]:List Int)
 nx:∀m,st.nxt=some m->m∈([4,8,16,32,64,128,256]:List Int)/\0<=st.mv/\st.mv<st.size/\(m=2*st.size\/2*m=st.size)
theorem mI {x:Int} (h:x∈([4,8,16,32,64,128,256]:List Int)):x=4\/x=8\/x=16\/x=32\/x=64\/x=128\/x=256:=by simpa using h
theorem dQ {x:Int} (h:x∈([4,8,16,32,64,128,256]:List Int)):4<=x/\x<=256:=by
 rcases mI h with h|h|h|h|h|h|h<;>lia
structure SlB (t:Adr) (H:Hp) (a:Addr) (st:SSt) (d:SlD):Prop where
 obj:∃dx,H a=some (.ins t.aV dx (slF d.tb st.moved d.n))
 tbl:H d.tb=some (.lst (match st.nxt with|none=> [.ref d.r0]|some _=> [.ref d.r0,.ref d.r1]))
 row0:RowOk H d.r0 d.A0 d.C0 st.size
 row1:match st.nxt with|none=>d.A1=[]/\d.C1=[]|some m=>RowOk H d.r1 d.A1 d.C1 m
 dis:∀b,b∈d.A0->b∉d.A1
 tr:d.tb≠d.r0
 tr1:st.nxt.isSome=true->d.tb≠d.r1/\d.r0≠d.r1
 old:∀(j:Nat) (kv:List (Int×V)),d.C0[j]?=some kv->(j:Int)<st.moved->kv=[]
 new:∀(j:Nat) (kv:List (Int×V)),d.C1[j]?=some kv->∀p∈kv,p.1%65536%st.size<st.moved
 val:∀(k:Int) (c:Addr) (kv:List (Int×V)),IsCell d st k c kv->aK kv k=aK st.kv k
section
theorem SlB.frame (h:SlB t H a st d) (f:∀b,SlF a st d b->H' b=H b):SlB t H' a st d:=by
 obtain⟨dx,ho⟩:=h.obj;refine⟨⟨dx,by rw[f a (.inl rfl)];exact ho⟩,by rw[f d.tb (.inr (.inl rfl))];exact h.tbl,h.row0.frame λb hb=>f b ?_,?_,h.dis,h.tr,h.tr1,h.old,h.new,h.val⟩
 .rcases hb with hb|hb
  .exact .inr (.inr (.inl hb))
  .exact .inr (.inr (.inr (.inl hb)))
 .have r1:=h.row1;have ff:=f;unfold SlF at ff;cases e:st.nxt with
  |none=>rw[e]at r1;exact r1
  |some m=>
   rw[e]at r1;refine RowOk.frame (H:=H) r1 λb hb=>f b ?_;unfold SlF;rw[e];rcases hb with hb|hb
   .exact .inr (.inr (.inr (.inr (.inl ⟨rfl,hb⟩))))
   .exact .inr (.inr (.inr (.inr (.inr hb))))
theorem SlB.dom (h:SlB t H a st d) (hb:SlF a st d b):∃o,H b=some o:=by
 obtain⟨dx,ho⟩:=h.obj;rcases hb with rfl|rfl|rfl|hb|⟨hs,rfl⟩|hb
 .exact⟨_,ho⟩
 .exact⟨_,h.tbl⟩
 .exact⟨_,h.row0.lst⟩
 .obtain⟨_,_,_,_,q⟩:=h.row0.has hb;exact⟨_,q⟩
 .have r1:=h.row1;cases e:st.nxt with
  |none=>rw[e]at hs;cases hs
  |some m=>rw[e]at r1;exact⟨_,r1.lst⟩
 .have r1:=h.row1;cases e:st.nxt with
  |none=>rw[e]at r1;rw[r1.1]at hb;cases hb
  |some m=>rw[e]at r1;obtain⟨_,_,_,_,q⟩:=r1.has hb;exact⟨_,q⟩
theorem SlB.at (h:SlB t H a st d) {kv:List (Int×V)} (ic:IsCell d st k c kv):H c=some (.dK (aE kv))/\SlF a st d c/\(kv.map (·.1)).Nodup:=by
 rcases ic with⟨_,e1,e2⟩|⟨m,em,_,e1,e2⟩
 .exact⟨h.row0.cell _ _ _ e1 e2,.inr (.inr (.inr (.inl (Q2 e1)))),h.row0.ndk _ _ e2⟩
 .have r1:=h.row1;rw[em]at r1;exact⟨r1.cell _ _ _ e1 e2,.inr (.inr (.inr (.inr (.inr (Q2 e1))))),r1.ndk _ _ e2⟩
theorem ot (hm:4<=m):0<=k%65536%m/\k%65536%m<m/\((k%65536%m).toNat:Int)=k%65536%m:=by
 have h1:=QK (k%65536) (show m≠0 by lia);have h2:=QT (k%65536) (show 0<m by lia);exact⟨h1,h2,Int.toNat_of_nonneg h1⟩
theorem cZ {l:List α} {z:Int} (h0:0<=z) (h1:z<(l.length:Int)):∃x,l[z.toNat]?=some x:=⟨l[z.toNat]'(by lia),Q4 (by lia)⟩
theorem SlB.cell (h:SlB t H a st d) (z:SzOk st) (k:Int):∃c kv,IsCell d st k c kv:=by
 obtain⟨s4,_⟩:=dQ z.pw;obtain⟨m0,m1,m2⟩:=ot (k:=k) s4;by_cases c:st.moved<=k%65536%st.size
 .obtain⟨x,e1⟩:=cZ (l:=d.A0) m0 (by rw[h.row0.la];exact m1);obtain⟨y,e2⟩:=cZ (l:=d.C0) m0 (by rw[h.row0.lc];exact m1);exact⟨x,y,.inl ⟨c,e1,e2⟩⟩
 .cases e:st.nxt with
  |none=>
   exfalso;have:st.moved=0:=by unfold SSt.moved;rw[e]
   lia
  |some m=>
   obtain⟨pm,_⟩:=z.nx m e;obtain⟨s5,_⟩:=dQ pm;obtain⟨n0,n1,n2⟩:=ot (k:=k) s5;have r1:=h.row1;rw[e]at r1;obtain⟨x,e1⟩:=cZ (l:=d.A1) n0 (by rw[r1.la];exact n1);obtain⟨y,e2⟩:=cZ (l:=d.C1) n0 (by rw[r1.lc];exact n1);exact⟨x,y,.inr ⟨m,e,by lia,e1,e2⟩⟩
theorem IsCell.uniq {c':Addr} {kv:List (Int×V)} (x:IsCell d st k c kv) (y:IsCell d st k c' kv'):c=c'/\kv=kv':=by
 rcases x with⟨h0,e1,e2⟩|⟨m,em,h0,e1,e2⟩<;>rcases y with⟨g0,f1,f2⟩|⟨m',em',g0,f1,f2⟩
 .rw[e1]at f1;rw[e2]at f2;cases f1;cases f2;exact⟨rfl,rfl⟩
 .lia
 .lia
 .rw[em]at em';cases em';rw[e1]at f1;rw[e2]at f2;cases f1;cases f2;exact⟨rfl,rfl⟩
theorem SlB.setN (h:SlB t H a st d) {n:Int}:SlB t (upd H a (.ins t.aV dx (slF d.tb st.moved n))) a st {d with n:=n}:=by
 obtain⟨dy,ho⟩:=h.obj;have n1:d.tb≠a:=bW h.tbl ho (by intro z;cases z);refine⟨⟨dx,af⟩,by show upd H a _ d.tb=_;rw[ac n1];exact h.tbl,h.row0.frame λb hb=>ac ?_,?_,h.dis,h.tr,h.tr1,h.old,h.new,h.val⟩
 .rcases hb with rfl|hb
  .exact bW h.row0.lst ho (by intro z;cases z)
  .exact h.row0.notr hb ho (λ_ z=>by cases z)
 .have r1:=h.row1;cases e:st.nxt with
  |none=>rw[e]at r1;exact r1
  |some m=>
   rw[e]at r1;refine RowOk.frame (H:=H) r1 λb hb=>ac ?_;rcases hb with rfl|hb
   .exact bW r1.lst ho (by intro z;cases z)
   .exact r1.notr hb ho (λ_ z=>by cases z)
theorem SlB.setCell (h:SlB t H a st d) (z:SzOk st) {kv:List (Int×V)} (ic:IsCell d st k c kv) (nd:(kv'.map (·.1)).Nodup) (hm:∀p∈kv',p∈kv\/p.1=k)
  (hk:aK kv' k=aK kvs k) (ho:∀j,j≠k->aK kv' j=aK kv j/\aK kvs j=aK st.kv j):
  ∃d',SlB t (upd H c (.dK (aE kv'))) a {st with kv:=kvs} d'/\d'.n=d.n/\∀b,SlF a {st with kv:=kvs} d' b↔SlF a st d b:=by
 obtain⟨hc,hf,_⟩:=h.at ic;obtain⟨dx,hob⟩:=h.obj;obtain⟨s4,_⟩:=dQ z.pw;obtain⟨m0,m1,m2⟩:=ot (k:=k) s4;have na:a≠c:=bW hob hc (by intro z;cases z);have nt:d.tb≠c:=bW h.tbl hc (by intro z;cases z);have nr:d.r0≠c:=bW h.row0.lst hc (by intro z;cases z);have vals:∀(d':SlD) (j:Int) (b:Addr) (x:List (Int×V)),IsCell d' {st with kv:=kvs} j b x->(∀y,IsCell d st j b y->(x=y/\b≠c)\/(x=kv'/\y=kv))->(∃y,IsCell d st j b y)->aK x j=aK kvs j:=λd' j b x hx f ⟨y,hy⟩=>by
  by_cases e:j=k
  .subst e;obtain⟨rfl,rfl⟩:=IsCell.uniq hy ic;rcases f y hy with⟨_,z⟩|⟨rfl,_⟩
   .exact absurd rfl z
   .exact hk
  .rw[(ho j e).2];rcases f y hy with⟨rfl,_⟩|⟨rfl,rfl⟩
   .exact h.val j b x hy
   .rw[(ho j e).1];exact h.val j b y hy
 rcases ic with⟨h0,e1,e2⟩|⟨m,em,h0,e1,e2⟩
 .have hin:c∈d.A0:=Q2 e1;have hmem:∀p∈kv',p.1%65536%st.size=((k%65536%st.size).toNat:Int):=λp hp=>by
   rcases hm p hp with q|q
   .exact h.row0.home _ _ e2 p q
   .rw[q,m2]
  refine⟨{d with C0:=d.C0.set (k%65536%st.size).toNat kv'},⟨⟨dx,by rw[ac na];exact hob⟩,by show upd H c _ d.tb=_;rw[ac nt];exact h.tbl,h.row0.set e1 nd hmem,?_,h.dis,h.tr,h.tr1,λj x e lt=>?_,h.new,λj b x hx=>?_⟩,rfl,λb=>Iff.rfl⟩
  .have r1:=h.row1;show match st.nxt with|none=>_|some m=>_
   cases e:st.nxt with
   |none=>rw[e]at r1;exact r1
   |some m=>
    rw[e]at r1;refine RowOk.frame (H:=H) r1 λb hb=>ac ?_;rcases hb with rfl|hb
    .exact bW r1.lst hc (by intro z;cases z)
    .exact λy=>h.dis c hin (y▸hb)
  .have e:(d.C0.set (k%65536%st.size).toNat kv')[j]?=some x:=e;have lt:(j:Int)<st.moved:=lt;rw[Qq]at e;by_cases q:(k%65536%st.size).toNat=j
   .exfalso;lia
   .rw[if_neg q]at e;exact h.old j x e lt
  .refine vals _ j b x hx (λy hy=>?_) ?_
   .rcases hx with⟨g0,f1,f2⟩|⟨m',em',g0,f1,f2⟩
    .have f2:(d.C0.set (k%65536%st.size).toNat kv')[(j%65536%st.size).toNat]?=some x:=f2;have f1:d.A0[(j%65536%st.size).toNat]?=some b:=f1;have g0:st.moved<=j%65536%st.size:=g0;rcases hy with⟨_,y1,y2⟩|⟨_,_,y0,_,_⟩
     .rw[Qq]at f2;by_cases q:(k%65536%st.size).toNat=(j%65536%st.size).toNat
      .rw[if_pos q]at f2;split at f2
       .cases f2;rw[<-q,e2]at y2;cases y2;exact .inr ⟨rfl,rfl⟩
       .cases f2
      .rw[if_neg q,y2]at f2;cases f2;exact .inl ⟨rfl,λw=>q (h.row0.inj _ _ c e1 (by rw[<-w];exact f1))⟩
     .lia
    .have f1:d.A1[(j%65536%m').toNat]?=some b:=f1;have f2:d.C1[(j%65536%m').toNat]?=some x:=f2;have g0:j%65536%st.size<st.moved:=g0;have em':st.nxt=some m':=em';rcases hy with⟨y0,_,_⟩|⟨m2,e3,y0,y1,y2⟩
     .lia
     .rw[em']at e3;cases e3;rw[f2]at y2;cases y2;exact .inl ⟨rfl,λw=>h.dis c hin (w▸Q2 f1)⟩
   .obtain⟨b',y,hy⟩:=h.cell z j;have:b'=b:=by
     rcases hx with⟨g0,f1,f2⟩|⟨m',em',g0,f1,f2⟩<;>rcases hy with⟨y0,y1,y2⟩|⟨m3,e3,y0,y1,y2⟩
     .have f1:d.A0[(j%65536%st.size).toNat]?=some b:=f1;rw[y1]at f1;exact Option.some.inj f1
     .have g0:st.moved<=j%65536%st.size:=g0;lia
     .have g0:j%65536%st.size<st.moved:=g0;lia
     .have em':st.nxt=some m':=em';rw[em']at e3;cases e3;have f1:d.A1[(j%65536%m').toNat]?=some b:=f1;rw[y1]at f1;exact Option.some.inj f1
    subst this;exact⟨y,hy⟩
 .have r1:=h.row1;rw[em]at r1;have hin:c∈d.A1:=Q2 e1;obtain⟨pm,_⟩:=z.nx m em;obtain⟨s5,_⟩:=dQ pm;obtain⟨n0,n1,n2⟩:=ot (k:=k) s5;have hmem:∀p∈kv',p.1%65536%m=((k%65536%m).toNat:Int):=λp hp=>by
   rcases hm p hp with q|q
   .exact r1.home _ _ e2 p q
   .rw[q,n2]
  refine⟨{d with C1:=d.C1.set (k%65536%m).toNat kv'},⟨⟨dx,by rw[ac na];exact hob⟩,by show upd H c _ d.tb=_;rw[ac nt];exact h.tbl,h.row0.frame λb hb=>ac ?_,?_,h.dis,h.tr,h.tr1,h.old,λj x e p hp=>?_,λj b x hx=>?_⟩,rfl,λb=>Iff.rfl⟩
  .rcases hb with rfl|hb
   .exact nr
   .exact λy=>h.dis b hb (y▸hin)
  .show match st.nxt with|none=>_|some m=>_
   rw[em];exact r1.set e1 nd hmem
  .have e:(d.C1.set (k%65536%m).toNat kv')[j]?=some x:=e;show p.1%65536%st.size<st.moved;rw[Qq]at e;by_cases q:(k%65536%m).toNat=j
   .rw[if_pos q]at e;split at e
    .cases e;rcases hm p hp with q|q
     .exact h.new _ _ e2 p q
     .rw[q];exact h0
    .cases e
   .rw[if_neg q]at e;exact h.new j x e p hp
  .refine vals _ j b x hx (λy hy=>?_) ?_
   .rcases hx with⟨g0,f1,f2⟩|⟨m',em',g0,f1,f2⟩
    .have f1:d.A0[(j%65536%st.size).toNat]?=some b:=f1;have f2:d.C0[(j%65536%st.size).toNat]?=some x:=f2;have g0:st.moved<=j%65536%st.size:=g0;rcases hy with⟨_,y1,y2⟩|⟨_,_,y0,_,_⟩
     .rw[f2]at y2;cases y2;exact .inl ⟨rfl,λw=>h.dis b (Q2 f1) (w▸hin)⟩
     .lia
    .have em':st.nxt=some m':=em';rw[em]at em';cases em';have f2:(d.C1.set (k%65536%m).toNat kv')[(j%65536%m).toNat]?=some x:=f2;have f1:d.A1[(j%65536%m).toNat]?=some b:=f1;have g0:j%65536%st.size<st.moved:=g0;rcases hy with⟨y0,_,_⟩|⟨m2,e3,y0,y1,y2⟩
     .lia
     .rw[em]at e3;cases e3;rw[Qq]at f2;by_cases q:(k%65536%m).toNat=(j%65536%m).toNat
      .rw[if_pos q]at f2;split at f2
       .cases f2;rw[<-q,e2]at y2;cases y2;exact .inr ⟨rfl,rfl⟩
       .cases f2
      .rw[if_neg q,y2]at f2;cases f2;exact .inl ⟨rfl,λw=>q (r1.inj _ _ c e1 (by rw[<-w];exact f1))⟩
   .obtain⟨b',y,hy⟩:=h.cell z j;have:b'=b:=by
     rcases hx with⟨g0,f1,f2⟩|⟨m',em',g0,f1,f2⟩<;>rcases hy with⟨y0,y1,y2⟩|⟨m3,e3,y0,y1,y2⟩
     .have f1:d.A0[(j%65536%st.size).toNat]?=some b:=f1;rw[y1]at f1;exact Option.some.inj f1
     .have g0:st.moved<=j%65536%st.size:=g0;lia
     .have g0:j%65536%st.size<st.moved:=g0;lia
     .have em':st.nxt=some m':=em';rw[em']at e3;cases e3;have f1:d.A1[(j%65536%m').toNat]?=some b:=f1;rw[y1]at f1;exact Option.some.inj f1
    subst this;exact⟨y,hy⟩
end
theorem rj {kv:List (Int×V)} {p:Int×V} (h:p∈aW kv k v):p∈kv\/p.1=k:=by
 unfold aW at h;split at h
 .obtain⟨q,hq,e⟩:=Qh.mp h;by_cases z:q.1=k
  .rw[if_pos z]at e;rw[<-e];exact .inr z
  .rw[if_neg z]at e;rw[<-e];exact .inl hq
 .rcases Q6.mp h with h|h
  .exact .inl h
  .rw[Qe.mp h];exact .inr rfl
theorem C5 {kv:List (Int×V)} {p:Int×V} (h:p∈kv):(aK kv p.1).isSome=true:=mem_keys.mp (Qh.mpr ⟨p,h,rfl⟩)
def fe (m:Int) (C:List (List (Int×V))) (p:Int×V):List (List (Int×V)):=C.set (p.1%65536%m).toNat (aW (C.getD (p.1%65536%m).toNat []) p.1 p.2)
theorem AQ {C:List (List (Int×V))} {p:Int×V}:(fe m C p).length=C.length:=QF
theorem yo {m:Int}:∀{kv:List (Int×V)} {C:List (List (Int×V))},(kv.foldl (fe m) C).length=C.length
 | [],_=>rfl
 |p::r,C=>by rw[List.foldl_cons,yo,AQ]
theorem vY {C:List (List (Int×V))} {p:Int×V} {y:List (Int×V)} (e:C[j]?=some y):(fe m C p)[j]?=some (if(p.1%65536%m).toNat=j then aW y p.1 p.2 else y):=by
 unfold fe;rw[Qq];by_cases z:(p.1%65536%m).toNat=j
 .have hj:j<C.length:=(Q3.mp e).1;rw[if_pos z,if_pos z,if_pos (by rw[z];exact hj),Qy,z,e];rfl
 .rw[if_neg z,if_neg z,e]
theorem uL {m:Int}:∀{kv:List (Int×V)} {C:List (List (Int×V))} {j:Nat} {y:List (Int×V)},(kv.map (·.1)).Nodup->C[j]?=some y->∃x,(kv.foldl (fe m) C)[j]?=some x/\
  (∀p∈x,p∈y\/p.1∈kv.map (·.1))/\∀k,aK x k=if(k%65536%m).toNat=j then(aK kv k).or (aK y k)else aK y k
 | [],C,j,y,_,e=>⟨y,e,λp hp=> .inl hp,λk=>by rw[iy];simp⟩
 |p::r,C,j,y,nd,e=>by
  obtain⟨n1,n2⟩:=QE.mp (show(p.1::r.map (·.1)).Nodup from nd);obtain⟨x,h1,h2,h3⟩:=uL (m:=m) n2 (vY (m:=m) (p:=p) e);refine⟨x,h1,λq hq=>?_,λk=>?_⟩
  .rcases h2 q hq with z|z
   .split at z
    .rcases rj z with z|z
     .exact .inl z
     .exact .inr (Qh.mpr ⟨p,Qd,z.symm⟩)
    .exact .inl z
   .exact .inr (Qa _ z)
  .rw[h3 k];by_cases z:(k%65536%m).toNat=j
   .rw[if_pos z,if_pos z];by_cases w:p.1=k
    .subst w;have:aK r p.1=none:=by
      cases q:aK r p.1 with
      |none=>rfl
      |some v=>exact absurd (p4 q) n1
     rw[this,a8 rfl,if_pos z,cj,if_pos rfl];rfl
    .rw[aZ w];congr 1;split
     .rw[cj,if_neg (Ne.symm w)]
     .rfl
   .rw[if_neg z,if_neg z];split
    .rename_i w
     rw[cj,if_neg (λy=>z (by rw[y];exact w))]
    .rfl
theorem RowOk.mov {C:List (List (Int×V))} {y:List (Int×V)} (h:RowOk H r A C sz) (s4:4<=sz) (ea:A[(k%65536%sz).toNat]?=some c) (ey:C[(k%65536%sz).toNat]?=some y):
  RowOk (upd H c (.dK (aE (aW y k v)))) r A (fe sz C (k,v)) sz:=by
 have e:fe sz C (k,v)=C.set (k%65536%sz).toNat (aW y k v):=by
  unfold fe;rw[Qy];show C.set (k%65536%sz).toNat (aW (C[(k%65536%sz).toNat]?.getD []) k v)=_;rw[ey];rfl
 rw[e];obtain⟨m0,m1,m2⟩:=ot (k:=k) s4;refine h.set ea (oi (h.ndk _ _ ey)) λp hp=>?_;rcases rj hp with z|z
 .exact h.home _ _ ey p z
 .rw[z,m2]
section
theorem SSt.moved_some (e:st.nxt=some m):st.moved=st.mv:=by unfold SSt.moved;rw[e]
theorem SSt.moved_none (e:st.nxt=none):st.moved=0:=by unfold SSt.moved;rw[e]
theorem SlB.movVal (h:SlB t H a st d) (z:SzOk st) (em:st.nxt=some m) {kv:List (Int×V)} (ek:d.C0[st.mv.toNat]?=some kv) (hk:k%65536%st.size<=st.mv) {x:List (Int×V)}
  (ex:(kv.foldl (fe m) d.C1)[(k%65536%m).toNat]?=some x):aK x k=aK st.kv k:=by
 obtain⟨pm,v0,v1,_⟩:=z.nx m em;obtain⟨s4,_⟩:=dQ z.pw;obtain⟨s5,_⟩:=dQ pm;have r1:=h.row1;rw[em]at r1;obtain⟨n0,n1,n2⟩:=ot (k:=k) s5;obtain⟨m0,m1,m2⟩:=ot (k:=k) s4;obtain⟨y,ey⟩:=cZ (l:=d.C1) n0 (by rw[r1.lc];exact n1);obtain⟨c1,ec1⟩:=cZ (l:=d.A1) n0 (by rw[r1.la];exact n1);obtain⟨x',e',_,hv⟩:=uL (m:=m) (h.row0.ndk _ _ ek) ey;rw[ex]at e';cases e';rw[hv k,if_pos rfl];have hm:=SSt.moved_some em;by_cases c:k%65536%st.size=st.mv
 .obtain⟨b0,eb0⟩:=cZ (l:=d.A0) m0 (by rw[h.row0.la];exact m1);have ic:IsCell d st k b0 kv:= .inl ⟨by lia,eb0,by rw[c];exact ek⟩;have yn:aK y k=none:=by
   cases q:aK y k with
   |none=>rfl
   |some v=>
    obtain⟨p,hp,e⟩:=Qh.mp (p4 q);have:=h.new _ _ ey p hp;rw[e]at this;lia
  rw[h.val k b0 kv ic,yn];simp
 .have ic:IsCell d st k c1 y:= .inr ⟨m,em,by lia,ec1,ey⟩;have kn:aK kv k=none:=by
   cases q:aK kv k with
   |none=>rfl
   |some v=>
    obtain⟨p,hp,e⟩:=Qh.mp (p4 q);have:=h.row0.home _ _ ek p hp;rw[e]at this;lia
  rw[kn,h.val k c1 y ic];rfl
theorem dv {l:List α} {x y:α} (e:(l.set i x)[j]?=some y):(i=j/\y=x)\/(i≠j/\l[j]?=some y):=by
 rw[Qq]at e;by_cases z:i=j
 .rw[if_pos z]at e;split at e
  .cases e;exact .inl ⟨z,rfl⟩
  .cases e
 .rw[if_neg z]at e;exact .inr ⟨z,e⟩
theorem SlB.one (h:SlB t H a st d) (z:SzOk st) (em:st.nxt=some m) {kv:List (Int×V)} (ek:d.C0[st.mv.toNat]?=some kv) {b':Addr} (nl:st.mv+1≠st.size)
  (ha:H' a=some (.ins t.aV dx (slF d.tb (st.mv+1) d.n))) (ht:H' d.tb=H d.tb) (h0:H' d.r0=some (.lst ((d.A0.set st.mv.toNat b').map V.ref))) (hb:H' b'=some (.dK [])) (hF:¬SlF a st d b')
  (hA:∀(j:Nat) b,d.A0[j]?=some b->j≠st.mv.toNat->H' b=H b) (hr:RowOk H' d.r1 d.A1 (kv.foldl (fe m) d.C1) m):
  SlB t H' a st.one {d with A0:=d.A0.set st.mv.toNat b',C0:=d.C0.set st.mv.toNat [],C1:=kv.foldl (fe m) d.C1}:=by
 obtain⟨pm,v0,v1,_⟩:=z.nx m em;have hone:st.one={st with mv:=st.mv+1}:=by unfold SSt.one;rw[em];exact if_neg nl
 have hmv:({st with mv:=st.mv+1}:SSt).moved=st.mv+1:=SSt.moved_some (st:={st with mv:=st.mv+1}) em;have hm:=SSt.moved_some em;have nA0:b'∉d.A0:=λq=>hF (.inr (.inr (.inr (.inl q))));have nA1:b'∉d.A1:=λq=>hF (.inr (.inr (.inr (.inr (.inr q)))));rw[hone];have r1:=h.row1;rw[em]at r1;refine⟨⟨dx,by rw[hmv];exact ha⟩,by rw[ht];exact h.tbl,⟨h0,by rw[QF];exact h.row0.la,by rw[QF];exact h.row0.lc,λj b x e1 e2=>?_,λj x e=>?_,λi j b e1 e2=>?_,λj x e p hp=>?_⟩,?_,λb hb0 hb1=>?_,h.tr,h.tr1,λj x e lt=>?_,λj x e p hp=>?_,λk c x ic=>?_⟩
 .rcases dv e1 with⟨q,rfl⟩|⟨q,e1⟩
  .rcases dv e2 with⟨_,rfl⟩|⟨q2,_⟩
   .exact hb
   .exact absurd q q2
  .rcases dv e2 with⟨q2,_⟩|⟨_,e2⟩
   .exact absurd q2 q
   .rw[hA j b e1 (Ne.symm q)];exact h.row0.cell j b x e1 e2
 .rcases dv e with⟨_,rfl⟩|⟨_,e⟩
  .exact ZC
  .exact h.row0.ndk j x e
 .have e1:(d.A0.set st.mv.toNat b')[i]?=some b:=e1;have e2:(d.A0.set st.mv.toNat b')[j]?=some b:=e2;rcases dv e1 with⟨q,y1⟩|⟨q,f1⟩<;>rcases dv e2 with⟨q2,y2⟩|⟨q2,f2⟩
  .exact q.symm.trans q2
  .rw[y1]at f2;exact absurd (Q2 f2) nA0
  .rw[y2]at f1;exact absurd (Q2 f1) nA0
  .exact h.row0.inj i j b f1 f2
 .rcases dv e with⟨_,rfl⟩|⟨_,e⟩
  .cases hp
  .exact h.row0.home j x e p hp
 .show match st.nxt with|none=>_|some m=>_
  rw[em];exact hr
 .obtain⟨j,hj,e⟩:=QI (show b∈d.A0.set st.mv.toNat b' from hb0);rcases dv (Q3.mpr ⟨hj,e⟩)with⟨_,rfl⟩|⟨_,e⟩
  .exact nA1 hb1
  .exact h.dis b (Q2 e) hb1
 .rw[hmv]at lt;rcases dv e with⟨_,rfl⟩|⟨q,e⟩
  .rfl
  .exact h.old j x e (by lia)
 .rw[hmv];show p.1%65536%st.size<st.mv+1;obtain⟨y,ey⟩:∃y,d.C1[j]?=some y:=by
   have hj:j<(kv.foldl (fe m) d.C1).length:=(Q3.mp e).1;rw[yo]at hj;exact⟨_,Q4 hj⟩
  obtain⟨x',e',hp',_⟩:=uL (m:=m) (h.row0.ndk _ _ ek) ey;have e:(kv.foldl (fe m) d.C1)[j]?=some x:=e;rw[e]at e';cases e';rcases hp' p hp with q|q
  .have:=h.new j y ey p q;lia
  .obtain⟨p',hp',e3⟩:=Qh.mp q;have:=h.row0.home _ _ ek p' hp';rw[e3]at this;lia
 .show aK x k=aK st.kv k;rcases ic with⟨g0,f1,f2⟩|⟨m',em',g0,f1,f2⟩
  .rw[hmv]at g0;have g0:st.mv+1<=k%65536%st.size:=g0;have f1:(d.A0.set st.mv.toNat b')[(k%65536%st.size).toNat]?=some c:=f1;have f2:(d.C0.set st.mv.toNat [])[(k%65536%st.size).toNat]?=some x:=f2;rcases dv f1 with⟨q,_⟩|⟨_,f1⟩
   .lia
   .rcases dv f2 with⟨q,_⟩|⟨_,f2⟩
    .lia
    .exact h.val k c x (.inl ⟨by lia,f1,f2⟩)
  .rw[hmv]at g0;have em':st.nxt=some m':=em';rw[em]at em';cases em';have g0:k%65536%st.size<st.mv+1:=g0;exact h.movVal z em ek (by lia) f2
theorem SlB.last (h:SlB t H a st d) (z:SzOk st) (em:st.nxt=some m) {kv:List (Int×V)} (ek:d.C0[st.mv.toNat]?=some kv) {tb':Addr} (l:st.mv+1=st.size)
  (ha:H' a=some (.ins t.aV dx (slF tb' 0 d.n))) (ht:H' tb'=some (.lst [.ref d.r1])) (hn:tb'≠d.r1) (hr:RowOk H' d.r1 d.A1 (kv.foldl (fe m) d.C1) m):
  SlB t H' a st.one ⟨tb',d.r1,d.r1,d.A1,[],kv.foldl (fe m) d.C1,[],d.n⟩:=by
 have hone:st.one={st with size:=m,nxt:=none,mv:=0}:=by unfold SSt.one;rw[em];exact if_pos l
 obtain⟨s4,_⟩:=dQ z.pw;rw[hone];refine⟨⟨dx,ha⟩,ht,hr,⟨rfl,rfl⟩,(λb _ q=>by cases q),hn,(λq=>by cases q),λj x e lt=>?_,(λj x e=>by simp at e),λk c x ic=>?_⟩
 .have lt:(j:Int)<0:=lt;lia
 .rcases ic with⟨g0,f1,f2⟩|⟨m',em',_⟩
  .have f2:(kv.foldl (fe m) d.C1)[(k%65536%m).toNat]?=some x:=f2;obtain⟨m0,m1,m2⟩:=ot (k:=k) s4;exact h.movVal z em ek (by lia) f2
  .cases em'
theorem SlB.begin (h:SlB t H a st d) (en:st.nxt=none) (ha:H' a=H a) (ht:H' d.tb=some (.lst [.ref d.r0,.ref r])) (h0:∀b,b=d.r0\/b∈d.A0->H' b=H b)
  (hr:RowOk H' r A (List.replicate m.toNat []) m) (nr:¬SlF a st d r) (nA:∀b∈A,¬SlF a st d b):SlB t H' a {st with nxt:=some m,mv:=0} {d with r1:=r,A1:=A,C1:=List.replicate m.toNat []}:=by
 obtain⟨dx,ho⟩:=h.obj;have hm:=SSt.moved_none en;refine⟨⟨dx,by rw[ha];rw[hm]at ho;exact ho⟩,ht,h.row0.frame h0,hr,λb q q2=>nA b q2 (.inr (.inr (.inr (.inl q)))),h.tr,λ_=>⟨λq=>nr (.inr (.inl q.symm)),λq=>nr (.inr (.inr (.inl q.symm)))⟩,λj x e lt=>?_,λj x e p hp=>?_,λk c x ic=>?_⟩
 .have lt:(j:Int)<0:=lt;lia
 .have:=ZB (Q2 e);subst this;cases hp
 .rcases ic with⟨g0,f1,f2⟩|⟨m',em',g0,f1,f2⟩
  .refine h.val k c x (.inl ⟨?_,f1,f2⟩);rw[hm];exact g0
  .have g0:k%65536%st.size<0:=g0;have f2:(List.replicate m.toNat ([]:List (Int×V)))[(k%65536%m').toNat]?=some x:=f2;have:0<=k%65536%st.size:=by
    have hpos:(0:Int)<=st.size:=by rw[<-h.row0.la];lia
    rcases Int.lt_or_eq_of_le hpos with q|q
    .exact QK _ (by lia)
    .rw[<-q,Int.emod_zero];exact QK _ (by decide)
   lia
theorem SlB.fresh (ha:H a=some (.ins t.aV dx (slF tb 0 0))) (ht:H tb=some (.lst [.ref r])) (hr:RowOk H r A (List.replicate 4 []) 4) (n:tb≠r):SlB t H a SSt.new ⟨tb,r,r,A,[],List.replicate 4 [],[],0⟩:=by
 refine⟨⟨dx,ha⟩,ht,hr,⟨rfl,rfl⟩,(λb _ q=>by cases q),n,(λq=>by cases q),λj x e lt=>?_,(λj x e=>by simp at e),λk c x ic=>?_⟩
 .have lt:(j:Int)<0:=lt;lia
 .rcases ic with⟨g0,f1,f2⟩|⟨m',em',_⟩
  .have f2:(List.replicate 4 ([]:List (Int×V)))[(k%65536%4).toNat]?=some x:=f2;have:=ZB (Q2 f2);subst this;rfl
  .cases em'
theorem SlB.short (h:SlB t H a st d) (z:SzOk st) {kv:List (Int×V)} (ic:IsCell d st k c kv):kv.length<=st.kv.length:=by
 obtain⟨_,_,nd⟩:=h.at ic;have sub:∀x∈kv.map (·.1),x∈st.kv.map (·.1):=λx hx=>by
  obtain⟨p,hp,e⟩:=Qh.mp hx;subst e;refine mem_keys.mpr ?_;have hs:=C5 hp;have:∃c',IsCell d st p.1 c' kv:=by
   rcases ic with⟨g0,f1,f2⟩|⟨m,em,g0,f1,f2⟩
   .obtain⟨s4,_⟩:=dQ z.pw;obtain⟨m0,m1,m2⟩:=ot (k:=k) s4;have e:=h.row0.home _ _ f2 p hp;rw[m2]at e;exact⟨c,.inl ⟨by rw[e];exact g0,by rw[e];exact f1,by rw[e];exact f2⟩⟩
   .obtain⟨pm,_⟩:=z.nx m em;obtain⟨s5,_⟩:=dQ pm;obtain⟨n0,n1,n2⟩:=ot (k:=k) s5;have r1:=h.row1;rw[em]at r1;have e:=r1.home _ _ f2 p hp;rw[n2]at e;exact⟨c,.inr ⟨m,em,h.new _ _ f2 p hp,by rw[e];exact f1,by rw[e];exact f2⟩⟩
  obtain⟨c',ic'⟩:=this;rw[<-h.val p.1 c' kv ic'];exact hs
 have:=iB nd sub;rw[Q0,Q0]at this;exact this
end
theorem vX {m:Int}:∀{kv:List (Int×V)} {C:List (List (Int×V))} {j:Nat} {x y:List (Int×V)},C[j]?=some y->(kv.foldl (fe m) C)[j]?=some x->x.length<=y.length+kv.length
 | [],C,j,x,y,e,f=>by
  have f:C[j]?=some x:=f;rw[e]at f;cases f;exact Q5 _
 |p::r,C,j,x,y,e,f=>by
  have h:=vX (m:=m) (vY (m:=m) (p:=p) e) f;have l:=dH y p.1 p.2;rw[Qf];split at h<;>lia
section
theorem SlB.short0 (h:SlB t H a st d) (z:SzOk st) {kv:List (Int×V)} (e:d.C0[j]?=some kv):kv.length<=st.kv.length:=by
 cases kv with
 |nil=>exact Qi _
 |cons p r=>
  have hp:=h.row0.home j _ e p Qd;have nj:¬(j:Int)<st.moved:=λq=>by have:=h.old j _ e q;cases this
  have ej:(p.1%65536%st.size).toNat=j:=by lia
  have hj:j<d.A0.length:=by
   have:=h.row0.la;have:=h.row0.lc;have:=(Q3.mp e).1;lia
  exact h.short z (k:=p.1) (c:=d.A0[j]) (.inl ⟨by lia,by rw[ej];exact Q4 hj,by rw[ej];exact e⟩)
theorem SlB.short1 (h:SlB t H a st d) (z:SzOk st) (em:st.nxt=some m) {kv:List (Int×V)} (e:d.C1[j]?=some kv):kv.length<=st.kv.length:=by
 have r1:=h.row1;rw[em]at r1;cases kv with
 |nil=>exact Qi _
 |cons p r=>
  have hp:=r1.home j _ e p Qd;have nj:=h.new j _ e p Qd;have ej:(p.1%65536%m).toNat=j:=by lia
  have hj:j<d.A1.length:=by
   have:=r1.la;have:=r1.lc;have:=(Q3.mp e).1;lia
  exact h.short z (k:=p.1) (c:=d.A1[j]) (.inr ⟨m,em,nj,by rw[ej];exact Q4 hj,by rw[ej];exact e⟩)
end
theorem SzOk.new:SzOk SSt.new:=⟨by decide,λm e=>by cases e⟩
theorem SzOk.kv (z:SzOk st):SzOk {st with kv:=kvs}:=⟨z.pw,z.nx⟩
theorem SzOk.one (z:SzOk st):SzOk st.one:=by
 unfold SSt.one;cases e:st.nxt with
 |none=>exact z
 |some m=>
  obtain⟨pm,v0,v1,hh⟩:=z.nx m e;show SzOk (if _ then _ else _);split
  .exact⟨pm,λm' q=>by cases q⟩
  .rename_i c
   refine⟨z.pw,λm' q=>?_⟩;have q:some m=some m':=q;cases q;exact⟨pm,by show 0<=st.mv+1;lia,by show st.mv+1<st.size;lia,hh⟩
theorem FC {x:Int} (h:x∈([4,8,16,32,64,128,256]:List Int)) (c:x<256):2*x∈([4,8,16,32,64,128,256]:List Int):=by
 rcases mI h with rfl|rfl|rfl|rfl|rfl|rfl|rfl<;>first|decide|exact absurd c (by decide)
theorem DO {x:Int} (h:x∈([4,8,16,32,64,128,256]:List Int)) (c:4<x):x/2∈([4,8,16,32,64,128,256]:List Int)/\2*(x/2)=x:=by
 rcases mI h with rfl|rfl|rfl|rfl|rfl|rfl|rfl<;>first|decide|exact absurd c (by decide)
theorem DN {x:Int} (h:x∈([4,8,16,32,64,128,256]:List Int)):0<x:=by
 rcases mI h with rfl|rfl|rfl|rfl|rfl|rfl|rfl<;>decide
theorem SzOk.three (z:SzOk st):SzOk st.three:=by
 unfold SSt.three;cases e:st.nxt with
 |some m=>exact z
 |none=>
  show SzOk (if _ then _ else _);split
  .rename_i c
   refine⟨z.pw,λm' q=>?_⟩;cases q;exact⟨FC z.pw c.2,QV _,DN z.pw,.inl rfl⟩
  .split
   .rename_i c
    refine⟨z.pw,λm' q=>?_⟩;cases q;exact⟨(DO z.pw c.2).1,QV _,DN z.pw,.inr (DO z.pw c.2).2⟩
   .exact z
def SlA (_K:PySem.W.Frag) (t:Adr) (H:Hp) (a:Addr) (F:Addr->Prop) (st:SSt):Prop:=
 ∃d,SlB t H a st d/\(∀b,F b↔SlF a st d b)/\d.n=(st.kv.length:Int)/\(st.kv.map (·.1)).Nodup/\SzOk st
section
theorem SlA.ins (h:SlA K t H a F st):∃dx fs,H a=some (.ins t.aV dx fs)/\∀m,NoM m->fs.lookup m=none:=by
 obtain⟨d,hb,_⟩:=h;obtain⟨dx,ho⟩:=hb.obj;exact⟨dx,_,ho,λm hm=>DL hm⟩
theorem SlA.dom (h:SlA K t H a F st) (hb:F b):∃o,H b=some o:=by
 obtain⟨d,h1,h2,_⟩:=h;exact h1.dom ((h2 b).mp hb)
theorem SlA.frame (h:SlA K t H a F st) (f:∀b,F b->H' b=H b):SlA K t H' a F st:=by
 obtain⟨d,h1,h2,h3⟩:=h;exact⟨d,h1.frame λb hb=>f b ((h2 b).mpr hb),h2,h3⟩
end
section
theorem SlA.same (h:SlA K t H a F st) (s:Same H H'):SlA K t H' a F st:=h.frame λb hb=>by
 obtain⟨o,e⟩:=h.dom hb;rw[e];exact s b o e
theorem SlA.out (h:SlA K t H a F st) (e:H p=none):¬F p:=λz=>by
 obtain⟨o,q⟩:=h.dom z;rw[q]at e;cases e
theorem SlA.upd (h:SlA K t H a F st) (e:¬F p):SlA K t (L2.upd H p o) a F st:=h.frame λb hb=>ac λz=>e (z▸hb)
end
def qi (K:PySem.W.Frag) (t:Adr):Sp:=λvs H Q _=>∃(a dx:Addr),vs=[.ref a]/\H a=some (.ins t.aV dx [])/\H dx=some (.own a)/\∀H' F,SlA K t H' a F SSt.new->Fr (λb=>b=a\/b=dx) F H H'->Q .non H'
def sg (K:PySem.W.Frag) (t:Adr):Sp:=λvs H Q _=>∃(a:Addr) (k i:Int) (F:Addr->Prop) (st:SSt),vs=[.ref a,.int k,.int i]/\SlA K t H a F st/\0<=k/\st.kv.length<4096/\
 ∀H' F',SlA K t H' a F' (st.put k (.int i))->Fr F F' H H'->Q .non H'
def qj (K:PySem.W.Frag) (t:Adr):Sp:=λvs H Q E=>∃(a:Addr) (k:Int) (F:Addr->Prop) (st:SSt),vs=[.ref a,.int k]/\SlA K t H a F st/\0<=k/\
 ((aK st.kv k).isSome=true->st.kv.length<4096/\∀H' F',SlA K t H' a F' (st.drop k)->Fr F F' H H'->Q .non H')/\(aK st.kv k=none->False)
def si (K:PySem.W.Frag) (t:Adr):Sp:=λvs H Q _=>∃(a:Addr) (k:Int) (F:Addr->Prop) (st:SSt),vs=[.ref a,.int k]/\SlA K t H a F st/\0<=k/\
 ∀H' F',SlA K t H' a F' st->Fr F F' H H'->Q (.bl (aK st.kv k).isSome) H'
def cV (l:List Int):Prop:=l.Pairwise (· < ·)
structure LvOk (ls:List (List Int)):Prop where
 ne:∀l∈ls,l≠[]
 le:∀l∈ls,l.length<=8
 nb:∀(i:Nat) (x y:List Int),ls[i]?=some x->ls[i+1]?=some y->5<=x.length+y.length
 up:cV ls.flatten
theorem LvOk.nil:LvOk []:=⟨(λ_ h=>by cases h),(λ_ h=>by cases h),(λi x y e=>by simp at e),List.Pairwise.nil⟩
theorem E3 (e:ls[i]?=some x):ls=ls.take i++x::ls.drop (i+1):=by
 obtain⟨h,e⟩:=Q3.mp e;rw[<-e,<-QR h,QA]
theorem fz (e:ls[i]?=some x):ls.flatten=(ls.take i).flatten++(x++(ls.drop (i+1)).flatten):=by
 conv=>lhs;rw[E3 e]
 rw[Zl,Zj]
theorem rise3 {a b c:List Int}:cV (a++(b++c))↔cV a/\cV b/\cV c/\(∀x∈a,∀y∈b,x<y)/\(∀x∈a,∀y∈c,x<y)/\∀x∈b,∀y∈c,x<y:=by
 unfold cV;rw[Qk,Qk];constructor
 .rintro ⟨h1,⟨h2,h3,h4⟩,h5⟩;exact⟨h1,h2,h3,λx hx y hy=>h5 x hx y (Zh _ hy),λx hx y hy=>h5 x hx y (Qo _ hy),h4⟩
 .rintro ⟨h1,h2,h3,h4,h5,h6⟩;refine⟨h1,⟨h2,h3,h6⟩,λx hx y hy=>?_⟩;rcases Q6.mp hy with z|z
  .exact h4 x hx y z
  .exact h5 x hx y z
structure LeafOf (ls:List (List Int)) (k:Int) (i:Nat):Prop where
 le:i<=ls.length
 lo:∀(j:Nat) (x:List Int),j<i->ls[j]?=some x->∀y∈x,y<k
 hi:∀x,ls[i]?=some x->∃y∈x,k<=y
theorem vA {y:Int} (h:y∈(ls.take i).flatten):∃(j:Nat) (x:List Int),j<i/\ls[j]?=some x/\y∈x:=by
 obtain⟨x,hx,hy⟩:=XV.mp h;obtain⟨j,hj,e⟩:=QI hx;rw[Qb]at hj;rw[Zx]at e;exact⟨j,x,by lia,Q3.mpr ⟨by lia,e⟩,hy⟩
theorem LeafOf.ahead (h:LeafOf ls k i):∀y∈(ls.take i).flatten,y<k:=λy hy=>by
 obtain⟨j,x,hj,e,hx⟩:=vA hy;exact h.lo j x hj e y hx
theorem LeafOf.behind (o:LvOk ls) (h:LeafOf ls k i):∀y∈(ls.drop (i+1)).flatten,k<y:=λy hy=>by
 cases e:ls[i]? with
 |none=>
  have:ls.length<=i:=Z8.mp e;rw[QU (by lia)]at hy;cases hy
 |some x=>
  obtain⟨z,hz,le⟩:=h.hi x e;have up:=o.up;rw[fz e]at up;have:=(rise3.mp up).2.2.2.2.2 z hz y hy;lia
theorem LeafOf.mem (o:LvOk ls) (h:LeafOf ls k i):k∈ls.flatten↔∃x,ls[i]?=some x/\k∈x:=by
 constructor
 .intro hk;cases e:ls[i]? with
  |none=>
   have l:ls.length<=i:=Z8.mp e;have:ls.take i=ls:=QC l;have:=h.ahead k (by rw[this];exact hk);lia
  |some x=>
   rw[fz e]at hk;rcases Q6.mp hk with z|z
   .have:=h.ahead k z;lia
   .rcases Q6.mp z with z|z
    .exact⟨x,rfl,z⟩
    .have:=h.behind o k z;lia
 .rintro ⟨x,e,hk⟩;exact XV.mpr ⟨x,Q2 e,hk⟩
theorem ww:∀{l:List Int} {k:Int},cV l->k∉l->(∀x∈l.take (l.filter (λz=>decide (z<k))).length,x<k)/\∀x∈l.drop (l.filter (λz=>decide (z<k))).length,k<x
 | [],k,_,_=>⟨λx h=>by simp at h,λx h=>by simp at h⟩
 |a::r,k,up,nk=>by
  obtain⟨h1,h2⟩:=Zb.mp up;have nr:k∉r:=λz=>nk (Qa _ z);have na:a≠k:=λz=>nk (by rw[z];exact Qd);by_cases c:a<k
  .obtain⟨i1,i2⟩:=ww h2 nr;rw[QN,if_pos (by simpa using c),Qf,XB,List.drop_succ_cons];refine⟨λx hx=>?_,i2⟩;rcases Qj.mp hx with rfl|hx
   .exact c
   .exact i1 x hx
  .have:(a::r).filter (λz=>decide (z<k))=[]:=by
    rw[Zn];intro x hx;rcases Qj.mp hx with rfl|hx
    .simpa using c
    .have:=h1 x hx;simp;lia
   rw[this];refine⟨λx hx=>by simp at hx,λx hx=>?_⟩;have hx:x∈a::r:=by simpa using hx
   rcases Qj.mp hx with rfl|hx
   .lia
   .have:=h1 x hx;lia
def eZ (l:List Int) (k:Int):List Int:=l.take (l.filter (λz=>decide (z<k))).length++k::l.drop (l.filter (λz=>decide (z<k))).length
theorem Bh:(eZ l k).length=l.length+1:=by
 have h:=Ql (λz=>decide (z<k)) l;unfold eZ;rw[Q9,Qf,Qb,Qr];lia
theorem insL_mem {x:Int}:x∈eZ l k↔x=k\/x∈l:=by
 unfold eZ;rw[Q6,Qj];have:x∈l↔x∈l.take (l.filter (λz=>decide (z<k))).length\/x∈l.drop (l.filter (λz=>decide (z<k))).length:=by
  rw[<-Q6,QA]
 rw[this];constructor
 .rintro (h|h|h)
  .exact .inr (.inl h)
  .exact .inl h
  .exact .inr (.inr h)
 .rintro (h|h|h)
  .exact .inr (.inl h)
  .exact .inl h
  .exact .inr (.inr h)
theorem zG (up:cV l) (nk:k∉l):cV (eZ l k):=by
 obtain⟨h1,h2⟩:=ww up nk;have up':cV (l.take (l.filter (λz=>decide (z<k))).length++l.drop (l.filter (λz=>decide (z<k))).length):=by rw[QA];exact up
 obtain⟨u1,u2,u3⟩:=Qk.mp up';unfold eZ;refine Qk.mpr ⟨u1,Zb.mpr ⟨h2,u2⟩,λx hx y hy=>?_⟩;rcases Qj.mp hy with rfl|hy
 .exact h1 x hx
 .exact u3 x hx y hy
structure AddAt (ls:List (List Int)) (k:Int) (i:Nat) (x:List Int):Prop where
 at_:ls[i]?=some x
 lo:∀y∈(ls.take i).flatten,y<k
 hi:∀y∈(ls.drop (i+1)).flatten,k<y
theorem LeafOf.add (o:LvOk ls) (h:LeafOf ls k i) (ne:ls≠[]):∃x,AddAt ls k (min i (ls.length-1)) x:=by
 have hl:0<ls.length:=Z0.mpr ne;by_cases c:i<ls.length
 .have:min i (ls.length-1)=i:=by lia
  rw[this];exact⟨ls[i],Q4 c,h.ahead,h.behind o⟩
 .have le:=h.le;have:min i (ls.length-1)=ls.length-1:=by lia
  rw[this];have hlt:ls.length-1<ls.length:=by lia
  refine⟨ls[ls.length-1],Q4 hlt,λy hy=>?_,λy hy=>?_⟩
  .obtain⟨j,x,hj,e,hx⟩:=vA hy;exact h.lo j x (by lia) e y hx
  .rw[QU (by lia)]at hy;cases hy
theorem uq (e:ls[i]?=some x):ls.set i y=ls.take i++y::ls.drop (i+1):=by
 have hi:=(Q3.mp e).1;rw[List.set_eq_take_append_cons_drop,if_pos hi]
theorem mE (e:ls[i]?=some x):(ls.set i y).flatten=(ls.take i).flatten++(y++(ls.drop (i+1)).flatten):=by
 rw[uq e,Zl,Zj]
theorem AddAt.set (o:LvOk ls) (h:AddAt ls k i x) (nk:k∉ls.flatten):cV (ls.set i (eZ x k)).flatten/\∀z,z∈(ls.set i (eZ x k)).flatten↔z=k\/z∈ls.flatten:=by
 have up:=o.up;rw[fz h.at_]at up nk;obtain⟨u1,u2,u3,u4,u5,u6⟩:=rise3.mp up;have nx:k∉x:=λz=>nk (Qo _ (Zh _ z));rw[mE h.at_,fz h.at_];refine⟨rise3.mpr ⟨u1,zG u2 nx,u3,λa ha b hb=>?_,u5,λa ha b hb=>?_⟩,λz=>?_⟩
 .rcases insL_mem.mp hb with rfl|hb
  .exact h.lo a ha
  .exact u4 a ha b hb
 .rcases insL_mem.mp ha with rfl|ha
  .exact h.hi b hb
  .exact u6 a ha b hb
 .rw[Q6,Q6,Q6,Q6,insL_mem];constructor
  .rintro (h|(h|h)|h)
   .exact .inr (.inl h)
   .exact .inl h
   .exact .inr (.inr (.inl h))
   .exact .inr (.inr (.inr h))
  .rintro (h|h|h|h)
   .exact .inr (.inl (.inl h))
   .exact .inl h
   .exact .inr (.inl (.inr h))
   .exact .inr (.inr h)
theorem mY {z:List Int} (e:ls[i]?=some x) (f:(ls.set i y)[j]?=some z):(i=j/\z=y)\/(i≠j/\ls[j]?=some z):=by
 rw[Qq]at f;by_cases c:i=j
 .rw[if_pos c]at f;split at f
  .cases f;exact .inl ⟨c,rfl⟩
  .cases f
 .rw[if_neg c]at f;exact .inr ⟨c,f⟩
theorem p8 {z:List Int} (e:ls[i]?=some x) (h:z∈ls.set i y):z=y\/z∈ls:=by
 obtain⟨j,hj,ez⟩:=QI h;rcases mY e (Q3.mpr ⟨hj,ez⟩)with⟨_,q⟩|⟨_,q⟩
 .exact .inl q
 .exact .inr (Q2 q)
theorem LvOk.grown (o:LvOk ls) (e:ls[i]?=some x) (l1:x.length<=y.length) (l2:y.length<=8) (up:cV (ls.set i y).flatten):LvOk (ls.set i y):=by
 have hx:=o.ne x (Q2 e);have px:0<x.length:=Z0.mpr hx;refine⟨λl hl=>?_,λl hl=>?_,λj a b f g=>?_,up⟩
 .rcases p8 e hl with rfl|hl
  .exact Zt (by lia)
  .exact o.ne l hl
 .rcases p8 e hl with rfl|hl
  .exact l2
  .exact o.le l hl
 .rcases mY e f with⟨c,h1⟩|⟨c,f1⟩<;>rcases mY e g with⟨c',h2⟩|⟨c',g1⟩
  .lia
  .subst c;have:=o.nb i x b e g1;rw[h1];lia
  .rw[c']at e;have:=o.nb j a x f1 e;rw[h2];lia
  .exact o.nb j a b f1 g1
theorem LvOk.parted {a b:List Int} (o:LvOk ls) (e:ls[i]?=some x) (la:a.length=4) (lb:b.length=5) (up:cV (ls.set i (a++b)).flatten):
  LvOk ((ls.set i a).take (i+1)++b::(ls.set i a).drop (i+1))/\((ls.set i a).take (i+1)++b::(ls.set i a).drop (i+1)).flatten=(ls.set i (a++b)).flatten:=by
 have hi:=(Q3.mp e).1;have lt:(ls.take i).length=i:=by rw[Qb];lia
 have e1:(ls.set i a).take (i+1)++b::(ls.set i a).drop (i+1)=ls.take i++a::b::ls.drop (i+1):=by
  rw[uq (y:=a) e];have h1:(ls.take i++a::ls.drop (i+1)).take (i+1)=ls.take i++ [a]:=by
   rw[List.take_append,lt,QC (by lia)];have:i+1-i=1:=by lia
   rw[this];rfl
  have h2:(ls.take i++a::ls.drop (i+1)).drop (i+1)=ls.drop (i+1):=by
   rw[List.drop_append,lt,QU (by lia)];have:i+1-i=1:=by lia
   rw[this];rfl
  rw[h1,h2,Qn];rfl
 have e2:(ls.take i++a::b::ls.drop (i+1)).flatten=(ls.set i (a++b)).flatten:=by
  rw[mE e,Zl,Zj,Zj,Qn]
 rw[e1];refine⟨⟨λl hl=>?_,λl hl=>?_,λj p q f g=>?_,by rw[e2];exact up⟩,e2⟩
 .rcases Q6.mp hl with h|h
  .exact o.ne l (QM h)
  .rcases Qj.mp h with rfl|h
   .exact Zt (by lia)
   .rcases Qj.mp h with rfl|h
    .exact Zt (by lia)
    .exact o.ne l (Zz h)
 .rcases Q6.mp hl with h|h
  .exact o.le l (QM h)
  .rcases Qj.mp h with rfl|h
   .lia
   .rcases Qj.mp h with rfl|h
    .lia
    .exact o.le l (Zz h)
 .have look:∀(j:Nat) (p:List Int),(ls.take i++a::b::ls.drop (i+1))[j]?=some p->(j<i/\ls[j]?=some p)\/(j=i/\p=a)\/(j=i+1/\p=b)\/(i+2<=j/\ls[j-1]?=some p):=λj p f=>by
   rw[Xw,lt]at f;split at f
   .rename_i c
    rw[List.getElem?_take,if_pos c]at f;exact .inl ⟨c,f⟩
   .rename_i c
    rcases(show j=i\/j=i+1\/i+2<=j by lia)with rfl|rfl|h
    .have:j-j=0:=by lia
     rw[this]at f;cases f;exact .inr (.inl ⟨rfl,rfl⟩)
    .have:i+1-i=1:=by lia
     rw[this]at f;cases f;exact .inr (.inr (.inl ⟨rfl,rfl⟩))
    .obtain⟨n,rfl⟩:∃n,j=i+2+n:=⟨j-(i+2),by lia⟩;have:i+2+n-i=n+1+1:=by lia
     rw[this,QX,QX,X6]at f;refine .inr (.inr (.inr ⟨h,?_⟩));have:i+2+n-1=i+1+n:=by lia
     rw[this];exact f
  have pos:∀(j:Nat) (p:List Int),ls[j]?=some p->1<=p.length:=λj p f=>Z0.mpr (o.ne p (Q2 f));rcases look j p f with⟨c,f1⟩|⟨c,h1⟩|⟨c,h1⟩|⟨c,f1⟩<;>rcases look (j+1) q g with⟨c',g1⟩|⟨c',h2⟩|⟨c',h2⟩|⟨c',g1⟩<;>(try rw[h1])<;>(try rw[h2])<;>(try lia)
  .exact o.nb j p q f1 g1
  .have:=pos j p f1;lia
  .have:j+1-1=j-1+1:=by lia
   rw[this]at g1;exact o.nb (j-1) p q f1 g1
def lvF (L:Addr):List (Str×V):=[("leaves",.ref L)]
theorem b6:(lvF L).lookup ("leaves":Str)=some (.ref L):=by
 have hb:(("leaves":Str)==("leaves":Str))=true:=beq_iff_eq.mpr rfl;unfold lvF;simp only[List.lookup,hb]
theorem DX {m:Str} (h:m≠("leaves":Str)):(lvF L).lookup m=none:=by
 have hb:(m==("leaves":Str))=false:=beq_eq_false_iff_ne.mpr h;unfold lvF;simp only[List.lookup,hb]
structure LvB (t:Adr) (H:Hp) (a L:Addr) (A:List Addr) (ls:List (List Int)):Prop where
 obj:∃dx,H a=some (.ins t.bj dx (lvF L))
 lst:H L=some (.lst (A.map V.ref))
 len:A.length=ls.length
 leaf:∀(j:Nat) (b:Addr) (l:List Int),A[j]?=some b->ls[j]?=some l->H b=some (.lst (l.map V.int))
 inj:∀(i j:Nat) (b:Addr),A[i]?=some b->A[j]?=some b->i=j
 nL:L∉A
def LvF (a L:Addr) (A:List Addr):Addr->Prop:=λb=>b=a\/b=L\/b∈A
section
theorem LvB.at (h:LvB t H a L A ls) (e:ls[i]?=some x):∃c,A[i]?=some c/\H c=some (.lst (x.map V.int)):=by
 have hi:i<A.length:=by rw[h.len];exact(Q3.mp e).1
 exact⟨A[i],Q4 hi,h.leaf i _ x (Q4 hi) e⟩
theorem LvB.has (h:LvB t H a L A ls) (hb:b∈A):∃(j:Nat) (l:List Int),A[j]?=some b/\ls[j]?=some l/\H b=some (.lst (l.map V.int)):=by
 obtain⟨j,hj,e⟩:=QI hb;have hc:j<ls.length:=by rw[<-h.len];exact hj
 have e1:A[j]?=some b:=by rw[Q4 hj,e]
 exact⟨j,ls[j],e1,Q4 hc,h.leaf j b _ e1 (Q4 hc)⟩
theorem LvB.frame (h:LvB t H a L A ls) (f:∀b,LvF a L A b->H' b=H b):LvB t H' a L A ls:=by
 obtain⟨dx,ho⟩:=h.obj;exact⟨⟨dx,by rw[f a (.inl rfl)];exact ho⟩,by rw[f L (.inr (.inl rfl))];exact h.lst,h.len,λj b l e1 e2=>by rw[f b (.inr (.inr (Q2 e1)))];exact h.leaf j b l e1 e2,h.inj,h.nL⟩
theorem LvB.dom (h:LvB t H a L A ls) (hb:LvF a L A b):∃o,H b=some o:=by
 obtain⟨dx,ho⟩:=h.obj;rcases hb with rfl|rfl|hb
 .exact⟨_,ho⟩
 .exact⟨_,h.lst⟩
 .obtain⟨_,_,_,_,q⟩:=h.has hb;exact⟨_,q⟩
theorem LvB.same (h:LvB t H a L A ls) (s:Same H H'):LvB t H' a L A ls:=h.frame λb hb=>by
 obtain⟨o,e⟩:=h.dom hb;rw[e,s b o e]
theorem LvB.out (h:LvB t H a L A ls) (n:H p=none):¬LvF a L A p:=λz=>by
 obtain⟨o,e⟩:=h.dom z;rw[n]at e;cases e
theorem LvB.write (h:LvB t H a L A ls) (ec:A[i]?=some c) (ex:ls[i]?=some x):LvB t (upd H c (.lst (y.map V.int))) a L A (ls.set i y):=by
 obtain⟨dx,ho⟩:=h.obj;have hc:=h.leaf i c x ec ex;have cA:=Q2 ec;refine⟨⟨dx,by rw[ac (bW ho hc (by intro z;cases z))];exact ho⟩,by rw[ac (λz=>h.nL (by rw[z];exact cA))];exact h.lst,by rw[QF];exact h.len,λj b l e1 e2=>?_,h.inj,h.nL⟩;rw[Qq]at e2;by_cases z:i=j
 .subst z;rw[ec]at e1;cases e1;rw[if_pos rfl]at e2;split at e2
  .cases e2;exact af
  .cases e2
 .rw[if_neg z]at e2;rw[ac (λy=>z (h.inj i j c ec (by rw[<-y];exact e1)))];exact h.leaf j b l e1 e2
theorem LvB.swap (h:LvB t H a L A ls) {n:Addr} (ec:A[i]?=some c) (ex:ls[i]?=some x) (hn:H n=some (.lst (y.map V.int))) (nF:¬LvF a L A n):LvB t (upd H L (.lst ((A.set i n).map V.ref))) a L (A.set i n) (ls.set i y):=by
 obtain⟨dx,ho⟩:=h.obj;have nA:n∉A:=λz=>nF (.inr (.inr z));have nL:n≠L:=λz=>nF (.inr (.inl z));refine⟨⟨dx,by rw[ac (bW ho h.lst (by intro z;cases z))];exact ho⟩,af,by rw[QF,QF];exact h.len,λj b l e1 e2=>?_,λj k b e1 e2=>?_,λz=>?_⟩
 .rw[Qq]at e1 e2;by_cases z:i=j
  .rw[if_pos z]at e1 e2;split at e1
   .cases e1;split at e2
    .cases e2;rw[ac nL];exact hn
    .cases e2
   .cases e1
  .rw[if_neg z]at e1 e2;rw[ac (λy=>h.nL (by rw[<-y];exact Q2 e1))];exact h.leaf j b l e1 e2
 .rw[Qq]at e1 e2;by_cases z:i=j
  .rw[if_pos z]at e1;split at e1
   .cases e1;by_cases w:i=k
    .exact z.symm.trans w
    .rw[if_neg w]at e2;exact absurd (Q2 e2) nA
   .cases e1
  .rw[if_neg z]at e1;by_cases w:i=k
   .rw[if_pos w]at e2;split at e2
    .cases e2;exact absurd (Q2 e1) nA
    .cases e2
   .rw[if_neg w]at e2;exact h.inj j k b e1 e2
 .obtain⟨j,hj,e⟩:=QI z;have e1:=Q3.mpr ⟨hj,e⟩;rw[Qq]at e1;by_cases w:i=j
  .rw[if_pos w]at e1;split at e1
   .cases e1;exact nL rfl
   .cases e1
  .rw[if_neg w]at e1;exact h.nL (Q2 e1)
theorem ins_get {l:List α} {x y:α} (hi:i<=l.length) (e:(l.take i++x::l.drop i)[j]?=some y):(j<i/\l[j]?=some y)\/(j=i/\y=x)\/(i<j/\l[j-1]?=some y):=by
 have lt:(l.take i).length=i:=by rw[Qb];lia
 rw[Xw,lt]at e;split at e
 .rename_i c
  rw[List.getElem?_take,if_pos c]at e;exact .inl ⟨c,e⟩
 .rename_i c
  rcases(show j=i\/i<j by lia)with rfl|h
  .have:j-j=0:=by lia
   rw[this]at e;cases e;exact .inr (.inl ⟨rfl,rfl⟩)
  .obtain⟨n,rfl⟩:∃n,j=i+1+n:=⟨j-(i+1),by lia⟩;have:i+1+n-i=n+1:=by lia
   rw[this,QX,X6]at e;have:i+1+n-1=i+n:=by lia
   exact .inr (.inr ⟨h,by rw[this];exact e⟩)
theorem LvB.insert (h:LvB t H a L A ls) {n:Addr} (hi:i<=A.length) (hn:H n=some (.lst (y.map V.int))) (nF:¬LvF a L A n):
  LvB t (upd H L (.lst ((A.take i++n::A.drop i).map V.ref))) a L (A.take i++n::A.drop i) (ls.take i++y::ls.drop i):=by
 obtain⟨dx,ho⟩:=h.obj;have nA:n∉A:=λz=>nF (.inr (.inr z));have nL:n≠L:=λz=>nF (.inr (.inl z));have hi2:i<=ls.length:=by rw[<-h.len];exact hi
 refine⟨⟨dx,by rw[ac (bW ho h.lst (by intro z;cases z))];exact ho⟩,af,?_,λj b l e1 e2=>?_,λj k b e1 e2=>?_,λz=>?_⟩
 .have:=h.len;rw[Q9,Q9,Qf,Qf,Qb,Qb,Qr,Qr];lia
 .rcases ins_get hi e1 with⟨c1,f1⟩|⟨c1,f1⟩|⟨c1,f1⟩<;>rcases ins_get hi2 e2 with⟨c2,f2⟩|⟨c2,f2⟩|⟨c2,f2⟩<;>(try lia)
  .rw[ac (λy=>h.nL (by rw[<-y];exact Q2 f1))];exact h.leaf j b l f1 f2
  .rw[f1,f2,ac nL];exact hn
  .rw[ac (λy=>h.nL (by rw[<-y];exact Q2 f1))];exact h.leaf (j-1) b l f1 f2
 .rcases ins_get hi e1 with⟨c1,f1⟩|⟨c1,f1⟩|⟨c1,f1⟩<;>rcases ins_get hi e2 with⟨c2,f2⟩|⟨c2,f2⟩|⟨c2,f2⟩
  .exact h.inj j k b f1 f2
  .rw[f2]at f1;exact absurd (Q2 f1) nA
  .have:=h.inj _ _ b f1 f2;lia
  .rw[f1]at f2;exact absurd (Q2 f2) nA
  .lia
  .rw[f1]at f2;exact absurd (Q2 f2) nA
  .have:=h.inj _ _ b f1 f2;lia
  .rw[f2]at f1;exact absurd (Q2 f1) nA
  .have:=h.inj _ _ b f1 f2;lia
 .rcases Q6.mp z with z|z
  .exact h.nL (QM z)
  .rcases Qj.mp z with z|z
   .exact nL z.symm
   .exact h.nL (Zz z)
theorem ku {l:List α} {y:α} (e:(l.eraseIdx i)[j]?=some y):(j<i/\l[j]?=some y)\/(i<=j/\l[j+1]?=some y):=by
 rw[List.getElem?_eraseIdx]at e;split at e
 .rename_i c;exact .inl ⟨c,e⟩
 .rename_i c;exact .inr ⟨by lia,e⟩
theorem LvB.erase (h:LvB t H a L A ls):LvB t (upd H L (.lst ((A.eraseIdx i).map V.ref))) a L (A.eraseIdx i) (ls.eraseIdx i):=by
 obtain⟨dx,ho⟩:=h.obj;refine⟨⟨dx,by rw[ac (bW ho h.lst (by intro z;cases z))];exact ho⟩,af,?_,λj b l e1 e2=>?_,λj k b e1 e2=>?_,λz=>h.nL (Zd z)⟩
 .rw[Xx,Xx,h.len]
 .have bA:b∈A:=Zd (Q2 e1);rw[ac (λy=>h.nL (by rw[<-y];exact bA))];rcases ku e1 with⟨c1,f1⟩|⟨c1,f1⟩<;>rcases ku e2 with⟨c2,f2⟩|⟨c2,f2⟩<;>(try lia)
  .exact h.leaf j b l f1 f2
  .exact h.leaf (j+1) b l f1 f2
 .rcases ku e1 with⟨c1,f1⟩|⟨c1,f1⟩<;>rcases ku e2 with⟨c2,f2⟩|⟨c2,f2⟩
  .exact h.inj j k b f1 f2
  .have:=h.inj _ _ b f1 f2;lia
  .have:=h.inj _ _ b f1 f2;lia
  .have:=h.inj _ _ b f1 f2;lia
end
theorem tj (up:cV ls.flatten) (ex:ls[i]?=some x) (ey:ls[j]?=some y) (h:i<j):∀p∈x,∀q∈y,p<q:=λp hp q hq=>by
 rw[fz ex]at up;refine(rise3.mp up).2.2.2.2.2 p hp q (XV.mpr ⟨y,?_,hq⟩);refine Q2 (i:=j-(i+1)) ?_;rw[X6];have:i+1+(j-(i+1))=j:=by lia
 rw[this];exact ey
theorem CC (up:cV ls.flatten) (ex:ls[i]?=some x):cV x:=by
 rw[fz ex]at up;exact(rise3.mp up).2.1
theorem Be (up:cV x) (ne:x≠[]):∃m,x[x.length-1]?=some m/\m∈x/\∀y∈x,y<=m:=by
 have hl:=Z0.mpr ne;have hlt:x.length-1<x.length:=by lia
 refine⟨x[x.length-1],Q4 hlt,Z4 hlt,λy hy=>?_⟩;obtain⟨j,hj,e⟩:=QI hy;rcases(show j=x.length-1\/j<x.length-1 by lia)with h|h
 .subst h;rw[e];exact QV _
 .have:=QJ.mp up j (x.length-1) hj hlt h;rw[e]at this;lia
structure LvN (ls:List (List Int)) (E:Nat->Prop):Prop where
 ne:∀l∈ls,l≠[]
 le:∀l∈ls,l.length<=8
 nb:∀(i:Nat) (x y:List Int),ls[i]?=some x->ls[i+1]?=some y->E i\/5<=x.length+y.length
 up:cV ls.flatten
theorem LvN.ok (h:LvN ls E) (no:∀i,¬E i):LvOk ls:=⟨h.ne,h.le,λi x y e1 e2=>(h.nb i x y e1 e2).resolve_left (no i),h.up⟩
def kO (ls:List (List Int)) (i:Nat):List (List Int):=match ls[i]?,ls[i+1]? with
 |some x,some y=>if x.length+y.length<5 then(ls.set i (x++y)).eraseIdx (i+1)else ls
 |_,_=>ls
theorem rC (h:ls.length<=i+1):kO ls i=ls:=by
 unfold kO;have:ls[i+1]?=none:=Z8.mpr h;rw[this];split
 .rename_i h2;cases h2
 .rfl
theorem wg (ex:ls[i]?=some x) (ey:ls[i+1]?=some y):kO ls i=if x.length+y.length<5 then(ls.set i (x++y)).eraseIdx (i+1)else ls:=by
 unfold kO;rw[ex,ey]
theorem zE:(kO ls i).length<=ls.length/\ls.length<=(kO ls i).length+1:=by
 unfold kO;split
 .split
  .rw[Xx,QF];split<;>lia
  .lia
 .lia
theorem rB {z v:List Int} (e:((ls.set i z).eraseIdx (i+1))[j]?=some v):(j<i/\ls[j]?=some v)\/(j=i/\v=z)\/(i<j/\ls[j+1]?=some v):=by
 rw[List.getElem?_eraseIdx]at e;split at e
 .rename_i c
  rw[Qq]at e;by_cases h:i=j
  .rw[if_pos h]at e;split at e
   .cases e;exact .inr (.inl ⟨h.symm,rfl⟩)
   .cases e
  .rw[if_neg h]at e;exact .inl ⟨by lia,e⟩
 .rename_i c
  rw[Qq,if_neg (by lia)]at e;exact .inr (.inr ⟨by lia,e⟩)
theorem zD (ex:ls[i]?=some x) (ey:ls[i+1]?=some y):((ls.set i (x++y)).eraseIdx (i+1)).flatten=ls.flatten:=by
 have hi:=(Q3.mp ex).1;have lt:(ls.take i).length=i:=by rw[Qb];lia
 have hy:ls.drop (i+1)=y::ls.drop (i+2):=by
  obtain⟨h,e⟩:=Q3.mp ey;rw[<-e,<-QR h]
 have e1:(ls.set i (x++y)).eraseIdx (i+1)=ls.take i++(x++y)::ls.drop (i+2):=by
  rw[uq ex,hy,XH (by lia),lt];have:i+1-i=1:=by lia
  rw[this];rfl
 rw[e1,fz ex,hy,Zl,Zj,Zj,Qn]
theorem LvN.join (h:LvN ls E) (hE:∀j,E j->j=i\/j+1=i):LvN (kO ls i) (λj=>j+1=i/\E j)/\(kO ls i).flatten=ls.flatten:=by
 cases ex:ls[i]? with
 |none=>
  have hl:ls.length<=i:=Z8.mp ex;rw[rC (by lia)];refine⟨⟨h.ne,h.le,λj x y e1 e2=>?_,h.up⟩,rfl⟩;rcases h.nb j x y e1 e2 with z|z
  .rcases hE j z with rfl|w
   .rw[ex]at e1;cases e1
   .exact .inl ⟨w,z⟩
  .exact .inr z
 |some x=>
  cases ey:ls[i+1]? with
  |none=>
   have hl:ls.length<=i+1:=Z8.mp ey;rw[rC hl];refine⟨⟨h.ne,h.le,λj x' y e1 e2=>?_,h.up⟩,rfl⟩;rcases h.nb j x' y e1 e2 with z|z
   .rcases hE j z with rfl|w
    .rw[ey]at e2;cases e2
    .exact .inl ⟨w,z⟩
   .exact .inr z
  |some y=>
   rw[wg ex ey];by_cases c:x.length+y.length<5
   .rw[if_pos c];have fl:=zD ex ey;have mem:∀v∈(ls.set i (x++y)).eraseIdx (i+1),v=x++y\/v∈ls:=λv hv=>by
     obtain⟨j,hj,e⟩:=QI hv;rcases rB (Q3.mpr ⟨hj,e⟩)with⟨_,q⟩|⟨_,q⟩|⟨_,q⟩
     .exact .inr (Q2 q)
     .exact .inl q
     .exact .inr (Q2 q)
    have px:=Z0.mpr (h.ne x (Q2 ex));have lxy:(x++y).length=x.length+y.length:=Q9;refine⟨⟨λv hv=>?_,λv hv=>?_,λj u v e1 e2=>?_,by rw[fl];exact h.up⟩,fl⟩
    .rcases mem v hv with rfl|q
     .exact Zt (by lia)
     .exact h.ne v q
    .rcases mem v hv with rfl|q
     .lia
     .exact h.le v q
    .rcases rB e1 with⟨c1,f1⟩|⟨c1,f1⟩|⟨c1,f1⟩<;>rcases rB e2 with⟨c2,f2⟩|⟨c2,f2⟩|⟨c2,f2⟩<;>(try lia)
     .rcases h.nb j u v f1 f2 with z|z
      .rcases hE j z with w|w
       .lia
       .lia
      .exact .inr z
     .rcases h.nb j u x f1 (by rw[c2];exact ex)with z|z
      .exact .inl ⟨c2,z⟩
      .rw[f2];exact .inr (by lia)
     .have e3:ls[i+1+1]?=some v:=by rw[<-c1];exact f2
      rcases h.nb (i+1) y v ey e3 with z|z
      .rcases hE (i+1) z with w|w<;>lia
      .rw[f1];exact .inr (by lia)
     .rcases h.nb (j+1) u v f1 f2 with z|z
      .rcases hE (j+1) z with w|w<;>lia
      .exact .inr z
   .rw[if_neg c];refine⟨⟨h.ne,h.le,λj u v e1 e2=>?_,h.up⟩,rfl⟩;rcases h.nb j u v e1 e2 with z|z
    .rcases hE j z with w|w
     .subst w;rw[ex]at e1;rw[ey]at e2;cases e1;cases e2;exact .inr (by lia)
     .exact .inl ⟨w,z⟩
    .exact .inr z
theorem xq (h:cV l):l.Nodup:=h.imp λh=>XR h
theorem LvOk.gone (o:LvOk ls) (ex:ls[i]?=some x) (hk:k∈x):cV (ls.set i (x.erase k)).flatten/\∀z,z∈(ls.set i (x.erase k)).flatten↔z≠k/\z∈ls.flatten:=by
 have up:=o.up;rw[fz ex]at up;obtain⟨u1,u2,u3,u4,u5,u6⟩:=rise3.mp up;have sub:(x.erase k).Sublist x:=List.erase_sublist;have nx:=xq u2;rw[mE ex,fz ex];refine⟨rise3.mpr ⟨u1,u2.sublist sub,u3,λa ha b hb=>u4 a ha b (sub.subset hb),u5,λa ha b hb=>u6 a (sub.subset ha) b hb⟩,λz=>?_⟩;rw[Q6,Q6,Q6,Q6,nx.mem_erase_iff];constructor
 .rintro (h|⟨h1,h2⟩|h)
  .have:=u4 z h k hk;exact⟨by lia,.inl h⟩
  .exact⟨h1,.inr (.inl h2)⟩
  .have:=u6 k hk z h;exact⟨by lia,.inr (.inr h)⟩
 .rintro ⟨h0,h|h|h⟩
  .exact .inl h
  .exact .inr (.inl ⟨h0,h⟩)
  .exact .inr (.inr h)
theorem LvOk.shrunk (o:LvOk ls) (ex:ls[i]?=some x) (ny:y≠[]) (ly:y.length<=x.length) (up:cV (ls.set i y).flatten):LvN (ls.set i y) (λj=>j=i\/j+1=i):=by
 have hx:=o.le x (Q2 ex);refine⟨λl hl=>?_,λl hl=>?_,λj a b f g=>?_,up⟩
 .rcases p8 ex hl with rfl|hl
  .exact ny
  .exact o.ne l hl
 .rcases p8 ex hl with rfl|hl
  .lia
  .exact o.le l hl
 .rcases mY ex f with⟨c,_⟩|⟨c,f1⟩
  .exact .inl (.inl c.symm)
  .rcases mY ex g with⟨c',_⟩|⟨c',g1⟩
   .exact .inl (.inr c'.symm)
   .exact .inr (o.nb j a b f1 g1)
theorem LvOk.out (o:LvOk ls) (ex:ls[i]?=some x) (lx:x.length=1) (up:cV (ls.set i []).flatten):LvOk (ls.eraseIdx i)/\(ls.eraseIdx i).flatten=(ls.set i []).flatten:=by
 have hi:=(Q3.mp ex).1;have lt:(ls.take i).length=i:=by rw[Qb];lia
 have e1:ls.eraseIdx i=ls.take i++ls.drop (i+1):=List.eraseIdx_eq_take_drop_succ _ _;have fl:(ls.eraseIdx i).flatten=(ls.set i []).flatten:=by
  rw[e1,mE ex,Zl];rfl
 refine⟨⟨λl hl=>o.ne l (Zd hl),λl hl=>o.le l (Zd hl),λj a b f g=>?_,by rw[fl];exact up⟩,fl⟩;rcases ku f with⟨c1,f1⟩|⟨c1,f1⟩<;>rcases ku g with⟨c2,g1⟩|⟨c2,g1⟩
 .exact o.nb j a b f1 g1
 .have e2:j+1=i:=by lia
  subst e2;have h1:=o.nb j a x f1 ex;have h2:=o.nb (j+1) x b ex g1;lia
 .lia
 .exact o.nb (j+1) a b f1 g1
def LvA (_K:PySem.W.Frag) (t:Adr) (H:Hp) (a:Addr) (F:Addr->Prop) (ks:List Int):Prop:=∃L A ls,LvB t H a L A ls/\LvOk ls/\ls.flatten=ks/\∀b,F b↔LvF a L A b
section
theorem LvA.ins (h:LvA K t H a F ks):∃dx fs,H a=some (.ins t.bj dx fs)/\∀m,m≠("leaves":Str)->fs.lookup m=none:=by
 obtain⟨L,A,ls,hb,_⟩:=h;obtain⟨dx,ho⟩:=hb.obj;exact⟨dx,_,ho,λm hm=>DX hm⟩
theorem LvA.dom (h:LvA K t H a F ks) (hb:F b):∃o,H b=some o:=by
 obtain⟨L,A,ls,h1,_,_,h2⟩:=h;exact h1.dom ((h2 b).mp hb)
theorem LvA.frame (h:LvA K t H a F ks) (f:∀b,F b->H' b=H b):LvA K t H' a F ks:=by
 obtain⟨L,A,ls,h1,h3,h4,h2⟩:=h;exact⟨L,A,ls,h1.frame λb hb=>f b ((h2 b).mpr hb),h3,h4,h2⟩
theorem LvA.out (h:LvA K t H a F ks) (e:H p=none):¬F p:=λz=>by
 obtain⟨o,q⟩:=h.dom z;rw[q]at e;cases e
theorem LvA.upd (h:LvA K t H a F ks) (e:¬F p):LvA K t (L2.upd H p o) a F ks:=h.frame λb hb=>ac λz=>e (z▸hb)
end
def pL (K:PySem.W.Frag) (t:Adr):Sp:=λvs H Q _=>∃(a dx:Addr),vs=[.ref a]/\H a=some (.ins t.bj dx [])/\H dx=some (.own a)/\∀H' F,LvA K t H' a F []->Fr (λb=>b=a\/b=dx) F H H'->Q .non H'
def qm (K:PySem.W.Frag) (t:Adr):Sp:=λvs H Q _=>∃(a:Addr) (k:Int) (F:Addr->Prop) (ks:List Int),vs=[.ref a,.int k]/\LvA K t H a F ks/\∀H' F',LvA K t H' a F' ks->Fr F F' H H'->Q (.bl (decide (k∈ks))) H'
def qo (K:PySem.W.Frag) (t:Adr):Sp:=λvs H Q E=>∃(a:Addr) (k:Int) (F:Addr->Prop) (ks:List Int),vs=[.ref a,.int k]/\LvA K t H a F ks/\ks.length<4096/\
 (k∉ks->∀H' F' ks',LvA K t H' a F' ks'->(∀z,z∈ks'↔z=k\/z∈ks)->Fr F F' H H'->Q .non H')/\(k∈ks->False)
def lM (K:PySem.W.Frag) (t:Adr):Sp:=λvs H Q E=>∃(a:Addr) (k:Int) (F:Addr->Prop) (ks:List Int),vs=[.ref a,.int k]/\LvA K t H a F ks/\ks.length<4096/\
 (k∈ks->∀H' F' ks',LvA K t H' a F' ks'->(∀z,z∈ks'↔z≠k/\z∈ks)->Fr F F' H H'->Q .non H')/\(k∉ks->False)
theorem LvOk.short (o:LvOk ls):ls.length<=ls.flatten.length:=by
 have h:=o.ne;clear o
 induction ls with
 |nil=>exact Q5 _
 |cons x r ih=>
  have:=Z0.mpr (h x Qd);have:=ih λl hl=>h l (Qa _ hl);rw[Zj,Q9,Qf];lia
def lL (K:PySem.W.Frag) (t:Adr):Sp:=λvs H Q _=>∃(a:Addr) (k n:Int) (F:Addr->Prop) (ks:List Int),vs=[.ref a,.int k,.int n]/\LvA K t H a F ks/\ks.length<4096/\0<=n/\
 ∀(H':Hp) (l:Addr),Same H H'->H l=none->H' l=some (.lst (((ks.filter λz=>decide (k<=z)).take n.toNat).map V.int))->Q (.ref l) H'
theorem rJ {n:Int} (h:0<=n):iI xs none (some n)=xs.take n.toNat:=by
 unfold iI HT.sIx;simp only[Zq,Nat.sub_zero];rw[if_neg (by lia)];rcases Nat.le_total n.toNat xs.length with c|c
 .rw[X2 c]
 .rw[Nat.min_eq_right c,QP,QC c]
theorem zJ (o:LvOk ls) (h:LeafOf ls k i0):∀z∈(ls.take i0).flatten,¬k<=z:=λz hz=>by
 have:=h.ahead z hz;lia
def dJ (k:Option Int) (z:Int):Bool:=match k with|none=>true|some k=>decide (z<=k)
def vDn:Option Int->V|none=> .non|some k=> .int k
def jr (K:PySem.W.Frag) (t:Adr):Sp:=λvs H Q _=>∃(a:Addr) (k:Option Int) (n:Int) (F:Addr->Prop) (ks:List Int),vs=[.ref a,vDn k,.int n]/\LvA K t H a F ks/\ks.length<4096/\0<=n/\
 ∀(H':Hp) (l:Addr),Same H H'->H l=none->H' l=some (.lst (((ks.reverse.filter (dJ k)).take n.toNat).map V.int))->Q (.ref l) H'
structure xL (kd:Str) (fs:List (Str×V)) (a e:V):Prop where
 ki:fs.lookup ("kind":Str)=some (.str kd)
 at_:fs.lookup ("at":Str)=some a
 end_:fs.lookup ("end":Str)=some e
 wo:fs.lookup ("words":Str)=none
 ho:fs.lookup ("holds":Str)=none
def okU (a e:V):Prop:=∃i,a= .int i/\0<=i/\(e= .non\/∃j,e= .int j/\i<=j)
def okD (a e:V):Prop:=∃j,e= .int j/\0<=j/\(a= .non\/∃i,a= .int i/\j<=i)
def Keep (p:Addr) (H H':Hp):Prop:=∀b o,H b=some o->b≠p->H' b=some o
def vD:Sp:=λvs H Q _=>∃x,vs=[x]/\Sc x/\Q (.bl (isW x)) H
def isF (lo:Int):V->Bool
 | .int i=>decide (lo<=i)|_=>false
def xa:Sp:=λvs H Q _=>∃x lo,vs=[x,.int lo]/\Sc x/\Q (.bl (isF lo x)) H
def fJ (K:PySem.W.Frag):Sp:=λvs H Q _=>∃(p C dx:Addr) (kd:Str) (a e:V),vs=[.ref p,.str kd,a,e]/\H p=some (.ins C dx [])/\Cls K C/\NoAttr K C "kind"/\NoAttr K C "at"/\NoAttr K C "end"/\∀H' fs,Keep p H H'->H' p=some (.ins C dx fs)->xL kd fs a e->Q .non H'
def Au (C N:Addr) (kd:Str) (ok:V->V->Prop):Sp:=λvs H Q E=>∃(p dx:Addr) (a e:V),vs=[.ref p,a,e]/\H p=some (.ins C dx [])/\Sc a/\Sc e/\
 (ok a e->∀H' fs,Keep p H H'->H' p=some (.ins C dx fs)->xL kd fs a e->Q .non H')/\(¬ok a e->False)
def vG (t:Adr):Sp:=Au t.cR t.oM "up" okU
def sk (t:Adr):Sp:=Au t.ba t.oM "down" okD
def hU:V->V->Int->Bool
 | .int i,.int j,k=>decide (i<=k)&&decide (k<j)
 | .int i,.non,k=>decide (i<=k)
 |_,_,_=>false
def hD:V->V->Int->Bool
 | .int i,.int j,k=>decide (j<=k)&&decide (k<=i)
 | .non,.int j,k=>decide (j<=k)
 |_,_,_=>false
def Av (C:Addr) (kd:Str) (ok:V->V->Prop) (h:V->V->Int->Bool):Sp:=λvs H Q _=>∃(p dx:Addr) (fs:List (Str×V)) (a e:V) (k:Int),vs=[.ref p,.int k]/\H p=some (.ins C dx fs)/\xL kd fs a e/\ok a e/\0<=k/\∀H',Same H H'->Q (.bl (h a e k)) H'
def fv (t:Adr):Sp:=Av t.cR "up" okU hU
def dL (t:Adr):Sp:=Av t.ba "down" okD hD
theorem zf {x:Addr} (h1:H x=none) (h2:H dx=none) (k:Keep x (upd (upd H dx (.own x)) x (.ins C dx [])) H'):Same H H':=λb o q=>by
 refine k b o ?_ (ak q h1);rw[ac (ak q h1),ac (ak q h2)];exact q
structure Tp where
 p:Addr
 k:Int
 v:V
def Tp.kv (e:Tp):Int×V:=(e.k,e.v)
section
variable {P:Program} {w:World} {mg:Str->Option Value} {base:Heap}
def w6:Sp:=λvs H Q _=>∃k:Int,vs=[.int k]/\Q (.int (k%65536)) H
def w5:Sp:=λvs H Q _=>∃k n:Int,vs=[.int k,.int n]/\0<n/\Q (.int (k%65536%n)) H
theorem xn (T:Txt K mg t):FnOk P w K mg base CX0 1 t.ud t.oI ["key"] w6:=by
 obtain⟨tk_PLACES,hPLACES⟩:=T.g_PLACES;refine T.zW.okl xg λ_ _ _ s H vs Q E hr h=>?_;obtain⟨n,rfl,k⟩:=h;refine⟨_,(ah (aI (aD bn (pv 0) (cM (v:= .int 65536) (by rfl) hPLACES ⟨_,rfl⟩))))
  ,?_⟩
 exact⟨_,rfl,_,_,rfl,rfl,(by show(0:Int)<65536;decide),k⟩
theorem qS (T:Txt K mg t):FnOk P w K mg base CX0 2 t.uc t.oH ["key","size"] w5:=by
 refine T.oQ.okl xf λ_ _ _ s H vs Q E hr h=>?_;obtain⟨n,m,rfl,hm,k⟩:=h;refine⟨_,(ah (aI (aD bn (aL (xn T) hr.mo (by rfl) T.Ff T.zW.kp T.Fg .nil az (aa (pv 0) ag)) (pv 1))))
  ,?_⟩
 exact⟨_,rfl,_,rfl,_,rfl,_,_,rfl,rfl,hm,k⟩
theorem zd (h:n<=4096):n<sizeLine:=X5 h (by decide)
def ui:Sp:=λvs H Q _=>∃n:Int,vs=[.int n]/\0<=n/\n<=1000/\∀H' r A,Same H H'->H r=none->(∀b∈A,H b=none)->RowOk H' r A (List.replicate n.toNat []) n->Q (.ref r) H'
theorem mO (T:Txt K mg t):FnOk P w K mg base CX0 1 t.pj t.jU ["size"] ui:=by
 refine T.kh.okl ut λ_ _ _ s H vs Q E hr h=>?_;obtain⟨n,rfl,n0,n1,q⟩:=h;refine⟨_,(ah (aI (yd rfl (CScope.of (M:=["slot"]) (N:=["size"]) (N':=["size"]) (dsc:=aj gE) rfl rfl (by decide+kernel)) (oe (by rfl) T.xQ (aa (pv 0) ag)) (λ_ _ _ _ _=>jD))))
  ,?_⟩
 refine⟨_,rfl,n,rfl,by lia,by lia,λD hD=>?_⟩;refine xD (n:=n.toNat) (lo:=0) (λi ys H3=>Same H H3/\∃as:List Addr,ys=as.map V.ref/\as.length=i/\(∀b∈as,H b=none/\b≠D/\H3 b=some (.dK []))/\∀(x y:Nat) (b:Addr),as[x]?=some b->as[y]?=some b->x=y)
  ⟨al hD,[],rfl,rfl,(λb hb=>by cases hb),λx y b e=>by simp at e⟩ (λi ys H3 hi ⟨s3,as,ey,el,hb,inj⟩ hDD=>?_) (λys H3 ⟨s3,as,ey,el,hb,inj⟩ hDD=>?_)
 .intro c nc;have cD:c≠D:=(ak hDD nc).symm;have nca:c∉as:=λz=>by
   have:=(hb c z).2.2;rw[nc]at this;cases this
  have nH:H c=none:=by
   cases e:H c with
   |none=>rfl
   |some o=>rw[s3 c o e]at nc;cases nc
  refine CNext.mk hi (by rw[ac cD.symm];exact hDD) (by rw[ey,Q0];exact cI (by lia)) ⟨cq (s3.trans (al nc)) hD,as++ [c],by rw[ey,Qm];rfl,by rw[Q9,el];rfl,λb hb'=>?_,λx y b e1 e2=>?_⟩
  .rcases Q6.mp hb' with z|z
   .obtain⟨h1,h2,h3⟩:=hb b z;exact⟨h1,h2,by rw[ac h2,ac (λw=>nca (by rw[<-w];exact z))];exact h3⟩
   .rw[Qe.mp z];exact⟨nH,cD,by rw[ac cD,af]⟩
  .have lem:∀x:Nat,(as++ [c])[x]?=some b->as[x]?=some b\/(x=as.length/\b=c):=λx e=>by
    rw[Xw]at e;split at e
    .exact .inl e
    .rename_i w
     have:x-as.length=0:=by
      rcases ZF (x-as.length)with z|z
      .exact z
      .rw[Xp (by simp;lia)]at e;cases e
     rw[this]at e;cases e;exact .inr ⟨by lia,rfl⟩
   rcases lem x e1 with f1|⟨f1,g1⟩<;>rcases lem y e2 with f2|⟨f2,g2⟩
   .exact inj x y b f1 f2
   .subst g2;exact absurd (Q2 f1) nca
   .subst g1;exact absurd (Q2 f2) nca
   .lia
 .refine q H3 D as s3 hD (λb z=>(hb b z).1) ⟨by rw[hDD,ey],by rw[el];lia,by rw[Zs];lia,λj b kv e1 e2=>?_,λj kv e=>?_,inj,λj kv e p hp=>?_⟩
  .rw[ZB (Q2 e2)];exact(hb b (Q2 e1)).2.2
  .rw[ZB (Q2 e)];exact ZC
  .rw[ZB (Q2 e)]at hp;cases hp
def mw (t:Adr):Sp:=λvs H Q _=>∃(a:Addr) (k:Int) (st:SSt) (d:SlD),vs=[.ref a,.int k]/\SlB t H a st d/\SzOk st/\∀c kv,IsCell d st k c kv->Q (.ref c) H
def kD (t:Adr):Sp:=λvs H Q _=>∃(a:Addr) (st:SSt) (d:SlD),vs=[.ref a]/\SlB t H a st d/\SzOk st/\st.kv.length<4096/\∀H' d',SlB t H' a st.one d'->d'.n=d.n->Fr (SlF a st d) (SlF a st.one d') H H'->Q .non H'
def kE (t:Adr):Sp:=λvs H Q _=>∃(a:Addr) (st:SSt) (d:SlD),vs=[.ref a]/\SlB t H a st d/\SzOk st/\d.n=(st.kv.length:Int)/\∀H' d',SlB t H' a st.three d'->d'.n=d.n->Fr (SlF a st d) (SlF a st.three d') H H'->Q .non H'
theorem uQ {z:Int} (h0:0<=z) (e:A[z.toNat]?=some c):atI (A.map V.ref) z=some (.ref c):=by
 obtain⟨j,rfl⟩:=Xc h0;refine vf ?_;rw[Qg];have e:A[j]?=some c:=e;rw[e];rfl
theorem dW (T:Txt K mg t):FnOk P w K mg base CX0 3 t.iK t.eO ["self","key"] (mw t):=by
 refine T.zX.okl sc_Slots__cell_of λ_ _ _ s H vs Q E hr h=>?_;obtain⟨a,k,st,d,rfl,hb,z,q⟩:=h;refine⟨_,(ae (aG (i:=2) sc_Slots__cell_of.nd rfl (Or.inl rfl) (aY aT (am (pv 0) rfl) ai (λ_ _=>rfl)))
   (ae (aG (i:=3) sc_Slots__cell_of.nd rfl (Or.inl rfl) (aL (qS T) hr.mo (by rfl) T.tH T.oQ.kp T.t8 .nil az (aa (pv 1) (aa (au aq (by rfl) T.bB aX (aa (pv 2) ag)) ag))))
   (ae (aQ (aA yg (pv 3) (am (pv 0) rfl) (ay _))
   (ah (aI (aY aT (pv 2) (pv 3) (λ_ _=>rfl))))
   aF)
   (ae (aG (i:=4) sc_Slots__cell_of.nd rfl (Or.inl rfl) (aY aT (am (pv 0) rfl) ai (λ_ _=>rfl)))
   (ah (aI (aY aT (pv 4) (aL (qS T) hr.mo (by rfl) T.tH T.oQ.kp T.t8 .nil az (aa (pv 1) (aa (au aq (by rfl) T.bB aX (aa (pv 4) ag)) ag))) (λ_ _=>rfl))))))))
  ,?_⟩
 obtain⟨dx,ho⟩:=hb.obj;obtain⟨s4,s5⟩:=dQ z.pw;obtain⟨m0,m1,m2⟩:=ot (k:=k) s4;have t0:∃xs,H d.tb=some (.lst xs)/\atI xs 0=some (.ref d.r0):=by
  refine⟨_,hb.tbl,?_⟩;cases st.nxt<;>rfl
 obtain⟨xs,hx,x0⟩:=t0;have fld:∀{Q':VK},Q' (.ref d.tb) H->tFld K (Ap 0) "table" [some (.ref a),some (.int k),none,none,none] H Q':=λ{Q'} q=>⟨_,rfl,a,_,dx,_,_,rfl,ho,T.aH,T.aR,jf,q⟩;have la:((d.A0.map V.ref).length:Int)=st.size:=by rw[Q0];exact hb.row0.la
 refine⟨_,rfl,a,_,dx,_,_,rfl,ho,T.aH,T.aR,jf,d.tb,_,_,_,rfl,rfl,SqL.of hx,x0,?_⟩;refine⟨_,rfl,_,rfl,d.r0,_,rfl,.inl (SqL.of hb.row0.lst),k,_,rfl,by rw[la];lia,?_⟩;dsimp only;rw[la];refine⟨_,rfl,_,rfl,a,_,dx,_,_,rfl,ho,T.aH,T.bK,vH,_,_,rfl,rfl,_,rfl,dC (λc=>?_) (λc=>?_)⟩
 .have c:=of_decide_eq_true c;obtain⟨x,e1⟩:=cZ (l:=d.A0) m0 (by rw[hb.row0.la];exact m1);obtain⟨y,e2⟩:=cZ (l:=d.C0) m0 (by rw[hb.row0.lc];exact m1);exact⟨_,rfl,_,rfl,d.r0,_,_,_,rfl,rfl,SqL.of hb.row0.lst,uQ m0 e1,q x y (.inl ⟨c,e1,e2⟩)⟩
 .have c:¬st.moved<=k%65536%st.size:=λz=>c (decide_eq_true z);cases e:st.nxt with
  |none=>rw[SSt.moved_none e]at c;exact absurd m0 c
  |some m=>
   have hm:=SSt.moved_some e;obtain⟨pm,_⟩:=z.nx m e;obtain⟨s6,_⟩:=dQ pm;obtain⟨n0,n1,n2⟩:=ot (k:=k) s6;have r1:=hb.row1;rw[e]at r1;have ht:=hb.tbl;rw[e]at ht;have lb:((d.A1.map V.ref).length:Int)=m:=by rw[Q0];exact r1.la
   obtain⟨x,e1⟩:=cZ (l:=d.A1) n0 (by rw[r1.la];exact n1);obtain⟨y,e2⟩:=cZ (l:=d.C1) n0 (by rw[r1.lc];exact n1);refine⟨_,rfl,a,_,dx,_,_,rfl,ho,T.aH,T.aR,jf,d.tb,_,_,_,rfl,rfl,SqL.of ht,rfl,?_⟩;refine⟨_,rfl,_,rfl,_,rfl,d.r1,_,rfl,.inl (SqL.of r1.lst),k,_,rfl,by rw[lb];lia,?_⟩;dsimp only;rw[lb];exact⟨d.r1,_,_,_,rfl,rfl,SqL.of r1.lst,uQ n0 e1,q x y (.inr ⟨m,e,by lia,e1,e2⟩)⟩
theorem bc (h:n<=100000):n<sizeLine:=X5 h (by decide)
theorem ER {z:Int} (h0:0<=z) (h1:z<n):ixN n z=some z.toNat:=by unfold ixN;rw[if_pos h0,if_pos h1]
theorem zy {kv:List (Int×V)} {k:Key} (e:(aE kv)[i]?=some (k,v)):∃n:Int,k=Sum.inl n/\kv[i]?=some (n,v):=by
 unfold aE at e;rw[Qg]at e;cases q:kv[i]? with
 |none=>rw[q]at e;cases e
 |some p=>rw[q]at e;cases e;exact⟨p.1,rfl,rfl⟩
theorem Am {kv:List (Int×V)} {C:List (List (Int×V))} {p:Int×V} (e:kv[i]?=some p):(kv.take (i+1)).foldl (fe m) C=fe m ((kv.take i).foldl (fe m) C) p:=by
 rw[Qw,e,List.foldl_append];rfl
theorem fj (T:Txt K mg t):FnOk P w K mg base CX0 3 t.gy t.dD ["self"] (kD t):=by
 refine T.xO.okl sc_Slots__move_slot λ_ _ _ s H vs Q E hr h=>?_;obtain⟨a,st,d,rfl,hb,z,hl,q⟩:=h;refine⟨_,(ae (aQ (aA bV (au aq (by rfl) T.bB aX (aa (am (pv 0) rfl) ag)) ai (ay _))
   (ah mK)
   aF)
   (ae (aG (i:=1) sc_Slots__move_slot.nd rfl (Or.inl rfl) (aY aT (am (pv 0) rfl) ai (λ_ _=>rfl)))
   (ae (aG (i:=2) sc_Slots__move_slot.nd rfl (Or.inl rfl) (aY aT (am (pv 0) rfl) ai (λ_ _=>rfl)))
   (ae (uy (jC PassesOwn.never rfl (AC (qQ QG Xd PySem.F.type_dict_items vW (aY aT (pv 1) (am (pv 0) rfl) (λ_ _=>rfl)))) (Ep rfl (vO (eV (i:=3) sc_Slots__move_slot.nd rfl (Or.inl rfl)) (vO (eV (i:=4) sc_Slots__move_slot.nd rfl (Or.inl rfl)) CQ)))
   (ah (p6 (jj hr) (aY aT (pv 2) (aL (qS T) hr.mo (by rfl) T.tH T.oQ.kp T.t8 .nil az (aa (pv 3) (aa (au aq (by rfl) T.bB aX (aa (pv 2) ag)) ag))) (λ_ _=>rfl)) (pv 3) (pv 4) rfl))))
   (ae (xk jD (xl (pv 1) (am (pv 0) rfl) qy))
   (ae (kr (pv 0) ai xz)
   (ah (aQ (aA bV (am (pv 0) rfl) (au aq (by rfl) T.bB aX (aa (pv 1) ag)) (ay _))
   (ae (bQ (pv 0) (eK (aa (pv 2) ag)) rfl)
   (ah (bQ (pv 0) ai rfl)))
   aF))))))))
  ,?_⟩
 obtain⟨dx,ho⟩:=hb.obj;have ht:=hb.tbl;cases e:st.nxt with
 |none=>
  rw[e]at ht;refine⟨_,rfl,a,_,dx,_,_,rfl,ho,T.aH,T.aR,jf,d.tb,_,rfl,.inl (SqL.of ht),rfl,_,rfl,oE rfl ?_⟩;have e1:st.one=st:=by unfold SSt.one;rw[e]
  rw[e1]at q;exact q H d hb rfl Fr.refl
 |some m=>
  rw[e]at ht;refine⟨_,rfl,a,_,dx,_,_,rfl,ho,T.aH,T.aR,jf,d.tb,_,rfl,.inl (SqL.of ht),rfl,_,rfl,bJ (λz=>by cases z) ?_⟩;refine⟨_,rfl,a,_,dx,_,_,rfl,ho,T.aH,T.aR,jf,d.tb,_,_,_,rfl,rfl,SqL.of ht,rfl,?_⟩;refine⟨_,rfl,a,_,dx,_,_,rfl,ho,T.aH,T.aR,jf,d.tb,_,_,_,rfl,rfl,SqL.of ht,rfl,?_⟩;obtain⟨pm,v0,v1,_⟩:=z.nx m e;obtain⟨s4,s5⟩:=dQ z.pw;obtain⟨s6,s7⟩:=dQ pm;have hm:=SSt.moved_some e;rw[hm]at ho;have r1:=hb.row1;rw[e]at r1;obtain⟨c0,ec⟩:=cZ (l:=d.A0) v0 (by rw[hb.row0.la];exact v1);obtain⟨kv,ek⟩:=cZ (l:=d.C0) v0 (by rw[hb.row0.lc];exact v1);have hc0:=hb.row0.cell _ _ _ ec ek;have lb:((d.A1.map V.ref).length:Int)=m:=by rw[Q0];exact r1.la
  have c0A:c0∉d.A1:=hb.dis c0 (Q2 ec);have r1c:d.r1≠c0:=bW r1.lst hc0 (by intro z;cases z);have kvl:=hb.short0 z ek;have keepA:∀b,b=d.r1\/b∈d.A1->∃o,H b=some o:=λb hb1=>by
   rcases hb1 with rfl|hb1
   .exact⟨_,r1.lst⟩
   .obtain⟨_,_,_,_,w⟩:=r1.has hb1;exact⟨_,w⟩
  refine⟨c0,aE kv,hc0,_,rfl,_,rfl,a,_,dx,_,_,rfl,ho,T.aH,T.bK,vH,d.r0,_,_,_,rfl,rfl,SqL.of hb.row0.lst,uQ v0 ec,.inr (.inr (.inl ⟨rfl,.inl ⟨_,hc0⟩⟩)),c0,aE kv,rfl,rfl,hc0,λvw nv=>?_⟩;have hc1:upd H vw (vwO vw c0) c0=some (.dK (aE kv)):=by rw[ac (ak hc0 nv)];exact hc0
  refine⟨vw,c0,aE kv,rfl,af,hc1,λob=>?_⟩;refine xB (λi σ H'=>∃v3 v4,σ=[some (.ref a),some (.ref d.r0),some (.ref d.r1),v3,v4]/\RowOk H' d.r1 d.A1 ((kv.take i).foldl (fe m) d.C1) m/\H' c0=some (.frz ob (.dK (aE kv)))/\∀b o,b∉d.A1->b≠c0->H b=some o->H' b=some o)
   ⟨_,_,rfl,?_,af,λb o _ n2 e=>?_⟩ (λi σ H' _ ⟨_,_,_,_,hf,_⟩=>hf) (λi k v p σ H' ei ⟨v3,v4,eσ,hr,hf,hk⟩ np=>?_) (λσ H' ⟨v3,v4,eσ,hr,hf,hk⟩=>?_)
  .refine RowOk.frame (H:=H) r1 λb hb1=>?_;obtain⟨o,w⟩:=keepA b hb1;have n2:b≠c0:=by
    rcases hb1 with rfl|hb1
    .exact r1c
    .exact λz=>c0A (z▸hb1)
   rw[ac n2,ac (ak w nv)]
  .rw[ac n2,ac (ak e nv)];exact e
  .subst eσ;obtain⟨n,rfl,en⟩:=zy ei;have hr2:RowOk (upd H' p (.tup [kV (Sum.inl n),v])) d.r1 d.A1 ((kv.take i).foldl (fe m) d.C1) m:=hr.frame λb hb1=>ac λw=>by
    have:∃o,H' b=some o:=by
     rcases hb1 with rfl|hb1
     .exact⟨_,hr.lst⟩
     .obtain⟨_,_,_,_,w⟩:=hr.has hb1;exact⟨_,w⟩
    obtain⟨o,q⟩:=this;rw[w,np]at q;cases q
   obtain⟨n0,n1,n2⟩:=ot (k:=n) s6;obtain⟨c,e1⟩:=cZ (l:=d.A1) n0 (by rw[hr2.la];exact n1);obtain⟨y,e2⟩:=cZ (l:=(kv.take i).foldl (fe m) d.C1) n0 (by rw[hr2.lc];exact n1);obtain⟨y0,e3⟩:=cZ (l:=d.C1) n0 (by rw[r1.lc];exact n1);have yl:=vX e3 e2;have y0l:=hb.short1 z e e3;have tl:(kv.take i).length<=kv.length:=by rw[Qb];lia
   have hc:=hr2.cell _ _ _ e1 e2;have cA:c∈d.A1:=Q2 e1;refine⟨p,_,rfl,SqT.of af,rfl,_,_,rfl,_,_,rfl,rfl,?_⟩;refine⟨_,rfl,_,rfl,_,rfl,_,rfl,d.r1,_,rfl,.inl (SqL.of hr2.lst),n,_,rfl,by rw[lb];lia,?_⟩;dsimp only;rw[lb];refine⟨d.r1,_,_,_,rfl,rfl,SqL.of hr2.lst,uQ n0 e1,_,rfl,c,_,rfl,DPut.k (k:=Sum.inl n) hc (by rw[cP];exact bc (by lia)),?_⟩;rw[eM];have pn:∀b o,H' b=some o->b≠p:=λb o q=>ak q np;refine⟨_,_,rfl,?_,?_,λb o nA nc q=>?_⟩
   .rw[Am en];exact hr2.mov s6 e1 e2
   .rw[ac (λw=>c0A (by rw[w];exact cA)),ac (pn _ _ hf)];exact hf
   .have q:=hk b o nA nc q;rw[ac (λw=>nA (by rw[w];exact cA)),ac (pn _ _ q)];exact q
  .subst eσ;rw[cP,QP]at hr;refine⟨ob,hf,λb' nb=>?_⟩;have hF:∀b,¬SlF a st d b->b∉d.A1/\b≠c0/\b≠a/\b≠d.r0/\b≠d.tb/\b≠d.r1:=λb n=>
    ⟨λq=>n (.inr (.inr (.inr (.inr (.inr q))))),λq=>n (.inr (.inr (.inr (.inl (q▸Q2 ec))))),λq=>n (.inl q),λq=>n (.inr (.inr (.inl q))),λq=>n (.inr (.inl q)),λq=>n (.inr (.inr (.inr (.inr (.inl ⟨by rw[e];rfl,q⟩)))))⟩
   have inA1:∀b o,H b=some o->(∀kvs,o≠ .dK kvs)->b∉d.A1:=λb o q ne w=>(r1.notr w q ne) rfl;have K1:∀b o,b∉d.A1->b≠c0->H b=some o->upd H' c0 (.dK (aE kv)) b=some o:=λb o n1 n2 q=>by rw[ac n2];exact hk b o n1 n2 q
   have hr3:RowOk (upd H' c0 (.dK (aE kv))) d.r1 d.A1 (kv.foldl (fe m) d.C1) m:=hr.frame λb hb1=>ac (by
    rcases hb1 with rfl|hb1
    .exact r1c
    .exact λw=>c0A (w▸hb1))
   have hc3:upd H' c0 (.dK (aE kv)) c0=some (.dK (aE kv)):=af;generalize upd H' c0 (.dK (aE kv))=H3 at nb K1 hr3 hc3⊢;have ho3:=K1 a _ (inA1 _ _ ho (λ_ w=>by cases w)) (bW ho hc0 (by intro w;cases w)) ho;have hr0:=hb.row0.lst;have hr03:=K1 d.r0 _ (inA1 _ _ hr0 (λ_ w=>by cases w)) (bW hr0 hc0 (by intro w;cases w)) hr0;have ht3:=K1 d.tb _ (inA1 _ _ ht (λ_ w=>by cases w)) (bW ht hc0 (by intro w;cases w)) ht;have nbF:¬SlF a st d b':=λw=>by
    rcases w with w|w|w|w|⟨_,w⟩|w
    .rw[w,ho3]at nb;cases nb
    .rw[w,ht3]at nb;cases nb
    .rw[w,hr03]at nb;cases nb
    .obtain⟨j,kv1,f1,f2,f3⟩:=hb.row0.has w;by_cases y:b'=c0
     .rw[y,hc3]at nb;cases nb
     .rw[K1 b' _ (hb.dis b' w) y f3]at nb;cases nb
    .rw[w,hr3.lst]at nb;cases nb
    .obtain⟨_,_,_,_,w'⟩:=hr3.has w;rw[w']at nb;cases nb
   have lA:((d.A0.map V.ref).length:Int)=st.size:=by rw[Q0];exact hb.row0.la
   have bo:∀{x:Addr} {o:HO},H3 x=some o->x≠b':=λq=>ak q nb;refine⟨_,rfl,_,rfl,a,_,dx,_,_,rfl,(by rw[ac (bo ho3)];exact ho3),T.aH,T.bK,vH,d.r0,_,_,_,rfl,rfl,(by rw[ac (bo hr03)];exact hr03),ER v0 (by rw[lA];exact v1),?_⟩;have g0:H3 d.r1=some (.lst (d.A1.map V.ref)):=hr3.lst;have ra:d.r0≠a:=bW hr0 ho (by intro w;cases w);have r01:d.r0≠d.r1:=(hb.tr1 (by rw[e];rfl)).2;have t1:d.tb≠d.r1:=(hb.tr1 (by rw[e];rfl)).1;have ta:d.tb≠a:=bW ht ho (by intro w;cases w);have r1a:d.r1≠a:=bW r1.lst ho (by intro w;cases w);have cellsA:∀b∈d.A1,b≠b'/\b≠d.r0/\b≠a:=λb w=>by
    obtain⟨_,_,_,_,f⟩:=hr3.has w;exact⟨bo f,bW f hr03 (by intro w;cases w),bW f ho3 (by intro w;cases w)⟩
   have es:(d.A0.map V.ref).set st.mv.toNat (V.ref b')=(d.A0.set st.mv.toNat b').map V.ref:=by rw[XS]
   rw[es];have ho5:upd (upd H3 b' (.dK [])) d.r0 (.lst ((d.A0.set st.mv.toNat b').map V.ref)) a=some (.ins t.aV dx (slF d.tb st.mv d.n)):=by rw[ac ra.symm,ac (bo ho3)];exact ho3
   refine⟨_,rfl,a,_,dx,_,_,rfl,ho5,T.aH,T.bK,vH,_,_,rfl,rfl,dx,_,ho5,mC,?_⟩;rw[DP];have H6r0:∀{o:HO},upd (upd (upd H3 b' (.dK [])) d.r0 (.lst ((d.A0.set st.mv.toNat b').map V.ref))) a o d.r0=some (.lst ((d.A0.set st.mv.toNat b').map V.ref)):=by
    intro o;rw[ac ra,af]
   have lS:(((d.A0.set st.mv.toNat b').map V.ref).length:Int)=st.size:=by rw[Q0,QF];exact hb.row0.la
   refine⟨_,rfl,a,_,dx,_,_,rfl,af,T.aH,T.bK,vH,_,rfl,d.r0,_,rfl,.inl (SqL.of H6r0),rfl,_,rfl,?_⟩;rw[lS];have row6:∀{o:HO},RowOk (upd (upd (upd H3 b' (.dK [])) d.r0 (.lst ((d.A0.set st.mv.toNat b').map V.ref))) a o) d.r1 d.A1 (kv.foldl (fe m) d.C1) m:=λ{o}=>hr3.frame λb hb1=>by
    have:b≠b'/\b≠d.r0/\b≠a:=by
     rcases hb1 with rfl|hb1
     .exact⟨bo g0,r01.symm,r1a⟩
     .exact cellsA b hb1
    rw[ac this.2.2,ac this.2.1,ac this.1]
   have K6:∀{o':HO} (b:Addr) (o:HO),¬SlF a st d b->H b=some o->upd (upd (upd H3 b' (.dK [])) d.r0 (.lst ((d.A0.set st.mv.toNat b').map V.ref))) a o' b=some o:=λ{o'} b o n q=>by
    obtain⟨f1,f2,f3,f4,_⟩:=hF b n;have q3:=K1 b o f1 f2 q;rw[ac f3,ac f4,ac (bo q3)];exact q3
   refine dC (λc=>?_) (λc=>?_)
   .have c:st.mv+1=st.size:=V.int.inj (of_decide_eq_true c);refine⟨_,rfl,(by show 1<=sizeLine;decide),λtb' nt=>⟨_,rfl,a,_,dx,_,rfl,(by rw[ac (ak af nt)];exact af),T.aH,T.aR,mC,?_⟩⟩;rw[FD];refine⟨_,rfl,a,_,dx,_,rfl,af,T.aH,T.bK,mC,?_⟩;rw[DP,cH];have nta:tb'≠a:=(ak af nt).symm;have nt1:tb'≠d.r1:=(ak (row6 (o:= .ins t.aV dx (slF d.tb (st.mv+1) d.n))).lst nt).symm;refine q _ _ (hb.last z e ek (tb':=tb') (dx:=dx) c af (by rw[ac nta];exact af) nt1 ?_) rfl (λb o n w=>?_)
    .refine(row6 (o:= .ins t.aV dx (slF d.tb (st.mv+1) d.n))).frame λb hb1=>?_;have:b≠a:=by
      rcases hb1 with rfl|hb1
      .exact r1a
      .exact(cellsA b hb1).2.2
     rw[ac this,ac (λw=>?_)];obtain⟨o,f⟩:∃o,upd (upd (upd H3 b' (.dK [])) d.r0 (.lst ((d.A0.set st.mv.toNat b').map V.ref))) a (.ins t.aV dx (slF d.tb (st.mv+1) d.n)) b=some o:=by
      rcases hb1 with rfl|hb1
      .exact⟨_,row6.lst⟩
      .obtain⟨_,_,_,_,f⟩:=row6.has hb1;exact⟨_,f⟩
     rw[w,nt]at f;cases f
    .obtain⟨f1,f2,f3,f4,f5,f6⟩:=hF b n;have k6:=K6 (o':= .ins t.aV dx (slF d.tb (st.mv+1) d.n)) b o n w;have bt:b≠tb':=ak k6 nt;refine⟨by rw[ac f3,ac bt];exact k6,λy=>?_⟩;rcases y with y|y|y|y|⟨_,y⟩|y
     .exact f3 y
     .exact bt y
     .exact f6 y
     .exact f1 y
     .exact f6 y
     .cases y
   .have c:st.mv+1≠st.size:=λw=>c (decide_eq_true (by rw[w]));refine q _ _ (hb.one z e ek (b':=b') (dx:=dx) c af (by rw[ac ta,ac hb.tr,ac (bo ht3),ht3,hb.tbl,e]) H6r0 ?_ nbF (λj b f1 f2=>?_) row6) rfl (λb o n w=>⟨K6 b o n w,λy=>?_⟩)
    .have n1:b'≠a:=(bo ho3).symm;have n2:b'≠d.r0:=(bo hr03).symm;rw[ac n1,ac n2];exact af
    .have bA:=Q2 f1;obtain⟨_,kv1,_,_,f⟩:=hb.row0.has bA;have nc:b≠c0:=λw=>f2 (hb.row0.inj j _ c0 (w▸f1) ec);have f3:=K1 b _ (hb.dis b bA) nc f;rw[ac (bW f3 ho3 (by intro w;cases w)),ac (bW f3 hr03 (by intro w;cases w)),ac (bo f3),f3,f]
    .obtain⟨f1,f2,f3,f4,f5,f6⟩:=hF b n;rcases y with y|y|y|y|⟨_,y⟩|y
     .exact f3 y
     .exact f5 y
     .exact f4 y
     .obtain⟨j,hj,ej⟩:=QI (show b∈d.A0.set st.mv.toNat b' from y);rcases dv (Q3.mpr ⟨hj,ej⟩)with⟨_,g⟩|⟨_,g⟩
      .have:=K1 b o f1 f2 w;rw[g,nb]at this;cases this
      .exact n (.inr (.inr (.inr (.inl (Q2 g)))))
     .exact f6 y
     .exact f1 y
theorem fk (T:Txt K mg t):FnOk P w K mg base CX0 2 t.gA t.dE ["self"] (kE t):=by
 obtain⟨tk_GREATEST_SIZE,hGREATEST_SIZE⟩:=T.g_GREATEST_SIZE;obtain⟨tk_LEAST_SIZE,hLEAST_SIZE⟩:=T.g_LEAST_SIZE;refine T.xP.okl sc_Slots__begin_row λ_ _ _ s H vs Q E hr h=>?_;obtain⟨a,st,d,rfl,hb,z,hn,q⟩:=h;refine⟨_,(ae (aQ (aA bV (au aq (by rfl) T.bB aX (aa (am (pv 0) rfl) ag)) ai (ay _))
   (ah mK)
   aF)
   (ae (aG (i:=1) sc_Slots__begin_row.nd rfl (Or.inl rfl) (au aq (by rfl) T.bB aX (aa (aY aT (am (pv 0) rfl) ai (λ_ _=>rfl)) ag)))
   (ah (aQ (PW.pt (fS (aA oU (am (pv 0) rfl) (pv 1) (ay _)) (dR (aA eF (pv 1) (cM (v:= .int 256) (by rfl) hGREATEST_SIZE ⟨_,rfl⟩) (ay _)))))
   (ah (aJ (dU Qp Ze Zf eL (am (pv 0) rfl) (aa (aL (mO T) hr.mo (by rfl) T.o7 T.kh.kp T.pe .nil az (aa (aD iY (pv 1) ai) ag)) ag))))
   (ah (aQ (PW.pt (fS (aA eF (aD iY ai (am (pv 0) rfl)) (pv 1) (ay _)) (dR (aA oU (pv 1) (cM (v:= .int 4) (by rfl) hLEAST_SIZE ⟨_,rfl⟩) (ay _)))))
   (ah (aJ (dU Qp Ze Zf eL (am (pv 0) rfl) (aa (aL (mO T) hr.mo (by rfl) T.o7 T.kh.kp T.pe .nil az (aa (aD iZ (pv 1) ai) ag)) ag))))
   aF))))))
  ,?_⟩
 obtain⟨dx,ho⟩:=hb.obj;have ht:=hb.tbl;cases e:st.nxt with
 |some m=>
  rw[e]at ht;refine⟨_,rfl,a,_,dx,_,_,rfl,ho,T.aH,T.aR,jf,d.tb,_,rfl,.inl (SqL.of ht),rfl,_,rfl,oE rfl ?_⟩;have e1:st.three=st:=by unfold SSt.three;rw[e]
  rw[e1]at q;exact q H d hb rfl Fr.refl
 |none=>
  rw[e]at ht;refine⟨_,rfl,a,_,dx,_,_,rfl,ho,T.aH,T.aR,jf,d.tb,_,rfl,.inl (SqL.of ht),rfl,_,rfl,bJ (λz=>by cases z) ?_⟩;have la:((d.A0.map V.ref).length:Int)=st.size:=by rw[Q0];exact hb.row0.la
  obtain⟨pw4,pw5⟩:=dQ z.pw;refine⟨_,rfl,a,_,dx,_,_,rfl,ho,T.aH,T.aR,jf,d.tb,_,_,_,rfl,rfl,SqL.of ht,rfl,d.r0,_,rfl,.inl (SqL.of hb.row0.lst),?_⟩;dsimp only;rw[la];have fin:∀{m:Int} {H':Hp} {r:Addr} {A:List Addr},st.three={st with nxt:=some m,mv:=0}->Same H H'->H r=none->(∀b∈A,H b=none)->RowOk H' r A (List.replicate m.toNat []) m->H' d.tb=some (.lst [.ref d.r0])/\Q .non (upd H' d.tb (.lst ([.ref d.r0]++ [.ref r]))):=λ{m H' r A} e3 s nr nA hr=>by
   have ht':=s _ _ ht;have notF:∀b,SlF a st d b->∃o,H b=some o:=λb w=>hb.dom w;have nrF:¬SlF a st d r:=λw=>by obtain⟨o,q⟩:=notF r w;rw[nr]at q;cases q
   have nAF:∀b∈A,¬SlF a st d b:=λb hA w=>by obtain⟨o,q⟩:=notF b w;rw[nA b hA]at q;cases q
   refine⟨ht',?_⟩;have sb:=hb.begin (H':=upd H' d.tb (.lst [.ref d.r0,.ref r])) e (m:=m) (r:=r) (A:=A) (by rw[ac (bW ho ht (by intro w;cases w)),s _ _ ho,ho]) af (λb hb1=>?_) (hr.frame λb hb1=>ac ?_) nrF nAF
   .rw[<-e3]at sb;refine q _ _ sb rfl λb o n w=>⟨?_,λy=>?_⟩
    .rw[ac (λv=>n (.inr (.inl v)))];exact s _ _ w
    .rw[e3]at y;rcases y with y|y|y|y|⟨_,y⟩|y
     .exact n (.inl y)
     .exact n (.inr (.inl y))
     .exact n (.inr (.inr (.inl y)))
     .exact n (.inr (.inr (.inr (.inl y))))
     .have y:b=r:=y;rw[y,nr]at w;cases w
     .rw[nA b y]at w;cases w
   .obtain⟨o,q⟩:=notF b (by
     rcases hb1 with w|w
     .exact .inr (.inr (.inl w))
     .exact .inr (.inr (.inr (.inl w))))
    have:b≠d.tb:=by
     rcases hb1 with w|w
     .rw[w];exact hb.tr.symm
     .exact hb.row0.notr w ht (λ_ z=>by cases z)
    rw[ac this,s _ _ q,q]
   .rcases hb1 with w|w
    .rw[w];exact λv=>by rw[v,ht]at nr;cases nr
    .exact λv=>by have:=nA b w;rw[v,ht]at this;cases this
  by_cases cA:st.size<d.n/\st.size<256
  .have e3:st.three={st with nxt:=some (2*st.size),mv:=0}:=by
    unfold SSt.three;rw[e];exact if_pos (by rw[<-hn];exact cA)
   refine⟨_,rfl,a,_,dx,_,_,rfl,ho,T.aH,T.bu,mD,_,rfl,_,_,rfl,rfl,_,rfl,iH cA.1 ⟨_,rfl,_,_,rfl,rfl,_,rfl,iH cA.2 ?_⟩⟩;refine⟨_,rfl,a,_,dx,_,_,rfl,ho,T.aH,T.aR,jf,.inl ⟨rfl,_,SqL.of ht⟩,_,rfl,_,_,rfl,rfl,.inr ⟨by decide,by decide⟩,_,rfl,by lia,by lia,λH' r A s nr nA hr=>?_⟩;obtain⟨f1,f2⟩:=fin (m:=st.size*2) (by rw[e3,Int.mul_comm]) s nr nA hr;exact⟨d.tb,_,_,rfl,rfl,f1,cI (by show 1<=1000;decide),f2⟩
  .by_cases cB:4*d.n<st.size/\4<st.size
   .have e3:st.three={st with nxt:=some (st.size/2),mv:=0}:=by
     unfold SSt.three;rw[e];exact(if_neg (by rw[<-hn];exact cA)).trans (if_pos (by rw[<-hn];exact cB))
    have c1:¬st.size<d.n:=by lia
    refine⟨_,rfl,a,_,dx,_,_,rfl,ho,T.aH,T.bu,mD,_,rfl,_,_,rfl,rfl,_,rfl,bJ c1 ?_⟩;refine⟨_,rfl,a,_,dx,_,_,rfl,ho,T.aH,T.bu,mD,_,_,rfl,rfl,.inl ⟨by decide,by decide⟩,_,rfl,_,_,rfl,rfl,_,rfl,iH cB.1 ⟨_,rfl,_,_,rfl,rfl,_,rfl,iH cB.2 ?_⟩⟩;refine⟨_,rfl,a,_,dx,_,_,rfl,ho,T.aH,T.aR,jf,.inl ⟨rfl,_,SqL.of ht⟩,_,rfl,_,_,rfl,rfl,⟨by decide,by decide⟩,_,rfl,by lia,by lia,λH' r A s nr nA hr=>?_⟩;obtain⟨f1,f2⟩:=fin (m:=st.size/2) e3 s nr nA hr;exact⟨d.tb,_,_,rfl,rfl,f1,cI (by show 1<=1000;decide),f2⟩
   .have e3:st.three=st:=by
     unfold SSt.three;rw[e];exact(if_neg (by rw[<-hn];exact cA)).trans (if_neg (by rw[<-hn];exact cB))
    rw[e3]at q;have q0:=q H d hb rfl Fr.refl;by_cases c1:st.size<d.n
    .have c2:¬st.size<256:=λw=>cA ⟨c1,w⟩;have c3:¬4*d.n<st.size:=by lia
     refine⟨_,rfl,a,_,dx,_,_,rfl,ho,T.aH,T.bu,mD,_,rfl,_,_,rfl,rfl,_,rfl,iH c1 ⟨_,rfl,_,_,rfl,rfl,_,rfl,bJ c2 ?_⟩⟩;exact⟨_,rfl,a,_,dx,_,_,rfl,ho,T.aH,T.bu,mD,_,_,rfl,rfl,.inl ⟨by decide,by decide⟩,_,rfl,_,_,rfl,rfl,_,rfl,bJ c3 q0⟩
    .refine⟨_,rfl,a,_,dx,_,_,rfl,ho,T.aH,T.bu,mD,_,rfl,_,_,rfl,rfl,_,rfl,bJ c1 ?_⟩;refine⟨_,rfl,a,_,dx,_,_,rfl,ho,T.aH,T.bu,mD,_,_,rfl,rfl,.inl ⟨by decide,by decide⟩,_,rfl,_,_,rfl,rfl,_,rfl,?_⟩;by_cases c3:4*d.n<st.size
     .exact iH c3 ⟨_,rfl,_,_,rfl,rfl,_,rfl,bJ (λw=>cB ⟨c3,w⟩) q0⟩
     .exact bJ c3 q0
section
theorem SlB.put (h:SlB t H a st d) (z:SzOk st) {kv:List (Int×V)} (ic:IsCell d st k c kv) (v:V):
  ∃d',SlB t (upd H c (.dK (aE (aW kv k v)))) a {st with kv:=aW st.kv k v} d'/\d'.n=d.n/\∀b,SlF a {st with kv:=aW st.kv k v} d' b↔SlF a st d b:=
 h.setCell z ic (oi (h.at ic).2.2) (λ_ hp=>rj hp) (by rw[cj,cj,if_pos rfl,if_pos rfl]) λj hj=>⟨by rw[cj,if_neg hj],by rw[cj,if_neg hj]⟩
theorem SlB.drop (h:SlB t H a st d) (z:SzOk st) {kv:List (Int×V)} (ic:IsCell d st k c kv):
  ∃d',SlB t (upd H c (.dK (aE (bi kv k)))) a {st with kv:=bi st.kv k} d'/\d'.n=d.n/\∀b,SlF a {st with kv:=bi st.kv k} d' b↔SlF a st d b:=
 h.setCell z ic (mR (h.at ic).2.2) (λ_ hp=> .inl (tT hp)) (by rw[bY,bY,if_pos rfl,if_pos rfl]) λj hj=>⟨by rw[bY,if_neg hj],by rw[bY,if_neg hj]⟩
theorem SlB.insM (h:SlB t H a st d):∃dx fs,H a=some (.ins t.aV dx fs)/\∀m,NoM m->fs.lookup m=none:=by
 obtain⟨dx,ho⟩:=h.obj;exact⟨dx,_,ho,λm hm=>DL hm⟩
theorem SSt.one_kv:st.one.kv=st.kv:=by
 unfold SSt.one;cases st.nxt with
 |none=>rfl
 |some m=>show(if _ then _ else _:SSt).kv=_;split<;>rfl
theorem SSt.three_kv:st.three.kv=st.kv:=by
 unfold SSt.three;cases st.nxt with
 |some m=>rfl
 |none=>show(if _ then _ else _:SSt).kv=_;split;rfl;split<;>rfl
theorem yt {kv:List (Int×V)}:((aW kv k v).length:Int)=if(aK kv k).isSome=true then(kv.length:Int)else kv.length+1:=by
 have:=congrArg List.length (iG (kv:=kv) (k:=k) (v:=v));rw[Q0]at this;split
 .rename_i c;rw[if_pos c,Q0]at this;lia
 .rename_i c;rw[if_neg c,Q9,Q0]at this;simp at this;lia
end
theorem kK (T:Txt K mg t):FnOk P w K mg base CX0 4 t.nI t.jd ["self","key"] (si K t):=by
 refine T.Dx.okl ss λ_ _ _ s H vs Q E hr h=>?_;obtain⟨a,k,F,st,rfl,⟨d,hb,hF,hn,nd,z⟩,h0,q⟩:=h;refine⟨_,(ah (aI (Et (AG (jj hr) (pv 1) (aN (pv 0) T.aH T.iD (dW T) hr.mo T.iJ .nil az (aa (pv 1) ag))))))
  ,?_⟩
 obtain⟨dx,fs,hi,hm⟩:=hb.insM;refine⟨_,rfl,_,rfl,a,dx,fs,rfl,hi,hm _ (by decide+kernel),_,rfl,a,k,st,d,rfl,hb,z,λc kv ic=>?_⟩;obtain⟨hc,_,_⟩:=hb.at ic;refine⟨c,_,rfl,DGet.k (k:=Sum.inl k) hc,?_⟩;rw[liftK_val,hb.val k c kv ic];exact q H F ⟨d,hb,hF,hn,nd,z⟩ Fr.refl
theorem sA (T:Txt K mg t):FnOk P w K mg base CX0 4 t.nG t.jc ["self","key","value"] (sg K t):=by
 refine T.Dw.okl sc_Slots__put λ_ _ _ s H vs Q E hr h=>?_;obtain⟨a,k,i,F,st,rfl,⟨d,hb,hF,hn,nd,z⟩,h0,hl,q⟩:=h;refine⟨_,(ae (aJ (cx (pv 0) T.aH T.lU (fj T) hr.mo T.mj .nil az))
   (ae (aG (i:=3) sc_Slots__put.nd rfl (Or.inl rfl) (aN (pv 0) T.aH T.iD (dW T) hr.mo T.iJ .nil az (aa (pv 1) ag)))
   (ae (aQ (xi (tw (jj hr) (pv 1) (pv 3)))
   (ah (kr (pv 0) ai xz))
   aF)
   (ae (p6 (jj hr) (pv 3) (pv 1) (pv 2) rfl)
   (ah (aJ (cx (pv 0) T.aH T.lV (fk T) hr.mo T.mn .nil az)))))))
  ,?_⟩
 obtain⟨dx,fs,hi,hm⟩:=hb.insM;refine⟨_,rfl,a,dx,fs,rfl,hi,hm _ (by decide+kernel),a,st,d,rfl,hb,z,hl,λH1 d1 hb1 e1 fr1=>?_⟩;obtain⟨dx1,fs1,hi1,hm1⟩:=hb1.insM;have z1:=z.one;refine⟨_,rfl,a,dx1,fs1,rfl,hi1,hm1 _ (by decide+kernel),_,rfl,a,k,st.one,d1,rfl,hb1,z1,λc kv ic=>?_⟩;obtain⟨hc,cF,_⟩:=hb1.at ic;have hv:=hb1.val k c kv ic;have sh:=hb1.short z1 ic;rw[SSt.one_kv]at hv sh;obtain⟨dx2,ho1⟩:=hb1.obj;have na:a≠c:=bW ho1 hc (by intro w;cases w);have key:∀(H2:Hp) (n2:Int),SlB t H2 a st.one {d1 with n:=n2}->Fr (SlF a st d) (SlF a st.one d1) H H2->n2=((aW st.kv k (.int i)).length:Int)->∃d3,SlB t (upd H2 c (.dK (aE (aW kv k (.int i))))) a {st.one with kv:=aW st.one.kv k (.int i)} d3/\d3.n=((aW st.one.kv k (.int i)).length:Int)/\
   ∀H4 d4,SlB t H4 a (SSt.three {st.one with kv:=aW st.one.kv k (.int i)}) d4->d4.n=d3.n->Fr (SlF a {st.one with kv:=aW st.one.kv k (.int i)} d3) (SlF a (SSt.three {st.one with kv:=aW st.one.kv k (.int i)}) d4) (upd H2 c (.dK (aE (aW kv k (.int i))))) H4->Q .non H4:=λH2 n2 hb2 fr2 hn2=>by
  obtain⟨d3,hb3,e3,f3⟩:=hb2.put z1 (kv:=kv) ic (.int i);have e3':d3.n=((aW st.one.kv k (.int i)).length:Int):=by rw[e3,SSt.one_kv];exact hn2
  refine⟨d3,hb3,e3',λH4 d4 hb4 e4 fr4=>?_⟩;rw[SSt.one_kv]at hb4 fr4 f3 e3';refine q H4 _ ⟨d4,hb4,λb=>Iff.rfl,?_,?_,?_⟩ ?_
  .show d4.n=((SSt.three _).kv.length:Int);rw[SSt.three_kv,e4,e3']
  .show((SSt.three _).kv.map (·.1)).Nodup;rw[SSt.three_kv];exact oi nd
  .exact(z1.kv).three
  .have step:Fr (SlF a st.one d1) (SlF a {st.one with kv:=aW st.kv k (.int i)} d3) H2 (upd H2 c (.dK (aE (aW kv k (.int i))))):=λb o n w=>⟨by rw[ac (λy=>n (by rw[y];exact cF))];exact w,λy=>n ((f3 b).mp y)⟩;exact Fr.trans (λb o n w=>fr2 b o (λy=>n ((hF b).mpr y)) w) (Fr.trans step fr4)
 refine⟨_,rfl,_,rfl,c,_,rfl,DGet.k (k:=Sum.inl k) hc,?_⟩;rw[liftK_val,hv];have kl:(aE kv).length<sizeLine:=by rw[cP];exact zd (by lia)
 cases e:aK st.kv k with
 |none=>
  refine⟨_,rfl,bN ?_⟩;refine⟨_,rfl,a,_,dx2,_,_,rfl,ho1,T.aH,T.bu,mD,_,_,rfl,rfl,dx2,_,ho1,mC,?_⟩;rw[DQ];have hb2:=hb1.setN (dx:=dx2) (n:=d1.n+1);have hc2:upd H1 a (.ins t.aV dx2 (slF d1.tb st.one.moved (d1.n+1))) c=some (.dK (aE kv)):=by rw[ac na.symm];exact hc
  obtain⟨d3,hb3,n3,fin⟩:=key _ _ hb2 (λb o n w=>⟨by rw[ac (λy=>(fr1 b o n w).2 (.inl y))];exact(fr1 b o n w).1,(fr1 b o n w).2⟩) (by rw[yt,e,e1,hn];rfl);refine⟨_,rfl,_,rfl,_,rfl,c,_,rfl,DPut.k (k:=Sum.inl k) hc2 kl,?_⟩;rw[eM];obtain⟨dx3,fs3,hi3,hm3⟩:=hb3.insM;exact⟨_,rfl,a,dx3,fs3,rfl,hi3,hm3 _ (by decide+kernel),a,_,d3,rfl,hb3,z1.kv,n3,fin⟩
 |some v=>
  refine⟨_,rfl,bF ?_⟩;obtain⟨d3,hb3,n3,fin⟩:=key H1 d1.n hb1 fr1 (by rw[yt,e,e1,hn];rfl);refine⟨_,rfl,_,rfl,_,rfl,c,_,rfl,DPut.k (k:=Sum.inl k) hc kl,?_⟩;rw[eM];obtain⟨dx3,fs3,hi3,hm3⟩:=hb3.insM;exact⟨_,rfl,a,dx3,fs3,rfl,hi3,hm3 _ (by decide+kernel),a,_,d3,rfl,hb3,z1.kv,n3,fin⟩
theorem qW (T:Txt K mg t):FnOk P w K mg base CX0 5 t.kY t.hV ["self","key"] (qj K t):=by
 refine T.Cd.okl qB λ_ _ _ s H vs Q E hr h=>?_;obtain⟨a,k,F,st,rfl,hA,h0,q1,q2⟩:=h;refine⟨_,(ae (aQ (iW (bT (aN (pv 0) T.aH T.uO (kK T) hr.mo T.vc .nil az (aa (pv 1) ag))))
   (ah mL)
   aF)
   (ae (aJ (cx (pv 0) T.aH T.lU (fj T) hr.mo T.mj .nil az))
   (ae (aJ (dU QG ZT Xr uK (aN (pv 0) T.aH T.iD (dW T) hr.mo T.iJ .nil az (aa (pv 1) ag)) (aa (pv 1) ag)))
   (ae (kr (pv 0) ai Bi)
   (ah (aJ (cx (pv 0) T.aH T.lV (fk T) hr.mo T.mn .nil az)))))))
  ,?_⟩
 obtain⟨dx,fs,hi,hm⟩:=hA.ins;refine⟨_,rfl,a,dx,fs,rfl,hi,hm _ (by decide+kernel),_,rfl,a,k,F,st,rfl,hA,h0,λH0 F0 hA0 fr0=>?_⟩;cases e:aK st.kv k with
 |none=>
  refine⟨_,rfl,bN ?_⟩;exact(q2 e).elim
 |some v=>
  refine⟨_,rfl,bF ?_⟩;obtain⟨d,hb,hF,hn,nd,z⟩:=hA0;obtain⟨dx,fs,hi,hm⟩:=hb.insM;obtain⟨hl,q1⟩:=q1 (by rw[e];rfl);refine⟨_,rfl,a,dx,fs,rfl,hi,hm _ (by decide+kernel),a,st,d,rfl,hb,z,hl,λH1 d1 hb1 e1 fr1=>?_⟩;obtain⟨dx1,fs1,hi1,hm1⟩:=hb1.insM;have z1:=z.one;refine⟨_,rfl,a,dx1,fs1,rfl,hi1,hm1 _ (by decide+kernel),_,rfl,a,k,st.one,d1,rfl,hb1,z1,λc kv ic=>?_⟩;obtain⟨hc,cF,_⟩:=hb1.at ic;have hv:=hb1.val k c kv ic;rw[SSt.one_kv,e]at hv;obtain⟨d3,hb3,e3,f3⟩:=hb1.drop z1 ic;rw[SSt.one_kv]at hb3 f3;refine⟨.inr (.inr (.inl ⟨rfl,.inl ⟨_,hc⟩⟩)),_,rfl,c,_,Sum.inl k,v,rfl,rfl,hc,liftK_val.trans hv,?_⟩;rw[lX];obtain⟨dx3,ho3⟩:=hb3.obj;refine⟨_,rfl,a,_,dx3,_,_,rfl,ho3,T.aH,T.bu,mD,_,_,rfl,rfl,dx3,_,ho3,mC,?_⟩;rw[DQ];have hb4:=hb3.setN (dx:=dx3) (n:=d3.n-1);obtain⟨dx4,fs4,hi4,hm4⟩:=hb4.insM;have dl:=tU nd (p4 e);have n4:d3.n-1=((bi st.kv k).length:Int):=by rw[e3,e1,hn];lia
  refine⟨_,rfl,a,dx4,fs4,rfl,hi4,hm4 _ (by decide+kernel),a,_,_,rfl,hb4,z1.kv,n4,λH5 d5 hb5 e5 fr5=>?_⟩;refine q1 H5 _ ⟨d5,hb5,λb=>Iff.rfl,?_,?_,z1.kv.three⟩ ?_
  .show d5.n=((SSt.three _).kv.length:Int);rw[SSt.three_kv,e5];exact n4
  .show((SSt.three _).kv.map (·.1)).Nodup;rw[SSt.three_kv];exact mR nd
  .refine fr0.trans (Fr.trans (λb o n w=>fr1 b o (λy=>n ((hF b).mpr y)) w) (Fr.trans (λb o n w=>?_) fr5));exact⟨by rw[ac (λy=>n (.inl y)),ac (λy=>n (by rw[y];exact cF))];exact w,λy=>n ((f3 b).mp y)⟩
theorem Ei {sh n:Int}:a6 ("kept":Str) (.int n) (a6 ("shifted":Str) (.int sh) (a6 ("table":Str) (.ref tb) []))=slF tb sh n:=by
 have e1:a6 ("table":Str) (.ref tb) []=[(("table":Str),V.ref tb)]:=rfl;rw[e1,a6,if_neg (by decide+kernel),a6,a6,if_neg (by decide+kernel),a6,if_neg (by decide+kernel),a6];rfl
theorem qV (T:Txt K mg t):FnOk P w K mg base CX0 2 t.kX t.hJ ["self"] (qi K t):=by
 obtain⟨tk_LEAST_SIZE,hLEAST_SIZE⟩:=T.g_LEAST_SIZE;refine T.Cc.okl qA λ_ _ _ s H vs Q E hr h=>?_;obtain⟨a,dx,rfl,ha,hd,q⟩:=h;refine⟨_,(ae (bQ (pv 0) (eK (aa (aL (mO T) hr.mo (by rfl) T.o7 T.kh.kp T.pe .nil az (aa (cM (v:= .int 4) (by rfl) hLEAST_SIZE ⟨_,rfl⟩) ag)) ag)) rfl)
   (ae (bQ (pv 0) ai rfl)
   (ah (bQ (pv 0) ai rfl))))
  ,?_⟩
 refine⟨4,rfl,by decide,by decide,λH' r A s nr nA hr=>⟨(by show 1<=sizeLine;decide),λtb nt=>?_⟩⟩;have ha1:=s _ _ ha;have nta:a≠tb:=ak ha1 nt;refine⟨_,rfl,a,_,dx,[],rfl,(by rw[ac nta];exact ha1),T.aH,T.aR,(by show 0<1000;decide),?_⟩;refine⟨_,rfl,a,_,dx,_,rfl,af,T.aH,T.bK,?_,?_⟩
 .show 1<1000;decide
 refine⟨_,rfl,a,_,dx,_,rfl,af,T.aH,T.bu,?_,?_⟩
 .have h1:=jB (f:="shifted") (v:= .int 0) (a6 "table" (.ref tb) []);have h2:=jB (f:="table") (v:= .ref tb) [];have h3:([]:List (Str×V)).length=0:=rfl;lia
 rw[Ei,cH,cH];have ntr:tb≠r:=(ak hr.lst nt).symm;have sb:=SlB.fresh (t:=t) (H:=upd (upd H' tb (.lst [.ref r])) a (.ins t.aV dx (slF tb 0 0))) (a:=a) (tb:=tb) (r:=r) (A:=A) (dx:=dx) af (by rw[ac nta.symm];exact af) (hr.frame λb hb1=>?_) ntr
 .refine q _ _ ⟨_,sb,λb=>Iff.rfl,rfl,ZC,SzOk.new⟩ λb o n w=>?_;have n1:b≠a:=λy=>n (.inl y);have w1:=s _ _ w;have n2:b≠tb:=ak w1 nt;refine⟨by rw[ac n1,ac n2];exact w1,λy=>?_⟩;rcases y with y|y|y|y|⟨y,_⟩|y
  .exact n1 y
  .exact n2 y
  .have y:b=r:=y;rw[y,nr]at w;cases w
  .rw[nA b y]at w;cases w
  .cases y
  .cases y
 .have:∃o,H' b=some o:=by
   rcases hb1 with rfl|hb1
   .exact⟨_,hr.lst⟩
   .obtain⟨_,_,_,_,w⟩:=hr.has hb1;exact⟨_,w⟩
  obtain⟨o,w⟩:=this;have n2:b≠tb:=ak w nt;have n1:b≠a:=λy=>by
   rcases hb1 with y2|y2
   .rw[<-y2,y,ha]at nr;cases nr
   .have:=nA b y2;rw[y,ha]at this;cases this
  rw[ac n1,ac n2]
theorem eX (e:A[j]?=some c):atI (A.map V.ref) (j:Int)=some (.ref c):=by
 refine vf ?_;rw[Qg,e];rfl
theorem yS (ne:x≠[]) (e:x[x.length-1]?=some m):atI (x.map V.int) (-1)=some (.int m):=by
 have hl:=Z0.mpr ne;unfold atI ixN;rw[Q0,if_neg (by decide),if_pos (by lia)];show(x.map V.int)[((-1:Int)+(x.length:Int)).toNat]?=_;have:((-1:Int)+(x.length:Int)).toNat=x.length-1:=by lia
 rw[this,Qg,e];rfl
theorem yx (h:i<A.length):ixN (A.map V.ref).length (i:Int)=some i:=by
 unfold ixN;rw[if_pos (by lia),if_pos (by rw[Q0];lia)];rfl
theorem l7:∀(A:List Addr) (i:Nat),(A.map V.ref).eraseIdx i=(A.eraseIdx i).map V.ref
 | [],_=>rfl
 |_::_,0=>rfl
 |a::r,i+1=>by
  show V.ref a::(r.map V.ref).eraseIdx i=V.ref a::(r.eraseIdx i).map V.ref;rw[l7 r i]
theorem tQ:∀(ls:List (List Int)) (i:Nat) (y:List Int),(ls.set i y).eraseIdx i=ls.eraseIdx i
 | [],_,_=>rfl
 |_::_,0,_=>rfl
 |x::r,i+1,y=>by
  show x::(r.set i y).eraseIdx i=x::r.eraseIdx i;rw[tQ r i y]
def D7 (a:Addr) (k:Int) (ls:List (List Int)) (H:Hp):Nat->St->Hp->Prop:=λm σ H'=>∃(lo hi:Nat) (v4:Option V),m=hi-lo/\H'=H/\σ=[some (.ref a),some (.int k),some (.int (lo:Int)),some (.int (hi:Int)),v4]/\lo<=hi/\hi<=ls.length/\
 (∀(j:Nat) (x:List Int),j<lo->ls[j]?=some x->∀y∈x,y<k)/\∀(j:Nat) (x:List Int),hi<=j->ls[j]?=some x->∃y∈x,k<=y
def lK (t:Adr):Sp:=λvs H Q _=>∃(a:Addr) (k:Int) (L:Addr) (A:List Addr) (ls:List (List Int)),vs=[.ref a,.int k]/\LvB t H a L A ls/\(∀l∈ls,l≠[])/\cV ls.flatten/\∀i:Nat,LeafOf ls k i->Q (.int (i:Int)) H
theorem bL (T:Txt K mg t):FnOk P w K mg base CX0 1 t.gK t.d7 ["self","key"] (lK t):=by
 refine T.yX.okl sc_Leaves__leaf_of λ_ _ _ s H vs Q E hr h=>?_;obtain⟨a,k,L,A,ls,rfl,hb,ne,up,q⟩:=h;refine⟨_,(ae (aG (i:=2) sc_Leaves__leaf_of.nd rfl (Or.inl rfl) ai)
   (ae (aG (i:=3) sc_Leaves__leaf_of.nd rfl (Or.inl rfl) (au aq (by rfl) T.bB aX (aa (am (pv 0) rfl) ag)))
   (ae (mJ PassesOwn.never (aA eF (pv 2) (pv 3) (ay _))
   (ae (aG (i:=4) sc_Leaves__leaf_of.nd rfl (Or.inl rfl) (aD iZ (aD bp (pv 2) (pv 3)) ai))
   (ah (aQ (aA eF (aY aT (aY aT (am (pv 0) rfl) (pv 4) (λ_ _=>rfl)) (tq nQ ai) (λ_ _=>rfl)) (pv 1) (ay _))
   (ah (aG (i:=2) sc_Leaves__leaf_of.nd rfl (Or.inl rfl) (aD bp (pv 4) ai)))
   (ah (aG (i:=3) sc_Leaves__leaf_of.nd rfl (Or.inl rfl) (pv 4)))))))
   (ah (aI (pv 2))))))
  ,?_⟩
 obtain⟨dx,ho⟩:=hb.obj;have lA:((A.map V.ref).length:Int)=(ls.length:Int):=by rw[Q0,hb.len]
 refine⟨_,rfl,a,_,dx,_,_,rfl,ho,T.aC,T.ar,b6,L,_,rfl,.inl (SqL.of hb.lst),?_⟩;dsimp only;rw[lA];refine⟨D7 a k ls H,⟨_,0,ls.length,none,rfl,rfl,rfl,Qi _,Q5 _,λj x h=>absurd h (by lia),λj x h e=>?_⟩,?_⟩
 .have:=(Q3.mp e).1;lia
 rintro m σ H' ⟨lo,hi,v4,rfl,rfl,rfl,h1,h2,h3,h4⟩;refine⟨_,rfl,_,rfl,_,_,rfl,rfl,_,rfl,dC (λc=>?_) (λc=>?_)⟩
 .have c:lo<hi:=by have:=of_decide_eq_true c;lia
  refine⟨λσ' H''=>∃m',m'<hi-lo/\D7 a k ls H' m' σ' H'',λ_ _ h=>h,?_⟩;refine⟨_,rfl,_,rfl,_,_,rfl,rfl,_,_,rfl,rfl,⟨by decide,by decide⟩,?_⟩;obtain⟨mid,em,m1,m2⟩:∃mid:Nat,((lo:Int)+(hi:Int))/2=(mid:Int)/\lo<=mid/\mid<hi:=⟨(lo+hi)/2,by lia,by lia,by lia⟩;dsimp only;rw[em];have hm:mid<ls.length:=by lia
  have ex:ls[mid]?=some ls[mid]:=Q4 hm;obtain⟨b,eb,hbb⟩:=hb.at ex;have nex:=ne _ (Z4 hm);obtain⟨g,eg,gm,gmax⟩:=Be (CC up ex) nex;refine⟨_,rfl,a,_,dx,_,_,rfl,ho,T.aC,T.ar,b6,_,rfl,L,_,_,_,rfl,rfl,SqL.of hb.lst,eX eb,_,rfl,b,_,_,_,rfl,rfl,SqL.of hbb,yS nex eg,_,rfl,_,_,rfl,rfl,_,rfl,dC (λc2=>?_) (λc2=>?_)⟩
  .have c2:=of_decide_eq_true c2;refine⟨_,rfl,_,_,rfl,rfl,hi-(mid+1),by lia,mid+1,hi,_,rfl,rfl,rfl,by lia,h2,λj x hj e y hy=>?_,h4⟩;rcases(show j<mid\/j=mid by lia)with h|h
   .have:=tj up e ex h y hy g gm;lia
   .subst h;rw[ex]at e;cases e;have:=gmax y hy;lia
  .have c2:¬g<k:=λz=>c2 (decide_eq_true z);refine⟨_,rfl,mid-lo,by lia,lo,mid,_,rfl,rfl,rfl,by lia,by lia,h3,λj x hj e=>?_⟩;rcases(show j=mid\/mid<j by lia)with h|h
   .subst h;rw[ex]at e;cases e;exact⟨g,gm,by lia⟩
   .obtain⟨y,hy⟩:=List.exists_mem_of_ne_nil x (ne x (Q2 e));have:=tj up ex e h g gm y hy;exact⟨y,hy,by lia⟩
 .have c:¬lo<hi:=λz=>c (decide_eq_true (by lia));have:lo=hi:=by lia
  subst this;exact⟨_,rfl,q lo ⟨h2,h3,λx e=>h4 lo x (Q5 _) e⟩⟩
theorem rE {k:Int}:∀{x:List Int},inV (.int k) (x.map V.int)=decide (k∈x)
 | []=>rfl
 |a::r=>by
  have ih:=rE (k:=k) (x:=r);unfold inV at ih⊢;rw[Qu,ZY,ih];have:eqV (.int a) (.int k)=decide (k=a):=by
   show(_:Bool)=_;by_cases c:a=k
   .subst c;simp[eqV]
   .have c':¬k=a:=λz=>c z.symm;simp[eqV,c,c']
  rw[this];by_cases c:k=a
  .simp[c]
  .simp[c]
theorem zM:(x.map V.int).all kQ=true:=by
 rw[List.all_map];exact QY.mpr λ_ _=>rfl
theorem jI (T:Txt K mg t):FnOk P w K mg base CX0 2 t.lq t.hZ ["self","key"] (qm K t):=by
 refine T.Cg.okl sc_Leaves__has λ_ _ _ s H vs Q E hr h=>?_;obtain⟨a,k,F,ks,rfl,hA,q⟩:=h;refine⟨_,(ae (aG (i:=2) sc_Leaves__has.nd rfl (Or.inl rfl) (aN (pv 0) T.aC T.b4 (bL T) hr.mo T.b8 .nil az (aa (pv 1) ag)))
   (ah (aI (fX (bq eF (pv 2) (au aq (by rfl) T.bB aX (aa (am (pv 0) rfl) ag)) (ay _)) (eJ (bq tz (pv 1) (aY aT (am (pv 0) rfl) (pv 2) (λ_ _=>rfl)) rfl))))))
  ,?_⟩
 obtain⟨dx,fs,hi,hm⟩:=hA.ins;have q:=q H F hA Fr.refl;obtain⟨L,A,ls,hb,ok,ef,hF⟩:=hA;obtain⟨dx',ho⟩:=hb.obj;have lA:((A.map V.ref).length:Int)=(ls.length:Int):=by rw[Q0,hb.len]
 refine⟨_,rfl,a,dx,fs,rfl,hi,hm _ (by decide+kernel),_,rfl,a,k,L,A,ls,rfl,hb,ok.ne,ok.up,λi li=>?_⟩;refine⟨_,rfl,_,rfl,a,_,dx',_,_,rfl,ho,T.aC,T.ar,b6,L,_,rfl,.inl (SqL.of hb.lst),_,_,rfl,rfl,_,rfl,dC (λc=>?_) (λc=>?_)⟩
 .have c:=of_decide_eq_true c;have hi:i<ls.length:=by lia
  have ex:ls[i]?=some ls[i]:=Q4 hi;obtain⟨b,eb,hbb⟩:=hb.at ex;refine⟨_,rfl,_,rfl,a,_,dx',_,_,rfl,ho,T.aC,T.ar,b6,_,rfl,L,_,_,_,rfl,rfl,SqL.of hb.lst,eX eb,b,_,rfl,.inl (SqL.of hbb),rfl,zM,?_⟩;show Q (.bl (inV (.int k) (ls[i].map V.int))) H;rw[rE];have:k∈ls[i]↔k∈ks:=by
   rw[<-ef,li.mem ok];constructor
   .exact λz=>⟨_,ex,z⟩
   .rintro ⟨x,e,z⟩;rw[ex]at e;cases e;exact z
  rw[decide_eq_decide.mpr this];exact q
 .have c:¬(i:Int)<((A.map V.ref).length:Int):=λz=>c (decide_eq_true z);have:k∉ks:=λz=>by
   rw[<-ef,li.mem ok]at z;obtain⟨x,e,_⟩:=z;have:=(Q3.mp e).1;lia
  rw[decide_eq_false this]at q;exact q
theorem jg (T:Txt K mg t):FnOk P w K mg base CX0 1 t.ke t.gu ["self"] (pL K t):=by
 refine T.BO.okl pQ λ_ _ _ s H vs Q E hr h=>?_;obtain⟨a,dx,rfl,ha,hd,q⟩:=h;refine⟨_,(ah (bQ (pv 0) (eK ag) rfl))
  ,?_⟩
 refine⟨Qi _,λL nL=>⟨_,rfl,a,_,dx,[],rfl,(by rw[ac (ak ha nL)];exact ha),T.aC,T.ar,(by show 0<1000;decide),?_⟩⟩;have na:=ak ha nL;refine q _ (LvF a L []) ⟨L,[],[],⟨⟨dx,af⟩,by rw[ac na.symm];exact af,rfl,(λj b l e=>by simp at e),(λi j b e=>by simp at e),(λz=>by cases z)⟩,LvOk.nil,rfl,λb=>Iff.rfl⟩ λb o n w=>?_;have n1:b≠a:=λy=>n (.inl y);have n2:b≠L:=ak w nL;refine⟨by rw[ac n1,ac n2];exact w,λy=>?_⟩;rcases y with y|y|y
 .exact n1 y
 .exact n2 y
 .cases y
def jq (t:Adr):Sp:=λvs H Q _=>∃(a L:Addr) (A:List Addr) (ls:List (List Int)) (i:Nat) (x:List Int),vs=[.ref a,.int (i:Int)]/\LvB t H a L A ls/\ls[i]?=some x/\x.length=9/\ls.length<5000/\
 ∀H' A',LvB t H' a L A' ((ls.set i (x.take 4)).take (i+1)++x.drop 4::(ls.set i (x.take 4)).drop (i+1))->Fr (LvF a L A) (LvF a L A') H H'->Q .non H'
theorem jH (T:Txt K mg t):FnOk P w K mg base CX0 1 t.fo t.db ["self","at"] (jq t):=by
 refine T.wN.okl sc_Leaves__part_leaf λ_ _ _ s H vs Q E hr h=>?_;obtain⟨a,L,A,ls,i,x,rfl,hb,ex,lx,ll,q⟩:=h;refine⟨_,(ae (aG (i:=2) sc_Leaves__part_leaf.nd rfl (Or.inl rfl) (aY aT (am (pv 0) rfl) (pv 1) (λ_ _=>rfl)))
   (ae (aG (i:=3) sc_Leaves__part_leaf.nd rfl (Or.inl rfl) (aD iZ (au aq (by rfl) T.bB aX (aa (pv 2) ag)) ai))
   (ae (xk (dj eS (pv 2) eU (cK (pv 3))) (xl (am (pv 0) rfl) (pv 1) qy))
   (ah (aJ (dU Qp X9 Xa oq (am (pv 0) rfl) (aa (aD bp (pv 1) ai) (aa (dj eS (pv 2) (cK (pv 3)) eU) ag))))))))
  ,?_⟩
 obtain⟨dx,ho⟩:=hb.obj;obtain⟨c,ec,hc⟩:=hb.at ex;have hil:i<A.length:=(Q3.mp ec).1;have len9:((x.map V.int).length:Int)=9:=by rw[Q0,lx];rfl
 refine⟨_,rfl,a,_,dx,_,_,rfl,ho,T.aC,T.ar,b6,_,rfl,L,_,_,_,rfl,rfl,SqL.of hb.lst,eX ec,?_⟩;refine⟨_,rfl,c,_,rfl,.inl (SqL.of hc),_,_,rfl,rfl,⟨by decide,by decide⟩,?_⟩;dsimp only;rw[len9];have cut1:iI (x.map V.int) none (some (9/2))=(x.take 4).map V.int:=by
  unfold iI;rw[Q0,lx];show((x.map V.int).drop 0).take (4-0)=_;rw[Zq,Zg]
 have cut2:iI (x.map V.int) (some (9/2)) none=(x.drop 4).map V.int:=by
  unfold iI;rw[Q0,lx];show((x.map V.int).drop 4).take (9-4)=_;rw[ZO,QC (by rw[Qr,Q0,lx];exact Q5 _)]
 refine⟨_,rfl,_,rfl,_,rfl,c,_,rfl,SqL.of hc,λn1 nn1=>?_⟩;rw[cut1];have s1:Same H (upd H n1 (.lst ((x.take 4).map V.int))):=al nn1;have hb1:=hb.same s1;have hn1:upd H n1 (.lst ((x.take 4).map V.int)) n1=some (.lst ((x.take 4).map V.int)):=af;have nF1:=hb.out nn1;have ho1:=s1 _ _ ho;have hc1:=s1 _ _ hc;have hL1:=s1 _ _ hb.lst;generalize upd H n1 (.lst ((x.take 4).map V.int))=H1 at s1 hb1 hn1 ho1 hc1 hL1⊢;refine⟨_,rfl,a,_,dx,_,_,rfl,ho1,T.aC,T.ar,b6,_,rfl,L,_,_,_,rfl,rfl,hL1,yx hil,?_⟩;have es:(A.map V.ref).set i (V.ref n1)=(A.set i n1).map V.ref:=by rw[XS]
 rw[es];have hb2:=hb1.swap ec ex hn1 nF1;have cL:c≠L:=λz=>hb.nL (z▸Q2 ec);have hc2:upd H1 L (.lst ((A.set i n1).map V.ref)) c=some (.lst (x.map V.int)):=by rw[ac cL];exact hc1
 obtain⟨dx2,ho2⟩:=hb2.obj;have hL2:=hb2.lst;have f2:Fr (LvF a L A) (LvF a L (A.set i n1)) H (upd H1 L (.lst ((A.set i n1).map V.ref))):=λb o n w=>by
  have w1:=s1 _ _ w;refine⟨by rw[ac (λy=>n (.inr (.inl y)))];exact w1,λy=>?_⟩;rcases y with y|y|y
  .exact n (.inl y)
  .exact n (.inr (.inl y))
  .rcases Zu y with y|y
   .exact n (.inr (.inr y))
   .rw[y,nn1]at w;cases w
 generalize upd H1 L (.lst ((A.set i n1).map V.ref))=H2 at hb2 hc2 ho2 hL2 f2⊢;refine⟨_,rfl,a,_,dx2,_,_,rfl,ho2,T.aC,T.ar,b6,.inl ⟨rfl,_,SqL.of hL2⟩,_,rfl,_,_,rfl,rfl,_,rfl,_,rfl,_,rfl,c,_,rfl,SqL.of hc2,λn2 nn2=>?_⟩;rw[cut2];have s3:Same H2 (upd H2 n2 (.lst ((x.drop 4).map V.int))):=al nn2;have hb3:=hb2.same s3;have hn3:upd H2 n2 (.lst ((x.drop 4).map V.int)) n2=some (.lst ((x.drop 4).map V.int)):=af;have nF3:=hb2.out nn2;have hL3:=s3 _ _ hL2;generalize upd H2 n2 (.lst ((x.drop 4).map V.int))=H3 at s3 hb3 hn3 hL3⊢;have lS:(A.set i n1).length=A.length:=QF;refine⟨L,_,_,_,rfl,rfl,hL3,(by lia),(by rw[Q0,lS];lia),(by rw[Q0,lS,hb.len];exact bc (by lia)),?_⟩;have ei:((i:Int)+1).toNat=i+1:=by lia
 have hb4:=hb3.insert (i:=i+1) (by rw[lS];lia) hn3 nF3;rw[ei];have em:((A.set i n1).map V.ref).take (i+1)++V.ref n2::((A.set i n1).map V.ref).drop (i+1)=((A.set i n1).take (i+1)++n2::(A.set i n1).drop (i+1)).map V.ref:=by
  rw[Qm,Qu,Zg,ZO]
 rw[em];refine q _ _ hb4 (f2.trans (λb o n w=>?_));have w3:=s3 _ _ w;refine⟨by rw[ac (λy=>n (.inr (.inl y)))];exact w3,λy=>?_⟩;rcases y with y|y|y
 .exact n (.inl y)
 .exact n (.inr (.inl y))
 .rcases Q6.mp y with y|y
  .exact n (.inr (.inr (QM y)))
  .rcases Qj.mp y with y|y
   .rw[y,nn2]at w;cases w
   .exact n (.inr (.inr (Zz y)))
theorem LvB.insM (h:LvB t H a L A ls):∃dx fs,H a=some (.ins t.bj dx fs)/\∀m,m≠("leaves":Str)->fs.lookup m=none:=by
 obtain⟨dx,ho⟩:=h.obj;exact⟨dx,_,ho,λm hm=>DX hm⟩
theorem jK (T:Txt K mg t):FnOk P w K mg base CX0 3 t.lr t.ig ["self","key"] (qo K t):=by
 obtain⟨tk_MOST_IN_LEAF,hMOST_IN_LEAF⟩:=T.g_MOST_IN_LEAF;refine T.Ch.okl sc_Leaves__add λ_ _ _ s H vs Q E hr h=>?_;obtain⟨a,k,F,ks,rfl,hA,hl,q1,q2⟩:=h;refine⟨_,(ae (aQ (bT (aN (pv 0) T.aC T.sC (jI T) hr.mo T.sJ .nil az (aa (pv 1) ag)))
   (ah mL)
   aF)
   (ae (aQ (aA bV (au aq (by rfl) T.bB aX (aa (am (pv 0) rfl) ag)) ai (ay _))
   (ae (aJ (dU Qp Ze Zf eL (am (pv 0) rfl) (aa (eK (aa (pv 1) ag)) ag)))
   (ah mK))
   aF)
   (ae (aG (i:=2) sc_Leaves__add.nd rfl (Or.inl rfl) (au (kA rfl) (by rfl) T.xR rM (aa (aN (pv 0) T.aC T.b4 (bL T) hr.mo T.b8 .nil az (aa (pv 1) ag)) (aa (aD jE (au aq (by rfl) T.bB aX (aa (am (pv 0) rfl) ag)) ai) ag))))
   (ae (aG (i:=3) sc_Leaves__add.nd rfl (Or.inl rfl) (aY aT (am (pv 0) rfl) (pv 2) (λ_ _=>rfl)))
   (ae (aJ (dU Qp X9 Xa oq (pv 3) (aa (au aq (by rfl) T.bB aX (aa (qP rfl (CScope.of (M:=["one"]) (N:=["self","key","at","leaf"]) (N':=["self","key","at","leaf"]) (dsc:=aj eT) rfl rfl (by decide+kernel)) (fw (pv 3)) (λ_ _ _ _ _=>(aA eF (pv 0) (pv 2) (ay _))) (λ_ _ _ _ _=>(pv 0))) ag)) (aa (pv 1) ag))))
   (ah (aQ (aA oU (au aq (by rfl) T.bB aX (aa (pv 3) ag)) (cM (v:= .int 8) (by rfl) hMOST_IN_LEAF ⟨_,rfl⟩) (ay _))
   (ah (aJ (aN (pv 0) T.aC T.wJ (jH T) hr.mo T.wL .nil az (aa (pv 2) ag))))
   aF)))))))
  ,?_⟩
 obtain⟨dx,fs,hi,hm⟩:=hA.ins;refine⟨_,rfl,a,dx,fs,rfl,hi,hm _ (by decide+kernel),_,rfl,a,k,F,ks,rfl,hA,λH0 F0 hA0 fr0=>?_⟩;by_cases ck:k∈ks
 .rw[decide_eq_true ck];refine⟨_,rfl,bN ?_⟩;exact(q2 ck).elim
 rw[decide_eq_false ck];refine⟨_,rfl,bF ?_⟩;have q:=q1 ck;obtain⟨L,A,ls,hb,ok,ef,hF⟩:=hA0;obtain⟨dx',ho⟩:=hb.obj;have lA:((A.map V.ref).length:Int)=(ls.length:Int):=by rw[Q0,hb.len]
 have sh:=ok.short;rw[ef]at sh;have fr:Fr F (LvF a L A) H H0:=λb o n e=>⟨(fr0 b o n e).1,λy=>(fr0 b o n e).2 ((hF b).mpr y)⟩;have nk:k∉ls.flatten:=by rw[ef];exact ck
 by_cases ce:ls=[]
 .subst ce;have eA:A=[]:=ZQ.mp hb.len;subst eA;refine⟨_,rfl,a,_,dx',_,_,rfl,ho,T.aC,T.ar,b6,L,_,rfl,.inl (SqL.of hb.lst),rfl,_,rfl,oE rfl ?_⟩;refine⟨_,rfl,a,_,dx',_,_,rfl,ho,T.aC,T.ar,b6,.inl ⟨rfl,_,SqL.of hb.lst⟩,_,rfl,(by show 1<=sizeLine;decide),λn nn=>?_⟩;have s1:Same H0 (upd H0 n (.lst [.int k])):=al nn;have hb1:=hb.same s1;have hn1:upd H0 n (.lst [.int k]) n=some (.lst (([k]:List Int).map V.int)):=af;have nF:=hb.out nn;have hL1:=s1 _ _ hb.lst;refine⟨L,_,_,rfl,rfl,hL1,cI (by show 0<=1000;decide),?_⟩;have hb2:=hb1.insert (i:=0) (Qi _) hn1 nF;have ok1:LvOk [[k]]:=⟨(λl hl=>by rw[Qe.mp hl];simp),(λl hl=>by rw[Qe.mp hl];simp),(λi x y e1 e2=>by simp at e2),by show cV [k];exact ZP _ _⟩;refine q _ (LvF a L [n]) [k] ⟨L,[n],[[k]],hb2,ok1,rfl,λb=>Iff.rfl⟩ (λz=>?_) (fr.trans λb o n' w=>?_)
  .rw[<-ef];simp
  .have w1:=s1 _ _ w;refine⟨by rw[ac (λy=>n' (.inr (.inl y)))];exact w1,λy=>?_⟩;rcases y with y|y|y
   .exact n' (.inl y)
   .exact n' (.inr (.inl y))
   .rw[Qe.mp y,nn]at w;cases w
 .have hpos:=Z0.mpr ce;refine⟨_,rfl,a,_,dx',_,_,rfl,ho,T.aC,T.ar,b6,L,_,rfl,.inl (SqL.of hb.lst),rfl,_,rfl,bJ (λw=>?_) ?_⟩
  .have:=V.int.inj w;lia
  obtain⟨dx2,fs2,hi2,hm2⟩:=hb.insM;refine⟨_,rfl,a,dx2,fs2,rfl,hi2,hm2 _ (by decide+kernel),_,rfl,a,k,L,A,ls,rfl,hb,ok.ne,ok.up,λi li=>?_⟩;refine⟨_,rfl,a,_,dx',_,_,rfl,ho,T.aC,T.ar,b6,L,_,rfl,.inl (SqL.of hb.lst),_,_,rfl,rfl,_,_,rfl,?_⟩;obtain⟨x,ad⟩:=li.add ok ce;have em:(if((A.map V.ref).length:Int)-1<(i:Int)then((A.map V.ref).length:Int)-1 else(i:Int))=((min i (ls.length-1):Nat):Int):=by
   rw[lA];split<;>lia
  dsimp only;rw[em];generalize min i (ls.length-1)=j at ad⊢;obtain⟨c,ec,hc⟩:=hb.at ad.at_;have jl:j<ls.length:=(Q3.mp ad.at_).1;have x8:=ok.le x (Q2 ad.at_);refine⟨_,rfl,a,_,dx',_,_,rfl,ho,T.aC,T.ar,b6,_,rfl,L,_,_,_,rfl,rfl,SqL.of hb.lst,eX ec,?_⟩;refine⟨_,rfl,.inl ⟨rfl,_,SqL.of hc⟩,_,rfl,c,rfl,⟨_,SqL.of hc⟩,λD hD=>?_⟩;refine gw (K:=K) (a:=c) (xs:=x.map V.int) (λn ys H3=>H3=upd H0 D (.lst ys)/\ys=((x.take n).filter (λz=>decide (z<k))).map V.int) ⟨rfl,rfl⟩ (λn ys H3 _ w=>SqL.of (by rw[w.1,ac (ak hc hD)];exact hc)) (λn v ys H3 hv w hDD=>?_) (λys H3 w hDD=>?_)
  .obtain⟨e1,e2⟩:=w;obtain⟨g,rfl,eg⟩:∃g:Int,v= .int g/\x[n]?=some g:=by
    rw[Qg]at hv;cases e:x[n]? with
    |none=>rw[e]at hv;cases hv
    |some g=>rw[e]at hv;cases hv;exact⟨g,rfl,rfl⟩
   have hn:n<(x.map V.int).length:=(Q3.mp hv).1;refine⟨_,rfl,_,rfl,_,_,rfl,rfl,_,rfl,?_⟩;have fl:ys.length<=8:=by
    rw[e2,Q0];have h1:=Ql (λz=>decide (z<k)) (x.take n);have h2:(x.take n).length<=x.length:=by rw[Qb];lia
    lia
   by_cases cg:g<k
   .refine iH cg ⟨_,rfl,CNext.mk hn hDD (cI (by lia)) ⟨by rw[e1,cH],?_⟩⟩;rw[e2,Qw,eg,QB,Qm];simp[cg]
   .refine bJ cg (CSkip.mk hn hDD ⟨e1,?_⟩);rw[e2,Qw,eg,QB];simp[cg]
  .obtain⟨e1,e2⟩:=w;rw[Q0,QP]at e2;have s3:Same H0 H3:=by rw[e1];exact al hD
   have hb3:=hb.same s3;have hc3:=s3 _ _ hc;have yl:(ys.length:Int)=((x.filter (λz=>decide (z<k))).length:Int):=by rw[e2,Q0]
   have fle:=Ql (λz=>decide (z<k)) x;refine⟨D,_,rfl,.inl (SqL.of hDD),_,rfl,c,_,_,_,rfl,rfl,hc3,(by lia),(by rw[Q0];lia),(by rw[Q0];exact cI (by lia)),?_⟩;have ei:(x.map V.int).take (ys.length:Int).toNat++V.int k::(x.map V.int).drop (ys.length:Int).toNat=(eZ x k).map V.int:=by
    rw[yl,QW];unfold eZ;rw[Qm,Qu,Zg,ZO]
   dsimp only;rw[ei];have hb4:=hb3.write (y:=eZ x k) ec ad.at_;have il:=Bh (l:=x) (k:=k);obtain⟨up4,mem4⟩:=ad.set ok nk;have cF:LvF a L A c:= .inr (.inr (Q2 ec));have f4:Fr (LvF a L A) (LvF a L A) H0 (upd H3 c (.lst ((eZ x k).map V.int))):=λb o n w=>⟨by rw[ac (λy=>n (by rw[y];exact cF))];exact s3 _ _ w,n⟩;have hc4:upd H3 c (.lst ((eZ x k).map V.int)) c=some (.lst ((eZ x k).map V.int)):=af;generalize upd H3 c (.lst ((eZ x k).map V.int))=H4 at hb4 f4 hc4⊢;refine⟨_,rfl,c,_,rfl,.inl (SqL.of hc4),_,_,rfl,rfl,_,rfl,?_⟩;have ll:((eZ x k).map V.int).length=x.length+1:=by rw[Q0,il]
   by_cases c9:x.length=8
   .refine iH (by rw[ll];lia) ?_;obtain⟨dx5,fs5,hi5,hm5⟩:=hb4.insM;have e5:(ls.set j (eZ x k))[j]?=some (eZ x k):=by rw[Qq,if_pos rfl,if_pos jl]
    refine⟨_,rfl,a,dx5,fs5,rfl,hi5,hm5 _ (by decide+kernel),_,rfl,a,L,A,_,j,_,rfl,hb4,e5,by lia,by rw[QF];lia,λH6 A6 hb6 f6=>?_⟩;have er:(ls.set j (eZ x k)).set j ((eZ x k).take 4)=ls.set j ((eZ x k).take 4):=List.set_set _;rw[er]at hb6;have up5:cV (ls.set j ((eZ x k).take 4++(eZ x k).drop 4)).flatten:=by rw[QA];exact up4
    obtain⟨ok6,ef6⟩:=ok.parted ad.at_ (a:=(eZ x k).take 4) (b:=(eZ x k).drop 4) (by rw[Qb];lia) (by rw[Qr];lia) up5;rw[QA]at ef6;refine q H6 _ _ ⟨L,A6,_,hb6,ok6,rfl,λb=>Iff.rfl⟩ (λz=>?_) (fr.trans (f4.trans f6));rw[ef6,mem4,ef]
   .refine bJ (by rw[ll];lia) ?_;have ok4:=ok.grown ad.at_ (y:=eZ x k) (by lia) (by lia) up4;exact q H4 _ _ ⟨L,A,_,hb4,ok4,rfl,λb=>Iff.rfl⟩ (λz=>by rw[mem4,ef]) (fr.trans f4)
def jo (t:Adr):Sp:=λvs H Q _=>∃(a L:Addr) (A:List Addr) (ls:List (List Int)) (i:Int),vs=[.ref a,.int i]/\LvB t H a L A ls/\-1<=i/\i<(ls.length:Int)/\(∀l∈ls,l.length<=8)/\ls.length<5000/\
 ∀H' A' ls',LvB t H' a L A' ls'->ls'=(if 0<=i then kO ls i.toNat else ls)->Fr (LvF a L A) (LvF a L A') H H'->Q .non H'
theorem AV {n:Addr} (h:b∈A.set i n):b∈A\/b=n:=Zu h
theorem jp (T:Txt K mg t):FnOk P w K mg base CX0 1 t.e7 t.cz ["self","at"] (jo t):=by
 obtain⟨tk_LEAST_IN_TWO,hLEAST_IN_TWO⟩:=T.g_LEAST_IN_TWO;refine T.wI.okl sc_Leaves__join_small λ_ _ _ s H vs Q E hr h=>?_;obtain⟨a,L,A,ls,i,rfl,hb,i0,i1,l8,ll,q⟩:=h;refine⟨_,(ae (aQ (PW.pt (tm (aA eF (pv 1) ai (ay _)) (qL (aA bV (aD bp (pv 1) ai) (au aq (by rfl) T.bB aX (aa (am (pv 0) rfl) ag)) (ay _)))))
   (ah mK)
   aF)
   (ae (aG (i:=2) sc_Leaves__join_small.nd rfl (Or.inl rfl) (aD xm (aY aT (am (pv 0) rfl) (pv 1) (λ_ _=>rfl)) (aY aT (am (pv 0) rfl) (aD bp (pv 1) ai) (λ_ _=>rfl))))
   (ah (aQ (aA eF (au aq (by rfl) T.bB aX (aa (pv 2) ag)) (cM (v:= .int 5) (by rfl) hLEAST_IN_TWO ⟨_,rfl⟩) (ay _))
   (ae (xk (pv 2) (xl (am (pv 0) rfl) (pv 1) qy))
   (ah (aJ (dU Qp PySem.F.slot_list_pop PySem.F.type_list_pop vV (am (pv 0) rfl) (aa (aD bp (pv 1) ai) ag)))))
   aF))))
  ,?_⟩
 obtain⟨dx,ho⟩:=hb.obj;have lA:((A.map V.ref).length:Int)=(ls.length:Int):=by rw[Q0,hb.len]
 by_cases c0:i<0
 .refine⟨_,rfl,_,_,rfl,rfl,_,rfl,iH c0 ?_⟩;exact bN (q H A ls hb (by rw[if_neg (by lia)]) Fr.refl)
 refine⟨_,rfl,_,_,rfl,rfl,_,rfl,bJ c0 ?_⟩;obtain⟨n,rfl⟩:=Xc (show 0<=i by lia);have en:((n:Int)).toNat=n:=QW n;rw[if_pos (by lia),en]at q;refine⟨_,rfl,_,_,rfl,rfl,_,rfl,a,_,dx,_,_,rfl,ho,T.aC,T.ar,b6,L,_,rfl,.inl (SqL.of hb.lst),rfl,_,rfl,?_⟩;by_cases c1:n+1=ls.length
 .refine oE (congrArg V.int (by rw[lA];lia)) ?_;exact q H A ls hb (rC (by lia)).symm Fr.refl
 refine bJ (λw=>c1 (by have:=V.int.inj w;rw[lA]at this;lia)) ?_;have hn:n<ls.length:=by lia
 have hn1:n+1<ls.length:=by lia
 have ex:ls[n]?=some ls[n]:=Q4 hn;have ey:ls[n+1]?=some ls[n+1]:=Q4 hn1;have x8:=l8 _ (Z4 hn);have y8:=l8 _ (Z4 hn1);generalize ls[n]=x at ex x8;generalize ls[n+1]=y at ey y8;obtain⟨c,ec,hc⟩:=hb.at ex;obtain⟨d,ed,hd⟩:=hb.at ey;have ec1:(n:Int)+1=((n+1:Nat):Int):=rfl;refine⟨_,rfl,a,_,dx,_,_,rfl,ho,T.aC,T.ar,b6,_,rfl,L,_,_,_,rfl,rfl,SqL.of hb.lst,eX ec,_,rfl,a,_,dx,_,_,rfl,ho,T.aC,T.ar,b6,_,rfl,_,_,rfl,rfl,L,_,_,_,rfl,rfl,SqL.of hb.lst,eX ed,c,d,_,_,rfl,rfl,hc,hd,Z6 (cI (by rw[Q0,Q0];lia)),λbo nbo=>?_⟩;rw[<-Qm];have s1:Same H (upd H bo (.lst ((x++y).map V.int))):=al nbo;have hb1:=hb.same s1;have hbo:upd H bo (.lst ((x++y).map V.int)) bo=some (.lst ((x++y).map V.int)):=af;have nF:=hb.out nbo;have ho1:=s1 _ _ ho;have hL1:=s1 _ _ hb.lst;generalize upd H bo (.lst ((x++y).map V.int))=H1 at s1 hb1 hbo ho1 hL1⊢;refine⟨_,rfl,bo,_,rfl,.inl (SqL.of hbo),_,_,rfl,rfl,_,rfl,?_⟩;have lxy:(((x++y).map V.int).length:Int)=(x.length:Int)+(y.length:Int):=by rw[Q0,Q9];rfl
 rw[wg ex ey]at q;by_cases c5:x.length+y.length<5
 .refine iH (by rw[lxy];lia) ?_;rw[if_pos c5]at q;have nA:n<A.length:=by rw[hb.len];exact hn
  refine⟨_,rfl,_,rfl,a,_,dx,_,_,rfl,ho1,T.aC,T.ar,b6,_,rfl,L,_,_,_,rfl,rfl,hL1,yx nA,?_⟩;have es:(A.map V.ref).set n (V.ref bo)=(A.set n bo).map V.ref:=by rw[XS]
  rw[es];have hb2:=hb1.swap ec ex hbo nF;obtain⟨dx2,ho2⟩:=hb2.obj;have hL2:=hb2.lst;have f2:Fr (LvF a L A) (LvF a L (A.set n bo)) H (upd H1 L (.lst ((A.set n bo).map V.ref))):=λb o n' w=>by
   have w1:=s1 _ _ w;refine⟨by rw[ac (λy=>n' (.inr (.inl y)))];exact w1,λy=>?_⟩;rcases y with y|y|y
   .exact n' (.inl y)
   .exact n' (.inr (.inl y))
   .rcases AV y with y|y
    .exact n' (.inr (.inr y))
    .rw[y,nbo]at w;cases w
  generalize upd H1 L (.lst ((A.set n bo).map V.ref))=H2 at hb2 ho2 hL2 f2⊢;have lS:((A.set n bo).map V.ref).length=ls.length:=by rw[Q0,QF,hb.len]
  have hn2:n+1<(A.set n bo).length:=by rw[QF,hb.len];exact hn1
  have sx:seqIndex? ((n:Int)+1) ((A.set n bo).map V.ref).length=some (n+1):=by
   have:=seqIndex_of (k:=(n:Int)+1) (n:=((A.set n bo).map V.ref).length) (by lia) (by rw[lS];lia);rw[this];congr 1
  refine⟨_,rfl,a,_,dx2,_,_,rfl,ho2,T.aC,T.ar,b6,.inl ⟨rfl,_,SqL.of hL2⟩,_,rfl,_,_,rfl,rfl,L,_,_,n+1,_,rfl,rfl,hL2,(by lia),(by lia),sx,(by rw[Qg,Q4 hn2];rfl),?_⟩;have hb3:=hb2.erase (i:=n+1);have em:((A.set n bo).map V.ref).eraseIdx (n+1)=((A.set n bo).eraseIdx (n+1)).map V.ref:=l7 _ _;rw[em];refine q _ _ _ hb3 rfl (f2.trans λb o n' w=>?_);refine⟨by rw[ac (λy=>n' (.inr (.inl y)))];exact w,λy=>?_⟩;rcases y with y|y|y
  .exact n' (.inl y)
  .exact n' (.inr (.inl y))
  .exact n' (.inr (.inr (Zd y)))
 .refine bJ (by rw[lxy];lia) ?_;rw[if_neg c5]at q;exact q H1 A ls hb1 rfl (Fr.of_same s1)
theorem lT (T:Txt K mg t):FnOk P w K mg base CX0 3 t.gM t.eB ["self","key"] (lM K t):=by
 refine T.yZ.okl sc_Leaves__discard λ_ _ _ s H vs Q E hr h=>?_;obtain⟨a,k,F,ks,rfl,hA,hl,q1,q2⟩:=h;refine⟨_,(ae (aQ (iW (bT (aN (pv 0) T.aC T.sC (jI T) hr.mo T.sJ .nil az (aa (pv 1) ag))))
   (ah mL)
   aF)
   (ae (aG (i:=2) sc_Leaves__discard.nd rfl (Or.inl rfl) (aN (pv 0) T.aC T.b4 (bL T) hr.mo T.b8 .nil az (aa (pv 1) ag)))
   (ae (aJ (dU Qp PySem.F.slot_list_remove PySem.F.type_list_remove zt (aY aT (am (pv 0) rfl) (pv 2) (λ_ _=>rfl)) (aa (pv 1) ag)))
   (ae (aQ (aA bV (au aq (by rfl) T.bB aX (aa (aY aT (am (pv 0) rfl) (pv 2) (λ_ _=>rfl)) ag)) ai (ay _))
   (ae (aJ (dU Qp PySem.F.slot_list_pop PySem.F.type_list_pop vV (am (pv 0) rfl) (aa (pv 2) ag)))
   (ah mK))
   aF)
   (ae (aJ (aN (pv 0) T.aC T.jQ (jp T) hr.mo T.j4 .nil az (aa (pv 2) ag)))
   (ah (aJ (aN (pv 0) T.aC T.jQ (jp T) hr.mo T.j4 .nil az (aa (aD jE (pv 2) ai) ag)))))))))
  ,?_⟩
 obtain⟨dx,fs,hi,hm⟩:=hA.ins;refine⟨_,rfl,a,dx,fs,rfl,hi,hm _ (by decide+kernel),_,rfl,a,k,F,ks,rfl,hA,λH0 F0 hA0 fr0=>?_⟩;by_cases ck:k∈ks
 case neg=>
  rw[decide_eq_false ck];refine⟨_,rfl,bN ?_⟩;exact(q2 ck).elim
 rw[decide_eq_true ck];refine⟨_,rfl,bF ?_⟩;have q:=q1 ck;obtain⟨L,A,ls,hb,ok,ef,hF⟩:=hA0;obtain⟨dx',ho⟩:=hb.obj;have sh:=ok.short;rw[ef]at sh;have fr:Fr F (LvF a L A) H H0:=λb o n e=>⟨(fr0 b o n e).1,λy=>(fr0 b o n e).2 ((hF b).mpr y)⟩;obtain⟨dx2,fs2,hi2,hm2⟩:=hb.insM;refine⟨_,rfl,a,dx2,fs2,rfl,hi2,hm2 _ (by decide+kernel),_,rfl,a,k,L,A,ls,rfl,hb,ok.ne,ok.up,λi li=>?_⟩;obtain⟨x,ex,hx⟩:=(li.mem ok).mp (by rw[ef];exact ck);obtain⟨c,ec,hc⟩:=hb.at ex;have il:i<ls.length:=(Q3.mp ex).1;have ilA:i<A.length:=by rw[hb.len];exact il
 refine⟨_,rfl,a,_,dx',_,_,rfl,ho,T.aC,T.ar,b6,_,rfl,L,_,_,_,rfl,rfl,SqL.of hb.lst,eX ec,.inl ⟨rfl,_,SqL.of hc⟩,_,rfl,c,x,k,rfl,rfl,hc,hx,?_⟩;have hb1:=hb.write (y:=x.erase k) ec ex;obtain⟨up1,mem1⟩:=ok.gone ex hx;have cF:LvF a L A c:= .inr (.inr (Q2 ec));have f1:Fr (LvF a L A) (LvF a L A) H0 (upd H0 c (.lst ((x.erase k).map V.int))):=λb o n w=>⟨by rw[ac (λy=>n (by rw[y];exact cF))];exact w,n⟩;have hc1:upd H0 c (.lst ((x.erase k).map V.int)) c=some (.lst ((x.erase k).map V.int)):=af;obtain⟨dx1,ho1⟩:=hb1.obj;have hL1:=hb1.lst;generalize upd H0 c (.lst ((x.erase k).map V.int))=H1 at hb1 f1 hc1 ho1 hL1⊢;have le:=List.length_erase_of_mem hx;refine⟨_,rfl,a,_,dx1,_,_,rfl,ho1,T.aC,T.ar,b6,_,rfl,L,_,_,_,rfl,rfl,SqL.of hL1,eX ec,c,_,rfl,.inl (SqL.of hc1),rfl,_,rfl,?_⟩;have px:=List.length_pos_of_mem hx;by_cases c0:x.length=1
 .refine oE (congrArg V.int (by rw[Q0,le,c0];rfl)) ?_;have en:x.erase k=[]:=ZQ.mp (by lia);rw[en]at up1 mem1 hb1;have sx:seqIndex? (i:Int) (A.map V.ref).length=some i:=by
   have:=seqIndex_of (k:=(i:Int)) (n:=(A.map V.ref).length) (by lia) (by rw[Q0];lia);rw[this,QW]
  refine⟨_,rfl,a,_,dx1,_,_,rfl,ho1,T.aC,T.ar,b6,.inl ⟨rfl,_,SqL.of hL1⟩,_,rfl,L,_,_,i,_,rfl,rfl,hL1,(by lia),(by lia),sx,(by rw[Qg,ec];rfl),?_⟩;have hb2:=hb1.erase (i:=i);have e2:(ls.set i ([]:List Int)).eraseIdx i=ls.eraseIdx i:=tQ _ _ _;rw[e2]at hb2;rw[l7];obtain⟨ok2,ef2⟩:=ok.out ex c0 up1;refine q _ _ _ ⟨L,_,_,hb2,ok2,rfl,λb=>Iff.rfl⟩ (λz=>by rw[ef2,mem1,ef]) ((fr.trans f1).trans λb o n w=>?_);refine⟨by rw[ac (λy=>n (.inr (.inl y)))];exact w,λy=>?_⟩;rcases y with y|y|y
  .exact n (.inl y)
  .exact n (.inr (.inl y))
  .exact n (.inr (.inr (Zd y)))
 .refine bJ (λw=>c0 (by have:=V.int.inj w;rw[Q0,le]at this;lia)) ?_;have ny:x.erase k≠[]:=Zt (by lia);have w1:=ok.shrunk ex ny (by lia) up1;obtain⟨dx3,fs3,hi3,hm3⟩:=hb1.insM;have ls1:(ls.set i (x.erase k)).length=ls.length:=QF;refine⟨_,rfl,a,dx3,fs3,rfl,hi3,hm3 _ (by decide+kernel),_,rfl,a,L,A,_,(i:Int),rfl,hb1,by lia,by rw[ls1];lia,w1.le,by rw[ls1];lia,λH2 A2 ls2 hb2 e2 f2=>?_⟩;rw[if_pos (by lia),QW]at e2;obtain⟨w2,fl2⟩:=w1.join (i:=i) (λj h=>h);rw[<-e2]at w2 fl2;have l2:i<=ls2.length/\ls2.length<=ls.length:=by
   have:=zE (ls:=ls.set i (x.erase k)) (i:=i);rw[<-e2,ls1]at this;lia
  obtain⟨dx4,fs4,hi4,hm4⟩:=hb2.insM;refine⟨_,rfl,a,dx4,fs4,rfl,hi4,hm4 _ (by decide+kernel),_,rfl,_,_,rfl,rfl,a,L,A2,ls2,(i:Int)-1,rfl,hb2,by lia,by lia,w2.le,by lia,λH3 A3 ls3 hb3 e3 f3=>?_⟩;have fin:LvOk ls3/\ls3.flatten=ls2.flatten:=by
   by_cases ci:i=0
   .subst ci;rw[if_neg (by lia)]at e3;subst e3;exact⟨w2.ok λj h=>by lia,rfl⟩
   .have ei:((i:Int)-1).toNat=i-1:=by lia
    rw[if_pos (by lia),ei]at e3;obtain⟨w3,fl3⟩:=w2.join (i:=i-1) (λj h=>by lia);rw[<-e3]at w3 fl3;exact⟨w3.ok λj h=>by lia,fl3⟩
  obtain⟨ok3,ef3⟩:=fin;refine q H3 _ _ ⟨L,A3,ls3,hb3,ok3,rfl,λb=>Iff.rfl⟩ (λz=>by rw[ef3,fl2,mem1,ef]) (((fr.trans f1).trans f2).trans f3)
def D8 (a l:Addr) (k n:Int) (ls:List (List Int)) (H:Hp):Nat->St->Hp->Prop:=λm σ H'=>∃(i:Nat),m=ls.length-i/\Same H H'/\H l=none/\σ=[some (.ref a),some (.int k),some (.int n),some (.ref l),some (.int (i:Int))]/\i<=ls.length/\H' l=some (.lst ((((ls.take i).flatten).filter λz=>decide (k<=z)).map V.int))
theorem oF (e:ls[i]?=some x):(ls.take (i+1)).flatten=(ls.take i).flatten++x:=by
 rw[Qw,e,Zl];simp
theorem m4 (ls:List (List Int)) (i:Nat):ls.flatten=(ls.take i).flatten++(ls.drop i).flatten:=by rw[<-Zl,QA]
theorem lR (T:Txt K mg t):FnOk P w K mg base CX0 2 t.gL t.d9 ["self","key","most"] (lL K t):=by
 refine T.yY.okl sc_Leaves__from_on λ_ _ _ s H vs Q E hr h=>?_;obtain⟨a,k,n,F,ks,rfl,hA,hl,n0,q⟩:=h;refine⟨_,(ae (aG (i:=3) sc_Leaves__from_on.nd rfl (Or.inl rfl) (eK ag))
   (ae (aG (i:=4) sc_Leaves__from_on.nd rfl (Or.inl rfl) (aN (pv 0) T.aC T.b4 (bL T) hr.mo T.b8 .nil az (aa (pv 1) ag)))
   (ae (mJ PassesOwn.never (PW.pt (fS (aA eF (pv 4) (au aq (by rfl) T.bB aX (aa (am (pv 0) rfl) ag)) (ay _)) (dR (aA eF (au aq (by rfl) T.bB aX (aa (pv 3) ag)) (pv 2) (ay _)))))
   (ae (aJ (dU Qp PySem.F.slot_list_extend PySem.F.type_list_extend tF (pv 3) (aa (qP rfl (CScope.of (M:=["one"]) (N:=["self","key","most","told","at"]) (N':=["self","key","most","told","at"]) (dsc:=aj b3) rfl rfl (by decide+kernel)) (fw (aY aT (am (pv 0) rfl) (pv 4) (λ_ _=>rfl))) (λ_ _ _ _ _=>(aA yg (pv 0) (pv 2) (ay _))) (λ_ _ _ _ _=>(pv 0))) ag)))
   (ah (xj (i:=4) sc_Leaves__from_on.nd rfl (Or.inl rfl) ai Bg))))
   (ah (aI (dj eS (pv 3) eU (cK (pv 2))))))))
  ,?_⟩
 obtain⟨L,A,ls,hb,ok,ef,hF⟩:=hA;refine⟨Qi _,λl nl=>?_⟩;have s0:Same H (upd H l (.lst [])):=al nl;have e0:upd H l (.lst []) l=some (.lst (([]:List Int).map V.int)):=af;have hb0:=hb.same s0;generalize upd H l (.lst [])=H0 at s0 e0 hb0⊢;obtain⟨dx2,fs2,hi2,hm2⟩:=hb0.insM;refine⟨_,rfl,a,dx2,fs2,rfl,hi2,hm2 _ (by decide+kernel),_,rfl,a,k,L,A,ls,rfl,hb0,ok.ne,ok.up,λi0 li=>?_⟩;have f0:((ls.take i0).flatten).filter (λz=>decide (k<=z))=[]:=Zn.mpr λz hz=>by
  have:=zJ ok li z hz;simpa using this
 have lA:((A.map V.ref).length:Int)=(ls.length:Int):=by rw[Q0,hb.len]
 refine⟨D8 a l k n ls H,⟨_,i0,rfl,s0,nl,rfl,li.le,by rw[f0];exact e0⟩,?_⟩;rintro m σ H' ⟨i,rfl,s1,_,rfl,il,e1⟩;have hb1:=hb.same s1;obtain⟨dx1,ho1⟩:=hb1.obj;have fin:∀(done:((((ls.take i).flatten).filter λz=>decide (k<=z)).take n.toNat)=(ks.filter λz=>decide (k<=z)).take n.toNat),∀p,H' p=none->Q (.ref p) (upd H' p (.lst (iI ((((ls.take i).flatten).filter λz=>decide (k<=z)).map V.int) none (some n)))):=λdone p np=>by
  refine q _ p (s1.trans (al np)) ?_ ?_
  .cases e:H p with
   |none=>rfl
   |some o=>rw[s1 _ _ e]at np;cases np
  .rw[af,rJ n0,<-Zg,done]
 refine⟨_,rfl,_,rfl,a,_,dx1,_,_,rfl,ho1,T.aC,T.ar,b6,L,_,rfl,.inl (SqL.of hb1.lst),_,_,rfl,rfl,_,rfl,?_⟩;by_cases c:i<ls.length
 .refine iH (by rw[lA];lia) ?_;refine⟨_,rfl,l,_,rfl,.inl (SqL.of e1),_,rfl,_,_,rfl,rfl,_,rfl,?_⟩;by_cases c2:((((((ls.take i).flatten).filter λz=>decide (k<=z)).map V.int).length:Nat):Int)<n
  .refine iH c2 ?_;refine⟨λσ' H''=>∃m',m'<ls.length-i/\D8 a l k n ls H m' σ' H'',λ_ _ h=>h,?_⟩;have ex:ls[i]?=some ls[i]:=Q4 c;obtain⟨b,eb,hbb⟩:=hb1.at ex;have lb:l≠b:=λz=>by
    obtain⟨b',eb',h'⟩:=hb.at ex;rw[eb]at eb';cases eb';rw[<-z,nl]at h';cases h'
   have fl1:=Ql (λz=>decide (k<=z)) (ls.take i).flatten;have fl2:(ls.take i).flatten.length+ls[i].length<=ks.length:=by
    rw[<-ef,m4 ls (i+1),oF ex,Q9,Q9];lia
   refine⟨_,rfl,.inl ⟨rfl,_,SqL.of e1⟩,_,rfl,a,_,dx1,_,_,rfl,ho1,T.aC,T.ar,b6,_,rfl,L,_,_,_,rfl,rfl,SqL.of hb1.lst,eX eb,b,rfl,⟨_,SqL.of hbb⟩,λD hD=>?_⟩;generalize ls[i]=x at ex hbb fl2⊢;refine gw (K:=K) (a:=b) (xs:=x.map V.int) (λm ys H3=>H3=upd H' D (.lst ys)/\ys=((x.take m).filter (λz=>decide (k<=z))).map V.int) ⟨rfl,rfl⟩ (λm ys H3 _ w=>SqL.of (by rw[w.1,ac (ak hbb hD)];exact hbb)) (λm v ys H3 hv w hDD=>?_) (λys H3 w hDD=>?_)
   .obtain⟨w1,w2⟩:=w;obtain⟨g,rfl,eg⟩:∃g:Int,v= .int g/\x[m]?=some g:=by
     rw[Qg]at hv;cases e:x[m]? with
     |none=>rw[e]at hv;cases hv
     |some g=>rw[e]at hv;cases hv;exact⟨g,rfl,rfl⟩
    have hn:m<(x.map V.int).length:=(Q3.mp hv).1;refine⟨_,rfl,_,rfl,_,_,rfl,rfl,_,rfl,?_⟩;have fl:ys.length<=100000:=by
     rw[w2,Q0];have h1:=Ql (λz=>decide (k<=z)) (x.take m);have h2:(x.take m).length<=x.length:=by rw[Qb];lia
     lia
    by_cases cg:k<=g
    .refine iH cg ⟨_,rfl,CNext.mk hn hDD (bc fl) ⟨by rw[w1,cH],?_⟩⟩;rw[w2,Qw,eg,QB,Qm];simp[cg]
    .refine bJ cg (CSkip.mk hn hDD ⟨w1,?_⟩);rw[w2,Qw,eg,QB];simp[cg]
   .obtain⟨w1,w2⟩:=w;rw[Q0,QP]at w2;have s3:Same H' H3:=by rw[w1];exact al hD
    have e3:=s3 _ _ e1;have fle:=Ql (λz=>decide (k<=z)) x;have hsz:((((ls.take i).flatten).filter λz=>decide (k<=z)).map V.int).length+ys.length<=sizeLine:=by
     rw[w2,Q0,Q0];exact Z6 (bc (by lia))
    refine⟨l,D,_,_,rfl,rfl,e3,hDD,hsz,?_⟩;have hE:(((ls.take i).flatten).filter λz=>decide (k<=z)).map V.int++ys=(((ls.take (i+1)).flatten).filter λz=>decide (k<=z)).map V.int:=by
     rw[w2,oF ex,QB,Qm]
    rw[hE];refine⟨_,rfl,_,_,rfl,rfl,_,?_,i+1,rfl,?_,nl,rfl,c,af⟩
    .lia
    .exact cq (s1.trans s3) nl
  .refine bJ c2 ?_;refine⟨_,rfl,_,rfl,_,rfl,l,_,rfl,SqL.of e1,fin ?_⟩;have:ks.filter (λz=>decide (k<=z))=((ls.take i).flatten).filter (λz=>decide (k<=z))++((ls.drop i).flatten).filter (λz=>decide (k<=z)):=by rw[<-ef,m4 ls i,QB]
   rw[this,XX];rw[Q0]at c2;lia
 .refine bJ (by rw[lA];lia) ?_;have ei:i=ls.length:=by lia
  subst ei;refine⟨_,rfl,_,rfl,_,rfl,l,_,rfl,SqL.of e1,fin ?_⟩;rw[QP,ef]
def WDn (a l:Addr) (k:Option Int) (n:Int) (ls:List (List Int)) (H:Hp):Nat->St->Hp->Prop:=λm σ H'=>Same H H'/\H l=none/\m<=ls.length/\σ=[some (.ref a),some (vDn k),some (.int n),some (.ref l),some (.int ((m:Int)-1))]/\H' l=some (.lst ((((ls.drop m).flatten).reverse.filter (dJ k)).map V.int))
theorem Db {c:Prop} [Decidable c] {A:Prop} (Pv:St->Hp->Prop) (main:∀σ' H',Pv σ' H'->D.nx σ' H') (hA:c->(∀σ' H',Pv σ' H'->D.nx σ' H')->A) (hB:Pv σ H):if c then A else fI D σ H:=dC (λh=>hA h main) (λ_=>main _ _ hB)
theorem zN (e:ls[i]?=some x):((ls.drop i).flatten).reverse=((ls.drop (i+1)).flatten).reverse++x.reverse:=by
 obtain⟨h,e⟩:=Q3.mp e;rw[QR h,e,Zj,XC]
theorem zP (ok:LvOk ls) (li:LeafOf ls k i0):((ls.drop (i0+1)).flatten).reverse.filter (dJ (some k))=[]:=Zn.mpr λz hz=>by
 have:=li.behind ok z (ZD.mp hz);simp only[dJ,decide_eq_true_eq];lia
theorem Bz {len:Nat}:(if((len:Int)-1<(i0:Int))then((len:Int)-1)else(i0:Int))=((min (i0+1) len:Nat):Int)-1:=by
 split<;>lia
theorem zQ (ok:LvOk ls) (li:LeafOf ls k i0):((ls.drop (min (i0+1) ls.length)).flatten).reverse.filter (dJ (some k))=[]:=by
 rcases Nat.le_total (i0+1) ls.length with c|c
 .rw[X2 c];exact zP ok li
 .rw[Nat.min_eq_right c,XW];rfl
theorem jJ (T:Txt K mg t):FnOk P w K mg base CX0 2 t.ft t.de ["self","key","most"] (jr K t):=by
 refine T.wO.okl sc_Leaves__down_from λ_ _ _ s H vs Q E hr h=>?_;obtain⟨a,k,n,F,ks,rfl,hA,hl,n0,q⟩:=h;refine⟨_,(ae (aG (i:=3) sc_Leaves__down_from.nd rfl (Or.inl rfl) (eK ag))
   (ae (aG (i:=4) sc_Leaves__down_from.nd rfl (Or.inl rfl) (aD jE (au aq (by rfl) T.bB aX (aa (am (pv 0) rfl) ag)) ai))
   (ae (aQ (aA uD (pv 1) dA (ay _))
   (ah (aG (i:=4) sc_Leaves__down_from.nd rfl (Or.inl rfl) (au (kA rfl) (by rfl) T.xR rM (aa (aN (pv 0) T.aC T.b4 (bL T) hr.mo T.b8 .nil az (aa (pv 1) ag)) (aa (pv 4) ag)))))
   aF)
   (ae (mJ PassesOwn.never (PW.pt (fS (aA yg (pv 4) ai (ay _)) (dR (aA eF (au aq (by rfl) T.bB aX (aa (pv 3) ag)) (pv 2) (ay _)))))
   (ae (aJ (dU Qp PySem.F.slot_list_extend PySem.F.type_list_extend tF (pv 3) (aa (qP rfl (CScope.of (M:=["one"]) (N:=["self","key","most","told","at"]) (N':=["self","key","most","told","at"]) (dsc:=aj bO) rfl rfl (by decide+kernel)) (AB (by rfl) T.wQ (aa (aY aT (am (pv 0) rfl) (pv 4) (λ_ _=>rfl)) ag)) (λ_ _ _ _ _=>(PW.pt (tm (aA jF (pv 2) dA (ay _)) (qL (aA mN (pv 0) (pv 2) (ay _)))))) (λ_ _ _ _ _=>(pv 0))) ag)))
   (ah (xj (i:=4) sc_Leaves__down_from.nd rfl (Or.inl rfl) ai ES))))
   (ah (aI (dj eS (pv 3) eU (cK (pv 2)))))))))
  ,?_⟩
 obtain⟨L,A,ls,hb,ok,ef,hF⟩:=hA;refine⟨Qi _,λl nl=>?_⟩;have s0:Same H (upd H l (.lst [])):=al nl;have e0:upd H l (.lst []) l=some (.lst (([]:List Int).map V.int)):=af;have hb0:=hb.same s0;generalize upd H l (.lst [])=H0 at s0 e0 hb0⊢;obtain⟨dx0,ho0⟩:=hb0.obj;have lA:((A.map V.ref).length:Int)=(ls.length:Int):=by rw[Q0,hb.len]
 refine⟨_,rfl,a,_,dx0,_,_,rfl,ho0,T.aC,T.ar,b6,L,_,rfl,.inl (SqL.of hb0.lst),_,_,rfl,rfl,?_⟩;rw[lA];refine⟨_,rfl,rfl,_,rfl,Db (λσ' H'=>∃m,WDn a l k n ls H m σ' H') (λσ' H' wW=>?main) (λc key=>?A) ⟨ls.length,s0,nl,Q5 _,rfl,by rw[XW];exact e0⟩⟩
 case A=>
  cases k with
  |none=>exact absurd c (by decide)
  |some k=>
   obtain⟨dx2,fs2,hi2,hm2⟩:=hb0.insM;refine⟨_,rfl,a,dx2,fs2,rfl,hi2,hm2 _ (by decide+kernel),_,rfl,a,k,L,A,ls,rfl,hb0,ok.ne,ok.up,λi0 li=>?_⟩;refine⟨_,rfl,_,_,rfl,?_⟩;dsimp only;rw[Bz];exact key _ _ ⟨min (i0+1) ls.length,s0,nl,Nat.min_le_right _ _,rfl,by rw[zQ ok li];exact e0⟩
 case main=>
  obtain⟨m0,w0⟩:=wW;refine⟨WDn a l k n ls H,⟨m0,w0⟩,?_⟩;rintro m σ H' ⟨s1,_,ml,rfl,e1⟩;have hb1:=hb.same s1;obtain⟨dx1,ho1⟩:=hb1.obj;have fin:∀(done:((((ls.drop m).flatten).reverse.filter (dJ k)).take n.toNat)=(ks.reverse.filter (dJ k)).take n.toNat),∀p,H' p=none->Q (.ref p) (upd H' p (.lst (iI ((((ls.drop m).flatten).reverse.filter (dJ k)).map V.int) none (some n)))):=λdone p np=>by
   refine q _ p (s1.trans (al np)) ?_ ?_
   .cases e:H p with
    |none=>rfl
    |some o=>rw[s1 _ _ e]at np;cases np
   .rw[af,rJ n0,<-Zg,done]
  refine⟨_,rfl,_,_,rfl,rfl,_,rfl,?_⟩;cases m with
  |zero=>
   refine bJ (by decide) ?_;refine⟨_,rfl,_,rfl,_,rfl,l,_,rfl,SqL.of e1,fin ?_⟩;rw[Zq,ef]
  |succ i=>
   have im:((i+1:Nat):Int)-1=(i:Int):=by lia
   rw[im];refine iH (by lia) ?_;refine⟨_,rfl,l,_,rfl,.inl (SqL.of e1),_,rfl,_,_,rfl,rfl,_,rfl,?_⟩;by_cases c2:((((((ls.drop (i+1)).flatten).reverse.filter (dJ k)).map V.int).length:Nat):Int)<n
   .refine iH c2 ?_;refine⟨λσ' H''=>∃m',m'<i+1/\WDn a l k n ls H m' σ' H'',λ_ _ h=>h,?_⟩;have ex:ls[i]?=some ls[i]:=Q4 ml;obtain⟨b,eb,hbb⟩:=hb1.at ex;have fl1:=Ql (dJ k) ((ls.drop (i+1)).flatten).reverse;have fl2:((ls.drop (i+1)).flatten).reverse.length+ls[i].length<=ks.length:=by
     rw[<-ef,m4 ls (i+1),oF ex,Q9,Q9,Z1];lia
    refine⟨_,rfl,.inl ⟨rfl,_,SqL.of e1⟩,_,rfl,a,_,dx1,_,_,rfl,ho1,T.aC,T.ar,b6,_,rfl,L,_,_,_,rfl,rfl,SqL.of hb1.lst,eX eb,b,_,rfl,SqL.of hbb,λD hD=>?_⟩;generalize ls[i]=x at ex hbb fl2⊢;refine zR (K:=K) (a:=b) (xs:=x.map V.int) (λm ys H3=>H3=upd H' D (.lst ys)/\ys=((x.reverse.take m).filter (dJ k)).map V.int) ⟨rfl,rfl⟩ (λm ys H3 _ w=>SqL.of (by rw[w.1,ac (ak hbb hD)];exact hbb)) (λm v ys H3 hv w hDD=>?_) (λys H3 w hDD=>?_)
    .obtain⟨w1,w2⟩:=w;obtain⟨g,rfl,eg⟩:∃g:Int,v= .int g/\x.reverse[m]?=some g:=by
      rw[<-Xe,Qg]at hv;cases e:x.reverse[m]? with
      |none=>rw[e]at hv;cases hv
      |some g=>rw[e]at hv;cases hv;exact⟨g,rfl,rfl⟩
     have hn:m<(x.map V.int).length:=by
      have:=(Q3.mp hv).1;rwa [Z1]at this
     have fl:ys.length<=100000:=by
      rw[w2,Q0];have h1:=Ql (dJ k) (x.reverse.take m);have h2:(x.reverse.take m).length<=x.reverse.length:=by rw[Qb];lia
      rw[Z1]at h2;lia
     have yes:dJ k g=true->CNext (x.map V.int).length m ys D (λm ys H3=>H3=upd H' D (.lst ys)/\ys=((x.reverse.take m).filter (dJ k)).map V.int) (.int g) H3:=λcg=>by
      refine CNext.mk hn hDD (bc fl) ⟨by rw[w1,cH],?_⟩;rw[w2,Qw,eg,QB,Qm];simp[cg]
     have no:dJ k g=false->CSkip (x.map V.int).length m ys D (λm ys H3=>H3=upd H' D (.lst ys)/\ys=((x.reverse.take m).filter (dJ k)).map V.int) H3:=λcg=>by
      refine CSkip.mk hn hDD ⟨w1,?_⟩;rw[w2,Qw,eg,QB];simp[cg]
     refine⟨_,rfl,rfl,_,rfl,?_⟩;cases k with
     |none=>exact bN (bN ⟨_,rfl,yes rfl⟩)
     |some k=>
      refine bF ⟨_,rfl,_,rfl,_,_,rfl,rfl,_,rfl,?_⟩;by_cases cg:g<=k
      .exact iH cg ⟨_,rfl,yes (decide_eq_true cg)⟩
      .exact bJ cg (no (decide_eq_false cg))
    .obtain⟨w1,w2⟩:=w;rw[Q0,show x.length=x.reverse.length from Z1.symm,QP]at w2;have s3:Same H' H3:=by rw[w1];exact al hD
     have e3:=s3 _ _ e1;have fle:=Ql (dJ k) x.reverse;have hsz:((((ls.drop (i+1)).flatten).reverse.filter (dJ k)).map V.int).length+ys.length<=sizeLine:=by
      rw[w2,Q0,Q0];rw[Z1]at fle;exact Z6 (bc (by lia))
     refine⟨l,D,_,_,rfl,rfl,e3,hDD,hsz,?_⟩;have hE:(((ls.drop (i+1)).flatten).reverse.filter (dJ k)).map V.int++ys=(((ls.drop i).flatten).reverse.filter (dJ k)).map V.int:=by
      rw[w2,zN ex,QB,Qm]
     rw[hE];refine⟨_,rfl,_,_,rfl,rfl,i,ZJ _,cq (s1.trans s3) nl,nl,Z6 ml,rfl,af⟩
   .refine bJ c2 ?_;refine⟨_,rfl,_,rfl,_,rfl,l,_,rfl,SqL.of e1,fin ?_⟩;have:ks.reverse.filter (dJ k)=((ls.drop (i+1)).flatten).reverse.filter (dJ k)++((ls.take (i+1)).flatten).reverse.filter (dJ k):=by rw[<-ef,m4 ls (i+1),XC,QB]
    rw[this,XX];rw[Q0]at c2;lia
theorem qK:∀{a b:List Int},cV a->cV b->(∀z,z∈a↔z∈b)->a=b
 | [],[],_,_,_=>rfl
 | [],y::r,_,_,h=>by have:=(h y).mpr Qd;cases this
 |x::r,[],_,_,h=>by have:=(h x).mp Qd;cases this
 |x::r,y::r',ha,hb,h=>by
  obtain⟨a1,a2⟩:=Zb.mp ha;obtain⟨b1,b2⟩:=Zb.mp hb;have exy:x=y:=by
   rcases Qj.mp ((h x).mp Qd)with e|e
   .exact e
   .rcases Qj.mp ((h y).mpr Qd)with e2|e2
    .exact e2.symm
    .have h1:=b1 x e;have h2:=a1 y e2;lia
  subst exy;rw[qK a2 b2 λz=>?_];constructor
  .intro hz;rcases Qj.mp ((h z).mp (Qa _ hz))with e|e
   .have:=a1 z hz;lia
   .exact e
  .intro hz;rcases Qj.mp ((h z).mpr (Qa _ hz))with e|e
   .have:=b1 z hz;lia
   .exact e
theorem LvA.rise (h:LvA K t H a F ks):cV ks:=by
 obtain⟨_,_,ls,_,ok,ef,_⟩:=h;rw[<-ef];exact ok.up
theorem SqF.wide {l:Addr} (h:SqF K F H a xs) (n:H l=none):SqF K (λb=>F b\/b=l) H a xs:=by
 rcases h with⟨h,nF⟩|h
 .refine .inl ⟨h,λy=>?_⟩;rcases y with y|y
  .exact nF y
  .rcases h with h|⟨_,h⟩
   .rw[y,n]at h;cases h
   .rw[y,n]at h;cases h
 .exact .inr h
theorem SqF.updG {l:Addr} (h:SqF K (λb=>F b\/b=l) H a xs):SqF K (λb=>F b\/b=l) (upd H l o) a xs:=h.fr λb u n e=>⟨by rw[ac (λy=>n (.inr y))];exact e,n⟩
theorem vR (T:Txt K mg t):FnOk P w K mg base CX0 1 t.rR t.l9 ["thing"] vD:=by
 refine T.xM.okl vI λ_ _ _ s H vs Q E hr h=>?_;obtain⟨x,rfl,hx,k⟩:=h;refine⟨_,(ah (aI (fX (au j2 (by rfl) T.bG bf (aa (pv 0) (aa (uz (v:= .ty "int") (by rfl) T.Ge E4 rfl) ag))) (eJ (Es (au j2 (by rfl) T.bG bf (aa (pv 0) (aa (uz (v:= .ty "bool") (by rfl) T.Gd Dr rfl) ag))))))))
  ,?_⟩
 cases x with
 |int i=>
  refine⟨_,rfl,_,_,_,_,rfl,TyOf.int _,EH,true,rfl,bN ?_⟩;exact⟨_,rfl,_,_,_,_,rfl,TyOf.int _,EI,_,rfl,k⟩
 |bl c=>
  refine⟨_,rfl,_,_,_,_,rfl,TyOf.bl _,EJ,true,rfl,bN ?_⟩;exact⟨_,rfl,_,_,_,_,rfl,TyOf.bl _,EK,_,rfl,k⟩
 |str c=>exact⟨_,rfl,_,_,_,_,rfl,TyOf.str _,EF,false,rfl,bF k⟩
 |non=>exact⟨_,rfl,_,_,_,_,rfl,TyOf.non,EG,false,rfl,bF k⟩
 |_=>exact hx.elim
theorem qT (T:Txt K mg t):FnOk P w K mg base CX0 2 t.ue t.oJ ["thing","low"] xa:=by
 refine T.kC.okl xh λ_ _ _ s H vs Q E hr h=>?_;obtain⟨x,lo,rfl,hx,k⟩:=h;refine⟨_,(ah (aI (fX (aL (vR T) hr.mo (by rfl) T.EB T.xM.kp T.E6 .nil az (aa (pv 0) ag)) (eJ (bq yg (pv 0) (pv 1) (ay _))))))
  ,?_⟩
 cases x with
 |int i=>exact⟨_,rfl,_,rfl,hx,true,rfl,bN ⟨_,rfl,_,rfl,_,_,rfl,rfl,k⟩⟩
 |bl c=>exact⟨_,rfl,_,rfl,hx,false,rfl,bF k⟩
 |str c=>exact⟨_,rfl,_,rfl,hx,false,rfl,bF k⟩
 |non=>exact⟨_,rfl,_,rfl,hx,false,rfl,bF k⟩
 |_=>exact hx.elim
theorem jG (T:Txt K mg t):FnOk P w K mg base CX0 1 t.iw t.hI ["self","kind","at","end"] (fJ K):=by
 refine T.lI.okl qz λ_ _ _ s H vs Q E hr h=>?_;obtain⟨p,C,dx,kd,a,e,rfl,hp,cl,n0,n1,n2,k⟩:=h;refine⟨_,(ae (bQ (pv 0) (pv 1) rfl)
   (ae (bQ (pv 0) (pv 2) rfl)
   (ah (bQ (pv 0) (pv 3) rfl))))
  ,?_⟩
 refine⟨_,rfl,_,rfl,p,C,dx,[],rfl,hp,cl,n0,(by show 0<1000;decide),_,rfl,_,rfl,p,C,dx,_,rfl,af,cl,n1,(by show 1<1000;decide),_,rfl,_,rfl,p,C,dx,_,rfl,af,cl,n2,?_,?_⟩
 .have h1:=jB (f:="at") (v:=a) (a6 "kind" (.str kd) []);have h2:=jB (f:="kind") (v:= .str kd) [];have h3:([]:List (Str×V)).length=0:=rfl;lia
 rw[cH,cH];refine k _ _ (λb o q z=>by rw[ac z];exact q) af ⟨?_,?_,?_,?_,?_⟩
 .rw[a7,if_neg (by decide+kernel),a7,if_neg (by decide+kernel),a7,if_pos rfl]
 .rw[a7,if_neg (by decide+kernel),a7,if_pos rfl]
 .rw[a7,if_pos rfl]
 .rw[a7,if_neg (by decide+kernel),a7,if_neg (by decide+kernel),a7,if_neg (by decide+kernel)];rfl
 .rw[a7,if_neg (by decide+kernel),a7,if_neg (by decide+kernel),a7,if_neg (by decide+kernel)];rfl
theorem qa {x:V} {lo:Int} (h:isF lo x=true):∃i,x= .int i/\lo<=i:=by
 cases x with
 |int i=>exact⟨i,rfl,of_decide_eq_true h⟩
 |_=>cases h
theorem oW (T:Txt K mg t):FnOk P w K mg base CX0 3 t.rV t.gh ["self","at","end"] (vG t):=by
 refine T.Fd.ok vJ (λvs H Q E h=>?_) (λcdv A outer s H vs Q E hr h=>?_)
 .obtain⟨p,dx,a,e,rfl,_⟩:=h;rfl
 .obtain⟨p,dx,a,e,rfl,hp,sa,se,k1,k2⟩:=h;refine⟨_,(ae (aQ (iW (PW.pt (fS (bT (aL (qT T) hr.mo (by rfl) T.ox T.kC.kp T.oN .nil az (aa (pv 1) (aa ai ag)))) (dR (PW.pt (tm (aA jF (pv 2) dA (ay _)) (qL (bT (aL (qT T) hr.mo (by rfl) T.ox T.kC.kp T.oN .nil az (aa (pv 2) (aa (pv 1) ag)))))))))))
   (ah mL)
   aF)
   (ah (aJ (ye (by rfl) T.AS T.sB T.lI.kp (jG T) hr.mo T.sI .nil az (aa (pv 0) (aa fV (aa (pv 1) (aa (pv 2) ag))))))))
   ,?_⟩
  refine⟨_,rfl,a,0,rfl,sa,_,rfl,dC (λc=>?_) (λc=>?_)⟩
  .obtain⟨i,rfl,i0⟩:=qa c;have fin:okU (.int i) e->fJ K [.ref p,.str "up",.int i,e] H (λ_ H'=>Q .non H') E0:=λok=>⟨p,_,dx,"up",.int i,e,rfl,hp,T.du,T.EA,T.jP,T.cO,λH' fs k h f=>k1 ok H' fs k h f⟩;by_cases ce:e= .non
   .exact⟨_,rfl,rfl,_,rfl,oE ce (bF ⟨_,rfl,_,rfl,_,rfl,fin ⟨i,rfl,i0,.inl ce⟩⟩)⟩
   .refine⟨_,rfl,rfl,_,rfl,bJ ce ⟨_,rfl,_,rfl,e,i,rfl,se,_,rfl,?_⟩⟩;cases ci:isF i e with
    |true=>
     obtain⟨j,rfl,ij⟩:=qa ci;exact bF ⟨_,rfl,_,rfl,_,rfl,fin ⟨i,rfl,i0,.inr ⟨j,rfl,ij⟩⟩⟩
    |false=>
     refine bN ((k2 λ⟨i',e1,_,e2⟩=>?_));cases e1;rcases e2 with e2|⟨j',e2,h⟩
     .exact ce e2
     .rw[e2]at ci;exact of_decide_eq_false ci h
  .exact bN ((k2 λ⟨i',e1,h,_⟩=>c (by rw[e1];exact decide_eq_true h)))
theorem kM (T:Txt K mg t):FnOk P w K mg base CX0 3 t.nK t.eC ["self","at","end"] (sk t):=by
 refine T.Dz.ok sv (λvs H Q E h=>?_) (λcdv A outer s H vs Q E hr h=>?_)
 .obtain⟨p,dx,a,e,rfl,_⟩:=h;rfl
 .obtain⟨p,dx,a,e,rfl,hp,sa,se,k1,k2⟩:=h;refine⟨_,(ae (aQ (iW (PW.pt (fS (bT (aL (qT T) hr.mo (by rfl) T.ox T.kC.kp T.oN .nil az (aa (pv 2) (aa ai ag)))) (dR (PW.pt (tm (aA jF (pv 1) dA (ay _)) (qL (bT (aL (qT T) hr.mo (by rfl) T.ox T.kC.kp T.oN .nil az (aa (pv 1) (aa (pv 2) ag)))))))))))
   (ah mL)
   aF)
   (ah (aJ (ye (by rfl) T.AS T.sB T.lI.kp (jG T) hr.mo T.sI .nil az (aa (pv 0) (aa fV (aa (pv 1) (aa (pv 2) ag))))))))
   ,?_⟩
  refine⟨_,rfl,e,0,rfl,se,_,rfl,dC (λc=>?_) (λc=>?_)⟩
  .obtain⟨j,rfl,j0⟩:=qa c;have fin:okD a (.int j)->fJ K [.ref p,.str "down",a,.int j] H (λ_ H'=>Q .non H') E0:=λok=>⟨p,_,dx,"down",a,.int j,rfl,hp,T.bx,T.C2,T.cy,T.dF,λH' fs k h f=>k1 ok H' fs k h f⟩;by_cases ce:a= .non
   .exact⟨_,rfl,rfl,_,rfl,oE ce (bF ⟨_,rfl,_,rfl,_,rfl,fin ⟨j,rfl,j0,.inl ce⟩⟩)⟩
   .refine⟨_,rfl,rfl,_,rfl,bJ ce ⟨_,rfl,_,rfl,a,j,rfl,sa,_,rfl,?_⟩⟩;cases ci:isF j a with
    |true=>
     obtain⟨i,rfl,ij⟩:=qa ci;exact bF ⟨_,rfl,_,rfl,_,rfl,fin ⟨j,rfl,j0,.inr ⟨i,rfl,ij⟩⟩⟩
    |false=>
     refine bN ((k2 λ⟨j',e1,_,e2⟩=>?_));cases e1;rcases e2 with e2|⟨i',e2,h⟩
     .exact ce e2
     .rw[e2]at ci;exact of_decide_eq_false ci h
  .exact bN ((k2 λ⟨j',e1,h,_⟩=>c (by rw[e1];exact decide_eq_true h)))
theorem uJ (T:Txt K mg t):FnOk P w K mg base CX0 1 t.pC t.jZ ["self","key"] (fv t):=by
 refine T.Ea.okl ux λ_ _ _ s H vs Q E hr h=>?_;obtain⟨p,dx,fs,a,e,k,rfl,hp,tf,⟨i,rfl,i0,he⟩,h0,q⟩:=h;refine⟨_,(ah (aI (fX (bq mN (am (pv 0) rfl) (pv 1) (ay _)) (eJ (yb (bq jF (am (pv 0) rfl) dA (ay _)) (eJ (bq eF (pv 1) (am (pv 0) rfl) (ay _))))))))
  ,?_⟩
 have q:=q H (Same.refl H);rcases he with rfl|⟨j,rfl,ij⟩
 .have q:Q (.bl (decide (i<=k))) H:=q;refine⟨_,rfl,p,_,dx,fs,_,rfl,hp,T.du,T.jP,tf.at_,_,rfl,_,_,rfl,rfl,_,rfl,dC (λc=>⟨_,rfl,p,_,dx,fs,_,rfl,hp,T.du,T.cO,tf.end_,rfl,_,rfl,oE rfl ?_⟩) (λc=>?_)⟩
  .rw[c]at q;exact q
  .rw[ZS.mpr c]at q;exact q
 .have q:Q (.bl (decide (i<=k)&&decide (k<j))) H:=q;refine⟨_,rfl,p,_,dx,fs,_,rfl,hp,T.du,T.jP,tf.at_,_,rfl,_,_,rfl,rfl,_,rfl,dC (λc=>⟨_,rfl,p,_,dx,fs,_,rfl,hp,T.du,T.cO,tf.end_,rfl,_,rfl,bJ (λz=>by cases z) ⟨_,rfl,_,rfl,p,_,dx,fs,_,rfl,hp,T.du,T.cO,tf.end_,_,_,rfl,rfl,?_⟩⟩) (λc=>?_)⟩
  .rw[c,XD]at q;exact q
  .rw[ZS.mpr c,X4]at q;exact q
theorem q9 (T:Txt K mg t):FnOk P w K mg base CX0 1 t.lH t.iu ["self","key"] (dL t):=by
 refine T.Cn.okl qI λ_ _ _ s H vs Q E hr h=>?_;obtain⟨p,dx,fs,a,e,k,rfl,hp,tf,⟨j,rfl,j0,ha⟩,h0,q⟩:=h;refine⟨_,(ah (aI (fX (bq mN (am (pv 0) rfl) (pv 1) (ay _)) (eJ (yb (bq jF (am (pv 0) rfl) dA (ay _)) (eJ (bq mN (pv 1) (am (pv 0) rfl) (ay _))))))))
  ,?_⟩
 have q:=q H (Same.refl H);rcases ha with rfl|⟨i,rfl,ij⟩
 .have q:Q (.bl (decide (j<=k))) H:=q;refine⟨_,rfl,p,_,dx,fs,_,rfl,hp,T.bx,T.dF,tf.end_,_,rfl,_,_,rfl,rfl,_,rfl,dC (λc=>⟨_,rfl,p,_,dx,fs,_,rfl,hp,T.bx,T.cy,tf.at_,rfl,_,rfl,oE rfl ?_⟩) (λc=>?_)⟩
  .rw[c]at q;exact q
  .rw[ZS.mpr c]at q;exact q
 .have q:Q (.bl (decide (j<=k)&&decide (k<=i))) H:=q;refine⟨_,rfl,p,_,dx,fs,_,rfl,hp,T.bx,T.dF,tf.end_,_,rfl,_,_,rfl,rfl,_,rfl,dC (λc=>⟨_,rfl,p,_,dx,fs,_,rfl,hp,T.bx,T.cy,tf.at_,rfl,_,rfl,bJ (λz=>by cases z) ⟨_,rfl,_,rfl,p,_,dx,fs,_,rfl,hp,T.bx,T.cy,tf.at_,_,_,rfl,rfl,?_⟩⟩) (λc=>?_)⟩
  .rw[c,XD]at q;exact q
  .rw[ZS.mpr c,X4]at q;exact q
structure Mk1 where
 p:Addr
 mo:Int
 v:V
structure MkA (t:Adr) (H:Hp) (m l:Addr) (es:List Mk1):Prop where
 ob:∃dx,H m=some (.ins t.cU dx [("made",.ref l)])
 li:H l=some (.lst (es.map λe=>V.ref e.p))
 tu:∀e∈es,H e.p=some (.tup [.int e.mo,e.v])
theorem MkA.same {m l:Addr} (h:MkA t H m l es) (s:Same H H'):MkA t H' m l es:=⟨h.ob.imp λ_ e=>s _ _ e,s _ _ h.li,λe he=>s _ _ (h.tu e he)⟩
theorem MkA.keep {m l:Addr} (h:MkA t H m l es) (e1:H' m=H m) (e2:H' l=H l) (tp:∀b xs,H b=some (.tup xs)->H' b=some (.tup xs)):MkA t H' m l es:=⟨h.ob.imp λ_ e=>e1.trans e,e2.trans h.li,λe he=>tp _ _ (h.tu e he)⟩
def ql (t:Adr):Sp:=λvs H Q _=>∃(a dx:Addr),vs=[.ref a]/\H a=some (.ins t.cU dx [])/\∀(H':Hp) (l:Addr),MkA t H' a l []->H l=none->(∀b o,b≠a->H b=some o->H' b=some o)->Q .non H'
theorem qY (T:Txt K mg t):FnOk P w K mg base CX0 1 t.k8 t.hX ["self"] (ql t):=by
 refine T.Cf.okl qD λ_ _ _ s H vs Q E hr h=>?_;obtain⟨a,dx,rfl,ha,q⟩:=h;refine⟨_,(ah (bQ (pv 0) (eK ag) rfl))
  ,?_⟩
 refine⟨Qi _,λl nl=>⟨_,rfl,a,_,dx,[],rfl,(by rw[ac (ak ha nl)];exact ha),T.eD,T.bZ,(by show 0<1000;decide),?_⟩⟩;have na:a≠l:=ak ha nl;exact q _ l ⟨⟨dx,af⟩,by rw[ac na.symm];exact af,λe he=>by cases he⟩ nl λb o n e=>by rw[ac n,ac (ak e nl)];exact e
def qk (t:Adr):Sp:=λvs H Q _=>∃(m l:Addr) (es:List Mk1) (mo:Int) (v:V),vs=[.ref m,.int mo,v]/\MkA t H m l es/\es.length<100000/\
 ∀(H':Hp) (p:Addr),MkA t H' m l (es++ [⟨p,mo,v⟩])->H p=none->(∀b o,b≠l->H b=some o->H' b=some o)->Q .non H'
theorem qX (T:Txt K mg t):FnOk P w K mg base CX0 1 t.kZ t.hW ["self","moment","value"] (qk t):=by
 refine T.Ce.okl qC λ_ _ _ s H vs Q E hr h=>?_;obtain⟨m,l,es,mo,v,rfl,M,le,q⟩:=h;refine⟨_,(ah (aJ (dU Qp Ze Zf eL (am (pv 0) rfl) (aa (iX (aa (pv 1) (aa (pv 2) ag))) ag))))
  ,?_⟩
 obtain⟨dx,ho⟩:=M.ob;refine⟨_,rfl,m,_,dx,_,_,rfl,ho,T.eD,T.bZ,rfl,.inl ⟨rfl,_,SqL.of M.li⟩,_,rfl,_,rfl,(by show 2<=sizeLine;decide),λp np=>?_⟩;have s1:=al (o:= .tup [.int mo,v]) np;have pl:p≠l:=λz=>by rw[z,M.li]at np;cases np
 have lm:m≠l:=λz=>by have:=M.li;rw[<-z,ho]at this;cases this
 refine⟨l,_,_,rfl,rfl,s1 _ _ M.li,bc (by rw[Q0];lia),?_⟩;refine q _ p ⟨⟨dx,by rw[ac lm];exact s1 _ _ ho⟩,by rw[af,Qm];rfl,λe he=>?_⟩ np λb o n e=>by rw[ac n];exact s1 _ _ e
 rcases Q6.mp he with he|he
 .have te:=s1 _ _ (M.tu e he);rw[ac (λz=>by rw[z,s1 _ _ M.li]at te;cases te)];exact te
 .rw[Qe.mp he];rw[ac pl];exact af
theorem Dh {H2:Hp} (s:Same H H2) (n:H2 p=none):H p=none:=by
 cases e:H p with
 |none=>rfl
 |some o=>rw[s _ _ e]at n;cases n
theorem Ej {t:TS} (M:St->Hp->Prop) (h1:∀nx,(∀σ' H',M σ' H'->nx σ' H')->t {D with nx:=nx} σ H) (h2:∀σ' H',M σ' H'->u D σ' H'):Cp t u D σ H:=h1 (u D) h2
def swE (fl:Int) (es:List Mk1):List Mk1:=match (es.filter λy=>decide (y.mo<=fl)).getLast? with
 |none=>es.filter λy=>decide (fl<y.mo)
 |some y=>if y.v= .non then es.filter λy=>decide (fl<y.mo)else y::es.filter λy=>decide (fl<y.mo)
theorem Cu:(swE fl es).length<=es.length:=by
 have h:(es.filter λy=>decide (y.mo<=fl)).length+(es.filter λy=>decide (fl<y.mo)).length=es.length:=by
  induction es with
  |nil=>rfl
  |cons y r ih=>
   rw[QN,QN,Qf];by_cases c:y.mo<=fl
   .rw[if_pos (decide_eq_true c),if_neg (by rw[decide_eq_false (by lia)];exact Q7),Qf];lia
   .rw[if_neg (by rw[decide_eq_false c];exact Q7),if_pos (decide_eq_true (by lia)),Qf];lia
 unfold swE;cases e:(es.filter λy=>decide (y.mo<=fl)).getLast? with
 |none=>dsimp only;lia
 |some y=>
  have:(es.filter λy=>decide (y.mo<=fl))≠[]:=λz=>by rw[z]at e;cases e
  have:=Z0.mpr this;dsimp only;split
  .lia
  .rw[Qf];lia
theorem xW {y:Mk1} (h:y∈swE fl es):y∈es:=by
 have f:∀{p:Mk1->Bool},y∈es.filter p->y∈es:=λh=>(Qt.mp h).1;unfold swE at h;cases e:(es.filter λy=>decide (y.mo<=fl)).getLast? with
 |none=>rw[e]at h;exact f h
 |some z=>
  rw[e]at h;dsimp only at h;split at h
  .exact f h
  .rcases Qj.mp h with rfl|h
   .exact f (Xy e)
   .exact f h
theorem Eh (h:es.Pairwise λa b=>a.mo<b.mo):(swE fl es).Pairwise λa b=>a.mo<b.mo:=by
 have f:(es.filter λy=>decide (fl<y.mo)).Pairwise λa b=>a.mo<b.mo:=h.sublist List.filter_sublist;unfold swE;cases e:(es.filter λy=>decide (y.mo<=fl)).getLast? with
 |none=>exact f
 |some z=>
  dsimp only;split
  .exact f
  .refine Zb.mpr ⟨λb hb=>?_,f⟩;have h1:=of_decide_eq_true (Qt.mp (Xy e)).2;have h2:=of_decide_eq_true (Qt.mp hb).2;lia
theorem yF {p:Mk1->Bool} {y:Mk1} (e:es[i]?=some y):(es.take (i+1)).filter p=(es.take i).filter p++(if p y=true then[y]else[]):=by
 rw[Qw,e,QB];congr 1;show List.filter p [y]=_;rw[QN];rfl
theorem sift {tc:TT} {Q1:VK} {m l:Addr} (p:Mk1->Bool) (M:MkA t H1 m l es) (le:es.length<50000) (hc:∀y∈es,∀(H2:Hp) (R:Bool->Hp->Prop),H2 y.p=some (.tup [.int y.mo,y.v])->R (p y) H2->tc (some (.ref y.p)::σ) H2 R)
  (q:∀D,H1 D=none->Q1 (.ref D) (upd H1 D (.lst ((es.filter p).map λy=>V.ref y.p)))):rL tc (Ap 0) σ Q1 (Itl K l) H1:=by
 intro D hD;refine gw (K:=K) (a:=l) (xs:=es.map λy=>V.ref y.p) (λi ys H2=>H2=upd H1 D (.lst ys)/\ys=((es.take i).filter p).map λy=>V.ref y.p) ⟨rfl,rfl⟩ (λi ys H2 _ w=>SqL.of (by rw[w.1,ac (ak M.li hD)];exact M.li)) (λi x ys H2 hx w hDD=>?_) (λys H2 w hDD=>?_)
 .have hi:=(Q3.mp hx).1;obtain⟨y,ey,rfl⟩:∃y,es[i]?=some y/\x= .ref y.p:=by
   rw[Qg]at hx;cases e:es[i]? with
   |none=>rw[e]at hx;cases hx
   |some y=>rw[e]at hx;cases hx;exact⟨y,rfl,rfl⟩
  have hy:=Q2 ey;have ty:H2 y.p=some (.tup [.int y.mo,y.v]):=by
   rw[w.1,ac (ak (M.tu y hy) hD)];exact M.tu y hy
  refine hc y hy H2 _ ty ?_;cases c:p y with
  |true=>
   refine bN ⟨_,rfl,CNext.mk hi hDD (bc ?_) ⟨by rw[w.1,cH],?_⟩⟩
   .rw[w.2,Q0];have:=Ql p (es.take i);rw[Qb]at this;lia
   .rw[w.2,yF ey,if_pos c,Qm];rfl
  |false=>
   refine bF (CSkip.mk hi hDD ⟨w.1,?_⟩);rw[w.2,yF ey,if_neg (by rw[c];exact Q7),ZG]
 .rw[w.1,w.2,Q0,QP];exact q D hD
def pK (t:Adr):Sp:=λvs H Q _=>∃(m l:Addr) (es:List Mk1) (fl:Int),vs=[.ref m,.int fl]/\MkA t H m l es/\es.length<50000/\
 ∀(H':Hp) (l':Addr),MkA t H' m l' (swE fl es)->H l'=none->(∀b o,b≠m->H b=some o->H' b=some o)->Q (.int ((es.length:Int)-((swE fl es).length:Int))) H'
theorem pW (T:Txt K mg t):FnOk P w K mg base CX0 1 t.j9 t.gr ["self","floor"] (pK t):=by
 refine T.BN.okl sc_Makes__sweep λ_ _ _ s H vs Q E hr h=>?_;obtain⟨m,l,es,fl,rfl,M,le,q⟩:=h;refine⟨_,(ae (mM (i:=2) rfl (CScope.of (M:=["make"]) (N:=["self","floor","old","stay","thrown"]) (N':=["self","floor","old","stay","thrown"]) (dsc:=aj cr) rfl rfl (by decide+kernel)) (fw (am (pv 0) rfl)) (λ_ _ _ _ _=>(aA mN (aY (uU K rfl) (pv 0) ai (λ_ _=>rfl)) (pv 2) (ay _))) (λ_ _ _ _ _=>(pv 0)) sc_Makes__sweep.nd rfl rfl)
   (ae (mM (i:=3) rfl (CScope.of (M:=["make"]) (N:=["self","floor","old","stay","thrown"]) (N':=["self","floor","old","stay","thrown"]) (dsc:=aj cr) rfl rfl (by decide+kernel)) (fw (am (pv 0) rfl)) (λ_ _ _ _ _=>(aA oU (aY (uU K rfl) (pv 0) ai (λ_ _=>rfl)) (pv 2) (ay _))) (λ_ _ _ _ _=>(pv 0)) sc_Makes__sweep.nd rfl rfl)
   (ae (aQ (PW.pt (fS (aA oU (au aq (by rfl) T.bB aX (aa (pv 2) ag)) ai (ay _)) (dR (aA uD (aY dB (aY aT (pv 2) (tq nQ ai) (λ_ _=>rfl)) ai (λ_ _=>rfl)) dA (ay _)))))
   (ah (aJ (dU Qp X9 Xa oq (pv 3) (aa ai (aa (aY aT (pv 2) (tq nQ ai) (λ_ _=>rfl)) ag)))))
   aF)
   (ae (aG (i:=4) sc_Makes__sweep.nd rfl (Or.inl rfl) (aD jE (au aq (by rfl) T.bB aX (aa (am (pv 0) rfl) ag)) (au aq (by rfl) T.bB aX (aa (pv 3) ag))))
   (ae (bQ (pv 0) (pv 3) rfl)
   (ah (aI (pv 4))))))))
  ,?_⟩
 obtain⟨dx,ho⟩:=M.ob;refine⟨_,rfl,m,_,dx,_,_,rfl,ho,T.eD,T.bZ,rfl,l,rfl,⟨_,SqL.of M.li⟩,sift (λy=>decide (y.mo<=fl)) M le (λy hy H2 R ty hR=>⟨_,rfl,y.p,_,_,_,rfl,rfl,SqT.of ty,rfl,_,rfl,_,_,rfl,rfl,_,rfl,hR⟩) λlo no=>?_⟩;have s1:=al (o:= .lst ((es.filter λy=>decide (y.mo<=fl)).map λy=>V.ref y.p)) no;have hlo:upd H lo (.lst ((es.filter λy=>decide (y.mo<=fl)).map λy=>V.ref y.p)) lo=some (.lst ((es.filter λy=>decide (y.mo<=fl)).map λy=>V.ref y.p)):=af;generalize upd H lo (.lst ((es.filter λy=>decide (y.mo<=fl)).map λy=>V.ref y.p))=H1 at s1 hlo⊢;have M1:=M.same s1;obtain⟨dx1,ho1⟩:=M1.ob;refine⟨_,rfl,m,_,dx1,_,_,rfl,ho1,T.eD,T.bZ,rfl,l,rfl,⟨_,SqL.of M1.li⟩,sift (λy=>decide (fl<y.mo)) M1 le (λy hy H2 R ty hR=>⟨_,rfl,y.p,_,_,_,rfl,rfl,SqT.of ty,rfl,_,rfl,_,_,rfl,rfl,_,rfl,hR⟩) λls ns=>?_⟩;have s2:=al (o:= .lst ((es.filter λy=>decide (fl<y.mo)).map λy=>V.ref y.p)) ns;have hls:upd H1 ls (.lst ((es.filter λy=>decide (fl<y.mo)).map λy=>V.ref y.p)) ls=some (.lst ((es.filter λy=>decide (fl<y.mo)).map λy=>V.ref y.p)):=af;have nls:=Dh s1 ns;generalize upd H1 ls (.lst ((es.filter λy=>decide (fl<y.mo)).map λy=>V.ref y.p))=H2 at s2 hls⊢;have hlo2:=s2 _ _ hlo;have s2:=s1.trans s2;clear s1 hlo ns no ho1 M1;have M2:=M.same s2;have lf:=Ql (λy=>decide (fl<y.mo)) es;unfold jk
 (try dsimp only)
 refine Ej (λσ H3=>σ=[some (.ref m),some (.int fl),some (.ref lo),some (.ref ls),none]/\H3 ls=some (.lst ((swE fl es).map λy=>V.ref y.p))/\∀b o,b≠ls->H2 b=some o->H3 b=some o) (λnx go=>?_) (λσ H3 w=>?_)
 .refine⟨_,rfl,lo,_,rfl,.inl (SqL.of hlo2),_,_,rfl,rfl,_,rfl,?_⟩;rw[Q0];rcases List.eq_nil_or_concat (es.filter λy=>decide (y.mo<=fl))with ee|⟨r,y,ee⟩
  .have es0:swE fl es=es.filter λy=>decide (fl<y.mo):=by unfold swE;rw[ee];rfl
   rw[ee];refine bF (bF (go _ _ ⟨rfl,by rw[es0];exact hls,λb o _ e=>e⟩))
  .have at1:atI ((es.filter λy=>decide (y.mo<=fl)).map λy=>V.ref y.p) (-1)=some (.ref y.p):=by
    rw[ee,ZV,Qm];exact BI _ _
   have hy:y∈es:=(Qt.mp (show y∈es.filter λy=>decide (y.mo<=fl) by rw[ee,ZV];exact Qo _ Qd)).1;have ty:=M2.tu y hy;have gl:(es.filter λy=>decide (y.mo<=fl)).getLast?=some y:=by rw[ee,ZV,List.getLast?_concat]
   refine iH (by rw[ee,ZV,Q9,Qz];lia) ⟨_,rfl,_,rfl,lo,_,_,_,rfl,rfl,SqL.of hlo2,at1,y.p,_,_,_,rfl,rfl,SqT.of ty,rfl,rfl,_,rfl,?_⟩;by_cases c:y.v= .non
   .have es0:swE fl es=es.filter λy=>decide (fl<y.mo):=by unfold swE;rw[gl];exact if_pos c
    rw[decide_eq_true c];exact bF (go _ _ ⟨rfl,by rw[es0];exact hls,λb o _ e=>e⟩)
   .have es0:swE fl es=y::es.filter λy=>decide (fl<y.mo):=by unfold swE;rw[gl];exact if_neg c
    rw[decide_eq_false c];refine bN ⟨_,rfl,.inl ⟨rfl,_,SqL.of hls⟩,_,rfl,_,rfl,lo,_,_,_,rfl,rfl,SqL.of hlo2,at1,ls,_,0,_,rfl,rfl,hls,by decide,by lia,bc (by rw[Q0];lia),?_⟩;exact go _ _ ⟨rfl,by rw[af,es0];rfl,λb o n e=>by rw[ac n];exact e⟩
 .obtain⟨rfl,hls3,k3⟩:=w;have ml:m≠ls:=λz=>by rw[z,nls]at ho;cases ho
  have ll:l≠ls:=λz=>by have:=M.li;rw[z,nls]at this;cases this
  have ho3:=k3 _ _ ml (s2 _ _ ho);have li3:=k3 _ _ ll (s2 _ _ M.li);refine⟨_,rfl,m,_,dx,_,_,rfl,ho3,T.eD,T.bZ,rfl,l,_,rfl,.inl (SqL.of li3),_,rfl,ls,_,rfl,.inl (SqL.of hls3),_,_,rfl,rfl,?_⟩;rw[Q0,Q0];refine⟨_,rfl,_,rfl,m,_,dx,_,rfl,ho3,T.eD,T.bZ,(by show 1<1000;decide),?_⟩;have nb:∀b o,b≠m->H b=some o->upd H3 m (.ins t.cU dx (a6 ("made":Str) (.ref ls) [("made",.ref l)])) b=some o:=λb o n e=>by rw[ac n];exact k3 _ _ (λz=>by rw[z,nls]at e;cases e) (s2 _ _ e)
  refine⟨_,rfl,q _ ls ⟨⟨dx,by rw[af];rfl⟩,by rw[ac ml.symm];exact hls3,λy hy=>?_⟩ nls nb⟩;have:=M.tu y (xW hy);exact nb _ _ (λz=>by rw[z,ho]at this;cases this) this
def aP (es:List Mk1) (mo:Int):V:=match es.reverse.find? (λy=>decide (y.mo<=mo))with
 |none=> .non
 |some y=>y.v
def lJ (t:Adr):Sp:=λvs H Q _=>∃(m l:Addr) (es:List Mk1) (mo:Int),vs=[.ref m,.int mo]/\MkA t H m l es/\Q (aP es mo) H
theorem lQ (T:Txt K mg t):FnOk P w K mg base CX0 1 t.gJ t.d6 ["self","moment"] (lJ t):=by
 refine T.yW.okl sc_Makes__value_at λ_ _ _ s H vs Q E hr h=>?_;obtain⟨m,l,es,mo,rfl,M,q⟩:=h;refine⟨_,(ae (jC PassesOwn.never rfl (AB (by rfl) T.wQ (aa (am (pv 0) rfl) ag)) (eV (i:=2) sc_Makes__value_at.nd rfl (Or.inl rfl))
   (ah (aQ (aA mN (aY dB (pv 2) ai (λ_ _=>rfl)) (pv 1) (ay _))
   (ah (aI (aY dB (pv 2) ai (λ_ _=>rfl))))
   aF)))
   (ah (aI dA)))
  ,?_⟩
 obtain⟨dx,ho⟩:=M.ob;refine⟨_,rfl,m,_,dx,_,_,rfl,ho,T.eD,T.bZ,rfl,l,_,rfl,SqL.of M.li,Di (K:=K) (a:=l) (xs:=es.map λy:Mk1=>V.ref y.p) (λi σ H'=>∃v2:Option V,σ=[some (.ref m),some (.int mo),v2]/\H'=H/\(es.reverse.take i).find? (λy=>decide (y.mo<=mo))=none) ⟨_,rfl,rfl,rfl⟩ (λi σ H' _ w=>by obtain⟨_,_,rfl,_⟩:=w;exact SqL.of M.li) (λi x σ H' hx w=>?_) (λσ H' w=>?_)⟩
 .obtain⟨v2,rfl,rfl,fn⟩:=w;obtain⟨y,ey,rfl⟩:∃y,es.reverse[i]?=some y/\x= .ref y.p:=by
   rw[<-Xe,Qg]at hx;cases e:es.reverse[i]? with
   |none=>rw[e]at hx;cases hx
   |some y=>rw[e]at hx;cases hx;exact⟨y,rfl,rfl⟩
  have ty:=M.tu y (ZD.mp (Q2 ey));have cut:es.reverse=es.reverse.take i++y::es.reverse.drop (i+1):=by
   obtain⟨h,e⟩:=Q3.mp ey;rw[<-e,<-QR h,QA]
  refine⟨_,rfl,y.p,_,_,_,rfl,rfl,SqT.of ty,rfl,_,rfl,_,_,rfl,rfl,_,rfl,?_⟩;by_cases c:y.mo<=mo
  .refine iH c ⟨_,rfl,y.p,_,_,_,rfl,rfl,SqT.of ty,rfl,?_⟩;have e:aP es mo=y.v:=by
    unfold aP;rw[cut,XT,fn,Option.none_or];rw[List.find?_cons_of_pos (by rw[decide_eq_true c])]
   rw[e]at q;exact q
  .refine bJ c ⟨_,rfl,rfl,?_⟩;rw[Qw,ey,XT,fn,Option.none_or];show List.find? _ [y]=none;rw[List.find?_cons_of_neg (by rw[decide_eq_false c];exact Q7)];rfl
 .obtain⟨v2,rfl,rfl,fn⟩:=w;rw[Q0,<-Z1,QP]at fn;have e:aP es mo= .non:=by unfold aP;rw[fn]
  rw[e]at q;exact q
section
theorem SlA.notup (h:SlA K t H a F st) (e:H b=some (.tup xs)):¬F b:=λhb=>by
 obtain⟨d,h1,h2,_⟩:=h;obtain⟨dx,ho⟩:=h1.obj;have no:∀o,H b=some o->(∀ys,o≠ .tup ys)->False:=λo q n=>by rw[e]at q;exact n _ (Option.some.inj q).symm
 rcases(h2 b).mp hb with rfl|rfl|rfl|hb|⟨hs,rfl⟩|hb
 .exact no _ ho (λ_ z=>by cases z)
 .exact no _ h1.tbl (λ_ z=>by cases z)
 .exact no _ h1.row0.lst (λ_ z=>by cases z)
 .obtain⟨_,_,_,_,q⟩:=h1.row0.has hb;exact no _ q (λ_ z=>by cases z)
 .have r1:=h1.row1;cases en:st.nxt with
  |none=>rw[en]at hs;cases hs
  |some m=>rw[en]at r1;exact no _ r1.lst (λ_ z=>by cases z)
 .have r1:=h1.row1;cases en:st.nxt with
  |none=>rw[en]at r1;rw[r1.1]at hb;cases hb
  |some m=>
   rw[en]at r1;obtain⟨_,_,_,_,q⟩:=r1.has hb;exact no _ q (λ_ z=>by cases z)
theorem LvA.notup (h:LvA K t H a F ks) (e:H b=some (.tup xs)):¬F b:=λhb=>by
 obtain⟨L,A,ls,h1,_,_,h2⟩:=h;obtain⟨dx,ho⟩:=h1.obj;have no:∀o,H b=some o->(∀ys,o≠ .tup ys)->False:=λo q n=>by rw[e]at q;exact n _ (Option.some.inj q).symm
 rcases(h2 b).mp hb with rfl|rfl|hb
 .exact no _ ho (λ_ z=>by cases z)
 .exact no _ h1.lst (λ_ z=>by cases z)
 .obtain⟨_,_,_,_,q⟩:=h1.has hb;exact no _ q (λ_ z=>by cases z)
end
structure Pk where
 k:Int
 m:Addr
 l:Addr
 es:List Mk1
structure HSt where
 now:Int
 fl:Int
 ma:Int
 st:SSt
 ks:List Int
 di:List (Addr×List V)
 pa:List Pk
 ho:List (Int×V)
def mkOf:List Pk->Int->List Mk1
 | [],_=> []
 |e::r,k=>if e.k=k then e.es else mkOf r k
def paD (pa:List Pk):List (Int×V):=pa.map λe=>(e.k,V.ref e.m)
def hoF (now fl:Int) (s l w:Addr) (mk:Int) (p h:Addr):List (Str×V):=[("now",.int now),("floor",.int fl),("slots",.ref s),("leaves",.ref l),("written",.ref w),("marks",.int mk),("past",.ref p),("holders",.ref h)]
def NoH (m:Str):Prop:=m≠("now":Str)/\m≠("floor":Str)/\m≠("slots":Str)/\m≠("leaves":Str)/\m≠("written":Str)/\m≠("marks":Str)/\m≠("past":Str)/\m≠("holders":Str)
instance {m:Str}:Decidable (NoH m):=by unfold NoH;infer_instance
section
variable {now now' mk mk':Int} {l w:Addr} {m:Str}
theorem gI:(hoF now fl s l w mk p h).lookup ("now":Str)=some (.int now):=eY
theorem Bl:(hoF now fl s l w mk p h).lookup ("floor":Str)=some (.int fl):=by unfold hoF;rw[bd (by decide+kernel),eY]
theorem xA:(hoF now fl s l w mk p h).lookup ("slots":Str)=some (.ref s):=by unfold hoF;rw[bd (by decide+kernel),bd (by decide+kernel),eY]
theorem Bk:(hoF now fl s l w mk p h).lookup ("leaves":Str)=some (.ref l):=by unfold hoF;rw[bd (by decide+kernel),bd (by decide+kernel),bd (by decide+kernel),eY]
theorem EW:(hoF now fl s l w mk p h).lookup ("written":Str)=some (.ref w):=by unfold hoF;rw[bd (by decide+kernel),bd (by decide+kernel),bd (by decide+kernel),bd (by decide+kernel),eY]
theorem uX:(hoF now fl s l w mk p h).lookup ("past":Str)=some (.ref p):=by unfold hoF;rw[bd (by decide+kernel),bd (by decide+kernel),bd (by decide+kernel),bd (by decide+kernel),bd (by decide+kernel),bd (by decide+kernel),eY]
theorem lZ:(hoF now fl s l w mk p h).lookup ("holders":Str)=some (.ref h):=by unfold hoF;rw[bd (by decide+kernel),bd (by decide+kernel),bd (by decide+kernel),bd (by decide+kernel),bd (by decide+kernel),bd (by decide+kernel),bd (by decide+kernel),eY]
theorem wk (n:NoH m):(hoF now fl s l w mk p h).lookup m=none:=by
 obtain⟨h1,h2,h3,h4,h5,h6,h7,h8⟩:=n;unfold hoF;rw[bd h1,bd h2,bd h3,bd h4,bd h5,bd h6,bd h7,bd h8];rfl
theorem CJ:a6 ("now":Str) (.int now') (hoF now fl s l w mk p h)=hoF now' fl s l w mk p h:=by unfold hoF;rw[a6,if_pos rfl]
theorem En {fl':Int}:a6 ("floor":Str) (.int fl') (hoF now fl s l w mk p h)=hoF now fl' s l w mk p h:=by unfold hoF;rw[a6,if_neg (by decide+kernel),a6,if_pos rfl]
theorem uY:(hoF now fl s l w mk p h).length<1000:=by show 8<1000;decide
end
def Ow (a w p h:Addr) (pa:List Pk):Addr->Prop:=λb=>b=a\/b=w\/b=p\/b=h\/∃e∈pa,b=e.m\/b=e.l
structure HoO (t:Adr) (H:Hp) (a s l w p h:Addr) (x:HSt):Prop where
 ob:∃dx,H a=some (.ins t.aB dx (hoF x.now x.fl s l w x.ma p h))
 wr:H w=some (.lst (x.di.map λe=>V.ref e.1))
 dr:∀e∈x.di,H e.1=some (.tup e.2)
 pa:H p=some (.dK (aE (paD x.pa)))
 ho:H h=some (.dK (aE x.ho))
 mx:∀e∈x.pa,MkA t H e.m e.l e.es
 ph:p≠h
 wl:∀e∈x.pa,e.l≠w
 kd:(x.pa.map (·.k)).Nodup
 md:(x.pa.map (·.m)).Nodup
 ld:(x.pa.map (·.l)).Nodup
theorem p5 {t:TS} (M:St->Hp->Prop) (h1:∀nx,(∀σ' H',M σ' H'->nx σ' H')->t {D with nx:=nx} σ H) (h2:∀σ' H',M σ' H'->u D σ' H'):Cp t u D σ H:=h1 (u D) h2
theorem oB:mX (aE kvs)=(kvs.map (·.1)).map V.int:=by
 unfold mX aE;rw[QD,QD];rfl
theorem dS:a6 f v []=[(f,v)]:=rfl
theorem aS {g:Str} {x:V} {r:List (Str×V)} (n:g≠f):a6 f v ((g,x)::r)=(g,x)::a6 f v r:=by rw[a6,if_neg n]
theorem dZ {H2:Hp} (s:Same H H2) (n:H2 p=none):H p=none:=by
 cases e:H p with
 |none=>rfl
 |some o=>rw[s _ _ e]at n;cases n
theorem xr {f:α->β} {l:List α} (n:(l.map f).Nodup) {x y:α} (hx:x∈l) (hy:y∈l) (e:f x=f y):x=y:=by
 induction l with
 |nil=>cases hx
 |cons z r ih=>
  obtain⟨n1,n2⟩:=QE.mp n;rcases Qj.mp hx with rfl|hx'<;>rcases Qj.mp hy with rfl|hy'
  .rfl
  .exact absurd (Qh.mpr ⟨y,hy',e.symm⟩) n1
  .exact absurd (Qh.mpr ⟨x,hx',e⟩) n1
  .exact ih n2 hx' hy'
section
variable {l w:Addr} {x:HSt} {y:Mk1}
theorem HoO.dom (A:HoO t H a s l w p h x) (hb:Ow a w p h x.pa b):∃o,H b=some o/\∀ys,o≠ .tup ys:=by
 obtain⟨dx,ho⟩:=A.ob;rcases hb with rfl|rfl|rfl|rfl|⟨e,he,rfl|rfl⟩
 .exact⟨_,ho,λ_ z=>by cases z⟩
 .exact⟨_,A.wr,λ_ z=>by cases z⟩
 .exact⟨_,A.pa,λ_ z=>by cases z⟩
 .exact⟨_,A.ho,λ_ z=>by cases z⟩
 .obtain⟨dy,hm⟩:=(A.mx e he).ob;exact⟨_,hm,λ_ z=>by cases z⟩
 .exact⟨_,(A.mx e he).li,λ_ z=>by cases z⟩
theorem HoO.keep (A:HoO t H a s l w p h x) (g:∀b,Ow a w p h x.pa b->H' b=H b) (tp:∀b xs,H b=some (.tup xs)->H' b=some (.tup xs)):HoO t H' a s l w p h x:=
 ⟨A.ob.imp λ_ e=>(g a (.inl rfl)).trans e,(g w (.inr (.inl rfl))).trans A.wr,λe he=>tp _ _ (A.dr e he),(g p (.inr (.inr (.inl rfl)))).trans A.pa,(g h (.inr (.inr (.inr (.inl rfl))))).trans A.ho,
  λe he=>(A.mx e he).keep (g _ (.inr (.inr (.inr (.inr ⟨e,he,.inl rfl⟩))))) (g _ (.inr (.inr (.inr (.inr ⟨e,he,.inr rfl⟩))))) tp,A.ph,A.wl,A.kd,A.md,A.ld⟩
theorem HoO.same (A:HoO t H a s l w p h x) (m:Same H H'):HoO t H' a s l w p h x:=A.keep (λb hb=>by
 obtain⟨o,e,_⟩:=A.dom hb;rw[e];exact m _ _ e) λb xs e=>m _ _ e
theorem HoO.set (A:HoO t H a s l w p h x) {now mk:Int}:HoO t (upd H a (.ins t.aB dx (hoF now fl s l w mk p h))) a s l w p h {x with now:=now,fl:=fl,ma:=mk}:=by
 obtain⟨dy,ho⟩:=A.ob;have n:∀{b:Addr} {o:HO},H b=some o->(∀c d fs,o= .ins c d fs->fs.length=1)->b≠a:=λe i z=>by
  rw[z,ho]at e;have:=i _ _ _ (Option.some.inj e).symm;cases this
 have nt:∀{b:Addr} {o:HO},H b=some o->(∀c d fs,o≠ .ins c d fs)->b≠a:=λe i=>n e λc d fs z=>absurd z (i c d fs);refine⟨⟨dx,af⟩,by rw[ac (nt A.wr λ_ _ _ z=>by cases z)];exact A.wr,λe he=>by rw[ac (nt (A.dr e he) λ_ _ _ z=>by cases z)];exact A.dr e he,by rw[ac (nt A.pa λ_ _ _ z=>by cases z)];exact A.pa,
  by rw[ac (nt A.ho λ_ _ _ z=>by cases z)];exact A.ho,λe he=>?_,A.ph,A.wl,A.kd,A.md,A.ld⟩
 have M:=A.mx e he;obtain⟨dm,hm⟩:=M.ob;exact M.keep (ac (n hm λ_ _ _ z=>by cases z;rfl)) (ac (nt M.li λ_ _ _ z=>by cases z)) λb xs e=>by rw[ac (nt e λ_ _ _ z=>by cases z)];exact e
theorem HoO.row (A:HoO t H a s l w p h x) (hr:H r=some (.tup xs)):HoO t (upd H w (.lst (x.di.map (λe=>V.ref e.1)++ [.ref r]))) a s l w p h {x with di:=x.di++ [(r,xs)]}:=by
 obtain⟨dy,ho⟩:=A.ob;have nt:∀{b:Addr} {o:HO},H b=some o->(∀ys,o≠ .lst ys)->b≠w:=λe i z=>by
  rw[z,A.wr]at e;exact i _ (Option.some.inj e).symm
 refine⟨⟨dy,by rw[ac (nt ho λ_ z=>by cases z)];exact ho⟩,by rw[af,Qm];rfl,λe he=>?_,by rw[ac (nt A.pa λ_ z=>by cases z)];exact A.pa,by rw[ac (nt A.ho λ_ z=>by cases z)];exact A.ho,λe he=>?_,A.ph,A.wl,A.kd,A.md,A.ld⟩
 .rcases Q6.mp he with he|he
  .rw[ac (nt (A.dr e he) λ_ z=>by cases z)];exact A.dr e he
  .rw[Qe.mp he,ac (nt hr λ_ z=>by cases z)];exact hr
 .have M:=A.mx e he;obtain⟨dm,hm⟩:=M.ob;exact M.keep (ac (nt hm λ_ z=>by cases z)) (ac (A.wl e he)) λb xs e=>by rw[ac (nt e λ_ z=>by cases z)];exact e
def paN (pa:List Pk) (k:Int) (y:Mk1):List Pk:=pa.map λe=>if e.k=k then{e with es:=e.es++ [y]}else e
theorem tx {f:Pk->β} (hf:∀e es,f {e with es:=es}=f e):(paN pa k y).map f=pa.map f:=by
 unfold paN;rw[QD];refine Zk λe _=>?_;show f (if e.k=k then _ else e)=_;split
 .exact hf _ _
 .rfl
theorem uB {e:Pk} (h:e∈paN pa k y):∃g∈pa,e.k=g.k/\e.m=g.m/\e.l=g.l/\((g.k=k/\e.es=g.es++ [y])\/(g.k≠k/\e.es=g.es)):=by
 obtain⟨g,hg,rfl⟩:=Qh.mp h;refine⟨g,hg,?_⟩;split
 .rename_i c;exact⟨rfl,rfl,rfl,.inl ⟨c,rfl⟩⟩
 .rename_i c;exact⟨rfl,rfl,rfl,.inr ⟨c,rfl⟩⟩
theorem Eu (hb:Ow a w p h (paN pa k y) b):Ow a w p h pa b:=by
 rcases hb with z|z|z|z|⟨e,he,z⟩
 .exact .inl z
 .exact .inr (.inl z)
 .exact .inr (.inr (.inl z))
 .exact .inr (.inr (.inr (.inl z)))
 .obtain⟨g,hg,_,e2,e3,_⟩:=uB he;rw[e2,e3]at z;exact .inr (.inr (.inr (.inr ⟨g,hg,z⟩)))
theorem HoO.noted (A:HoO t H a s l w p h x) {e:Pk} (he:e∈x.pa) (ek:e.k=k) (M:MkA t H' e.m e.l (e.es++ [y])) (kp:∀b o,b≠e.l->H b=some o->H' b=some o):HoO t H' a s l w p h {x with pa:=paN x.pa k y}:=by
 obtain⟨dy,ho⟩:=A.ob;have hl:=(A.mx e he).li;have nt:∀{b:Addr} {o:HO},H b=some o->(∀ys,o≠ .lst ys)->H' b=some o:=λe i=>kp _ _ (λz=>by
  rw[z,hl]at e;exact i _ (Option.some.inj e).symm) e
 refine⟨⟨dy,nt ho (λ_ z=>by cases z)⟩,kp _ _ (A.wl e he).symm A.wr,λe he=>nt (A.dr e he) (λ_ z=>by cases z),?_,nt A.ho (λ_ z=>by cases z),λf hf=>?_,A.ph,λf hf=>?_,?_,?_,?_⟩
 .show H' p=some (.dK (aE (paD (paN x.pa k y))));unfold paD;rw[tx λ_ _=>rfl];exact nt A.pa λ_ z=>by cases z
 .obtain⟨g,hg,e1,e2,e3,⟨c,e4⟩|⟨c,e4⟩⟩:=uB hf
  .have:g=e:=xr A.kd hg he (c.trans ek.symm);subst this;rw[e2,e3,e4];exact M
  .have M2:=A.mx g hg;obtain⟨dm,hm⟩:=M2.ob;rw[e2,e3,e4];exact M2.keep ((nt hm λ_ z=>by cases z).trans hm.symm) ((kp _ _ (λz=>c (by rw[xr A.ld hg he z];exact ek)) M2.li).trans M2.li.symm) λb xs e=>nt e λ_ z=>by cases z
 .obtain⟨g,hg,_,_,e3,_⟩:=uB hf;rw[e3];exact A.wl g hg
 .show((paN x.pa k y).map (·.k)).Nodup;rw[tx λ_ _=>rfl];exact A.kd
 .show((paN x.pa k y).map (·.m)).Nodup;rw[tx λ_ _=>rfl];exact A.md
 .show((paN x.pa k y).map (·.l)).Nodup;rw[tx λ_ _=>rfl];exact A.ld
theorem p7 (pa:List Pk) (k:Int):(aK (paD pa) k=none/\k∉pa.map (·.k))\/∃e∈pa,e.k=k/\aK (paD pa) k=some (.ref e.m)/\mkOf pa k=e.es:=by
 induction pa with
 |nil=>exact .inl ⟨iy,λz=>by cases z⟩
 |cons e r ih=>
  show(aK ((e.k,V.ref e.m)::paD r) k=none/\_)\/∃g∈e::r,g.k=k/\aK ((e.k,V.ref e.m)::paD r) k=_/\(if e.k=k then e.es else mkOf r k)=_;by_cases c:e.k=k
  .exact .inr ⟨e,Qd,c,a8 c,if_pos c⟩
  .rw[aZ c,if_neg c];rcases ih with⟨i1,i2⟩|⟨g,hg,i1,i2,i3⟩
   .refine .inl ⟨i1,λz=>?_⟩;rw[Qu]at z;rcases Qj.mp z with z|z
    .exact c z.symm
    .exact i2 z
   .exact .inr ⟨g,Qa _ hg,i1,i2,i3⟩
theorem iC:∀{pa:List Pk},k∉pa.map (·.k)->mkOf pa k=[]
 | [],_=>rfl
 |e::r,n=>by
  rw[Qu]at n;show(if e.k=k then e.es else mkOf r k)=[];rw[if_neg λz=>n (by rw[z];exact Qd)];exact iC λz=>n (Qa _ z)
theorem mT {j:Int}:∀{pa:List Pk},k∈pa.map (·.k)->mkOf (paN pa k y) j=if j=k then mkOf pa k++ [y]else mkOf pa j
 |e::r,n=>by
  show(if(if e.k=k then{e with es:=e.es++ [y]}else e:Pk).k=j then(if e.k=k then{e with es:=e.es++ [y]}else e:Pk).es else mkOf (paN r k y) j)=if j=k then(if e.k=k then e.es else mkOf r k)++ [y]else(if e.k=j then e.es else mkOf r j)
  by_cases c:e.k=k
  .rw[if_pos c,if_pos c];show(if e.k=j then e.es++ [y]else mkOf (paN r k y) j)=_;by_cases d:j=k
   .rw[if_pos d,if_pos (c.trans d.symm)]
   .rw[if_neg d,if_neg λz=>d (z.symm.trans c),if_neg λz=>d (z.symm.trans c)];by_cases m:k∈r.map (·.k)
    .rw[mT m,if_neg d]
    .have:paN r k y=r:=by
      unfold paN
      conv=>rhs;rw[<-List.map_id r]
      refine Zk λg hg=>if_neg λz=>m ?_;rw[<-z];exact Qh.mpr ⟨g,hg,rfl⟩
     rw[this]
  .rw[if_neg c,if_neg c];have m:k∈r.map (·.k):=by
    rw[Qu]at n;rcases Qj.mp n with z|z
    .exact absurd z.symm c
    .exact z
   rw[mT m];by_cases d:j=k
   .rw[if_pos d,if_pos d,if_neg λz=>c (z.trans d)]
   .rw[if_neg d,if_neg d]
theorem rg {e:Pk} {j:Int}:∀{pa:List Pk},e.k∉pa.map (·.k)->mkOf (pa++ [e]) j=if j=e.k then e.es else mkOf pa j
 | [],_=>by
  show(if e.k=j then e.es else[])=if j=e.k then e.es else[]
  by_cases c:e.k=j
  .rw[if_pos c,if_pos c.symm]
  .rw[if_neg c,if_neg (Ne.symm c)]
 |g::r,n=>by
  rw[Qu]at n;show(if g.k=j then g.es else mkOf (r++ [e]) j)=if j=e.k then e.es else(if g.k=j then g.es else mkOf r j)
  rw[rg λz=>n (Qa _ z)];by_cases c:g.k=j
  .rw[if_pos c,if_pos c,if_neg λz=>n (by rw[<-z,<-c];exact Qd)]
  .rw[if_neg c,if_neg c]
theorem HoO.newk (A:HoO t H a s l w p h x) {m g:Addr} (nk:k∉x.pa.map (·.k)) (M:MkA t H m g []) (n1:¬Ow a w p h x.pa m) (n2:¬Ow a w p h x.pa g):HoO t (upd H p (.dK (aE (paD x.pa++ [(k,.ref m)])))) a s l w p h {x with pa:=x.pa++ [⟨k,m,g,[]⟩]}:=by
 obtain⟨dy,ho⟩:=A.ob;have nt:∀{b:Addr} {o:HO},H b=some o->(∀ys,o≠ .dK ys)->b≠p:=λe i z=>by
  rw[z,A.pa]at e;exact i _ (Option.some.inj e).symm
 have kp:∀{m' l':Addr} {es:List Mk1} {o:HO},MkA t H m' l' es->MkA t (upd H p o) m' l' es:=λM=>by
  obtain⟨dm,hm⟩:=M.ob;exact M.keep (ac (nt hm λ_ z=>by cases z)) (ac (nt M.li λ_ z=>by cases z)) λb xs e=>by rw[ac (nt e λ_ z=>by cases z)];exact e
 refine⟨⟨dy,by rw[ac (nt ho λ_ z=>by cases z)];exact ho⟩,by rw[ac (nt A.wr λ_ z=>by cases z)];exact A.wr,λe he=>by rw[ac (nt (A.dr e he) λ_ z=>by cases z)];exact A.dr e he,?_,by rw[ac A.ph.symm];exact A.ho,λe he=>?_,A.ph,λe he=>?_,?_,?_,?_⟩
 .rw[af];show _=some (HO.dK (aE (paD (x.pa++ [⟨k,m,g,[]⟩]))));unfold paD;rw[Qm];rfl
 .rcases Q6.mp he with he|he
  .exact kp (A.mx e he)
  .rw[Qe.mp he];exact kp M
 .rcases Q6.mp he with he|he
  .exact A.wl e he
  .rw[Qe.mp he];exact λz=>n2 (.inr (.inl z))
 all_goals
  rw[Qm];refine List.nodup_append.mpr ⟨?_,by simp,λu hu v hv z=>?_⟩
 .exact A.kd
 .cases Qe.mp hv;rw[z]at hu;exact nk hu
 .exact A.md
 .cases Qe.mp hv;obtain⟨e,he,ee⟩:=Qh.mp hu;exact n1 (.inr (.inr (.inr (.inr ⟨e,he,.inl (z.symm.trans ee.symm)⟩))))
 .exact A.ld
 .cases Qe.mp hv;obtain⟨e,he,ee⟩:=Qh.mp hu;exact n2 (.inr (.inr (.inr (.inr ⟨e,he,.inr (z.symm.trans ee.symm)⟩))))
end
structure Noted (pa pa':List Pk) (k:Int) (y:Mk1):Prop where
 of:∀j,mkOf pa' j=if j=k then mkOf pa k++ [y]else mkOf pa j
 ky:pa'.map (·.k)=if k∈pa.map (·.k)then pa.map (·.k)else pa.map (·.k)++ [k]
structure HoB (K:PySem.W.Frag) (t:Adr) (H:Hp) (a s l w p h:Addr) (Fs Fl:Addr->Prop) (x:HSt):Prop where
 o:HoO t H a s l w p h x
 sl:SlA K t H s Fs x.st
 lv:LvA K t H l Fl x.ks
 a1:∀b,Fs b->¬Fl b
 a2:∀b,Ow a w p h x.pa b->¬Fs b
 a3:∀b,Ow a w p h x.pa b->¬Fl b
def HoF (a w p h:Addr) (Fs Fl:Addr->Prop) (pa:List Pk):Addr->Prop:=λb=>Fs b\/Fl b\/Ow a w p h pa b
section
variable {l w:Addr} {Fs Fs' Fl Fl':Addr->Prop} {x:HSt}
theorem HoB.slots (B:HoB K t H a s l w p h Fs Fl x) (S:SlA K t H' s Fs' st) (f:Fr Fs Fs' H H'):HoB K t H' a s l w p h Fs' Fl {x with st:=st}/\Fr (HoF a w p h Fs Fl x.pa) (HoF a w p h Fs' Fl x.pa) H H':=by
 have k1:∀b,Fl b->H' b=H b/\¬Fs' b:=λb hb=>by
  obtain⟨o,e⟩:=B.lv.dom hb;have:=f b o (λz=>B.a1 b z hb) e;exact⟨this.1.trans e.symm,this.2⟩
 have k2:∀b,Ow a w p h x.pa b->H' b=H b/\¬Fs' b:=λb hb=>by
  obtain⟨o,e,_⟩:=B.o.dom hb;have:=f b o (B.a2 b hb) e;exact⟨this.1.trans e.symm,this.2⟩
 have O:=B.o.keep (H':=H') (λb hb=>(k2 b hb).1) λb xs e=>(f b _ (B.sl.notup e) e).1;exact⟨⟨⟨O.ob,O.wr,O.dr,O.pa,O.ho,O.mx,O.ph,O.wl,O.kd,O.md,O.ld⟩,S,B.lv.frame λb hb=>(k1 b hb).1,λb h1 h2=>(k1 b h2).2 h1,λb hb=>(k2 b hb).2,B.a3⟩,λb o n e=>⟨(f b o (λz=>n (.inl z)) e).1,λz=>z.elim (f b o (λz=>n (.inl z)) e).2 λz=>n (.inr z)⟩⟩
theorem HoB.leaves (B:HoB K t H a s l w p h Fs Fl x) (S:LvA K t H' l Fl' ks) (f:Fr Fl Fl' H H'):HoB K t H' a s l w p h Fs Fl' {x with ks:=ks}/\Fr (HoF a w p h Fs Fl x.pa) (HoF a w p h Fs Fl' x.pa) H H':=by
 have k1:∀b,Fs b->H' b=H b/\¬Fl' b:=λb hb=>by
  obtain⟨o,e⟩:=B.sl.dom hb;have:=f b o (B.a1 b hb) e;exact⟨this.1.trans e.symm,this.2⟩
 have k2:∀b,Ow a w p h x.pa b->H' b=H b/\¬Fl' b:=λb hb=>by
  obtain⟨o,e,_⟩:=B.o.dom hb;have:=f b o (B.a3 b hb) e;exact⟨this.1.trans e.symm,this.2⟩
 have O:=B.o.keep (H':=H') (λb hb=>(k2 b hb).1) λb xs e=>(f b _ (B.lv.notup e) e).1;exact⟨⟨⟨O.ob,O.wr,O.dr,O.pa,O.ho,O.mx,O.ph,O.wl,O.kd,O.md,O.ld⟩,B.sl.frame λb hb=>(k1 b hb).1,S,λb h1=>(k1 b h1).2,B.a2,λb hb=>(k2 b hb).2⟩,λb o n e=>⟨(f b o (λz=>n (.inr (.inl z))) e).1,λz=>z.elim (λz=>n (.inl z)) λz=>z.elim (f b o (λz=>n (.inr (.inl z))) e).2 λz=>n (.inr (.inr z))⟩⟩
theorem HoB.own (B:HoB K t H a s l w p h Fs Fl x) (O:HoO t H' a s l w p h x') (e1:x'.st=x.st) (e2:x'.ks=x.ks) (f:Fr (Ow a w p h x.pa) (Ow a w p h x'.pa) H H'):HoB K t H' a s l w p h Fs Fl x'/\Fr (HoF a w p h Fs Fl x.pa) (HoF a w p h Fs Fl x'.pa) H H':=by
 have k1:∀b,Fs b->H' b=H b/\¬Ow a w p h x'.pa b:=λb hb=>by
  obtain⟨o,e⟩:=B.sl.dom hb;have:=f b o (λz=>B.a2 b z hb) e;exact⟨this.1.trans e.symm,this.2⟩
 have k2:∀b,Fl b->H' b=H b/\¬Ow a w p h x'.pa b:=λb hb=>by
  obtain⟨o,e⟩:=B.lv.dom hb;have:=f b o (λz=>B.a3 b z hb) e;exact⟨this.1.trans e.symm,this.2⟩
 exact⟨⟨O,by rw[e1];exact B.sl.frame λb hb=>(k1 b hb).1,by rw[e2];exact B.lv.frame λb hb=>(k2 b hb).1,B.a1,λb h1 h2=>(k1 b h2).2 h1,λb h1 h2=>(k2 b h2).2 h1⟩,λb o n e=>⟨(f b o (λz=>n (.inr (.inr z))) e).1,λz=>z.elim (λz=>n (.inl z)) λz=>z.elim (λz=>n (.inr (.inl z))) (f b o (λz=>n (.inr (.inr z))) e).2⟩⟩
theorem HoB.dom (B:HoB K t H a s l w p h Fs Fl x) (hb:HoF a w p h Fs Fl x.pa b):∃o,H b=some o/\∀ys,o≠ .tup ys:=by
 have no:∀F:Addr->Prop,F b->(∀xs,H b=some (.tup xs)->¬F b)->∀o,H b=some o->∃o,H b=some o/\∀ys,o≠ .tup ys:=λF hF n o e=>⟨o,e,λys z=>n ys (by rw[e,z]) hF⟩;rcases hb with hb|hb|hb
 .obtain⟨o,e⟩:=B.sl.dom hb;exact no Fs hb (λxs e=>B.sl.notup e) o e
 .obtain⟨o,e⟩:=B.lv.dom hb;exact no Fl hb (λxs e=>B.lv.notup e) o e
 .exact B.o.dom hb
theorem HoB.keep (B:HoB K t H a s l w p h Fs Fl x) (g:∀b,HoF a w p h Fs Fl x.pa b->H' b=H b) (tp:∀b xs,H b=some (.tup xs)->H' b=some (.tup xs)):HoB K t H' a s l w p h Fs Fl x:=
 ⟨B.o.keep (λb hb=>g b (.inr (.inr hb))) tp,B.sl.frame λb hb=>g b (.inl hb),B.lv.frame λb hb=>g b (.inr (.inl hb)),B.a1,B.a2,B.a3⟩
end
structure HOk (x:HSt):Prop where
 ks:∀z,z∈x.ks↔(aK x.st.kv z).isSome=true
 n0:0<=x.now
 m0:0<=x.ma
 dl:(x.di.length:Int)=x.now+x.ma
 pl:(x.pa.length:Int)<=x.now
 el:∀j,((mkOf x.pa j).length:Int)<=x.now
 sl:(x.st.kv.length:Int)<=x.now
 hn:(x.ho.map (·.1)).Nodup
 hv:∀p∈x.ho,x.fl<=p.1/\p.1<=x.now/\∃n:Int,p.2= .int n/\0<n
 fb:0<=x.fl/\x.fl<=x.now
 up:∀j,(mkOf x.pa j).Pairwise (λa b=>a.mo<b.mo)/\∀y∈mkOf x.pa j,y.mo<=x.now
def HoA (K:PySem.W.Frag) (t:Adr) (H:Hp) (a:Addr) (F:Addr->Prop) (x:HSt):Prop:=∃s l w p h Fs Fl,HoB K t H a s l w p h Fs Fl x/\HOk x/\∀b,F b↔HoF a w p h Fs Fl x.pa b
section
variable {x:HSt}
theorem HoA.ins (A:HoA K t H a F x):∃dx fs,H a=some (.ins t.aB dx fs)/\(∀m,NoH m->fs.lookup m=none)/\fs.lookup ("now":Str)=some (.int x.now)/\fs.lookup ("floor":Str)=some (.int x.fl):=by
 obtain⟨s,l,w,p,h,Fs,Fl,B,_⟩:=A;obtain⟨dx,e⟩:=B.o.ob;exact⟨dx,_,e,λm hm=>wk hm,gI,Bl⟩
theorem HoA.ok (A:HoA K t H a F x):HOk x:=by
 obtain⟨s,l,w,p,h,Fs,Fl,B,O,_⟩:=A;exact O
theorem HoA.dom (A:HoA K t H a F x) (hb:F b):∃o,H b=some o/\∀ys,o≠ .tup ys:=by
 obtain⟨s,l,w,p,h,Fs,Fl,B,_,g⟩:=A;exact B.dom ((g b).mp hb)
theorem HoA.out (A:HoA K t H a F x) (e:H b=none):¬F b:=λz=>by
 obtain⟨o,q,_⟩:=A.dom z;rw[q]at e;cases e
theorem HoA.keep (A:HoA K t H a F x) (g:∀b,F b->H' b=H b) (tp:∀b xs,H b=some (.tup xs)->H' b=some (.tup xs)):HoA K t H' a F x:=by
 obtain⟨s,l,w,p,h,Fs,Fl,B,O,f⟩:=A;exact⟨s,l,w,p,h,Fs,Fl,B.keep (λb hb=>g b ((f b).mpr hb)) tp,O,f⟩
theorem HoA.same (A:HoA K t H a F x) (m:Same H H'):HoA K t H' a F x:=A.keep (λb hb=>by
 obtain⟨o,e,_⟩:=A.dom hb;rw[e];exact m _ _ e) λb xs e=>m _ _ e
theorem HoA.upd (A:HoA K t H a F x) (n:¬F q) (nt:∀xs,H q≠some (.tup xs)):HoA K t (L2.upd H q o) a F x:=A.keep (λb hb=>ac λz=>n (z▸hb)) λb xs e=>by rw[ac λz=>nt xs (by rw[<-z];exact e)];exact e
end
def qu (t:Adr):Sp:=λvs H Q _=>∃(a s l w p h r:Addr) (k:Int) (x:HSt) (v:V) (xs:List V),vs=[.ref a,.ref r,v]/\HoO t H a s l w p h x/\H r=some (.tup xs)/\atI xs 1=some (.int k)/\x.di.length<50000/\x.pa.length<50000/\(mkOf x.pa k).length<50000/\
 ∀(H':Hp) (pa':List Pk) (q:Addr),HoO t H' a s l w p h {x with now:=x.now+1,di:=x.di++ [(r,xs)],pa:=pa'}->Noted x.pa pa' k ⟨q,x.now+1,v⟩->Fr (Ow a w p h x.pa) (Ow a w p h pa') H H'->Q (.int (x.now+1)) H'
theorem jO (T:Txt K mg t):FnOk P w K mg base CX0 3 t.lG t.ir ["self","row","value"] (qu t):=by
 refine T.Cm.okl sc_House__done λ_ _ _ s H vs Q E hr h=>?_;obtain⟨a,s,l,wr,p,h,r,k,x,v,xs,rfl,A,ht,hk,l1,l2,l3,q⟩:=h;refine⟨_,(ae (aG (i:=3) sc_House__done.nd rfl (Or.inl rfl) (aY dB (pv 1) ai (λ_ _=>rfl)))
   (ae (kr (pv 0) ai xz)
   (ae (aJ (dU Qp Ze Zf eL (am (pv 0) rfl) (aa (pv 1) ag)))
   (ae (aJ (aN (dU QG XY PySem.F.type_dict_setdefault zr (am (pv 0) rfl) (aa (pv 3) (aa (fW T.FJ (qY T) hr.mo (by rfl) T.FM T.B6 .nil az) ag))) T.eD T.BS (qX T) hr.mo T.B0 .nil az (aa (am (pv 0) rfl) (aa (pv 2) ag))))
   (ah (aI (am (pv 0) rfl)))))))
  ,?_⟩
 obtain⟨dx,ho⟩:=A.ob;refine⟨_,rfl,r,_,_,_,rfl,rfl,SqT.of ht,hk,?_⟩;refine⟨_,rfl,a,_,dx,_,_,rfl,ho,T.ao,T.bh,gI,_,_,rfl,rfl,dx,_,ho,uY,?_⟩;rw[CJ];have A1:=A.set (now:=x.now+1) (mk:=x.ma) (fl:=x.fl) (dx:=dx);have o1:∀b o,b≠a->H b=some o->upd H a (.ins t.aB dx (hoF (x.now+1) x.fl s l wr x.ma p h)) b=some o:=λb o n e=>by rw[ac n];exact e
 have ra:r≠a:=λz=>by rw[z,ho]at ht;cases ht
 have ht1:=o1 _ _ ra ht;generalize upd H a (.ins t.aB dx (hoF (x.now+1) x.fl s l wr x.ma p h))=H1 at A1 o1 ht1⊢;obtain⟨dx1,ho1⟩:=A1.ob;refine⟨_,rfl,a,_,dx1,_,_,rfl,ho1,T.ao,T.oo,EW,.inl ⟨rfl,_,SqL.of A1.wr⟩,_,rfl,wr,_,_,rfl,rfl,A1.wr,bc (by rw[Q0];show x.di.length<=_;lia),?_⟩;have A2:=A1.row ht1;have o2:∀b o,¬Ow a wr p h x.pa b->H b=some o->upd H1 wr (.lst (x.di.map (λe=>V.ref e.1)++ [.ref r])) b=some o:=λb o n e=>by rw[ac λz=>n (.inr (.inl z))];exact o1 _ _ (λz=>n (.inl z)) e
 generalize upd H1 wr (.lst (x.di.map (λe=>V.ref e.1)++ [.ref r]))=H2 at A2 o2⊢;obtain⟨dx2,ho2⟩:=A2.ob;refine⟨_,rfl,a,_,dx2,_,_,rfl,ho2,T.ao,T.dn,uX,.inr (.inr (.inl ⟨rfl,.inl ⟨_,A2.pa⟩⟩)),_,rfl,λm dm nm nd nmd=>⟨m,dm,rfl,af,λH4 g M4 ng o4=>⟨rfl,?_⟩⟩⟩;have s3:Same H2 (upd (upd H2 dm (.own m)) m (.ins t.cU dm [])):=cq (al nd) nm;have s4:Same H2 H4:=λb o e=>o4 b o (λz=>by rw[z,nm]at e;cases e) (s3 b o e);have ng2:=dZ s3 ng;have A4:=A2.same s4;have om:¬Ow a wr p h x.pa m:=λz=>by obtain⟨o,e,_⟩:=A2.dom z;rw[nm]at e;cases e
 have og:¬Ow a wr p h x.pa g:=λz=>by obtain⟨o,e,_⟩:=A2.dom z;rw[ng2]at e;cases e
 have o5:∀b o,¬Ow a wr p h x.pa b->H b=some o->H4 b=some o/\b≠m/\b≠g:=λb o n e=>⟨s4 _ _ (o2 b o n e),λz=>(by have:=o2 b o n e;rw[z,nm]at this;cases this),λz=>(by have:=o2 b o n e;rw[z,ng2]at this;cases this)⟩;clear s3 s4 o4 o2 o1 A1 A2 ho2 ho1 ho A ng nm nd nmd ng2 ht1 ht;refine⟨p,_,Sum.inl k,.ref m,rfl,rfl,A4.pa,(by rw[cP];exact bc (by show(paD x.pa).length<=_;unfold paD;rw[Q0];lia)),λu hu=>?A,λhn=>?B⟩
 case' A=>
  have hu:aK (aE (paD x.pa)) (Sum.inl k:Key)=some u:=hu;rw[liftK_val]at hu;obtain⟨e,he,ek,ev,em⟩:∃e∈x.pa,e.k=k/\aK (paD x.pa) k=some (.ref e.m)/\mkOf x.pa k=e.es:=by
   rcases p7 x.pa k with⟨z,_⟩|z
   .rw[z]at hu;cases hu
   .exact z
  rw[ev]at hu;cases hu;obtain⟨pa5,A5,he,N,f5⟩:∃pa5,HoO t H4 a s l wr p h {x with now:=x.now+1,di:=x.di++ [(r,xs)],pa:=pa5}/\e∈pa5/\(∀y,Noted x.pa (paN pa5 k y) k y)/\Fr (Ow a wr p h x.pa) (Ow a wr p h pa5) H H4:=
   ⟨x.pa,A4,he,λy=>⟨λj=>mT (Qh.mpr ⟨e,he,ek⟩),by rw[tx λ_ _=>rfl,if_pos (Qh.mpr ⟨e,he,ek⟩)]⟩,λb o n e=>⟨(o5 b o n e).1,n⟩⟩
  have le:e.es.length<50000:=by rw[<-em];exact l3
  clear A4 em ev o5
 case' B=>
  have hn:aK (aE (paD x.pa)) (Sum.inl k:Key)=none:=hn;rw[liftK_val]at hn;have nk:k∉x.pa.map (·.k):=by
   rcases p7 x.pa k with⟨_,z⟩|⟨e,_,_,z,_⟩
   .exact z
   .rw[z]at hn;cases hn
  have ep:aW (aE (paD x.pa)) (Sum.inl k:Key) (.ref m)=aE (paD x.pa++ [(k,.ref m)]):=by
   rw[eM];unfold aW;rw[cn,hn];rfl
  rw[ep];obtain⟨e,ee,ek,le⟩:∃e:Pk,e=⟨k,m,g,[]⟩/\e.k=k/\e.es.length<50000:=⟨_,rfl,rfl,by show 0<50000;decide⟩;obtain⟨pa5,A5,he,N,f5⟩:∃pa5,HoO t (upd H4 p (.dK (aE (paD x.pa++ [(k,.ref m)])))) a s l wr p h {x with now:=x.now+1,di:=x.di++ [(r,xs)],pa:=pa5}/\e∈pa5/\(∀y,Noted x.pa (paN pa5 k y) k y)/\Fr (Ow a wr p h x.pa) (Ow a wr p h pa5) H (upd H4 p (.dK (aE (paD x.pa++ [(k,.ref m)])))):=by
   refine⟨x.pa++ [e],ee▸A4.newk nk M4 om og,Qo _ Qd,λy=>⟨λj=>?_,?_⟩,λb o n eb=>⟨?_,λz=>?_⟩⟩
   .have nk':e.k∉x.pa.map (·.k):=by rw[ek];exact nk
    rw[mT (by rw[Qm];exact Qo _ (Qe.mpr ek.symm)),rg nk',rg nk',if_pos ek.symm,iC nk,ee];by_cases c:j=k
    .rw[if_pos c,if_pos c]
    .rw[if_neg c,if_neg c,if_neg c]
   .rw[tx λ_ _=>rfl,if_neg nk,Qm,<-ek];rfl
   .rw[ac λz=>n (.inr (.inr (.inl z)))];exact(o5 b o n eb).1
   .rcases z with z|z|z|z|⟨e',he',z⟩
    .exact n (.inl z)
    .exact n (.inr (.inl z))
    .exact n (.inr (.inr (.inl z)))
    .exact n (.inr (.inr (.inr (.inl z))))
    .rcases Q6.mp he' with y|y
     .exact n (.inr (.inr (.inr (.inr ⟨e',y,z⟩))))
     .rw[Qe.mp y,ee]at z;exact z.elim (o5 b o n eb).2.1 (o5 b o n eb).2.2
  have em:V.ref m=V.ref e.m:=by rw[ee]
  clear A4 M4 o5 om og hn nk ep;generalize upd H4 p (.dK (aE (paD x.pa++ [(k,.ref m)])))=H5 at A5 f5⊢;rw[em]
 all_goals
  have M5:=A5.mx e he;obtain⟨dy,hm⟩:=M5.ob;obtain⟨dx5,ho5⟩:=A5.ob;refine⟨e.m,dy,_,rfl,hm,bd (by decide+kernel),_,rfl,a,_,dx5,_,_,rfl,ho5,T.ao,T.bh,gI,_,rfl,e.m,e.l,e.es,_,v,rfl,M5,by lia,λH6 y M6 ny o6=>?_⟩;have A6:=A5.noted he ek M6 o6;obtain⟨dx6,ho6⟩:=A6.ob;refine⟨_,rfl,a,_,dx6,_,_,rfl,ho6,T.ao,T.bh,gI,q _ _ y A6 (N _) (f5.trans λb o n eb=>⟨o6 b o (λz=>n (.inr (.inr (.inr (.inr ⟨e,he,.inr z⟩))))) eb,λz=>n (Eu z)⟩)⟩
def HSt.new:HSt:=⟨0,0,0,SSt.new,[],[],[],[]⟩
theorem HSt.new_ok:HOk HSt.new:=⟨λz=>⟨(λy=>by cases y),(λy=>by cases y)⟩,by decide,by decide,rfl,by decide,λ_=>by show((0:Nat):Int)<=0;decide,by decide,ZC,(λ_ z=>by cases z),by decide,λ_=>⟨List.Pairwise.nil,(λy z=>by cases z)⟩⟩
def qp (K:PySem.W.Frag) (t:Adr):Sp:=λvs H Q _=>∃(a dx:Addr),vs=[.ref a]/\H a=some (.ins t.aB dx [])/\∀H' F,HoA K t H' a F HSt.new->Fr (λb=>b=a) F H H'->Q .non H'
theorem qZ (T:Txt K mg t):FnOk P w K mg base CX0 4 t.lu t.ii ["self"] (qp K t):=by
 refine T.Ci.okl qE λ_ _ _ s H vs Q E hr h=>?_;obtain⟨a,dx,rfl,ha,q⟩:=h;refine⟨_,(ae (bQ (pv 0) ai rfl)
   (ae (bQ (pv 0) ai rfl)
   (ae (bQ (pv 0) (fW T.FI (qV T) hr.mo (by rfl) T.FL T.BY .nil az) rfl)
   (ae (bQ (pv 0) (fW T.zu (jg T) hr.mo (by rfl) T.zx T.rO .nil az) rfl)
   (ae (bQ (pv 0) (eK ag) rfl)
   (ae (bQ (pv 0) ai rfl)
   (ae (bQ (pv 0) jD rfl)
   (ah (bQ (pv 0) jD rfl)))))))))
  ,?_⟩
 refine⟨_,rfl,a,_,dx,[],rfl,ha,T.ao,T.bh,(by show 0<1000;decide),?_⟩;refine⟨_,rfl,a,_,dx,_,rfl,af,T.ao,T.dX,(by show 1<1000;decide),?_⟩
 (try dsimp only)
 have e2:upd (upd H a (.ins t.aB dx (a6 ("now":Str) (.int 0) []))) a (.ins t.aB dx (a6 ("floor":Str) (.int 0) (a6 ("now":Str) (.int 0) []))) a=some (.ins t.aB dx [("now",.int 0),("floor",.int 0)]):=by
  rw[af,dS,aS (by decide+kernel),dS]
 have k2:∀b o,b≠a->H b=some o->upd (upd H a (.ins t.aB dx (a6 ("now":Str) (.int 0) []))) a (.ins t.aB dx (a6 ("floor":Str) (.int 0) (a6 ("now":Str) (.int 0) []))) b=some o:=λb o n e=>by rw[ac n,ac n];exact e
 generalize upd (upd H a (.ins t.aB dx (a6 ("now":Str) (.int 0) []))) a (.ins t.aB dx (a6 ("floor":Str) (.int 0) (a6 ("now":Str) (.int 0) [])))=H2 at e2 k2⊢;refine λs ds ns nds nsd=>⟨s,ds,rfl,af,by rw[ac nsd];exact af,λH3 Fs S3 f3=>⟨rfl,?_⟩⟩;have k3:∀b o,H2 b=some o->H3 b=some o/\¬Fs b:=λb o e=>f3 b o (λz=>z.elim (λz=>by rw[z,ns]at e;cases e) λz=>by rw[z,nds]at e;cases e) (cq (al nds) ns _ _ e);refine⟨_,rfl,a,_,dx,_,rfl,(k3 _ _ e2).1,T.ao,T.fZ,(by show 2<1000;decide),?_⟩
 (try dsimp only)
 have e4:upd H3 a (.ins t.aB dx (a6 ("slots":Str) (.ref s) [("now",.int 0),("floor",.int 0)])) a=some (.ins t.aB dx [("now",.int 0),("floor",.int 0),("slots",.ref s)]):=by
  rw[af,aS (by decide+kernel),aS (by decide+kernel),dS]
 have S4:=S3.upd (o:= .ins t.aB dx (a6 ("slots":Str) (.ref s) [("now",.int 0),("floor",.int 0)])) (k3 _ _ e2).2;have k4:∀b o,b≠a->H b=some o->upd H3 a (.ins t.aB dx (a6 ("slots":Str) (.ref s) [("now",.int 0),("floor",.int 0)])) b=some o/\¬Fs b:=λb o n e=>⟨by rw[ac n];exact(k3 _ _ (k2 b o n e)).1,(k3 _ _ (k2 b o n e)).2⟩;have na:=(k3 _ _ e2).2;clear f3 k3;generalize upd H3 a (.ins t.aB dx (a6 ("slots":Str) (.ref s) [("now",.int 0),("floor",.int 0)]))=H4 at e4 S4 k4⊢;refine λl dl nl ndl nld=>⟨l,dl,rfl,af,by rw[ac nld];exact af,λH5 Fl L5 f5=>⟨rfl,?_⟩⟩;have k5:∀b o,H4 b=some o->H5 b=some o/\¬Fl b:=λb o e=>f5 b o (λz=>z.elim (λz=>by rw[z,nl]at e;cases e) λz=>by rw[z,ndl]at e;cases e) (cq (al ndl) nl _ _ e);refine⟨_,rfl,a,_,dx,_,rfl,(k5 _ _ e4).1,T.ao,T.ji,(by show 3<1000;decide),?_⟩
 (try dsimp only)
 have e6:upd H5 a (.ins t.aB dx (a6 ("leaves":Str) (.ref l) [("now",.int 0),("floor",.int 0),("slots",.ref s)])) a=some (.ins t.aB dx [("now",.int 0),("floor",.int 0),("slots",.ref s),("leaves",.ref l)]):=by
  rw[af,aS (by decide+kernel),aS (by decide+kernel),aS (by decide+kernel),dS]
 have nb:=(k5 _ _ e4).2;have L6:=L5.upd (o:= .ins t.aB dx (a6 ("leaves":Str) (.ref l) [("now",.int 0),("floor",.int 0),("slots",.ref s)])) nb;have S6:=(S4.same λb o e=>(k5 b o e).1).upd (o:= .ins t.aB dx (a6 ("leaves":Str) (.ref l) [("now",.int 0),("floor",.int 0),("slots",.ref s)])) na;have ap:∀b,Fs b->¬Fl b:=λb hb=>by
  obtain⟨o,e⟩:=S4.dom hb;exact(k5 b o e).2
 have k6:∀b o,b≠a->H b=some o->upd H5 a (.ins t.aB dx (a6 ("leaves":Str) (.ref l) [("now",.int 0),("floor",.int 0),("slots",.ref s)])) b=some o/\¬Fs b/\¬Fl b:=λb o n e=>⟨by rw[ac n];exact(k5 _ _ (k4 b o n e).1).1,(k4 b o n e).2,(k5 _ _ (k4 b o n e).1).2⟩;clear f5 k5 k4 S4 L5 k2 e2 e4 S3 ns nds nsd nl ndl nld;generalize upd H5 a (.ins t.aB dx (a6 ("leaves":Str) (.ref l) [("now",.int 0),("floor",.int 0),("slots",.ref s)]))=H6 at e6 S6 L6 k6⊢;refine⟨Qi _,λwr nw=>⟨_,rfl,a,_,dx,_,rfl,al nw _ _ e6,T.ao,T.oo,(by show 4<1000;decide),?_⟩⟩
 (try dsimp only)
 have aw:a≠wr:=ak e6 nw;refine⟨_,rfl,a,_,dx,_,rfl,af,T.ao,T.AO,(by rw[aS (by decide+kernel),aS (by decide+kernel),aS (by decide+kernel),aS (by decide+kernel),dS];show 5<1000;decide),?_⟩
 (try dsimp only)
 rw[aS (f:="written") (by decide+kernel),aS (f:="written") (by decide+kernel),aS (f:="written") (by decide+kernel),aS (f:="written") (by decide+kernel),dS,aS (f:="marks") (by decide+kernel),aS (f:="marks") (by decide+kernel),aS (f:="marks") (by decide+kernel),aS (f:="marks") (by decide+kernel),aS (f:="marks") (by decide+kernel),dS,cH];have⟨H9,eH,e9,w9,k9⟩:∃H9,H9=upd (upd H6 wr (.lst [])) a (.ins t.aB dx [("now",.int 0),("floor",.int 0),("slots",.ref s),("leaves",.ref l),("written",.ref wr),("marks",.int 0)])/\H9 a=some (.ins t.aB dx [("now",.int 0),("floor",.int 0),("slots",.ref s),("leaves",.ref l),("written",.ref wr),("marks",.int 0)])/\H9 wr=some (.lst [])/\∀b o,b≠a->H6 b=some o->H9 b=some o:=
  ⟨_,rfl,af,by rw[ac aw.symm];exact af,λb o n e=>by rw[ac n];exact al nw _ _ e⟩
 rw[<-eH];clear eH;refine λp np=>⟨_,rfl,a,_,dx,_,rfl,al np _ _ e9,T.ao,T.dn,(by show 6<1000;decide),?_⟩
 (try dsimp only)
 rw[aS (by decide+kernel),aS (by decide+kernel),aS (by decide+kernel),aS (by decide+kernel),aS (by decide+kernel),aS (by decide+kernel),dS];have⟨H11,eH,e11,w11,p11,k11⟩:∃H11,H11=upd (upd H9 p (.dK [])) a (.ins t.aB dx [("now",.int 0),("floor",.int 0),("slots",.ref s),("leaves",.ref l),("written",.ref wr),("marks",.int 0),("past",.ref p)])/\H11 a=some (.ins t.aB dx [("now",.int 0),("floor",.int 0),("slots",.ref s),("leaves",.ref l),("written",.ref wr),("marks",.int 0),("past",.ref p)])/\H11 wr=some (.lst [])/\H11 p=some (.dK [])/\∀b o,b≠a->H6 b=some o->H11 b=some o:=
  ⟨_,rfl,af,by rw[ac aw.symm];exact al np _ _ w9,by rw[ac (ak e9 np).symm];exact af,λb o n e=>by rw[ac n];exact al np _ _ (k9 _ _ n e)⟩
 rw[<-eH];clear eH;have pa':p≠a:=(ak e9 np).symm;refine λh nh=>⟨_,rfl,a,_,dx,_,rfl,al nh _ _ e11,T.ao,T.br,(by show 7<1000;decide),?_⟩
 (try dsimp only)
 rw[aS (by decide+kernel),aS (by decide+kernel),aS (by decide+kernel),aS (by decide+kernel),aS (by decide+kernel),aS (by decide+kernel),aS (by decide+kernel),dS];have ha':h≠a:=(ak e11 nh).symm;have k13:∀b o,b≠a->H11 b=some o->upd (upd H11 h (.dK [])) a (.ins t.aB dx (hoF 0 0 s l wr 0 p h)) b=some o:=λb o n e=>by rw[ac n];exact al nh _ _ e
 have g13:∀b o,b≠a->H6 b=some o->upd (upd H11 h (.dK [])) a (.ins t.aB dx (hoF 0 0 s l wr 0 p h)) b=some o:=λb o n e=>k13 b o n (k11 b o n e);have O:HoO t (upd (upd H11 h (.dK [])) a (.ins t.aB dx (hoF 0 0 s l wr 0 p h))) a s l wr p h HSt.new:=⟨⟨dx,af⟩,k13 _ _ aw.symm w11,(λe he=>by cases he),k13 _ _ pa' p11,by rw[ac ha'];exact af,(λe he=>by cases he),ak p11 nh,(λe he=>by cases he),ZC,ZC,ZC⟩;have fresh:∀b,(b=wr\/b=p\/b=h)->H6 b=none:=λb hb=>by
  cases e:H6 b with
  |none=>rfl
  |some o=>
   have na:b≠a:=by
    rcases hb with rfl|rfl|rfl
    .exact aw.symm
    .exact pa'
    .exact ha'
   rcases hb with rfl|rfl|rfl
   .rw[nw]at e;cases e
   .rw[k9 _ _ na e]at np;cases np
   .rw[k11 _ _ na e]at nh;cases nh
 have ow:∀b,Ow a wr p h [] b->b=a\/H6 b=none:=λb hb=>by
  rcases hb with z|z|z|z|⟨e,he,_⟩
  .exact .inl z
  .exact .inr (fresh b (.inl z))
  .exact .inr (fresh b (.inr (.inl z)))
  .exact .inr (fresh b (.inr (.inr z)))
  .cases he
 refine q _ (HoF a wr p h Fs Fl []) ⟨s,l,wr,p,h,Fs,Fl,⟨O,S6.frame λb hb=>?_,L6.frame λb hb=>?_,ap,λb hb z=>?_,λb hb z=>?_⟩,HSt.new_ok,λ_=>Iff.rfl⟩ λb o n e=>?_
 .obtain⟨o,e⟩:=S6.dom hb;rw[e];exact g13 b o (λz=>na (z▸hb)) e
 .obtain⟨o,e⟩:=L6.dom hb;rw[e];exact g13 b o (λz=>nb (z▸hb)) e
 .rcases ow b hb with y|y
  .exact na (y▸z)
  .exact S6.out y z
 .rcases ow b hb with y|y
  .exact nb (y▸z)
  .exact L6.out y z
 .obtain⟨c1,c2,c3⟩:=k6 b o n e;refine⟨g13 b o n c1,λz=>?_⟩;rcases z with z|z|z
  .exact c2 z
  .exact c3 z
  .rcases ow b z with y|y
   .exact n y
   .rw[c1]at y;cases y
theorem HoA.klen {x:HSt} (A:HoA K t H a F x):(x.ks.length:Int)<=x.now:=by
 obtain⟨s,l,w,p,h,Fs,Fl,B,O,_⟩:=A;obtain⟨L,A,ls,_,ok,e,_⟩:=B.lv;have nd:x.ks.Nodup:=by
  rw[<-e];exact List.Pairwise.imp (λh z=>by lia) ok.up
 have:=iB (S:=x.st.kv.map (·.1)) nd λz hz=>mem_keys.mpr ((O.ks z).mp hz);rw[Q0]at this;have:=O.sl;lia
theorem HOk.noted {x:HSt} {y:Mk1} (O:HOk x) (N:Noted x.pa pa' k y):(pa'.length:Int)<=x.now+1/\∀j,((mkOf pa' j).length:Int)<=x.now+1:=by
 constructor
 .have h1:=O.pl;have h2:=congrArg List.length N.ky;rw[Q0]at h2;split at h2
  .rw[Q0]at h2;lia
  .rw[Q9,Q0,Qz]at h2;lia
 .intro j;rw[N.of];split
  .have:=O.el k;rw[Q9,Qz];lia
  .have:=O.el j;lia
theorem HOk.hv1 {x:HSt} (O:HOk x):∀p∈x.ho,x.fl<=p.1/\p.1<=x.now+1/\∃n:Int,p.2= .int n/\0<n:=λp hp=>⟨(O.hv p hp).1,by have:=(O.hv p hp).2.1;lia,(O.hv p hp).2.2⟩
theorem HOk.fb1 {x:HSt} (O:HOk x):0<=x.fl/\x.fl<=x.now+1:=⟨O.fb.1,by have:=O.fb.2;lia⟩
theorem HOk.up1 {x:HSt} {y:Mk1} (O:HOk x) (N:Noted x.pa pa' k y) (e:y.mo=x.now+1):∀j,(mkOf pa' j).Pairwise (λa b=>a.mo<b.mo)/\∀z∈mkOf pa' j,z.mo<=x.now+1:=λj=>by
 rw[N.of];obtain⟨u1,u2⟩:=O.up k;split
 .refine⟨Qk.mpr ⟨u1,ZP _ _,λa ha b hb=>?_⟩,λz hz=>?_⟩
  .rw[Qe.mp hb,e];have:=u2 a ha;lia
  .rcases Q6.mp hz with hz|hz
   .have:=u2 z hz;lia
   .rw[Qe.mp hz,e];exact QV _
 .obtain⟨v1,v2⟩:=O.up j;exact⟨v1,λz hz=>by have:=v2 z hz;lia⟩
def sj (K:PySem.W.Frag) (t:Adr):Sp:=λvs H Q _=>∃(a:Addr) (k i:Int) (F:Addr->Prop) (x:HSt),vs=[.ref a,.int k,.int i]/\HoA K t H a F x/\0<=k/\x.now+x.ma<4000/\
 ∀(H':Hp) (F':Addr->Prop) (ks':List Int) (r q:Addr) (pa':List Pk),HoA K t H' a F' {x with now:=x.now+1,st:=x.st.put k (.int i),ks:=ks',di:=x.di++ [(r,[.str "put",.int k,.int i])],pa:=pa'}->Noted x.pa pa' k ⟨q,x.now+1,.int i⟩->Fr F F' H H'->Q (.int (x.now+1)) H'
theorem kL (T:Txt K mg t):FnOk P w K mg base CX0 5 t.nJ t.je ["self","key","value"] (sj K t):=by
 refine T.Dy.okl su λ_ _ _ s H vs Q E hr h=>?_;obtain⟨a,k,i,F,x,rfl,A,k0,l1,q⟩:=h;refine⟨_,(ae (aQ (iW (bT (aN (am (pv 0) rfl) T.aH T.uO (kK T) hr.mo T.vc .nil az (aa (pv 1) ag))))
   (ah (aJ (aN (am (pv 0) rfl) T.aC T.sD (jK T) hr.mo T.sK .nil az (aa (pv 1) ag))))
   aF)
   (ae (aJ (aN (am (pv 0) rfl) T.aH T.C6 (sA T) hr.mo T.Dt .nil az (aa (pv 1) (aa (pv 2) ag))))
   (ah (aI (aN (pv 0) T.ao T.sF (jO T) hr.mo T.sM .nil az (aa (iX (aa fV (aa (pv 1) (aa (pv 2) ag)))) (aa (pv 2) ag)))))))
  ,?_⟩
 have kl:=A.klen;obtain⟨s,l,wr,p,h,Fs,Fl,B,O,g⟩:=A;have n0:=O.n0;have m0:=O.m0;have sl:=O.sl;obtain⟨dx,ho⟩:=B.o.ob;obtain⟨ds,fs,hs,hm⟩:=B.sl.ins
 (try dsimp only)
 refine p5 (λσ H2=>∃(Fs2 Fl2:Addr->Prop) (ks2:List Int),σ=[some (.ref a),some (.int k),some (.int i)]/\HoB K t H2 a s l wr p h Fs2 Fl2 {x with ks:=ks2}/\(∀z,z∈ks2↔z=k\/z∈x.ks)/\Fr (HoF a wr p h Fs Fl x.pa) (HoF a wr p h Fs2 Fl2 x.pa) H H2) (λnx go=>?_) (λσ H2 w=>?_)
 .refine⟨_,rfl,a,_,dx,_,_,rfl,ho,T.ao,T.fZ,xA,s,ds,fs,rfl,hs,hm _ (by decide+kernel),_,rfl,s,k,Fs,x.st,rfl,B.sl,k0,λH1 Fs1 S1 f1=>?_⟩;obtain⟨B1,g1⟩:=B.slots S1 f1;obtain⟨dx1,ho1⟩:=B1.o.ob;obtain⟨dl,fl,hl,hml⟩:=B1.lv.ins;cases ev:(aK x.st.kv k).isSome with
  |true=>
   refine⟨_,rfl,dC (λc=>?_) (λ_=>?_)⟩
   .cases c
   .exact go _ _ ⟨Fs1,Fl,x.ks,rfl,B1,λz=>⟨.inr,λy=>y.elim (λy=>by rw[y];exact(O.ks k).mpr ev) id⟩,g1⟩
  |false=>
   have nk:k∉x.ks:=λz=>by have:=(O.ks k).mp z;rw[ev]at this;cases this
   refine⟨_,rfl,dC (λ_=>?_) (λc=>?_)⟩
   .refine⟨_,rfl,a,_,dx1,_,_,rfl,ho1,T.ao,T.ji,Bk,l,dl,fl,rfl,hl,hml _ (by decide+kernel),_,rfl,l,k,Fl,x.ks,rfl,B1.lv,by lia,λ_ H2 Fl2 ks2 L2 mem f2=>?_,λz=>absurd z nk⟩;obtain⟨B2,g2⟩:=B1.leaves L2 f2;exact go _ _ ⟨Fs1,Fl2,ks2,rfl,B2,mem,g1.trans g2⟩
   .exact absurd rfl c
 .obtain⟨Fs2,Fl2,ks2,rfl,B2,mem,g2⟩:=w;obtain⟨dx2,ho2⟩:=B2.o.ob;obtain⟨ds2,fs2,hs2,hm2⟩:=B2.sl.ins;refine⟨_,rfl,a,_,dx2,_,_,rfl,ho2,T.ao,T.fZ,xA,s,ds2,fs2,rfl,hs2,hm2 _ (by decide+kernel),_,rfl,_,rfl,s,k,i,Fs2,x.st,rfl,B2.sl,k0,by lia,λH3 Fs3 S3 f3=>?_⟩;obtain⟨B3,g3⟩:=B2.slots S3 f3;obtain⟨dx3,ho3⟩:=B3.o.ob;refine⟨_,rfl,a,dx3,_,rfl,ho3,wk (by decide+kernel),_,rfl,_,rfl,(by show 3<=sizeLine;decide),λr nr=>?_⟩;have s4:=al (o:= .tup [.str "put",.int k,.int i]) nr;have ht:upd H3 r (.tup [.str "put",.int k,.int i]) r=some (.tup [.str "put",.int k,.int i]):=af;have B4:HoB K t (upd H3 r (.tup [.str "put",.int k,.int i])) a s l wr p h Fs3 Fl2 _:=B3.keep (λb hb=>by
   obtain⟨o,e,_⟩:=B3.dom hb;rw[e];exact s4 _ _ e) λb xs e=>s4 _ _ e
  have g4:=(g2.trans g3).trans (Fr.of_same s4);generalize upd H3 r (.tup [.str "put",.int k,.int i])=H4 at B4 ht g4⊢;have dl:=O.dl;have pl:=O.pl;have el:=O.el k;refine⟨_,rfl,a,s,l,wr,p,h,r,k,_,.int i,_,rfl,B4.o,ht,rfl,by show x.di.length<50000;lia,by show x.pa.length<50000;lia,by show(mkOf x.pa k).length<50000;lia,λH5 pa' y O5 N f5=>?_⟩;obtain⟨B5,g5⟩:=B4.own O5 rfl rfl f5;obtain⟨N1,N2⟩:=O.noted N;have ek:(x.st.put k (.int i)).kv=aW x.st.kv k (.int i):=SSt.three_kv;refine q H5 (HoF a wr p h Fs3 Fl2 pa') ks2 r y pa' ⟨s,l,wr,p,h,Fs3,Fl2,B5,⟨λz=>?_,by show 0<=x.now+1;lia,m0,?_,N1,N2,?_,O.hn,O.hv1,O.fb1,O.up1 N rfl⟩,λ_=>Iff.rfl⟩ N ?_
  .show z∈ks2↔(aK (x.st.put k (.int i)).kv z).isSome=true;rw[mem,ek,<-mem_keys,iG,O.ks];split
   .rename_i c
    rw[mem_keys];exact⟨λy=>y.elim (λy=>y▸c) id,.inr⟩
   .rw[Q6,Qe,mem_keys];exact⟨λy=>y.elim .inr .inl,λy=>y.elim .inr .inl⟩
  .show((x.di++ [(r,_)]).length:Int)=x.now+1+x.ma;rw[Q9,Qz];lia
  .show((x.st.put k (.int i)).kv.length:Int)<=x.now+1;rw[ek];have:=dH x.st.kv k (.int i);lia
  .exact λb o n e=>(g4.trans g5) b o (λz=>n ((g b).mpr z)) e
def RsH (K:PySem.W.Frag) (t:Adr) (a:Addr) (F:Addr->Prop) (x:HSt) (H:Hp) (C:Addr) (fs:List (Str×V)) (E:XK):Prop:=
 ∀(ea:Addr) (od:Option Addr) (H':Hp) (F':Addr->Prop),Eb H' ea od C fs->HoA K t H' a F' x->Fr F F' H H'->E (.ref ea) od H'
def qt (K:PySem.W.Frag) (t:Adr):Sp:=λvs H Q E=>∃(a:Addr) (k:Int) (F:Addr->Prop) (x:HSt),vs=[.ref a,.int k]/\HoA K t H a F x/\0<=k/\x.now+x.ma<4000/\
 ((aK x.st.kv k).isSome=true->∀(H':Hp) (F':Addr->Prop) (ks':List Int) (r q:Addr) (pa':List Pk),HoA K t H' a F' {x with now:=x.now+1,st:=x.st.drop k,ks:=ks',di:=x.di++ [(r,[.str "drop",.int k])],pa:=pa'}->Noted x.pa pa' k ⟨q,x.now+1,.non⟩->Fr F F' H H'->Q (.int (x.now+1)) H')/\
 (aK x.st.kv k=none->False)
theorem q5 (T:Txt K mg t):FnOk P w K mg base CX0 6 t.lF t.iq ["self","key"] (qt K t):=by
 refine T.Cl.okl qH λ_ _ _ s H vs Q E hr h=>?_;obtain⟨a,k,F,x,rfl,A,k0,l1,q,qx⟩:=h;refine⟨_,(ae (aJ (aN (am (pv 0) rfl) T.aH T.BR (qW T) hr.mo T.BZ .nil az (aa (pv 1) ag)))
   (ae (aJ (aN (am (pv 0) rfl) T.aC T.yr (lT T) hr.mo T.yP .nil az (aa (pv 1) ag)))
   (ah (aI (aN (pv 0) T.ao T.sF (jO T) hr.mo T.sM .nil az (aa (iX (aa fV (aa (pv 1) ag))) (aa dA ag)))))))
  ,?_⟩
 have kl:=A.klen;obtain⟨s,l,wr,p,h,Fs,Fl,B,O,g⟩:=A;have n0:=O.n0;have m0:=O.m0;have sl:=O.sl;obtain⟨dx,ho⟩:=B.o.ob;obtain⟨ds,fs,hs,hm⟩:=B.sl.ins
 (try dsimp only)
 refine⟨_,rfl,a,_,dx,_,_,rfl,ho,T.ao,T.fZ,xA,s,ds,fs,rfl,hs,hm _ (by decide+kernel),_,rfl,s,k,Fs,x.st,rfl,B.sl,k0,λev=>⟨by lia,λH1 Fs1 S1 f1=>?_⟩,λhn=>(qx hn).elim⟩
 .obtain⟨B1,g1⟩:=B.slots S1 f1;obtain⟨dx1,ho1⟩:=B1.o.ob;obtain⟨dl,fl,hl,hml⟩:=B1.lv.ins;refine⟨_,rfl,a,_,dx1,_,_,rfl,ho1,T.ao,T.ji,Bk,l,dl,fl,rfl,hl,hml _ (by decide+kernel),_,rfl,l,k,Fl,x.ks,rfl,B1.lv,by lia,λ_ H2 Fl2 ks2 L2 mem f2=>?_,λz=>absurd ((O.ks k).mpr ev) z⟩;obtain⟨B3,g3⟩:=B1.leaves L2 f2;obtain⟨dx3,ho3⟩:=B3.o.ob;refine⟨_,rfl,a,dx3,_,rfl,ho3,wk (by decide+kernel),_,rfl,(by show 2<=sizeLine;decide),λr nr=>?_⟩;have s4:=al (o:= .tup [.str "drop",.int k]) nr;have ht:upd H2 r (.tup [.str "drop",.int k]) r=some (.tup [.str "drop",.int k]):=af;have B4:HoB K t (upd H2 r (.tup [.str "drop",.int k])) a s l wr p h Fs1 Fl2 _:=B3.keep (λb hb=>by
   obtain⟨o,e,_⟩:=B3.dom hb;rw[e];exact s4 _ _ e) λb xs e=>s4 _ _ e
  have g4:=(g1.trans g3).trans (Fr.of_same s4);generalize upd H2 r (.tup [.str "drop",.int k])=H4 at B4 ht g4⊢;have dl:=O.dl;have pl:=O.pl;have el:=O.el k;refine⟨a,s,l,wr,p,h,r,k,_,.non,_,rfl,B4.o,ht,rfl,by show x.di.length<50000;lia,by show x.pa.length<50000;lia,by show(mkOf x.pa k).length<50000;lia,λH5 pa' y O5 N f5=>?_⟩;obtain⟨B5,g5⟩:=B4.own O5 rfl rfl f5;obtain⟨N1,N2⟩:=O.noted N;have ek:(x.st.drop k).kv=bi x.st.kv k:=SSt.three_kv;refine q ev H5 (HoF a wr p h Fs1 Fl2 pa') ks2 r y pa' ⟨s,l,wr,p,h,Fs1,Fl2,B5,⟨λz=>?_,by show 0<=x.now+1;lia,m0,?_,N1,N2,?_,O.hn,O.hv1,O.fb1,O.up1 N rfl⟩,λ_=>Iff.rfl⟩ N ?_
  .show z∈ks2↔(aK (x.st.drop k).kv z).isSome=true;rw[mem,ek,bY,O.ks];by_cases c:z=k
   .rw[if_pos c];exact⟨λy=>absurd c y.1,λy=>by cases y⟩
   .rw[if_neg c];exact⟨λy=>y.2,λy=>⟨c,y⟩⟩
  .show((x.di++ [(r,_)]).length:Int)=x.now+1+x.ma;rw[Q9,Qz];lia
  .show((x.st.drop k).kv.length:Int)<=x.now+1;rw[ek];have:(bi x.st.kv k).length<=x.st.kv.length:=Ql _ _;lia
  .exact λb o n e=>(g4.trans g5) b o (λz=>n ((g b).mpr z)) e
def dt (ho:List (Int×V)) (m:Int):Int:=match aK ho m with
 |some (.int n)=>n
 |_=>0
def jS (ho:List (Int×V)) (m:Int):List (Int×V):=aW ho m (.int (dt ho m+1))
def iF (ho:List (Int×V)) (m:Int):List (Int×V):=if dt ho m-1=0 then bi (aW ho m (.int (dt ho m-1))) m else aW ho m (.int (dt ho m-1))
theorem HoO.held {l w:Addr} {x:HSt} (A:HoO t H a s l w p h x) (ho':List (Int×V)):HoO t (upd H h (.dK (aE ho'))) a s l w p h {x with ho:=ho'}:=by
 obtain⟨dy,ho⟩:=A.ob;have nt:∀{b:Addr} {o:HO},H b=some o->(∀ys,o≠ .dK ys)->b≠h:=λe i z=>by
  rw[z,A.ho]at e;exact i _ (Option.some.inj e).symm
 refine⟨⟨dy,by rw[ac (nt ho λ_ z=>by cases z)];exact ho⟩,by rw[ac (nt A.wr λ_ z=>by cases z)];exact A.wr,λe he=>by rw[ac (nt (A.dr e he) λ_ z=>by cases z)];exact A.dr e he,by rw[ac A.ph];exact A.pa,af,λe he=>?_,A.ph,A.wl,A.kd,A.md,A.ld⟩;have M:=A.mx e he;obtain⟨dm,hm⟩:=M.ob;exact M.keep (ac (nt hm λ_ z=>by cases z)) (ac (nt M.li λ_ z=>by cases z)) λb xs e=>by rw[ac (nt e λ_ z=>by cases z)];exact e
theorem yR {kv:List (Int×V)} (h:aK kv k=some v):(k,v)∈kv:=by
 induction kv with
 |nil=>rw[iy]at h;cases h
 |cons p r ih=>
  by_cases e:p.1=k
  .rw[a8 e]at h;cases h;rw[<-e];exact Qd
  .rw[aZ e]at h;exact Qa _ (ih h)
theorem xE (hv:∀p∈ho,∃n:Int,p.2= .int n/\0<n):(aK ho m=none/\dt ho m=0)\/(aK ho m=some (.int (dt ho m))/\0<dt ho m):=by
 unfold dt;cases e:aK ho m with
 |none=>exact .inl ⟨rfl,rfl⟩
 |some v=>
  obtain⟨n,en,n0⟩:=hv _ (yR e);have en:v= .int n:=en;subst en;exact .inr ⟨rfl,n0⟩
theorem rh {p:Int×V} (h:p∈aW ho m v):p∈ho\/p=(m,v):=by
 unfold aW at h;split at h
 .obtain⟨q,hq,rfl⟩:=Qh.mp h;by_cases c:q.1=m
  .rw[if_pos c,<-c];exact .inr rfl
  .rw[if_neg c];exact .inl hq
 .rcases Q6.mp h with h|h
  .exact .inl h
  .exact .inr (Qe.mp h)
def qq (K:PySem.W.Frag) (t:Adr):Sp:=λvs H Q _=>∃(a:Addr) (F:Addr->Prop) (x:HSt),vs=[.ref a]/\HoA K t H a F x/\x.ho.length<50000/\
 ∀(H':Hp) (F':Addr->Prop),HoA K t H' a F' {x with ho:=jS x.ho x.now}->Fr F F' H H'->Q (.int x.now) H'
theorem jM (T:Txt K mg t):FnOk P w K mg base CX0 1 t.lw t.ik ["self"] (qq K t):=by
 refine T.Cj.okl qF λ_ _ _ s H vs Q E hr h=>?_;obtain⟨a,F,x,rfl,A,l1,q⟩:=h;refine⟨_,(ae (p6 (jj hr) (am (pv 0) rfl) (am (pv 0) rfl) (aD bp (dU QG Xo PySem.F.type_dict_get (C3 (jj hr)) (am (pv 0) rfl) (aa (am (pv 0) rfl) (aa ai ag))) ai) rfl)
   (ah (aI (am (pv 0) rfl))))
  ,?_⟩
 obtain⟨s,l,wr,p,h,Fs,Fl,B,O,g⟩:=A;obtain⟨dx,ho⟩:=B.o.ob;have hv:∀p∈x.ho,∃n:Int,p.2= .int n/\0<n:=λp hp=>(O.hv p hp).2.2;have c0:0<=dt x.ho x.now:=by rcases xE (m:=x.now) hv with⟨_,z⟩|⟨_,z⟩<;>lia
 refine⟨_,rfl,a,_,dx,_,_,rfl,ho,T.ao,T.br,lZ,.inr (.inr (.inl ⟨rfl,.inl ⟨_,B.o.ho⟩⟩)),_,rfl,a,_,dx,_,_,rfl,ho,T.ao,T.bh,gI,h,_,_,_,rfl,rfl,DGet.k (k:=Sum.inl x.now) B.o.ho,?_⟩;rw[liftK_val];have eg:(aK x.ho x.now).getD (.int 0)= .int (dt x.ho x.now):=by
  rcases xE (m:=x.now) hv with⟨z,y⟩|⟨z,_⟩
  .rw[z,y];rfl
  .rw[z];rfl
 rw[eg];refine⟨_,_,rfl,rfl,_,rfl,a,_,dx,_,_,rfl,ho,T.ao,T.br,lZ,_,rfl,a,_,dx,_,_,rfl,ho,T.ao,T.bh,gI,h,_,rfl,DPut.k (k:=Sum.inl x.now) B.o.ho (by rw[cP];exact bc (by lia)),?_⟩;rw[eM];have A1:=B.o.held (jS x.ho x.now);obtain⟨B1,f1⟩:=B.own (H':=upd H h (.dK (aE (jS x.ho x.now)))) A1 rfl rfl λb o n e=>⟨by rw[ac λz=>n (.inr (.inr (.inr (.inl z))))];exact e,n⟩;obtain⟨dx1,ho1⟩:=A1.ob;refine⟨_,rfl,a,_,dx1,_,_,rfl,ho1,T.ao,T.bh,gI,q _ F ⟨s,l,wr,p,h,Fs,Fl,B1,⟨O.ks,O.n0,O.m0,O.dl,O.pl,O.el,O.sl,oi O.hn,λy hy=>?_,O.fb,O.up⟩,g⟩ λb o n e=>⟨(f1 b o (λz=>n ((g b).mpr z)) e).1,n⟩⟩;rcases rh hy with hy|rfl
 .exact O.hv y hy
 .exact⟨O.fb.2,QV _,_,rfl,by show 0<dt x.ho x.now+1;lia⟩
def qr (K:PySem.W.Frag) (t:Adr):Sp:=λvs H Q _=>∃(a:Addr) (F:Addr->Prop) (x:HSt),vs=[.ref a]/\HoA K t H a F x/\x.ho.length<4000/\
 ∀(H':Hp) (l:Addr) (ms:List Int),Same H H'->H l=none->H' l=some (.lst (ms.map V.int))->ms.Perm (x.ho.map (·.1))->ms.Pairwise (· <= ·)->Q (.ref l) H'
theorem jN (T:Txt K mg t):FnOk P w K mg base CX0 1 t.lE t.io ["self"] (qr K t):=by
 refine T.Ck.okl qG λ_ _ _ s H vs Q E hr h=>?_;obtain⟨a,F,x,rfl,A,l1,q⟩:=h;refine⟨_,(ah (aI (au (u8 hr.hd) (by rfl) T.qd kB (aa (am (pv 0) rfl) ag))))
  ,?_⟩
 obtain⟨s,l,wr,p,h,Fs,Fl,B,O,g⟩:=A;obtain⟨dx,ho⟩:=B.o.ob;exact⟨_,rfl,a,_,dx,_,_,rfl,ho,T.ao,T.br,lZ,h,_,x.ho.map (·.1),rfl,.inl B.o.ho,oB,λl ms nl pm pw=>q _ l ms (al nl) nl af pm pw⟩
def xb (K:PySem.W.Frag):Sp:=λvs H Q _=>∃(e C:Addr) (bm:List Value) (x:V),vs=[.ref e,x]/\H e=some (XN e C none)/\XCls K C bm/\NoAttr K C "moment"/\∀dx,H dx=none->Q .non (upd (upd H dx (.xd [("moment",x)])) e (XN e C (some dx)))
def my (K:PySem.W.Frag):Sp:=xb K
theorem gF (T:Txt K mg t):FnOk P w K mg base CX0 1 t.eQ t.eP ["self","moment"] (my K):=by
 refine T.zY.okl mF λ_ _ _ s H vs Q E hr h=>?_;obtain⟨e,C,bm,x,rfl,he,Y,na,k⟩:=h;refine⟨_,(ae (aJ (yf (by rfl) T.uN T.mQ (aa (pv 0) (aa fV ag))))
   (ah (ya (pv 0) (pv 1) rfl)))
  ,?_⟩
 exact⟨_,rfl,e,C,none,_,bm,rfl,(by show 1<=1000;decide),he,Y,_,rfl,_,rfl,e,C,bm,rfl,he,Y,na,λdx nd=>k dx nd⟩
theorem n6 {E E':XK} {bm:List Value} {x:V} (Y:XCls K C bm) (na:NoAttr K C "moment") (r:∀(ea:Addr) (od:Option Addr) (H':Hp),Eb H' ea od C [("moment",x)]->Same H H'->E (.ref ea) od H') (hi:σ[i]?=some (some x)):
  Ax K (Aq C (xb K) [] E' (DJ (Ap i) Cr)) E D σ H:=by
 refine⟨x,hi,(by show 1<=1000;decide),λea nea=>⟨ea,C,bm,x,rfl,af,Y,na,λdx nd=>⟨rfl,ea,C,some dx,bm,rfl,af,Y,?_⟩⟩⟩;rw[cH];have ne:dx≠ea:=(ak af nd).symm;have nH:H dx=none:=by rw[ac ne]at nd;exact nd
 refine r ea (some dx) _ ⟨af,.inr ⟨dx,rfl,by rw[ac ne,af]⟩⟩ λb o q=>?_;rw[ac (ak q nea),ac (ak q nH),ac (ak q nea)];exact q
def nU (K:PySem.W.Frag) (t:Adr):Sp:=λvs H Q E=>∃(a:Addr) (m:Int) (F:Addr->Prop) (x:HSt),vs=[.ref a,.int m]/\HoA K t H a F x/\x.ho.length<50000/\
 ((aK x.ho m).isSome=true->∀(H':Hp) (F':Addr->Prop),HoA K t H' a F' {x with ho:=iF x.ho m}->Fr F F' H H'->Q .non H')/\(aK x.ho m=none->RsH K t a F x H t.bE [("moment",.int m)] E)
theorem iA (T:Txt K mg t):FnOk P w K mg base (CX1 P w) 3 t.jn t.fg ["self","moment"] (nU K t):=by
 refine T.z7.okX nV (λvs H Q E h=>?_) (λcdv A outer s H vs Q E hr h=>?_)
 .obtain⟨a,m,F,x,rfl,_⟩:=h;rfl
 .obtain⟨a,m,F,x,rfl,A,l1,q,qx⟩:=h;refine⟨_,(ae (aQ (xi (tw (jj hr) (pv 1) (am (pv 0) rfl)))
   (ah (qM rfl ug (qO T.cf T.uV T.uW (gF T) hr.mo (by rfl) T.oZ T.oO .nil az (aa (pv 1) ag))))
   aF)
   (ae (CL (jj hr) (am (pv 0) rfl) (pv 1) ai Bi (by intros;rfl))
   (ah (aQ (aA bV (yc (jj hr) (am (pv 0) rfl) (pv 1) (λ_ _=>rfl)) ai (ay _))
   (ah (aJ (dU QG ZT Xr uK (am (pv 0) rfl) (aa (pv 1) ag))))
   aF))))
   ,?_⟩
  have A0:=A;obtain⟨s,l,wr,p,h,Fs,Fl,B,O,g⟩:=A;obtain⟨dx,ho⟩:=B.o.ob;have hv:∀p∈x.ho,∃n:Int,p.2= .int n/\0<n:=λp hp=>(O.hv p hp).2.2;refine⟨_,rfl,_,rfl,a,_,dx,_,_,rfl,ho,T.ao,T.br,lZ,h,_,rfl,DGet.k (k:=Sum.inl m) B.o.ho,?_⟩;rw[liftK_val];rcases xE (m:=m) hv with⟨ev,_⟩|⟨ev,n0⟩
  .rw[ev];refine⟨_,rfl,bN ?_⟩;exact n6 T.cf T.fY (λea od H' ex s'=>qx ev ea od H' F ex (A0.same s') (Fr.of_same s')) rfl
  .rw[ev];refine⟨_,rfl,bF ?_⟩;have dg:∀{H1:Hp} {ho1:List (Int×V)} {v:V},H1 h=some (.dK (aE ho1))->aK ho1 m=some v->DGet H1 h (.int m) (some v):=λ{H1 ho1 v} e ev=>by
    have:=DGet.k (k:=Sum.inl m) e;rw[liftK_val,ev]at this;exact this
   refine⟨_,rfl,a,_,dx,_,_,rfl,ho,T.ao,T.br,lZ,_,rfl,h,_,rfl,dg B.o.ho ev,_,_,rfl,rfl,_,DPut.k (k:=Sum.inl m) B.o.ho (by rw[cP];exact bc (by lia)),?_⟩;rw[eM];have A1:=B.o.held (aW x.ho m (.int (dt x.ho m-1)));have g1:aK (aW x.ho m (.int (dt x.ho m-1))) m=some (.int (dt x.ho m-1)):=by rw[cj,if_pos rfl]
   have f1:∀b o,¬Ow a wr p h x.pa b->H b=some o->upd H h (.dK (aE (aW x.ho m (.int (dt x.ho m-1))))) b=some o:=λb o n e=>by rw[ac λz=>n (.inr (.inr (.inr (.inl z))))];exact e
   generalize upd H h (.dK (aE (aW x.ho m (.int (dt x.ho m-1)))))=H1 at A1 f1⊢;obtain⟨dx1,ho1⟩:=A1.ob;have fin:∀{H2:Hp},HoO t H2 a s l wr p h {x with ho:=iF x.ho m}->(∀b o,¬Ow a wr p h x.pa b->H b=some o->H2 b=some o)->Q .non H2:=λ{H2} A2 f2=>by
    obtain⟨B2,g2⟩:=B.own A2 rfl rfl λb o n e=>⟨f2 b o n e,n⟩;refine q (by rw[ev];rfl) H2 F ⟨s,l,wr,p,h,Fs,Fl,B2,⟨O.ks,O.n0,O.m0,O.dl,O.pl,O.el,O.sl,?_,λy hy=>?_,O.fb,O.up⟩,g⟩ λb o n e=>⟨(g2 b o (λz=>n ((g b).mpr z)) e).1,n⟩
    .show((iF x.ho m).map (·.1)).Nodup;unfold iF;split
     .exact(oi O.hn).sublist ((List.filter_sublist).map _)
     .exact oi O.hn
    .have hy:y∈iF x.ho m:=hy;have hmem:=(O.hv _ (yR ev));unfold iF at hy;split at hy
     .rename_i c
      obtain⟨hy1,hy2⟩:=Qt.mp hy;rcases rh hy1 with hy|rfl
      .exact O.hv y hy
      .exact absurd rfl (of_decide_eq_true hy2)
     .rename_i c
      rcases rh hy with hy|rfl
      .exact O.hv y hy
      .exact⟨hmem.1,hmem.2.1,_,rfl,by show 0<dt x.ho m-1;lia⟩
   refine⟨_,rfl,a,_,dx1,_,_,rfl,ho1,T.ao,T.br,lZ,_,rfl,h,_,rfl,dg A1.ho g1,rfl,_,rfl,dC (λc=>?_) (λc=>?_)⟩
   .have c0:dt x.ho m-1=0:=V.int.inj (of_decide_eq_true c);refine⟨_,rfl,a,_,dx1,_,_,rfl,ho1,T.ao,T.br,lZ,.inr (.inr (.inl ⟨rfl,.inl ⟨_,A1.ho⟩⟩)),_,rfl,h,_,Sum.inl m,_,rfl,rfl,A1.ho,liftK_val.trans g1,?_⟩;rw[lX];have A2:=A1.held (bi (aW x.ho m (.int (dt x.ho m-1))) m);refine fin (H2:=upd H1 h (.dK (aE (bi (aW x.ho m (.int (dt x.ho m-1))) m)))) ?_ λb o n e=>by rw[ac λz=>n (.inr (.inr (.inr (.inl z))))];exact f1 b o n e
    have e1:iF x.ho m=bi (aW x.ho m (.int (dt x.ho m-1))) m:=by unfold iF;exact if_pos c0
    rw[e1];exact A2
   .have c0:¬dt x.ho m-1=0:=λz=>c (decide_eq_true (by rw[z]));refine fin ?_ f1;have e1:iF x.ho m=aW x.ho m (.int (dt x.ho m-1)):=by unfold iF;exact if_neg c0
    rw[e1];exact A1
theorem zo {l:List α} {y:α} (h:l.Nodup) (n:y∉l):(l.set i y).Nodup:=by
 induction l generalizing i with
 |nil=>exact h
 |cons x r ih=>
  obtain⟨h1,h2⟩:=QE.mp h;cases i with
  |zero=>exact QE.mpr ⟨λz=>n (Qa _ z),h2⟩
  |succ i=>
   refine QE.mpr ⟨λz=>?_,ih h2 λz=>n (Qa _ z)⟩;rcases Zu z with z|z
   .exact h1 z
   .exact n (by rw[z];exact Qd)
theorem AL {l:List α} {x:α} (h:l.Nodup) (e1:l[i]?=some x) (e2:l[j]?=some x):i=j:=by
 obtain⟨h1,e1⟩:=Q3.mp e1;obtain⟨h2,e2⟩:=Q3.mp e2;rcases(show i<j\/i=j\/j<i by lia)with c|c|c
 .exact absurd (e1.trans e2.symm) (QJ.mp h i j h1 h2 c)
 .exact c
 .exact absurd (e2.trans e1.symm) (QJ.mp h j i h2 h1 c)
theorem lW {f:α->β} {l:List α} {x y:α} (e:l[i]?=some x) (h:f y=f x):(l.set i y).map f=l.map f:=by
 induction l generalizing i with
 |nil=>rfl
 |cons z r ih=>
  cases i with
  |zero=>cases e;show f y::_=f x::_;rw[h]
  |succ i=>show f z::(r.set i y).map f=f z::_;rw[ih e]
theorem HoO.swept {l w l':Addr} {x:HSt} {e:Pk} {es':List Mk1} (A:HoO t H a s l w p h x) (he:x.pa[i]?=some e) (M:MkA t H' e.m l' es') (nl:¬Ow a w p h x.pa l') (kp:∀b o,b≠e.m->H b=some o->H' b=some o):
  HoO t H' a s l w p h {x with pa:=x.pa.set i {e with l:=l',es:=es'}}:=by
 obtain⟨dy,ho⟩:=A.ob;have hm:=Q2 he;obtain⟨dm,hmm⟩:=(A.mx e hm).ob;have nt:∀{b:Addr} {o:HO},H b=some o->(∀c d fs,o= .ins c d fs->fs.length≠1)->H' b=some o:=λeb i=>kp _ _ (λz=>by
  rw[z,hmm]at eb;exact i _ _ _ (Option.some.inj eb).symm rfl) eb
 have n0:∀{b:Addr} {o:HO},H b=some o->(∀c d fs,o≠ .ins c d fs)->H' b=some o:=λeb i=>nt eb λc d fs z=>absurd z (i c d fs);have tp:∀b xs,H b=some (.tup xs)->H' b=some (.tup xs):=λb xs eb=>n0 eb (λ_ _ _ z=>by cases z);refine⟨⟨dy,nt ho (λc d fs z=>by cases z;exact(by decide:(8:Nat)≠1))⟩,n0 A.wr (λ_ _ _ z=>by cases z),λe he=>tp _ _ (A.dr e he),?_,n0 A.ho (λ_ _ _ z=>by cases z),λf hf=>?_,A.ph,λf hf=>?_,?_,?_,?_⟩
 .show H' p=some (.dK (aE (paD (x.pa.set i {e with l:=l',es:=es'}))));unfold paD;rw[lW (y:={e with l:=l',es:=es'}) he rfl];exact n0 A.pa (λ_ _ _ z=>by cases z)
 .obtain⟨j,ej⟩:=List.getElem?_of_mem hf;rw[Qq]at ej;split at ej
  .split at ej
   .cases ej;exact M
   .cases ej
  .rename_i c
   have hf:=Q2 ej;have M2:=A.mx f hf;obtain⟨dm2,hm2⟩:=M2.ob;have nm:f.m≠e.m:=λz=>c (by
    have h1:=(Q3.mp ej).1;have h2:=(Q3.mp he).1;have e1:(x.pa.map (·.m))[j]?=some f.m:=by rw[Qg,ej];rfl
    have e2:(x.pa.map (·.m))[i]?=some e.m:=by rw[Qg,he];rfl
    rw[<-z]at e2;exact AL A.md e2 e1)
   exact M2.keep ((kp _ _ nm hm2).trans hm2.symm) ((n0 M2.li (λ_ _ _ z=>by cases z)).trans M2.li.symm) tp
 .rcases Zu hf with hf|hf
  .exact A.wl f hf
  .rw[hf];exact λz=>nl (.inr (.inl z))
 .show((x.pa.set i {e with l:=l',es:=es'}).map (·.k)).Nodup;rw[lW (y:={e with l:=l',es:=es'}) he rfl];exact A.kd
 .show((x.pa.set i {e with l:=l',es:=es'}).map (·.m)).Nodup;rw[lW (y:={e with l:=l',es:=es'}) he rfl];exact A.md
 .show((x.pa.set i {e with l:=l',es:=es'}).map (·.l)).Nodup;rw[XS];refine zo A.ld λz=>?_;obtain⟨g,hg,eg⟩:=Qh.mp z;exact nl (.inr (.inr (.inr (.inr ⟨g,hg,.inr eg.symm⟩))))
structure SwO (fl:Int) (i:Nat) (pa pa':List Pk):Prop where
 ln:pa'.length=pa.length
 lo:∀(j:Nat) (e e':Pk),pa[j]?=some e->pa'[j]?=some e'->e'.k=e.k/\e'.m=e.m/\(j<i->e'.es=swE fl e.es)/\(i<=j->e'=e)
def thr (fl:Int) (pa:List Pk):Int:=(pa.map λe=>(e.es.length:Int)-((swE fl e.es).length:Int)).sum
theorem SwO.mkOf:∀{pa pa':List Pk} {fl k:Int},SwO fl pa.length pa pa'->mkOf pa' k=swE fl (mkOf pa k)
 | [],[],_,_,_=>rfl
 | [],_::_,_,_,S=>by have:=S.ln;cases this
 |_::_,[],_,_,S=>by have:=S.ln;cases this
 |e::r,e'::r',fl,k,S=>by
  obtain⟨h1,_,h3,_⟩:=S.lo 0 e e' rfl rfl;show(if e'.k=k then e'.es else SW.mkOf r' k)=swE fl (if e.k=k then e.es else SW.mkOf r k);rw[h1,h3 (by rw[Qf];lia)];have S':SwO fl r.length r r':=⟨by have:=S.ln;rw[Qf,Qf]at this;lia,λj f f' ef ef'=>by
   obtain⟨g1,g2,g3,g4⟩:=S.lo (j+1) f f' (by rw[QX];exact ef) (by rw[QX];exact ef');rw[Qf]at g3 g4;exact⟨g1,g2,λz=>g3 (by lia),λz=>g4 (by lia)⟩⟩
  split
  .rfl
  .exact S'.mkOf
theorem Al {e:Pk} (h:pa[i]?=some e):thr fl (pa.take (i+1))=thr fl (pa.take i)+((e.es.length:Int)-((swE fl e.es).length:Int)):=by
 unfold thr;rw[Qw,h,Qm,List.sum_append];show _+(((e.es.length:Int)-((swE fl e.es).length:Int))+0)=_;lia
def pM (K:PySem.W.Frag) (t:Adr):Sp:=λvs H Q _=>∃(a:Addr) (F:Addr->Prop) (x:HSt),vs=[.ref a]/\HoA K t H a F x/\x.ho.length<4000/\x.now<40000/\
 ∀(H':Hp) (F':Addr->Prop) (fl:Int) (pa':List Pk),(x.ho=[]->fl=x.now)->(x.ho≠[]->fl∈x.ho.map (·.1))->(∀p∈x.ho,fl<=p.1)->SwO fl x.pa.length x.pa pa'->HoA K t H' a F' {x with fl:=fl,pa:=pa'}->Fr F F' H H'->Q (.int (thr fl x.pa)) H'
theorem jh (T:Txt K mg t):FnOk P w K mg base CX0 2 t.kf t.gv ["self"] (pM K t):=by
 refine T.BP.okl sc_House__sweep λ_ _ _ s H vs Q E hr h=>?_;obtain⟨a,F,x,rfl,A,l1,l2,q⟩:=h;refine⟨_,(ae (bQ (pv 0) (CT K rfl rfl (by rfl) T.xR (cx (pv 0) T.ao T.kN (jN T) hr.mo T.kU .nil az) (am (pv 0) rfl)) rfl)
   (ae (aG (i:=1) sc_House__sweep.nd rfl (Or.inl rfl) ai)
   (ae (uy (jC PassesOwn.never rfl (CM (qQ QG PySem.F.slot_dict_values PySem.F.type_dict_values zq (am (pv 0) rfl))) (eV (i:=2) sc_House__sweep.nd rfl (Or.inl rfl))
   (ah (xj (i:=1) sc_House__sweep.nd rfl (Or.inl rfl) (aN (pv 2) T.eD T.AW (pW T) hr.mo T.BG .nil az (aa (am (pv 0) rfl) ag)) Bg))))
   (ah (aI (pv 1))))))
  ,?_⟩
 have A0:=A;obtain⟨s,l,wr,p,h,Fs,Fl,B,O,g⟩:=A;obtain⟨dx,ho⟩:=B.o.ob
 (try dsimp only)
 refine p5 (λσ H1=>∃fl:Int,σ=[some (.ref a),none,none]/\(x.ho=[]->fl=x.now)/\(x.ho≠[]->fl∈x.ho.map (·.1))/\(∀p∈x.ho,fl<=p.1)/\HoO t H1 a s l wr p h {x with fl:=fl}/\∀b o,¬Ow a wr p h x.pa b->H b=some o->H1 b=some o) (λnx go=>?_) (λσ H1 w=>?_)
 .refine⟨_,rfl,a,dx,_,rfl,ho,wk (by decide+kernel),a,F,x,rfl,A0,l1,λH1 lm ms s1 nl el pm pw=>?_⟩;have A1:=B.o.same s1;obtain⟨dx1,ho1⟩:=A1.ob;have fin:∀fl:Int,(x.ho=[]->fl=x.now)->(x.ho≠[]->fl∈x.ho.map (·.1))->(∀p∈x.ho,fl<=p.1)->nx [some (.ref a),none,none] (upd H1 a (.ins t.aB dx1 (a6 ("floor":Str) (.int fl) (hoF x.now x.fl s l wr x.ma p h)))):=λfl c1 c2 c3=>by
   rw[En];exact go _ _ ⟨fl,rfl,c1,c2,c3,A1.set (now:=x.now) (mk:=x.ma) (fl:=fl) (dx:=dx1),λb o n e=>by rw[ac λz=>n (.inl z)];exact s1 _ _ e⟩
  refine⟨_,rfl,a,_,dx1,_,_,rfl,ho1,T.ao,T.bh,gI,lm,ms,rfl,SqL.of el,λe0=>?_,λM hM hle=>?_⟩
  .have hn:x.ho=[]:=by
    have:=pm.length_eq;rw[e0,Q0]at this;exact ZQ.mp this.symm
   exact⟨_,rfl,a,_,dx1,_,rfl,ho1,T.ao,T.dX,uY,fin x.now (λ_=>rfl) (λz=>absurd hn z) (λp hp=>by rw[hn]at hp;cases hp)⟩
  .exact⟨_,rfl,a,_,dx1,_,rfl,ho1,T.ao,T.dX,uY,fin M (λz=>by rw[z]at pm;rw[pm.eq_nil]at hM;cases hM) (λ_=>pm.mem_iff.mp hM) (λp hp=>hle _ (pm.mem_iff.mpr (Qh.mpr ⟨p,hp,rfl⟩)))⟩
 obtain⟨fl,rfl,c1,c2,c3,A1,k1⟩:=w;obtain⟨dx1,ho1⟩:=A1.ob;refine⟨p,_,A1.pa,_,rfl,a,_,dx1,_,_,rfl,ho1,T.ao,T.dn,uX,.inr (.inr (.inl ⟨rfl,.inl ⟨_,A1.pa⟩⟩)),p,_,rfl,rfl,A1.pa,λvw nv=>⟨vw,p,_,rfl,af,al nv _ _ A1.pa,λob=>?_⟩⟩;have A2:=A1.same (al (o:=vwV vw p) nv);have k2:∀b o,¬Ow a wr p h x.pa b->H b=some o->upd H1 vw (vwV vw p) b=some o:=λb o n e=>al nv _ _ (k1 b o n e);generalize upd H1 vw (vwV vw p)=H2 at A2 k2⊢;refine Bq (ob:=ob) (d:=p) (kvs:=aE (paD x.pa)) (λi σ H'=>∃(v2:Option V) (pa':List Pk),σ=[some (.ref a),some (.int (thr fl (x.pa.take i))),v2]/\H' p=some (.frz ob (.dK (aE (paD x.pa))))/\HoO t (upd H' p (.dK (aE (paD x.pa)))) a s l wr p h {x with fl:=fl,pa:=pa'}/\SwO fl i x.pa pa'/\∀b o,¬Ow a wr p h x.pa b->H b=some o->H' b=some o/\¬Ow a wr p h pa' b)
  ⟨_,x.pa,rfl,af,?_,⟨rfl,λj e e' h1 h2=>?_⟩,λb o n e=>⟨?_,n⟩⟩ (λi σ H' _ w=>by obtain⟨_,_,_,e,_⟩:=w;exact e) (λi k v σ H' hk w=>?_) (λσ H' w=>?_)
 .rw[cH,qf A2.pa];exact A2
 .rw[h1]at h2;cases h2;exact⟨rfl,rfl,(λz=>by lia),λ_=>rfl⟩
 .rw[ac λz=>n (.inr (.inr (.inl z)))];exact k2 b o n e
 .obtain⟨v2,pa',rfl,hp,A3,S,k3⟩:=w;obtain⟨e,ee,rfl⟩:∃e:Pk,x.pa[i]?=some e/\v= .ref e.m:=by
   unfold aE paD at hk;rw[Qg,Qg]at hk;cases e1:x.pa[i]? with
   |none=>rw[e1]at hk;cases hk
   |some e'=>rw[e1]at hk;cases hk;exact⟨e',rfl,rfl⟩
  have hi:=(Q3.mp ee).1;have ee':pa'[i]?=some e:=by
   obtain⟨y,ey⟩:∃y,pa'[i]?=some y:=⟨_,Q4 (by have:=S.ln;lia)⟩;rw[ey,((S.lo i e y ee ey).2.2.2 (Q5 _))]
  have M3:=A3.mx e (Q2 ee');obtain⟨dm,hm⟩:=M3.ob;have np:∀{b:Addr} {o:HO},upd H' p (.dK (aE (paD x.pa))) b=some o->(∀kvs,o≠ .dK kvs)->H' b=some o/\b≠p:=λ{b o} e n=>by
   by_cases c:b=p
   .rw[c,af]at e;exact absurd (Option.some.inj e).symm (n _)
   .rw[ac c]at e;exact⟨e,c⟩
  have M4:MkA t H' e.m e.l e.es:=⟨⟨dm,(np hm (λ_ z=>by cases z)).1⟩,(np M3.li (λ_ z=>by cases z)).1,λy hy=>(np (M3.tu y hy) (λ_ z=>by cases z)).1⟩;obtain⟨dx3,ho3⟩:=A3.ob;have le:e.es.length<50000:=by
   have h1:=O.el e.k;have h2:mkOf x.pa e.k=e.es:=by
    rcases p7 x.pa e.k with⟨_,z⟩|⟨e',he',ek',_,em⟩
    .exact absurd (Qh.mpr ⟨e,Q2 ee,rfl⟩) z
    .rw[em,xr B.o.kd he' (Q2 ee) ek']
   rw[h2]at h1;lia
  refine⟨_,rfl,_,rfl,e.m,dm,_,rfl,(np hm (λ_ z=>by cases z)).1,bd (by decide+kernel),_,rfl,a,_,dx3,_,_,rfl,(np ho3 (λ_ z=>by cases z)).1,T.ao,T.dX,Bl,e.m,e.l,e.es,fl,rfl,M4,le,λH5 l5 M5 n5 k5=>⟨_,_,rfl,rfl,?_⟩⟩;have pm:p≠e.m:=(np hm (λ_ z=>by cases z)).2.symm;have hp5:=k5 _ _ pm hp;have np5:∀{b:Addr} {o:HO} {u:HO},H5 b=some o->(∀ob kv,o≠ .frz ob kv)->upd H5 p u b=some o:=λ{b o u} e n=>by
   rw[ac λz=>by rw[z,hp5]at e;exact n _ _ (Option.some.inj e).symm];exact e
  have l5p:l5≠p:=λz=>by rw[z,hp]at n5;cases n5
  have nl:¬Ow a wr p h pa' l5:=λz=>by
   obtain⟨o,eo,_⟩:=A3.dom z;rw[ac l5p,n5]at eo;cases eo
  have kp:∀b o,b≠e.m->upd H' p (.dK (aE (paD x.pa))) b=some o->upd H5 p (.dK (aE (paD x.pa))) b=some o:=λb o n eb=>by
   by_cases c:b=p
   .rw[c,af]at eb⊢;exact eb
   .rw[ac c]at eb⊢;exact k5 b o n eb
  have A6:=A3.swept (es':=swE fl e.es) ee' ⟨M5.ob.imp λ_ z=>np5 z (λ_ _ z=>by cases z),np5 M5.li (λ_ _ z=>by cases z),λy hy=>np5 (M5.tu y hy) (λ_ _ z=>by cases z)⟩ nl kp;refine⟨some (.ref e.m),pa'.set i {e with l:=l5,es:=swE fl e.es},?_,hp5,A6,⟨by rw[QF];exact S.ln,λj f f' ef ef'=>?_⟩,λb o n eb=>⟨?_,λz=>?_⟩⟩
  .rw[Al ee];rfl
  .rw[Qq]at ef';split at ef'
   .rename_i cij
    subst cij;split at ef'
    .cases ef';rw[ee]at ef;cases ef;exact⟨rfl,rfl,λ_=>rfl,λz=>by lia⟩
    .cases ef'
   .rename_i cij
    obtain⟨g1,g2,g3,g4⟩:=S.lo j f f' ef ef';exact⟨g1,g2,λz=>g3 (by lia),λz=>g4 (by lia)⟩
  .refine k5 b o (λz=>n ?_) (k3 b o n eb).1;exact .inr (.inr (.inr (.inr ⟨e,Q2 ee,.inl z⟩)))
  .rcases z with z|z|z|z|⟨f,hf,z⟩
   .exact n (.inl z)
   .exact n (.inr (.inl z))
   .exact n (.inr (.inr (.inl z)))
   .exact n (.inr (.inr (.inr (.inl z))))
   .rcases Zu hf with hf|hf
    .exact(k3 b o n eb).2 (.inr (.inr (.inr (.inr ⟨f,hf,z⟩))))
    .rw[hf]at z;rcases z with z|z
     .exact n (.inr (.inr (.inr (.inr ⟨e,Q2 ee,.inl z⟩))))
     .have:=(k3 b o n eb).1;rw[z,n5]at this;cases this
 .obtain⟨v2,pa',rfl,hp,A3,S,k3⟩:=w;have ll:(aE (paD x.pa)).length=x.pa.length:=by rw[cP];unfold paD;exact Q0 _
  rw[ll]at S;rw[ll,QP];refine⟨ob,hp,_,rfl,?_⟩;obtain⟨B3,g3⟩:=B.own A3 rfl rfl λb o n eb=>⟨by rw[ac λz=>n (.inr (.inr (.inl z)))];exact(k3 b o n eb).1,(k3 b o n eb).2⟩;refine q _ (HoF a wr p h Fs Fl pa') fl pa' c1 c2 c3 S ⟨s,l,wr,p,h,Fs,Fl,B3,⟨O.ks,O.n0,O.m0,O.dl,?_,λj=>?_,O.sl,O.hn,λy hy=>⟨c3 y hy,(O.hv y hy).2⟩,?_,λj=>?_⟩,λ_=>Iff.rfl⟩ λb o n eb=>g3 b o (λz=>n ((g b).mpr z)) eb
  .show(pa'.length:Int)<=x.now;rw[S.ln];exact O.pl
  .show((mkOf pa' j).length:Int)<=x.now;rw[S.mkOf];have h1:=O.el j;have h2:=Cu (fl:=fl) (es:=mkOf x.pa j);lia
  .show 0<=fl/\fl<=x.now;have n0:=O.n0;have fb:=O.fb;cases eh:x.ho with
   |nil=>rw[c1 eh];lia
   |cons y r=>
    have hm:=c2 (by rw[eh];exact List.cons_ne_nil _ _);obtain⟨z,hz,ez⟩:=Qh.mp hm;have:=O.hv z hz;lia
  .show(mkOf pa' j).Pairwise _/\∀y∈mkOf pa' j,y.mo<=x.now;rw[S.mkOf];exact⟨Eh (O.up j).1,λy hy=>(O.up j).2 y (xW hy)⟩
def pJ (K:PySem.W.Frag):Sp:=xb K
theorem pV (T:Txt K mg t):FnOk P w K mg base CX0 1 t.gx t.gj ["self","moment"] (pJ K):=by
 refine T.BM.okl pP λ_ _ _ s H vs Q E hr h=>?_;obtain⟨e,C,bm,x,rfl,he,Y,na,k⟩:=h;refine⟨_,(ae (aJ (yf (by rfl) T.uN T.mQ (aa (pv 0) (aa fV ag))))
   (ah (ya (pv 0) (pv 1) rfl)))
  ,?_⟩
 exact⟨_,rfl,e,C,none,_,bm,rfl,(by show 1<=1000;decide),he,Y,_,rfl,_,rfl,e,C,bm,rfl,he,Y,na,λdx nd=>k dx nd⟩
def VtR (t:Adr) (H:Hp) (a:Addr) (pa:List Pk):Prop:=∃(dx p:Addr) (fs:List (Str×V)),H a=some (.ins t.aB dx fs)/\fs.lookup ("past":Str)=some (.ref p)/\(∀m,NoH m->fs.lookup m=none)/\Rd H p (.dK (aE (paD pa)))/\∀e∈pa,MkA t H e.m e.l e.es
theorem HoA.vt {x:HSt} (A:HoA K t H a F x):VtR t H a x.pa:=by
 obtain⟨s,l,wr,p,h,Fs,Fl,B,O,g⟩:=A;obtain⟨dx,ho⟩:=B.o.ob;exact⟨dx,p,_,ho,uX,λm hm=>wk hm,.inl B.o.pa,B.o.mx⟩
def js (t:Adr):Sp:=λvs H Q _=>∃(a:Addr) (k mo:Int) (pa:List Pk),vs=[.ref a,.int k,.int mo]/\VtR t H a pa/\Q (aP (mkOf pa k) mo) H
theorem jL (T:Txt K mg t):FnOk P w K mg base CX0 2 t.fu t.dh ["self","key","moment"] (js t):=by
 refine T.wP.okl jt λ_ _ _ s H vs Q E hr h=>?_;obtain⟨a,k,mo,pa,rfl,⟨dx,p,fs,ho,fp,_,rp,mx⟩,q⟩:=h;refine⟨_,(ah (aI (AF (xi (AG (jj hr) (pv 1) (am (pv 0) rfl))) (aN (yc (jj hr) (am (pv 0) rfl) (pv 1) (λ_ _=>rfl)) T.eD T.yp (lQ T) hr.mo T.yN .nil az (aa (pv 2) ag)) dA)))
  ,?_⟩
 have dg:DGet H p (.int k) (aK (aE (paD pa)) (Sum.inl k)):= .inl ⟨_,Sum.inl k,rp,rfl,rfl⟩;refine⟨_,rfl,_,rfl,a,_,dx,_,_,rfl,ho,T.ao,T.dn,fp,p,_,rfl,dg,_,rfl,?_⟩;rw[liftK_val]at dg⊢;rcases p7 pa k with⟨ev,n⟩|⟨e,he,ek,ev,em⟩
 .rw[iC n]at q;rw[ev];exact bF q
 .rw[em]at q;rw[ev]at dg⊢;have M:=mx e he;obtain⟨dm,hm⟩:=M.ob;exact bN ⟨_,rfl,a,_,dx,_,_,rfl,ho,T.ao,T.dn,fp,_,rfl,p,_,rfl,dg,e.m,dm,_,rfl,hm,bd (by decide+kernel),_,rfl,e.m,e.l,e.es,mo,rfl,M,q⟩
def gN (K:PySem.W.Frag) (t:Adr):Sp:=λvs H Q E=>∃(a:Addr) (mo:Int) (F:Addr->Prop) (x:HSt),vs=[.ref a,.int mo]/\HoA K t H a F x/\(x.fl<=mo->mo<=x.now->Q .non H)/\(mo<x.fl->RsH K t a F x H t.cE [("moment",.int mo)] E)/\(x.fl<=mo->x.now<mo->RsH K t a F x H t.bE [("moment",.int mo)] E)
theorem g8 (T:Txt K mg t):FnOk P w K mg base (CX1 P w) 3 t.dI t.bR ["self","moment"] (gN K t):=by
 refine T.uf.okX gO (λvs H Q E h=>?_) (λcdv A outer s H vs Q E hr h=>?_)
 .obtain⟨a,mo,F,x,rfl,_⟩:=h;rfl
 .obtain⟨a,mo,F,x,rfl,A,q,q1,q2⟩:=h;refine⟨_,(ae (aQ (aA eF (pv 1) (am (pv 0) rfl) (ay _))
   (ah (qM rfl ug (qO T.km T.ET T.EU (pV T) hr.mo (by rfl) T.zw T.BF .nil az (aa (pv 1) ag))))
   aF)
   (ah (aQ (aA oU (pv 1) (am (pv 0) rfl) (ay _))
   (ah (qM rfl ug (qO T.cf T.uV T.uW (gF T) hr.mo (by rfl) T.oZ T.oO .nil az (aa (pv 1) ag))))
   aF)))
   ,?_⟩
  obtain⟨dx,fs,hi,hm,hn,hf⟩:=A.ins;refine⟨_,rfl,_,rfl,a,_,dx,fs,_,rfl,hi,T.ao,T.dX,hf,_,_,rfl,rfl,_,rfl,?_⟩;by_cases c:mo<x.fl
  .refine iH c ?_;exact n6 T.km T.oj (λea od H' ex s'=>q1 c ea od H' F ex (A.same s') (Fr.of_same s')) rfl
  .refine bJ c ?_;refine⟨_,rfl,_,rfl,a,_,dx,fs,_,rfl,hi,T.ao,T.bh,hn,_,_,rfl,rfl,_,rfl,?_⟩;by_cases d:x.now<mo
   .refine iH d ?_;exact n6 T.cf T.fY (λea od H' ex s'=>q2 (by lia) d ea od H' F ex (A.same s') (Fr.of_same s')) rfl
   .exact bJ d (q (by lia) (by lia))
def TkA (t:Adr) (H:Hp) (p:Addr) (up:Bool) (a e:V):Prop:=∃dx fs,H p=some (.ins (if up=true then t.cR else t.ba) dx fs)/\xL (if up=true then "up" else "down") fs a e/\if up=true then okU a e else okD a e
def oX (up:Bool) (a:V) (ks:List Int):List Int:=match up,a with
 |true,.int i=>ks.filter λz=>decide (i<=z)
 |false,.int i=>ks.reverse.filter (dJ (some i))
 |_,_=>ks.reverse.filter (dJ none)
def uh (K:PySem.W.Frag) (t:Adr):Sp:=λvs H Q _=>∃(l p:Addr) (n:Int) (up:Bool) (a e:V) (F:Addr->Prop) (ks:List Int),vs=[.ref l,.ref p,.int n]/\LvA K t H l F ks/\TkA t H p up a e/\ks.length<4096/\0<=n/\
 ∀(H':Hp) (r:Addr),Same H H'->H r=none->H' r=some (.lst (((oX up a ks).take n.toNat).map V.int))->Q (.ref r) H'
theorem uF (T:Txt K mg t):FnOk P w K mg base CX0 3 t.pf t.jT ["leaves","token","most"] (uh K t):=by
 refine T.wF.okl ur λ_ _ _ s H vs Q E hr h=>?_;obtain⟨l,p,n,up,a,e,F,ks,rfl,L,TK,l1,n0,q⟩:=h;refine⟨_,(ae (aQ (bT (au (bU K rfl) (by rfl) T.bG bf (aa (pv 1) (aa (cM (v:= .ref t.cR) (by rfl) T.oY rfl) ag))))
   (ah (aI (aN (pv 0) T.aC T.yq (lR T) hr.mo T.yO .nil az (aa (am (pv 1) rfl) (aa (pv 2) ag)))))
   aF)
   (ah (aI (aN (pv 0) T.aC T.wK (jJ T) hr.mo T.wM .nil az (aa (am (pv 1) rfl) (aa (pv 2) ag))))))
  ,?_⟩
 obtain⟨dx,fs,hp,tf,ok⟩:=TK;obtain⟨dl,fl,hl,hm⟩:=L.ins;cases up with
 |true=>
  have hp:H p=some (.ins t.cR dx fs):=hp;obtain⟨i,rfl,i0,_⟩:=(show okU a e from ok);exact⟨_,rfl,_,_,_,_,rfl,TyOf.ins hp T.du T.cc.1 T.cc.2 T.cc.3 T.cc.4,T.mW,_,rfl,bN ⟨_,rfl,l,dl,fl,rfl,hl,hm _ (by decide+kernel),_,rfl,p,_,dx,fs,_,rfl,hp,T.du,T.jP,tf.at_,_,rfl,l,i,n,F,ks,rfl,L,l1,n0,q⟩⟩
 |false=>
  have hp:H p=some (.ins t.ba dx fs):=hp;obtain⟨j,rfl,j0,ha⟩:=(show okD a e from ok);refine⟨_,rfl,_,_,_,_,rfl,TyOf.ins hp T.bx T.bg.1 T.bg.2 T.bg.3 T.bg.4,T.lY,_,rfl,bF ⟨_,rfl,l,dl,fl,rfl,hl,hm _ (by decide+kernel),_,rfl,p,_,dx,fs,_,rfl,hp,T.bx,T.cy,tf.at_,_,rfl,?_⟩⟩;rcases ha with rfl|⟨i,rfl,_⟩
  .exact⟨l,none,n,F,ks,rfl,L,l1,n0,q⟩
  .exact⟨l,some i,n,F,ks,rfl,L,l1,n0,q⟩
def pF (t:Adr):Sp:=λvs H Q _=>∃(p:Addr) (up:Bool) (a e:V) (k:Int),vs=[.ref p,.int k]/\TkA t H p up a e/\(if up=true then okU (.int (k+1)) e else okD (.int (k-1)) e)/\
 ∀(H':Hp) (r:Addr),Same H H'->H r=none->TkA t H' r up (.int (if up=true then k+1 else k-1)) e->Q (.ref r) H'
theorem pR (T:Txt K mg t):FnOk P w K mg base CX0 5 t.j5 t.gc ["token","key"] (pF t):=by
 refine T.rX.okl pN λ_ _ _ s H vs Q E hr h=>?_;obtain⟨p,up,a,e,k,rfl,TK,ok2,q⟩:=h;refine⟨_,(ae (aQ (bT (au (bU K rfl) (by rfl) T.bG bf (aa (pv 0) (aa (cM (v:= .ref t.cR) (by rfl) T.oY rfl) ag))))
   (ah (aI (kt T.AR (oW T) hr.mo (by rfl) T.oY T.xJ .nil az (aa (aD bp (pv 1) ai) (aa (am (pv 0) rfl) ag)))))
   aF)
   (ah (aI (kt T.uM (kM T) hr.mo (by rfl) T.mU T.ve .nil az (aa (aD jE (pv 1) ai) (aa (am (pv 0) rfl) ag))))))
  ,?_⟩
 obtain⟨dx,fs,hp,tf,ok⟩:=TK;have kp:∀{H1 H':Hp} {r:Addr},Same H H1->H r=none->Keep r H1 H'->Same H H':=λs n k b o e=>k b o (s b o e) λz=>by rw[z,n]at e;cases e
 cases up with
 |true=>
  have hp:H p=some (.ins t.cR dx fs):=hp;have ok2:okU (.int (k+1)) e:=ok2;have se:Sc e:=by
   obtain⟨_,_,_,he|⟨j,he,_⟩⟩:=ok2
   .rw[he];exact True.intro
   .rw[he];exact T0 _
  refine⟨_,rfl,_,_,_,_,rfl,TyOf.ins hp T.du T.cc.1 T.cc.2 T.cc.3 T.cc.4,T.mW,_,rfl,bN ⟨_,rfl,_,_,rfl,rfl,_,rfl,p,_,dx,fs,_,rfl,hp,T.du,T.cO,tf.end_,λr dr nr nd nrd=>⟨r,dr,_,_,rfl,af,T0 _,se,λ_ H' fs' kp' h' tf'=>⟨rfl,?_⟩,λz=>absurd ok2 z⟩⟩⟩;exact q H' r (kp (cq (al nd) nr) nr kp') nr ⟨dr,fs',h',tf',ok2⟩
 |false=>
  have hp:H p=some (.ins t.ba dx fs):=hp;have ok2:okD (.int (k-1)) e:=ok2;have se:Sc e:=by
   obtain⟨_,he,_⟩:=ok2;rw[he];exact T0 _
  refine⟨_,rfl,_,_,_,_,rfl,TyOf.ins hp T.bx T.bg.1 T.bg.2 T.bg.3 T.bg.4,T.lY,_,rfl,bF ⟨_,rfl,_,_,rfl,rfl,_,rfl,p,_,dx,fs,_,rfl,hp,T.bx,T.dF,tf.end_,λr dr nr nd nrd=>⟨r,dr,_,_,rfl,af,T0 _,se,λ_ H' fs' kp' h' tf'=>⟨rfl,?_⟩,λz=>absurd ok2 z⟩⟩⟩;exact q H' r (kp (cq (al nd) nr) nr kp') nr ⟨dr,fs',h',tf',ok2⟩
def hK (up:Bool):V->V->Int->Bool:=if up=true then hU else hD
def cW (up:Bool) (a e:V) (ks:List Int):List Int:=(if up=true then ks else ks.reverse).filter (hK up a e)
theorem gB {α:Type} {h:α->Bool}:∀{xs:List α} {n:Nat},xs.Pairwise (λx y=>h y=true->h x=true)->(xs.take n).filter h=(xs.filter h).take n
 | [],n,_=>by rw[XE,List.filter_nil,XE]
 |x::r,0,_=>rfl
 |x::r,n+1,w=>by
  obtain⟨w1,w2⟩:=Zb.mp w;rw[XB];by_cases c:h x=true
  .rw[List.filter_cons_of_pos c,List.filter_cons_of_pos c,XB,gB w2]
  .have z:r.filter h=[]:=Zn.mpr λy hy hh=>c (w1 y hy hh);rw[List.filter_cons_of_neg c,List.filter_cons_of_neg c,gB w2,z,XE,XE]
theorem zp {a e:V} (ok:if up=true then okU a e else okD a e) (r:cV ks):((oX up a ks).take n).filter (hK up a e)=(cW up a e ks).take n:=by
 cases up with
 |true=>
  obtain⟨i,rfl,i0,he⟩:=(show okU a e from ok);have q:∀z,hU (.int i) e z=true->decide (i<=z)=true:=λz hz=>by
   rcases he with rfl|⟨j,rfl,_⟩
   .exact hz
   .exact(QQ.mp hz).1
  show((ks.filter λz=>decide (i<=z)).take n).filter (hU (.int i) e)=(ks.filter (hU (.int i) e)).take n;rw[gB,XG]
  .congr 1;refine X8 λz _=>?_;cases c:hU (.int i) e z with
   |true=>rw[q z c];rfl
   |false=>rfl
  .have r2:(ks.filter λz=>decide (i<=z)).Pairwise (· < ·):=List.Pairwise.filter _ r;refine List.Pairwise.imp_of_mem (λ{x y} hx hy lt hh=>?_) r2;have hx:=(Qt.mp hx).2;rcases he with rfl|⟨j,rfl,_⟩
   .exact hx
   .refine QQ.mpr ⟨hx,decide_eq_true ?_⟩;have:=of_decide_eq_true (QQ.mp hh).2;lia
 |false=>
  obtain⟨j,rfl,j0,ha⟩:=(show okD a e from ok);have rr:ks.reverse.Pairwise (λx y=>y<x):=Xs.mpr r;obtain⟨k,ek,ea⟩:∃k,oX false a ks=ks.reverse.filter (dJ k)/\∀z,hD a (.int j) z=(decide (j<=z)&&dJ k z):=by
   rcases ha with rfl|⟨i,rfl,_⟩
   .exact⟨none,rfl,λz=>(Bool.and_true _).symm⟩
   .exact⟨some i,rfl,λz=>rfl⟩
  rw[ek];show((ks.reverse.filter (dJ k)).take n).filter (hD a (.int j))=(ks.reverse.filter (hD a (.int j))).take n;rw[gB,XG]
  .congr 1;refine X8 λz _=>?_;rw[ea];cases dJ k z<;>cases decide (j<=z)<;>rfl
  .have r2:(ks.reverse.filter (dJ k)).Pairwise (λx y=>y<x):=List.Pairwise.filter _ rr;refine List.Pairwise.imp_of_mem (λ{x y} hx hy lt hh=>?_) r2;have hx:=(Qt.mp hx).2;rw[ea]at hh⊢;refine QQ.mpr ⟨decide_eq_true ?_,hx⟩;have:=of_decide_eq_true (QQ.mp hh).1;lia
theorem zl {a e:V} {k':Int} (ok:if up=true then okU a e else okD a e) (r:cV ks) (h:(cW up a e ks)[i]?=some k) (h':(cW up a e ks)[i+1]?=some k'):if up=true then okU (.int (k+1)) e else okD (.int (k-1)) e:=by
 obtain⟨hi,ek⟩:=Q3.mp h;obtain⟨hi',ek'⟩:=Q3.mp h';have m:=(Qt.mp (ek▸Z4 hi:k∈cW up a e ks)).2;have m':=(Qt.mp (ek'▸Z4 hi':k'∈cW up a e ks)).2;cases up with
 |true=>
  obtain⟨i,rfl,i0,he⟩:=(show okU a e from ok);have lt:k<k':=by
   have:=(QJ.mp (List.Pairwise.filter (hU (.int i) e) r)) _ _ hi hi' (ZJ _);rw[<-ek,<-ek'];exact this
  have m:hU (.int i) e k=true:=m;have m':hU (.int i) e k'=true:=m';rcases he with rfl|⟨j,rfl,_⟩
  .have:=of_decide_eq_true m;exact⟨k+1,rfl,by lia,.inl rfl⟩
  .have:=of_decide_eq_true (QQ.mp m).1;have:=of_decide_eq_true (QQ.mp m').2;exact⟨k+1,rfl,by lia,.inr ⟨j,rfl,by lia⟩⟩
 |false=>
  obtain⟨j,rfl,j0,ha⟩:=(show okD a e from ok);have rr:ks.reverse.Pairwise (λx y=>y<x):=Xs.mpr r;have lt:k'<k:=by
   have:=(QJ.mp (List.Pairwise.filter (hD a (.int j)) rr)) _ _ hi hi' (ZJ _);rw[<-ek,<-ek'];exact this
  have m':hD a (.int j) k'=true:=m';have:j<=k':=by
   rcases ha with rfl|⟨i,rfl,_⟩
   .exact of_decide_eq_true m'
   .exact of_decide_eq_true (QQ.mp m').1
  exact⟨j,rfl,j0,.inr ⟨k-1,rfl,by lia⟩⟩
def NxK (t:Adr) (H H':Hp) (p:Addr) (up:Bool) (e:V) (hs:List Int) (m:Nat) (v:V):Prop:=if hs.length<=m then v= .non else if m=0 then v= .ref p else ∃(q:Addr) (k:Int),hs[m-1]?=some k/\v= .ref q/\H q=none/\TkA t H' q up (.int (if up=true then k+1 else k-1)) e
theorem yB {xs:List Int} {x:V} (h:(xs.map V.int)[i]?=some x):∃k:Int,x= .int k/\xs[i]?=some k:=by
 rw[Qg]at h;cases e:xs[i]? with
 |none=>rw[e]at h;cases h
 |some k=>rw[e]at h;cases h;exact⟨k,rfl,rfl⟩
theorem tO {P:Int->Bool} {xs:List Int} (e:xs[i]?=some k):(xs.take (i+1)).filter P=(xs.take i).filter P++(if P k=true then[k]else[]):=by
 rw[Qw,e,QB];by_cases c:P k=true
 .rw[if_pos c];simp[c]
 .rw[if_neg c];simp[c]
theorem Bs (P:Int->Bool) (xs:List Int) (i:Nat):((xs.take i).filter P).length<=xs.length:=by
 have h1:=Ql P (xs.take i);have h2:(xs.take i).length<=xs.length:=by rw[Qb];lia
 lia
theorem TkA.same {a e:V} (h:TkA t H p up a e) (s:Same H H'):TkA t H' p up a e:=by
 obtain⟨dx,fs,hp,r⟩:=h;exact⟨dx,fs,s _ _ hp,r⟩
theorem TkA.ok {a e:V} (h:TkA t H p up a e):if up=true then okU a e else okD a e:=by
 obtain⟨dx,fs,hp,tf,ok⟩:=h;exact ok
theorem AM {a:V} {z:Int} (h:z∈oX up a ks):z∈ks:=by
 unfold oX at h;split at h
 .exact(Qt.mp h).1
 .exact ZD.mp (Qt.mp h).1
 .exact ZD.mp (Qt.mp h).1
theorem AN {a:V}:(oX up a ks).length<=ks.length:=by
 unfold oX;split
 .exact Ql _ _
 .exact QL (Ql _ _) (Zc Z1)
 .exact QL (Ql _ _) (Zc Z1)
theorem dHK:DOr (D1 t.cR (fv t)) (D1 t.ba (dL t)) (if up=true then t.cR else t.ba) (if up=true then fv t else dL t):=by
 cases up
 .exact .inr ⟨rfl,rfl⟩
 .exact .inl ⟨rfl,rfl⟩
theorem Dd {a e:V} {fs:List (Str×V)} {E:XK} (h:H p=some (.ins (if up=true then t.cR else t.ba) dx fs)) (f:xL (if up=true then "up" else "down") fs a e) (ok:if up=true then okU a e else okD a e) (h0:0<=k)
  (q:∀H',Same H H'->Q (.bl (hK up a e k)) H'):(if up=true then fv t else dL t) [.ref p,.int k] H Q E:=by
 cases up
 .exact⟨p,dx,fs,a,e,k,rfl,h,f,ok,h0,q⟩
 .exact⟨p,dx,fs,a,e,k,rfl,h,f,ok,h0,q⟩
def pG (K:PySem.W.Frag) (t:Adr):Sp:=λvs H Q _=>∃(l p:Addr) (n:Int) (up:Bool) (a e:V) (F:Addr->Prop) (ks:List Int),vs=[.ref l,.ref p,.int n]/\LvA K t H l F ks/\TkA t H p up a e/\ks.length<4096/\(∀k∈ks,0<=k)/\
 ∀(H':Hp) (r g:Addr) (v:V),Same H H'->H r=none->H g=none->H' r=some (.tup [.ref g,v])->H' g=some (.lst (((cW up a e ks).take n.toNat).map V.int))->NxK t H H' p up e (cW up a e ks) n.toNat v->Q (.ref r) H'
theorem pS (T:Txt K mg t):FnOk P w K mg base CX0 6 t.j6 t.gd ["leaves","token","many"] (pG K t):=by
 refine T.rY.okl sc_keys_of_page λ_ _ _ s H vs Q E hr h=>?_;obtain⟨l,p,n,up,a,e,F,ks,rfl,L,TK,l1,k0,q⟩:=h;refine⟨_,(ae (aG (i:=3) sc_keys_of_page.nd rfl (Or.inl rfl) (au (oK rfl) (by rfl) T.DA xH (aa (pv 2) (aa ai ag))))
   (ae (mM (i:=4) rfl (CScope.of (M:=["key"]) (N:=["leaves","token","many","most","held","page"]) (N':=["leaves","token","many","most","held","page"]) (dsc:=aj dM) rfl rfl (by decide+kernel)) (fw (aL (uF T) hr.mo (by rfl) T.DT T.wF.kp T.D0 .nil az (aa (pv 0) (aa (pv 1) (aa (aD bp (pv 3) ai) ag))))) (λ_ _ _ _ _=>(bT (AE (kk:=1) (Dn (wu T.du T.DS (uJ T) T.D5 (by decide)) (wu T.bx T.BV (q9 T) T.B9 (by decide))) hr.mo (pv 2) (aa (pv 0) ag)))) (λ_ _ _ _ _=>(pv 0)) sc_keys_of_page.nd rfl rfl)
   (ae (aG (i:=5) sc_keys_of_page.nd rfl (Or.inl rfl) (dj eS (pv 4) eU (cK (pv 3))))
   (ae (aQ (aA bV (au aq (by rfl) T.bB aX (aa (pv 4) ag)) (au aq (by rfl) T.bB aX (aa (pv 5) ag)) (ay _))
   (ah (aI (iX (aa (pv 5) (aa dA ag)))))
   aF)
   (ae (aQ (aA bV (au aq (by rfl) T.bB aX (aa (pv 5) ag)) ai (ay _))
   (ah (aI (iX (aa (pv 5) (aa (pv 1) ag)))))
   aF)
   (ah (aI (iX (aa (pv 5) (aa (aL (pR T) hr.mo (by rfl) T.AY T.rX.kp T.BD .nil az (aa (pv 1) (aa (aY aT (pv 5) (tq nQ ai) (λ_ _=>rfl)) ag))) ag))))))))))
  ,?_⟩
 have RK:=L.rise;refine⟨_,rfl,n,0,rfl,?_⟩;obtain⟨m,em⟩:∃m:Nat,n.toNat=m:=⟨_,rfl⟩;have e0:(if(0:Int)>n then(0:Int)else n)=(m:Int):=by
  rw[<-em];split<;>lia
 rw[e0];rw[em]at q;have ok:=TK.ok;refine⟨_,rfl,_,rfl,_,rfl,_,_,rfl,rfl,l,p,(m:Int)+1,up,a,e,F,ks,rfl,L,TK,l1,by lia,λH1 g1 s1 ng1 h1=>?_⟩;rw[show((m:Int)+1).toNat=m+1 by lia]at h1;obtain⟨ns,ens⟩:∃ns,(oX up a ks).take (m+1)=ns:=⟨_,rfl⟩;have fl:=zp (n:=m+1) ok RK;rw[ens]at h1 fl;have nl:ns.length<=4096:=by
  rw[<-ens];have h1:=AN (up:=up) (a:=a) (ks:=ks);rw[Qb];lia
 have n0:∀z∈ns,0<=z:=λz hz=>k0 z (AM (QM (ens▸hz)));refine⟨g1,rfl,⟨_,SqL.of h1⟩,λD hD=>?_⟩;refine gw (K:=K) (a:=g1) (xs:=ns.map V.int) (λi ys H2=>Same H1 H2/\ys=((ns.take i).filter (hK up a e)).map V.int) ⟨al hD,rfl⟩ (λi ys H2 _ w=>SqL.of (w.1 _ _ h1)) (λi x ys H2 hx w hDD=>?_) (λys H2 w hDD=>?_)
 .obtain⟨s2,ey⟩:=w;have hi:i<(ns.map V.int).length:=(Q3.mp hx).1;obtain⟨g,rfl,eg⟩:=yB hx;obtain⟨dx,fs,hp,tf,_⟩:=TK.same (s1.trans s2);have fl2:=Bs (hK up a e) ns i;refine⟨_,rfl,p,_,dx,fs,_,rfl,hp,tf.ho,dHK,_,rfl,Dd hp tf ok (n0 g (Q2 eg)) λH3 s3=>⟨_,rfl,?_⟩⟩;by_cases c:hK up a e g=true
  .rw[c];refine bN ⟨_,rfl,CNext.mk hi (s3 _ _ hDD) (bc (by rw[ey,Q0];lia)) ⟨cq (s2.trans s3) hD,?_⟩⟩;rw[ey,tO eg,if_pos c,Qm];rfl
  .rw[ZS.mpr c];refine bF (CSkip.mk hi (s3 _ _ hDD) ⟨s2.trans s3,?_⟩);rw[ey,tO eg,if_neg c,ZG]
 obtain⟨s2,ey⟩:=w;rw[ey,Q0,QP,fl]at hDD;clear ey h1 ens fl nl n0;have s12:=s1.trans s2;obtain⟨hs,ehs⟩:∃hs,cW up a e ks=hs:=⟨_,rfl⟩;rw[ehs]at hDD q;refine⟨_,rfl,_,rfl,(m:Int),rfl,D,_,rfl,SqL.of hDD,λg ng=>?_⟩;rw[rJ (Int.natCast_nonneg m),<-Zg,show((m:Int)).toNat=m by lia,List.take_take,X2 (ZE m)];have ng2:H g=none:=dZ s12 ng;have hg:upd H2 g (.lst ((hs.take m).map V.int)) g=some (.lst ((hs.take m).map V.int)):=af;have hDg:upd H2 g (.lst ((hs.take m).map V.int)) D=some (.lst ((hs.take (m+1)).map V.int)):=by rw[ac (ak hDD ng)];exact hDD
 have s3:=s12.trans (al (o:= .lst ((hs.take m).map V.int)) ng);generalize upd H2 g (.lst ((hs.take m).map V.int))=H3 at hg hDg s3⊢;clear hDD ng s2 s12 s1 hD;refine⟨_,rfl,D,_,rfl,.inl (SqL.of hDg),_,rfl,g,_,rfl,.inl (SqL.of hg),rfl,_,rfl,?_⟩;by_cases c:hs.length<=m
 .refine oE ?_ ⟨_,rfl,(by show 2<=sizeLine;decide),λr nr=>?_⟩
  .rw[QC (by lia),QC c]
  .refine q _ r g .non (s3.trans (al nr)) (dZ s3 nr) ng2 af (by rw[ac (ak hg nr)];exact hg) ?_;unfold NxK;rw[if_pos c]
 refine bJ ?_ ?_
 .intro z;have z:=V.int.inj z;rw[Q0,Q0,Qb,Qb]at z;lia
 refine⟨_,rfl,g,_,rfl,.inl (SqL.of hg),rfl,_,rfl,?_⟩;by_cases d:m=0
 .refine oE ?_ ⟨_,rfl,_,rfl,(by show 2<=sizeLine;decide),λr nr=>?_⟩
  .rw[d];rfl
  .refine q _ r g (.ref p) (s3.trans (al nr)) (dZ s3 nr) ng2 af (by rw[ac (ak hg nr)];exact hg) ?_;unfold NxK;rw[if_neg c,if_pos d]
 refine bJ ?_ ?_
 .intro z;have z:=V.int.inj z;rw[Q0,Qb]at z;lia
 obtain⟨k,ek⟩:∃k,hs[m-1]?=some k:=⟨_,Q4 (by lia)⟩;obtain⟨k',ek'⟩:∃k',hs[m-1+1]?=some k':=⟨_,Q4 (by lia)⟩;have ob:=zl ok RK (ehs▸ek) (ehs▸ek');refine⟨_,rfl,_,rfl,_,rfl,_,rfl,g,_,_,.int k,rfl,rfl,SqL.of hg,?_,p,up,a,e,k,rfl,TK.same s3,ob,λH4 b s4 nb TK4=>⟨(by show 2<=sizeLine;decide),λr nr=>?_⟩⟩
 .refine yS (λz=>?_) ?_
  .have:=congrArg List.length z;rw[Qb]at this;have:([]:List Int).length=0:=rfl;lia
  .rw[Qb,X2 (by lia),ZN (by lia)];exact ek
 refine q _ r g (.ref b) ((s3.trans s4).trans (al nr)) (dZ (s3.trans s4) nr) ng2 af (by rw[ac (ak (s4 _ _ hg) nr)];exact s4 _ _ hg) ?_;unfold NxK;rw[if_neg c,if_neg d];exact⟨b,k,ek,rfl,dZ s3 nb,TK4.same (al nr)⟩
theorem C8 {k:Key} (h:(aE kvs)[i]?=some (k,v)):∃g:Int,k=Sum.inl g/\(kvs.map (·.1))[i]?=some g:=by
 unfold aE at h;rw[Qg]at h;rw[Qg];cases e:kvs[i]? with
 |none=>rw[e]at h;cases h
 |some p=>rw[e]at h;cases h;exact⟨p.1,rfl,rfl⟩
theorem MkA.kept {m l:Addr} {kvs:List (Key×V)} (M:MkA t H m l es) (hq:H q=some (.dK kvs)) (kp:∀b o,b≠q->H b=some o->H' b=some o):MkA t H' m l es:=by
 have ne:∀{b:Addr} {o:HO},H b=some o->(∀x,o≠ .dK x)->b≠q:=λe n z=>by rw[z,hq]at e;exact n _ (Option.some.inj e).symm
 obtain⟨dx,ho⟩:=M.ob;exact⟨⟨dx,kp _ _ (ne ho λ_ z=>by cases z) ho⟩,kp _ _ (ne M.li λ_ z=>by cases z) M.li,λe he=>kp _ _ (ne (M.tu e he) λ_ z=>by cases z) (M.tu e he)⟩
theorem wm {a e:V}:(cW up a e ks).length<=ks.length:=by
 refine QL (Ql _ _) ?_;cases up
 .exact Zc Z1
 .exact Q5 _
structure Pg47 (t:Adr) (H H':Hp) (p:Addr) (up:Bool) (av e:V) (n mo:Int) (pa:List Pk) (r g:Addr) (v:V) (ts:List Tp) (ks:List Int):Prop where
 tu:H' r=some (.tup [.ref g,v])
 li:H' g=some (.lst (ts.map λe=>V.ref e.p))
 nr:H r=none
 ng:H g=none
 rw:∀e∈ts,H' e.p=some (.tup [.int e.k,e.v])/\e.v=aP (mkOf pa e.k) mo
 ri:cV ks
 me:∀z,z∈ks↔z∈pa.map (·.k)/\aP (mkOf pa z) mo≠ .non
 tk:ts.map (·.k)=(cW up av e ks).take n.toNat
 nx:NxK t H H' p up e (cW up av e ks) n.toNat v
def mB (K:PySem.W.Frag) (t:Adr):Sp:=λvs H Q E=>∃(a p:Addr) (mo n:Int) (F:Addr->Prop) (x:HSt),vs=[.ref a,.int mo,.ref p,.int n]/\HoA K t H a F x/\
 (x.fl<=mo->mo<=x.now->∃(up:Bool) (av e:V),TkA t H p up av e/\x.pa.length<=2000/\(x.pa.map (·.k)).Nodup/\(∀e∈x.pa,0<=e.k)/\∀(H':Hp) (r g:Addr) (v:V) (ts:List Tp) (ks:List Int),Same H H'->Pg47 t H H' p up av e n mo x.pa r g v ts ks->Q (.ref r) H')/\
 (mo<x.fl->RsH K t a F x H t.cE [("moment",.int mo)] E)/\(x.fl<=mo->x.now<mo->RsH K t a F x H t.bE [("moment",.int mo)] E)
theorem gG (T:Txt K mg t):FnOk P w K mg base (CX1 P w) 7 t.iL t.cQ ["self","moment","token","many"] (mB K t):=by
 refine T.zZ.okX sc_House__page_at (λvs H Q E h=>?_) (λcdv A outer s H vs Q E hr h=>?_)
 .obtain⟨a,p,mo,n,F,x,rfl,_⟩:=h;rfl
 .obtain⟨a,p,mo,n,F,x,rfl,A,q1,q2,q3⟩:=h;refine⟨_,(ae (aJ (aN (pv 0) T.ao T.tG (g8 T) hr.mo T.ua .nil FH (aa (pv 1) ag)))
   (ae (aG (i:=4) sc_House__page_at.nd rfl (Or.inl rfl) (fW T.zu (jg T) hr.mo (by rfl) T.zx T.rO .nil az))
   (ae (uy (jC PassesOwn.leaving rfl (CN (am (pv 0) rfl)) (eV (i:=5) sc_House__page_at.nd rfl (Or.inl rfl))
   (ah (aQ (aA uD (aN (pv 0) T.ao T.kF (jL T) hr.mo T.kG .nil az (aa (pv 5) (aa (pv 1) ag))) dA (ay _))
   (ah (aJ (aN (pv 4) T.aC T.sD (jK T) hr.mo T.sK .nil az (aa (pv 5) ag))))
   aF))))
   (ae (aG (i:=6) sc_House__page_at.nd rfl (Or.inl rfl) (aL (pS T) hr.mo (by rfl) T.AZ T.rY.kp T.BE .nil az (aa (pv 4) (aa (pv 2) (aa (pv 3) ag)))))
   (ah (aI (iX (aa (yd rfl (CScope.of (M:=["key"]) (N:=["self","moment","token","many","then","key","page"]) (N':=["self","moment","token","many","then","","page"]) (dsc:=aj cJ) rfl rfl (by decide+kernel)) (fw (aY dB (pv 6) ai (λ_ _=>rfl))) (λ_ _ _ _ _=>(iX (aa (pv 0) (aa (aN (pv 1) T.ao T.kF (jL T) hr.mo T.kG .nil az (aa (pv 0) (aa (pv 2) ag))) ag))))) (aa (aY dB (pv 6) ai (λ_ _=>rfl)) ag)))))))))
   ,?_⟩
  obtain⟨dx,fs,hi,hm,hn,hf⟩:=A.ins;refine⟨_,rfl,a,dx,fs,rfl,hi,hm _ (by decide+kernel),_,rfl,a,mo,F,x,rfl,A,λm1 m2=>?_,q2,q3⟩;obtain⟨up,av,e,TK,lp,nd,k0,q⟩:=q1 m1 m2;refine λl dl nl ndl nld=>⟨l,dl,rfl,af,?_,λH1 F1 L1 f1=>⟨rfl,?_⟩⟩
  .rw[ac (by first|exact nld|exact Ne.symm nld),af]
  have o1:∀b o,H b=some o->H1 b=some o/\¬F1 b:=λb o e=>f1 b o (λz=>z.elim (λz=>by rw[z,nl]at e;cases e) λz=>by rw[z,ndl]at e;cases e) (by rw[ac (ak e nl),ac (ak e ndl)];exact e);obtain⟨pp,hp,fp,mx⟩:∃pp,H pp=some (.dK (aE (paD x.pa)))/\fs.lookup ("past":Str)=some (.ref pp)/\∀e∈x.pa,MkA t H e.m e.l e.es:=by
   obtain⟨s,l,wr,pp,h,Fs,Fl,B,O,g⟩:=A;obtain⟨dy,ho⟩:=B.o.ob;rw[hi]at ho;cases ho;exact⟨pp,B.o.pa,uX,B.o.mx⟩
  have ap:a≠pp:=λz=>by rw[z,hp]at hi;cases hi
  have kk:(paD x.pa).map (·.1)=x.pa.map (·.k):=by unfold paD;rw[QD];rfl
  have vt:∀{H':Hp} {ob:Obj},H' pp=some (.frz ob (.dK (aE (paD x.pa))))->(∀b o,b≠pp->H b=some o->H' b=some o)->VtR t H' a x.pa:=λh1 kp=>⟨dx,pp,fs,kp _ _ ap hi,fp,hm,.inr ⟨_,h1⟩,λe he=>(mx e he).kept hp kp⟩;obtain⟨hp1,np1⟩:=o1 _ _ hp;refine⟨pp,_,hp1,_,rfl,a,_,dx,fs,_,rfl,(o1 _ _ hi).1,T.ao,T.dn,fp,pp,_,rfl,hp1,λob=>zL (ob:=ob) (d:=pp) (kvs:=aE (paD x.pa)) (λi σ H'=>∃(F':Addr->Prop) (ks:List Int) (v5:Option V),σ=[some (.ref a),some (.int mo),some (.ref p),some (.int n),some (.ref l),v5,none]/\H' pp=some (.frz ob (.dK (aE (paD x.pa))))/\¬F' pp/\LvA K t H' l F' ks/\(∀b o,b≠pp->H b=some o->H' b=some o/\¬F' b)/\∀z,z∈ks↔z∈(x.pa.map (·.k)).take i/\aP (mkOf x.pa z) mo≠ .non) ⟨F1,[],none,rfl,af,np1,L1.upd np1,λb o n e=>⟨by rw[ac n];exact(o1 b o e).1,(o1 b o e).2⟩,λz=>by rw[List.take_zero];exact⟨λh=>by(cases h),λh=>by(cases h.1)⟩⟩ (λi σ H' _ w=>by obtain⟨_,_,_,_,h,_⟩:=w;exact h) (λi k v σ H' hk w=>?_) (λσ H' w=>?_)⟩
  .obtain⟨F',ks,v5,rfl,hp',np',L',o',iff'⟩:=w;obtain⟨g,rfl,eg⟩:=C8 hk;rw[kk]at eg;obtain⟨hi',_⟩:=o' _ _ ap hi;have lk:ks.length<=2000:=by
    have:=iB (L'.rise.imp λh=>XR h) (S:=x.pa.map (·.k)) λz hz=>QM ((iff' z).mp hz).1;rw[Q0]at this;lia
   have tk:∀z,z∈(x.pa.map (·.k)).take (i+1)↔z∈(x.pa.map (·.k)).take i\/z=g:=λz=>by
    rw[Qw,eg,Q6];exact or_congr Iff.rfl Qe
   refine⟨_,rfl,a,dx,fs,rfl,hi',hm _ (by decide+kernel),_,rfl,_,rfl,a,g,mo,x.pa,rfl,vt hp' λb o n e=>(o' b o n e).1,rfl,_,rfl,?_⟩;by_cases c:aP (mkOf x.pa g) mo= .non
   .rw[decide_eq_true c];refine bF ⟨F',ks,_,rfl,hp',np',L',o',λz=>?_⟩;rw[iff',tk];constructor
    .rintro ⟨h1,h2⟩;exact⟨.inl h1,h2⟩
    .rintro ⟨h1|rfl,h2⟩
     .exact⟨h1,h2⟩
     .exact absurd c h2
   .rw[decide_eq_false c];obtain⟨dl',fl',hl',hml⟩:=L'.ins;have nin:g∉ks:=λz=>by
     have h1:=((iff' g).mp z).1;obtain⟨j,hj,ej⟩:=QI h1;rw[Qb]at hj;rw[Zx]at ej;obtain⟨gi,ge⟩:=Q3.mp eg;have:=QJ.mp nd j i (by lia) gi (by lia);exact this (ej.trans ge.symm)
    refine bN ⟨_,rfl,l,dl',fl',rfl,hl',hml _ (by decide+kernel),_,rfl,l,g,F',ks,rfl,L',by lia,λ_ H2 F2 ks2 L2 iff2 f2=>⟨F2,ks2,_,rfl,(f2 _ _ np' hp').1,(f2 _ _ np' hp').2,L2,λb o n e=>f2 b o (o' b o n e).2 (o' b o n e).1,λz=>?_⟩,λz=>absurd z nin⟩;rw[iff2,iff',tk];constructor
    .rintro (rfl|⟨h1,h2⟩)
     .exact⟨.inr rfl,c⟩
     .exact⟨.inl h1,h2⟩
    .rintro ⟨h1|rfl,h2⟩
     .exact .inr ⟨h1,h2⟩
     .exact .inl rfl
  .obtain⟨F',ks,v5,rfl,hp',np',L',o',iff'⟩:=w;have ll:(aE (paD x.pa)).length=(x.pa.map (·.k)).length:=by rw[cP,<-kk,Q0]
   rw[ll,QP]at iff';have lk:ks.length<=2000:=by
    have:=iB (L'.rise.imp λh=>XR h) (S:=x.pa.map (·.k)) λz hz=>((iff' z).mp hz).1;rw[Q0]at this;lia
   have kz:∀k∈ks,0<=k:=λk hk=>by
    obtain⟨e,he,rfl⟩:=Qh.mp ((iff' k).mp hk).1;exact k0 e he
   refine⟨ob,hp',?_⟩;have sH:Same H (upd H' pp (.dK (aE (paD x.pa)))):=λb o e=>by
    by_cases c:b=pp
    .rw[c,af,<-hp,<-c];exact e
    .rw[ac c];exact(o' b o c e).1
   have L2:LvA K t (upd H' pp (.dK (aE (paD x.pa)))) l F' ks:=L'.upd np'
   (try dsimp only)
   generalize upd H' pp (.dK (aE (paD x.pa)))=H2 at sH L2⊢;refine⟨_,rfl,_,rfl,_,rfl,l,p,n,up,av,e,F',ks,rfl,L2,TK.same sH,by lia,kz,λH3 r g v s3 nr ng hr hg nx=>?_⟩;have sH3:=sH.trans s3;obtain⟨pk,epk⟩:∃pk,(cW up av e ks).take n.toNat=pk:=⟨_,rfl⟩;have pl:pk.length<=2000:=by
    have:=wm (up:=up) (a:=av) (e:=e) (ks:=ks);rw[<-epk,Qb];lia
   rw[epk]at hg;have A3:=A.same sH3;refine⟨_,rfl,r,_,_,_,rfl,rfl,SqT.of hr,rfl,g,rfl,⟨_,SqL.of hg⟩,λD hD=>?_⟩;refine zS (K:=K) (a:=g) (xs:=pk.map V.int) (λi ys H4=>Same H3 H4/\∃ts:List Tp,ys=ts.map (λe=>V.ref e.p)/\ts.map (·.k)=pk.take i/\∀e∈ts,e.p≠D/\H4 e.p=some (.tup [.int e.k,e.v])/\e.v=aP (mkOf x.pa e.k) mo) ⟨al hD,[],rfl,rfl,λe he=>absurd he ZX⟩ (λi ys H4 _ w=>SqL.of (w.1 _ _ hg)) (λi y ys H4 hy w hDD=>?_) (λys H4 w hDD=>?_)
   .obtain⟨s4,ts,ey,ek,tu⟩:=w;have hi4:i<(pk.map V.int).length:=(Q3.mp hy).1;obtain⟨k,rfl,hk⟩:=yB hy;have A4:=A3.same s4;obtain⟨dx4,fs4,ho4,hm4,_⟩:=A4.ins;refine⟨_,rfl,_,rfl,a,dx4,fs4,rfl,ho4,hm4 _ (by decide+kernel),_,rfl,_,rfl,a,k,mo,x.pa,rfl,A4.vt,(by show 2<=sizeLine;decide),λb nb=>?_⟩;have bD:b≠D:=λz=>by rw[z,hDD]at nb;cases nb
    have sb:Same H4 (upd H4 b (.tup [.int k,aP (mkOf x.pa k) mo])):=al nb;have hb:upd H4 b (.tup [.int k,aP (mkOf x.pa k) mo]) b=some (.tup [.int k,aP (mkOf x.pa k) mo]):=af;generalize upd H4 b (.tup [.int k,aP (mkOf x.pa k) mo])=H6 at sb hb⊢;have tl:ts.length<=2000:=by
     have:=congrArg List.length ek;rw[Q0,Qb]at this;lia
    refine CNext.mk hi4 (sb _ _ hDD) (bc (by rw[ey,Q0];lia)) ⟨cq (s4.trans sb) hD,ts++ [⟨b,k,aP (mkOf x.pa k) mo⟩],by rw[ey,Qm];rfl,by rw[Qm,ek,Qw,hk];rfl,λe he=>?_⟩;rcases Q6.mp he with he|he
    .obtain⟨t0,t1,t3⟩:=tu e he;exact⟨t0,by rw[ac t0];exact sb _ _ t1,t3⟩
    .rw[Qe.mp he];exact⟨bD,by rw[ac bD];exact hb,rfl⟩
   .obtain⟨s4,ts,ey,ek,tu⟩:=w;rw[Q0,QP]at ek;rw[ey]at hDD;refine⟨_,rfl,r,_,_,_,rfl,rfl,SqT.of (s4 _ _ hr),rfl,(by show 2<=sizeLine;decide),λr2 nr2=>?_⟩;have s5:=al (o:= .tup [.ref D,v]) nr2;refine q _ r2 D v ts ks ((sH3.trans s4).trans s5) ⟨af,s5 _ _ hDD,dZ (sH3.trans s4) nr2,dZ sH3 hD,λe he=>⟨s5 _ _ (tu e he).2.1,(tu e he).2.2⟩,L2.rise,iff',by rw[ek,epk],?_⟩;unfold NxK at nx⊢;split
    .rw[if_pos ‹_›]at nx;exact nx
    .rw[if_neg ‹_›]at nx;split
     .rw[if_pos ‹_›]at nx;exact nx
     .rw[if_neg ‹_›]at nx;obtain⟨q',k,h1,h2,h3,h4⟩:=nx;exact⟨q',k,h1,h2,dZ sH h3,h4.same (s4.trans s5)⟩
def pI (K:PySem.W.Frag):Sp:=λvs H Q _=>∃(a:Addr) (ns:List Int) (k:Int),vs=[.ref a,.int k]/\SqL K H a (ns.map V.int)/\0<=k/\Q (.int (ns.getD k.toNat 0)) H
theorem pU (T:Txt K mg t):FnOk P w K mg base CX0 1 t.j8 t.gg ["_law_script","_law_k"] (pI K):=by
 refine T.cG.okl pO λ_ _ _ s H vs Q E hr h=>?_;obtain⟨a,ns,i,rfl,hS,h0,k⟩:=h;refine⟨_,(ae (aQ (aA eF (pv 1) (au aq (by rfl) T.bB aX (aa (pv 0) ag)) (ay _))
   (ah (aI (aY aT (pv 0) (pv 1) (λ_ _=>rfl))))
   aF)
   (ah (aI ai)))
  ,?_⟩
 refine⟨_,rfl,_,rfl,a,_,rfl,.inl hS,_,_,rfl,rfl,_,rfl,?_⟩;refine dC (λc=>?_) (λc=>?_)
 .have c:=of_decide_eq_true c;rw[Q0]at c;exact⟨_,rfl,_,rfl,a,_,_,_,rfl,rfl,hS,m8 h0 c,k⟩
 .have c:¬i<((ns.map V.int).length:Int):=λz=>c (decide_eq_true z);rw[Q0]at c;rw[BB c]at k;exact k
def dr6 (c k:Int):Int:=if c%2=1 then c/2^(20*k+1).toNat%1048576 else
 (((c+7919*k+1)*48271%2147483647)*(((c+7919*k+1)*48271%2147483647)/1009+69621)%2147483647+31*k+1)*((((c+7919*k+1)*48271%2147483647)*(((c+7919*k+1)*48271%2147483647)/1009+69621)%2147483647)/757+16807)%2147483629
def sf:Sp:=λvs H Q _=>∃c k:Int,vs=[.int c,.int k]/\0<=k/\k<=1000/\Q (.int (dr6 c k)) H
theorem eW (T:Txt K mg t):FnOk P w K mg base CX0 1 t.nE t.i9 ["_law_cell","_law_k"] sf:=by
 refine T.bz.okl sc__law_drawn λ_ _ _ s H vs Q E hr h=>?_;obtain⟨c,k,rfl,k0,k1,q⟩:=h;refine⟨_,(ae (aQ (aA bV (aD bn (pv 0) ai) ai (ay _))
   (ah (aI (aD bn (aD Ev (pv 0) (aD bp (aD iY ai (pv 1)) ai)) ai)))
   aF)
   (ae (aG (i:=2) sc__law_drawn.nd rfl (Or.inl rfl) (aD bn (aD iY (aD bp (aD bp (pv 0) (aD iY ai (pv 1))) ai) ai) ai))
   (ae (aG (i:=2) sc__law_drawn.nd rfl (Or.inl rfl) (aD bn (aD iY (pv 2) (aD bp (aD iZ (pv 2) ai) ai)) ai))
   (ah (aI (aD bn (aD iY (aD bp (aD bp (pv 2) (aD iY ai (pv 1))) ai) (aD bp (aD iZ (pv 2) ai) ai)) ai))))))
  ,?_⟩
 unfold dr6 at q;refine⟨_,rfl,_,_,rfl,rfl,(by show(0:Int)<2;decide),rfl,_,rfl,dC (λz=>?_) (λz=>?_)⟩
 .rw[if_pos (V.int.inj (of_decide_eq_true z))]at q;exact⟨_,rfl,_,rfl,_,_,rfl,rfl,.inl ⟨by decide,by decide⟩,_,_,rfl,rfl,_,_,rfl,rfl,(by show 0<=20*k+1;lia),_,_,rfl,rfl,(by show(0:Int)<1048576;decide),q⟩
 rw[if_neg λy=>z (decide_eq_true (congrArg V.int y))]at q;have m0:∀z:Int,0<=z%2147483647/\z%2147483647<2147483647:=λz=>⟨QK _ (by decide),QT _ (by decide)⟩;refine⟨_,rfl,_,rfl,_,_,rfl,rfl,.inl ⟨by decide,by decide⟩,_,_,rfl,rfl,_,_,rfl,rfl,_,_,rfl,rfl,.inr ⟨by decide,by decide⟩,_,_,rfl,rfl,(by show(0:Int)<2147483647;decide),?_⟩
 (try dsimp only)
 obtain⟨a0,a1⟩:=m0 ((c+7919*k+1)*48271);generalize (c+7919*k+1)*48271%2147483647=z1 at a0 a1 q⊢;refine⟨_,rfl,_,rfl,_,_,rfl,rfl,⟨by decide,by decide⟩,_,_,rfl,rfl,_,_,rfl,rfl,.inl ⟨by lia,by lia⟩,_,_,rfl,rfl,(by show(0:Int)<2147483647;decide),?_⟩
 (try dsimp only)
 obtain⟨b0,b1⟩:=m0 (z1*(z1/1009+69621));generalize z1*(z1/1009+69621)%2147483647=z2 at b0 b1 q⊢;exact⟨_,rfl,_,rfl,_,_,rfl,rfl,.inl ⟨by decide,by decide⟩,_,_,rfl,rfl,_,_,rfl,rfl,_,rfl,_,_,rfl,rfl,⟨by decide,by decide⟩,_,_,rfl,rfl,_,_,rfl,rfl,.inl ⟨by lia,by lia⟩,_,_,rfl,rfl,(by show(0:Int)<2147483629;decide),q⟩
def vE (K:PySem.W.Frag):Sp:=λvs H Q _=>∃c:Int,vs=[.int c]/\∀(H':Hp) (z:Int),Same H H'->0<=z->z<10^39->Q (.int z) H'
theorem oV (T:Txt K mg t):FnOk P w K mg base CX0 2 t.rS t.mf ["_law_cell"] (vE K):=by
 refine T.rZ.okl sc__law_key λ_ _ _ s H vs Q E hr h=>?_;obtain⟨c,rfl,q⟩:=h;refine⟨_,(ae (aG (i:=1) sc__law_key.nd rfl (Or.inl rfl) (aL (eW T) hr.mo (by rfl) T.bH T.bz.kp T.bI .nil az (aa (pv 0) (aa ai ag))))
   (ae (aG (i:=2) sc__law_key.nd rfl (Or.inl rfl) (aD bn (aL (eW T) hr.mo (by rfl) T.bH T.bz.kp T.bI .nil az (aa (pv 0) (aa ai ag))) ai))
   (ah (aI (aY aT (eK (aa (aD bn (pv 1) ai) (aa (aD bn (pv 1) ai) (aa (aD bp (aD bn (pv 1) ai) (aD iY ai (aD bn (aD iZ (pv 1) ai) ai))) (aa (aD bn (pv 0) (aD uC ai ai)) ag))))) (pv 2) (λ_ _=>rfl))))))
  ,?_⟩
 refine⟨_,rfl,c,1,rfl,by decide,by decide,?_⟩
 (try dsimp only)
 generalize dr6 c 1=n;refine⟨_,rfl,c,2,rfl,by decide,by decide,_,_,rfl,rfl,(by show(0:Int)<4;decide),?_⟩
 (try dsimp only)
 have t39:(0:Int)<10^(39:Int).toNat:=by decide
 have p39:(10:Int)^(39:Int).toNat=10^39:=rfl;have md:∀(z m:Int),0<m->0<=z%m/\z%m<m:=λz m h=>⟨QK _ (X3 h),QT _ h⟩;have a1:=md n 10 (by decide);have a2:=md n 61 (by decide);have a3:=md n 6 (by decide);have a4:=md (n/6) 5 (by decide);have a5:=md c _ t39;rw[p39]at a5;obtain⟨z,hz,z0,z1⟩:=FF (c:=dr6 c 2) (n:=4) (L:=[.int (n%10),.int (n%61),.int (n%6+65536*(n/6%5)),.int (c%10^(39:Int).toNat)]) (P:=λm=>0<=m/\m<10^39) ⟨⟨by lia,by lia⟩,⟨by lia,by lia⟩,⟨by lia,by lia⟩,a5,trivial⟩ rfl (by decide);refine⟨_,rfl,_,_,rfl,rfl,(by show(0:Int)<10;decide),_,rfl,_,_,rfl,rfl,(by show(0:Int)<61;decide),_,rfl,_,_,rfl,rfl,(by show(0:Int)<6;decide),_,rfl,_,_,rfl,rfl,⟨by decide,by decide⟩,_,_,rfl,rfl,(by show(0:Int)<5;decide),_,_,rfl,rfl,.inl ⟨by decide,by decide⟩,_,_,rfl,rfl,_,rfl,_,_,rfl,rfl,⟨by decide,by decide,by decide⟩,_,_,rfl,rfl,t39,(by show 4<=sizeLine;decide),λp np=>?_⟩;exact⟨_,rfl,p,_,_,_,rfl,rfl,SqL.of af,hz,q _ z (al np) z0 z1⟩
theorem nP (l1 l2:List Mk1) (m:Int):aP (l1++l2) m=match l2.reverse.find? (λy=>decide (y.mo<=m))with|none=>aP l1 m|some y=>y.v:=by
 unfold aP;rw[XC,XT];cases List.find? (λy:Mk1=>decide (y.mo<=m)) l2.reverse<;>rfl
theorem qe {y:Mk1}:aP (es++ [y]) m=if y.mo<=m then y.v else aP es m:=by
 rw[nP];by_cases c:y.mo<=m
 .rw[if_pos c];simp[c]
 .rw[if_neg c];simp[c]
theorem l6 {P P':Mk1->Bool}:∀{l:List Mk1},(∀y∈l,P y=P' y)->l.find? P=l.find? P'
 | [],_=>rfl
 |y::r,h=>by
  rw[Zv,Zv,h y Qd,l6 λz hz=>h z (Qa _ hz)]
theorem y4 {m':Int} (h:∀y∈es,y.mo<=m) (l:m<=m'):aP es m'=aP es m:=by
 unfold aP;rw[l6 (P':=λy=>decide (y.mo<=m)) λy hy=>by
  have:=h y (ZD.mp hy);rw[decide_eq_true this,decide_eq_true (by lia)]]
theorem qg {fl:Int}:∀{es:List Mk1},es.Pairwise (λa b=>a.mo<b.mo)->(es.filter λy=>decide (y.mo<=fl))++(es.filter λy=>decide (fl<y.mo))=es
 | [],_=>rfl
 |y::r,h=>by
  obtain⟨h1,h2⟩:=Zb.mp h;by_cases c:y.mo<=fl
  .rw[QN,QN,if_pos (decide_eq_true c),if_neg (by rw[decide_eq_false (by lia)];exact Q7),Xb,qg h2]
  .have e:r.filter (λy=>decide (y.mo<=fl))=[]:=Zn.mpr λz hz y'=>by
    have:=h1 z hz;have:=of_decide_eq_true y';lia
   have e2:=qg (fl:=fl) h2;rw[e,Xn]at e2;rw[QN,QN,if_neg (by rw[decide_eq_false c];exact Q7),if_pos (decide_eq_true (by lia)),e,e2,Xn]
theorem y6 {lo:List Mk1} (h:∀y∈lo,y.mo<=m):aP lo m=match lo.getLast? with|none=> .non|some y=>y.v:=by
 unfold aP;rw[l6 (P':=λ_=>true) λy hy=>decide_eq_true (h y (ZD.mp hy)),<-List.head?_reverse];cases lo.reverse<;>rfl
theorem vz (up:es.Pairwise λa b=>a.mo<b.mo) (l:fl<=m):aP (swE fl es) m=aP es m:=by
 have e1:aP es m=aP ((es.filter λy=>decide (y.mo<=fl))++(es.filter λy=>decide (fl<y.mo))) m:=by rw[qg up]
 rw[e1,nP,y6 (lo:=es.filter λy=>decide (y.mo<=fl)) λy hy=>by have:=of_decide_eq_true (Qt.mp hy).2;lia];unfold swE;cases c:(es.filter λy=>decide (y.mo<=fl)).getLast? with
 |none=>
  dsimp only;unfold aP;cases List.find? (λy:Mk1=>decide (y.mo<=m)) (es.filter λy=>decide (fl<y.mo)).reverse<;>rfl
 |some y=>
  dsimp only;have yl:y.mo<=m:=by
   have:=of_decide_eq_true (Qt.mp (Xy c)).2;lia
  split
  .rename_i yv
   unfold aP;cases List.find? (λy:Mk1=>decide (y.mo<=m)) (es.filter λy=>decide (fl<y.mo)).reverse with
   |none=>exact yv.symm
   |some z=>rfl
  .rw[show y::(es.filter λy=>decide (fl<y.mo))=[y]++(es.filter λy=>decide (fl<y.mo)) from rfl,nP];have:aP [y] m=y.v:=by
    unfold aP;simp[yl]
   rw[this]
def Wh (F:Addr->Prop) (d:Addr):Addr->Prop:=λb=>F b\/b=d
theorem Fr.wh {d:Addr} (f:Fr F F' H H'):Fr (Wh F d) (Wh F' d) H H':=λb o n eb=>⟨(f b o (λz=>n (.inl z)) eb).1,λz=>z.elim (f b o (λz=>n (.inl z)) eb).2 λz=>n (.inr z)⟩
theorem Fr.wd {d:Addr}:Fr (Wh F d) (Wh F d) H (upd H d o):=λb o n eb=>⟨by rw[ac λz=>n (.inr z)];exact eb,n⟩
theorem Em {kv:List (Int×V)} {i:Int} (h:∀p∈kv,∃i:Int,p.2= .int i):∀p∈aW kv k (.int i),∃i:Int,p.2= .int i:=λp hp=>by
 unfold aW at hp;split at hp
 .obtain⟨q,hq,rfl⟩:=Qh.mp hp;by_cases c:q.1=k
  .exact⟨i,by rw[if_pos c]⟩
  .rw[if_neg c];exact h q hq
 .rcases Q6.mp hp with y|y
  .exact h p y
  .rw[Qe.mp y];exact⟨i,rfl⟩
structure J47 (K:PySem.W.Frag) (t:Adr) (H:Hp) (a d:Addr) (F:Addr->Prop) (x:HSt):Prop where
 A:HoA K t H a F x
 di:H d=some (.dK (aE x.st.kv))
 nF:¬F d
 kb:∀k∈x.st.kv.map (·.1),0<=k
 iv:∀p∈x.st.kv,∃i:Int,p.2= .int i
 cu:∀k,aP (mkOf x.pa k) x.now=(aK x.st.kv k).getD .non
 pk:∀k∈x.pa.map (·.k),0<=k
 ma:x.ma=0
structure Pt47 (x x':HSt):Prop where
 nw:x.now<=x'.now
 fl:x.fl<=x'.fl
 va:∀m k,x'.fl<=m->m<=x.now->aP (mkOf x'.pa k) m=aP (mkOf x.pa k) m
 ho:∀z∈x.ho.map (·.1),z∈x'.ho.map (·.1)
 fh:∀z∈x.ho.map (·.1),x'.fl<=z
section
variable {d:Addr} {x x'':HSt} {i:Int}
theorem Pt47.of (h:HOk x):Pt47 x x:=⟨QV _,QV _,λ_ _ _ _=>rfl,λ_ h=>h,λz hz=>by
 obtain⟨p,hp,rfl⟩:=Qh.mp hz;exact(h.hv p hp).1⟩
theorem Pt47.trans (p:Pt47 x x') (q:Pt47 x' x''):Pt47 x x'':=⟨Xi p.nw q.nw,Xi p.fl q.fl,λm k h1 h2=>(q.va m k h1 (Xi h2 p.nw)).trans (p.va m k (Xi q.fl h1) h2),λz hz=>q.ho z (p.ho z hz),λz hz=>q.fh z (p.ho z hz)⟩
theorem J47.fr (J:J47 K t H a d F x) (A:HoA K t H' a F' x) (f:Fr F F' H H'):J47 K t H' a d F' x:=⟨A,(f _ _ J.nF J.di).1,(f _ _ J.nF J.di).2,J.kb,J.iv,J.cu,J.pk,J.ma⟩
theorem J47.same (J:J47 K t H a d F x) (s:Same H H'):J47 K t H' a d F x:=J.fr (J.A.same s) (Fr.of_same s)
theorem vU {kv:List (Int×V)} {n:Int} (N:Noted pa pa' k ⟨q,n+1,v⟩) (up:∀j,∀y∈mkOf pa j,y.mo<=n) (cu:∀z,aP (mkOf pa z) n=(aK kv z).getD .non) (ev:∀j,(aK kv' j).getD .non=if j=k then v else(aK kv j).getD .non):(∀z,aP (mkOf pa' z) (n+1)=(aK kv' z).getD .non)/\∀m z,m<=n->aP (mkOf pa' z) m=aP (mkOf pa z) m:=by
 refine⟨λz=>?_,λm z hm=>?_⟩
 .rw[N.of,ev z];split
  .rw[qe,if_pos (QV _)]
  .rw[y4 (m:=n) (λy hy=>up z y hy) (by lia)];exact cu z
 .rw[N.of];split
  .rename_i zk
   rw[qe,if_neg (by show ¬n+1<=m;lia),zk]
  .rfl
theorem vT {y:Mk1} (N:Noted pa pa' k y) (pk:∀k∈pa.map (·.k),0<=k) (k0:0<=k):∀k∈pa'.map (·.k),0<=k:=λz hz=>by
 rw[N.ky]at hz;split at hz
 .exact pk z hz
 .rcases Q6.mp hz with h|h
  .exact pk z h
  .rw[Qe.mp h];exact k0
theorem J47.put (J:J47 K t H a d F x) (A:HoA K t H' a F' {x with now:=x.now+1,st:=x.st.put k (.int i),ks:=ks',di:=x.di++ [(r,[.str "put",.int k,.int i])],pa:=pa'}) (N:Noted x.pa pa' k ⟨q,x.now+1,.int i⟩) (f:Fr F F' H H') (k0:0<=k):
  J47 K t (upd H' d (.dK (aE (aW x.st.kv k (.int i))))) a d F' {x with now:=x.now+1,st:=x.st.put k (.int i),ks:=ks',di:=x.di++ [(r,[.str "put",.int k,.int i])],pa:=pa'}/\Pt47 x {x with now:=x.now+1,st:=x.st.put k (.int i),ks:=ks',di:=x.di++ [(r,[.str "put",.int k,.int i])],pa:=pa'}:=by
 obtain⟨d1,n1⟩:=f _ _ J.nF J.di;have ek:(x.st.put k (.int i)).kv=aW x.st.kv k (.int i):=SSt.three_kv;obtain⟨c1,c2⟩:=vU (kv':=aW x.st.kv k (.int i)) N (λj=>(J.A.ok.up j).2) J.cu λj=>by
  rw[cj];split<;>rfl
 refine⟨⟨A.upd n1 (λxs z=>by rw[d1]at z;cases z),by show upd H' d _ d=some (.dK (aE (x.st.put k (.int i)).kv));rw[ek];exact af,n1,?_,?_,?_,vT N J.pk k0,J.ma⟩,?_⟩
 .show ∀z∈(x.st.put k (.int i)).kv.map (·.1),0<=z;rw[ek,iG];intro z hz;split at hz
  .exact J.kb z hz
  .rcases Q6.mp hz with y|y
   .exact J.kb z y
   .rw[Qe.mp y];exact k0
 .show ∀p∈(x.st.put k (.int i)).kv,_;rw[ek];exact Em J.iv
 .show ∀z,aP (mkOf pa' z) (x.now+1)=(aK (x.st.put k (.int i)).kv z).getD .non;rw[ek];exact c1
 .have o:=Pt47.of J.A.ok;exact⟨by show x.now<=x.now+1;lia,QV _,λm z _ h2=>c2 m z h2,o.ho,o.fh⟩
theorem J47.drop (J:J47 K t H a d F x) (e1:H1=upd H d (.dK (aE (bi x.st.kv k)))) (A:HoA K t H' a F' {x with now:=x.now+1,st:=x.st.drop k,ks:=ks',di:=x.di++ [(r,[.str "drop",.int k])],pa:=pa'}) (N:Noted x.pa pa' k ⟨q,x.now+1,.non⟩) (f:Fr F F' H1 H') (k0:0<=k):
  J47 K t H' a d F' {x with now:=x.now+1,st:=x.st.drop k,ks:=ks',di:=x.di++ [(r,[.str "drop",.int k])],pa:=pa'}/\Pt47 x {x with now:=x.now+1,st:=x.st.drop k,ks:=ks',di:=x.di++ [(r,[.str "drop",.int k])],pa:=pa'}:=by
 have h1:H1 d=some (.dK (aE (bi x.st.kv k))):=by rw[e1];exact af
 obtain⟨d1,n1⟩:=f _ _ J.nF h1;have ek:(x.st.drop k).kv=bi x.st.kv k:=SSt.three_kv;obtain⟨c1,c2⟩:=vU (kv':=bi x.st.kv k) N (λj=>(J.A.ok.up j).2) J.cu λj=>by
  rw[bY];split<;>rfl
 have sub:∀p∈bi x.st.kv k,p∈x.st.kv:=λp hp=>(Qt.mp hp).1;refine⟨⟨A,by show H' d=some (.dK (aE (x.st.drop k).kv));rw[ek];exact d1,n1,?_,?_,?_,vT N J.pk k0,J.ma⟩,?_⟩
 .show ∀z∈(x.st.drop k).kv.map (·.1),0<=z;rw[ek];intro z hz;obtain⟨p,hp,rfl⟩:=Qh.mp hz;exact J.kb _ (Qh.mpr ⟨p,sub p hp,rfl⟩)
 .show ∀p∈(x.st.drop k).kv,_;rw[ek];exact λp hp=>J.iv p (sub p hp)
 .show ∀z,aP (mkOf pa' z) (x.now+1)=(aK (x.st.drop k).kv z).getD .non;rw[ek];exact c1
 .have o:=Pt47.of J.A.ok;exact⟨by show x.now<=x.now+1;lia,QV _,λm z _ h2=>c2 m z h2,o.ho,o.fh⟩
end
theorem vM {m:Nat} (pw:l.Pairwise R) (m0:0<m) (h:l[m-1]?=some k):(∀z∈l.take m,R z k\/z=k)/\∀z∈l.drop m,R k z:=by
 have g:=QJ.mp pw;obtain⟨lt,e⟩:=Q3.mp h;refine⟨λz hz=>?_,λz hz=>?_⟩
 .obtain⟨j,hj,ej⟩:=QI hz;rw[Qb]at hj;rw[Zx]at ej;by_cases c:j=m-1
  .subst c;exact .inr (ej.symm.trans e)
  .have:=g j (m-1) (by lia) lt (by lia);rw[ej,e]at this;exact .inl this
 .obtain⟨j,hj,ej⟩:=QI hz;rw[Qr]at hj;rw[Zw]at ej;have:=g (m-1) (m+j) lt (by lia) (by lia);rw[ej,e]at this;exact this
theorem tP {P:Int->Bool} (h1:∀z∈l.take n,P z=false) (h2:∀z∈l.drop n,P z=true):l.filter P=l.drop n:=by
 conv=>lhs;rw[<-QA n l]
 rw[QB,Zn.mpr λz hz=>by rw[h1 z hz];exact Q7,Xn,List.filter_eq_self.mpr h2]
theorem De {e:V} (ok:if up=true then okU av e else okD av e) (hk:hK up av e k=true) (z:Int):hK up (.int (if up=true then k+1 else k-1)) e z=(hK up av e z&&decide (if up=true then k<z else z<k)):=by
 cases up with
 |true=>
  obtain⟨i,rfl,i0,he⟩:=(show okU av e from ok);rcases he with rfl|⟨j,rfl,ij⟩
  .have hk:decide (i<=k)=true:=hk;have hk:=of_decide_eq_true hk;show decide (k+1<=z)=(decide (i<=z)&&decide (k<z));rw[<-Z3];exact decide_eq_decide.mpr (by lia)
  .have hk:(decide (i<=k)&&decide (k<j))=true:=hk;rw[<-Z3]at hk;have hk:=of_decide_eq_true hk;show(decide (k+1<=z)&&decide (z<j))=((decide (i<=z)&&decide (z<j))&&decide (k<z));rw[<-Z3,<-Z3,<-Z3];exact decide_eq_decide.mpr (by lia)
 |false=>
  obtain⟨j,rfl,j0,ha⟩:=(show okD av e from ok);rcases ha with rfl|⟨i,rfl,ij⟩
  .show(decide (j<=z)&&decide (z<=k-1))=(decide (j<=z)&&decide (z<k));rw[<-Z3,<-Z3];exact decide_eq_decide.mpr (by lia)
  .have hk:(decide (j<=k)&&decide (k<=i))=true:=hk;rw[<-Z3]at hk;have hk:=of_decide_eq_true hk;show(decide (j<=z)&&decide (z<=k-1))=((decide (j<=z)&&decide (z<=i))&&decide (z<k));rw[<-Z3,<-Z3,<-Z3];exact decide_eq_decide.mpr (by lia)
theorem zI {e:V} {m:Nat} (ri:cV ks) (ok:if up=true then okU av e else okD av e) (m0:0<m) (h:(cW up av e ks)[m-1]?=some k):cW up (.int (if up=true then k+1 else k-1)) e ks=(cW up av e ks).drop m:=by
 have hk:hK up av e k=true:=(Qt.mp (Q2 h)).2;have e1:cW up (.int (if up=true then k+1 else k-1)) e ks=(cW up av e ks).filter λz=>decide (if up=true then k<z else z<k):=by
  unfold cW;rw[XG];exact X8 λz _=>by rw[De ok hk,Bool.and_comm]
 rw[e1];cases up with
 |true=>
  obtain⟨r1,r2⟩:=vM (R:=λa b=>a<b) (List.Pairwise.filter _ ri) m0 h;exact tP (λz hz=>decide_eq_false (by have:=r1 z hz;show ¬k<z;lia)) (λz hz=>decide_eq_true (r2 z hz))
 |false=>
  obtain⟨r1,r2⟩:=vM (R:=λa b=>b<a) (List.Pairwise.filter _ (Xs.mpr ri)) m0 h;exact tP (λz hz=>decide_eq_false (by have:=r1 z hz;show ¬z<k;lia)) (λz hz=>decide_eq_true (r2 z hz))
theorem vL {ts2:List Tp} (iv:∀e∈ts,∃i:Int,e.v= .int i) (et:ts.map Tp.kv=ts2.map Tp.kv):(ts.map λe=>V.ref e.p).length=(ts2.map λe=>V.ref e.p).length/\∀{H:Hp},(∀e∈ts,H e.p=some (.tup [.int e.k,e.v]))->(∀e∈ts2,H e.p=some (.tup [.int e.k,e.v]))->∀(j:Nat) (u v:V),(ts.map λe=>V.ref e.p)[j]?=some u->(ts2.map λe=>V.ref e.p)[j]?=some v->Alk K H 4 u v:=by
 refine⟨by have:=congrArg List.length et;simpa using this,λ{H} h1 h2 j u v hu hv=>?_⟩;rw[Qg]at hu hv;cases c3:ts[j]? with
 |none=>rw[c3]at hu;cases hu
 |some x=>
  cases c4:ts2[j]? with
  |none=>rw[c4]at hv;cases hv
  |some y=>
   rw[c3]at hu;rw[c4]at hv;cases hu;cases hv;have ee:=congrArg (λl:List (Int×V)=>l[j]?) et;rw[Qg,Qg,c3,c4]at ee;have e3:x.kv=y.kv:=Option.some.inj ee;have e4:x.k=y.k:=congrArg Prod.fst e3;have e5:x.v=y.v:=congrArg Prod.snd e3;have hx:=Q2 c3;obtain⟨i,ei⟩:=iv x hx;have t1:=h1 x hx;have t2:=h2 y (Q2 c4);rw[<-e4,<-e5]at t2;rw[ei]at t1 t2;refine .inr ⟨_,_,_,_,rfl,rfl,.inr ⟨SqT.of t1,SqT.of t2⟩,rfl,λj u v hu hv=>?_⟩;rcases j with _|_|j
   .cases hu;cases hv;exact .inl ⟨True.intro,rfl⟩
   .cases hu;cases hv;exact .inl ⟨True.intro,rfl⟩
   .cases hu
def um (K:PySem.W.Frag) (t:Adr):Sp:=λvs H Q _=>∃(a d:Addr) (c:Int) (cm:Bool) (F:Addr->Prop) (x:HSt),vs=[.ref a,.ref d,.int c,.bl cm]/\J47 K t H a d F x/\x.now<3900/\x.ho.length<3900/\
 ∀(H':Hp) (F':Addr->Prop) (x':HSt),J47 K t H' a d F' x'->Pt47 x x'->(cm=true->x'.fl=x.fl)->x'.now<=x.now+30->x'.ho.length<=x.ho.length+1->Fr (Wh F d) (Wh F' d) H H'->Q .non H'
def r9 (K:PySem.W.Frag) (t:Adr):Sp:=λvs H Q _=>∃(d:Addr) (kv:List (Int×V)) (c:Int),vs=[.int c,.ref d]/\H d=some (.dK (aE kv))/\(∀k∈kv.map (·.1),0<=k)/\kv.length<=3000/\∀(H':Hp) (p:Addr) (up:Bool) (av e:V),Same H H'->H p=none->TkA t H' p up av e->Q (.ref p) H'
def ul (t:Adr):Sp:=λvs H Q _=>∃(p:Addr) (up:Bool) (av e:V) (k:Int),vs=[.ref p,.int k]/\TkA t H p up av e/\Q (.bl (hK up av e k)) H
def vF (t:Adr):Sp:=λvs H Q _=>∃(p d:Addr) (up:Bool) (av e:V) (kv:List (Int×V)),vs=[.ref p,.ref d]/\TkA t H p up av e/\H d=some (.dK (aE kv))/\(kv.map (·.1)).Nodup/\(∀p∈kv,∃i:Int,p.2= .int i)/\kv.length<=3000/\
 ∀(H':Hp) (l:Addr) (ts:List Tp) (ks:List Int),Same H H'->H l=none->H' l=some (.lst (ts.map λe=>V.ref e.p))->(∀e∈ts,H' e.p=some (.tup [.int e.k,e.v])/\aK kv e.k=some e.v)->cV ks->(∀z,z∈ks↔z∈kv.map (·.1))->ts.map (·.k)=cW up av e ks->Q (.ref l) H'
theorem vv {kv:List (Int×V)} (nd:(kv.map (·.1)).Nodup) (h:(k,v)∈kv):aK kv k=some v:=by
 induction kv with
 |nil=>cases h
 |cons p r ih=>
  rw[Qu,QE]at nd;by_cases e:p.1=k
  .rw[a8 e];rcases Qj.mp h with h|h
   .rw[<-h]
   .exact absurd (Zm (f:=(·.1)) h) (by rw[<-e]at*;exact nd.1)
  .rw[aZ e];rcases Qj.mp h with h|h
   .rw[<-h]at e;exact absurd rfl e
   .exact ih nd.2 h
theorem nR {i:Int} (h0:0<=i) (h1:i<10^40):i.natAbs.log2<1920:=by
 rcases ZF i.natAbs with z|z
 .rw[z];decide
 .refine(Nat.log2_lt (XI z)).mpr ?_;have:i.natAbs<10^40:=by lia
  exact Nat.lt_trans this (Qs (show 10^40<2^200 by decide) (Nat.pow_le_pow_right (by decide) (by decide)))
theorem yh {i:Int} (h0:0<=i) (h1:i<10^40):(Str.ofString (toString i)).length<=41:=by
 have h:(toString i).length<=40+1:=PySem.int_text_length_le10 (by decide) (by lia);rw[Str.ofString_eq_toList];show((toString i).toList.map Char.toNat).toArray.size<=41;rw[Qc,Q0];exact h
theorem yA:∀{kv:List (Int×V)},(∀p∈kv,∃i:Int,p.2= .int i)->∃ns:List (Int×Int),kv=ns.map λp=>(p.1,V.int p.2)
 | [],_=>⟨[],rfl⟩
 |p::r,h=>by
  obtain⟨i,e⟩:=h p Qd;obtain⟨ns,en⟩:=yA λq hq=>h q (Qa _ hq);exact⟨(p.1,i)::ns,by rw[en,Qu,<-e]⟩
def uk (t:Adr):Sp:=λvs H Q _=>∃(p q':Addr) (up:Bool) (av e:V) (k:Int),vs=[.ref p,.ref q',.int k]/\TkA t H p up av e/\TkA t H q' up (.int (if up=true then k+1 else k-1)) e/\Q (.bl true) H
def uj (K:PySem.W.Frag) (t:Adr):Sp:=λvs H Q _=>∃(a p:Addr) (mo n:Int) (F:Addr->Prop) (x:HSt) (up:Bool) (av e:V),vs=[.ref a,.int mo,.ref p,.int n]/\HoA K t H a F x/\x.fl<=mo/\mo<=x.now/\TkA t H p up av e/\x.pa.length<=2000/\(x.pa.map (·.k)).Nodup/\(∀e∈x.pa,0<=e.k)/\∀(H':Hp) (r g:Addr) (v:V) (ts:List Tp) (ks:List Int),Same H H'->Pg47 t H H' p up av e n mo x.pa r g v ts ks->Q (.ref r) H'
def pH (K:PySem.W.Frag) (t:Adr):Sp:=λvs H Q _=>∃(a p:Addr) (mo:Int) (F:Addr->Prop) (x:HSt),vs=[.ref a,.int mo,.ref p]/\HoA K t H a F x/\(mo<x.fl\/x.now<mo)/\0<=mo/\mo<10^40/\∀(H':Hp) (F':Addr->Prop),HoA K t H' a F' x->Fr F F' H H'->Q (.str ((if mo<x.fl then("old ":Str)else("not yet ":Str))++Str.ofString (toString mo))) H'
theorem at2 {z:V} (h:xs[xs.length-1]?=some v):atI (xs++ [z]) (-2)=some v:=by
 have l:=(Q3.mp h).1;unfold atI ixN;rw[Q9,Qz,if_neg (by decide),if_pos (by lia)];show(xs++ [z])[_]?=_;rw[Z7 (by lia),show((-2:Int)+((xs.length+1:Nat):Int)).toNat=xs.length-1 by lia];exact h
theorem xX {t:TS} (M:St->Hp->Prop) (h1:∀nx,(∀σ' H',M σ' H'->nx σ' H')->t {D with nx:=nx} σ H) (h2:∀σ' H',M σ' H'->u D σ' H'):Cp t u D σ H:=h1 (u D) h2
theorem wj:m∈(jS ho m).map (·.1)/\(jS ho m).length<=ho.length+1:=by
 unfold jS;have l:(aW ho m (.int (dt ho m+1))).length<=ho.length+1:=by
  unfold aW;split
  .rw[Q0];lia
  .rw[Q9,Qz];lia
 refine⟨?_,l⟩;rw[iG];split
 .exact mem_keys.mpr (by assumption)
 .exact Qo _ (Qe.mpr rfl)
theorem C9:(iF ho m).length<=ho.length+1:=by
 have h1:∀v,(aW ho m v).length<=ho.length+1:=λv=>by
  unfold aW;split
  .rw[Q0];lia
  .rw[Q9,Qz];lia
 unfold iF;split
 .unfold bi;exact QL (Ql _ _) (h1 _)
 .exact h1 _
theorem Da {f:Int->V} {l:List Tp} (h:∀e∈l,e.v=f e.k):l.map Tp.kv=(l.map (·.k)).map λk=>(k,f k):=by
 rw[QD];exact Zk λe he=>by
  show(e.k,e.v)=(e.k,f e.k);rw[h e he]
structure S47 (K:PySem.W.Frag) (t:Adr) (H0 H:Hp) (F0 F:Addr->Prop) (x0 x:HSt) (a b D p:Addr) (way mo:Int) (up:Bool) (av e:V) (ks:List Int) (ts:List Tp) (i:Nat):Prop where
 J:J47 K t H a b F x
 fr:Fr F0 F H0 H
 nb:H0 b=none
 tk:TkA t H p up av e
 nt:¬F p
 hD:H D=some (.lst (ts.map λe=>V.ref e.p))
 nD:¬F D
 tu:∀e∈ts,H e.p=some (.tup [.int e.k,e.v])
 tv:∀e∈ts,e.v=aP (mkOf x0.pa e.k) mo/\∃i:Int,e.v= .int i
 ek:ts.map (·.k)=cW up av e ks
 va:∀k,aP (mkOf x.pa k) mo=aP (mkOf x0.pa k) mo
 fl:x.fl<=mo
 fc:0<way->x.fl=x0.fl
 hw:way=0->mo∈x.ho.map (·.1)
 h2:way=2->i=0->mo∈x.ho.map (·.1)
 nw:mo<=x.now
 n9:x.now<=760
 hn:x.ho.length<=x0.ho.length+2*i
theorem S47.go {H0:Hp} {F0:Addr->Prop} {x0 x:HSt} {D:Addr} {way mo:Int} {e:V} (st:S47 K t H0 H F0 F x0 x a b D p way mo up av e ks ts i) (J:J47 K t H' a b F' x') (f:Fr (Wh F b) (Wh F' b) H H') (va:∀k,aP (mkOf x'.pa k) mo=aP (mkOf x.pa k) mo) (fl:x'.fl<=mo) (fc:0<way->x'.fl=x.fl) (hw:way=0->mo∈x'.ho.map (·.1)) (h2:way=2->i=0->mo∈x'.ho.map (·.1)) (nw:x.now<=x'.now) (n9:x'.now<=760) (hn:x'.ho.length<=x0.ho.length+2*i):S47 K t H0 H' F0 F' x0 x' a b D p way mo up av e ks ts i:=by
 have g:∀z o,H z=some o->¬F z->z≠b->H' z=some o/\¬F' z:=λz o e n nb=>by
  obtain⟨h1,h2⟩:=f z o (λw=>w.elim n nb) e;exact⟨h1,λw=>h2 (.inl w)⟩
 have nb:∀{z:Addr} {o:HO},H z=some o->(∀kv,o≠ .dK kv)->z≠b:=λe n y=>by
  rw[y,st.J.di]at e;exact n _ (Option.some.inj e).symm
 obtain⟨dx,fs,hp,ho⟩:=st.tk;have gp:=g _ _ hp st.nt (nb hp λ_ y=>by cases y);have gD:=g _ _ st.hD st.nD (nb st.hD λ_ y=>by cases y);refine⟨J,λz o n e=>?_,st.nb,⟨dx,fs,gp.1,ho⟩,gp.2,gD.1,gD.2,λe he=>?_,st.tv,st.ek,λk=>(va k).trans (st.va k),fl,λh=>(fc h).trans (st.fc h),hw,h2,Xi st.nw nw,n9,hn⟩
 .obtain⟨h1,h2⟩:=st.fr z o n e;exact g z o h1 h2 λy=>by rw[y,st.nb]at e;cases e
 .have h:=st.tu e he;refine(g _ _ h (λy=>?_) (nb h λ_ y=>by cases y)).1;obtain⟨o,h1,h2⟩:=st.J.A.dom y;rw[h]at h1;exact h2 _ (Option.some.inj h1).symm
def qh (K:PySem.W.Frag) (t:Adr):Sp:=λvs H Q _=>∃(a d p l:Addr) (mo way:Int) (F:Addr->Prop) (x:HSt) (up:Bool) (av e:V) (cs:List Int),vs=[.ref a,.ref d,.int mo,.ref p,.ref l,.int way]/\J47 K t H a d F x/\TkA t H p up av e/\¬F p/\H l=some (.lst (cs.map V.int))/\¬F l/\0<cs.length/\cs.length<=100/\mo=x.now/\0<=way/\(way≠1->mo∈x.ho.map (·.1))/\x.now<=760/\x.ho.length<=100/\
 ∀(H':Hp) (F':Addr->Prop) (x':HSt),HoA K t H' a F' x'->Fr F F' H H'->x.now<=x'.now->x'.now<=760->x'.ho.length<=1700->x'.ma=0->Q (.bl true) H'
def At (K:PySem.W.Frag):Sp:=λvs H Q _=>∃(a:Addr) (ns:List Int),vs=[.ref a]/\SqL K H a (ns.map V.int)/\ns.length<=63/\∀H',Q (.bl true) H'
theorem Bj {c:TT} {b:TS} (h1:∀b':TS,(∀H4,Same H H4->b' D σ H4)->Ef c u b' D σ H) (h2:∀H4,Same H H4->b D σ H4):Ef c u b D σ H:=h1 b h2
theorem o3 {kv:List (Int×V)} (h:aK kv k=some v):(k,v)∈kv:=by
 induction kv with
 |nil=>rw[iy]at h;cases h
 |cons p r ih=>
  by_cases e:p.1=k
  .rw[a8 e]at h;cases h;rw[<-e];exact Qd
  .rw[aZ e]at h;exact Qa _ (ih h)
theorem HoA.nd {x:HSt} (A:HoA K t H a F x):(x.st.kv.map (·.1)).Nodup:=by
 obtain⟨s,l,wr,p,h,Fs,Fl,B,O,g⟩:=A;obtain⟨_,_,_,_,nd,_⟩:=B.sl;exact nd
theorem HoA.pkd {x:HSt} (A:HoA K t H a F x):(x.pa.map (·.k)).Nodup:=by
 obtain⟨s,l,wr,p,h,Fs,Fl,B,O,g⟩:=A;exact B.o.kd
theorem J47.sweep {d:Addr} {x:HSt} (J:J47 K t H a d F x) (A:HoA K t H' a F' {x with fl:=fl,pa:=pa}) (f:Fr F F' H H') (le:x.fl<=fl) (ln:fl<=x.now) (lh:∀p∈x.ho,fl<=p.1) (S:SwO fl x.pa.length x.pa pa):J47 K t H' a d F' {x with fl:=fl,pa:=pa}/\Pt47 x {x with fl:=fl,pa:=pa}:=by
 refine⟨⟨A,(f _ _ J.nF J.di).1,(f _ _ J.nF J.di).2,J.kb,J.iv,λk=>?_,λk hk=>?_,J.ma⟩,⟨QV _,le,λm k h1 h2=>?_,λ_ h=>h,λz hz=>?_⟩⟩
 .show aP (mkOf pa k) x.now=_;rw[S.mkOf,vz (J.A.ok.up k).1 ln];exact J.cu k
 .obtain⟨e',he',rfl⟩:=Qh.mp hk;obtain⟨j,hj⟩:=Z9.mp he';have jl:j<pa.length:=(Q3.mp hj).1;have sl:=S.ln;obtain⟨e,he⟩:∃e,x.pa[j]?=some e:=⟨_,Q4 (by lia)⟩;rw[(S.lo j e e' he hj).1];exact J.pk _ (Zm (Q2 he))
 .show aP (mkOf pa k) m=_;rw[S.mkOf,vz (J.A.ok.up k).1 h1]
 .obtain⟨p,hp,rfl⟩:=Qh.mp hz;exact lh p hp
theorem mP (T:Txt K mg t):FnOk P w K mg base CX0 7 t.pB t.jY ["_law_house","_law_plain","_law_cell","_law_calm"] (um K t):=by
 refine T.pE.okl sc__law_deed λ_ _ _ s H vs Q E hr h=>?_;obtain⟨a,d,c,cm,F,x,rfl,J,l1,l2,q⟩:=h;refine⟨_,(ae (aG (i:=4) sc__law_deed.nd rfl (Or.inl rfl) (aL (oV T) hr.mo (by rfl) T.xy T.rZ.kp T.xI .nil az (aa (pv 2) ag)))
   (ae (aG (i:=5) sc__law_deed.nd rfl (Or.inl rfl) (au (nu hr.hd) (by rfl) T.qd kB (aa (qQ QG Xh PySem.F.type_dict_keys yj (pv 1)) ag)))
   (ae (aG (i:=6) sc__law_deed.nd rfl (Or.inl rfl) (aD bn (aL (eW T) hr.mo (by rfl) T.bH T.bz.kp T.bI .nil az (aa (pv 2) (aa ai ag))) ai))
   (ah (aQ (PW.pt (fS (aA eF (pv 6) ai (ay _)) (dR (aA (Ew K rfl hr.u20) (pv 5) (eK ag) (ay _)))))
   (ae (aG (i:=4) sc__law_deed.nd rfl (Or.inl rfl) (aY aT (pv 5) (aD bn (aL (eW T) hr.mo (by rfl) T.bH T.bz.kp T.bI .nil az (aa (pv 2) (aa ai ag))) (au aq (by rfl) T.bB aX (aa (pv 5) ag))) (λ_ _=>rfl)))
   (ae (aJ (dU QG ZT Xr uK (pv 1) (aa (pv 4) ag)))
   (ah (aJ (aN (pv 0) T.ao T.BU (q5 T) hr.mo T.B8 .nil az (aa (pv 4) ag))))))
   (ah (aQ (PW.pt (fS (aA bV (pv 6) ai (ay _)) (dR (iW (bT (pv 3))))))
   (ah (aJ (cx (pv 0) T.ao T.rn (jh T) hr.mo T.rP .nil az)))
   (ah (aQ (aA bV (pv 6) ai (ay _))
   (ah (aJ (cx (pv 0) T.ao T.sE (jM T) hr.mo T.sL .nil az)))
   (ae (aG (i:=7) sc__law_deed.nd rfl (Or.inl rfl) ai)
   (ae (aQ (PW.pt (fS (aA oU (pv 6) ai (ay _)) (dR (aA eF (au zU (by rfl) T.bB aX (aa (pv 1) ag)) ai (ay _)))))
   (ah (aG (i:=7) sc__law_deed.nd rfl (Or.inl rfl) (aD bp ai (aD bn (aL (eW T) hr.mo (by rfl) T.bH T.bz.kp T.bI .nil az (aa (pv 2) (aa ai ag))) ai))))
   aF)
   (ah (jC PassesOwn.never rfl (oe (by rfl) T.xQ (aa (pv 7) ag)) (eV (i:=8) sc__law_deed.nd rfl (Or.inl rfl))
   (ae (aJ (aN (pv 0) T.ao T.uP (kL T) hr.mo T.vd .nil az (aa (aD bp (pv 4) (pv 8)) (aa (aD jE (aD bn (pv 2) (aD uC ai ai)) (pv 8)) ag))))
   (ah (p6 (jj hr) (pv 1) (aD bp (pv 4) (pv 8)) (aD jE (aD bn (pv 2) (aD uC ai ai)) (pv 8)) rfl))))))))))))))))
  ,?_⟩
 refine⟨_,rfl,c,rfl,λH1 ky s1 k0 k1=>?_⟩;have J1:=J.same s1;have m0:=J.ma;have n0:=J.A.ok.n0
 (try dsimp only)
 refine⟨_,rfl,.inr (.inr (.inl ⟨rfl,.inl ⟨_,J1.di⟩⟩)),d,_,rfl,rfl,J1.di,λvw nv=>⟨vw,d,_,x.st.kv.map (·.1),rfl,af,al nv _ _ J1.di,oB,λlm ms nl pm pw=>?_⟩⟩;have s3:=(al (o:=vwK vw d) nv).trans (al (o:= .lst (ms.map V.int)) nl);have hl:upd (upd H1 vw (vwK vw d)) lm (.lst (ms.map V.int)) lm=some (.lst (ms.map V.int)):=af
 (try dsimp only)
 generalize upd (upd H1 vw (vwK vw d)) lm (.lst (ms.map V.int))=H3 at s3 hl⊢;have J3:=J1.same s3;have sH3:=s1.trans s3;clear nv nl s3 J1 s1;refine⟨_,rfl,c,3,rfl,by decide,by decide,_,_,rfl,rfl,(by show(0:Int)<10;decide),?_⟩
 (try dsimp only)
 generalize dr6 c 3%10=way;refine Bj (λb' go=>?_) (λH4 s4=>?_)
 .refine⟨_,rfl,_,_,rfl,rfl,_,rfl,dC (λz=>?_) (λz=>bF (go _ (Same.refl _)))⟩;refine⟨_,rfl,Qi _,λr0 nr0=>⟨lm,r0,_,rfl,rfl,SqL.of (al nr0 _ _ hl),SqL.of af,_,rfl,?_⟩⟩;have s5:=al (o:= .lst []) nr0;generalize upd H3 r0 (.lst [])=H5 at s5⊢;by_cases em:ms=[]
  .rw[em];exact bF (go _ s5)
  .have hne:(ms.map V.int).isEmpty=false:=by
    cases ms with
    |nil=>exact absurd rfl em
    |cons g r=>rfl
   rw[hne];have J5:=J3.same s5;have hl5:=s5 _ _ hl;have p0:(0:Int)<((ms.map V.int).length:Int):=by
    cases ms with
    |nil=>exact absurd rfl em
    |cons g r=>simp
   have z0:=QK (dr6 c 4) (X3 p0);have z1:=QT (dr6 c 4) p0;obtain⟨y,hy,ey⟩:∃y,y∈ms/\atI (ms.map V.int) (dr6 c 4%((ms.map V.int).length:Int))=some (.int y):=by
    rw[Q0]at z0 z1⊢;refine⟨_,?_,m8 z0 z1⟩;rw[Qy,Q4 (by lia)];exact Z4 _
   have hg:y∈x.st.kv.map (·.1):=pm.mem_iff.mp hy;obtain⟨v,ev⟩:=ZM.mp (mem_keys.mp hg);have y0:=J.kb y hg;refine bN ⟨_,rfl,_,rfl,c,4,rfl,by decide,by decide,_,rfl,lm,_,rfl,.inl (SqL.of hl5),_,_,rfl,rfl,p0,lm,_,_,_,rfl,rfl,SqL.of hl5,ey,?_⟩
   (try dsimp only)
   refine⟨_,rfl,.inr (.inr (.inl ⟨rfl,.inl ⟨_,J5.di⟩⟩)),_,rfl,d,_,Sum.inl y,v,rfl,rfl,J5.di,liftK_val.trans ev,?_⟩;rw[lX];have A6:HoA K t (upd H5 d (.dK (aE (bi x.st.kv y)))) a F x:=J5.A.upd J5.nF λxs z=>by rw[J5.di]at z;cases z
   obtain⟨dx6,fs6,hi6,hm6,_⟩:=A6.ins;refine⟨_,rfl,a,dx6,fs6,rfl,hi6,hm6 _ (by decide+kernel),_,rfl,a,y,F,x,rfl,A6,y0,by lia,λ_ H7 F7 ks7 r7 q7 pa7 A7 N7 f7=>?_,λz=>by rw[ev]at z;cases z⟩;obtain⟨J7,P7⟩:=J5.drop rfl A7 N7 f7 y0;exact q H7 F7 _ J7 P7 (λ_=>rfl) (by show x.now+1<=_;lia) (by show x.ho.length<=_;lia) ((Fr.of_same (sH3.trans s5)).trans (Fr.wd.trans f7.wh))
 have J4:=J3.same s4;have sH4:=sH3.trans s4;clear J3 sH3 hl pm pw s4;refine Bj (λb' go=>?_) (λH5 s5=>?_)
 .refine⟨_,rfl,rfl,_,rfl,dC (λz=>?_) (λz=>bF (go _ (Same.refl _)))⟩;refine⟨_,rfl,cm,rfl,?_⟩;cases cm with
  |true=>exact bF (go _ (Same.refl _))
  |false=>
   obtain⟨dx4,fs4,hi4,hm4,_⟩:=J4.A.ins;refine bN ⟨_,rfl,a,dx4,fs4,rfl,hi4,hm4 _ (by decide+kernel),a,F,x,rfl,J4.A,by lia,by lia,λH5 F5 fl pa5 c1 c2 c3 S A5 f5=>?_⟩;have fb:x.fl<=fl/\fl<=x.now:=by
    by_cases ho:x.ho=[]
    .rw[c1 ho];exact⟨J.A.ok.fb.2,QV _⟩
    .obtain⟨y,hy,rfl⟩:=Qh.mp (c2 ho);exact⟨(J.A.ok.hv y hy).1,(J.A.ok.hv y hy).2.1⟩
   obtain⟨J5,P5⟩:=J4.sweep A5 f5 fb.1 fb.2 c3 S;exact q H5 F5 _ J5 P5 (λz=>by cases z) (by show x.now<=_;lia) (by show x.ho.length<=_;lia) ((Fr.of_same sH4).trans f5.wh)
 have J5:=J4.same s5;have sH5:=sH4.trans s5;clear J4 sH4 s5;obtain⟨dx5,fs5,hi5,hm5,_⟩:=J5.A.ins;refine⟨_,rfl,rfl,_,rfl,dC (λz=>?_) (λz=>?_)⟩
 .refine⟨_,rfl,a,dx5,fs5,rfl,hi5,hm5 _ (by decide+kernel),a,F,x,rfl,J5.A,by lia,λH6 F6 A6 f6=>?_⟩;have o:=Pt47.of J5.A.ok;refine q H6 F6 _ ⟨A6,(f6 _ _ J5.nF J5.di).1,(f6 _ _ J5.nF J5.di).2,J5.kb,J5.iv,J5.cu,J5.pk,J5.ma⟩ ⟨QV _,QV _,λ_ _ _ _=>rfl,λz hz=>?_,o.fh⟩ (λ_=>rfl) (by show x.now<=_;lia) (dH _ _ _) ((Fr.of_same sH5).trans f6.wh);show z∈(jS x.ho x.now).map (·.1);unfold jS;rw[mem_keys,cj];split
  .rfl
  .exact mem_keys.mp hz
 (try dsimp only)
 refine p5 (λσ H'=>σ=[some (.ref a),some (.ref d),some (.int c),some (.bl cm),some (.int ky),some (.ref lm),some (.int way),some (.int 1),none]/\H'=H5) (λnx go=>go _ _ ⟨rfl,rfl⟩) (λσ H6 w=>?_);obtain⟨rfl,rfl⟩:=w;refine p5 (λσ H'=>∃m:Int,1<=m/\m<=30/\σ=[some (.ref a),some (.ref d),some (.int c),some (.bl cm),some (.int ky),some (.ref lm),some (.int way),some (.int m),none]/\H'=H6) (λnx go=>?_) (λσ H7 w=>?_)
 .refine⟨_,rfl,_,_,rfl,rfl,_,rfl,dC (λ_=>?_) (λ_=>bF (go _ _ ⟨1,by decide,by decide,rfl,rfl⟩))⟩;refine⟨_,rfl,d,_,rfl,J5.di,_,_,rfl,rfl,_,rfl,dC (λ_=>?_) (λ_=>go _ _ ⟨1,by decide,by decide,rfl,rfl⟩)⟩;have e0:=QK (dr6 c 5) (show(30:Int)≠0 by decide);have e1:=QT (dr6 c 5) (show(0:Int)<30 by decide);exact⟨_,rfl,c,5,rfl,by decide,by decide,_,_,rfl,rfl,(by show(0:Int)<30;decide),_,_,rfl,rfl,go _ _ ⟨1+dr6 c 5%30,by lia,by lia,rfl,rfl⟩⟩
 obtain⟨m,g0,g1,rfl,rfl⟩:=w;have t9:(0:Int)<10^(9:Int).toNat:=by decide
 refine⟨_,rfl,m,rfl,by lia,by lia,rG (n:=m.toNat) (λj σ H'=>∃(F':Addr->Prop) (x':HSt) (v8:Option V),σ=[some (.ref a),some (.ref d),some (.int c),some (.bl cm),some (.int ky),some (.ref lm),some (.int way),some (.int m),v8]/\J47 K t H' a d F' x'/\Pt47 x x'/\x'.fl=x.fl/\x'.ho=x.ho/\x'.now<=x.now+j/\Fr (Wh F d) (Wh F' d) H H') ⟨F,x,none,rfl,J5,Pt47.of J5.A.ok,rfl,rfl,by lia,Fr.of_same sH5⟩ (λj σ H7 hj w=>?_) (λσ H7 w=>?_)⟩
 .obtain⟨F',x',v8,rfl,J',P',ef,eh,nw,f'⟩:=w;obtain⟨dx',fs',hi',hm',_⟩:=J'.A.ins;have ma':=J'.ma;refine⟨_,rfl,a,dx',fs',rfl,hi',hm' _ (by decide+kernel),_,rfl,_,rfl,_,_,rfl,rfl,_,rfl,_,_,rfl,rfl,⟨by decide,by decide,by decide⟩,_,_,rfl,rfl,t9,_,rfl,_,_,rfl,rfl,a,ky+(0+(j:Int)),c%10^(9:Int).toNat-(0+(j:Int)),F',x',rfl,J'.A,by lia,by lia,λH8 F8 ks8 r8 q8 pa8 A8 N8 f8=>?_⟩;obtain⟨J9,P9⟩:=J'.put A8 N8 f8 (by lia);obtain⟨d8,n8⟩:=f8 _ _ J'.nF J'.di;refine⟨_,rfl,_,_,rfl,rfl,⟨by decide,by decide,by decide⟩,_,_,rfl,rfl,t9,_,rfl,_,_,rfl,rfl,_,rfl,_,rfl,_,rfl,_,_,rfl,rfl,d,_,rfl,DPut.k (k:=Sum.inl (ky+(0+(j:Int)))) d8 (by rw[cP];have:=J'.A.ok.sl;exact bc (by lia)),?_⟩;rw[eM];exact⟨F8,_,_,rfl,J9,P'.trans P9,ef,eh,by show x'.now+1<=_;lia,(f'.trans f8.wh).trans Fr.wd⟩
 .obtain⟨F',x',v8,rfl,J',P',ef,eh,nw,f'⟩:=w;exact q H7 F' x' J' P' (λ_=>ef) (by lia) (by rw[eh];lia) f'
theorem ou {N:Addr} {kd:Str} {ok:V->V->Prop} {a e:V} {E:XK} (ho:ok a e) (sa:Sc a) (se:Sc e) (x dx:Addr) (nx:H x=none) (nd:H dx=none)
  (q:∀H' fs,Same H H'->H' x=some (.ins C dx fs)->xL kd fs a e->Q .non H'):Au C N kd ok [.ref x,a,e] (upd (upd H dx (.own x)) x (.ins C dx [])) Q E:=
 ⟨x,dx,a,e,rfl,af,sa,se,λ_ H' fs k h f=>q H' fs (zf nx nd k) h f,λz=>absurd ho z⟩
theorem BH {ns:List Int} (p0:(0:Int)<((ns.map V.int).length:Int)) (z:Int):∃y,y∈ns/\atI (ns.map V.int) (z%((ns.map V.int).length:Int))=some (.int y):=by
 have z0:=QK z (X3 p0);have z1:=QT z p0;rw[Q0]at z0 z1⊢;refine⟨_,?_,m8 z0 z1⟩;rw[Qy,Q4 (by lia)];exact Z4 _
theorem sw (T:Txt K mg t):FnOk P w K mg base CX0 5 t.nC t.i8 ["_law_cell","_law_plain"] (r9 K t):=by
 refine T.vk.okl sc__law_token λ_ _ _ s H vs Q E hr h=>?_;obtain⟨d,kv,c,rfl,hd,kb,ln,q⟩:=h;refine⟨_,(ae (aG (i:=2) sc__law_token.nd rfl (Or.inl rfl) (aD xm (au (nu hr.hd) (by rfl) T.qd kB (aa (qQ QG Xh PySem.F.type_dict_keys yj (pv 1)) ag)) (eK (aa (aL (oV T) hr.mo (by rfl) T.xy T.rZ.kp T.xI .nil az (aa (pv 0) ag)) ag))))
   (ae (aG (i:=3) sc__law_token.nd rfl (Or.inl rfl) (aY aT (pv 2) (aD bn (aL (eW T) hr.mo (by rfl) T.bH T.bz.kp T.bI .nil az (aa (pv 0) (aa ai ag))) (au aq (by rfl) T.bB aX (aa (pv 2) ag))) (λ_ _=>rfl)))
   (ae (aG (i:=4) sc__law_token.nd rfl (Or.inl rfl) (aD bp (aY aT (pv 2) (aD bn (aL (eW T) hr.mo (by rfl) T.bH T.bz.kp T.bI .nil az (aa (pv 0) (aa ai ag))) (au aq (by rfl) T.bB aX (aa (pv 2) ag))) (λ_ _=>rfl)) (aD bn (aL (eW T) hr.mo (by rfl) T.bH T.bz.kp T.bI .nil az (aa (pv 0) (aa ai ag))) ai)))
   (ae (aG (i:=5) sc__law_token.nd rfl (Or.inl rfl) (aD bn (aL (eW T) hr.mo (by rfl) T.bH T.bz.kp T.bI .nil az (aa (pv 0) (aa ai ag))) ai))
   (ae (aQ (aA bV (pv 5) ai (ay _))
   (ah (aI (fW T.AR (oW T) hr.mo (by rfl) T.oY T.wD.choose_spec.1 T.wD.choose_spec.2 az)))
   aF)
   (ae (aQ (aA bV (pv 5) ai (ay _))
   (ah (aI (fW T.uM (kM T) hr.mo (by rfl) T.mU T.sN.choose_spec.1 T.sN.choose_spec.2 az)))
   aF)
   (ae (aQ (aA bV (pv 5) ai (ay _))
   (ah (aI (kt T.AR (oW T) hr.mo (by rfl) T.oY T.wE.choose_spec.1 T.wE.choose_spec.2 az (aa (pv 3) ag))))
   aF)
   (ae (aQ (aA bV (pv 5) ai (ay _))
   (ah (aI (kt T.uM (kM T) hr.mo (by rfl) T.mU T.sO.choose_spec.1 T.sO.choose_spec.2 az (aa (pv 3) ag))))
   aF)
   (ae (aQ (aA bV (pv 5) ai (ay _))
   (ah (aI (kt T.AR (oW T) hr.mo (by rfl) T.oY T.xJ .nil az (aa (au (kA rfl) (by rfl) T.xR rM (aa (pv 3) (aa (pv 4) ag))) (aa (au (oK rfl) (by rfl) T.DA xH (aa (pv 3) (aa (pv 4) ag))) ag)))))
   aF)
   (ah (aI (kt T.uM (kM T) hr.mo (by rfl) T.mU T.ve .nil az (aa (au (oK rfl) (by rfl) T.DA xH (aa (pv 3) (aa (pv 4) ag))) (aa (au (kA rfl) (by rfl) T.xR rM (aa (pv 3) (aa (pv 4) ag))) ag))))))))))))))
  ,?_⟩
 refine⟨_,rfl,.inr (.inr (.inl ⟨rfl,.inl ⟨_,hd⟩⟩)),d,_,rfl,rfl,hd,λvw nv=>⟨vw,d,_,kv.map (·.1),rfl,af,al nv _ _ hd,oB,λlm ms nl pm pw=>?_⟩⟩;have s1:=(al (o:=vwK vw d) nv).trans (al (o:= .lst (ms.map V.int)) nl);have hl:upd (upd H vw (vwK vw d)) lm (.lst (ms.map V.int)) lm=some (.lst (ms.map V.int)):=af;generalize upd (upd H vw (vwK vw d)) lm (.lst (ms.map V.int))=H1 at s1 hl⊢;refine⟨_,rfl,c,rfl,λH2 ky s2 k0 k1=>⟨(by show 1<=sizeLine;decide),λl2 n2=>?_⟩⟩;have lms:ms.length=kv.length:=by have:=pm.length_eq;rwa [Q0]at this
 refine⟨lm,l2,_,_,rfl,rfl,al n2 _ _ (s2 _ _ hl),af,(by rw[Q0];have:100000<=sizeLine:=(by decide);simp only[Qf,X1];lia),λl3 n3=>?_⟩;have s3:=(s1.trans s2).trans ((al (o:= .lst [.int ky]) n2).trans (al (o:= .lst (ms.map V.int++ [.int ky])) n3));have h3:upd (upd H2 l2 (.lst [.int ky])) l3 (.lst (ms.map V.int++ [.int ky])) l3=some (.lst ((ms++ [ky]).map V.int)):=by rw[af,Qm];rfl
 (try dsimp only)
 generalize upd (upd H2 l2 (.lst [.int ky])) l3 (.lst (ms.map V.int++ [.int ky]))=H3 at s3 h3⊢;have n0:∀y∈ms++ [ky],0<=y:=λy hy=>by
  rcases Q6.mp hy with h|h
  .exact kb y (pm.mem_iff.mp h)
  .rw[Qe.mp h];exact k0
 have p0:(0:Int)<(((ms++ [ky]).map V.int).length:Int):=by rw[Q0,Q9,Qz];lia
 generalize ms++ [ky]=ns at h3 n0 p0⊢;obtain⟨y,ym,ey⟩:=BH p0 (dr6 c 6);obtain⟨y2,ym2,ey2⟩:=BH p0 (dr6 c 7);have b0:=QK (dr6 c 8) (show(2:Int)≠0 by decide);have y0:=n0 y ym;have y20:=n0 y2 ym2;refine⟨_,rfl,_,rfl,c,6,rfl,by decide,by decide,_,rfl,l3,_,rfl,.inl (SqL.of h3),_,_,rfl,rfl,p0,l3,_,_,_,rfl,rfl,SqL.of h3,ey,?_⟩
 (try dsimp only)
 refine⟨_,rfl,_,rfl,c,7,rfl,by decide,by decide,_,rfl,l3,_,rfl,.inl (SqL.of h3),_,_,rfl,rfl,p0,l3,_,_,_,rfl,rfl,SqL.of h3,ey2,_,rfl,c,8,rfl,by decide,by decide,_,_,rfl,rfl,(by show(0:Int)<2;decide),_,_,rfl,rfl,?_⟩
 (try dsimp only)
 generalize hz:y2+dr6 c 8%2=z;have z0:0<=z:=by lia
 refine⟨_,rfl,c,9,rfl,by decide,by decide,_,_,rfl,rfl,(by show(0:Int)<6;decide),?_⟩
 (try dsimp only)
 generalize dr6 c 9%6=way;have mk:∀(up:Bool) (av e:V) (x dx:Addr),H3 x=none->(if up=true then okU av e else okD av e)->∀(H':Hp) (fs:List (Str×V)),Same H3 H'->H' x=some (.ins (if up=true then t.cR else t.ba) dx fs)->xL (if up=true then "up" else "down") fs av e->Q (.ref x) H':=λup av e x dx nx ok H' fs s h f=>q H' x up av e (s3.trans s) (dZ s3 nx) ⟨dx,fs,h,f,ok⟩;refine⟨_,rfl,rfl,_,rfl,dC (λ_=>?_) (λ_=>?_)⟩
 .have ok:okU (.int 0) .non:=⟨0,rfl,QV _,.inl rfl⟩;exact λx dx nx nd ne=>ou ok trivial trivial x dx nx nd λH' fs s h f=>⟨rfl,mk true _ _ x dx nx ok H' fs s h f⟩
 refine⟨_,rfl,rfl,_,rfl,dC (λ_=>?_) (λ_=>?_)⟩
 .have ok:okD .non (.int 0):=⟨0,rfl,QV _,.inl rfl⟩;exact λx dx nx nd ne=>ou ok trivial trivial x dx nx nd λH' fs s h f=>⟨rfl,mk false _ _ x dx nx ok H' fs s h f⟩
 refine⟨_,rfl,rfl,_,rfl,dC (λ_=>?_) (λ_=>?_)⟩
 .have ok:okU (.int y) .non:=⟨y,rfl,y0,.inl rfl⟩;exact⟨_,rfl,λx dx nx nd ne=>ou ok trivial trivial x dx nx nd λH' fs s h f=>⟨rfl,mk true _ _ x dx nx ok H' fs s h f⟩⟩
 refine⟨_,rfl,rfl,_,rfl,dC (λ_=>?_) (λ_=>?_)⟩
 .have ok:okD (.int y) (.int 0):=⟨0,rfl,QV _,.inr ⟨y,rfl,y0⟩⟩;exact⟨_,rfl,λx dx nx nd ne=>ou ok trivial trivial x dx nx nd λH' fs s h f=>⟨rfl,mk false _ _ x dx nx ok H' fs s h f⟩⟩
 have mm:0<=(if z<y then z else y)/\(if z<y then z else y)<=(if z>y then z else y):=by constructor<;>(repeat split)<;>lia
 refine⟨_,rfl,rfl,_,rfl,dC (λ_=>?_) (λ_=>?_)⟩
 .have ok:okU (.int (if z<y then z else y)) (.int (if z>y then z else y)):=⟨_,rfl,mm.1,.inr ⟨_,rfl,mm.2⟩⟩;exact⟨_,rfl,_,rfl,y,z,rfl,_,rfl,_,rfl,y,z,rfl,λx dx nx nd ne=>ou ok trivial trivial x dx nx nd λH' fs s h f=>⟨rfl,mk true _ _ x dx nx ok H' fs s h f⟩⟩
 .have ok:okD (.int (if z>y then z else y)) (.int (if z<y then z else y)):=⟨_,rfl,mm.1,.inr ⟨_,rfl,mm.2⟩⟩;exact⟨_,rfl,_,rfl,y,z,rfl,_,rfl,_,rfl,y,z,rfl,λx dx nx nd ne=>ou ok trivial trivial x dx nx nd λH' fs s h f=>⟨rfl,mk false _ _ x dx nx ok H' fs s h f⟩⟩
theorem uI (T:Txt K mg t):FnOk P w K mg base CX0 1 t.pA t.jX ["_law_token_here","_law_key_here"] (ul t):=by
 refine T.wH.okl uw λ_ _ _ s H vs Q E hr h=>?_;obtain⟨p,up,av,e,k,rfl,TK,q⟩:=h;refine⟨_,(ae (aQ (bT (au (bU K rfl) (by rfl) T.bG bf (aa (pv 0) (aa (cM (v:= .ref t.cR) (by rfl) T.oY rfl) ag))))
   (ah (aI (fX (bq mN (am (pv 0) rfl) (pv 1) (ay _)) (eJ (yb (bq jF (am (pv 0) rfl) dA (ay _)) (eJ (bq eF (pv 1) (am (pv 0) rfl) (ay _))))))))
   aF)
   (ah (aI (fX (bq mN (am (pv 0) rfl) (pv 1) (ay _)) (eJ (yb (bq jF (am (pv 0) rfl) dA (ay _)) (eJ (bq mN (pv 1) (am (pv 0) rfl) (ay _)))))))))
  ,?_⟩
 obtain⟨dx,fs,hp,tf,ok⟩:=TK;cases up with
 |true=>
  have hp:H p=some (.ins t.cR dx fs):=hp;obtain⟨i,rfl,i0,he⟩:=(show okU av e from ok);refine⟨_,rfl,_,_,_,_,rfl,TyOf.ins hp T.du T.cc.1 T.cc.2 T.cc.3 T.cc.4,T.mW,_,rfl,bN ⟨_,rfl,p,_,dx,fs,_,rfl,hp,T.du,T.jP,tf.at_,_,rfl,_,_,rfl,rfl,_,rfl,?_⟩⟩;rcases he with rfl|⟨j,rfl,ij⟩
  .have q:Q (.bl (decide (i<=k))) H:=q;by_cases c:i<=k
   .rw[decide_eq_true c]at q⊢;exact bN ⟨_,rfl,p,_,dx,fs,_,rfl,hp,T.du,T.cO,tf.end_,rfl,_,rfl,oE rfl q⟩
   .rw[decide_eq_false c]at q⊢;exact bF q
  .have q:Q (.bl (decide (i<=k)&&decide (k<j))) H:=q;by_cases c:i<=k
   .rw[decide_eq_true c,XD]at q;rw[decide_eq_true c];exact bN ⟨_,rfl,p,_,dx,fs,_,rfl,hp,T.du,T.cO,tf.end_,rfl,_,rfl,bJ (λz=>by cases z) ⟨_,rfl,_,rfl,p,_,dx,fs,_,rfl,hp,T.du,T.cO,tf.end_,_,_,rfl,rfl,q⟩⟩
   .rw[decide_eq_false c,X4]at q;rw[decide_eq_false c];exact bF q
 |false=>
  have hp:H p=some (.ins t.ba dx fs):=hp;obtain⟨j,rfl,j0,ha⟩:=(show okD av e from ok);refine⟨_,rfl,_,_,_,_,rfl,TyOf.ins hp T.bx T.bg.1 T.bg.2 T.bg.3 T.bg.4,T.lY,_,rfl,bF ⟨_,rfl,p,_,dx,fs,_,rfl,hp,T.bx,T.dF,tf.end_,_,rfl,_,_,rfl,rfl,_,rfl,?_⟩⟩;rcases ha with rfl|⟨i,rfl,ij⟩
  .have q:Q (.bl (decide (j<=k))) H:=q;by_cases c:j<=k
   .rw[decide_eq_true c]at q⊢;exact bN ⟨_,rfl,p,_,dx,fs,_,rfl,hp,T.bx,T.cy,tf.at_,rfl,_,rfl,oE rfl q⟩
   .rw[decide_eq_false c]at q⊢;exact bF q
  .have q:Q (.bl (decide (j<=k)&&decide (k<=i))) H:=q;by_cases c:j<=k
   .rw[decide_eq_true c,XD]at q;rw[decide_eq_true c];exact bN ⟨_,rfl,p,_,dx,fs,_,rfl,hp,T.bx,T.cy,tf.at_,rfl,_,rfl,bJ (λz=>by cases z) ⟨_,rfl,_,rfl,p,_,dx,fs,_,rfl,hp,T.bx,T.cy,tf.at_,_,_,rfl,rfl,q⟩⟩
   .rw[decide_eq_false c,X4]at q;rw[decide_eq_false c];exact bF q
theorem vS (T:Txt K mg t):FnOk P w K mg base CX0 2 t.rT t.mh ["_law_token_here","_law_plain"] (vF t):=by
 refine T.xN.okl sc__law_due λ_ _ _ s H vs Q E hr h=>?_;obtain⟨p,d,up,av,e,kv,rfl,TK,hd,nd,iv,lk,q⟩:=h;refine⟨_,(ae (mM (i:=2) rfl (CScope.of (M:=["_law_row"]) (N:=["_law_token_here","_law_plain","_law_rows"]) (N':=["_law_token_here","_law_plain","_law_rows"]) (dsc:=aj iP) rfl rfl (by decide+kernel)) (fw (au (sG hr.hd) (by rfl) T.qd kB (aa (qQ QG Xd PySem.F.type_dict_items vW (pv 1)) ag))) (λ_ _ _ _ _=>(bT (aL (uI T) hr.mo (by rfl) T.DW T.wH.kp T.D4 .nil az (aa (pv 1) (aa (aY (uU K rfl) (pv 0) ai (λ_ _=>rfl)) ag))))) (λ_ _ _ _ _=>(pv 0)) sc__law_due.nd rfl rfl)
   (ae (aQ (bT (au (bU K rfl) (by rfl) T.bG bf (aa (pv 0) (aa (cM (v:= .ref t.ba) (by rfl) T.mU rfl) ag))))
   (ah (aI (CS (pv 2) eU eU (tq nQ ai))))
   aF)
   (ah (aI (pv 2)))))
  ,?_⟩
 obtain⟨ns,rfl⟩:=yA iv;have ti:H d=some (.dK (ivs ns)):=by
  unfold aE at hd;rw[QD]at hd;exact hd
 rw[Q0]at lk;refine⟨_,rfl,⟨.inr (.inr (.inl ⟨rfl,.inl ⟨_,ti⟩⟩)),d,_,rfl,rfl,ti,λvw nv=>⟨vw,d,ns,rfl,af,al nv _ _ ti,λH1 l es s1' nl hl eu pm pw=>?_⟩⟩⟩;have s1:Same H H1:=(al nv).trans s1';have kn:(ns.map λp=>(p.1,V.int p.2)).map (·.1)=ns.map (·.1):=by rw[QD];rfl
 rw[kn]at nd;have vm:∀{p:Int×Int},p∈ns->aK (ns.map λp=>(p.1,V.int p.2)) p.1=some (.int p.2):=λhp=>vv (kn▸nd) (Qh.mpr ⟨_,hp,rfl⟩);have e2:es.map (λe=>e.2.1)=(es.map (·.2)).map (·.1):=by rw[QD];rfl
 have ne:((es.map (·.2)).map (·.1)).Nodup:=((pm.map (·.1)).nodup_iff).mpr nd;have re:cV (es.map λe=>e.2.1):=by
  rw[e2];refine Zy.mpr ((pw.and (Zy.mp ne)).imp λ{p q} h=>?_);obtain⟨h1,h2⟩:=h;rw[HT.lexLt_cons,if_neg (Ne.symm h2)]at h1;have:=of_decide_eq_false h1;lia
 have mz:∀z,z∈es.map (λe=>e.2.1)↔z∈(ns.map λp=>(p.1,V.int p.2)).map (·.1):=λz=>by rw[e2,kn,(pm.map (·.1)).mem_iff]
 have el:es.length<=3000:=by
  have:=pm.length_eq;rw[Q0]at this;lia
 have TK1:=TK.same s1;refine⟨l,rfl,⟨_,SqL.of hl⟩,λD hD=>?_⟩;refine gw (K:=K) (a:=l) (xs:=es.map λe=>V.ref e.1) (λi ys H2=>H2=upd H1 D (.lst ys)/\ys=((es.take i).filter λy=>hK up av e y.2.1).map λe=>V.ref e.1) ⟨rfl,rfl⟩ (λi ys H2 _ w=>SqL.of (by rw[w.1,ac (ak hl hD)];exact hl)) (λi v ys H2 hx w hDD=>?_) (λys H2 w hDD=>?_)
 .have hi:=(Q3.mp hx).1;obtain⟨y,ey,rfl⟩:∃y,es[i]?=some y/\v= .ref y.1:=by
   rw[Qg]at hx;cases e:es[i]? with
   |none=>rw[e]at hx;cases hx
   |some y=>rw[e]at hx;cases hx;exact⟨y,rfl,rfl⟩
  have ty1:=(eu y (Q2 ey)).2;have ty:H2 y.1=some (.tup [.int y.2.1,.int y.2.2]):=by rw[w.1,ac (ak ty1 hD)];exact ty1
  have st:(es.take (i+1)).filter (λy=>hK up av e y.2.1)=(es.take i).filter (λy=>hK up av e y.2.1)++(if hK up av e y.2.1=true then[y]else[]):=by
   rw[Qw,ey,QB];congr 1;show List.filter _ [y]=_;rw[QN];rfl
  have TK2:TkA t H2 p up av e:=by rw[w.1];exact TK1.same (al hD)
  refine⟨_,rfl,_,rfl,y.1,_,_,_,rfl,rfl,SqT.of ty,rfl,p,up,av,e,y.2.1,rfl,TK2,_,rfl,?_⟩
  (try dsimp only)
  cases c:hK up av e y.2.1 with
  |true=>
   refine bN ⟨_,rfl,CNext.mk hi hDD (bc ?_) ⟨by rw[w.1,cH],?_⟩⟩
   .rw[w.2,Q0];have:=Ql (λy:Addr×Int×Int=>hK up av e y.2.1) (es.take i);rw[Qb]at this;lia
   .rw[w.2,st,if_pos c,Qm];rfl
  |false=>
   refine bF (CSkip.mk hi hDD ⟨w.1,?_⟩);rw[w.2,st,if_neg (by rw[c];exact Q7),ZG]
 rw[Q0,QP]at w;obtain⟨rfl,w2⟩:=w;have s2:Same H1 (upd H1 D (.lst ys)):=al hD;have s3:=s1.trans s2;have TK3:=TK1.same s2;have fin:∀(zs:List (Addr×Int×Int)) (H':Hp) (l':Addr),Same H1 H'->H l'=none->H' l'=some (.lst (zs.map λe=>V.ref e.1))->(∀y∈zs,y∈es)->zs.map (λy=>y.2.1)=cW up av e (es.map λe=>e.2.1)->Q (.ref l') H':=λzs H' l' s' nl' hl' sub ek=>by
  refine q H' l' (zs.map λy=>⟨y.1,y.2.1,.int y.2.2⟩) (es.map λe=>e.2.1) (s1.trans s') nl' (by rw[QD];exact hl') (λy hy=>?_) re mz (by rw[QD];exact ek);obtain⟨z,hz,rfl⟩:=Qh.mp hy;have hz:=sub z hz;exact⟨s' _ _ (eu z hz).2,vm (pm.mem_iff.mp (Zm hz))⟩
 have sub:∀y∈es.filter (λy=>hK up av e y.2.1),y∈es:=λy hy=>(Qt.mp hy).1;have fm:∀zs:List (Addr×Int×Int),(zs.filter λy=>hK up av e y.2.1).map (λy=>y.2.1)=(zs.map λy=>y.2.1).filter (hK up av e):=λzs=>by rw[List.filter_map];rfl
 have nD:H D=none:=nW s1 hD;obtain⟨dx,fs,hp,tf,ok⟩:=TK3;unfold jk;cases up with
 |true=>
  have hp:upd H1 D (.lst ys) p=some (.ins t.cR dx fs):=hp;refine⟨_,rfl,_,_,_,_,rfl,TyOf.ins hp T.du T.cc.1 T.cc.2 T.cc.3 T.cc.4,T.EL,_,rfl,bF ⟨_,rfl,?_⟩⟩;exact fin _ _ _ s2 nD (by rw[af,w2]) sub (fm es)
 |false=>
  have hp:upd H1 D (.lst ys) p=some (.ins t.ba dx fs):=hp;refine⟨_,rfl,_,_,_,_,rfl,TyOf.ins hp T.bx T.bg.1 T.bg.2 T.bg.3 T.bg.4,T.uS,_,rfl,bN ⟨_,rfl,_,rfl,_,rfl,D,_,_,rfl,rfl,(by decide),SqL.of af,λr nr=>?_⟩⟩;refine fin ((es.filter λy=>hK false av e y.2.1).reverse) _ _ (s2.trans (al nr)) (nW s3 nr) (by rw[af,zc,w2,Xe]) (λy hy=>sub y (ZD.mp hy)) ?_;rw[Xe,fm,<-List.filter_reverse];rfl
theorem uH (T:Txt K mg t):FnOk P w K mg base CX0 1 t.pz t.jW ["_law_token_here","_law_found","_law_last"] (uk t):=by
 refine T.wG.okl uv λ_ _ _ s H vs Q E hr h=>?_;obtain⟨p,q',up,av,e,k,rfl,A,B,q⟩:=h;refine⟨_,(ae (aQ (bT (au (bU K rfl) (by rfl) T.bG bf (aa (pv 0) (aa (cM (v:= .ref t.cR) (by rfl) T.oY rfl) ag))))
   (ah (aI (fX (au (bU K rfl) (by rfl) T.bG bf (aa (pv 1) (aa (cM (v:= .ref t.cR) (by rfl) T.oY rfl) ag))) (fX (bq bV (am (pv 1) rfl) (aD bp (pv 2) ai) (ay _)) (eJ (bq bV (am (pv 1) rfl) (am (pv 0) rfl) (ay _)))))))
   aF)
   (ah (aI (fX (au (bU K rfl) (by rfl) T.bG bf (aa (pv 1) (aa (cM (v:= .ref t.ba) (by rfl) T.mU rfl) ag))) (fX (bq bV (am (pv 1) rfl) (aD jE (pv 2) ai) (ay _)) (eJ (bq bV (am (pv 1) rfl) (am (pv 0) rfl) (ay _))))))))
  ,?_⟩
 obtain⟨dx,fs,hp,tf,ok⟩:=A;obtain⟨dy,gs,hq,tg,ok'⟩:=B;cases up with
 |true=>
  have hp:H p=some (.ins t.cR dx fs):=hp;have hq:H q'=some (.ins t.cR dy gs):=hq;obtain⟨i,rfl,i0,he⟩:=(show okU av e from ok);refine⟨_,rfl,_,_,_,_,rfl,TyOf.ins hp T.du T.cc.1 T.cc.2 T.cc.3 T.cc.4,T.mW,_,rfl,bN ⟨_,rfl,_,_,_,_,rfl,TyOf.ins hq T.du T.cc.1 T.cc.2 T.cc.3 T.cc.4,T.mW,_,rfl,bN ⟨_,rfl,q',_,dy,gs,_,rfl,hq,T.du,T.jP,(show gs.lookup ("at":Str)=some (.int (k+1)) from tg.at_),_,rfl,_,_,rfl,rfl,rfl,_,rfl,?_⟩⟩⟩
  (try dsimp only)
  rw[decide_eq_true rfl];refine bN ⟨_,rfl,q',_,dy,gs,_,rfl,hq,T.du,T.cO,tg.end_,_,rfl,p,_,dx,fs,_,rfl,hp,T.du,T.cO,tf.end_,?_⟩;rcases he with rfl|⟨j,rfl,ij⟩
  .exact⟨rfl,q⟩
  .exact⟨rfl,by rw[decide_eq_true rfl];exact q⟩
 |false=>
  have hp:H p=some (.ins t.ba dx fs):=hp;have hq:H q'=some (.ins t.ba dy gs):=hq;obtain⟨j,rfl,j0,ha⟩:=(show okD av e from ok);refine⟨_,rfl,_,_,_,_,rfl,TyOf.ins hp T.bx T.bg.1 T.bg.2 T.bg.3 T.bg.4,T.lY,_,rfl,bF ⟨_,rfl,_,_,_,_,rfl,TyOf.ins hq T.bx T.bg.1 T.bg.2 T.bg.3 T.bg.4,T.uS,_,rfl,bN ⟨_,rfl,q',_,dy,gs,_,rfl,hq,T.bx,T.cy,(show gs.lookup ("at":Str)=some (.int (k-1)) from tg.at_),_,rfl,_,_,rfl,rfl,rfl,_,rfl,?_⟩⟩⟩
  (try dsimp only)
  rw[decide_eq_true rfl];refine bN ⟨_,rfl,q',_,dy,gs,_,rfl,hq,T.bx,T.dF,tg.end_,_,rfl,p,_,dx,fs,_,rfl,hp,T.bx,T.dF,tf.end_,rfl,?_⟩;rw[decide_eq_true rfl];exact q
theorem uG (T:Txt K mg t):FnOk P w K mg base CX0 8 t.pq t.jV ["_law_house","_law_moment","_law_token_here","_law_many"] (uj K t):=by
 refine T.pD.okl uu λ_ _ _ s H vs Q E hr h=>?_;obtain⟨a,p,mo,n,F,x,up,av,e,rfl,A,m1,m2,TK,l1,nd,k0,q⟩:=h;refine⟨_,(ae (aQ (aA bV (pv 3) ai (ay _))
   (ah (aI (aN (pv 0) T.ao T.iE (gG T) hr.mo T.nB.choose_spec.1 T.nB.choose_spec.2 uA (aa (pv 1) (aa (pv 2) ag)))))
   aF)
   (ah (aI (aN (pv 0) T.ao T.iE (gG T) hr.mo T.oP .nil uA (aa (pv 1) (aa (pv 2) (aa (pv 3) ag)))))))
  ,?_⟩
 obtain⟨dx,fs,hi,hm,_⟩:=A.ins;refine⟨_,rfl,rfl,_,rfl,dC (λz=>?_) (λ_=>?_)⟩
 .have z:n=10:=V.int.inj (of_decide_eq_true z);subst z;exact⟨_,rfl,a,dx,fs,rfl,hi,hm _ (by decide+kernel),_,rfl,_,rfl,a,p,mo,10,F,x,rfl,A,λ_ _=>⟨up,av,e,TK,l1,nd,k0,q⟩,λz=>absurd z (by lia),λ_ z=>absurd z (by lia)⟩
 .exact⟨_,rfl,a,dx,fs,rfl,hi,hm _ (by decide+kernel),_,rfl,_,rfl,_,rfl,a,p,mo,n,F,x,rfl,A,λ_ _=>⟨up,av,e,TK,l1,nd,k0,q⟩,λz=>absurd z (by lia),λ_ z=>absurd z (by lia)⟩
theorem pT (T:Txt K mg t):FnOk P w K mg base CX0 8 t.j7 t.gf ["_law_house","_law_moment","_law_token_here"] (pH K t):=by
 refine T.kj.okl sc__law_refused λ_ _ _ s H vs Q E hr h=>?_;obtain⟨a,p,mo,F,x,rfl,A,o,m0,m1,q⟩:=h;refine⟨_,(ae (aG (i:=3) sc__law_refused.nd rfl (Or.inl rfl) fV)
   (ae (Eo rfl rfl (λpn E=>(ah (aJ (AD (pv 0) T.ao T.iE (gG T) hr.mo T.oP .nil FG (aa (pv 1) (aa (pv 2) (aa ai ag)))))))
   (DR (i:=4) sc__law_refused.nd rfl rfl (by rfl) T.zw T.km (λea=>(ah (aG (i:=3) sc__law_refused.nd rfl (Or.inl rfl) (aD i4 fV (iz fB (by rfl) T.z8 u9 (aa (vP K rfl (pv 4) rfl) ag)))))) (DR (i:=4) sc__law_refused.nd rfl rfl (by rfl) T.oZ T.cf (λea=>(ah (aG (i:=3) sc__law_refused.nd rfl (Or.inl rfl) (aD i4 fV (iz fB (by rfl) T.z8 u9 (aa (vP K rfl (pv 4) rfl) ag)))))) CP)))
   (ah (aI (pv 3)))))
  ,?_⟩
 obtain⟨dx,fs,hi,hm,_⟩:=A.ins;have lg:=nR m0 m1;have nl:=yh m0 m1;have sl:∀{w:Str},(decide (w.length<=20):Bool)=true->w.length+(Str.ofString (toString mo)).length<=sizeLine:=λ{w} h=>Z6 (bc (by have:=of_decide_eq_true h;lia));refine⟨_,rfl,a,dx,fs,rfl,hi,hm _ (by decide+kernel),_,rfl,_,rfl,a,p,mo,3,F,x,rfl,A,(λz1 z2=>absurd o (by lia)),λlt ea od H' F' ex A' f=>?_,λle gt ea od H' F' ex A' f=>?_⟩
 .refine⟨ea,t.cE,rfl,ex.1,_,true,T.km,T.zb,bN ?_⟩;rcases ex.2 with⟨z,_⟩|⟨dy,rfl,hd⟩
  .cases z
  refine⟨_,rfl,ea,_,dy,_,_,_,rfl,ex.1,hd,T.km,T.oj,rfl,_,rfl,lg,_,_,rfl,rfl,sl rfl,?_⟩;have q:=q H' F' A' f;rw[if_pos lt]at q;exact⟨_,rfl,q⟩
 .refine⟨ea,t.bE,rfl,ex.1,_,false,T.cf,T.wZ,bF ⟨_,true,T.cf,T.vC,bN ?_⟩⟩;rcases ex.2 with⟨z,_⟩|⟨dy,rfl,hd⟩
  .cases z
  refine⟨_,rfl,ea,_,dy,_,_,_,rfl,ex.1,hd,T.cf,T.fY,rfl,_,rfl,lg,_,_,rfl,rfl,sl rfl,?_⟩;have q:=q H' F' A' f;rw[if_neg (by lia)]at q;exact⟨_,rfl,q⟩
theorem qU (T:Txt K mg t):FnOk P w K mg base CX0 9 t.kW t.g9 ["_law_house","_law_plain","_law_moment","_law_token_here","_law_cells","_law_way"] (qh K t):=by
 refine T.sQ.okl sc__law_walked λ_ _ _ s H vs Q E hr h=>?_;obtain⟨a,d,p,l,mo,way,F,x,up,av,e,cs,rfl,J,TK,np,hl,nl,c0,c1,em,w0,hw,n9,h9,q⟩:=h;refine⟨_,(ae (aG (i:=6) sc__law_walked.nd rfl (Or.inl rfl) (aL (vS T) hr.mo (by rfl) T.EC T.xN.kp T.E7 .nil az (aa (pv 3) (aa (pv 1) ag))))
   (ae (aG (i:=7) sc__law_walked.nd rfl (Or.inl rfl) (iz xF (by rfl) T.Gc Dq (aa (pv 1) ag)))
   (ae (jC PassesOwn.never rfl (oe (by rfl) T.xQ (aa (aD bp (au aq (by rfl) T.bB aX (aa (pv 6) ag)) ai) ag)) (eV (i:=8) sc__law_walked.nd rfl (Or.inl rfl))
   (ae (aG (i:=9) sc__law_walked.nd rfl (Or.inl rfl) (aD bp ai (aD bn (aL (eW T) hr.mo (by rfl) T.bH T.bz.kp T.bI .nil az (aa (aY aT (pv 4) (aD bn (pv 8) (au aq (by rfl) T.bB aX (aa (pv 4) ag))) (λ_ _=>rfl)) (aa ai ag))) ai)))
   (ae (aG (i:=10) sc__law_walked.nd rfl (Or.inl rfl) (aL (uG T) hr.mo (by rfl) T.wa T.pD.kp T.wB .nil az (aa (pv 0) (aa (pv 2) (aa (pv 3) (aa (pv 9) ag))))))
   (ae (aQ (PW.pt (tm (iW (bT (au j2 (by rfl) T.bG bf (aa (pv 10) (aa (uz (v:= .ty "tuple") (by rfl) T.Gb BC rfl) ag))))) (tm (aA AI (au aq (by rfl) T.bB aX (aa (pv 10) ag)) ai (ay _)) (qL (aA (AH K rfl hr.u20) (aY dB (pv 10) ai (λ_ _=>rfl)) (dj eS (pv 6) eU (cK (pv 9))) (ay _))))))
   (ah (aI qR))
   aF)
   (ae (aJ (dU Qp Ze Zf eL (aY dB (pv 10) ai (λ_ _=>rfl)) (aa (iX (aa ai (aa ai ag))) ag)))
   (ae (aQ (aA (AH K rfl hr.u20) (aY dB (aL (uG T) hr.mo (by rfl) T.wa T.pD.kp T.wB .nil az (aa (pv 0) (aa (pv 2) (aa (pv 3) (aa (pv 9) ag))))) ai (λ_ _=>rfl)) (dj eS (pv 6) eU (cK (pv 9))) (ay _))
   (ah (aI qR))
   aF)
   (ae (aG (i:=6) sc__law_walked.nd rfl (Or.inl rfl) (dj eS (pv 6) (cK (pv 9)) eU))
   (ae (aQ (aA (Ex K rfl hr.u20) (pv 6) (eK ag) (ay _))
   (ah (aI (bq jF (aY dB (pv 10) ai (λ_ _=>rfl)) dA (ay _))))
   aF)
   (ae (aQ (iW (bT (aL (uH T) hr.mo (by rfl) T.DU T.wG.kp T.D3 .nil az (aa (pv 3) (aa (aY dB (pv 10) ai (λ_ _=>rfl)) (aa (aY dB (aY aT (aY dB (pv 10) ai (λ_ _=>rfl)) (tq nQ ai) (λ_ _=>rfl)) ai (λ_ _=>rfl)) ag))))))
   (ah (aI qR))
   aF)
   (ae (aG (i:=3) sc__law_walked.nd rfl (Or.inl rfl) (aY dB (pv 10) ai (λ_ _=>rfl)))
   (ae (aQ (PW.pt (fS (aA bV (pv 5) ai (ay _)) (dR (aA bV (pv 8) ai (ay _)))))
   (ah (aJ (aN (pv 0) T.ao T.pX (iA T) hr.mo T.pZ .nil uA (aa (pv 2) ag))))
   aF)
   (ah (aQ (aA eF (am (pv 0) rfl) ai (ay _))
   (ah (aJ (aL (mP T) hr.mo (by rfl) T.wb T.pE.kp T.wC .nil az (aa (pv 0) (aa (pv 7) (aa (aY aT (pv 4) (aD bn (pv 8) (au aq (by rfl) T.bB aX (aa (pv 4) ag))) (λ_ _=>rfl)) (aa (bq oU (pv 5) ai (ay _)) ag)))))))
   aF)))))))))))))
   (ah (aI qR)))))
  ,?_⟩
 have sl:=J.A.ok.sl;refine⟨_,rfl,_,rfl,p,d,up,av,e,x.st.kv,rfl,TK,J.di,J.A.nd,J.iv,by lia,λH1 D ts ks s1 nD hD tu ri mk ek=>?_⟩;have J1:=J.same s1;refine⟨_,rfl,d,_,rfl,J1.di,λb nb=>?_⟩;have s2:Same H1 (upd H1 b (.dK (aE x.st.kv))):=al nb;have s3:=s1.trans s2;have ni:∀{z:Int} {v:V},aK x.st.kv z=some v->∃i:Int,v= .int i:=λh=>J.iv _ (o3 h);have ks':∀z,z∈ks↔aP (mkOf x.pa z) mo≠ .non:=λz=>by
  rw[mk,mem_keys,em,J.cu];cases c:aK x.st.kv z with
  |none=>exact⟨(λh=>by cases h),λh=>absurd rfl h⟩
  |some v=>
   obtain⟨i,rfl⟩:=ni c;exact⟨(λ_ h=>by cases h),λ_=>rfl⟩
 have lt:ts.length<=760:=by
  have h1:=congrArg List.length ek;rw[Q0]at h1;have h2:=wm (up:=up) (a:=av) (e:=e) (ks:=ks);have h3:=iB (ri.imp λh=>XR h) (S:=x.st.kv.map (·.1)) λz hz=>(mk z).mp hz;rw[Q0]at h3;lia
 have st0:S47 K t H (upd H1 b (.dK (aE x.st.kv))) F F x x a b D p way mo up av e ks ts 0:=by
  have nF:=J1.A.out nb;refine⟨⟨J1.A.same s2,af,nF,J.kb,J.iv,J.cu,J.pk,J.ma⟩,Fr.of_same s3,nW s1 nb,TK.same s3,np,s2 _ _ hD,J.A.out nD,λe he=>s2 _ _ (tu e he).1,λe he=>?_,ek,λ_=>rfl,?_,λ_=>rfl,λh=>hw (by lia),λh _=>hw (by lia),by lia,n9,Q5 _⟩
  .have h:=(tu e he).2;rw[em,J.cu,h];exact⟨rfl,ni h⟩
  .rw[em];exact J.A.ok.fb.2
 obtain⟨n0,l0⟩:∃n0,ts.length=n0:=⟨_,rfl⟩;rw[l0]at lt;generalize upd H1 b (.dK (aE x.st.kv))=H2 at s2 s3 st0⊢;refine⟨_,rfl,D,_,rfl,.inl (SqL.of st0.hD),_,_,rfl,rfl,?_⟩
 (try dsimp only)
 rw[Q0,l0];have tn:((n0:Int)+1).toNat=n0+1:=by lia
 refine⟨(n0:Int)+1,rfl,by lia,by lia,rG (n:=((n0:Int)+1).toNat) (λi σ H'=>∃(F':Addr->Prop) (x':HSt) (D' p':Addr) (av':V) (ts':List Tp) (v8 v9 v10:Option V),σ=[some (.ref a),some (.ref d),some (.int mo),some (.ref p'),some (.ref l),some (.int way),some (.ref D'),some (.ref b),v8,v9,v10]/\S47 K t H H' F F' x x' a b D' p' way mo up av' e ks ts' i/\i+ts'.length<=n0) ⟨F,x,D,p,av,ts,none,none,none,rfl,st0,by lia⟩ (λi σ H3 hi w=>?_) (λσ H3 w=>?_)⟩
 rotate_left
 .obtain⟨F',x',D',p',av',ts',v8,v9,v10,rfl,st,le⟩:=w;lia
 rw[tn]at hi;obtain⟨F',x',D',p',av',ts',v8,v9,v10,rfl,st,le⟩:=w;have hl3:=(st.fr _ _ nl hl).1;have pl:=st.J.A.ok.pl;have n9':=st.n9
 (try dsimp only)
 unfold jk;have cp:(0:Int)<((cs.map V.int).length:Int):=by rw[Q0];lia
 obtain⟨cv,hc,mc⟩:=FE (L:=cs.map V.int) (c:=0+(i:Int)) rfl cp;obtain⟨c,_,rfl⟩:=Qh.mp mc;refine⟨_,rfl,_,rfl,_,rfl,l,_,rfl,.inl (SqL.of hl3),_,_,rfl,rfl,cp,l,_,_,_,rfl,rfl,SqL.of hl3,hc,c,10,rfl,by decide,by decide,_,_,rfl,rfl,(by show(0:Int)<10;decide),_,_,rfl,rfl,?_⟩;have n1:0<=dr6 c 10%10/\dr6 c 10%10<10:=⟨QK _ (by decide),QT _ (by decide)⟩
 (try dsimp only)
 obtain⟨n,en⟩:∃n:Int,1+dr6 c 10%10=n:=⟨_,rfl⟩;rw[en];have n1:1<=n/\n<=10:=by lia
 clear en;refine⟨_,rfl,_,rfl,_,rfl,_,rfl,a,p',mo,n,F',x',up,av',e,rfl,st.J.A,st.fl,st.nw,st.tk,by lia,st.J.A.pkd,λe he=>st.J.pk _ (Zm he),λH4 r g v ts2 ks2 s4 pg=>?_⟩;have kk:ks2=ks:=qK pg.ri ri λz=>by
  rw[pg.me,ks' z,st.va];refine⟨λh=>h.2,λh=>⟨Classical.byContradiction λnm=>h ?_,h⟩⟩;rw[<-st.va,iC nm];rfl
 subst kk;have m0:n=(n.toNat:Int):=by lia
 have m1:1<=n.toNat:=by lia
 generalize n.toNat=m at m0 m1 pg;subst m0;have cT:∀l:List Tp,iI (l.map λe=>V.ref e.p) none (some (m:Int))=(l.take m).map λe=>V.ref e.p:=λl=>by
  unfold iI;rw[HT.sIx_none,HT.sIx_nat,Zq,Nat.sub_zero,Q0,<-Zg];congr 1;exact List.take_eq_take_iff.mpr (by lia)
 have cD:∀l:List Tp,iI (l.map λe=>V.ref e.p) (some (m:Int)) none=(l.drop m).map λe=>V.ref e.p:=λl=>by
  unfold iI;rw[HT.sIx_none,HT.sIx_nat,Q0,QC (by rw[Qr,Q0];lia),<-ZO];congr 1;by_cases c:m<=l.length
  .rw[X2 c]
  .rw[QU (by lia),QU (by lia)]
 have et:ts2.map Tp.kv=(ts'.take m).map Tp.kv:=by
  rw[Da (f:=λk=>aP (mkOf x.pa k) mo) λe he=>(pg.rw e he).2.trans (st.va _),Da (f:=λk=>aP (mkOf x.pa k) mo) λe he=>(st.tv e (QM he)).1,pg.tk,QW,<-st.ek];congr 1;exact Zg.symm
 have ti:∀e∈ts'.take m,∃i:Int,e.v= .int i:=λe he=>(st.tv e (QM he)).2;have ti2:∀e∈ts2,∃i:Int,e.v= .int i:=λe he=>by
  obtain⟨y,hy,ey⟩:=Qh.mp (et▸Zm (f:=Tp.kv) he);obtain⟨i,ei⟩:=ti y hy;exact⟨i,(congrArg Prod.snd ey).symm.trans ei⟩
 obtain⟨ln,alk⟩:=vL (K:=K) ti2 et;have hD4:=s4 _ _ st.hD;refine⟨_,rfl,_,_,_,_,rfl,TyOf.tup pg.tu,EE,true,rfl,bF ⟨_,rfl,r,_,rfl,.inr (SqT.of pg.tu),rfl,_,rfl,FO rfl ?_⟩⟩;refine⟨_,rfl,r,_,_,_,rfl,rfl,SqT.of pg.tu,rfl,_,rfl,_,rfl,_,rfl,D',_,rfl,SqL.of hD4,λS nS=>?_⟩;rw[cT];have s5:Same H4 (upd H4 S (.lst ((ts'.take m).map λe=>V.ref e.p))):=al nS;have tu4:∀e∈ts',H4 e.p=some (.tup [.int e.k,e.v]):=λe he=>s4 _ _ (st.tu e he);refine⟨g,S,_,_,rfl,rfl,.inl ⟨SqL.of (s5 _ _ pg.li),SqL.of af⟩,ln,alk (λe he=>s5 _ _ (pg.rw e he).1) (λe he=>s5 _ _ (tu4 e (QM he))),_,rfl,bF ?_⟩;generalize upd H4 S (.lst ((ts'.take m).map λe=>V.ref e.p))=H5 at s5⊢;have tr5:=s5 _ _ pg.tu;have lg5:=s5 _ _ pg.li
 (try unfold fI)
 (try dsimp only)
 refine⟨_,rfl,r,_,_,_,rfl,rfl,SqT.of tr5,rfl,.inl ⟨rfl,_,SqL.of lg5⟩,(by show 2<=sizeLine;decide),λz nz=>?_⟩;have s6:Same H5 (upd H5 z (.tup [.int 0,.int 0])):=al nz;refine⟨g,_,_,rfl,rfl,s6 _ _ lg5,bc (by rw[Q0,Q0]at ln;rw[Q0,ln];have:=List.length_take_le m ts';lia),?_⟩;have s7:Same H3 (upd (upd H5 z (.tup [.int 0,.int 0])) g (.lst (ts2.map (λe=>V.ref e.p)++ [.ref z]))):=λb o eb=>by
  rw[ac (ak eb pg.ng)];exact s6 _ _ (s5 _ _ (s4 _ _ eb))
 have k7:∀b o,H4 b=some o->b≠g->upd (upd H5 z (.tup [.int 0,.int 0])) g (.lst (ts2.map (λe=>V.ref e.p)++ [.ref z])) b=some o:=λb o eb ne=>by
  rw[ac ne];exact s6 _ _ (s5 _ _ eb)
 have hg7:upd (upd H5 z (.tup [.int 0,.int 0])) g (.lst (ts2.map (λe=>V.ref e.p)++ [.ref z])) g=some (.lst (ts2.map (λe=>V.ref e.p)++ [.ref z])):=af;generalize upd (upd H5 z (.tup [.int 0,.int 0])) g (.lst (ts2.map (λe=>V.ref e.p)++ [.ref z]))=H7 at s7 k7 hg7⊢;clear s6 s5 nz tr5 lg5;have hr7:=k7 _ _ pg.tu λy=>by have h1:=pg.tu;rw[y,pg.li]at h1;cases h1
 (try unfold fI)
 (try dsimp only)
 refine⟨_,rfl,_,rfl,_,rfl,_,rfl,a,p',mo,m,F',x',up,av',e,rfl,st.J.A.same s7,st.fl,st.nw,st.tk.same s7,by lia,st.J.A.pkd,λe he=>st.J.pk _ (Zm he),λH8 r2 g2 v2 ts3 ks3 s8 pg2=>?_⟩;have kk:ks3=ks2:=qK pg2.ri ri λz=>by
  rw[pg2.me,ks' z,st.va];refine⟨λh=>h.2,λh=>⟨Classical.byContradiction λnm=>h ?_,h⟩⟩;rw[<-st.va,iC nm];rfl
 have et2:ts3.map Tp.kv=(ts'.take m).map Tp.kv:=by
  rw[Da (f:=λk=>aP (mkOf x.pa k) mo) λe he=>(pg2.rw e he).2.trans (st.va _),Da (f:=λk=>aP (mkOf x.pa k) mo) λe he=>(st.tv e (QM he)).1,pg2.tk,QW,kk,<-st.ek];congr 1;exact Zg.symm
 have ti3:∀e∈ts3,∃i:Int,e.v= .int i:=λe he=>by
  obtain⟨y,hy,ey⟩:=Qh.mp (et2▸Zm (f:=Tp.kv) he);obtain⟨i,ei⟩:=ti y hy;exact⟨i,(congrArg Prod.snd ey).symm.trans ei⟩
 obtain⟨ln2,alk2⟩:=vL (K:=K) ti3 et2;have s9:=s7.trans s8;refine⟨r2,_,_,_,rfl,rfl,SqT.of pg2.tu,rfl,_,rfl,_,rfl,_,rfl,D',_,rfl,SqL.of (s9 _ _ st.hD),λS2 nS2=>?_⟩;rw[cT];have s10:Same H8 (upd H8 S2 (.lst ((ts'.take m).map λe=>V.ref e.p))):=al nS2;refine⟨g2,S2,_,_,rfl,rfl,.inl ⟨SqL.of (s10 _ _ pg2.li),SqL.of af⟩,ln2,alk2 (λe he=>s10 _ _ (pg2.rw e he).1) (λe he=>s10 _ _ (s9 _ _ (st.tu e (QM he)))),_,rfl,bF ?_⟩;generalize upd H8 S2 (.lst ((ts'.take m).map λe=>V.ref e.p))=H10 at s10⊢;have s11:=s9.trans s10;have k11:=s8.trans s10;clear pg2 alk2 ln2 ti3 et2 kk
 (try unfold fI)
 (try dsimp only)
 refine⟨_,rfl,_,rfl,_,rfl,D',_,rfl,SqL.of (s11 _ _ st.hD),λD2 nD2=>?_⟩;rw[cD];have s12:Same H10 (upd H10 D2 (.lst ((ts'.drop m).map λe=>V.ref e.p))):=al nD2;have hD2:upd H10 D2 (.lst ((ts'.drop m).map λe=>V.ref e.p)) D2=some (.lst ((ts'.drop m).map λe=>V.ref e.p)):=af;generalize upd H10 D2 (.lst ((ts'.drop m).map λe=>V.ref e.p))=H12 at s12 hD2⊢;have s13:=s11.trans s12;have k13:=k11.trans s12
 (try unfold fI)
 (try dsimp only)
 refine⟨_,rfl,(by show 0<=sizeLine;decide),λN nN=>?_⟩;have s14':Same H12 (upd H12 N (.lst [])):=al nN;have hN:upd H12 N (.lst []) N=some (.lst []):=af;generalize upd H12 N (.lst [])=H14 at s14' hN⊢;have s15:=s13.trans s14';have k15:=k13.trans s14';have hD15:=s14' _ _ hD2;have hr15:=k15 _ _ hr7;have hg15:=k15 _ _ hg7;have lh:ts'.length=(cW up av' e ks2).length:=by rw[<-st.ek,Q0]
 have nx:=pg.nx;rw[QW]at nx;unfold NxK at nx;refine⟨D2,N,_,rfl,rfl,SqL.of hD15,SqL.of hN,_,rfl,?_⟩;by_cases c2:ts'.length<=m
 .rw[QU c2];rw[if_pos (by lia)]at nx;subst nx;have hn:=st.hn;have nw:=st.nw;exact bN ⟨_,rfl,r,_,_,_,rfl,rfl,SqT.of hr15,rfl,rfl,q _ F' x' (st.J.A.same s15) (st.fr.trans (Fr.of_same s15)) (by lia) n9' (by lia) st.J.ma⟩
 rw[if_neg (by lia),if_neg (by lia)]at nx;obtain⟨q',k,hk,rfl,nq,TQ⟩:=nx;have ie:((ts'.drop m).map λe=>V.ref e.p).isEmpty=false:=by
  rw[List.isEmpty_eq_false_iff];intro y;have:=congrArg List.length y;rw[Q0,Qr]at this;have:ts'.length-m=0:=this;lia
 rw[ie];refine bF ?_;have TQ15:TkA t H14 q' up (.int (if up=true then k+1 else k-1)) e:=by
  obtain⟨dq,fq,h1,h2⟩:=TQ;refine⟨dq,fq,k15 _ _ (k7 _ _ h1 λy=>?_),h2⟩;rw[y,pg.li]at h1;cases h1
 obtain⟨y,hy,yk⟩:∃y:Tp,atI (ts2.map (λe=>V.ref e.p)++ [.ref z]) (-2)=some (.ref y.p)/\H14 y.p=some (.tup [.int k,y.v]):=by
  have lt2:ts2.length=m:=by
   have:=congrArg List.length pg.tk;rw[Q0,QW,Qb]at this;lia
  have e1:(ts2.map (·.k))[m-1]?=some k:=by
   rw[pg.tk,QW,ZN (by lia)];exact hk
  rw[Qg]at e1;cases c3:ts2[m-1]? with
  |none=>rw[c3]at e1;cases e1
  |some y=>
   rw[c3]at e1;have yk:y.k=k:=Option.some.inj e1;have ty:=(pg.rw y (Q2 c3)).1;rw[yk]at ty;refine⟨y,at2 ?_,k15 _ _ (k7 _ _ ty λz=>?_)⟩
   .rw[Q0,lt2,Qg,c3];rfl
   .rw[z,pg.li]at ty;cases ty
 (try unfold fI)
 (try dsimp only)
 refine⟨_,rfl,_,rfl,r,_,_,_,rfl,rfl,SqT.of hr15,rfl,_,rfl,r,_,_,_,rfl,rfl,SqT.of hr15,rfl,_,rfl,g,_,_,_,rfl,rfl,SqL.of hg15,hy,y.p,_,_,_,rfl,rfl,SqT.of yk,rfl,p',q',up,av',e,k,rfl,st.tk.same s15,TQ15,true,rfl,bF ?_⟩;have st1:S47 K t H H14 F F' x x' a b D2 q' way mo up (.int (if up=true then k+1 else k-1)) e ks2 (ts'.drop m) (i+1):=by
  refine⟨st.J.same s15,st.fr.trans (Fr.of_same s15),st.nb,TQ15,st.J.A.out nq,hD15,(st.J.A.same s11).out nD2,λe he=>s15 _ _ (st.tu e (Zz he)),λe he=>st.tv e (Zz he),?_,st.va,st.fl,st.fc,st.hw,λ_ h=>by lia,st.nw,st.n9,by have:=st.hn;lia⟩;rw[zI ri st.tk.ok m1 hk,<-st.ek,ZO]
 (try unfold fI)
 (try dsimp only)
 refine⟨_,rfl,r,_,_,_,rfl,rfl,SqT.of hr15,rfl,?_⟩
 (try unfold jk)
 (try unfold fI)
 (try dsimp only)
 refine xX (λσ H16=>∃(F6:Addr->Prop) (x6:HSt),σ=[some (.ref a),some (.ref d),some (.int mo),some (.ref q'),some (.ref l),some (.int way),some (.ref D2),some (.ref b),some (.int (0+(i:Int))),some (.int (m:Int)),some (.ref r)]/\S47 K t H H16 F F6 x x6 a b D2 q' way mo up (.int (if up=true then k+1 else k-1)) e ks2 (ts'.drop m) (i+1)/\x6.ho.length<=x.ho.length+2*i+1) (λnx go=>?_) (λσ H16 w=>?_)
 .have go1:x'.ho.length<=x.ho.length+2*i+1:=by have:=st.hn;lia
  have stay:=go _ _ ⟨F',x',rfl,st1,go1⟩;refine⟨_,rfl,rfl,_,rfl,dC (λc3=>?_) (λ_=>bF stay)⟩;have w2:way=2:=V.int.inj (of_decide_eq_true c3);refine⟨_,rfl,rfl,_,rfl,dC (λc4=>?_) (λ_=>stay)⟩;have i0:i=0:=by
   have:(0:Int)+(i:Int)=0:=V.int.inj (of_decide_eq_true c4);lia
  obtain⟨dx,fs,hi',hm,_⟩:=st1.J.A.ins;have hh:(aK x'.ho mo).isSome=true:=mem_keys.mp (st.h2 w2 i0);have hn:=st.hn;refine⟨_,rfl,a,dx,fs,rfl,hi',hm _ (by decide+kernel),_,rfl,a,mo,F',x',rfl,st1.J.A,by lia,λ_ H6 F6 A6 f6=>?_,λy=>by rw[y]at hh;cases hh⟩;have J6:J47 K t H6 a b F6 {x' with ho:=iF x'.ho mo}:=⟨A6,(f6 _ _ st1.J.nF st1.J.di).1,(f6 _ _ st1.J.nF st1.J.di).2,st.J.kb,st.J.iv,st.J.cu,st.J.pk,st.J.ma⟩;have ll:=C9 (ho:=x'.ho) (m:=mo);exact go _ _ ⟨F6,_,rfl,st1.go J6 f6.wh (λ_=>rfl) st.fl (λ_=>rfl) (λy=>by lia) (λ_ y=>by lia) (QV _) n9' (by show(iF x'.ho mo).length<=_;lia),by show(iF x'.ho mo).length<=_;lia⟩
 obtain⟨F6,x6,rfl,st6,h6⟩:=w;have hl6:=(st6.fr _ _ nl hl).1;obtain⟨dx,fs,hi',hm,hnw,_⟩:=st6.J.A.ins;have le1:i+1+(ts'.drop m).length<=n0:=by rw[Qr];lia
 refine⟨_,rfl,a,_,dx,fs,_,rfl,hi',T.ao,T.bh,hnw,_,_,rfl,rfl,_,rfl,dC (λc5=>?_) (λ_=>⟨F6,x6,D2,q',_,ts'.drop m,_,_,_,rfl,st6,le1⟩)⟩;have c5:x6.now<700:=of_decide_eq_true c5;refine⟨_,rfl,_,rfl,_,rfl,_,rfl,_,rfl,l,_,rfl,.inl (SqL.of hl6),_,_,rfl,rfl,cp,l,_,_,_,rfl,rfl,SqL.of hl6,hc,_,rfl,_,_,rfl,rfl,a,b,c,_,F6,x6,rfl,st6.J,by lia,by lia,λH8' F7 x7 J7 P7 fc n7 h7 f7=>?_⟩;have fl7:x7.fl<=mo:=by
  by_cases y:way=0
  .exact P7.fh mo (st6.hw y)
  .rw[fc (decide_eq_true (by show 0<way;lia))];exact st6.fl
 exact⟨F7,x7,D2,q',_,ts'.drop m,_,_,_,rfl,st6.go J7 f7 (λk=>P7.va mo k fl7 st6.nw) fl7 (λy=>fc (decide_eq_true y)) (λy=>P7.ho mo (st6.hw y)) (λ_ y=>by lia) P7.nw (by lia) (by lia),le1⟩
theorem ED {n:Int} (h:aK ho m=some (.int n)):dt ho m=n/\dt (iF ho m) m=n-1/\(∀z∈(iF ho m).map (·.1),z∈ho.map (·.1))/\(iF ho m).length<=ho.length:=by
 have e:dt ho m=n:=by unfold dt;rw[h]
 have hs:(aK ho m).isSome=true:=by rw[h];rfl
 have kp:∀v,(aW ho m v).map (·.1)=ho.map (·.1):=λv=>by rw[iG,if_pos hs]
 have lp:∀v,(aW ho m v).length=ho.length:=λv=>by have:=congrArg List.length (kp v);rwa [Q0,Q0]at this
 refine⟨e,?_⟩;unfold iF;rw[e];split
 .refine⟨?_,λz hz=>?_,?_⟩
  .unfold dt;rw[bY,if_pos rfl];show(0:Int)=n-1;lia
  .rw[mem_keys,bY]at hz;split at hz
   .cases hz
   .rw[<-mem_keys,kp]at hz;exact hz
  .unfold bi;exact QL (Ql _ _) (Zc (lp _))
 .refine⟨?_,λz hz=>by rw[kp]at hz;exact hz,Zc (lp _)⟩;unfold dt;rw[cj,if_pos rfl]
theorem HOk.at {x:HSt} (O:HOk x) (h:m∈x.ho.map (·.1)):∃n:Int,aK x.ho m=some (.int n)/\0<n:=by
 obtain⟨v,hv⟩:=ZM.mp (mem_keys.mp h);obtain⟨_,_,n,e,n0⟩:=O.hv _ (o3 hv);exact⟨n,by rw[hv];exact congrArg some e,n0⟩
def G47 (K:PySem.W.Frag) (t:Adr) (N:Int) (ms:List Int) (a l:Addr) (i:Nat) (H:Hp) (F:Addr->Prop) (x:HSt):Prop:=HoA K t H a F x/\x.now=N/\x.ho.length<=1700/\(∀z∈x.ho.map (·.1),z∈ms.drop i)/\H l=some (.lst (ms.map V.int))/\¬F l
theorem Ez (T:Txt K mg t):FnOk P w K mg base CX0 10 t.D6 t.yK ["_law_script"] (At K):=by
 have G1:=pU (P:=P) (w:=w) (base:=base) T;refine T.Ga.okl sc_law λ_ _ _ s H vs Q E hr h=>?_;obtain⟨sc,ns,rfl,hS,hlen,q⟩:=h;refine⟨_,(ae (aG (i:=1) sc_law.nd rfl (Or.inl rfl) (fW T.FK (qZ T) hr.mo (by rfl) T.FN T.B7 .nil az))
   (ae (aG (i:=2) sc_law.nd rfl (Or.inl rfl) jD)
   (ae (aG (i:=3) sc_law.nd rfl (Or.inl rfl) (aD bp ai (aD bn (aL G1 hr.mo (by rfl) T.dY T.cG.kp T.eE .nil az (aa (pv 0) (aa ai ag))) ai)))
   (ae (jC PassesOwn.never rfl (fw (dj eS (pv 0) (cK ai) (cK (pv 3)))) (eV (i:=4) sc_law.nd rfl (Or.inl rfl))
   (ah (aJ (aL (mP T) hr.mo (by rfl) T.wb T.pE.kp T.wC .nil az (aa (pv 1) (aa (pv 2) (aa (pv 4) (aa qR ag))))))))
   (ae (aG (i:=5) sc_law.nd rfl (Or.inl rfl) (aD bn (aD iZ (aL G1 hr.mo (by rfl) T.dY T.cG.kp T.eE .nil az (aa (pv 0) (aa ai ag))) ai) ai))
   (ae (aG (i:=6) sc_law.nd rfl (Or.inl rfl) (am (pv 1) rfl))
   (ae (aQ (aA AI (pv 5) ai (ay _))
   (ah (aG (i:=6) sc_law.nd rfl (Or.inl rfl) (cx (pv 1) T.ao T.sE (jM T) hr.mo T.sL .nil az)))
   aF)
   (ae (aG (i:=7) sc_law.nd rfl (Or.inl rfl) (aL (sw T) hr.mo (by rfl) T.C7 T.vk.kp T.Ds .nil az (aa (aL G1 hr.mo (by rfl) T.dY T.cG.kp T.eE .nil az (aa (pv 0) (aa ai ag))) (aa (pv 2) ag))))
   (ae (aQ (iW (bT (aL (qU T) hr.mo (by rfl) T.BW T.sQ.kp T.BX .nil az (aa (pv 1) (aa (pv 2) (aa (pv 6) (aa (pv 7) (aa (aD xm (dj eS (pv 0) (cK (pv 3)) (cK (aD bp (pv 3) ai))) (eK (aa (aL G1 hr.mo (by rfl) T.dY T.cG.kp T.eE .nil az (aa (pv 0) (aa ai ag))) ag))) (aa (pv 5) ag)))))))))
   (ah (aI qR))
   aF)
   (ae (aG (i:=8) sc_law.nd rfl (Or.inl rfl) (aD bp (aD bp (am (pv 1) rfl) ai) (aD bn (aL G1 hr.mo (by rfl) T.dY T.cG.kp T.eE .nil az (aa (pv 0) (aa ai ag))) (aD uC ai ai))))
   (ae (aQ (aA AI (aL (pT T) hr.mo (by rfl) T.rq T.kj.kp T.rN .nil az (aa (pv 1) (aa (pv 8) (aa (pv 7) ag)))) (aD i4 fV (iz fB (by rfl) T.z8 u9 (aa (pv 8) ag))) (ay _))
   (ah (aI qR))
   aF)
   (ae (aJ (aN (pv 1) T.ao T.uP (kL T) hr.mo T.vd .nil az (aa ai (aa ai ag))))
   (ae (jC PassesOwn.never rfl (fw (cx (pv 1) T.ao T.kN (jN T) hr.mo T.kU .nil az)) (eV (i:=9) sc_law.nd rfl (Or.inl rfl))
   (ah (mJ PassesOwn.never (aA tz (pv 9) (cx (pv 1) T.ao T.kN (jN T) hr.mo T.kU .nil az) rfl)
   (ah (aJ (aN (pv 1) T.ao T.pX (iA T) hr.mo T.pZ .nil uA (aa (pv 9) ag)))))))
   (ae (aJ (cx (pv 1) T.ao T.rn (jh T) hr.mo T.rP .nil az))
   (ah (aI (bq bV (aL (pT T) hr.mo (by rfl) T.rq T.kj.kp T.rN .nil az (aa (pv 1) (aa (pv 6) (aa (pv 7) ag)))) (aD i4 fV (iz fB (by rfl) T.z8 u9 (aa (pv 6) ag))) (ay _))))))))))))))))))
  ,?_⟩
 refine λa dx na nd nad=>⟨a,dx,rfl,af,λH1 F1 A1 f1=>⟨rfl,λd n1=>?_⟩⟩;have c1:SqF K F1 H1 sc (ns.map V.int):=((SqF.of (F:=λb=>b=a) hS λo e z=>by rw[z,na]at e;cases e).fr (Fr.of_same (cq (al nd) na))).fr f1;have sd:=al (o:= .dK []) n1;have J0:J47 K t (upd H1 d (.dK [])) a d F1 HSt.new:=⟨A1.same sd,af,A1.out n1,(λk hk=>by cases hk),(λp hp=>by cases hp),λ_=>rfl,(λk hk=>by cases hk),rfl⟩;have c2:SqF K (Wh F1 d) (upd H1 d (.dK [])) sc (ns.map V.int):=(c1.wide n1).updG
 (try dsimp only)
 generalize upd H1 d (.dK [])=H2 at J0 c2⊢;clear c1 f1 A1 n1 na nd nad hS sd;refine⟨_,rfl,sc,ns,0,rfl,c2.sq,by decide,_,_,rfl,rfl,(by show(0:Int)<24;decide),_,_,rfl,rfl,?_⟩
 (try dsimp only)
 obtain⟨z0,e0⟩:∃z0,ns.getD (0:Int).toNat 0=z0:=⟨_,rfl⟩;rw[e0];have m0:0<=z0%24/\z0%24<24:=⟨QK _ (by decide),QT _ (by decide)⟩;obtain⟨ct,ect⟩:∃ct,4+z0%24=ct:=⟨_,rfl⟩;rw[ect];refine⟨_,rfl,4,rfl,_,rfl,ct,rfl,sc,_,rfl,c2.sq,λp1 np1=>?_⟩;obtain⟨cs,ecs,lcs⟩:∃cs:List Int,iI (ns.map V.int) (some 4) (some ct)=cs.map V.int/\cs.length<=24:=by
  refine⟨(ns.drop (HT.sIx (ns.map V.int).length 0 (some 4))).take (HT.sIx (ns.map V.int).length (ns.map V.int).length (some ct)-HT.sIx (ns.map V.int).length 0 (some 4)),by unfold iI;rw[Zg,ZO],?_⟩;obtain⟨c',rfl⟩:∃c':Nat,ct=(c':Int):=⟨ct.toNat,by lia⟩;rw[Qb,Qr,HT.sIx_nat,show(4:Int)=((4:Nat):Int) from rfl,HT.sIx_nat];lia
 rw[ecs];have s3:=al (o:= .lst (cs.map V.int)) np1;have J3:=J0.same s3;have c3:=c2.fr (Fr.of_same s3);have o1:¬Wh F1 d p1:=λz=>z.elim (J0.A.out np1) λz=>by rw[z,J0.di]at np1;cases np1
 have h1:upd H2 p1 (.lst (cs.map V.int)) p1=some (.lst (cs.map V.int)):=af;generalize upd H2 p1 (.lst (cs.map V.int))=H3 at J3 c3 h1⊢;clear J0 c2 s3 np1 ecs;refine⟨p1,rfl,⟨_,SqL.of h1⟩,tN (K:=K) (a:=p1) (xs:=cs.map V.int) (λi σ H'=>∃(v4:Option V) (F:Addr->Prop) (x:HSt),σ=[some (.ref sc),some (.ref a),some (.ref d),some (.int ct),v4,none,none,none,none,none]/\J47 K t H' a d F x/\x.now<=30*(i:Int)/\x.ho.length<=i/\H' p1=some (.lst (cs.map V.int))/\¬Wh F d p1/\SqF K (Wh F d) H' sc (ns.map V.int))
  ⟨_,F1,HSt.new,rfl,J3,by decide,by decide,h1,o1,c3⟩ (λi σ H' _ w=>by obtain⟨_,_,_,_,_,_,_,e,_⟩:=w;exact SqL.of e) (λi z σ H' hz w'=>?_) (λσ H' w'=>?_)⟩
 .obtain⟨v4,F,x,rfl,J,l1,l2,hp,op,cS⟩:=w';have hi:=(Q3.mp hz).1;rw[Q0]at hi;obtain⟨c,_,rfl⟩:=Qh.mp (Q2 hz);refine⟨_,rfl,_,rfl,_,rfl,a,d,c,false,F,x,rfl,J,by lia,by lia,λH4 F4 x4 J4 P4 _ n4 h4 f4=>?_⟩;exact⟨_,F4,x4,rfl,J4,by lia,by lia,(f4 _ _ op hp).1,(f4 _ _ op hp).2,cS.fr f4⟩
 obtain⟨v4,F,x,rfl,J,l1,l2,-,-,cS⟩:=w';rw[Q0]at l1 l2;clear h1 o1 J3 c3;have l1:x.now<=720:=by lia
 have l2:x.ho.length<=24:=by lia
 obtain⟨dx,fs,hi,hm,hnw,_⟩:=J.A.ins
 (try unfold fI)
 (try dsimp only)
 refine⟨_,rfl,sc,ns,0,rfl,cS.sq,by decide,_,_,rfl,rfl,⟨by decide,by decide⟩,_,_,rfl,rfl,(by show(0:Int)<3;decide),?_⟩
 (try dsimp only)
 rw[e0];obtain⟨wy,ew⟩:∃wy,z0/24%3=wy:=⟨_,rfl⟩;have w0:0<=wy:=by rw[<-ew];exact QK _ (by decide)
 rw[ew];clear ew;refine⟨_,rfl,a,_,dx,fs,_,rfl,hi,T.ao,T.bh,hnw,?_⟩
 (try unfold jk)
 (try unfold fI)
 (try dsimp only)
 refine xX (λσ H5=>∃(F5:Addr->Prop) (x5:HSt),σ=[some (.ref sc),some (.ref a),some (.ref d),some (.int ct),v4,some (.int wy),some (.int x5.now),none,none,none]/\J47 K t H5 a d F5 x5/\x5.now<=720/\x5.ho.length<=25/\(wy≠1->x5.now∈x5.ho.map (·.1))/\SqF K (Wh F5 d) H5 sc (ns.map V.int)) (λnx go=>?_) (λσ H5 w=>?_)
 .refine⟨_,rfl,rfl,_,rfl,?_⟩;by_cases c:wy=1
  .subst c;exact bF (go _ _ ⟨F,x,rfl,J,l1,by lia,λy=>absurd rfl y,cS⟩)
  ·(try dsimp only)
   rw[decide_eq_false λz=>c (V.int.inj z)];refine bN ?_;refine⟨_,rfl,a,dx,fs,rfl,hi,hm _ (by decide+kernel),a,F,x,rfl,J.A,by lia,λH5 F5 A5 f5=>?_⟩;have J5:J47 K t H5 a d F5 {x with ho:=jS x.ho x.now}:=⟨A5,(f5 _ _ J.nF J.di).1,(f5 _ _ J.nF J.di).2,J.kb,J.iv,J.cu,J.pk,J.ma⟩;exact go _ _ ⟨F5,{x with ho:=jS x.ho x.now},rfl,J5,l1,by have:=(wj (ho:=x.ho) (m:=x.now)).2;show(jS x.ho x.now).length<=25;lia,λ_=>wj.1,cS.fr f5.wh⟩
 obtain⟨F5,x5,rfl,J5,n5,h5,hd5,c5⟩:=w;clear J cS l1 l2 hi hm hnw;have sl5:=J5.A.ok.sl;refine⟨_,rfl,sc,ns,1,rfl,c5.sq,by decide,_,rfl,d,_,_,rfl,J5.di,J5.kb,by lia,λH6 p up av e s6 np TK=>?_⟩;have J6:=J5.same s6;have c6:=c5.fr (Fr.of_same s6);have op:¬F5 p:=J5.A.out np;clear J5 c5 s6 np
 (try unfold fI)
 (try dsimp only)
 refine⟨_,rfl,_,rfl,_,rfl,_,rfl,?_⟩;refine⟨_,rfl,_,rfl,ct,rfl,_,rfl,_,_,rfl,rfl,ct+24,rfl,sc,_,rfl,c6.sq,λp2 np2=>?_⟩;obtain⟨cs2,ecs2,lcs2⟩:∃cs2:List Int,iI (ns.map V.int) (some ct) (some (ct+24))=cs2.map V.int/\cs2.length<=24:=by
  refine⟨(ns.drop (HT.sIx (ns.map V.int).length 0 (some ct))).take (HT.sIx (ns.map V.int).length (ns.map V.int).length (some (ct+24))-HT.sIx (ns.map V.int).length 0 (some ct)),by unfold iI;rw[Zg,ZO],?_⟩;obtain⟨c',rfl⟩:∃c':Nat,ct=(c':Int):=⟨ct.toNat,by lia⟩;rw[Qb,Qr,show((c':Int)+24)=((c'+24:Nat):Int) from rfl,HT.sIx_nat,HT.sIx_nat];lia
 rw[ecs2];have s7:=al (o:= .lst (cs2.map V.int)) np2;have hp2:upd H6 p2 (.lst (cs2.map V.int)) p2=some (.lst (cs2.map V.int)):=af;have c7:=c6.fr (Fr.of_same s7);generalize upd H6 p2 (.lst (cs2.map V.int))=H7 at s7 hp2 c7⊢;refine⟨_,rfl,sc,ns,2,rfl,c7.sq,by decide,(by show 1<=sizeLine;decide),λl2 n2=>?_⟩;refine⟨p2,l2,_,_,rfl,rfl,al n2 _ _ hp2,af,(by rw[Q0];have:100000<=sizeLine:=(by decide);simp only[Qf,X1];lia),λl3 n3=>?_⟩;obtain⟨z2,e2⟩:∃z2,ns.getD (2:Int).toNat 0=z2:=⟨_,rfl⟩;rw[e2]at n3⊢;have s8:=s7.trans ((al (o:= .lst [.int z2]) n2).trans (al (o:= .lst (cs2.map V.int++ [.int z2])) n3));have h8:upd (upd H7 l2 (.lst [.int z2])) l3 (.lst (cs2.map V.int++ [.int z2])) l3=some (.lst ((cs2++ [z2]).map V.int)):=by rw[af,Qm];rfl
 have o8:H6 l3=none:=dZ (s7.trans (al (o:= .lst [.int z2]) n2)) n3
 (try dsimp only)
 generalize upd (upd H7 l2 (.lst [.int z2])) l3 (.lst (cs2.map V.int++ [.int z2]))=H8 at s8 h8⊢;have J8:=J6.same s8;have ol:¬F5 l3:=J6.A.out o8;have TK8:=TK.same s8;have c8:=c6.fr (Fr.of_same s8);clear c7 s7 s8 n2 n3 o8 hp2 np2 J6 TK c6 ecs2;refine⟨_,rfl,a,d,p,l3,_,wy,F5,x5,up,av,e,cs2++ [z2],rfl,J8,TK8,op,h8,ol,by rw[Q9,Qz];lia,by rw[Q9,Qz];lia,rfl,w0,hd5,by lia,by lia,λH9 F9 x9 A9 f9 n9 m9 h9 ma9=>⟨_,rfl,bF ?_⟩⟩;obtain⟨dx9,fs9,hi9,hm9,hnw9,_⟩:=A9.ins;have c9:=c8.fr f9.wh;have O9:=A9.ok;clear c8 J8 TK8 f9 ol op h8 hd5;have t9:(0:Int)<10^(9:Int).toNat:=by decide
 refine⟨_,rfl,a,_,dx9,fs9,_,rfl,hi9,T.ao,T.bh,hnw9,_,_,rfl,rfl,_,rfl,sc,ns,3,rfl,c9.sq,by decide,_,_,rfl,rfl,⟨by decide,by decide,by decide⟩,_,_,rfl,rfl,t9,_,_,rfl,rfl,?_⟩
 (try dsimp only)
 obtain⟨lt,elt⟩:∃lt,x9.now+1+ns.getD (3:Int).toNat 0%10^(9:Int).toNat=lt:=⟨_,rfl⟩;have u0:=QK (ns.getD (3:Int).toNat 0) (X3 t9);have u1:=QT (ns.getD (3:Int).toNat 0) t9;have u2:(10:Int)^(9:Int).toNat=1000000000:=by decide
 have u3:(10:Int)^40=10000000000000000000000000000000000000000:=by decide
 have b9:=O9.n0;have fb9:=O9.fb;have lt0:x9.now<lt:=by lia
 have lt1:lt<10^40:=by rw[u2]at u1;rw[u3];lia
 rw[elt];clear elt u0 u1;have sz:∀{w:Str} {i:Int},(decide (w.length<=20):Bool)=true->0<=i->i<10^40->w.length+(Str.ofString (toString i)).length<=sizeLine:=λ{w i} h i0 i1=>Z6 (bc (by have:=of_decide_eq_true h;have:=yh i0 i1;lia))
 (try unfold fI)
 (try dsimp only)
 refine⟨_,rfl,_,rfl,_,rfl,a,p,lt,F9,x9,rfl,A9,.inr lt0,by lia,lt1,λH10 F10 A10 f10=>?_⟩;rw[if_neg (by lia)];have c10:=c9.fr f10.wh;clear A9 c9 f10;refine⟨_,rfl,lt,rfl,nR (by lia) lt1,_,_,rfl,rfl,sz rfl (by lia) lt1,rfl,_,rfl,?_⟩
 (try dsimp only)
 rw[decide_eq_true rfl];refine bF ?_;obtain⟨dx,fs,hi,hm,_⟩:=A10.ins;refine⟨_,rfl,a,dx,fs,rfl,hi,hm _ (by decide+kernel),a,5,5,F10,x9,rfl,A10,by decide,by lia,λH11 F11 ks11 r11 q11 pa11 A11 _ f11=>?_⟩
 (try unfold fI)
 (try dsimp only)
 obtain⟨x11,A11,n11,h11⟩:∃x11,HoA K t H11 a F11 x11/\x11.now=x9.now+1/\x11.ho.length<=1700:=⟨_,A11,rfl,h9⟩;clear f11 A10 c10 hi hm hi9 hm9 hnw9 O9;obtain⟨dx,fs,hi,hm,_⟩:=A11.ins;refine⟨_,rfl,a,dx,fs,rfl,hi,hm _ (by decide+kernel),a,F11,x11,rfl,A11,by lia,λH12 l ms s12 nl hl pm _=>?_⟩;have A12:=A11.same s12;have ol:=A11.out nl;refine⟨l,rfl,⟨_,SqL.of hl⟩,tN (K:=K) (a:=l) (xs:=ms.map V.int) (g:=λv σ H Q=>Q (List.set σ 9 (some v)) H) (tb:=Ao _ _) (λi σ H'=>∃(v9:Option V) (F:Addr->Prop) (x:HSt),σ=[some (.ref sc),some (.ref a),some (.ref d),some (.int ct),v4,some (.int wy),some (.int x5.now),some (.ref p),some (.int lt),v9]/\G47 K t (x9.now+1) ms a l i H' F x)
  ⟨none,F11,x11,rfl,A12,n11,h11,λz hz=>pm.mem_iff.mpr hz,hl,ol⟩ (λi σ H' _ w=>by obtain⟨_,_,_,_,w⟩:=w;exact SqL.of w.2.2.2.2.1) (λi z σ H' hz w'=>?_) (λσ H' w'=>?_)⟩
 .obtain⟨v9,F,x,rfl,w⟩:=w';rw[Qg]at hz;obtain⟨g,hg,rfl⟩:=Z5.mp hz;have dr:ms.drop i=g::ms.drop (i+1):=by
   obtain⟨hlt,hge⟩:=Q3.mp hg;rw[QR hlt,hge]
  refine⟨λm σ H'=>∃(F:Addr->Prop) (x:HSt),σ=[some (.ref sc),some (.ref a),some (.ref d),some (.int ct),v4,some (.int wy),some (.int x5.now),some (.ref p),some (.int lt),some (.int g)]/\G47 K t (x9.now+1) ms a l i H' F x/\m=(dt x.ho g).toNat,⟨_,F,x,rfl,w,rfl⟩,λm σ H' w=>?_⟩;obtain⟨F,x,rfl,w,rfl⟩:=w;obtain⟨A,n',h',hk,hl',ol'⟩:=w;obtain⟨dx,fs,hi,hm,_⟩:=A.ins;refine⟨_,rfl,_,rfl,a,dx,fs,rfl,hi,hm _ (by decide+kernel),a,F,x,rfl,A,by lia,λH2 l2 ms2 s2 _ hl2 pm2 _=>?_⟩;refine⟨l2,_,rfl,.inl (SqL.of hl2),rfl,by simp[kQ],_,rfl,?_⟩;rw[if_neg (by decide),rE];have A2:=A.same s2;by_cases c:g∈x.ho.map (·.1)
  .rw[decide_eq_true (pm2.mem_iff.mpr c)];obtain⟨n,hn,n0⟩:=A.ok.at c;obtain⟨e1,e2,e3,e4⟩:=ED hn;obtain⟨dx,fs,hi,hm,_⟩:=A2.ins;refine bN ⟨_,λσ' H' w=>w,⟨_,rfl,a,dx,fs,rfl,hi,hm _ (by decide+kernel),_,rfl,a,g,F,x,rfl,A2,by lia,λ_ H6 F6 A6 f6=>?_,λy=>by rw[y]at hn;cases hn⟩⟩;exact⟨(dt (iF x.ho g) g).toNat,by rw[e1,e2];lia,F6,_,rfl,⟨A6,n',QL e4 h',λz hz=>hk z (e3 z hz),(f6 _ _ ol' (s2 _ _ hl')).1,(f6 _ _ ol' (s2 _ _ hl')).2⟩,rfl⟩
  .rw[decide_eq_false λz=>c (pm2.mem_iff.mp z)];refine bF ⟨_,F,x,rfl,A2,n',h',λz hz=>?_,s2 _ _ hl',ol'⟩;have:=hk z hz;rw[dr]at this;rcases Qj.mp this with y|y
   .exact absurd (y▸hz) c
   .exact y
 .obtain⟨v9,F,x,rfl,A,n',h',hk,hl',ol'⟩:=w';have h0:x.ho=[]:=by
   cases e:x.ho with
   |nil=>rfl
   |cons y r=>
    have:=hk y.1 (by rw[e];exact Qd);rw[Q0,XW]at this;cases this
  obtain⟨dx,fs,hi,hm,_⟩:=A.ins
  (try unfold fI)
  (try dsimp only)
  refine⟨_,rfl,a,dx,fs,rfl,hi,hm _ (by decide+kernel),a,F,x,rfl,A,by lia,by lia,λH2 F2 fl pa2 g1 _ _ _ A2 _=>?_⟩;have g2:=g1 h0;have b5:=A.ok.n0;refine⟨_,rfl,_,rfl,_,rfl,a,p,x5.now,F2,_,rfl,A2,.inl (by show x5.now<fl;lia),by lia,by rw[u3];lia,λH3 F3 A3 f3=>?_⟩;rw[if_pos (by show x5.now<fl;lia)];refine⟨_,rfl,x5.now,rfl,nR (by lia) (by rw[u3];lia),_,_,rfl,rfl,sz rfl (by lia) (by rw[u3];lia),rfl,?_⟩
  (try dsimp only)
  rw[decide_eq_true rfl];exact q _
end
end SW
namespace ZK
open PySem PySem.W SW L2
theorem fM {P:Params} {x qual:Str} {st:Stmt} {a:Addr} {kV doc pm cdv ct:Value} {an:Option Addr} (l:(K P).lookup a=some (f (D x qual st N kV doc pm an cdv ct)):=by kernel_rfl) (c:codeIn (K P) cdv qual=true:=by kernel_rfl) (k:keepIn (K P) (.ref a)=true:=by kernel_rfl):Fun (K P) x qual st a (D x qual st N kV doc pm an cdv ct):=EX l c k
theorem nA {P:Params} {C:Addr} {x:Str} (h:findIn (K P) (.ref C) x=some none:=by kernel_rfl):NoAttr (K P) C x:=h
theorem fT {P:Params} {x qual:Str} {st:Stmt} {a b:Addr} {kV doc pm cdv ct:Value} {an:Option Addr} (l:(K P).lookup a=some (f (D x qual st (R b) kV doc pm an cdv ct)):=by kernel_rfl) (c:codeIn (K P) cdv qual=true:=by kernel_rfl) (k:keepIn (K P) (.ref a)=true:=by kernel_rfl):Fc (K P) x qual st b a (D x qual st (R b) kV doc pm an cdv ct):=yC l c k
theorem fU {P:Params} {x qual:Str} {st:Stmt} {a b:Addr} {kV doc pm cdv ct:Value} {an:Option Addr} (l:(K P).lookup a=some (f (D x qual st (R b) kV doc pm an cdv ct)):=by kernel_rfl) (c:codeIn (K P) cdv qual=true:=by kernel_rfl) (k:keepIn (K P) (.ref a)=true:=by kernel_rfl):FunD (K P) x qual st a (D x qual st (R b) kV doc pm an cdv ct):=(yC l c k).1
theorem Fa {P:Params}:(K P).lookup 186=some ⟨(T "tuple"),none,.seq #[(.int 0 420),N] 0, #[]⟩:=by kernel_rfl
theorem E9 {P:Params}:(K P).lookup 213=some ⟨(T "tuple"),none,.seq #[N,(.int 0 454)] 0, #[]⟩:=by kernel_rfl
theorem T610 {P:Params}:(K P).lookup 610=some ⟨(T "tuple"),none,.seq #[(.int 10 959)] 0, #[]⟩:=by kernel_rfl
end ZK
namespace SW
open PySem L2
set_option maxHeartbeats 0
variable {α:Type} {YP:World->Heap->Prop}
theorem us1 {us:List α} (hl:us.length=1):∃x0,us=[x0]:=by rcases us with _|⟨x0,_|⟨y,t⟩⟩<;>first|exact⟨_,rfl⟩|simp at hl
theorem us2 {us:List α} (hl:us.length=2):∃x0 x1,us=[x0,x1]:=by rcases us with _|⟨x0,_|⟨x1,_|⟨y,t⟩⟩⟩<;>first|exact⟨_,_,rfl⟩|simp at hl
theorem us3 {us:List α} (hl:us.length=3):∃x0 x1 x2,us=[x0,x1,x2]:=by rcases us with _|⟨x0,_|⟨x1,_|⟨x2,_|⟨y,t⟩⟩⟩⟩<;>first|exact⟨_,_,_,rfl⟩|simp at hl
theorem us4 {us:List α} (hl:us.length=4):∃x0 x1 x2 x3,us=[x0,x1,x2,x3]:=by rcases us with _|⟨x0,_|⟨x1,_|⟨x2,_|⟨x3,_|⟨y,t⟩⟩⟩⟩⟩<;>first|exact⟨_,_,_,_,rfl⟩|simp at hl
theorem us6 {us:List α} (hl:us.length=6):∃x0 x1 x2 x3 x4 x5,us=[x0,x1,x2,x3,x4,x5]:=by rcases us with _|⟨x0,_|⟨x1,_|⟨x2,_|⟨x3,_|⟨x4,_|⟨x5,_|⟨y,t⟩⟩⟩⟩⟩⟩⟩<;>first|exact⟨_,_,_,_,_,_,rfl⟩|simp at hl
open ZK in
theorem txt {P:Params} {h:Heap} {mg:Str->Option Value} (X:(ZK.K P).In h) (G:h.Ns mainGlobals mg):Txt (ZK.K P) mg ZK.t:=by
 constructor
 case g_PLACES=>exact⟨332,ZZ X G (by kernel_rfl)⟩
 case g_MOST_IN_LEAF=>exact⟨503,ZZ X G (by kernel_rfl)⟩
 case g_LEAST_IN_TWO=>exact⟨505,ZZ X G (by kernel_rfl)⟩
 case g_LEAST_SIZE=>exact⟨677,ZZ X G (by kernel_rfl)⟩
 case g_GREATEST_SIZE=>exact⟨679,ZZ X G (by kernel_rfl)⟩
 all_goals first
  |exact ZK.fM
  |exact⟨(by kernel_rfl),(by kernel_rfl),(by kernel_rfl)⟩
  |exact ZZ X G (by kernel_rfl)
  |exact .all λus hl=>by obtain⟨_,_,rfl⟩:=us2 hl;rfl
  |exact ZK.nA
  |exact⟨(by kernel_rfl),(by kernel_rfl),(by kernel_rfl),(by kernel_rfl)⟩
  |exact .all λus hl=>by obtain⟨_,rfl⟩:=us1 hl;rfl
  |exact PySem.W.mg_none_of X G (by kernel_rfl)
  |exact .all λus hl=>by obtain⟨_,_,_,rfl⟩:=us3 hl;rfl
  |exact Bf (by kernel_rfl) (by kernel_rfl) (by kernel_rfl) (λz=>absurd z (by decide))
  |exact(by kernel_rfl)
  |exact⟨⟨_,_,_,_,_,_,_,_,_,_,_,_,_,_,(by rfl)⟩,⟨[ZK.t.bS],rfl⟩,(by kernel_rfl),(by kernel_rfl),(by kernel_rfl),(by kernel_rfl)⟩
  |exact .all λus hl=>by obtain⟨_,_,_,_,rfl⟩:=us4 hl;rfl
  |exact ZK.fU
  |exact Bf (by kernel_rfl) (by kernel_rfl) (by kernel_rfl) (λ_=>rfl)
  |exact .all λus hl=>by obtain⟨_,_,_,_,_,_,rfl⟩:=us6 hl;rfl
  |exact j3 (ds:=[]) 3 rfl (fT (a:=193)) Fa λ_ _ _ _ _ _ us hl=>by obtain⟨_,_,_,rfl⟩:=us3 hl;exact⟨_,rfl,rfl⟩
  |exact j3 (ds:=[]) 3 rfl (fT (a:=220)) E9 λ_ _ _ _ _ _ us hl=>by obtain⟨_,_,_,rfl⟩:=us3 hl;exact⟨_,rfl,rfl⟩
  |exact j3 (ds:=[]) 4 rfl (fT (a:=615)) T610 λ_ _ _ _ _ _ us hl=>by obtain⟨_,_,_,_,rfl⟩:=us4 hl;exact⟨_,rfl,rfl⟩
  |exact⟨_,j3 (ds:=[(.int 0 420),N]) 1 rfl (fT (a:=193)) Fa λ_ _ _ _ _ _ us hl=>by obtain⟨_,rfl⟩:=us1 hl;exact⟨_,rfl,rfl⟩,(.cons ⟨_,rfl⟩ (.cons rfl .nil))⟩
  |exact⟨_,j3 (ds:=[(.int 0 454)]) 2 rfl (fT (a:=220)) E9 λ_ _ _ _ _ _ us hl=>by obtain⟨_,_,rfl⟩:=us2 hl;exact⟨_,rfl,rfl⟩,(.cons ⟨_,rfl⟩ .nil)⟩
  |exact⟨_,j3 (ds:=[(.int 10 959)]) 3 rfl (fT (a:=615)) T610 λ_ _ _ _ _ _ us hl=>by obtain⟨_,_,_,rfl⟩:=us3 hl;exact⟨_,rfl,rfl⟩,(.cons ⟨_,rfl⟩ .nil)⟩
  |exact⟨_,j3 (ds:=[N,(.int 0 454)]) 1 rfl (fT (a:=220)) E9 λ_ _ _ _ _ _ us hl=>by obtain⟨_,rfl⟩:=us1 hl;exact⟨_,rfl,rfl⟩,(.cons rfl (.cons ⟨_,rfl⟩ .nil))⟩
  |exact⟨_,j3 (ds:=[N]) 2 rfl (fT (a:=193)) Fa λ_ _ _ _ _ _ us hl=>by obtain⟨_,_,rfl⟩:=us2 hl;exact⟨_,rfl,rfl⟩,(.cons rfl .nil)⟩
  |exact⟨⟨_,_,_,_,_,_,_,_,_,_,_,_,_,_,(by rfl)⟩,⟨[],rfl⟩,(by kernel_rfl),(by kernel_rfl),(by kernel_rfl),(by kernel_rfl)⟩
theorem walk {l:PySem.W.OpenLaw} {q:Program} {loose:List Str} {XP:(Str->Option Value)->Heap->Prop} {d:DefRec} {K:Params->PySem.W.Frag} (hn:l.most=some 63) (hdf:d.params.defaults=[])
  (hY:∀(w:World) (h:Heap),YP w h->(K w.params).In h) (hd:d.name="law")
  (F:∀(w:World) (mg:Str->Option Value) (h:Heap),(K w.params).In h->h.Ns mainGlobals mg->∃t,Txt (K w.params) mg t):
  PySem.W.WalkO q loose XP YP l.row.toRowW d [] (λf vs=>PySem.call f vs):=by
 refine L2.walk_of (n:=63) (k:=10) (x:="_law_script") (CX:=λ_=>CX0) (sp:=λw=>At (K w.params)) hn (by decide) hdf ⟨rfl,by decide,by decide⟩ hY (λw mg fa h KX G hfa=>?_) (λ_ _ a ns hl _ hS=>⟨a,ns,rfl,hS,hl,λ_=>rfl⟩) λ_ _ _ _ _ z=>z;obtain⟨t,T⟩:=F w mg h KX G;have e:=hfa.symm.trans ((congrArg mg hd).trans T.Gf);cases e;obtain⟨oc,od,kV,doc,pm,an,cdv,ct,osl,e1,lk,hcd⟩:=T.Ga.ex;refine⟨t.yK,λs u=>?_,λbase _ _=>Ez T⟩;rw[e1];exact .of_eq rfl
end SW
open PySem PySem.W PyProof.Rows
set_option maxRecDepth 100000 in
set_option maxHeartbeats 0 in
theorem PySem.Challenge.cw_staywalk_k47_whole_walk_through_a_moment_holds : PySem.Challenge.rw_staywalk_k47_whole_walk_through_a_moment.Holds := by
 w_on
 refine holds_law ZK.said λsaid=>?_;refine holds_open (q:=ZK.q) (loose:=["Up","Down"]) (Xt:=λs=>xlAt ZK.q [] s&&recOk (RowW.records (OpenRow.toRowW (OpenLaw.row PySem.Challenge.rw_staywalk_k47_whole_walk_through_a_moment))) s) (XP:=XL ZK.q []) (Yf:=Hook.obs ZK.H) (Ya:=Hook.val ZK.H) (YP:=Hook.says ZK.H) ZK.left (Hook.of ZK.H) (Hook.keeps ZK.H) (λs e=>xl_of s (QQ.mp e).1) XL.keeps (by rfl) (by rfl) (by rfl) (λs e=>recFacts_of (QQ.mp e).2) (by rfl) (by first|assumption|decide+kernel) (by decide+kernel) ⟨rfl,rfl,rfl,rfl,rfl,by decide+kernel⟩ ?hw ?hc
 (case hw=>w_witness2)
 exact SW.walk (l:=PySem.Challenge.rw_staywalk_k47_whole_walk_through_a_moment) rfl rfl (λw h Y=>kIn_of Y) rfl λw mg h KX G=>⟨_,SW.txt KX G⟩
#print axioms PySem.Challenge.cw_staywalk_k47_whole_walk_through_a_moment_holds
