import PyProof.Rows.All
import PySem.Challenge.RW_staywalk_k52_a_page_in_peace
import KE.KFromBytes
import KE.KIntText
import KE.KPairComp
import KE.KSortTup
import KE.KIsAll
import KE.KDictSum
import KE.KRevIter
import KE.KRevSl
import KE.KEqDict
import KE.LcSums
import KE.KDictOf
set_option Elab.async false
set_option linter.all false
set_option maxRecDepth 100000
set_option maxHeartbeats 0
abbrev Q0:=@List.length_map
abbrev Q1:=@List.mem_of_getElem?
abbrev Q2:=@List.getElem?_eq_some_iff
abbrev Q3:=@List.getElem?_eq_getElem
abbrev Q4:=@Nat.le_refl
abbrev Q5:=@List.mem_append
abbrev Q6:=@Array.length_toList
abbrev Q7:=@List.mem_singleton
abbrev Q8:=@List.length_take
abbrev Q9:=@List.mem_cons_self
abbrev Qa:=@List.length_append
abbrev Qb:=@Int.emod_lt_of_pos
abbrev Qc:=@List.map_append
abbrev Qd:=@List.mem_cons_of_mem
abbrev Qe:=@Int.emod_nonneg
abbrev Qf:=@List.size_toArray
abbrev Qg:=@List.mem_cons
abbrev Qh:=@List.mem_map
abbrev Qi:=@Bool.false_ne_true
abbrev Qj:=@Nat.zero_le
abbrev Qk:=@List.pairwise_append
abbrev Ql:=@List.append_assoc
abbrev Qm:=@List.getD_eq_getElem?_getD
abbrev Qn:=@List.getElem?_map
abbrev Qo:=@List.length_filter_le
abbrev Qp:=@List.length_cons
abbrev Qq:=@PySem.F.plainAttrs_list
abbrev Qr:=@List.take_add_one
abbrev Qs:=@List.map_cons
abbrev Qt:=@List.take_of_length_le
abbrev Qu:=@List.map_map
abbrev Qv:=@List.mem_append_right
abbrev Qw:=@Array.getElem?_toList
abbrev Qx:=@Nat.lt_of_lt_of_le
abbrev Qy:=@List.getElem?_set
abbrev Qz:=@List.getElem_of_mem
abbrev QA:=@List.length_drop
abbrev QB:=@List.filter_append
abbrev QC:=@Nat.ne_of_lt
abbrev QD:=@Nat.le_trans
abbrev QE:=@Bool.and_eq_true_iff
abbrev QF:=@List.take_length
abbrev QG:=@Array.toList_append
abbrev QH:=@List.mem_filter
abbrev QI:=@List.length_set
abbrev QJ:=@List.take_append_drop
abbrev QK:=@Bool.and_eq_true
abbrev QL:=@Nat.max_eq_right
abbrev QM:=@List.nodup_cons
abbrev QN:=@Int.toNat_natCast
abbrev QO:=@List.pairwise_map
abbrev QP:=@Bool.eq_false_iff
abbrev QQ:=@PySem.F.plainAttrs_dict
abbrev QR:=@Int.ne_of_gt
abbrev QS:=@List.all_eq_true
abbrev QT:=@List.not_mem_nil
abbrev QU:=@List.extract_eq_take_drop
abbrev QV:=@PySem.F.slot_list_append
abbrev QW:=@PySem.F.type_list_append
abbrev QX:=@PySem.W.kia_one
abbrev QY:=@List.mem_of_mem_take
abbrev QZ:=@List.length_pos_iff
abbrev Z0:=@List.mem_map_of_mem
abbrev Z1:=@List.length_reverse
abbrev Z2:=@List.drop_eq_getElem_cons
abbrev Z3:=@List.pairwise_iff_getElem
abbrev Z4:=@List.length_singleton
abbrev Z5:=@List.pairwise_cons
abbrev Z6:=@List.mem_of_mem_eraseIdx
abbrev Z7:=@List.map_take
abbrev Z8:=@Array.toList_extract
abbrev Z9:=@List.drop_zero
abbrev Za:=@Int.eq_ofNat_of_zero_le
abbrev Zb:=@List.pairwise_singleton
abbrev Zc:=@List.flatten_cons
abbrev Zd:=@List.map_congr_left
abbrev Ze:=@List.flatten_append
abbrev Zf:=@Option.map_eq_some_iff
abbrev Zg:=@List.drop_eq_nil_of_le
abbrev Zh:=@List.getElem_mem
abbrev Zi:=@List.getElem?_append_right
abbrev Zj:=@List.nodup_nil
abbrev Zk:=@Bool.false_eq_true
abbrev Zl:=@PySem.W.methodCall_KW
abbrev Zm:=@List.length_replicate
abbrev Zn:=@List.getElem?_append_left
abbrev Zo:=@List.getElem?_eq_none_iff
abbrev Zp:=@List.ne_nil_of_length_pos
abbrev Zq:=@Nat.le_of_lt
abbrev Zr:=@Nat.le_of_eq
abbrev Zs:=@List.mem_iff_getElem
abbrev Zt:=@List.getElem_take
abbrev Zu:=@Int.le_refl
abbrev Zv:=@Nat.lt_irrefl
abbrev Zw:=@List.eq_of_mem_replicate
abbrev Zx:=@Nat.lt_succ_self
abbrev Zy:=@Nat.le_succ
abbrev Zz:=@Nat.eq_zero_or_pos
abbrev ZA:=@PySem.W.mg_of
abbrev ZB:=@List.getElem_drop
abbrev ZC:=@Bool.false_and
abbrev ZD:=@List.mem_of_mem_drop
abbrev ZE:=@List.lookup_cons
abbrev ZF:=@List.mem_flatMap
abbrev ZG:=@List.mem_reverse
abbrev ZH:=@PySem.F.slot_list_extend
abbrev ZI:=@PySem.F.type_list_extend
abbrev ZJ:=@List.map_drop
abbrev ZL:=@List.append_nil
abbrev ZM:=@List.find?_cons
abbrev ZN:=@List.nil_append
abbrev ZO:=@PySem.W.callWith_K
abbrev ZP:=@Nat.pow_succ
abbrev ZQ:=@Nat.add_zero
abbrev ZR:=@List.filter_eq_nil_iff
abbrev ZS:=@List.perm_append_comm
abbrev ZT:=@List.filter_cons
abbrev ZU:=@List.any_cons
abbrev ZV:=@Bool.true_and
abbrev ZW:=@Array.toArray_toList
abbrev ZX:=@List.mem_append_left
abbrev ZY:=@Array.push_eq_append
abbrev ZZ:=@List.length_nil
abbrev X0:=@Nat.min_eq_left
abbrev X1:=@Int.lt_ediv_add_one_mul_self
abbrev X2:=@Nat.mul_comm
abbrev X3:=@Nat.lt_of_le_of_lt
abbrev X4:=@List.getElem?_drop
abbrev X5:=@Array.perm_iff_toList_perm
abbrev X6:=@Int.mul_nonneg
abbrev X7:=@List.take_sublist
abbrev X8:=@Option.isSome_iff_exists
abbrev X9:=@List.getElem?_take_of_lt
abbrev Xa:=@PySem.F.slot_dict_values
abbrev Xb:=@List.take_nil
abbrev Xc:=@PySem.F.slot_dict_items
abbrev Xd:=@List.length_eq_zero_iff
abbrev Xe:=@List.getElem?_cons_succ
abbrev Xf:=@List.getElem?_set_self
abbrev Xg:=@Nat.div_div_eq_div_mul
abbrev Xh:=@Int.mul_comm
abbrev Xi:=@Bool.eq_iff_iff
abbrev Xj:=@Option.map_some
abbrev Xk:=@PySem.F.slot_dict_pop
abbrev Xl:=@Int.mul_ediv_add_emod
abbrev Xm:=@Array.getElem_push_lt
abbrev Xn:=@List.pairwise_reverse
abbrev Xo:=@List.drop_drop
abbrev Xp:=@List.getElem?_append
abbrev Xq:=@List.length_eraseIdx
abbrev Xr:=@List.filterMap_cons
abbrev Xs:=@PySem.W.plainGet_of
abbrev Xu:=@PySem.W.callWith_K0
abbrev Xv:=@Int.toNat_of_nonneg
abbrev Xw:=@List.take_succ_cons
abbrev Xx:=@Int.natCast_nonneg
abbrev Xy:=@Nat.lt_or_eq_of_le
abbrev Xz:=@List.eraseIdx_append_of_length_le
abbrev XA:=@Nat.ne_of_gt
abbrev XB:=@List.map_nil
abbrev XC:=@Option.isSome_map
abbrev XD:=@Int.le_of_lt
abbrev XE:=@Nat.zero_add
abbrev XF:=@Array.toList_push
abbrev XG:=@Nat.lt_succ_of_lt
abbrev XH:=@List.map_id'
abbrev XI:=@List.filter_congr
abbrev XJ:=@List.nodup_append
abbrev XM:=@List.eraseIdxIfInBounds_toArray
abbrev XN:=@PySem.W.kat_cons
abbrev XO:=@List.mem_flatten
abbrev XQ:=@Nat.min_eq_right
abbrev XR:=@Int.mul_le_mul_of_nonneg_right
abbrev XS:=@Int.mul_le_mul_of_nonneg_left
abbrev XT:=@List.take_append_of_le_length
abbrev XU:=@List.of_mem_zip
abbrev XV:=@Nat.not_lt_zero
abbrev XW:=@PySem.F.slot_dict_setdefault
abbrev XX:=@Int.ediv_nonneg
abbrev XY:=@PySem.W.kat_yes
abbrev XZ:=@List.mem_range
abbrev V0:=@Int.fdiv_eq_ediv_of_nonneg
abbrev V1:=@Array.toList_setIfInBounds
abbrev V2:=@PySem.W.kat_go
abbrev V3:=@PySem.W.kat_no
namespace L2
open PySem PySem.Spec PyProof.Rows
noncomputable def aI (s:Stmt) (j:Nat):Stmt:=match s with
 | .ClassDef _ _ _ body _ _ _ _ _ _ _=>body.getD j (.Pass ⟨0,0,0,0⟩)
 |_=> .Pass ⟨0,0,0,0⟩
noncomputable def gL (s:Stmt):Arguments:=match s with
 | .FunctionDef _ a _ _ _ _ _ _ _ _=>a
 |_=>{posonlyargs:=[],args:=[],vararg:=none,kwonlyargs:=[],kw_defaults:=[],kwarg:=none,defaults:=[]}
noncomputable def dO (s:Stmt):List Stmt:=match s with
 | .FunctionDef _ _ b _ _ _ _ _ _ _=>b
 |_=> []
noncomputable def ak (s:Stmt):Scope:=match s with
 | .FunctionDef _ _ _ _ _ _ sc _ _ _=>sc
 |_=>{kind:= .function,names:=[],isGenerator:=false,isCoroutine:=false}
end L2
namespace HD
open PySem PySem.W
noncomputable def GR (p:Program) (w:World) (n₀:Nat) (ann:Option Value):Nat->SharedT->Thread->Option SharedT
 |0,_,_=>none
 |n+1,s,t=>match through t with
  |true=>some s
  |false=>match Fast.tw6613529449190102663 n₀ ann t with
   |false=>none
   |true=>match Fast.tw10156331382660048174 (Fast.tw11892475500146522536 Fast.tw14364793385576792824) p w s t with
    |some (s',t')=>GR p w n₀ ann n s' t'
    |none=>none
theorem BR {p:Program} {w:World} {n₀:Nat} {ann:Option Value}:∀{n:Nat} {s s':SharedT} {t:Thread},GR p w n₀ ann n s t=some s'->topRun treeTable p w n₀ ann n s.abs t=some s'.abs
 |0,_,_,_,h=>by cases h
 |n+1,s,s',t,h=>by
  unfold GR at h;rw[<-Fast.te6613529449190102663,<-Fast.te10156331382660048174,<-Fast.te11892475500146522536,<-Fast.te14364793385576792824]at h;unfold topRun;cases ht:through t with
  |true=>rw[ht]at h;cases h;rfl
  |false=>
   rw[ht]at h;cases hk:stepOk n₀ ann t with
   |false=>rw[hk]at h;cases h
   |true=>
    rw[hk]at h;cases hs:stepT (denote treeTable) p w s t with
    |none=>rw[hs]at h;cases h
    |some x=>
     obtain⟨s2,t2⟩:=x;rw[hs]at h;show(match step (denote treeTable) p w s.abs t with| .go s' t'=>topRun treeTable p w n₀ ann n s' t'| .halt _ _=>none)=_;rw[stepT_spec hs];exact BR h
noncomputable def E9:List Obj->BT->Nat->Option (BT×Nat)
 | [],t,n=>some (t,n)
 |o::r,t,n=>match ((t.ins n o).get n).isSome with
  |true=>E9 r (t.ins n o) (n+1)
  |false=>none
theorem B9 {life:Life}:∀{l:List Obj} {t t':BT} {n n':Nat},E9 l t n=some (t',n')->absHeap t' n' life=⟨(absHeap t n life).objs++l.toArray,life⟩
 | [],t,t',n,n',h=>by
  cases h;rw[Array.append_empty];rfl
 |o::r,t,t',n,n',h=>by
  unfold E9 at h;cases g:((t.ins n o).get n).isSome with
  |false=>rw[g]at h;cases h
  |true=>
   rw[g]at h;rw[B9 h,absHeap_ins g];show Heap.mk _ _=Heap.mk _ _;congr 1;show(absHeap t n life).objs.push o++r.toArray=_;rw[<-Array.append_singleton,Array.append_assoc];congr 1;simp
noncomputable def toT (s:Shared):Option SharedT:=match E9 s.heap.objs.toList .nil 0 with
 |some (t,n)=>some ⟨t,n,s.heap.life,s.gens,s.drawn,s.toks,s.os⟩
 |none=>none
theorem IL {s:Shared} {S:SharedT} (h:toT s=some S):S.abs=s:=by
 unfold toT at h;cases e:E9 s.heap.objs.toList .nil 0 with
 |none=>rw[e]at h;cases h
 |some x=>
  obtain⟨t,n⟩:=x;rw[e]at h;cases h;obtain⟨⟨objs,life⟩,gens,drawn,toks,os⟩:=s;show Shared.mk (absHeap t n life) _ _ _ _=_;rw[B9 e];show Shared.mk (Heap.mk (#[]++objs.toList.toArray) life) _ _ _ _=_;rw[ZW,Array.empty_append]
noncomputable def JF (p:Program) (w:World) (N:Nat) (s₀:Shared):Option Shared:=match toT s₀ with
 |some S=>(GR p w S.n (s₀.heap.nsMap mainGlobals "__annotations__") N S (topStub p)).map SharedT.abs
 |none=>none
theorem Hu {p:Program} {w:World} {N:Nat} {s₀ s₁:Shared} (h:JF p w N s₀=some s₁):topRun treeTable p w s₀.heap.objs.size (s₀.heap.nsMap mainGlobals "__annotations__") N s₀ (topStub p)=some s₁:=by
 unfold JF at h;cases e:toT s₀ with
 |none=>rw[e]at h;cases h
 |some S=>
  rw[e]at h;obtain⟨S1,h1,rfl⟩:=Zf.mp h;have ea:=IL e;have en:S.n=s₀.heap.objs.size:=by
   rw[<-ea];exact(absHeap_size _ _ _).symm
  rw[en]at h1;have:=BR h1;rw[ea]at this;exact this
noncomputable def endP (p:Program) (w:World) (N:Nat):Option Shared:=((Fast.tw10274390034422433532 Fast.tw14364793385576792824 (opening p) w N (start (opening p)).1 (start (opening p)).2).bind (Fast.tw14289696077712309145 p)).bind λs₀=>match s₀.heap.isNs mainGlobals&&s₀.gens.size==0 with
 |true=>(JF p w N s₀).bind λs₁=>match staticsOk (importedModules p.main.body) s₀.heap s₁.heap&&namesBound p s₁.heap&&gensDone s₁&&laidKept s₀.heap s₁.heap with
  |true=>some s₁
  |false=>none
 |false=>none
noncomputable def lA (p q:Program) (N:Nat) (w:World):=(endP p w N).map λs=>(Fast.tw5160383126252970620 (R.mapR (λx=>x.name) (Fast.tw3399658132070893891 q)) (Fast.tw5991557255702980513 q) [] {s with gens:= #[]},s.heap.bltView)
noncomputable def lB (p q:Program) (loose:List Str) (Xt:Shared->Bool) (N:Nat) (w:World):=(endP p w N).map λs=>(Fast.tw10880121769531294198 s.heap (Fast.tw821141287760084731 q loose) (R.mapR (λx=>x.name) (Fast.tw3399658132070893891 q)) (R.mapR (λx=>x.fst) (Fast.tw7409074990110511671 q)) (R.mapR (λx=>x.name) (Fast.tw13664370479719496447 q (Fast.tw821141287760084731 q loose)))&&Fast.tw14722251495701143533 s.heap (importedModules p.main.body)&&s.heap.isNs mainGlobals&&s.heap.isNs builtinsNs&&Fast.tw10994771534591457954 q s.heap&&Xt s&&(s.gens.size==0),Fast.tw479339242167458305 q s)
noncomputable def lC (p q:Program) (loose:List Str) (N:Nat) (w:World):=(endP p w N).map λs=>(Fast.tw16090120013241838585 q (Fast.tw3247288618530077131 q) s,Fast.tw2386780881361962483 q (Fast.tw821141287760084731 q loose) s,Fast.tw11698064438423848299 q loose s,Fast.tw7317090234206586261 q s,Fast.tw7369524293546568484 q loose s)
theorem left_of {p q:Program} {loose:List Str} {Xt:Shared->Bool} {α:Type} {Yf:Shared->α} {Ya:World->α} {N:Nat} (hA:∀w,lA p q N w=some ((openGood q loose).1,(openGood q loose).2.1)) (hB:∀w,lB p q loose Xt N w=some (true,true)) (hC:∀w,lC p q loose N w=some (openGood q loose).2.2.2.2) (hD:∀w,(endP p w N).map Yf=some (Ya w)):LeftO p q loose Xt Yf Ya N:=λw=>by
 obtain⟨s₁,e,a⟩:=Zf.mp (hA w);obtain⟨_,e2,b⟩:=Zf.mp (hB w);rw[e]at e2;cases e2;obtain⟨_,e3,c⟩:=Zf.mp (hC w);rw[e]at e3;cases e3;obtain⟨_,e4,d⟩:=Zf.mp (hD w);rw[e]at e4;cases e4;obtain⟨a1,a2⟩:=Prod.mk.inj a;obtain⟨b1,b2⟩:=Prod.mk.inj b;have g:Fast.tw4187177175401517315 q loose (importedModules p.main.body) Xt true s₁=openGood q loose:=by
  exact Prod.ext a1 (Prod.ext a2 (Prod.ext b1 (Prod.ext b2 c)))
 rw[<-Fast.te4187177175401517315]at g;unfold endP at e;rw[<-Fast.te10274390034422433532,<-Fast.te14364793385576792824,<-Fast.te14289696077712309145]at e;obtain⟨s₀,h0,e⟩:=Option.bind_eq_some_iff.mp e;unfold openEnds fencedOpening;rw[h0];show(topFrom treeTable p w N s₀).map _=_;unfold topFrom;cases hg:(s₀.heap.isNs mainGlobals&&s₀.gens.size==0)with
 |false=>rw[hg]at e;cases e
 |true=>
  rw[hg]at e;obtain⟨s₂,h1,e⟩:=Option.bind_eq_some_iff.mp e;show Option.map _ ((topRun treeTable p w s₀.heap.objs.size (s₀.heap.nsMap mainGlobals "__annotations__") N s₀ (topStub p)).bind _)=_;rw[Hu h1];cases hs:(staticsOk (importedModules p.main.body) s₀.heap s₂.heap&&namesBound p s₂.heap&&gensDone s₂&&laidKept s₀.heap s₂.heap)with
  |false=>rw[hs]at e;cases e
  |true=>
   rw[hs]at e;cases e;show Option.map _ (match (staticsOk (importedModules p.main.body) s₀.heap s₁.heap&&namesBound p s₁.heap&&gensDone s₁&&laidKept s₀.heap s₁.heap)with|true=>some s₁|false=>none)=_;rw[hs];show some (_,_)=some (_,_);rw[g,d]
end HD
namespace SW
open PySem L2
set_option maxHeartbeats 0
noncomputable def top (i:Nat):Stmt:=PySem.Challenge.pw_staywalk_k52_a_page_in_peace.main.body.getD i (.Pass ⟨0,0,0,0⟩)
noncomputable abbrev nT:Stmt:=aI (top 5) 0
noncomputable abbrev nS:Stmt:=aI (top 6) 0
noncomputable abbrev lP:Stmt:=aI (top 7) 0
noncomputable abbrev jH:Stmt:=aI (top 8) 0
noncomputable abbrev uy:Stmt:=top 12
noncomputable abbrev qW:Stmt:=top 13
noncomputable abbrev oV:Stmt:=top 14
noncomputable abbrev qU:Stmt:=top 15
noncomputable abbrev jX:Stmt:=top 16
noncomputable abbrev qV:Stmt:=top 17
noncomputable abbrev oW:Stmt:=top 19
noncomputable abbrev qY:Stmt:=top 21
noncomputable abbrev qT:Stmt:=top 22
noncomputable abbrev i6:Stmt:=aI (top 23) 0
noncomputable abbrev gZ:Stmt:=aI (top 23) 1
noncomputable abbrev f9:Stmt:=aI (top 24) 0
noncomputable abbrev fu:Stmt:=aI (top 24) 1
noncomputable abbrev oX:Stmt:=aI (top 25) 0
noncomputable abbrev lO:Stmt:=aI (top 25) 1
noncomputable abbrev ko:Stmt:=aI (top 26) 0
noncomputable abbrev ji:Stmt:=aI (top 26) 1
noncomputable abbrev Es:Stmt:=top 29
noncomputable abbrev fY:Stmt:=top 30
noncomputable abbrev eh:Stmt:=top 31
noncomputable abbrev eB:Stmt:=top 32
noncomputable abbrev lL:Stmt:=top 33
noncomputable abbrev gV:Stmt:=top 34
noncomputable abbrev qX:Stmt:=top 36
noncomputable abbrev kf:Stmt:=aI (top 38) 0
noncomputable abbrev j9:Stmt:=aI (top 38) 1
noncomputable abbrev fZ:Stmt:=aI (top 38) 3
noncomputable abbrev g9:Stmt:=aI (top 39) 0
noncomputable abbrev dj:Stmt:=aI (top 39) 1
noncomputable abbrev dh:Stmt:=aI (top 39) 2
noncomputable abbrev cN:Stmt:=aI (top 39) 3
noncomputable abbrev fk:Stmt:=aI (top 39) 4
noncomputable abbrev cr:Stmt:=aI (top 39) 5
noncomputable abbrev hJ:Stmt:=aI (top 39) 7
noncomputable abbrev fo:Stmt:=aI (top 39) 8
noncomputable abbrev f8:Stmt:=aI (top 39) 9
noncomputable abbrev g8:Stmt:=aI (top 39) 10
noncomputable abbrev f7:Stmt:=aI (top 39) 11
noncomputable abbrev g6:Stmt:=aI (top 43) 0
noncomputable abbrev fK:Stmt:=aI (top 43) 1
noncomputable abbrev eE:Stmt:=aI (top 43) 2
noncomputable abbrev je:Stmt:=aI (top 43) 3
noncomputable abbrev lR:Stmt:=aI (top 43) 4
noncomputable abbrev cw:Stmt:=aI (top 43) 6
noncomputable abbrev b4:Stmt:=aI (top 43) 7
noncomputable abbrev eD:Stmt:=aI (top 43) 8
noncomputable abbrev de:Stmt:=aI (top 43) 9
noncomputable abbrev cM:Stmt:=aI (top 43) 10
noncomputable abbrev jd:Stmt:=aI (top 45) 0
noncomputable abbrev jc:Stmt:=aI (top 45) 1
noncomputable abbrev iP:Stmt:=top 49
noncomputable abbrev i8:Stmt:=aI (top 50) 0
noncomputable abbrev j6:Stmt:=aI (top 50) 1
noncomputable abbrev i9:Stmt:=aI (top 50) 2
noncomputable abbrev j8:Stmt:=aI (top 50) 3
noncomputable abbrev j7:Stmt:=aI (top 50) 4
noncomputable abbrev fJ:Stmt:=aI (top 50) 6
noncomputable abbrev lQ:Stmt:=aI (top 50) 7
noncomputable abbrev dF:Stmt:=aI (top 50) 9
noncomputable abbrev i7:Stmt:=aI (top 50) 10
noncomputable abbrev fj:Stmt:=aI (top 50) 11
noncomputable abbrev eC:Stmt:=aI (top 50) 12
noncomputable abbrev dP:Stmt:=aI (top 50) 13
noncomputable abbrev dQ:Stmt:=aI (top 50) 14
noncomputable abbrev jf:Stmt:=aI (top 52) 0
noncomputable abbrev kg:Stmt:=aI (top 52) 1
noncomputable abbrev jg:Stmt:=aI (top 52) 2
noncomputable abbrev kh:Stmt:=aI (top 52) 3
noncomputable abbrev pQ:Stmt:=aI (top 52) 4
noncomputable abbrev eF:Stmt:=aI (top 52) 6
noncomputable abbrev g7:Stmt:=aI (top 52) 7
noncomputable abbrev jh:Stmt:=aI (top 52) 15
noncomputable abbrev gY:Stmt:=top 54
noncomputable abbrev j3:Stmt:=top 55
noncomputable abbrev j2:Stmt:=top 56
noncomputable abbrev gW:Stmt:=top 57
noncomputable abbrev lN:Stmt:=top 58
noncomputable abbrev j4:Stmt:=top 59
noncomputable abbrev db:Stmt:=top 60
noncomputable abbrev gX:Stmt:=top 61
noncomputable abbrev jZ:Stmt:=top 62
noncomputable abbrev j5:Stmt:=top 63
noncomputable abbrev jY:Stmt:=top 64
noncomputable abbrev lM:Stmt:=top 65
noncomputable abbrev zp:Stmt:=top 66
set_option genSizeOf false in
set_option genInjectivity false in
structure Adr where
 Gs:Addr
 ot:FuncData
 Gr:Addr
 oo:FuncData
 FT:Addr
 mH:FuncData
 DG:Addr
 jO:FuncData
 Ai:Addr
 vd:FuncData
 xL:Addr
 rO:FuncData
 vo:Addr
 pq:FuncData
 xJ:Addr
 rM:FuncData
 qo:Addr
 kB:FuncData
 xK:Addr
 rN:FuncData
 vp:Addr
 pz:FuncData
 xN:Addr
 rQ:FuncData
 xI:Addr
 rL:FuncData
 jE:Addr
 jp:FuncData
 cX:Addr
 iF:FuncData
 kY:Addr
 cn:FuncData
 jV:Addr
 fH:FuncData
 vt:Addr
 iE:FuncData
 sv:Addr
 mG:FuncData
 qE:Addr
 eX:FuncData
 oN:Addr
 jC:FuncData
 IC:Addr
 z6:FuncData
 kT:Addr
 gj:FuncData
 mR:Addr
 iA:FuncData
 mS:Addr
 iB:FuncData
 sk:Addr
 mC:FuncData
 mQ:Addr
 iz:FuncData
 xM:Addr
 rP:FuncData
 qB:Addr
 kM:FuncData
 qA:Addr
 kL:FuncData
 kU:Addr
 gk:FuncData
 mY:Addr
 eY:FuncData
 gF:Addr
 dD:FuncData
 gE:Addr
 b5:FuncData
 fX:Addr
 cV:FuncData
 jT:Addr
 fF:FuncData
 fc:Addr
 cu:FuncData
 mZ:Addr
 iI:FuncData
 jU:Addr
 fG:FuncData
 kX:Addr
 gr:FuncData
 mX:Addr
 iH:FuncData
 kW:Addr
 gp:FuncData
 mV:Addr
 iG:FuncData
 oH:Addr
 jy:FuncData
 i4:Addr
 eT:FuncData
 oG:Addr
 jx:FuncData
 vx:Addr
 mJ:FuncData
 iZ:Addr
 eS:FuncData
 gB:Addr
 dC:FuncData
 iY:Addr
 eQ:FuncData
 gA:Addr
 dB:FuncData
 fW:Addr
 cU:FuncData
 oE:Addr
 jw:FuncData
 oC:Addr
 jv:FuncData
 sr:Addr
 mD:FuncData
 oA:Addr
 jt:FuncData
 qw:Addr
 kI:FuncData
 oB:Addr
 ju:FuncData
 qz:Addr
 kK:FuncData
 qy:Addr
 kJ:FuncData
 oz:Addr
 js:FuncData
 vv:Addr
 mI:FuncData
 oy:Addr
 jr:FuncData
 ox:Addr
 jq:FuncData
 jS:Addr
 fE:FuncData
 iX:Addr
 eP:FuncData
 iJ:Addr
 dR:FuncData
 iK:Addr
 dS:FuncData
 oJ:Addr
 jz:FuncData
 qC:Addr
 kN:FuncData
 oK:Addr
 jA:FuncData
 qD:Addr
 kO:FuncData
 yT:Addr
 qj:FuncData
 i5:Addr
 eU:FuncData
 mW:Addr
 eV:FuncData
 oM:Addr
 jB:FuncData
 mU:Addr
 iD:FuncData
 qt:Addr
 kF:FuncData
 qr:Addr
 kE:FuncData
 vq:Addr
 pA:FuncData
 su:Addr
 mF:FuncData
 qu:Addr
 kG:FuncData
 gx:Addr
 dA:FuncData
 mT:Addr
 iC:FuncData
 qq:Addr
 kD:FuncData
 qv:Addr
 kH:FuncData
 qp:Addr
 kC:FuncData
 ss:Addr
 mE:FuncData
 IB:Addr
 Cn:FuncData
 bZ:Addr
 nK:Addr
 Ae:Addr
 Cp:Addr
 Co:Addr
 Ad:Addr
 vi:Addr
 fP:Addr
 aT:Addr
 c8:Addr
 bV:Addr
 cW:Addr
 a6:Addr
 bx:Addr
 fQ:Addr
 aY:Addr
 aK:Addr
end SW
namespace ZK
open PySem PySem.W SW L2
noncomputable abbrev N:Value:= .none
noncomputable abbrev B (b:Bool):Value:= .bool b
noncomputable abbrev I (i:Int):Value:= .int i 0
noncomputable abbrev S (x:Str) (t:Nat):Value:= .str x t
noncomputable abbrev F (t:Nat):Value:= .str "/claim/cut.py" t
noncomputable abbrev R (a:Addr):Value:= .ref a
noncomputable abbrev T (n:String):Value:= .type n
noncomputable abbrev E (P:Params) (x:Str) (t:Nat) (v:Value):DictEntry:=⟨PyData.keyHash P x,.str x t,v⟩
noncomputable abbrev c (vs:List Value):Obj:=⟨.type "code",none,.fields vs.toArray, #[]⟩
noncomputable abbrev o (n:Str) (a:Nat) (m:Str) (b d:Nat) (e g h i j:Int) (k:Addr) (l:Int) (r s t u:Addr) (v w:Int) (x:Nat):Obj:=c [S n a,S m b,F d,I e,I g,I h,I i,I j,R k,B true,I l,R r,N,R s,R t,R u,I v,I w,F x]
noncomputable abbrev D (nm qn:Str) (s:Stmt) (df kV dc pm:Value) (an:Option Addr) (cd ct:Value):FuncData:=fnOf nm qn (gL s) (dO s) (ak s) df kV dc pm an cd ct
noncomputable abbrev f (d:FuncData):Obj:=⟨.type "function",none,.func d, #[]⟩
noncomputable def t:Adr:=⟨72,D "__init__" "NoKey.__init__" nT N N N (S "staywalk.errors" 194) none (R 71) N,91,D "__init__" "Twice.__init__" nS N N N (S "staywalk.errors" 194) none (R 90) N,110,D "__init__" "TooOld.__init__" lP N N N (S "staywalk.errors" 194) none (R 109) N,129,D "__init__" "NoMoment.__init__" jH N N N (S "staywalk.errors" 194) none (R 128) N,141,D "turned" "turned" uy N N N (S "staywalk.bits" 346) none (R 140) N,148,D "mark_of" "mark_of" qW N N N (S "staywalk.bits" 346) none (R 147) N,155,D "place_of" "place_of" oV N N N (S "staywalk.bits" 346) none (R 154) N,162,D "slot_of" "slot_of" qU N N N (S "staywalk.bits" 346) none (R 161) N,169,D "stretch_of" "stretch_of" jX N N N (S "staywalk.bits" 346) none (R 168) N,176,D "slot_at" "slot_at" qV N N N (S "staywalk.bits" 346) none (R 175) N,183,D "is_whole" "is_whole" oW N N N (S "staywalk.wholes" 401) none (R 182) N,190,D "is_from" "is_from" qY N N N (S "staywalk.tokens" 410) none (R 189) N,197,D "word_of" "word_of" qT N N N (S "staywalk.tokens" 410) none (R 196) N,211,D "__init__" "Token.__init__" i6 N N N (S "staywalk.tokens" 410) none (R 210) N,218,D "words" "Token.words" gZ N N N (S "staywalk.tokens" 410) none (R 217) N,240,D "__init__" "BySlots.__init__" f9 (R 233) N N (S "staywalk.tokens" 410) none (R 239) N,247,D "holds" "BySlots.holds" fu N N N (S "staywalk.tokens" 410) none (R 246) N,267,D "__init__" "Up.__init__" oX (R 260) N N (S "staywalk.tokens" 410) none (R 266) N,274,D "holds" "Up.holds" lO N N N (S "staywalk.tokens" 410) none (R 273) N,294,D "__init__" "Down.__init__" ko (R 287) N N (S "staywalk.tokens" 410) none (R 293) N,301,D "holds" "Down.holds" ji N N N (S "staywalk.tokens" 410) none (R 300) N,312,D "ask" "ask" Es (R 307) N N (S "staywalk.asks" 570) none (R 311) N,319,D "page_by_slots" "page_by_slots" fY N N N (S "staywalk.asks" 570) none (R 318) N,324,D "page_by_keys" "page_by_keys" eh N N N (S "staywalk.asks" 570) none (R 323) N,329,D "keys_of_page" "keys_of_page" eB N N N (S "staywalk.asks" 570) none (R 328) N,336,D "keys_near" "keys_near" lL N N N (S "staywalk.asks" 570) none (R 335) N,343,D "token_behind" "token_behind" gV N N N (S "staywalk.asks" 570) none (R 342) N,350,D "is_left" "is_left" qX N N N (S "staywalk.copier" 623) none (R 349) N,371,D "__init__" "Page.__init__" kf N N N (S "staywalk.copier" 623) none (R 370) N,378,D "read" "Page.read" j9 N N N (S "staywalk.copier" 623) none (R 377) N,392,D "outcome" "Page.outcome" fZ N N N (S "staywalk.copier" 623) none (R 391) N,414,D "__init__" "Copier.__init__" g9 (R 407) N N (S "staywalk.copier" 623) none (R 413) N,421,D "open_page" "Copier.open_page" dj N N N (S "staywalk.copier" 623) none (R 420) N,429,D "read_page" "Copier.read_page" dh (R 422) N N (S "staywalk.copier" 623) none (R 428) N,436,D "close_page" "Copier.close_page" cN N N N (S "staywalk.copier" 623) none (R 435) N,443,D "follow" "Copier.follow" fk N N N (S "staywalk.copier" 623) none (R 442) N,450,D "follow_mark" "Copier.follow_mark" cr N N N (S "staywalk.copier" 623) none (R 449) N,464,D "copy" "Copier.copy" hJ N N N (S "staywalk.copier" 623) none (R 463) N,471,D "covers" "Copier.covers" fo N N N (S "staywalk.copier" 623) none (R 470) N,478,D "place" "Copier.place" f8 N N N (S "staywalk.copier" 623) none (R 477) N,485,D "left" "Copier.left" g8 N N N (S "staywalk.copier" 623) none (R 484) N,492,D "total" "Copier.total" f7 N N N (S "staywalk.copier" 623) none (R 491) N,520,D "__init__" "Leaves.__init__" g6 N N N (S "staywalk.leaves" 834) none (R 519) N,525,D "add" "Leaves.add" fK N N N (S "staywalk.leaves" 834) none (R 524) N,532,D "discard" "Leaves.discard" eE N N N (S "staywalk.leaves" 834) none (R 531) N,539,D "has" "Leaves.has" je N N N (S "staywalk.leaves" 834) none (R 538) N,544,D "many" "Leaves.many" lR N N N (S "staywalk.leaves" 834) none (R 543) N,556,D "from_on" "Leaves.from_on" cw N N N (S "staywalk.leaves" 834) none (R 555) N,561,D "down_from" "Leaves.down_from" b4 N N N (S "staywalk.leaves" 834) none (R 560) N,568,D "leaf_of" "Leaves.leaf_of" eD N N N (S "staywalk.leaves" 834) none (R 567) N,575,D "part_leaf" "Leaves.part_leaf" de N N N (S "staywalk.leaves" 834) none (R 574) N,582,D "join_small" "Leaves.join_small" cM N N N (S "staywalk.leaves" 834) none (R 581) N,603,D "__init__" "Makes.__init__" jd N N N (S "staywalk.makes" 947) none (R 602) N,610,D "note" "Makes.note" jc N N N (S "staywalk.makes" 947) none (R 609) N,643,D "empty_row" "empty_row" iP N N N (S "staywalk.slots" 1010) none (R 642) N,657,D "__init__" "Slots.__init__" i8 N N N (S "staywalk.slots" 1010) none (R 656) N,664,D "put" "Slots.put" j6 N N N (S "staywalk.slots" 1010) none (R 663) N,671,D "drop" "Slots.drop" i9 N N N (S "staywalk.slots" 1010) none (R 670) N,678,D "get" "Slots.get" j8 N N N (S "staywalk.slots" 1010) none (R 677) N,685,D "has" "Slots.has" j7 N N N (S "staywalk.slots" 1010) none (R 684) N,697,D "rows" "Slots.rows" fJ N N N (S "staywalk.slots" 1010) none (R 696) N,704,D "moved" "Slots.moved" lQ N N N (S "staywalk.slots" 1010) none (R 703) N,716,D "span" "Slots.span" dF N N N (S "staywalk.slots" 1010) none (R 715) N,723,D "stop" "Slots.stop" i7 N N N (S "staywalk.slots" 1010) none (R 722) N,730,D "cell_of" "Slots.cell_of" fj N N N (S "staywalk.slots" 1010) none (R 729) N,737,D "lying_at" "Slots.lying_at" eC N N N (S "staywalk.slots" 1010) none (R 736) N,744,D "move_slot" "Slots.move_slot" dP N N N (S "staywalk.slots" 1010) none (R 743) N,751,D "begin_row" "Slots.begin_row" dQ N N N (S "staywalk.slots" 1010) none (R 750) N,772,D "__init__" "House.__init__" jf N N N (S "staywalk.house" 1173) none (R 771) N,779,D "put" "House.put" kg N N N (S "staywalk.house" 1173) none (R 778) N,786,D "drop" "House.drop" jg N N N (S "staywalk.house" 1173) none (R 785) N,793,D "get" "House.get" kh N N N (S "staywalk.house" 1173) none (R 792) N,800,D "has" "House.has" pQ N N N (S "staywalk.house" 1173) none (R 799) N,814,D "lay_mark" "House.lay_mark" eF N N N (S "staywalk.house" 1173) none (R 813) N,822,D "diary" "House.diary" g7 (R 815) N N (S "staywalk.house" 1173) none (R 821) N,879,D "done" "House.done" jh N N N (S "staywalk.house" 1173) none (R 878) N,907,D "_law_cell_at" "_law_cell_at" gY N N N (S "law_staywalk_k52_a_page_in_peace" 1350) none (R 906) N,914,D "_law_mixed" "_law_mixed" j3 N N N (S "law_staywalk_k52_a_page_in_peace" 1350) none (R 913) N,921,D "_law_place" "_law_place" j2 N N N (S "law_staywalk_k52_a_page_in_peace" 1350) none (R 920) N,926,D "_law_run" "_law_run" gW N N N (S "law_staywalk_k52_a_page_in_peace" 1350) none (R 925) N,933,D "_law_deed" "_law_deed" lN N N N (S "law_staywalk_k52_a_page_in_peace" 1350) none (R 932) N,940,D "_law_house" "_law_house" j4 N N N (S "law_staywalk_k52_a_page_in_peace" 1350) none (R 939) N,947,D "_law_numbers_told" "_law_numbers_told" db N N N (S "law_staywalk_k52_a_page_in_peace" 1350) none (R 946) N,954,D "_law_numbers" "_law_numbers" gX N N N (S "law_staywalk_k52_a_page_in_peace" 1350) none (R 953) N,961,D "_law_token" "_law_token" jZ N N N (S "law_staywalk_k52_a_page_in_peace" 1350) none (R 960) N,968,D "_law_holds" "_law_holds" j5 N N N (S "law_staywalk_k52_a_page_in_peace" 1350) none (R 967) N,975,D "_law_words" "_law_words" jY N N N (S "law_staywalk_k52_a_page_in_peace" 1350) none (R 974) N,982,D "_law_read" "_law_read" lM N N N (S "law_staywalk_k52_a_page_in_peace" 1350) none (R 981) N,987,D "law" "law" zp N N N (S "law_staywalk_k52_a_page_in_peace" 1350) none (R 986) N,31,44,56,75,94,113,132,221,250,277,304,395,502,585,634,754,896⟩
noncomputable def K:Params->Frag:=λP=>(nat_lit 2,⟨N,none,.dict #[] 0, #[]⟩)::
(nat_lit 3,⟨(T "dict"),none,.dict #[E P "__name__" 165 (S "law_staywalk_k52_a_page_in_peace" 1350),E P "__doc__" 166 N,E P "__package__" 167 N,E P "__loader__" 168 (.builtin "__main__.__loader__#opaque"),E P "__spec__" 169 N,E P "__annotations__" 170 (R 6),E P "__builtins__" 171 (R 4),E P "__file__" 173 (S "/claim/cut.py" 172),E P "__cached__" 174 N,E P "_wall" 193 (R 21),E P "WalkError" 213 (R 31),E P "NoToken" 229 (R 44),E P "OutOfTurn" 245 (R 56),E P "NoKey" 270 (R 75),E P "Twice" 295 (R 94),E P "TooOld" 320 (R 113),E P "NoMoment" 345 (R 132),E P "BITS" 349 (.int 16 348),E P "PLACES" 351 (.int 65536 350),E P "turned" 361 (R 141),E P "mark_of" 368 (R 148),E P "place_of" 375 (R 155),E P "slot_of" 383 (R 162),E P "stretch_of" 392 (R 169),E P "slot_at" 400 (R 176),E P "is_whole" 409 (R 183),E P "is_from" 419 (R 190),E P "word_of" 426 (R 197),E P "Token" 466 (R 221),E P "BySlots" 501 (R 250),E P "Up" 535 (R 277),E P "Down" 569 (R 304),E P "STRETCHES_A_KEY" 573 (.int 4 572),E P "ask" 580 (R 312),E P "page_by_slots" 593 (R 319),E P "page_by_keys" 599 (R 324),E P "keys_of_page" 605 (R 329),E P "keys_near" 614 (R 336),E P "token_behind" 622 (R 343),E P "is_left" 632 (R 350),E P "change" 640 (R 357),E P "Page" 700 (R 395),E P "Copier" 833 (R 502),E P "MOST_IN_LEAF" 837 (.int 8 836),E P "LEAST_IN_TWO" 839 (.int 5 838),E P "Leaves" 946 (R 585),E P "Makes" 1009 (R 634),E P "LEAST_SIZE" 1013 (.int 4 1012),E P "GREATEST_SIZE" 1015 (.int 256 1014),E P "empty_row" 1021 (R 643),E P "Slots" 1172 (R 754),E P "House" 1349 (R 896),E P "_law_cell_at" 1359 (R 907),E P "_law_mixed" 1368 (R 914),E P "_law_place" 1378 (R 921),E P "_law_run" 1384 (R 926),E P "_law_deed" 1396 (R 933),E P "_law_house" 1406 (R 940),E P "_law_numbers_told" 1416 (R 947),E P "_law_numbers" 1428 (R 954),E P "_law_token" 1435 (R 961),E P "_law_holds" 1446 (R 968),E P "_law_words" 1453 (R 975),E P "_law_read" 1464 (R 982),E P "law" 1470 (R 987)] 65, #[]⟩)::
(nat_lit 30,⟨(T "dict"),none,.dict #[E P "__module__" 203 (S "staywalk.errors" 194),E P "__firstlineno__" 207 (.int 5 206),E P "__static_attributes__" 208 (R 29),E P "__weakref__" 210 (R 32),E P "__doc__" 211 N] 3, #[]⟩)::
(nat_lit 31,⟨(T "type"),none,.cls ⟨"WalkError",[(T "ValueError")],[(R 31),(T "ValueError"),(T "Exception"),(T "BaseException"),(T "object")],30,"WalkError",true,[],[(R 44),(R 56),(R 75),(R 94),(R 113),(R 132)],false,none,false⟩, #[some (R 22),none,some (S "WalkError" 196),some (S "WalkError" 204),some (.builtin "ValueError.__new__"),some (B true)]⟩)::
(nat_lit 43,⟨(T "dict"),none,.dict #[E P "__module__" 221 (S "staywalk.errors" 194),E P "__firstlineno__" 225 (.int 7 224),E P "__static_attributes__" 226 (R 42),E P "__doc__" 227 N] 2, #[]⟩)::
(nat_lit 44,⟨(T "type"),none,.cls ⟨"NoToken",[(R 31)],[(R 44),(R 31),(T "ValueError"),(T "Exception"),(T "BaseException"),(T "object")],43,"NoToken",true,[],[],false,none,false⟩, #[some (R 35),none,some (S "NoToken" 214),some (S "NoToken" 222),some (.builtin "ValueError.__new__"),some (B true)]⟩)::
(nat_lit 55,⟨(T "dict"),none,.dict #[E P "__module__" 237 (S "staywalk.errors" 194),E P "__firstlineno__" 241 (.int 9 240),E P "__static_attributes__" 242 (R 54),E P "__doc__" 243 N] 2, #[]⟩)::
(nat_lit 56,⟨(T "type"),none,.cls ⟨"OutOfTurn",[(R 31)],[(R 56),(R 31),(T "ValueError"),(T "Exception"),(T "BaseException"),(T "object")],55,"OutOfTurn",true,[],[],false,none,false⟩, #[some (R 47),none,some (S "OutOfTurn" 230),some (S "OutOfTurn" 238),some (.builtin "ValueError.__new__"),some (B true)]⟩)::
(nat_lit 71,o "__init__" 258 "NoKey.__init__" 259 260 13 2 0 0 3 66 181 67 68 69 70 263 13 264)::
(nat_lit 72,f t.ot)::
(nat_lit 74,⟨(T "dict"),none,.dict #[E P "__module__" 253 (S "staywalk.errors" 194),E P "__firstlineno__" 257 (.int 11 256),E P "__init__" 265 (R 72),E P "__static_attributes__" 267 (R 73),E P "__doc__" 268 N] 2, #[]⟩)::
(nat_lit 75,⟨(T "type"),none,.cls ⟨"NoKey",[(R 31)],[(R 75),(R 31),(T "ValueError"),(T "Exception"),(T "BaseException"),(T "object")],74,"NoKey",true,[],[],false,none,false⟩, #[some (R 59),none,some (S "NoKey" 246),some (S "NoKey" 254),some (.builtin "ValueError.__new__"),some (B true)]⟩)::
(nat_lit 90,o "__init__" 283 "Twice.__init__" 284 285 18 2 0 0 3 85 181 86 87 88 89 288 18 289)::
(nat_lit 91,f t.oo)::
(nat_lit 93,⟨(T "dict"),none,.dict #[E P "__module__" 278 (S "staywalk.errors" 194),E P "__firstlineno__" 282 (.int 16 281),E P "__init__" 290 (R 91),E P "__static_attributes__" 292 (R 92),E P "__doc__" 293 N] 2, #[]⟩)::
(nat_lit 94,⟨(T "type"),none,.cls ⟨"Twice",[(R 31)],[(R 94),(R 31),(T "ValueError"),(T "Exception"),(T "BaseException"),(T "object")],93,"Twice",true,[],[],false,none,false⟩, #[some (R 78),none,some (S "Twice" 271),some (S "Twice" 279),some (.builtin "ValueError.__new__"),some (B true)]⟩)::
(nat_lit 109,o "__init__" 308 "TooOld.__init__" 309 310 23 2 0 0 3 104 181 105 106 107 108 313 23 314)::
(nat_lit 110,f t.mH)::
(nat_lit 112,⟨(T "dict"),none,.dict #[E P "__module__" 303 (S "staywalk.errors" 194),E P "__firstlineno__" 307 (.int 21 306),E P "__init__" 315 (R 110),E P "__static_attributes__" 317 (R 111),E P "__doc__" 318 N] 2, #[]⟩)::
(nat_lit 113,⟨(T "type"),none,.cls ⟨"TooOld",[(R 31)],[(R 113),(R 31),(T "ValueError"),(T "Exception"),(T "BaseException"),(T "object")],112,"TooOld",true,[],[],false,none,false⟩, #[some (R 97),none,some (S "TooOld" 296),some (S "TooOld" 304),some (.builtin "ValueError.__new__"),some (B true)]⟩)::
(nat_lit 128,o "__init__" 333 "NoMoment.__init__" 334 335 28 2 0 0 3 123 181 124 125 126 127 338 28 339)::
(nat_lit 129,f t.jO)::
(nat_lit 131,⟨(T "dict"),none,.dict #[E P "__module__" 328 (S "staywalk.errors" 194),E P "__firstlineno__" 332 (.int 26 331),E P "__init__" 340 (R 129),E P "__static_attributes__" 342 (R 130),E P "__doc__" 343 N] 2, #[]⟩)::
(nat_lit 132,⟨(T "type"),none,.cls ⟨"NoMoment",[(R 31)],[(R 132),(R 31),(T "ValueError"),(T "Exception"),(T "BaseException"),(T "object")],131,"NoMoment",true,[],[],false,none,false⟩, #[some (R 116),none,some (S "NoMoment" 321),some (S "NoMoment" 329),some (.builtin "ValueError.__new__"),some (B true)]⟩)::
(nat_lit 140,o "turned" 352 "turned" 353 354 34 1 0 0 3 135 181 136 137 138 139 359 34 360)::
(nat_lit 141,f t.vd)::
(nat_lit 147,o "mark_of" 362 "mark_of" 363 364 41 1 0 0 3 142 181 143 144 145 146 366 41 367)::
(nat_lit 148,f t.rO)::
(nat_lit 154,o "place_of" 369 "place_of" 370 371 43 1 0 0 3 149 181 150 151 152 153 373 43 374)::
(nat_lit 155,f t.pq)::
(nat_lit 161,o "slot_of" 376 "slot_of" 377 378 45 2 0 0 3 156 181 157 158 159 160 381 45 382)::
(nat_lit 162,f t.rM)::
(nat_lit 168,o "stretch_of" 384 "stretch_of" 385 386 47 2 0 0 3 163 181 164 165 166 167 390 47 391)::
(nat_lit 169,f t.kB)::
(nat_lit 175,o "slot_at" 393 "slot_at" 394 395 50 2 0 0 3 170 181 171 172 173 174 398 50 399)::
(nat_lit 176,f t.rN)::
(nat_lit 182,o "is_whole" 403 "is_whole" 404 405 53 1 0 0 3 177 181 178 179 180 181 407 53 408)::
(nat_lit 183,f t.pz)::
(nat_lit 189,o "is_from" 412 "is_from" 413 414 56 2 0 0 3 184 181 185 186 187 188 417 56 418)::
(nat_lit 190,f t.rQ)::
(nat_lit 196,o "word_of" 420 "word_of" 421 422 58 1 0 0 3 191 181 192 193 194 195 424 58 425)::
(nat_lit 197,f t.rL)::
(nat_lit 210,o "__init__" 439 "Token.__init__" 440 441 62 4 0 0 3 205 181 206 207 208 209 446 62 447)::
(nat_lit 211,f t.jp)::
(nat_lit 217,o "words" 449 "Token.words" 450 451 67 1 0 0 3 212 181 213 214 215 216 453 67 454)::
(nat_lit 218,f t.iF)::
(nat_lit 220,⟨(T "dict"),none,.dict #[E P "__module__" 434 (S "staywalk.tokens" 410),E P "__firstlineno__" 438 (.int 60 437),E P "__init__" 448 (R 211),E P "words" 455 (R 218),E P "__static_attributes__" 459 (R 219),E P "__dict__" 461 (R 222),E P "__weakref__" 463 (R 223),E P "__doc__" 464 N] 4, #[]⟩)::
(nat_lit 221,⟨(T "type"),none,.cls ⟨"Token",[(T "object")],[(R 221),(T "object")],220,"Token",true,[],[(R 250),(R 277),(R 304)],false,none,false⟩, #[none,none,some (S "Token" 427),some (S "Token" 435),some (.builtin "object.__new__"),some (B true)]⟩)::
(nat_lit 233,⟨(T "tuple"),none,.seq #[(.int 0 479),(.int 65536 480)] 0, #[]⟩)::
(nat_lit 239,o "__init__" 481 "BySlots.__init__" 482 483 71 3 0 0 3 234 181 235 236 237 238 487 71 488)::
(nat_lit 240,f t.cn)::
(nat_lit 246,o "holds" 490 "BySlots.holds" 491 492 76 2 0 0 3 241 181 242 243 244 245 495 76 496)::
(nat_lit 247,f t.fH)::
(nat_lit 249,⟨(T "dict"),none,.dict #[E P "__module__" 474 (S "staywalk.tokens" 410),E P "__firstlineno__" 478 (.int 69 477),E P "__init__" 489 (R 240),E P "holds" 497 (R 247),E P "__static_attributes__" 498 (R 248),E P "__doc__" 499 N] 2, #[]⟩)::
(nat_lit 250,⟨(T "type"),none,.cls ⟨"BySlots",[(R 221)],[(R 250),(R 221),(T "object")],249,"BySlots",true,[],[],false,none,false⟩, #[some (R 226),none,some (S "BySlots" 467),some (S "BySlots" 475),some (.builtin "object.__new__"),some (B true)]⟩)::
(nat_lit 260,⟨(T "tuple"),none,.seq #[(.int 0 514),N] 0, #[]⟩)::
(nat_lit 266,o "__init__" 515 "Up.__init__" 516 517 80 3 0 0 3 261 181 262 263 264 265 521 80 522)::
(nat_lit 267,f t.iE)::
(nat_lit 273,o "holds" 524 "Up.holds" 525 526 85 2 0 0 3 268 181 269 270 271 272 529 85 530)::
(nat_lit 274,f t.mG)::
(nat_lit 276,⟨(T "dict"),none,.dict #[E P "__module__" 509 (S "staywalk.tokens" 410),E P "__firstlineno__" 513 (.int 78 512),E P "__init__" 523 (R 267),E P "holds" 531 (R 274),E P "__static_attributes__" 532 (R 275),E P "__doc__" 533 N] 2, #[]⟩)::
(nat_lit 277,⟨(T "type"),none,.cls ⟨"Up",[(R 221)],[(R 277),(R 221),(T "object")],276,"Up",true,[],[],false,none,false⟩, #[some (R 253),none,some (S "Up" 502),some (S "Up" 510),some (.builtin "object.__new__"),some (B true)]⟩)::
(nat_lit 287,⟨(T "tuple"),none,.seq #[N,(.int 0 548)] 0, #[]⟩)::
(nat_lit 293,o "__init__" 549 "Down.__init__" 550 551 89 3 0 0 3 288 181 289 290 291 292 555 89 556)::
(nat_lit 294,f t.eX)::
(nat_lit 300,o "holds" 558 "Down.holds" 559 560 94 2 0 0 3 295 181 296 297 298 299 563 94 564)::
(nat_lit 301,f t.jC)::
(nat_lit 303,⟨(T "dict"),none,.dict #[E P "__module__" 543 (S "staywalk.tokens" 410),E P "__firstlineno__" 547 (.int 87 546),E P "__init__" 557 (R 294),E P "holds" 565 (R 301),E P "__static_attributes__" 566 (R 302),E P "__doc__" 567 N] 2, #[]⟩)::
(nat_lit 304,⟨(T "type"),none,.cls ⟨"Down",[(R 221)],[(R 304),(R 221),(T "object")],303,"Down",true,[],[],false,none,false⟩, #[some (R 280),none,some (S "Down" 536),some (S "Down" 544),some (.builtin "object.__new__"),some (B true)]⟩)::
(nat_lit 307,⟨(T "tuple"),none,.seq #[(.int 10 574),N] 0, #[]⟩)::
(nat_lit 311,c [(S "ask" 575),(S "ask" 576),(F 577),(I 98),(I 4),(I 0),(I 0),(I 3),(R 308),(B true),(I 181),(R 309),N,N,N,(R 310),(I 578),(I 98),(F 579)])::
(nat_lit 312,f t.z6)::
(nat_lit 318,o "page_by_slots" 581 "page_by_slots" 582 583 106 3 0 0 3 313 181 314 315 316 317 591 106 592)::
(nat_lit 319,f t.gj)::
(nat_lit 323,c [(S "page_by_keys" 594),(S "page_by_keys" 595),(F 596),(I 120),(I 3),(I 0),(I 0),(I 3),(R 320),(B true),(I 181),(R 321),N,N,N,(R 322),(I 597),(I 120),(F 598)])::
(nat_lit 324,f t.iA)::
(nat_lit 328,c [(S "keys_of_page" 600),(S "keys_of_page" 601),(F 602),(I 123),(I 3),(I 0),(I 0),(I 3),(R 325),(B true),(I 181),(R 326),N,N,N,(R 327),(I 603),(I 123),(F 604)])::
(nat_lit 329,f t.iB)::
(nat_lit 335,o "keys_near" 606 "keys_near" 607 608 132 3 0 0 3 330 181 331 332 333 334 612 132 613)::
(nat_lit 336,f t.mC)::
(nat_lit 342,o "token_behind" 615 "token_behind" 616 617 136 2 0 0 3 337 181 338 339 340 341 620 136 621)::
(nat_lit 343,f t.iz)::
(nat_lit 349,o "is_left" 625 "is_left" 626 627 141 2 0 0 3 344 181 345 346 347 348 630 141 631)::
(nat_lit 350,f t.rP)::
(nat_lit 370,o "__init__" 653 "Page.__init__" 654 655 150 2 0 0 3 365 181 366 367 368 369 658 150 659)::
(nat_lit 371,f t.kM)::
(nat_lit 377,o "read" 661 "Page.read" 662 663 157 3 0 0 3 372 181 373 374 375 376 668 157 669)::
(nat_lit 378,f t.kL)::
(nat_lit 391,o "outcome" 679 "Page.outcome" 680 681 165 1 0 0 3 386 181 387 388 389 390 685 165 686)::
(nat_lit 392,f t.gk)::
(nat_lit 394,⟨(T "dict"),none,.dict #[E P "__module__" 648 (S "staywalk.copier" 623),E P "__firstlineno__" 652 (.int 148 651),E P "__init__" 660 (R 371),E P "read" 670 (R 378),E P "in_piece" 678 (R 385),E P "outcome" 687 (R 392),E P "__static_attributes__" 693 (R 393),E P "__dict__" 695 (R 396),E P "__weakref__" 697 (R 397),E P "__doc__" 698 N] 4, #[]⟩)::
(nat_lit 395,⟨(T "type"),none,.cls ⟨"Page",[(T "object")],[(R 395),(T "object")],394,"Page",true,[],[],false,none,false⟩, #[none,none,some (S "Page" 641),some (S "Page" 649),some (.builtin "object.__new__"),some (B true)]⟩)::
(nat_lit 407,⟨(T "tuple"),none,.seq #[N] 0, #[]⟩)::
(nat_lit 413,o "__init__" 713 "Copier.__init__" 714 715 172 4 0 0 3 408 181 409 410 411 412 720 172 721)::
(nat_lit 414,f t.eY)::
(nat_lit 420,o "open_page" 723 "Copier.open_page" 724 725 182 1 0 0 3 415 181 416 417 418 419 727 182 728)::
(nat_lit 421,f t.dD)::
(nat_lit 422,⟨(T "tuple"),none,.seq #[(.int 10 730)] 0, #[]⟩)::
(nat_lit 428,o "read_page" 731 "Copier.read_page" 732 733 190 2 0 0 3 423 181 424 425 426 427 737 190 738)::
(nat_lit 429,f t.b5)::
(nat_lit 435,o "close_page" 740 "Copier.close_page" 741 742 197 1 0 0 3 430 181 431 432 433 434 745 197 746)::
(nat_lit 436,f t.cV)::
(nat_lit 442,o "follow" 748 "Copier.follow" 749 750 204 2 0 0 3 437 181 438 439 440 441 755 204 756)::
(nat_lit 443,f t.fF)::
(nat_lit 449,o "follow_mark" 758 "Copier.follow_mark" 759 760 214 2 0 0 3 444 181 445 446 447 448 764 214 765)::
(nat_lit 450,f t.cu)::
(nat_lit 463,o "copy" 777 "Copier.copy" 778 779 230 1 0 0 3 458 181 459 460 461 462 781 230 782)::
(nat_lit 464,f t.iI)::
(nat_lit 470,o "covers" 784 "Copier.covers" 785 786 233 2 0 0 3 465 181 466 467 468 469 789 233 790)::
(nat_lit 471,f t.fG)::
(nat_lit 477,o "place" 792 "Copier.place" 793 794 236 1 0 0 3 472 181 473 474 475 476 796 236 797)::
(nat_lit 478,f t.gr)::
(nat_lit 484,o "left" 799 "Copier.left" 800 801 239 1 0 0 3 479 181 480 481 482 483 803 239 804)::
(nat_lit 485,f t.iH)::
(nat_lit 491,o "total" 806 "Copier.total" 807 808 242 1 0 0 3 486 181 487 488 489 490 810 242 811)::
(nat_lit 492,f t.gp)::
(nat_lit 501,⟨(T "dict"),none,.dict #[E P "__module__" 708 (S "staywalk.copier" 623),E P "__firstlineno__" 712 (.int 170 711),E P "__init__" 722 (R 414),E P "open_page" 729 (R 421),E P "read_page" 739 (R 429),E P "close_page" 747 (R 436),E P "follow" 757 (R 443),E P "follow_mark" 766 (R 450),E P "follow_change" 776 (R 457),E P "copy" 783 (R 464),E P "covers" 791 (R 471),E P "place" 798 (R 478),E P "left" 805 (R 485),E P "total" 812 (R 492),E P "stopped" 819 (R 499),E P "__static_attributes__" 826 (R 500),E P "__dict__" 828 (R 503),E P "__weakref__" 830 (R 504),E P "__doc__" 831 N] 4, #[]⟩)::
(nat_lit 502,⟨(T "type"),none,.cls ⟨"Copier",[(T "object")],[(R 502),(T "object")],501,"Copier",true,[],[],false,none,false⟩, #[none,none,some (S "Copier" 701),some (S "Copier" 709),some (.builtin "object.__new__"),some (B true)]⟩)::
(nat_lit 519,o "__init__" 852 "Leaves.__init__" 853 854 252 1 0 0 3 514 181 515 516 517 518 856 252 857)::
(nat_lit 520,f t.iG)::
(nat_lit 524,c [(S "add" 859),(S "Leaves.add" 860),(F 861),(I 255),(I 2),(I 0),(I 0),(I 3),(R 521),(B true),(I 181),(R 522),N,N,N,(R 523),(I 862),(I 255),(F 863)])::
(nat_lit 525,f t.jy)::
(nat_lit 531,o "discard" 865 "Leaves.discard" 866 867 267 2 0 0 3 526 181 527 528 529 530 871 267 872)::
(nat_lit 532,f t.eT)::
(nat_lit 538,o "has" 874 "Leaves.has" 875 876 278 2 0 0 3 533 181 534 535 536 537 880 278 881)::
(nat_lit 539,f t.jx)::
(nat_lit 543,c [(S "many" 883),(S "Leaves.many" 884),(F 885),(I 282),(I 1),(I 0),(I 0),(I 3),(R 540),(B true),(I 181),(R 541),N,N,N,(R 542),(I 886),(I 282),(F 887)])::
(nat_lit 544,f t.mJ)::
(nat_lit 555,c [(S "from_on" 896),(S "Leaves.from_on" 897),(F 898),(I 288),(I 3),(I 0),(I 0),(I 3),(R 552),(B true),(I 181),(R 553),N,N,N,(R 554),(I 899),(I 288),(F 900)])::
(nat_lit 556,f t.eS)::
(nat_lit 560,c [(S "down_from" 902),(S "Leaves.down_from" 903),(F 904),(I 296),(I 3),(I 0),(I 0),(I 3),(R 557),(B true),(I 181),(R 558),N,N,N,(R 559),(I 905),(I 296),(F 906)])::
(nat_lit 561,f t.dC)::
(nat_lit 567,o "leaf_of" 908 "Leaves.leaf_of" 909 910 306 2 0 0 3 562 181 563 564 565 566 916 306 917)::
(nat_lit 568,f t.eQ)::
(nat_lit 574,o "part_leaf" 919 "Leaves.part_leaf" 920 921 317 2 0 0 3 569 181 570 571 572 573 926 317 927)::
(nat_lit 575,f t.dB)::
(nat_lit 581,o "join_small" 929 "Leaves.join_small" 930 931 323 2 0 0 3 576 181 577 578 579 580 935 323 936)::
(nat_lit 582,f t.cU)::
(nat_lit 584,⟨(T "dict"),none,.dict #[E P "__module__" 847 (S "staywalk.leaves" 834),E P "__firstlineno__" 851 (.int 250 850),E P "__init__" 858 (R 520),E P "add" 864 (R 525),E P "discard" 873 (R 532),E P "has" 882 (R 539),E P "many" 888 (R 544),E P "all_of" 895 (R 551),E P "from_on" 901 (R 556),E P "down_from" 907 (R 561),E P "leaf_of" 918 (R 568),E P "part_leaf" 928 (R 575),E P "join_small" 937 (R 582),E P "__static_attributes__" 939 (R 583),E P "__dict__" 941 (R 586),E P "__weakref__" 943 (R 587),E P "__doc__" 944 N] 4, #[]⟩)::
(nat_lit 585,⟨(T "type"),none,.cls ⟨"Leaves",[(T "object")],[(R 585),(T "object")],584,"Leaves",true,[],[],false,none,false⟩, #[none,none,some (S "Leaves" 840),some (S "Leaves" 848),some (.builtin "object.__new__"),some (B true)]⟩)::
(nat_lit 602,o "__init__" 961 "Makes.__init__" 962 963 333 1 0 0 3 597 181 598 599 600 601 965 333 966)::
(nat_lit 603,f t.jw)::
(nat_lit 609,o "note" 968 "Makes.note" 969 970 336 3 0 0 3 604 181 605 606 607 608 974 336 975)::
(nat_lit 610,f t.jv)::
(nat_lit 633,⟨(T "dict"),none,.dict #[E P "__module__" 956 (S "staywalk.makes" 947),E P "__firstlineno__" 960 (.int 331 959),E P "__init__" 967 (R 603),E P "note" 976 (R 610),E P "all_told" 983 (R 617),E P "value_at" 992 (R 624),E P "sweep" 1000 (R 631),E P "__static_attributes__" 1002 (R 632),E P "__dict__" 1004 (R 635),E P "__weakref__" 1006 (R 636),E P "__doc__" 1007 N] 4, #[]⟩)::
(nat_lit 634,⟨(T "type"),none,.cls ⟨"Makes",[(T "object")],[(R 634),(T "object")],633,"Makes",true,[],[],false,none,false⟩, #[none,none,some (S "Makes" 949),some (S "Makes" 957),some (.builtin "object.__new__"),some (B true)]⟩)::
(nat_lit 642,c [(S "empty_row" 1016),(S "empty_row" 1017),(F 1018),(I 353),(I 1),(I 0),(I 0),(I 3),(R 639),(B true),(I 181),(R 640),N,N,N,(R 641),(I 1019),(I 353),(F 1020)])::
(nat_lit 643,f t.mD)::
(nat_lit 656,o "__init__" 1034 "Slots.__init__" 1035 1036 357 1 0 0 3 651 181 652 653 654 655 1038 357 1039)::
(nat_lit 657,f t.jt)::
(nat_lit 663,o "put" 1041 "Slots.put" 1042 1043 362 3 0 0 3 658 181 659 660 661 662 1048 362 1049)::
(nat_lit 664,f t.kI)::
(nat_lit 670,o "drop" 1051 "Slots.drop" 1052 1053 370 2 0 0 3 665 181 666 667 668 669 1056 370 1057)::
(nat_lit 671,f t.ju)::
(nat_lit 677,o "get" 1059 "Slots.get" 1060 1061 378 2 0 0 3 672 181 673 674 675 676 1065 378 1066)::
(nat_lit 678,f t.kK)::
(nat_lit 684,o "has" 1068 "Slots.has" 1069 1070 384 2 0 0 3 679 181 680 681 682 683 1073 384 1074)::
(nat_lit 685,f t.kJ)::
(nat_lit 696,c [(S "rows" 1083),(S "Slots.rows" 1084),(F 1085),(I 390),(I 1),(I 0),(I 0),(I 3),(R 693),(B true),(I 181),(R 694),N,N,N,(R 695),(I 1086),(I 390),(F 1087)])::
(nat_lit 697,f t.js)::
(nat_lit 703,o "moved" 1089 "Slots.moved" 1090 1091 393 1 0 0 3 698 181 699 700 701 702 1093 393 1094)::
(nat_lit 704,f t.mI)::
(nat_lit 715,c [(S "span" 1103),(S "Slots.span" 1104),(F 1105),(I 399),(I 3),(I 0),(I 0),(I 3),(R 712),(B true),(I 181),(R 713),N,N,N,(R 714),(I 1106),(I 399),(F 1107)])::
(nat_lit 716,f t.jr)::
(nat_lit 722,o "stop" 1109 "Slots.stop" 1110 1111 409 2 0 0 3 717 181 718 719 720 721 1115 409 1116)::
(nat_lit 723,f t.jq)::
(nat_lit 729,o "cell_of" 1118 "Slots.cell_of" 1119 1120 413 2 0 0 3 724 181 725 726 727 728 1126 413 1127)::
(nat_lit 730,f t.fE)::
(nat_lit 736,o "lying_at" 1129 "Slots.lying_at" 1130 1131 421 2 0 0 3 731 181 732 733 734 735 1140 421 1141)::
(nat_lit 737,f t.eP)::
(nat_lit 743,o "move_slot" 1143 "Slots.move_slot" 1144 1145 430 1 0 0 3 738 181 739 740 741 742 1151 430 1152)::
(nat_lit 744,f t.dR)::
(nat_lit 750,o "begin_row" 1154 "Slots.begin_row" 1155 1156 443 1 0 0 3 745 181 746 747 748 749 1159 443 1160)::
(nat_lit 751,f t.dS)::
(nat_lit 753,⟨(T "dict"),none,.dict #[E P "__module__" 1029 (S "staywalk.slots" 1010),E P "__firstlineno__" 1033 (.int 355 1032),E P "__init__" 1040 (R 657),E P "put" 1050 (R 664),E P "drop" 1058 (R 671),E P "get" 1067 (R 678),E P "has" 1075 (R 685),E P "many" 1082 (R 692),E P "rows" 1088 (R 697),E P "moved" 1095 (R 704),E P "cells" 1102 (R 711),E P "span" 1108 (R 716),E P "stop" 1117 (R 723),E P "cell_of" 1128 (R 730),E P "lying_at" 1142 (R 737),E P "move_slot" 1153 (R 744),E P "begin_row" 1161 (R 751),E P "__static_attributes__" 1165 (R 752),E P "__dict__" 1167 (R 755),E P "__weakref__" 1169 (R 756),E P "__doc__" 1170 N] 4, #[]⟩)::
(nat_lit 754,⟨(T "type"),none,.cls ⟨"Slots",[(T "object")],[(R 754),(T "object")],753,"Slots",true,[],[],false,none,false⟩, #[none,none,some (S "Slots" 1022),some (S "Slots" 1030),some (.builtin "object.__new__"),some (B true)]⟩)::
(nat_lit 771,o "__init__" 1187 "House.__init__" 1188 1189 454 1 0 0 3 766 181 767 768 769 770 1191 454 1192)::
(nat_lit 772,f t.jz)::
(nat_lit 778,o "put" 1194 "House.put" 1195 1196 464 3 0 0 3 773 181 774 775 776 777 1200 464 1201)::
(nat_lit 779,f t.kN)::
(nat_lit 785,o "drop" 1203 "House.drop" 1204 1205 470 2 0 0 3 780 181 781 782 783 784 1208 470 1209)::
(nat_lit 786,f t.jA)::
(nat_lit 792,o "get" 1211 "House.get" 1212 1213 475 2 0 0 3 787 181 788 789 790 791 1216 475 1217)::
(nat_lit 793,f t.kO)::
(nat_lit 799,o "has" 1219 "House.has" 1220 1221 478 2 0 0 3 794 181 795 796 797 798 1224 478 1225)::
(nat_lit 800,f t.qj)::
(nat_lit 813,o "lay_mark" 1234 "House.lay_mark" 1235 1236 484 1 0 0 3 808 181 809 810 811 812 1238 484 1239)::
(nat_lit 814,f t.eU)::
(nat_lit 815,⟨(T "tuple"),none,.seq #[(.int 0 1241)] 0, #[]⟩)::
(nat_lit 821,o "diary" 1242 "House.diary" 1243 1244 489 2 0 0 3 816 181 817 818 819 820 1247 489 1248)::
(nat_lit 822,f t.eV)::
(nat_lit 878,o "done" 1307 "House.done" 1308 1309 514 3 0 0 3 873 181 874 875 876 877 1314 514 1315)::
(nat_lit 879,f t.jB)::
(nat_lit 895,⟨(T "dict"),none,.dict #[E P "__module__" 1182 (S "staywalk.house" 1173),E P "__firstlineno__" 1186 (.int 452 1185),E P "__init__" 1193 (R 772),E P "put" 1202 (R 779),E P "drop" 1210 (R 786),E P "get" 1218 (R 793),E P "has" 1226 (R 800),E P "many" 1233 (R 807),E P "lay_mark" 1240 (R 814),E P "diary" 1249 (R 822),E P "makes" 1257 (R 829),E P "hold" 1264 (R 836),E P "let_go" 1272 (R 843),E P "held" 1279 (R 850),E P "sweep" 1286 (R 857),E P "was" 1295 (R 864),E P "page_at" 1306 (R 872),E P "done" 1316 (R 879),E P "refuse_outside" 1324 (R 886),E P "value_then" 1333 (R 893),E P "__static_attributes__" 1342 (R 894),E P "__dict__" 1344 (R 897),E P "__weakref__" 1346 (R 898),E P "__doc__" 1347 N] 4, #[]⟩)::
(nat_lit 896,⟨(T "type"),none,.cls ⟨"House",[(T "object")],[(R 896),(T "object")],895,"House",true,[],[],false,none,false⟩, #[none,none,some (S "House" 1175),some (S "House" 1183),some (.builtin "object.__new__"),some (B true)]⟩)::
(nat_lit 906,o "_law_cell_at" 1352 "_law_cell_at" 1353 1354 530 2 0 0 3 901 181 902 903 904 905 1357 530 1358)::
(nat_lit 907,f t.iD)::
(nat_lit 913,o "_law_mixed" 1360 "_law_mixed" 1361 1362 534 2 0 0 3 908 181 909 910 911 912 1366 534 1367)::
(nat_lit 914,f t.kF)::
(nat_lit 920,o "_law_place" 1369 "_law_place" 1370 1371 537 1 0 0 3 915 181 916 917 918 919 1376 537 1377)::
(nat_lit 921,f t.kE)::
(nat_lit 925,c [(S "_law_run" 1379),(S "_law_run" 1380),(F 1381),(I 544),(I 1),(I 0),(I 0),(I 3),(R 922),(B true),(I 181),(R 923),N,N,N,(R 924),(I 1382),(I 544),(F 1383)])::
(nat_lit 926,f t.pA)::
(nat_lit 932,o "_law_deed" 1385 "_law_deed" 1386 1387 561 3 0 0 3 927 181 928 929 930 931 1394 561 1395)::
(nat_lit 933,f t.mF)::
(nat_lit 939,o "_law_house" 1397 "_law_house" 1398 1399 574 1 0 0 3 934 181 935 936 937 938 1404 574 1405)::
(nat_lit 940,f t.kG)::
(nat_lit 946,o "_law_numbers_told" 1407 "_law_numbers_told" 1408 1409 580 2 0 0 3 941 181 942 943 944 945 1414 580 1415)::
(nat_lit 947,f t.dA)::
(nat_lit 953,o "_law_numbers" 1417 "_law_numbers" 1418 1419 591 2 0 0 3 948 181 949 950 951 952 1426 591 1427)::
(nat_lit 954,f t.iC)::
(nat_lit 960,o "_law_token" 1429 "_law_token" 1430 1431 609 1 0 0 3 955 181 956 957 958 959 1433 609 1434)::
(nat_lit 961,f t.kD)::
(nat_lit 967,o "_law_holds" 1436 "_law_holds" 1437 1438 615 2 0 0 3 962 181 963 964 965 966 1444 615 1445)::
(nat_lit 968,f t.kH)::
(nat_lit 974,o "_law_words" 1447 "_law_words" 1448 1449 622 1 0 0 3 969 181 970 971 972 973 1451 622 1452)::
(nat_lit 975,f t.kC)::
(nat_lit 981,o "_law_read" 1454 "_law_read" 1455 1456 626 4 0 0 3 976 181 977 978 979 980 1462 626 1463)::
(nat_lit 982,f t.mE)::
(nat_lit 986,c [(S "law" 1465),(S "law" 1466),(F 1467),(I 631),(I 1),(I 0),(I 0),(I 3),(R 983),(B true),(I 181),(R 984),N,N,N,(R 985),(I 1468),(I 631),(F 1469)])::
(nat_lit 987,f t.Cn)::[]
noncomputable abbrev as:List Addr:=[2,3,30,31,43,44,55,56,71,72,74,75,90,91,93,94,109,110,112,113,128,129,131,132,140,141,147,148,154,155,161,162,168,169,175,176,182,183,189,190,196,197,210,211,217,218,220,221,233,239,240,246,247,249,250,260,266,267,273,274,276,277,287,293,294,300,301,303,304,307,311,312,318,319,323,324,328,329,335,336,342,343,349,350,370,371,377,378,391,392,394,395,407,413,414,420,421,422,428,429,435,436,442,443,449,450,463,464,470,471,477,478,484,485,491,492,501,502,519,520,524,525,531,532,538,539,543,544,555,556,560,561,567,568,574,575,581,582,584,585,602,603,609,610,633,634,642,643,656,657,663,664,670,671,677,678,684,685,696,697,703,704,715,716,722,723,729,730,736,737,743,744,750,751,753,754,771,772,778,779,785,786,792,793,799,800,813,814,815,821,822,878,879,895,896,906,907,913,914,920,921,925,926,932,933,939,940,946,947,953,954,960,961,967,968,974,975,981,982,986,987]
noncomputable abbrev p:Program:=PySem.Challenge.pw_staywalk_k52_a_page_in_peace
noncomputable abbrev q:Program:=view p [0,2,3,4,5,6,7,8,10,11,12,13,14,15,16,17,19,21,22,23,24,25,26,28,30,31,32,33,34,36,37,38,39,41,42,43,45,47,48,49,50,52,54,55,56,57,58,59,60,61,62,63,64,65,66]
noncomputable abbrev H:Hook:=kHook K as λ_=>rfl
theorem said:OpenLaw.wellSaid PySem.Challenge.rw_staywalk_k52_a_page_in_peace=true:=by
 rw[Fast.te9446332074065402090]
 kernel_rfl
noncomputable abbrev M:Nat:=14300
noncomputable abbrev L:List Str:=["BySlots","Up","Down","ask"]
noncomputable abbrev X:Shared->Bool:=λs=>xlAt q [] s&&recOk [] s
theorem lA:∀w,HD.lA p q M w=some ((openGood q L).1,(openGood q L).2.1):=λw=>by kernel_rfl
theorem lB:∀w,HD.lB p q L X M w=some (true,true):=λw=>by kernel_rfl
theorem lC:∀w,HD.lC p q L M w=some (openGood q L).2.2.2.2:=λw=>by kernel_rfl
theorem lD:∀w,(HD.endP p w M).map (Hook.obs H)=some (Hook.val H w):=λw=>by kernel_rfl
theorem left:LeftO p q L X (Hook.obs H) (Hook.val H) M:=HD.left_of lA lB lC lD
end ZK
namespace L2
open PySem PySem.Spec PyProof.Rows
abbrev Key:=Sum Int Str
def my:Key->Value->Bool
 | .inl k,v=>Value.isInt k v
 | .inr x,v=>Value.isStrOf x v
def keyH (w:World):Key->Int
 | .inl k=>hashInt k
 | .inr x=>hashStr w x
theorem bW:∀{k:Key} {v:Value},my k v=true->(∃i t,k=Sum.inl i/\v=Value.int i t)\/(∃x t,k=Sum.inr x/\v=Value.str x t)
 | .inl i,v,h=>by
  obtain⟨t,e⟩:=Value.isInt_shape (k:=i) (v:=v) h;exact .inl ⟨i,t,rfl,e⟩
 | .inr x,v,h=>by
  obtain⟨t,e⟩:=Value.isStrOf_shape (x:=x) (v:=v) h;exact .inr ⟨x,t,rfl,e⟩
theorem Di (i:Int) (t:Tok):my (.inl i) (.int i t)=true:=by simp[my,Value.isInt]
theorem Dh (x:Str) (t:Tok):my (.inr x) (.str x t)=true:=by simp[my,Value.isStrOf]
theorem Jv (a b:Int):decide ((Sum.inl a:Key)=Sum.inl b)=(a==b):=by
 by_cases e:a=b
 .subst e;simp
 .have h:¬(Sum.inl a:Key)=Sum.inl b:=λq=>e (Sum.inl.inj q);rw[decide_eq_false h];exact(beq_eq_false_iff_ne.mpr e).symm
theorem Js (a b:Str):decide ((Sum.inr a:Key)=Sum.inr b)=decide (a=b):=by
 by_cases e:a=b
 .subst e;simp
 .have h:¬(Sum.inr a:Key)=Sum.inr b:=λq=>e (Sum.inr.inj q);rw[decide_eq_false h,decide_eq_false e]
theorem Ju (a:Int) (b:Str):decide ((Sum.inl a:Key)=Sum.inr b)=false:=decide_eq_false (λq=>nomatch q)
theorem Jt (a:Str) (b:Int):decide ((Sum.inr a:Key)=Sum.inl b)=false:=decide_eq_false (λq=>nomatch q)
def a7 (prog:Program) (w:World):PySem.KeyKind prog w Key where
 is:=my
 hash:=keyH w
 inj:=λv a b ha hb=>by
  rcases bW ha with⟨i,t,rfl,rfl⟩|⟨x,t,rfl,rfl⟩
  .rcases bW hb with⟨j,u,rfl,e⟩|⟨y,u,rfl,e⟩
   .injection e with e1 _;rw[e1]
   .exact nomatch e
  .rcases bW hb with⟨j,u,rfl,e⟩|⟨y,u,rfl,e⟩
   .exact nomatch e
   .injection e with e1 _;rw[e1]
 byValue:=λk v h=>by
  rcases bW h with⟨i,t,rfl,rfl⟩|⟨x,t,rfl,rfl⟩<;>rfl
 pyHash:=λhv h=>by
  rcases bW hv with⟨i,t,rfl,rfl⟩|⟨x,t,rfl,rfl⟩
  .exact wpAny_pyHash_int h
  .exact wpAny_pyHash_str h
 eqBool:=λhu hv h=>by
  rcases bW hu with⟨i,t,rfl,rfl⟩|⟨x,t,rfl,rfl⟩
  .rcases bW hv with⟨j,u,rfl,rfl⟩|⟨y,u,rfl,rfl⟩
   .rw[Jv]at h;exact wpAny_eqBool_int h
   .rw[Ju]at h;exact SeqAt.EqAt.int_str i t y u _ _ _ _ h
  .rcases bW hv with⟨j,u,rfl,rfl⟩|⟨y,u,rfl,rfl⟩
   .rw[Jt]at h;exact SeqAt.EqAt.str_int x t j u _ _ _ _ h
   .rw[Js]at h;exact wpAny_eqBool_str h
 «strs»:=λk x t v h=>by
  rcases bW h with⟨i,u,rfl,e⟩|⟨y,u,rfl,e⟩
  .exact nomatch e
  .injection e with e1 _;subst e1;cases v<;>rfl
theorem Bk (prog:Program) (w:World) (k:Key) (v:Value):(a7 prog w).is k v=my k v:=rfl
theorem zL (prog:Program) (w:World) (i:Int) (t:Tok):(a7 prog w).is (.inl i) (.int i t)=true:=Di i t
theorem zK (prog:Program) (w:World) (x:Str) (t:Tok):(a7 prog w).is (.inr x) (.str x t)=true:=Dh x t
end L2
namespace L2
open PySem PySem.Spec PyProof.Rows
inductive V where
 |non|bl (b:Bool)|int (i:Int)|str (x:Str)|byt (b:Array UInt8)|flt (b:UInt64)|ref (a:Addr)|ty (n:String)
 deriving DecidableEq
variable {a b:Addr} {o u:HO} {h h':Heap} {H:Hp} {P:Program} {w:World}
def RelV:V->Value->Prop
 | .non,u=>u=Value.none
 | .bl b,u=>u=Value.bool b
 | .int i,u=>∃t,u=Value.int i t
 | .str x,u=>∃t,u=Value.str x t
 | .byt b,u=>∃t,u=Value.bytes b t
 | .flt b,u=>∃t,u=Value.float b t
 | .ref a,u=>u=Value.ref a
 | .ty n,u=>u=Value.type n
abbrev Vals:List V->List Value->Prop:=Paired RelV
theorem Vals.length {xs:List V} {us:List Value} (r:Vals xs us):xs.length=us.length:=Paired.length r
theorem Vals.get:∀{xs:List V} {us:List Value} {i:Nat} {x:V},Vals xs us->xs[i]?=some x->∃u,us[i]?=some u/\RelV x u
 |_,_,_,_,.nil,e=>by simp at e
 |_,_,0,_,.cons r _,e=>by simp at e;subst e;exact⟨_,rfl,r⟩
 |_,_,i+1,x,.cons _ t,e=>by
  obtain⟨u,h1,h2⟩:=Vals.get (i:=i) (x:=x) t (by simpa using e);exact⟨u,by simpa using h1,h2⟩
theorem Vals.set {x:V} {u:Value} (r:RelV x u):∀{xs:List V} {us:List Value} (i:Nat),Vals xs us->Vals (xs.set i x) (us.set i u)
 |_,_,_,.nil=> .nil
 |_,_,0,.cons _ t=> .cons r t
 |_,_,i+1,.cons q t=> .cons q (Vals.set r i t)
theorem Vals.append:∀{xs ys:List V} {us ws:List Value},Vals xs us->Vals ys ws->Vals (xs++ys) (us++ws)
 |_,_,_,_,.nil,s=>s
 |_,_,_,_,.cons r t,s=> .cons r (Vals.append t s)
theorem Vals.take:∀{xs:List V} {us:List Value} (n:Nat),Vals xs us->Vals (xs.take n) (us.take n)
 |_,_,0,_=> .nil
 |_,_,_+1,.nil=> .nil
 |_,_,n+1,.cons r t=> .cons r (Vals.take n t)
theorem Vals.drop:∀{xs:List V} {us:List Value} (n:Nat),Vals xs us->Vals (xs.drop n) (us.drop n)
 |_,_,0,r=>r
 |_,_,_+1,.nil=> .nil
 |_,_,n+1,.cons _ t=>Vals.drop n t
def RelO:Option V->Option Value->Prop
 |some v,some u=>RelV v u
 |none,none=>True
 |_,_=>False
def KV {κ:Type}:List (κ×V)->List (κ×Value)->Prop:=Paired λ(p:κ×V) (q:κ×Value)=>p.1=q.1/\RelV p.2 q.2
def kV:Key->V
 | .inl i=> .int i
 | .inr x=> .str x
inductive HO where
 |lst (xs:List V)
 |tup (xs:List V)
 |dK (kvs:List (Key×V))|dT (kvs:List (List Key×V))
 |set (S:Int->Bool) (n:Nat)
 |ins (C dx:Addr) (fs:List (Str×V))
 |own (x:Addr)
 |xd (fs:List (Str×V))
 |met (f x:Addr)
 |rng (lo hi:Int)
 |frz (o:Obj) (u:HO)
 |tbl (ps:Array Value)
 |ext (φ:Heap->Prop)
abbrev Hp:=Addr->Option HO
def upd (H:Hp) (a:Addr) (o:HO):Hp:=λb=>if b=a then some o else H b
theorem ae:upd H a o a=some o:=by unfold upd;rw[if_pos rfl]
theorem af (h:b≠a):upd H a o b=H b:=by unfold upd;rw[if_neg h]
theorem bE:upd (upd H a o) a u=upd H a u:=by
 funext b;unfold upd;split<;>rfl
theorem cm (h:H a=some o) (h':H b=some u) (d:o≠u):a≠b:=by
 intro e;subst e;rw[h]at h';exact d (Option.some.inj h')
theorem al (h:H a=some o) (h':H b=none):a≠b:=by
 intro e;subst e;rw[h]at h';cases h'
section
variable (P:Program) (w:World)
def ObjOk (H:Hp) (h:Heap) (a:Addr):HO->Prop
 | .lst xs=>xs.length<=sizeLine/\∃(its:List Value) (n:Nat),Vals xs its/\h.get? a=some {cls:= .type "list",data:= .seq its.toArray n}
 | .tup xs=>xs.length<=sizeLine/\∃its:List Value,Vals xs its/\IsTup h a its.toArray
 | .dK kvs=>kvs.length<=sizeLine/\(a==sysModules)=false/\∃vs,KV kvs vs/\h.DictOf (a7 P w) a vs
 | .dT kvs=>kvs.length<=sizeLine/\(a==sysModules)=false/\∃xs:List (List Key×Addr×Value),
   Paired (λ(p:List Key×V) (q:List Key×Addr×Value)=>p.1=q.1/\H q.2.1=some (.tup (p.1.map kV))/\RelV p.2 q.2.2) kvs xs/\
   ∃o es ep,h.get? a=some o/\o.ExactDict/\o.data= .dict es ep/\es.toList=xs.map (entryOfKey (tupleKind (a7 P w)))/\(xs.map (·.1)).Nodup
 | .set S n=>h.SetOf (intKind P w) a S n
 | .ins C dx fs=>H dx=some (.own a)/\fs.length<=1000/\dx≠a/\h.get? a=some (PySem.W.instObj C dx)/\
   ∃mA,h.Ns1 dx mA/\(∀f,RelO (fs.lookup f) (mA f))/\PySem.Within mA (fs.map (·.1))
 | .own _=>∃o,h.get? a=some o
 | .xd fs=>∃mA,h.Ns1 a mA/\∀f,RelO (fs.lookup f) (mA f)
 | .rng lo hi=>∃t u v,h.get? a=some {cls:= .type "range",data:= .fields #[.int lo t,.int hi u,.int 1 v]}
 | .frz o u=>h.get? a=some o/\ObjOk H h a u
 | .tbl ps=>h.get? a=some {cls:= .none,data:= .fields ps}
 | .met f x=>h.get? a=some (PySem.W.methodObj (.ref f) (.ref x))
 | .ext φ=>φ h/\(∃o,h.get? a=some o)/\∀h1 h2:Heap,φ h1->(∀o,h1.get? a=some o->h2.get? a=some o)->φ h2
def HOk (H:Hp) (h:Heap):Prop:=∀a o,H a=some o->ObjOk P w H h a o
end
section
variable {H':Hp}
theorem ObjOk.lt (x:ObjOk P w H h a o):a<h.objs.size:=by
 cases o with
 |lst xs=>obtain⟨_,_,_,_,e⟩:=x;exact Heap.lt_size e
 |tup xs=>obtain⟨_,_,_,p⟩:=x;exact p.lt
 |dK kvs=>obtain⟨_,_,_,_,o,_,_,e,_⟩:=x;exact Heap.lt_size e
 |dT kvs=>obtain⟨_,_,_,_,o,_,_,e,_⟩:=x;exact Heap.lt_size e
 |set S n=>obtain⟨o,_,_,_,e,_⟩:=x;exact Heap.lt_size e
 |ins C dx fs=>obtain⟨_,_,_,e,_⟩:=x;exact Heap.lt_size e
 |own y=>obtain⟨_,e⟩:=x;exact Heap.lt_size e
 |xd fs=>obtain⟨_,⟨_,_,_,e,_⟩,_⟩:=x;exact Heap.lt_size e
 |rng lo hi=>obtain⟨_,_,_,e⟩:=x;exact Heap.lt_size e
 |frz ob u=>obtain⟨e,_⟩:=x;exact Heap.lt_size e
 |tbl ps=>exact Heap.lt_size (show h.get? a=some _ from x)
 |met f y=>exact Heap.lt_size (show h.get? a=some _ from x)
 |ext φ=>obtain⟨_,⟨_,e⟩,_⟩:=x;exact Heap.lt_size e
theorem Paired.mapP {α β:Type} {F G:α->β->Prop}:∀{l₁:List α} {l₂:List β},Paired F l₁ l₂->(∀a b,F a b->G a b)->Paired G l₁ l₂
 |_,_,.nil,_=> .nil
 |_,_,.cons r t,f=> .cons (f _ _ r) (Paired.mapP t f)
theorem ObjOk.stay (x:ObjOk P w H h a o) (k:∀b u,(b=a\/H b=some (.own a))->h.get? b=some u->h'.get? b=some u)
  (ho:∀b,H b=some (.own a)->H' b=some (.own a)) (ht:∀b xs,H b=some (.tup xs)->H' b=some (.tup xs)):ObjOk P w H' h' a o:=by
 induction o with
 |lst xs=>obtain⟨z,its,n,r,e⟩:=x;exact⟨z,its,n,r,k _ _ (.inl rfl) e⟩
 |tup xs=>obtain⟨z,its,r,ob,e,c⟩:=x;exact⟨z,its,r,ob,k _ _ (.inl rfl) e,c⟩
 |dK kvs=>obtain⟨z,y,vs,r,ob,es,ep,e,c⟩:=x;exact⟨z,y,vs,r,ob,es,ep,k _ _ (.inl rfl) e,c⟩
 |dT kvs=>
  obtain⟨z,y,xs,r,ob,es,ep,e,c⟩:=x;exact⟨z,y,xs,Paired.mapP r λp q z=>⟨z.1,ht _ _ z.2.1,z.2.2⟩,ob,es,ep,k _ _ (.inl rfl) e,c⟩
 |set S n=>obtain⟨ob,es,ep,t,e,c⟩:=x;exact⟨ob,es,ep,t,k _ _ (.inl rfl) e,c⟩
 |ins C dx fs=>
  obtain⟨d,z,ne,e,mA,⟨od,es,ep,e2,c⟩,r⟩:=x;exact⟨ho _ d,z,ne,k _ _ (.inl rfl) e,mA,⟨od,es,ep,k _ _ (.inr d) e2,c⟩,r⟩
 |own y=>obtain⟨ob,e⟩:=x;exact⟨ob,k _ _ (.inl rfl) e⟩
 |xd fs=>obtain⟨mA,⟨od,es,ep,e,c⟩,r⟩:=x;exact⟨mA,⟨od,es,ep,k _ _ (.inl rfl) e,c⟩,r⟩
 |rng lo hi=>obtain⟨t,u,v,e⟩:=x;exact⟨t,u,v,k _ _ (.inl rfl) e⟩
 |frz ob u ih=>obtain⟨e,q⟩:=x;exact⟨k _ _ (.inl rfl) e,ih q⟩
 |tbl ps=>
  have e:h.get? a=some {cls:= .none,data:= .fields ps}:=x;show h'.get? a=some {cls:= .none,data:= .fields ps};exact k a _ (.inl rfl) e
 |met f y=>
  have e:h.get? a=some (PySem.W.methodObj (.ref f) (.ref y)):=x;show h'.get? a=some (PySem.W.methodObj (.ref f) (.ref y));exact k a _ (.inl rfl) e
 |ext φ=>obtain⟨p,⟨o,e⟩,st⟩:=x;exact⟨st _ _ p λo q=>k _ _ (.inl rfl) q,⟨o,k _ _ (.inl rfl) e⟩,st⟩
theorem HOk.lt (x:HOk P w H h) (e:H a=some o):a<h.objs.size:=(x a o e).lt
theorem HOk.fresh (x:HOk P w H h) (e:h.objs.size<=a):H a=none:=by
 cases q:H a with
 |none=>rfl
 |some u=>exact absurd (Qx (x.lt q) e) (Zv _)
theorem HOk.kept (x:HOk P w H h) (k:∀b u,h.get? b=some u->h'.get? b=some u):HOk P w H h':=λa o e=>
 (x a o e).stay (λb u _ q=>k b u q) (λ_ q=>q) λ_ _ q=>q
theorem HOk.laid (x:HOk P w H h) (k:∀b u,h.get? b=some u->h'.get? b=some u) (hp:h.objs.size<=a) (new:ObjOk P w (upd H a o) h' a o):HOk P w (upd H a o) h':=λb u e=>by
 have hn:=x.fresh hp;by_cases hb:b=a
 .subst hb;rw[ae]at e;cases e;exact new
 .rw[af hb]at e;exact(x b u e).stay (λc v _ q=>k c v q) (λc q=>by rw[af (al q hn)];exact q) λc xs q=>by rw[af (al q hn)];exact q
end
def Rd (H:Hp) (a:Addr) (u:HO):Prop:=H a=some u\/∃o,H a=some (.frz o u)
theorem Rd.ok (r:Rd H a u) (x:HOk P w H h):ObjOk P w H h a u:=by
 rcases r with r|⟨o,r⟩
 .exact x a u r
 .obtain⟨_,q⟩:=x a _ r;exact q
def Mut:Option HO->Prop
 |some (.lst _)=>True
 |some (.dK _)=>True
 |some (.dT _)=>True
 |some (.set _ _)=>True
 |some (.ins _ _ _)=>True
 |some (.ext _)=>True
 |_=>False
section
variable {x e:Addr} {o':HO}
theorem HOk.write (ok:HOk P w H h) (mu:Mut (H x)) (he:e=x\/H e=some (.own x)) (k:∀b u,b≠e->h.get? b=some u->h'.get? b=some u) (heo:∃u,h'.get? e=some u)
  (new:ObjOk P w (upd H x o') h' x o'):HOk P w (upd H x o') h':=λb u q=>by
 have nown:∀c y,H c=some (.own y)->c≠x:=λc y r z=>by subst z;rw[r]at mu;exact mu
 have ntup:∀c xs,H c=some (.tup xs)->c≠x:=λc xs r z=>by subst z;rw[r]at mu;exact mu
 by_cases hb:b=x
 .subst hb;rw[ae]at q;cases q;exact new
 .rw[af hb]at q;by_cases hbe:b=e
  .have q':H b=some (.own x):=by
    rcases he with z|z
    .exact absurd (hbe.trans z) hb
    .rw[hbe];exact z
   rw[q]at q';cases q';obtain⟨v,hv⟩:=heo;exact⟨v,by rw[hbe];exact hv⟩
  .refine(ok b u q).stay (λc v hc r=>k c v ?_ r) (λc r=>by rw[af (nown c b r)];exact r) λc xs r=>by rw[af (ntup c xs r)];exact r
   rcases hc with rfl|hc
   .exact hbe
   .rintro rfl;rcases he with z|z
    .exact nown c b hc z
    .rw[hc]at z;cases z;exact hb rfl
end
structure Un (fs ex:List Addr) (H H':Hp) (h h':Heap):Prop where
 keep:∀b o,h.get? b=some o->H b=none->b∉fs->b∉ex->h'.get? b=some o
 slot:∀b o,h.get? b=some o->H b=none->b∈fs->b∉ex->∃sl,h'.get? b=some {o with slots:=sl}
 free:∀b o,h.get? b=some o->H b=none->b∉ex->H' b=none
 there:∀b o,h.get? b=some o->b∉ex->∃o',h'.get? b=some o'
 tups:∀b xs,H b=some (.tup xs)->H' b=some (.tup xs)
 frzs:∀b o u,H b=some (.frz o u)->H' b=some (.frz o u)
 tbls:∀b ps,H b=some (.tbl ps)->∃more,H' b=some (.tbl (ps++more))
section
variable {fs fs' ex ex':List Addr} {H1 H2:Hp} {h1 h2:Heap} {x e:Addr}
theorem Un.any (u:Un fs ex H H1 h h1) {ob:Obj} (q:h.get? b=some ob) (n:H b=none) (hx:b∉ex):∃sl,h1.get? b=some {ob with slots:=sl}:=by
 by_cases hb:b∈fs
 .exact u.slot b ob q n hb hx
 .exact⟨ob.slots,u.keep b ob q n hb hx⟩
theorem Un.kept (k:∀b u,h.get? b=some u->h'.get? b=some u):Un fs ex H H h h':=
 ⟨λb ob q _ _ _=>k b ob q,λb ob q _ _ _=>⟨ob.slots,k b ob q⟩,λ_ _ _ n _=>n,λb ob q _=>⟨ob,k b ob q⟩,λ_ _ q=>q,λ_ _ _ q=>q,λ_ ps q=>⟨#[],by rw[q];simp⟩⟩
theorem Un.refl:Un fs ex H H h h:=Un.kept λ_ _ q=>q
theorem Un.laid (k:∀b u,h.get? b=some u->h'.get? b=some u) (hp:h.objs.size<=a) (hn:H a=none):Un fs ex H (upd H a o) h h' where
 keep:=λb u q _ _ _=>k b u q
 slot:=λb u q _ _ _=>⟨u.slots,k b u q⟩
 free:=λb u q n _=>by rw[af (QC (Qx (Heap.lt_size q) hp))];exact n
 there:=λb u q _=>⟨u,k b u q⟩
 tups:=λb xs q=>by rw[af (al q hn)];exact q
 frzs:=λb u xs q=>by rw[af (al q hn)];exact q
 tbls:=λb ps q=>⟨#[],by rw[af (al q hn),q];simp⟩
theorem Un.write (mu:Mut (H x)) (he:e=x\/H e=some (.own x)) (k:∀b u,b≠e->h.get? b=some u->h'.get? b=some u) (heo:∃u,h'.get? e=some u):Un fs ex H (upd H x o) h h':=by
 have hx:∀b,H b=none->b≠x:=λb n z=>by subst z;rw[n]at mu;exact mu
 have hb:∀b,H b=none->b≠e:=λb n z=>by
  subst z;rcases he with r|r
  .exact hx b n r
  .rw[n]at r;cases r
 have hm:∀b u,H b=some u->¬Mut (some u)->b≠x:=λb u q nm z=>by subst z;rw[q]at mu;exact nm mu
 refine⟨λb u q n _ _=>k b u (hb b n) q,λb u q n _ _=>⟨u.slots,k b u (hb b n) q⟩,λb u q n _=>by rw[af (hx b n)];exact n,λb u q _=>?_,
  λb xs q=>by rw[af (hm b _ q λz=>z)];exact q,λb u xs q=>by rw[af (hm b _ q λz=>z)];exact q,λb ps q=>⟨#[],by rw[af (hm b _ q λz=>z),q];simp⟩⟩
 by_cases hbe:b=e
 .subst hbe;exact heo
 .exact⟨u,k b u hbe q⟩
end
def trk (h:Heap) (H:Hp):List Addr:=(List.range h.objs.size).filter λa=>(H a).isSome
def yC (h:Heap) (H:Hp):Heap:=PySem.W.hideAll h (trk h H)
theorem Dn (h:Heap) (H:Hp):(yC h H).objs.size=h.objs.size:=PySem.W.hideAll_size _ _
theorem Fi {o:Obj} (e:h.get? b=some o) (n:H b=none):(yC h H).get? b=some o:=
 PySem.W.hideAll_get _ e λhm=>by
  have q:(H b).isSome=true:=(QH.mp hm).2;rw[n]at q;simp at q
theorem G7 {o:Obj} (e:(yC h H).get? b=some o):h.get? b=some o/\H b=none:=by
 have e':h.get? b=some o:=PySem.W.of_hideAll (trk h H) e;refine⟨e',?_⟩;cases q:H b with
 |none=>rfl
 |some x=>
  have hm:b∈trk h H:=QH.mpr ⟨XZ.mpr (Heap.lt_size e'),by simp[q]⟩;have z:(yC h H).get? b=none:=PySem.W.hideAll_none (trk h H) hm;rw[z]at e;cases e
end L2
namespace L2
open PySem PySem.Spec PyProof.Rows
variable {C a b dx f it:Addr} {A:Around} {g':Array GenState} {CX:CXT} {op:CmpOp} {X:Cx} {d':Drawn} {c e tg:Expr} {fd:FuncData} {base h h':Heap} {H H':Hp} {lo:Int} {g:Int->Int->Int} {pins:List (Addr×Obj)} {kw:List (Str×Value)} {ch fp:List Addr} {outer:List Env} {es:List Expr} {body:List Stmt} {N ps:List Str} {vs xs:List V} {us:List Value} {M:Model} {i j n t':Nat} {o:Option Value} {p pos pos':Pos} {P prog:Program} {K:PySem.W.Frag} {r:R2} {R:Result->Shared->Prop} {scope:Scope} {s s':Shared} {sp:Sp} {σ:St} {m name qual x:Str} {t ta te:TE} {tb:TS} {tc:TT} {v y:V} {u:Value} {E Q:Value->Shared->Prop} {rd:V->V->Hp->VK->Prop} {w:World}
section
structure Mod (K:PySem.W.Frag) (mg:Str->Option Value) (base:Heap):Prop where
 kin:K.In base
 glob:base.Ns mainGlobals mg
 blt:∃mb,base.Ns builtinsNs mb/\∀x:Str,x≠"__name__"->mb x=bootBuiltins x
 nolimit:base.NoLimit
/-- the context: a def's body (or a comprehension's block) running. base: fixed through the whole law; s₀, H₀: the entry; outer: the frames whose slots others may change (a def's callers); stack: all frames that run;
  ex:iterators that were made ahead of the entry and are walked here (a comprehension's);fn:the names whose cells were made at the entry (a def:all;a comprehension's block:its own);calm:not within an except suite;pn:pins that every state bears;xe:what is wanted of an exception that leaves the code-/
structure Cx where
 prog:Program
 w:World
 K:PySem.W.Frag
 mg:Str->Option Value
 base:Heap
 A:Around
 N:List Str
 s₀:Shared
 H₀:Hp
 env:Env
 outer:List Env
 stack:List Env
 ex:List Addr
 fn:Str->Bool
 calm:Bool
 pn:List (Addr×Obj)
 xe:Value->Shared->Prop
def frs (l:List Env):List Addr:=l.filterMap (·.frame)
abbrev Cx.fs (X:Cx):List Addr:=frs X.outer
def Vis (sc:Scope) (x:Str):Prop:=sc.names.lookup x=some .local\/sc.names.lookup x=some .cell\/sc.names.lookup x=some .free
def Loc (sc:Scope) (x:Str):Prop:=sc.names.lookup x=some .local\/sc.names.lookup x=some .cell
def Look (env:Env) (h:Heap) (m:Str->Option Value) (x:Str) (u:Value):Prop:=
 (env.kindOf x=some .local/\m x=some u)\/((env.kindOf x=some .cell\/env.kindOf x=some .free)/\∃c,env.cells.lookup x=some c/\h.IsCell c (some u))
structure Cx.Ok (X:Cx):Prop where
 mod:Mod X.K X.mg X.base
 kind:X.env.scope.kind= .function
 glob:X.env.globals=mainGlobals
 blt:X.env.builtins=builtinsNs
 above:X.s₀.heap.objs.size<=X.env.locals
 inj:∀x y c,X.env.cells.lookup x=some c->X.env.cells.lookup y=some c->x=y
 has:∀x,(X.env.kindOf x=some .cell\/X.env.kindOf x=some .free)->∃c,X.env.cells.lookup x=some c
 cab:∀x c,X.fn x=true->X.env.cells.lookup x=some c->X.s₀.heap.objs.size<=c
 hd:X.calm=true->X.A.handled=none
 frames:X.A.frames=some X.stack
 stk:X.stack=X.outer\/(X.stack=X.env::X.outer/\X.env.frame=some X.env.locals)
 exf:∀b∈X.ex,b≠X.env.locals/\∀x c,X.env.cells.lookup x=some c->c≠b
 bs:∀b o,X.base.get? b=some o->X.s₀.heap.get? b=some o/\X.H₀ b=none
 bsz:X.base.objs.size<=X.s₀.heap.objs.size
 noex:∀b o,X.base.get? b=some o->b∉X.ex
 exfs:∀b∈X.ex,b∉X.fs
 funs:X.s₀.heap.FunFrames X.base X.outer
 frf:∀b∈X.fs,X.H₀ b=none
structure Inv (X:Cx) (pins:List (Addr×Obj)) (σ:List (Option V)) (H:Hp) (s:Shared):Prop where
 ok:X.Ok
 os:s.os=X.s₀.os
 bare:AllBare s.gens
 base:Un X.fs X.ex X.H₀ H X.s₀.heap s.heap
 loc:∃m,s.heap.Ns X.env.locals m/\∀(i:Nat) (x:Str) (v:V),X.N[i]?=some x->σ[i]?=some (some v)->Vis X.env.scope x->∃u,RelV v u/\Look X.env s.heap m x u
 cell:∀x c,X.env.cells.lookup x=some c->∃v,s.heap.IsCell c v
 free:H X.env.locals=none
 freeC:∀x c,X.env.cells.lookup x=some c->H c=none
 pin:∀p∈X.pn++pins,s.heap.get? p.1=some p.2/\H p.1=none/\p.1≠X.env.locals/\p.1∉X.fs/\∀v,p.2.data≠ .cell v
 hok:HOk X.prog X.w H s.heap
 len:σ.length=X.N.length
section
variable {σ:List (Option V)}
theorem Cx.Ok.nofr (ok:X.Ok) {o:Obj} (e:X.base.get? b=some o):b∉X.fs:=λhb=>by
 have:=(ok.funs.mem hb).1;rw[e]at this;cases this
theorem Inv.bs (I:Inv X pins σ H s):∀b o,X.base.get? b=some o->s.heap.get? b=some o/\H b=none:=λb o e=>
 ⟨I.base.keep b o (I.ok.bs b o e).1 (I.ok.bs b o e).2 (I.ok.nofr e) (I.ok.noex b o e),I.base.free b o (I.ok.bs b o e).1 (I.ok.bs b o e).2 (I.ok.noex b o e)⟩
theorem Inv.bk (I:Inv X pins σ H s):∀b o,X.base.get? b=some o->s.heap.get? b=some o:=λb o e=>(I.bs b o e).1
theorem Inv.mod (I:Inv X pins σ H s):Mod X.K X.mg X.base:=I.ok.mod
theorem Inv.kIn (I:Inv X pins σ H s):X.K.In s.heap:=I.ok.mod.kin.keeps I.bk
theorem Inv.lt (I:Inv X pins σ H s):X.env.locals<s.heap.objs.size:=let⟨_,hn,_⟩:=I.loc;hn.lt
theorem Inv.sz (I:Inv X pins σ H s):X.s₀.heap.objs.size<=s.heap.objs.size:=QD I.ok.above (Zq I.lt)
theorem Inv.nofs (I:Inv X pins σ H s) (h:s.heap.objs.size<=a):a∉X.fs:=λhb=>by
 obtain⟨_,o,ho,_⟩:=I.ok.funs.mem hb;exact absurd (Qx (Heap.lt_size ho) (QD I.sz h)) (Zv _)
theorem Inv.cne (I:Inv X pins σ H s):∀x c,X.env.cells.lookup x=some c->c≠X.env.locals:=λx c e z=>by
 obtain⟨v,o,ho,hd⟩:=I.cell x c e;obtain⟨m,⟨o',es,ep,ho',hd',_⟩,_⟩:=I.loc;rw[z,ho']at ho;cases ho;rw[hd']at hd;cases hd
theorem Inv.funs (I:Inv X pins σ H s):s.heap.FunFrames X.base X.outer:=by
 have all:∀(l:List Env),(∀b∈frs l,b∈X.fs)->X.s₀.heap.FunFrames X.base l->s.heap.FunFrames X.base l:=by
  intro l
  induction l with
  |nil=>intro _ _;trivial
  |cons env r ih=>
   intro hs hl;obtain⟨hk,⟨L,o,hf,hn,ho,hd⟩,hr⟩:=hl;have hL:L∈X.fs:=hs L (by unfold frs;rw[Xr,hf];exact Q9);obtain⟨sl,e⟩:=I.base.slot L o ho (I.ok.frf L hL) hL λz=>I.ok.exfs L z hL;exact⟨hk,⟨L,_,hf,hn,e,hd⟩,ih (λb hb=>hs b (by unfold frs;rw[Xr,hf];exact Qd _ hb)) hr⟩
 exact all X.outer (λ_ hb=>hb) I.ok.funs
theorem Inv.stack (I:Inv X pins σ H s):s.heap.FunFrames X.base X.stack:=by
 rcases I.ok.stk with e|⟨e,hf⟩
 .rw[e];exact I.funs
 .rw[e];obtain⟨m,hn,_⟩:=I.loc;refine .cons (by rw[I.ok.kind];decide) hf hn ?_ I.funs;exact Heap.get?_none_of_le (QD I.ok.bsz I.ok.above)
theorem Inv.stkSub (I:Inv X pins σ H s):∀b∈frs X.stack,b∈X.env.locals::X.fs:=λb hb=>by
 rcases I.ok.stk with e|⟨e,hf⟩
 .rw[e]at hb;exact Qd _ hb
 .rw[e]at hb;unfold frs at hb;rw[Xr,hf]at hb;exact hb
theorem Inv.stkFree (I:Inv X pins σ H s):∀b∈frs X.stack,H b=none:=λb hb=>by
 rcases Qg.mp (I.stkSub b hb)with e|hb
 .rw[e];exact I.free
 .obtain⟨_,o,ho,_⟩:=I.ok.funs.mem hb;exact I.base.free b o ho (I.ok.frf b hb) λz=>I.ok.exfs b z hb
theorem Inv.step (I:Inv X pins σ H s)
  (hch:∀b∈ch,(b∈X.ex\/X.s₀.heap.objs.size<=b)/\b≠X.env.locals/\(∀x c,X.env.cells.lookup x=some c->c≠b)/\∀p∈X.pn++pins,p.1≠b)
  (keep:∀b o,b≠X.env.locals->b∉X.fs->b∉ch->s.heap.get? b=some o->H b=none->h'.get? b=some o)
  (slot:∀b o,b≠X.env.locals->b∈X.fs->b∉ch->s.heap.get? b=some o->H b=none->∃sl,h'.get? b=some {o with slots:=sl}) (free:∀b o,b∉ch->s.heap.get? b=some o->H b=none->H' b=none)
  (there:∀b o,b∉ch->s.heap.get? b=some o->∃o',h'.get? b=some o')
  (tups:∀b xs,H b=some (.tup xs)->H' b=some (.tup xs)) (frzs:∀b o u,H b=some (.frz o u)->H' b=some (.frz o u)) (tbls:∀b ps,H b=some (.tbl ps)->∃more,H' b=some (.tbl (ps++more)))
  (ns:∀m,s.heap.Ns X.env.locals m->h'.Ns X.env.locals m) (hok:HOk X.prog X.w H' h') (hg:AllBare g'):
  Inv X pins σ H' {s with heap:=h',gens:=g',drawn:=d',toks:=t'}:=by
 have neL:∀b o,X.s₀.heap.get? b=some o->b≠X.env.locals:=λb o e=>QC (Qx (Heap.lt_size e) I.ok.above);have neC:∀b o,X.s₀.heap.get? b=some o->b∉X.ex->b∉ch:=λb o e hx hb=>by
  rcases(hch b hb).1 with z|z
  .exact hx z
  .exact absurd (Qx (Heap.lt_size e) z) (Zv _)
 have cellK:∀x c,X.env.cells.lookup x=some c->∀v,s.heap.IsCell c v->h'.IsCell c v:=λx c e v ⟨o,ho,hd⟩=>by
  have nch:c∉ch:=λz=>(hch c z).2.2.1 x c e rfl;by_cases hc:c∈X.fs
  .obtain⟨sl,q⟩:=slot c o (I.cne x c e) hc nch ho (I.freeC x c e);exact⟨_,q,hd⟩
  .exact⟨o,keep c o (I.cne x c e) hc nch ho (I.freeC x c e),hd⟩
 refine⟨I.ok,I.os,hg,⟨λb o e n hb hx=>?_,λb o e n hb hx=>?_,λb o e n hx=>?_,λb o e hx=>?_,λb xs e=>tups b xs (I.base.tups b xs e),λb o xs e=>frzs b o xs (I.base.frzs b o xs e),λb ps e=>?_⟩,?_,λx c e=>?_,?_,λx c e=>?_,λp hp=>?_,hok,I.len⟩
 .exact keep b o (neL b o e) hb (neC b o e hx) (I.base.keep b o e n hb hx) (I.base.free b o e n hx)
 .obtain⟨sl,e1⟩:=I.base.slot b o e n hb hx;obtain⟨sl',e2⟩:=slot b _ (neL b o e) hb (neC b o e hx) e1 (I.base.free b o e n hx);exact⟨sl',e2⟩
 .obtain⟨o',e1⟩:=I.base.there b o e hx;exact free b o' (neC b o e hx) e1 (I.base.free b o e n hx)
 .obtain⟨o',e1⟩:=I.base.there b o e hx;exact there b o' (neC b o e hx) e1
 .obtain⟨m1,e1⟩:=I.base.tbls b ps e;obtain⟨m2,e2⟩:=tbls b _ e1;exact⟨m1++m2,by rw[e2,Array.append_assoc]⟩
 .obtain⟨m,hn,hl⟩:=I.loc;refine⟨m,ns m hn,λi x v e1 e2 e3=>?_⟩;obtain⟨u,r,l⟩:=hl i x v e1 e2 e3;refine⟨u,r,?_⟩;rcases l with l|⟨k,c,e,z⟩
  .exact .inl l
  .exact .inr ⟨k,c,e,cellK x c e _ z⟩
 .obtain⟨v,z⟩:=I.cell x c e;exact⟨v,cellK x c e v z⟩
 .obtain⟨m,⟨o,_,_,ho,_⟩,_⟩:=I.loc;exact free _ o (λz=>(hch _ z).2.1 rfl) ho I.free
 .obtain⟨v,o,ho,hd⟩:=I.cell x c e;exact free c o (λz=>(hch c z).2.2.1 x c e rfl) ho (I.freeC x c e)
 .obtain⟨e,n,ne,nf,d⟩:=I.pin p hp;have nch:p.1∉ch:=λz=>(hch p.1 z).2.2.2 p hp rfl;exact⟨keep p.1 p.2 ne nf nch e n,free p.1 p.2 nch e n,ne,nf,d⟩
theorem Inv.un (I:Inv X pins σ H s) (u:Un X.fs [] H H' s.heap h') (hok:HOk X.prog X.w H' h'):Inv X pins σ H' {s with heap:=h',toks:=t'}:=by
 obtain⟨m,⟨o,es,ep,ho,r⟩,_⟩:=id I.loc;obtain⟨sl,hL⟩:=u.any ho I.free (by simp);exact I.step (g':=s.gens) (d':=s.drawn) (ch:=[]) (λ_ z=>nomatch z) (λb o _ hb _ e n=>u.keep b o e n hb (by simp)) (λb o _ hb _ e n=>u.slot b o e n hb (by simp)) (λb o _ e n=>u.free b o e n (by simp)) (λb o _ e=>u.there b o e (by simp)) u.tups u.frzs u.tbls (λm' hm=>by
  obtain⟨o',es',ep',ho',r'⟩:=hm;rw[ho]at ho';cases ho';exact⟨_,es',ep',hL,r'⟩) hok I.bare
theorem Inv.call (I:Inv X pins σ H s) (u:Un (frs X.stack) ch H H' s.heap h') (hok:HOk X.prog X.w H' h') (hg:AllBare g')
  (hch:∀b∈ch,(b∈X.ex\/X.s₀.heap.objs.size<=b)/\b≠X.env.locals/\(∀x c,X.env.cells.lookup x=some c->c≠b)/\∀p∈X.pn++pins,p.1≠b):
  Inv X pins σ H' {s with heap:=h',gens:=g',drawn:=d',toks:=t'}:=by
 obtain⟨m,⟨o,es,ep,ho,r⟩,_⟩:=id I.loc;obtain⟨sl,hL⟩:=u.any ho I.free λz=>(hch _ z).2.1 rfl;exact I.step (ch:=ch) hch (λb o hL hb hc e n=>u.keep b o e n (λz=>(Qg.mp (I.stkSub b z)).elim hL hb) hc) (λb o _ _ hc e n=>u.any e n hc) (λb o hc e n=>u.free b o e n hc) (λb o hc e=>u.there b o e hc) u.tups u.frzs u.tbls (λm' hm=>by
  obtain⟨o',es',ep',ho',r'⟩:=hm;rw[ho]at ho';cases ho';exact⟨_,es',ep',hL,r'⟩) hok hg
theorem Inv.turned (I:Inv X pins σ H s) (k:∀b o,b≠it->s.heap.get? b=some o->h'.get? b=some o) (hn:H it=none) (hL:it≠X.env.locals)
  (h1:it∈X.ex\/X.s₀.heap.objs.size<=it) (h2:∀x c,X.env.cells.lookup x=some c->c≠it) (h3:∀p∈X.pn++pins,p.1≠it):Inv X pins σ H {s with heap:=h',toks:=t'}:=by
 have nit:∀b u,H b=some u->b≠it:=λb u e z=>by rw[z,hn]at e;cases e
 refine I.step (g':=s.gens) (d':=s.drawn) (ch:=[it]) (λb hb=>?_) (λb o _ _ hc e _=>k b o (λz=>hc (by simp[z])) e) (λb o _ _ hc e _=>⟨o.slots,k b o (λz=>hc (by simp[z])) e⟩) (λ_ _ _ _ n=>n)
  (λb o hc e=>⟨o,k b o (λz=>hc (by simp[z])) e⟩) (λ_ _ e=>e) (λ_ _ _ e=>e) (λb ps e=>⟨#[],by rw[e];simp⟩) (λm hm=>?_) (λb u e=>?_) I.bare
 .have e:b=it:=by simpa using hb
  subst e;exact⟨h1,hL,h2,h3⟩
 .obtain⟨o,es,ep,ho,r⟩:=hm;exact⟨o,es,ep,k _ o (Ne.symm hL) ho,r⟩
 .refine(I.hok b u e).stay (λc v hc q=>k c v ?_ q) (λ_ q=>q) λ_ _ q=>q;rcases hc with z|z
  .rw[z];exact nit b u e
  .exact nit c _ z
theorem Inv.tok (I:Inv X pins σ H s) (t:Nat):Inv X pins σ H {s with toks:=t}:=I.un (h':=s.heap) (t':=t) Un.refl I.hok
theorem Inv.kept (I:Inv X pins σ H s) (k:∀b u,s.heap.get? b=some u->h'.get? b=some u):Inv X pins σ H {s with heap:=h',toks:=t'}:=I.un (Un.kept k) (I.hok.kept k)
theorem Inv.laid {o:HO} (I:Inv X pins σ H s) (k:∀b u,s.heap.get? b=some u->h'.get? b=some u) (hp:s.heap.objs.size<=a) (new:ObjOk X.prog X.w (upd H a o) h' a o):
  Inv X pins σ (upd H a o) {s with heap:=h',toks:=t'}:=I.un (Un.laid k hp (I.hok.fresh hp)) (I.hok.laid k hp new)
theorem Inv.write {x e:Addr} {o:HO} (I:Inv X pins σ H s) (mu:Mut (H x)) (he:e=x\/H e=some (.own x)) (k:∀b u,b≠e->s.heap.get? b=some u->h'.get? b=some u) (heo:∃u,h'.get? e=some u)
  (new:ObjOk X.prog X.w (upd H x o) h' x o):Inv X pins σ (upd H x o) {s with heap:=h',toks:=t'}:=I.un (Un.write mu he k heo) (I.hok.write mu he k heo new)
theorem Inv.pins_of {pins':List (Addr×Obj)} (I:Inv X pins σ H s) (h:∀p∈pins',s.heap.get? p.1=some p.2/\H p.1=none/\p.1≠X.env.locals/\p.1∉X.fs/\∀v,p.2.data≠ .cell v):Inv X pins' σ H s:=
 ⟨I.ok,I.os,I.bare,I.base,I.loc,I.cell,I.free,I.freeC,λp hp=>(Q5.mp hp).elim (λz=>I.pin p (ZX _ z)) (h p),I.hok,I.len⟩
theorem zE (hN:N.Nodup) (a:N[i]?=some x) (b:N[j]?=some x):i=j:=by
 obtain⟨h1,e1⟩:=Q2.mp a;obtain⟨h2,e2⟩:=Q2.mp b;exact(List.getElem_inj hN).mp (e1.trans e2.symm)
theorem wV {Q:Unit->Shared->Prop} (I:Inv X pins σ H s) (hN:X.N.Nodup) (hi:X.N[i]?=some x) (hx:Loc X.env.scope x) (r:RelV v u)
  (h:∀s',Inv X pins (σ.set i (some v)) H s'->(∃a,Heap.SameBut a s.heap s'.heap/\(a=X.env.locals\/X.env.cells.lookup x=some a))->Q () s') (hf:X.fn x=true\/X.env.scope.names.lookup x=some .local:=by first|exact .inl rfl|exact .inr rfl|assumption):wpAny M A (storeName X.env x u) Q E s:=by
 obtain⟨m,hn,hl⟩:=id I.loc;have hcls:(X.env.scope.kind== .class||(X.env.scope.kind== .module&&X.env.locals !=X.env.globals))=false:=by rw[I.ok.kind];rfl
 have hiσ:i<σ.length:=by rw[I.len];exact(Q2.mp hi).1
 have cne:=I.cne;have tracked:∀{a:Addr} {h':Heap},(∃o,s.heap.get? a=some o/\H a=none)->Heap.SameBut a s.heap h'->HOk X.prog X.w H h':=λ{a h'} ha hs b ob e=>by
  obtain⟨_,_,hfree⟩:=ha;refine(I.hok b ob e).stay (λc w' hc q=>(hs.2 c ?_).trans q) (λ_ q=>q) λ_ _ q=>q;rintro rfl;rcases hc with rfl|hc
  .rw[hfree]at e;cases e
  .rw[hfree]at hc;cases hc
 rcases hx with hk|hk
 .refine wpAny_storeName_local hk hn (λh' hn' hs=>?_) hcls;obtain⟨oL,_,_,hoL,_⟩:=id hn;refine h _ ⟨I.ok,I.os,I.bare,⟨λb o e n hb hx=>?_,λb o e n hb hx=>?_,I.base.free,λb o e hx=>?_,I.base.tups,I.base.frzs,I.base.tbls⟩,⟨_,hn',λj y v' e1 e2 e3=>?_⟩,λy c e=>?_,I.free,I.freeC,λp hp=>?_,tracked ⟨oL,hoL,I.free⟩ hs,by simpa using I.len⟩ ⟨_,hs,.inl rfl⟩
  .exact(hs.2 b (QC (Qx (Heap.lt_size e) I.ok.above))).trans (I.base.keep b o e n hb hx)
  .obtain⟨sl,e1⟩:=I.base.slot b o e n hb hx;exact⟨sl,(hs.2 b (QC (Qx (Heap.lt_size e) I.ok.above))).trans e1⟩
  .obtain⟨o',e1⟩:=I.base.there b o e hx;exact⟨o',(hs.2 b (QC (Qx (Heap.lt_size e) I.ok.above))).trans e1⟩
  .by_cases hj:j=i
   .subst hj;rw[hi]at e1;cases e1;rw[Xf hiσ]at e2;cases e2;exact⟨u,r,.inl ⟨hk,by simp⟩⟩
   .rw[List.getElem?_set_ne (Ne.symm hj)]at e2;obtain⟨u',r',q⟩:=hl j y v' e1 e2 e3;refine⟨u',r',?_⟩;rcases q with⟨k,e⟩|⟨k,c,e,z⟩
    .refine .inl ⟨k,?_⟩;have:y≠x:=λe=>hj (zE hN e1 (e▸hi));simp[this,e]
    .exact .inr ⟨k,c,e,z.sameBut hs (cne y c e)⟩
  .obtain⟨w',z⟩:=I.cell y c e;exact⟨w',z.sameBut hs (cne y c e)⟩
  .obtain⟨e,n,ne,nf,d⟩:=I.pin p hp;exact⟨(hs.2 p.1 ne).trans e,n,ne,nf,d⟩
 .have hfn:X.fn x=true:=by
   rcases hf with z|z
   .exact z
   .rw[z]at hk;cases hk
  obtain⟨c,hc⟩:=I.ok.has x (.inl hk);obtain⟨w',z⟩:=I.cell x c hc;refine wpAny_storeName_cell I.ok.kind hk hc z (λh' hc' hs=>?_);obtain⟨oc,hoc,hocd⟩:=id z;refine h {s with heap:=h'} ⟨I.ok,I.os,I.bare,⟨λb o e n hb hx=>?_,λb o e n hb hx=>?_,I.base.free,λb o e hx=>?_,I.base.tups,I.base.frzs,I.base.tbls⟩,⟨m,hn.sameBut hs (Ne.symm (cne x c hc)),λj y v' e1 e2 e3=>?_⟩,λy c' e=>?_,I.free,I.freeC,λp hp=>?_,tracked ⟨oc,hoc,I.freeC x c hc⟩ hs,by simpa using I.len⟩ ⟨c,hs,.inr hc⟩
  .exact(hs.2 b (QC (Qx (Heap.lt_size e) (I.ok.cab x c hfn hc)))).trans (I.base.keep b o e n hb hx)
  .obtain⟨sl,e1⟩:=I.base.slot b o e n hb hx;exact⟨sl,(hs.2 b (QC (Qx (Heap.lt_size e) (I.ok.cab x c hfn hc)))).trans e1⟩
  .obtain⟨o',e1⟩:=I.base.there b o e hx;exact⟨o',(hs.2 b (QC (Qx (Heap.lt_size e) (I.ok.cab x c hfn hc)))).trans e1⟩
  .by_cases hj:j=i
   .subst hj;rw[hi]at e1;cases e1;rw[Xf hiσ]at e2;cases e2;exact⟨u,r,.inr ⟨.inl hk,c,hc,hc'⟩⟩
   .rw[List.getElem?_set_ne (Ne.symm hj)]at e2;obtain⟨u',r',q⟩:=hl j y v' e1 e2 e3;refine⟨u',r',?_⟩;rcases q with q|⟨k,c',e,z'⟩
    .exact .inl q
    .refine .inr ⟨k,c',e,z'.sameBut hs ?_⟩;rintro rfl;exact hj (zE hN e1 (I.ok.inj _ _ _ e hc▸hi))
  .by_cases hcc:c'=c
   .subst hcc;exact⟨_,hc'⟩
   .obtain⟨w2,z2⟩:=I.cell y c' e;exact⟨w2,z2.sameBut hs hcc⟩
  .obtain⟨e,n,ne,nf,d⟩:=I.pin p hp;refine⟨(hs.2 p.1 ?_).trans e,n,ne,nf,d⟩;intro q;rw[q,hoc]at e;have q':oc=p.2:=Option.some.inj e;exact d w' (by rw[<-q'];exact hocd)
theorem tV {Q:Unit->Shared->Prop} (I:Inv X pins σ H s) (hN:X.N.Nodup) (hi:X.N[i]?=some x) (hx:Loc X.env.scope x) (r:RelV v u)
  (h:∀s',Inv X pins (σ.set i (some v)) H s'->Q () s') (hf:X.fn x=true\/X.env.scope.names.lookup x=some .local:=by first|exact .inl rfl|exact .inr rfl|assumption):wpAny M A (storeName X.env x u) Q E s:=
 wV I hN hi hx r (λs' I' _=>h s' I') hf
theorem Inv.call' (I:Inv X pins σ H s) (ho:s'.os=s.os) (u:Un (frs X.stack) ch H H' s.heap s'.heap) (hok:HOk X.prog X.w H' s'.heap) (hg:AllBare s'.gens)
  (hch:∀b∈ch,(b∈X.ex\/X.s₀.heap.objs.size<=b)/\b≠X.env.locals/\(∀x c,X.env.cells.lookup x=some c->c≠b)/\∀p∈X.pn++pins,p.1≠b):Inv X pins σ H' s':=by
 obtain⟨h',g',d',t',o'⟩:=s';have e:o'=s.os:=ho;subst e;exact I.call (g':=g') (t':=t') (d':=d') u hok hg hch
end
abbrev XK:=Value->Option Addr->Hp->Prop
abbrev St:=List (Option V)
abbrev VK:=V->Hp->Prop
abbrev TE:=St->Hp->VK->Prop
abbrev TT:=St->Hp->(Bool->Hp->Prop)->Prop
abbrev TA:=St->Hp->(List V->Hp->Prop)->Prop
structure yZ where
 nx:St->Hp->Prop
 rt:VK
 bk:St->Hp->Prop:=λ_ _=>False
 ct:St->Hp->Prop:=λ_ _=>False
abbrev TS:=yZ->St->Hp->Prop
def EP (X:Cx) (pins:List (Addr×Obj)) (σ:St) (Q:VK) (u:Value) (s':Shared):Prop:=∃v H',Inv X pins σ H' s'/\RelV v u/\Q v H'
def TP (X:Cx) (pins:List (Addr×Obj)) (σ:St) (Q:Bool->Hp->Prop) (b:Bool) (s':Shared):Prop:=∃H',Inv X pins σ H' s'/\Q b H'
def AP (X:Cx) (pins:List (Addr×Obj)) (σ:St) (Q:List V->Hp->Prop) (us:List Value) (s':Shared):Prop:=∃vs H',Inv X pins σ H' s'/\Vals vs us/\Q vs H'
def SP (X:Cx) (pins:List (Addr×Obj)) (D:yZ) (f:Flow) (s':Shared):Prop:=
 match f with
 | .next=>∃σ' H',Inv X pins σ' H' s'/\D.nx σ' H'
 | .brk=>∃σ' H',Inv X pins σ' H' s'/\D.bk σ' H'
 | .cont=>∃σ' H',Inv X pins σ' H' s'/\D.ct σ' H'
 | .ret u=>∃v σ' H',Inv X pins σ' H' s'/\RelV v u/\D.rt v H'
def PE (X:Cx) (e:Expr) (t:TE):Prop:=
 ∀(pins:List (Addr×Obj)) (s:Shared) (σ:St) (H:Hp) (Q:VK),Inv X pins σ H s->t σ H Q->wpAny (model X.prog X.w) X.A (eval e X.env) (EP X pins σ Q) X.xe s
def PT (X:Cx) (e:Expr) (t:TT):Prop:=
 ∀(pins:List (Addr×Obj)) (s:Shared) (σ:St) (H:Hp) (Q:Bool->Hp->Prop),Inv X pins σ H s->t σ H Q->wpAny (model X.prog X.w) X.A (isTrue e X.env (eval e X.env)) (TP X pins σ Q) X.xe s
def PW (X:Cx) (e:Expr) (t:TT):Prop:=
 ∀(whole:Sem Value) (pins:List (Addr×Obj)) (s:Shared) (σ:St) (H:Hp) (Q:Bool->Hp->Prop),Inv X pins σ H s->t σ H Q->wpAny (model X.prog X.w) X.A (isTrue e X.env whole) (TP X pins σ Q) X.xe s
theorem PW.pt {t:TT} (h:PW X e t):PT X e t:=h _
def PA (X:Cx) (es:List Expr) (t:TA):Prop:=
 ∀(pos:Pos) (pins:List (Addr×Obj)) (s:Shared) (σ:St) (H:Hp) (Q:List V->Hp->Prop),Inv X pins σ H s->t σ H Q->wpAny (model X.prog X.w) X.A (spliced (backTo pos (starEach es X.env))) (AP X pins σ Q) X.xe s
def PS (X:Cx) (st:Stmt) (t:TS):Prop:=
 ∀(pins:List (Addr×Obj)) (s:Shared) (σ:St) (H:Hp) (D:yZ),Inv X pins σ H s->t D σ H->wpAny (model X.prog X.w) X.A (exec st X.env) (SP X pins D) X.xe s
def PSs (X:Cx) (st:List Stmt) (t:TS):Prop:=
 ∀(pins:List (Addr×Obj)) (s:Shared) (σ:St) (H:Hp) (D:yZ),Inv X pins σ H s->t D σ H->wpAny (model X.prog X.w) X.A (execs st X.env) (SP X pins D) X.xe s
theorem thn {α:Type} {t:Sem α} {Q Q':α->Shared->Prop} (h:wpAny M A t Q E s) (hQ:∀a s,Q a s->Q' a s):wpAny M A t Q' E s:=wpAny_mono h hQ λ_ _ x=>x
end
section
section
def IP (i:Nat):TE:=λσ H Q=>∃v,σ[i]?=some (some v)/\Q v H
def tC (v:V):TE:=λ_ H Q=>Q v H
theorem Jd (hN:X.N[i]?=some x) (hv:Vis X.env.scope x) (hd:(x==("__debug__":Str))=false:=by decide) (hcd:(x==("__classdict__":Str))=false:=by decide):PE X (.Name x pos) (IP i):=by
 intro pins s σ H Q I h;obtain⟨v,e,h⟩:=h;obtain⟨m,hn,hl⟩:=I.loc;obtain⟨u,r,l⟩:=hl i x v hN e hv;have fin:EP X pins σ Q u s:=⟨v,H,I,r,h⟩;rcases l with⟨hk,hm⟩|⟨hk,c,hc,hcell⟩
 .exact wpAny_Name (wpAny_loadName_local I.ok.kind hk hn hm fin) hd
 .rcases hk with hk|hk
  .exact wpAny_Name (wpAny_loadName_cell I.ok.kind hk hc hcell fin) hd
  .exact wpAny_Name (wpAny_loadName_free I.ok.kind hk hc hcell fin hcd) hd
theorem ag {i j pos}:PE X (.Constant (.int i) j pos) (tC (.int i)):=λ_ _ _ H _ I h=>wpAny_Constant_int ⟨.int i,H,I.tok _,⟨_,rfl⟩,h⟩
theorem uD {b j pos}:PE X (.Constant (.bool b) j pos) (tC (.bl b)):=λ_ _ _ H _ I h=>Constant_bool ⟨.bl b,H,I,rfl,h⟩
theorem bf {j pos}:PE X (.Constant .none j pos) (tC .non):=λ_ _ _ H _ I h=>Constant_none ⟨.non,H,I,rfl,h⟩
theorem gb {x j pos}:PE X (.Constant (.str x) j pos) (tC (.str x)):=λ_ _ _ H _ I h=>Calls.Constant_str ⟨.str x,H,I.tok _,⟨_,rfl⟩,h⟩
def Gl (X:Cx) (x:Str):Prop:=X.env.kindOf x=some .globalImplicit
theorem qa (I:Inv X pins σ H s) (hg:Gl X x) (hm:X.mg x=some u) (h:Q u s)
  (hd:(x==("__debug__":Str))=false:=by decide):wpAny (model X.prog X.w) X.A (eval (.Name x pos) X.env) Q E s:=
 Calls.Name_function_global I.ok.kind hg (Calls.loadGlobal_global (by rw[I.ok.glob];exact I.mod.glob.keeps I.bk) hm h) hd
theorem rF (I:Inv X pins σ H s) (hg:Gl X x) (hm:X.mg x=none) (hv:bootBuiltins x=some u) (h:Q u s)
  (hn:x≠"__name__":=by decide) (hd:(x==("__debug__":Str))=false:=by decide):wpAny (model X.prog X.w) X.A (eval (.Name x pos) X.env) Q E s:=by
 obtain⟨mb,h1,h2⟩:=I.mod.blt;exact Calls.Name_function_global I.ok.kind hg (Calls.loadGlobal_builtin (by rw[I.ok.glob];exact I.mod.glob.keeps I.bk) hm (by rw[I.ok.blt];exact h1.keeps I.bk) ((h2 x hn).trans hv) h) hd
theorem cy (hg:Gl X x) (hm:X.mg x=some u) (r:RelV v u) (hd:(x==("__debug__":Str))=false:=by decide):PE X (.Name x pos) (tC v):=
 λ_ _ _ H _ I h=>qa I hg hm ⟨v,H,I,r,h⟩ hd
theorem BU (hg:Gl X x) (hm:X.mg x=none) (hv:bootBuiltins x=some u) (r:RelV v u) (hn:x≠"__name__":=by decide) (hd:(x==("__debug__":Str))=false:=by decide):PE X (.Name x pos) (tC v):=
 λ_ _ _ H _ I h=>rF I hg hm hv ⟨v,H,I,r,h⟩ hn hd
variable {a b:Expr} {tb:TE}
def PC (X:Cx) (op:CmpOp) (a b:Expr) (t:TE):Prop:=
 ∀(pins:List (Addr×Obj)) (s:Shared) (σ:St) (H:Hp) (Q:VK),Inv X pins σ H s->t σ H Q->
  wpAny (model X.prog X.w) X.A (eval a X.env) (λv s₁=>wpAny (model X.prog X.w) X.A (eval b X.env) (λu s₂=>wpAny (model X.prog X.w) X.A (compareOp op v u) (EP X pins σ Q) X.xe s₂) X.xe s₁) X.xe s
def tB (t:TE):TT:=λσ H Q=>t σ H λx H1=>∃c,x= .bl c/\Q c H1
theorem Je (h:PC X op a b t) (h1:behindInMarks op b=false:=by first|exact nobehind _ (by decide) (by decide)|rfl):PE X (.Compare a [op] [b] pos) t:=λpins s σ H Q I hw=>wpAny_Compare1 (h pins s σ H Q I hw) h1
theorem AZ (h:PC X op a b t) (h1:behindInMarks op b=false:=by first|exact nobehind _ (by decide) (by decide)|rfl):PT X (.Compare a [op] [b] pos) (tB t):=by
 intro pins s σ H Q I hw;refine wpAny_isTrue_Compare1 (thn (h pins s σ H _ I hw) λv s1 h1=>thn h1 λu s2 h2=>thn h2 λc s3 hzz=>?_) h1;obtain⟨x,H1,I1,r1,q1⟩:=hzz;obtain⟨d,rfl,q⟩:=q1;cases r1;exact wpAny_truthy_bool ⟨H1,I1,q⟩
theorem eG (h:PE X e t) (he:∀whole,isTrue e X.env whole=(do let v<-whole;standAt e.pos;holding [v] (truthy v)):=by intro _;rfl):PT X e (tB t):=by
 intro pins s σ H Q I hw;refine isTrue_plain (thn (h pins s σ H _ I hw) λv s1 hzz=>?_) (he _);obtain⟨x,H1,I1,r1,q1⟩:=hzz;obtain⟨d,rfl,q⟩:=q1;cases r1;exact wpAny_truthy_bool ⟨H1,I1,q⟩
variable {tA tB':TT} {rest:List Expr}
def tAnd (t u:TT):TT:=λσ H Q=>t σ H λc H1=>if c=true then u σ H1 Q else Q false H1
def tOr (t u:TT):TT:=λσ H Q=>t σ H λc H1=>if c=true then Q true H1 else u σ H1 Q
def tNot (t:TT):TT:=λσ H Q=>t σ H λc H1=>Q (!c) H1
theorem dL (ha:PT X a tA):PW X (.BoolOp .And [a] pos) tA:=by
 intro wh pins s σ H Q I h;refine isTrue_and (thn (ha pins s σ H Q I h) λc s1 e=>?_);cases c with
 |true=>exact isTrue_and_nil e
 |false=>exact e
theorem fv (ha:PT X a tA):PW X (.BoolOp .Or [a] pos) tA:=by
 intro wh pins s σ H Q I h;refine isTrue_or (thn (ha pins s σ H Q I h) λc s1 e=>?_);cases c with
 |false=>exact isTrue_or_nil e
 |true=>exact e
theorem fw (ha:PT X a tA) (hb:PW X (.BoolOp .And (b::rest) pos) tB'):PW X (.BoolOp .And (a::b::rest) pos) (tAnd tA tB'):=by
 intro wh pins s σ H Q I h;refine isTrue_and (thn (ha pins s σ H _ I h) λc s1 ⟨H1,I1,q1⟩=>?_);cases c with
 |true=>exact hb wh pins s1 σ H1 Q I1 q1
 |false=>exact⟨H1,I1,q1⟩
theorem hV (ha:PT X a tA) (hb:PW X (.BoolOp .Or (b::rest) pos) tB'):PW X (.BoolOp .Or (a::b::rest) pos) (tOr tA tB'):=by
 intro wh pins s σ H Q I h;refine isTrue_or (thn (ha pins s σ H _ I h) λc s1 ⟨H1,I1,q1⟩=>?_);cases c with
 |true=>exact⟨H1,I1,q1⟩
 |false=>exact hb wh pins s1 σ H1 Q I1 q1
theorem rc (ha:PT X a tA):PT X (.UnaryOp .Not a pos) (tNot tA):=by
 intro pins s σ H Q I h;exact isTrue_not (ha pins s σ H (λc H1=>Q (!c) H1) I h)
def Kh (ta tb:TE):TE:=λσ H Q=>ta σ H λx H1=>∃c,x= .bl c/\if c=true then tb σ H1 Q else Q (.bl false) H1
def tOrV (ta tb:TE):TE:=λσ H Q=>ta σ H λx H1=>∃c,x= .bl c/\if c=true then Q (.bl true) H1 else tb σ H1 Q
def Kc (ta:TE):TE:=λσ H Q=>ta σ H λx H1=>∃c,x= .bl c/\Q (.bl (!c)) H1
theorem cP {op} (h:PE X a t):PE X (.BoolOp op [a] pos) t:=λpins s σ H Q I hw=>BoolOp_one (h pins s σ H Q I hw)
theorem gd (ha:PE X a ta) (hb:PE X (.BoolOp .And (b::rest) pos) tb):PE X (.BoolOp .And (a::b::rest) pos) (Kh ta tb):=by
 intro pins s σ H Q I h;refine BoolOp_and (thn (ha pins s σ H _ I h) λv s1 hzz=>?_);obtain⟨x,H1,I1,r1,q1⟩:=hzz;obtain⟨c,rfl,q1⟩:=q1;cases r1;refine wpAny_truthy_bool ?_;cases c with
 |true=>exact hb pins s1 σ H1 Q I1 q1
 |false=>exact⟨.bl false,H1,I1,rfl,q1⟩
theorem zx (ha:PE X a ta) (hb:PE X (.BoolOp .Or (b::rest) pos) tb):PE X (.BoolOp .Or (a::b::rest) pos) (tOrV ta tb):=by
 intro pins s σ H Q I h;refine BoolOp_or (thn (ha pins s σ H _ I h) λv s1 hzz=>?_);obtain⟨x,H1,I1,r1,q1⟩:=hzz;obtain⟨c,rfl,q1⟩:=q1;cases r1;refine wpAny_truthy_bool ?_;cases c with
 |false=>exact hb pins s1 σ H1 Q I1 q1
 |true=>exact⟨.bl true,H1,I1,rfl,q1⟩
theorem Bc (ha:PE X a ta):PE X (.UnaryOp .Not a pos) (Kc ta):=by
 intro pins s σ H Q I h;refine UnaryOp_ (thn (ha pins s σ H _ I h) λv s1 hzz=>?_);obtain⟨x,H1,I1,r1,q1⟩:=hzz;obtain⟨c,rfl,q1⟩:=q1;cases r1;exact not_of (wpAny_truthy_bool ⟨.bl (!c),H1,I1,rfl,q1⟩)
def tIf (t:TT) (ta tb:TE):TE:=λσ H Q=>t σ H λc H1=>if c=true then ta σ H1 Q else tb σ H1 Q
theorem EE (hc:PT X c tA) (ha:PE X a ta) (hb:PE X b tb):PE X (.IfExp c a b pos) (tIf tA ta tb):=by
 intro pins s σ H Q I h;refine wpAny_IfExp (thn (hc pins s σ H _ I h) λd s1 ⟨H1,I1,q1⟩=>?_);cases d with
 |true=>exact ha pins s1 σ H1 Q I1 q1
 |false=>exact hb pins s1 σ H1 Q I1 q1
end
end
section
def SqL (K:PySem.W.Frag) (H:Hp) (a:Addr) (xs:List V):Prop:=
 Rd H a (.lst xs)\/
  ∃(o:Obj) (its:Array Value) (n:Nat),K.lookup a=some o/\o.cls= .type "list"/\o.dict=none/\o.data= .seq its n/\its.size<=sizeLine/\Vals xs its.toList
def SqT (K:PySem.W.Frag) (H:Hp) (a:Addr) (xs:List V):Prop:=
 Rd H a (.tup xs)\/
  ∃(o:Obj) (its:Array Value) (n:Nat),K.lookup a=some o/\o.cls= .type "tuple"/\o.data= .seq its n/\its.size<=sizeLine/\Vals xs its.toList
def absV:Value->Option V
 | .none=>some .non
 | .bool b=>some (.bl b)
 | .int i _=>some (.int i)
 | .str x _=>some (.str x)
 | .bytes b _=>some (.byt b)
 | .float b _=>some (.flt b)
 | .ref a=>some (.ref a)
 | .type n=>some (.ty n)
 |_=>none
theorem RelV.abs {x:V} (r:RelV x u):absV u=some x:=by
 cases x with
 |non=>cases r;rfl
 |bl _=>cases r;rfl
 |int _=>obtain⟨t,rfl⟩:=r;rfl
 |str _=>obtain⟨t,rfl⟩:=r;rfl
 |byt _=>obtain⟨t,rfl⟩:=r;rfl
 |flt _=>obtain⟨t,rfl⟩:=r;rfl
 |ref _=>cases r;rfl
 |ty _=>cases r;rfl
theorem RelV.inj {x:V} (r:RelV x u) (q:RelV y u):x=y:=Option.some.inj (r.abs.symm.trans q.abs)
theorem Vals.inj:∀{xs ys:List V} {us:List Value},Vals xs us->Vals ys us->xs=ys
 |_,_,_,.nil,.nil=>rfl
 |_,_,_,.cons r t,.cons r' t'=>by rw[r.inj r',Vals.inj t t']
section
variable {ys:List V}
theorem SqL.of (h:H a=some (.lst xs)):SqL K H a xs:= .inl (.inl h)
theorem SqT.of (h:H a=some (.tup xs)):SqT K H a xs:= .inl (.inl h)
theorem Inv.list (I:Inv X pins σ H s) (h:SqL X.K H a xs):∃its:List Value,Vals xs its/\PlainL s.heap a its.toArray/\xs.length<=sizeLine:=by
 rcases h with h|⟨o,its,n,hk,hc,hd,hs,hz,r⟩
 .obtain⟨z,its,n,r,e⟩:=h.ok I.hok;exact⟨its,r,⟨_,n,e,rfl,rfl,rfl⟩,z⟩
 .refine⟨its.toList,r,⟨o,n,I.kIn a o hk,hc,hd,by simpa using hs⟩,?_⟩;have e:=r.length;simp only[Q6]at e;lia
theorem Inv.tuple (I:Inv X pins σ H s) (h:SqT X.K H a xs):∃its:List Value,Vals xs its/\IsTup s.heap a its.toArray/\xs.length<=sizeLine:=by
 rcases h with h|⟨o,its,n,hk,hc,hs,hz,r⟩
 .obtain⟨z,its,r,p⟩:=h.ok I.hok;exact⟨its,r,p,z⟩
 .refine⟨its.toList,r,⟨o,I.kIn a o hk,hc,n,by simpa using hs⟩,?_⟩;have e:=r.length;simp only[Q6]at e;lia
theorem Inv.list_inj (I:Inv X pins σ H s) (h:SqL X.K H a xs) (h':SqL X.K H a ys):xs=ys:=by
 obtain⟨its,r,⟨o,n,e,_,_,d⟩,_⟩:=I.list h;obtain⟨its',r',⟨o',n',e',_,_,d'⟩,_⟩:=I.list h';rw[e]at e';cases e';rw[d]at d';injection d' with d1 _;have:its=its':=by simpa using congrArg Array.toList d1
 subst this;exact r.inj r'
end
abbrev Cx.wish (X:Cx) (E:Value->Shared->Prop):Cx:={X with xe:=E}
abbrev Cx.nox (X:Cx):Cx:=X.wish λ_ _=>False
theorem Cx.Ok.wish (ok:X.Ok) (E:Value->Shared->Prop):(X.wish E).Ok:=
 ⟨ok.mod,ok.kind,ok.glob,ok.blt,ok.above,ok.inj,ok.has,ok.cab,ok.hd,ok.frames,ok.stk,ok.exf,ok.bs,ok.bsz,ok.noex,ok.exfs,ok.funs,ok.frf⟩
theorem Cx.Ok.unwish (ok:(X.wish E).Ok):X.Ok:=
 ⟨ok.mod,ok.kind,ok.glob,ok.blt,ok.above,ok.inj,ok.has,ok.cab,ok.hd,ok.frames,ok.stk,ok.exf,ok.bs,ok.bsz,ok.noex,ok.exfs,ok.funs,ok.frf⟩
section
theorem Inv.wish (I:Inv X pins σ H s) (E:Value->Shared->Prop):Inv (X.wish E) pins σ H s:=⟨I.ok.wish E,I.os,I.bare,I.base,I.loc,I.cell,I.free,I.freeC,I.pin,I.hok,I.len⟩
theorem Inv.unwish (I:Inv (X.wish E) pins σ H s):Inv X pins σ H s:=⟨I.ok.unwish,I.os,I.bare,I.base,I.loc,I.cell,I.free,I.freeC,I.pin,I.hok,I.len⟩
theorem SP.unwish {D:yZ} {f:Flow} (h:SP (X.wish E) pins D f s'):SP X pins D f s':=by
 cases f with
 |next=>obtain⟨σ',H',I,q⟩:=h;exact⟨σ',H',I.unwish,q⟩
 |brk=>obtain⟨σ',H',I,q⟩:=h;exact⟨σ',H',I.unwish,q⟩
 |cont=>obtain⟨σ',H',I,q⟩:=h;exact⟨σ',H',I.unwish,q⟩
 |ret u=>obtain⟨v,σ',H',I,r,q⟩:=h;exact⟨v,σ',H',I.unwish,r,q⟩
theorem PSs.nox {st:List Stmt} {t:TS} (h:PSs X.nox st t):PSs X st t:=λpins s σ H D I hw=>
 wpAny_mono (h pins s σ H D (I.wish _) hw) (λ_ _ q=>q.unwish) λ_ _ z=>False.elim z
end
section
variable {st:Stmt} {rest:List Stmt} {t u:TS}
def tU:TS:=λD σ H=>D.nx σ H
def Ej (t u:TS):TS:=λD σ H=>t {D with nx:=u D} σ H
theorem aH:PSs X [] tU:=λ_ _ σ H _ I h=>wpAny_execs_nil ⟨σ,H,I,h⟩
theorem ac (h1:PS X st t) (h2:PSs X rest u):PSs X (st::rest) (Ej t u):=by
 intro pins s σ H D I h;refine wpAny_execs_cons (thn (h1 pins s σ H {D with nx:=u D} I h) λf s1 q=>?_);cases f with
 |next=>
  obtain⟨σ',H',I',q⟩:=q;exact h2 pins s1 σ' H' D I' q
 |ret v=>exact q
 |brk=>exact q
 |cont=>exact q
theorem ai (h1:PS X st t):PSs X [st] t:=by
 intro pins s σ H D I h;refine wpAny_execs_cons (thn (h1 pins s σ H D I h) λf s1 q=>?_);cases f with
 |next=>exact wpAny_execs_nil q
 |ret v=>exact q
 |brk=>exact q
 |cont=>exact q
def IR:TS:=λD σ H=>D.bk σ H
theorem EC:PS X (.Break pos) IR:=λ_ _ σ H _ I h=>wpAny_Break ⟨σ,H,I,h⟩
theorem Inv.quiet (I:Inv X pins σ H s):interactive X.env=false:=by simp[interactive,I.ok.kind]
def Kd (te:TE):TS:=λD σ H=>te σ H λ_ H1=>D.nx σ H1
theorem aR (he:PE X e te) (hs:swapsWith e none pos.line X.env=pure false:=by rfl):PS X (.Expr e pos) (Kd te):=by
 intro pins s σ H D I h;exact wpAny_Expr_any (thn (he pins s σ H _ I h) λv s1 ⟨x,H1,I1,r1,q1⟩=>⟨σ,H1,I1,q1⟩) I.quiet hs
def tRet (te:TE):TS:=λD σ H=>te σ H D.rt
theorem aC (he:PE X e te):PS X (.Return (some e) pos) (tRet te):=by
 intro pins s σ H D I h;exact wpAny_Return_some (thn (he pins s σ H _ I h) λv s1 ⟨x,H1,I1,r1,q1⟩=>⟨x,σ,H1,I1,r1,q1⟩)
def Ka:TS:=λD _ H=>D.rt .non H
theorem m8:PS X (.Return none pos) Ka:=λ_ _ σ H _ I h=>wpAny_Return_none ⟨.non,σ,H,I,rfl,h⟩
def tIfS (c:TT) (t u:TS):TS:=λD σ H=>c σ H λb H1=>if b=true then t D σ H1 else u D σ H1
theorem aU {a b:List Stmt} (hc:PT X c tc) (ha:PSs X a t) (hb:PSs X b u):PS X (.If c a b pos) (tIfS tc t u):=by
 intro pins s σ H D I h;refine wpAny_If (thn (hc pins s σ H _ I h) λd s1 ⟨H1,I1,q1⟩=>?_);cases d with
 |true=>exact ha pins s1 σ H1 D I1 q1
 |false=>exact hb pins s1 σ H1 D I1 q1
end
abbrev TG:=V->St->Hp->(St->Hp->Prop)->Prop
abbrev TGs:=List V->St->Hp->(St->Hp->Prop)->Prop
def PG (X:Cx) (target:Expr) (t:TG):Prop:=
 ∀(pins:List (Addr×Obj)) (s:Shared) (σ:St) (H:Hp) (v:V) (u:Value) (Q:St->Hp->Prop),Inv X pins σ H s->RelV v u->t v σ H Q->
  wpAny (model X.prog X.w) X.A (assign target X.env u) (λ_ s'=>∃σ' H',Inv X pins σ' H' s'/\Q σ' H') X.xe s
def PGs (X:Cx) (ts:List Expr) (t:TGs):Prop:=
 ∀(pins:List (Addr×Obj)) (s:Shared) (σ:St) (H:Hp) (vs:List V) (us:List Value) (Q:St->Hp->Prop),Inv X pins σ H s->Vals vs us->t vs σ H Q->
  wpAny (model X.prog X.w) X.A (assignInOrder ((assignEach ts X.env).map (·.2)) us) (λ_ s'=>∃σ' H',Inv X pins σ' H' s'/\Q σ' H') X.xe s
abbrev JN:=V->V->V->Hp->(Hp->Prop)->Prop
def PSet (X:Cx) (t:JN):Prop:=
 ∀(pins:List (Addr×Obj)) (s:Shared) (σ:St) (H:Hp) (o i v:V) (ov iv u:Value) (Q:Hp->Prop),Inv X pins σ H s->RelV o ov->RelV i iv->RelV v u->t o i v H Q->
  wpAny (model X.prog X.w) X.A (setItem ov iv u) (λ_ s'=>∃H',Inv X pins σ H' s'/\Q H') X.xe s
abbrev TIp:=V->V->Hp->VK->Prop
def PIp (X:Cx) (op:Operator) (t:TIp):Prop:=
 ∀(pins:List (Addr×Obj)) (s:Shared) (σ:St) (H:Hp) (x y:V) (v u:Value) (Q:VK),Inv X pins σ H s->RelV x v->RelV y u->t x y H Q->
  wpAny (model X.prog X.w) X.A (inplaceOp op v u) (EP X pins σ Q) X.xe s
section
def mB (i:Nat):TG:=λv σ H Q=>Q (σ.set i (some v)) H
theorem bF (hN:X.N.Nodup) (hi:X.N[i]?=some x) (hx:Loc X.env.scope x) (hf:X.fn x=true\/X.env.scope.names.lookup x=some .local:=by first|exact .inl rfl|exact .inr rfl|assumption):PG X (.Name x pos) (mB i):=by
 intro pins s σ H v u Q I r h;exact wpAny_assign_Name (tV I hN hi hx r (λs' I'=>⟨_,H,I',h⟩) hf)
def gNil:TGs:=λvs σ H Q=>vs=[]/\Q σ H
def KH (t:TG) (u:TGs):TGs:=λvs σ H Q=>∃v r,vs=v::r/\t v σ H λσ' H'=>u r σ' H' Q
theorem pT:PGs X [] gNil:=by
 intro pins s σ H vs us Q I r h;obtain⟨e,h⟩:=h;subst e;cases r;exact assignInOrder_nil ⟨σ,H,I,h⟩
theorem cO {t:TG} {u:TGs} (h1:PG X e t) (h2:PGs X es u)
  (hs:(assignEach (e::es) X.env).map (·.2)=assign e X.env::(assignEach es X.env).map (·.2):=by rfl):PGs X (e::es) (KH t u):=by
 intro pins s σ H vs us Q I r h;obtain⟨v,vr,e1,h⟩:=h;subst e1;cases r with
 |cons r rr=>
  rw[hs];refine assignInOrder_cons (thn (h1 pins s σ H _ _ _ I r h) λ_ s1 hzz=>?_);obtain⟨σ1,H1,I1,q1⟩:=hzz;exact h2 pins s1 σ1 H1 _ _ Q I1 rr q1
def gTup (K:PySem.W.Frag) (n:Nat) (t:TGs):TG:=λv σ H Q=>∃a xs,v= .ref a/\SqT K H a xs/\xs.length=n/\t xs σ H Q
theorem uB {k:Nat} {t:TGs} (hc:X.calm=true) (h:PGs X es t)
  (hn:(assignEach es X.env).length=n:=by rfl) (hst:(assignEach es X.env).findIdx? (·.1)=none:=by rfl):PG X (.Tuple es k pos) (gTup X.K n t):=by
 intro pins s σ H v u Q I r hw;obtain⟨a,xs,e1,hq,hl,hw⟩:=hw;subst e1;cases r;obtain⟨its,rv,ht,hz⟩:=I.tuple hq;refine assign_Tuple_tuple (I.ok.hd hc) ht (by simp[hn,<-hl,rv.length]) hst λh' hx=>?_;have I1:Inv X pins σ H {s with heap:=h'}:=I.kept (t':=s.toks) λb o e=>hx b o (QC (Heap.lt_size e)) e;exact h pins _ σ H xs _ Q I1 (by simpa using rv) hw
def gSub (to ti:TE) (t:JN):TG:=λv σ H Q=>to σ H λo H1=>ti σ H1 λi H2=>t o i v H2 λH3=>Q σ H3
theorem Bb {o i:Expr} {to ti:TE} {t:JN} (ho:PE X o to) (hi:PE X i ti) (hs:PSet X t)
  (ha:∀v,assign (.Subscript o i pos) X.env v=(do
   let ov<-holding [v] (eval o X.env)
   let iv<-holding [v,ov] (eval i X.env)
   standAt pos
   holding [v,ov,iv] (setItem ov iv v)
   release [v,ov,iv] []):=by intro _;rfl):PG X (.Subscript o i pos) (gSub to ti t):=by
 intro pins s σ H v u Q I r h;rw[ha];refine wpAny_bind (wpAny_holding (thn (ho pins s σ H _ I h) λov s1 hzz=>?_));obtain⟨x,H1,I1,r1,q1⟩:=hzz;refine wpAny_bind (wpAny_holding (thn (hi pins s1 σ H1 _ I1 q1) λiv s2 hzz=>?_));obtain⟨y,H2,I2,r2,q2⟩:=hzz;refine wpAny_bind (wpAny_standAt (wpAny_bind (wpAny_holding (thn (hs pins s2 σ H2 x y v ov iv u _ I2 r1 r2 r q2) λ_ s3 hzz=>?_))));obtain⟨H3,I3,q3⟩:=hzz;exact wpAny_release ⟨σ,H3,I3,q3⟩
def GM (te:TE) (g:TG):TS:=λD σ H=>te σ H λx H1=>g x σ H1 D.nx
theorem re {g:TG} (he:PE X e te) (hg:PG X tg g) (hs:swapsWithSole [tg] e pos.line X.env=pure false:=by rfl) (hw:swappedStores [tg] e X.env=pure none:=by rfl)
  (h1:(assignEach [tg] X.env).map (·.2)=[assign tg X.env]:=by rfl):PS X (.Assign [tg] e pos) (GM te g):=by
 intro pins s σ H D I h;refine wpAny_Assign_stores (thn (he pins s σ H _ I h) λv s1 hzz=>?_) hs hw;obtain⟨x,H1,I1,r1,q1⟩:=hzz;rw[h1];exact thn (hg pins s1 σ H1 x v _ I1 r1 q1) λ_ s2 q=>q
theorem az (hN:X.N.Nodup) (hi:X.N[i]?=some x) (hx:Loc X.env.scope x) (he:PE X e te) (hs:swapsWith e (some (.Name x pos')) pos.line X.env=pure false:=by rfl) (hf:X.fn x=true\/X.env.scope.names.lookup x=some .local:=by first|exact .inl rfl|exact .inr rfl|assumption):
  PS X (.Assign [.Name x pos'] e pos) (GM te (mB i)):=by
 intro pins s σ H D I h;refine wpAny_Assign_Name (thn (he pins s σ H _ I h) λv s1 hzz=>?_) hs;obtain⟨y,H1,I1,r1,q1⟩:=hzz;exact tV I1 hN hi hx r1 (λs2 I2=>⟨_,H1,I2,q1⟩) hf
def tAug (i:Nat) (te:TE) (ti:TIp):TS:=λD σ H=>∃x,σ[i]?=some (some x)/\te σ H λy H1=>ti x y H1 λz H2=>D.nx (σ.set i (some z)) H2
theorem Ba {op:Operator} {ti:TIp} (hN:X.N.Nodup) (hi:X.N[i]?=some x) (hx:Loc X.env.scope x) (he:PE X e te) (ho:PIp X op ti) (hf:X.fn x=true\/X.env.scope.names.lookup x=some .local:=by first|exact .inl rfl|exact .inr rfl|assumption):
  PS X (.AugAssign (.Name x pos') op e pos) (tAug i te ti):=by
 intro pins s σ H D I h;obtain⟨v,e1,h⟩:=h;obtain⟨m,hn,hl⟩:=I.loc;have vis:Vis X.env.scope x:=by rcases hx with k|k;exact .inl k;exact .inr (.inl k)
 obtain⟨u,r,l⟩:=hl i x v hi e1 vis;refine wpAny_AugAssign_Name ?_;have go:wpAny (model X.prog X.w) X.A (eval e X.env) (λw s₂=>wpAny (model X.prog X.w) X.A (inplaceOp op u w) (λr s₃=>wpAny (model X.prog X.w) X.A (storeName X.env x r) (λ_=>SP X pins D .next) X.xe s₃) X.xe s₂) X.xe s:=by
  refine thn (he pins s σ H _ I h) λw s1 hzz=>?_;obtain⟨y,H1,I1,r1,q1⟩:=hzz;refine thn (ho pins s1 σ H1 v y u w _ I1 r r1 q1) λz s2 hzz=>?_;obtain⟨zv,H2,I2,r2,q2⟩:=hzz;exact tV I2 hN hi hx r2 (λs3 I3=>⟨_,H2,I3,q2⟩) hf
 rcases l with⟨hk,hm⟩|⟨hk,c,hc,hcell⟩
 .exact wpAny_loadName_local I.ok.kind hk hn hm go
 .rcases hk with hk|hk
  .exact wpAny_loadName_cell I.ok.kind hk hc hcell go
  .rcases hx with k|k
   .have:X.env.scope.names.lookup x=some .free:=hk;rw[k]at this;cases this
   .have:X.env.scope.names.lookup x=some .free:=hk;rw[k]at this;cases this
def ipI (f:Int->Int->Int):TIp:=λx y H Q=>∃i j,x= .int i/\y= .int j/\Q (.int (f i j)) H
theorem Ff:PIp X .Add (ipI λi j=>i+j):=by
 intro pins s σ H x y v u Q I r1 r2 h;obtain⟨i,j,e1,e2,q⟩:=h;subst e1;subst e2;obtain⟨t,rfl⟩:=r1;obtain⟨t',rfl⟩:=r2;exact iadd_int ⟨.int _,H,I.tok _,⟨_,rfl⟩,q⟩
theorem Jx:PIp X .Sub (ipI λi j=>i-j):=by
 intro pins s σ H x y v u Q I r1 r2 h;obtain⟨i,j,e1,e2,q⟩:=h;subst e1;subst e2;obtain⟨t,rfl⟩:=r1;obtain⟨t',rfl⟩:=r2;exact isub_int ⟨.int _,H,I.tok _,⟨_,rfl⟩,q⟩
end
section
def Ei (c:TT) (tb:TS):TS:=λD σ H=>∃W:Nat->St->Hp->Prop,(∃m,W m σ H)/\∀m σ H,W m σ H->
 c σ H λb H1=>if b=true then ∃N:St->Hp->Prop,(∀σ' H',N σ' H'->∃m',m'<m/\W m' σ' H')/\tb {D with nx:=N,ct:=N,bk:=D.nx} σ H1 else D.nx σ H1
theorem lV (hp:PassesOwn (model X.prog X.w) X.A X.env X.xe) (hc:PT X c tc) (hb:PSs X body tb):PS X (.While c body [] pos) (Ei tc tb):=by
 intro pins s σ H D I h;obtain⟨W,⟨m0,w0⟩,turn⟩:=h;refine wpAny_While (codeAny_whileLoop (λn s'=>∃σ' H',Inv X pins σ' H' s'/\W n σ' H') ?_ m0 ⟨σ,H,I,w0⟩);rintro n s1 ⟨σ1,H1,I1,w1⟩;refine wpAny_passesOwn hp (thn (hc pins s1 σ1 H1 _ I1 (turn n σ1 H1 w1)) λb s2 ⟨H2,I2,q2⟩=>?_);cases b with
 |true=>
  obtain⟨N,hN,q2⟩:=q2;rw[if_pos rfl];refine wpAny_passesOwn hp (thn (hb pins s2 σ1 H2 _ I2 q2) λf s3 q3=>?_);cases f with
  |next=>
   obtain⟨σ3,H3,I3,n3⟩:=q3;obtain⟨m',hm,w3⟩:=hN σ3 H3 n3;exact⟨m',hm,σ3,H3,I3,w3⟩
  |cont=>
   obtain⟨σ3,H3,I3,n3⟩:=q3;obtain⟨m',hm,w3⟩:=hN σ3 H3 n3;exact⟨m',hm,σ3,H3,I3,w3⟩
  |brk=>exact q3
  |ret v=>exact q3
 |false=>
  rw[if_neg Qi];exact wpAny_execs_nil ⟨σ1,H2,I2,q2⟩
end
structure It where
 go:Nat->Hp->Prop
 yld:Nat->Hp->V->Hp->Prop
 stop:Nat->Hp->Prop
def Aj (X:Cx) (pins:List (Addr×Obj)) (H:Hp) (b:Addr):Prop:=
 H b=none/\b≠X.env.locals/\b∉X.fs/\(b∈X.ex\/X.s₀.heap.objs.size<=b)/\(∀x c,X.env.cells.lookup x=some c->c≠b)/\∀p∈X.pn++pins,p.1≠b
theorem Inv.fpOk (I:Inv X pins σ H s) (hb:s.heap.objs.size<=b) (hn:H' b=none):Aj X pins H' b:=by
 refine⟨hn,XA (Qx I.lt hb),I.nofs hb,.inr (QD I.sz hb),λx c e z=>?_,λp hp z=>?_⟩
 .obtain⟨v,q⟩:=I.cell x c e;exact absurd (Qx q.lt (by rw[z];exact hb)) (Zv _)
 .exact absurd (Qx (Heap.lt_size (I.pin p hp).1) (by rw[z];exact hb)) (Zv _)
structure BF (P:Program) (w:World) (K:PySem.W.Frag) (tg:Expr) (J:It) (fp:List Addr) (it:Addr) (tn:Nat->Heap->Prop):Prop where
 mem:it∈fp
 obj:∀i h,tn i h->∀b∈fp,∃o,h.get? b=some o/\∀v,o.data≠ .cell v
 keep:∀i h h',tn i h->(∀b∈fp,∀o,h.get? b=some o->h'.get? b=some o)->tn i h'
 item:∀(X:Cx),X.prog=P->X.w=w->X.K=K->X.calm=true->∀(i:Nat) (pins:List (Addr×Obj)) (s:Shared) (σ:St) (H:Hp) (E:Value->Shared->Prop),Inv X pins σ H s->(∀b∈fp,Aj X pins H b)->tn i s.heap->J.go i H->
  wpAny (model P w) X.A (pyNext (.ref it)) (λr s1=>∃u,r=some u/\
   wpAny (model P w) X.A (letOwnedTupleGo tg (.ref it) u) (λ_ s2=>∃x H',Inv X pins σ H' s2/\RelV x u/\J.yld i H x H'/\tn (i+1) s2.heap/\∀b∈fp,H' b=none) E s1) E s
 done:∀(X:Cx),X.prog=P->X.w=w->X.K=K->X.calm=true->∀(i:Nat) (pins:List (Addr×Obj)) (s:Shared) (σ:St) (H:Hp) (E:Value->Shared->Prop),Inv X pins σ H s->(∀b∈fp,Aj X pins H b)->tn i s.heap->J.stop i H->
  wpAny (model P w) X.A (pyNext (.ref it)) (λr s1=>r=none/\Inv X pins σ H s1) E s
 self:∀(A:Around) (i:Nat) (s:Shared) (Q:Value->Shared->Prop) (E:Value->Shared->Prop),tn i s.heap->Q (.ref it) s->wpAny (model P w) A (pyIter (.ref it)) Q E s
abbrev TI:=St->Hp->(It->Hp->Prop)->Prop
def PIE (X:Cx) (pins:List (Addr×Obj)) (σ:St) (tg:Expr) (R:It->Hp->Prop) (itv:Value) (s2:Shared):Prop:=
 ∃(it:Addr) (fp:List Addr) (tn:Nat->Heap->Prop) (J:It) (H':Hp),itv= .ref it/\Inv X pins σ H' s2/\BF X.prog X.w X.K tg J fp it tn/\tn 0 s2.heap/\(∀b∈fp,Aj X pins H' b)/\R J H'
def PI (X:Cx) (tg iter:Expr) (wi:TI):Prop:=
 ∀(pins:List (Addr×Obj)) (s:Shared) (σ:St) (H:Hp) (R:It->Hp->Prop),Inv X pins σ H s->wi σ H R->
  wpAny (model X.prog X.w) X.A (eval iter X.env) (λv s1=>wpAny (model X.prog X.w) X.A (pyIter v) (PIE X pins σ tg R) X.xe s1) X.xe s
theorem zT {o:Obj} {n:String} {vs:Array Value} {Q:Unit->Shared->Prop} (ho:s.heap.get? it=some o) (hc:o.cls= .type n) (hd:o.data= .fields vs)
  (hn:["enumerate","zip","dict_itemiterator","dict_reverseitemiterator","odict_iterator","itertools.zip_longest","itertools.pairwise"].contains n=false) (hQ:Q () s):wpAny M A (letOwnedTupleGo tg (.ref it) u) Q E s:=by
 unfold letOwnedTupleGo;cases tg<;>first
  |exact wpAny_pure hQ
  |(cases u<;>first
    |exact wpAny_pure hQ
    |(refine wpAny_bind (wpAny_load ho ?_)
      rw[hc,hd];show wpAny M A (if(["enumerate","zip","dict_itemiterator","dict_reverseitemiterator","odict_iterator","itertools.zip_longest","itertools.pairwise"].contains n&&vs[0]?==some (rawInt _))=true then _ else _) Q E s;rw[if_neg (by intro h;rw[hn,ZC]at h;cases h)];exact wpAny_pure hQ))
def Itl (K:PySem.W.Frag) (a:Addr):It:=
 ⟨λi H=>∃xs x,SqL K H a xs/\xs[i]?=some x,λi H x H'=>H'=H/\∀xs,SqL K H a xs->xs[i]?=some x,λi H=>∃xs,SqL K H a xs/\xs.length<=i⟩
def Itr (lo:Int) (n:Nat):It:=⟨λi _=>i<n,λi H x H'=>H'=H/\x= .int (lo+i),λi _=>n<=i⟩
theorem CD (a it:Addr):BF P w K tg (Itl K a) [it] it (λi h=>h.IsListIter it a i) where
 mem:=by simp
 obj:=λi h st b hb=>by
  have e:b=it:=by simpa using hb
  subst e;obtain⟨o,e,c,d⟩:=st;exact⟨o,e,λv z=>by rw[d]at z;cases z⟩
 keep:=λi h h' st k=>st.at λo e=>k it (by simp) o e
 item:=by
  intro X hP hw hK hc i pins s σ H E I hf st hg;subst hP hw hK;obtain⟨xs,x,hq,hx⟩:=hg;obtain⟨its,rv,p,hz⟩:=I.list hq;obtain⟨u,hu,ru⟩:=rv.get hx;obtain⟨f0,f1,f2,f3,f4,f5⟩:=hf it (by simp);refine wpAny_pyNext_list_item st p.isList (x:=u) (by simpa using hu) λh' st' sb=>?_;have I1:Inv X pins σ H {s with heap:=h'}:=I.turned (t':=s.toks) (λb o hb e=>(sb.2 b hb).trans e) f0 f1 f3 f4 f5;obtain⟨o,e,c,d⟩:=id st';exact⟨u,rfl,zT (s:={s with heap:=h'}) e c d (by decide) ⟨x,H,I1,ru,⟨rfl,λys hy=>by rw[I.list_inj hy hq];exact hx⟩,st',λb hb=>(hf b hb).1⟩⟩
 done:=by
  intro X hP hw hK hc i pins s σ H E I hf st hg;subst hP hw hK;obtain⟨xs,hq,hx⟩:=hg;obtain⟨its,rv,p,hz⟩:=I.list hq;obtain⟨f0,f1,f2,f3,f4,f5⟩:=hf it (by simp);have hl:=rv.length;exact wpAny_pyNext_list_end (I.ok.hd hc) st p.isList (by simp;lia) λh' eb=>⟨rfl,I.turned (t':=s.toks) (λb o hb e=>eb b o hb e) f0 f1 f3 f4 f5⟩
 self:=λ_ _ _ _ _ st h=>wpAny_pyIter_listiter st h
theorem AH (it:Addr) (lo:Int) (n:Nat):BF P w K tg (Itr lo n) [it] it (λi h=>IsRangeIter h it (lo+(i:Nat)*1) ((n:Int)-(i:Nat)) 1) where
 mem:=by simp
 obj:=λi h st b hb=>by
  have e:b=it:=by simpa using hb
  subst e;exact⟨_,st,λv z=>by
   have z':Data.fields _=Data.cell v:=z;cases z'⟩
 keep:=λi h h' st k=>k it (by simp) _ st
 item:=by
  intro X hP hw hK hc i pins s σ H E I hf st hg;subst hP hw hK;obtain⟨f0,f1,f2,f3,f4,f5⟩:=hf it (by simp);have W:=Walks.range (prog:=X.prog) (w:=X.w) (I.ok.hd hc) it lo 1 n;refine W.item i s _ _ hg st λv h' tk hv st' kk=>?_;obtain⟨t,rfl⟩:=hv;have I1:Inv X pins σ H {s with heap:=h',toks:=tk}:=I.turned (λb o hb e=>kk b o (by simpa using hb) e) f0 f1 f3 f4 f5;refine⟨_,rfl,zT (s:={s with heap:=h',toks:=tk}) (n:="range_iterator") st' rfl rfl (by decide) ⟨.int (lo+i),H,I1,⟨t,?_⟩,⟨rfl,rfl⟩,st',λb hb=>(hf b hb).1⟩⟩;rw[Int.mul_one]
 done:=by
  intro X hP hw hK hc i pins s σ H E I hf st hg;subst hP hw hK;obtain⟨f0,f1,f2,f3,f4,f5⟩:=hf it (by simp);exact wpAny_pyNext_range_end (I.ok.hd hc) st (by have:n<=i:=hg;lia) λh' eb=>⟨rfl,I.turned (t':=s.toks) (λb o hb e=>eb b o hb e) f0 f1 f3 f4 f5⟩
 self:=λ_ _ _ _ _ st h=>wpAny_pyIter_rangeiter st h
end
section
section
def KF (K:PySem.W.Frag) (tl:TE):TI:=λσ H R=>tl σ H λx H1=>∃a,x= .ref a/\(∃xs,SqL K H1 a xs)/\R (Itl K a) H1
theorem cZ {l:Expr} {tl:TE} (hl:PE X l tl):PI X tg l (KF X.K tl):=by
 intro pins s σ H R I h;refine thn (hl pins s σ H _ I h) λv s1 hzz=>?_;obtain⟨x,H1,I1,r1,q1⟩:=hzz;obtain⟨a,e,⟨xs,hq⟩,q⟩:=q1;subst e;cases r1;obtain⟨its,rv,p,hz⟩:=I1.list hq;refine wpAny_pyIter_list p.isList ?_;refine⟨s1.heap.objs.size,[s1.heap.objs.size],_,_,H1,rfl,I1.kept (t':=s1.toks) λb o e=>Heap.get?_push_of_some _ e,CD a _,⟨_,Heap.get?_push_size _ rfl,rfl,rfl⟩,λb hb=>?_,q⟩;have e:b=s1.heap.objs.size:=by simpa using hb
 subst e;exact I1.fpOk (Q4 _) (I1.hok.fresh (Q4 _))
theorem Ey {R:It->Hp->Prop} {hi:Int} {t u v:Tok} {tk:Nat} (I:Inv X pins σ H s) (h1: -(2^62)<=lo) (h2:lo<2^62) (h3: -(2^62)<=hi) (h4:hi<2^62)
  (q:R (Itr lo (hi-lo).toNat) H):wpAny (model X.prog X.w) X.A (pyIter (.ref s.heap.objs.size)) (PIE X pins σ tg R) E {s with heap:=s.heap.push {cls:= .type "range",data:= .fields #[.int lo t,.int hi u,.int 1 v]},toks:=tk}:=by
 refine wpAny_pyIter_range (IsRange.new ..) (small_one h1 h2 h3 h4) ?_;have I1:Inv X pins σ H {s with heap:=s.heap.push {cls:= .type "range",data:= .fields #[.int lo t,.int hi u,.int 1 v]},toks:=tk}:=I.kept λb o e=>Heap.get?_push_of_some _ e;refine⟨(s.heap.push {cls:= .type "range",data:= .fields #[.int lo t,.int hi u,.int 1 v]}).objs.size,[(s.heap.push {cls:= .type "range",data:= .fields #[.int lo t,.int hi u,.int 1 v]}).objs.size],_,_,H,rfl,
  I1.kept (t':=tk) λb o e=>Heap.get?_push_of_some _ e,AH _ lo (hi-lo).toNat,?_,λb hb=>?_,q⟩
 .have e1:lo+((0:Nat):Int)*1=lo:=by simp
  have e2:(((hi-lo).toNat:Nat):Int)-((0:Nat):Int)=Builtin.Range.rangeSize lo hi 1:=by rw[rangeSize_one];split<;>lia
  show IsRangeIter _ _ (lo+((0:Nat):Int)*1) ((((hi-lo).toNat:Nat):Int)-((0:Nat):Int)) 1;rw[e1,e2];exact Heap.get?_push_size _ rfl
 .have e:b=(s.heap.push {cls:= .type "range",data:= .fields #[.int lo t,.int hi u,.int 1 v]}).objs.size:=by simpa using hb
  subst e;exact I1.fpOk (Q4 _) (I1.hok.fresh (Q4 _))
def KD (ta:TA):TI:=λσ H R=>ta σ H λvs H1=>∃j:Int,vs=[.int j]/\-(2^62)<=j/\j<2^62/\R (Itr 0 j.toNat) H1
theorem gP {a:Expr} {ta:TA} (hg:Gl X "range") (hm:X.mg "range"=none) (ha:PA X [a] ta) (hs:starEach [a] X.env=[(false,eval a X.env)]:=by rfl):PI X tg (.Call (.Name "range" p) [a] [] pos) (KD ta):=by
 intro pins s σ H R I h;refine Call_ (rF I hg hm boot_range (PyProof.Rows.callWith_type1 (thn (ha pos pins s σ H _ I h) λus s1 hzz=>?_) hs rfl));obtain⟨vs,H1,I1,r1,q1⟩:=hzz;obtain⟨j,e,q1,q2,q⟩:=q1;subst e;cases r1 with
 |cons r rr=>
  cases rr;obtain⟨t,rfl⟩:=r;exact call_range_1 (Ey I1 (by lia) (by lia) q1 q2 (by simpa using q))
def tFor (wi:TI) (g:TG) (tb:TS):TS:=λD σ H=>wi σ H λJ H1=>∃W:Nat->Nat->St->Hp->Prop,(∃m,W 0 m σ H1)/\∀i m σ H,W i m σ H->
 (J.stop i H/\D.nx σ H)\/(J.go i H/\∃N:St->Hp->Prop,(∀σ' H',N σ' H'->∃m',m'<m/\W (i+1) m' σ' H')/\∀x H',J.yld i H x H'->g x σ H' λσ2 H2=>tb {D with nx:=N,ct:=N,bk:=D.nx} σ2 H2)
def uA (fp:List Addr) (h:Heap):List (Addr×Obj):=fp.filterMap λb=>(h.get? b).map λo=>(b,o)
theorem kx {o:Obj} (hb:b∈fp) (e:h.get? b=some o):(b,o)∈uA fp h:=List.mem_filterMap.mpr ⟨b,hb,by rw[e];rfl⟩
theorem CU {p:Addr×Obj} (hp:p∈uA fp h):p.1∈fp/\h.get? p.1=some p.2:=by
 obtain⟨b,hb,e⟩:=List.mem_filterMap.mp hp;cases q:h.get? b with
 |none=>rw[q]at e;cases e
 |some o=>
  rw[q]at e;have e':(b,o)=p:=Option.some.inj e;subst e';exact⟨hb,q⟩
theorem Inv.pinned (I:Inv X pins σ H s) (hf:∀b∈fp,Aj X pins H b) (ho:∀b∈fp,∃o,s.heap.get? b=some o/\∀v,o.data≠ .cell v):Inv X (pins++uA fp s.heap) σ H s:=
 I.pins_of λp hp=>(Q5.mp hp).elim (λz=>I.pin p (Qv _ z)) λz=>by
  obtain⟨hb,e⟩:=CU z;obtain⟨f0,f1,f2,_⟩:=hf p.1 hb;obtain⟨o,e',d⟩:=ho p.1 hb;rw[e]at e';cases e';exact⟨e,f0,f1,f2,d⟩
theorem Inv.unpinned {pl:List (Addr×Obj)} (I:Inv X (pins++pl) σ H s):Inv X pins σ H s:=I.pins_of λp hp=>I.pin p (Qv _ (ZX _ hp))
theorem hZ {iter:Expr} {wi:TI} {g:TG} (hp:PassesOwn (model X.prog X.w) X.A X.env X.xe) (hc:X.calm=true) (hi:PI X tg iter wi) (hg:PG X tg g) (hb:PSs X body tb)
  (hs:∀x,foldedSetIterable iter X.env x=pure x:=by intro _;rfl):PS X (.For tg iter body [] pos) (tFor wi g tb):=by
 intro pins s σ H D I h;refine wpAny_For (thn (hi pins s σ H _ I h) λv s1 h1=>thn h1 λitv s2 h2=>?_) hs;obtain⟨it,fp,tn,J,H2,e,I2,T,st2,f2,W,⟨m0,w0⟩,turn⟩:=h2;subst e;have stat:∀{H':Hp},(∀b∈fp,H' b=none)->∀b∈fp,Aj X pins H' b:=λhn b hb=>⟨hn b hb,(f2 b hb).2⟩;refine codeAny_forLoop_any (λn s'=>∃i σ' H',Inv X pins σ' H' s'/\tn i s'.heap/\(∀b∈fp,H' b=none)/\W i n σ' H') ?_ m0 ⟨0,σ,H2,I2,st2,λb hb=>(f2 b hb).1,w0⟩;rintro n s3 ⟨i,σ3,H3,I3,st3,fr3,w3⟩;rcases turn i n σ3 H3 w3 with⟨stop,qn⟩|⟨go,N,hN,step⟩
 .refine wpAny_passesOwn hp (thn (T.done X rfl rfl rfl hc i pins s3 σ3 H3 X.xe I3 (stat fr3) st3 stop) λr s4 ⟨hr,I4⟩=>?_);subst hr;exact wpAny_execs_nil ⟨σ3,H3,I4,qn⟩
 .refine wpAny_passesOwn hp (thn (T.item X rfl rfl rfl hc i pins s3 σ3 H3 X.xe I3 (stat fr3) st3 go) λr s4 ⟨u,hr,h4⟩=>?_);subst hr;refine wpAny_passesOwn hp (thn h4 λ_ s5 hzz=>?_);obtain⟨x,H5,I5,r5,y5,st5,fr5⟩:=hzz;have I5':=I5.pinned (stat fr5) (T.obj _ _ st5);refine wpAny_passesOwn hp (thn (hg _ s5 σ3 H5 x u _ I5' r5 (step x H5 y5)) λ_ s6 hzz=>?_);obtain⟨σ6,H6,I6,q6⟩:=hzz;refine wpAny_passesOwn hp (thn (hb _ s6 σ6 H6 _ I6 q6) λf s7 q7=>?_);have again:∀{σ7:St} {H7:Hp},Inv X (pins++uA fp s5.heap) σ7 H7 s7->N σ7 H7->∃m,m<n/\∃i σ' H',Inv X pins σ' H' s7/\tn i s7.heap/\(∀b∈fp,H' b=none)/\W i m σ' H':=λ{σ7 H7} I7 n7=>by
   obtain⟨m',hm,w7⟩:=hN σ7 H7 n7;refine⟨m',hm,i+1,σ7,H7,I7.unpinned,T.keep _ _ _ st5 λb hb o e=>(I7.pin (b,o) (Qv _ (Qv _ (kx hb e)))).1,λb hb=>?_,w7⟩;obtain⟨o,e,d⟩:=T.obj _ _ st5 b hb;exact(I7.pin (b,o) (Qv _ (Qv _ (kx hb e)))).2.1
  cases f with
  |next=>obtain⟨σ7,H7,I7,n7⟩:=q7;exact again I7 n7
  |cont=>obtain⟨σ7,H7,I7,n7⟩:=q7;exact again I7 n7
  |brk=>obtain⟨σ7,H7,I7,q7⟩:=q7;exact⟨σ7,H7,I7.unpinned,q7⟩
  |ret v=>obtain⟨x7,σ7,H7,I7,r7,q7⟩:=q7;exact⟨x7,σ7,H7,I7.unpinned,r7,q7⟩
end
theorem Fu {g:TG} {D:yZ} (Pv:Nat->St->Hp->Prop) (h0:Pv 0 σ H) (hl:∀i σ H,i<=xs.length->Pv i σ H->SqL K H a xs)
  (hs:∀i x σ H,xs[i]?=some x->Pv i σ H->g x σ H λσ2 H2=>tb {D with nx:=Pv (i+1),ct:=Pv (i+1),bk:=D.nx} σ2 H2) (hd:∀σ H,Pv xs.length σ H->D.nx σ H):
  ∃W:Nat->Nat->St->Hp->Prop,(∃m,W 0 m σ H)/\∀i m σ H,W i m σ H->
   ((Itl K a).stop i H/\D.nx σ H)\/((Itl K a).go i H/\∃N:St->Hp->Prop,(∀σ' H',N σ' H'->∃m',m'<m/\W (i+1) m' σ' H')/\∀x H',(Itl K a).yld i H x H'->g x σ H' λσ2 H2=>tb {D with nx:=N,ct:=N,bk:=D.nx} σ2 H2):=by
 refine⟨λi m σ H=>m=xs.length-i/\i<=xs.length/\Pv i σ H,⟨xs.length,by simp,Qj _,h0⟩,?_⟩;rintro i m σ H ⟨rfl,hi,p⟩;have q:=hl i σ H hi p;by_cases hlt:i<xs.length
 .refine .inr ⟨⟨xs,xs[i],q,by simp[hlt]⟩,Pv (i+1),λσ' H' p'=>⟨xs.length-(i+1),by lia,rfl,hlt,p'⟩,λx H' y=>?_⟩;obtain⟨e,y⟩:=y;subst e;exact hs i x σ _ (y xs q) p
 .have e:i=xs.length:=by lia
  subst e;exact .inl ⟨⟨xs,q,Q4 _⟩,hd σ H p⟩
theorem rH {g:TG} {D:yZ} (Pv:Nat->St->Hp->Prop) (h0:Pv 0 σ H)
  (hs:∀i σ H,i<n->Pv i σ H->g (.int (lo+i)) σ H λσ2 H2=>tb {D with nx:=Pv (i+1),ct:=Pv (i+1),bk:=D.nx} σ2 H2) (hd:∀σ H,Pv n σ H->D.nx σ H):
  ∃W:Nat->Nat->St->Hp->Prop,(∃m,W 0 m σ H)/\∀i m σ H,W i m σ H->
   ((Itr lo n).stop i H/\D.nx σ H)\/((Itr lo n).go i H/\∃N:St->Hp->Prop,(∀σ' H',N σ' H'->∃m',m'<m/\W (i+1) m' σ' H')/\∀x H',(Itr lo n).yld i H x H'->g x σ H' λσ2 H2=>tb {D with nx:=N,ct:=N,bk:=D.nx} σ2 H2):=by
 refine⟨λi m σ H=>m=n-i/\i<=n/\Pv i σ H,⟨n,by simp,Qj _,h0⟩,?_⟩;rintro i m σ H ⟨rfl,hi,p⟩;by_cases hlt:i<n
 .refine .inr ⟨hlt,Pv (i+1),λσ' H' p'=>⟨n-(i+1),by lia,rfl,hlt,p'⟩,λx H' y=>?_⟩;obtain⟨e,y⟩:=y;subst e y;exact hs i σ _ hlt p
 .have e:i=n:=by lia
  subst e;exact .inl ⟨Q4 _,hd σ H p⟩
end
section
abbrev R2:=V->V->Hp->VK->Prop
def OpR (X:Cx) (f:Value->Value->Sem Value) (r:R2):Prop:=
 ∀(pins:List (Addr×Obj)) (s:Shared) (σ:St) (H:Hp) (x y:V) (v u:Value) (Q:VK),Inv X pins σ H s->RelV x v->RelV y u->r x y H Q->
  wpAny (model X.prog X.w) X.A (f v u) (EP X pins σ Q) X.xe s
def UnR (X:Cx) (f:Value->Sem Value) (r:V->Hp->VK->Prop):Prop:=
 ∀(pins:List (Addr×Obj)) (s:Shared) (σ:St) (H:Hp) (x:V) (v:Value) (Q:VK),Inv X pins σ H s->RelV x v->r x H Q->
  wpAny (model X.prog X.w) X.A (f v) (EP X pins σ Q) X.xe s
def eZ (X:Cx) (f:Value) (r:List V->Hp->VK->Prop):Prop:=
 ∀(pins:List (Addr×Obj)) (s:Shared) (σ:St) (H:Hp) (xs:List V) (us:List Value) (Q:VK),Inv X pins σ H s->Vals xs us->r xs H Q->
  wpAny (model X.prog X.w) X.A (call f us) (EP X pins σ Q) X.xe s
def tOp (r:R2) (ta tb:TE):TE:=λσ H Q=>ta σ H λx H1=>tb σ H1 λy H2=>r x y H2 Q
def tUn (r:V->Hp->VK->Prop) (ta:TE):TE:=λσ H Q=>ta σ H λx H1=>r x H1 Q
def rI (C:Int->Int->Prop) (g:Int->Int->V):R2:=λx y H Q=>∃i j,x= .int i/\y= .int j/\C i j/\Q (g i j) H
def rI0 (g:Int->Int->V):R2:=λx y H Q=>∃i j,x= .int i/\y= .int j/\Q (g i j) H
def rU (g:Int->V):V->Hp->VK->Prop:=λx H Q=>∃i,x= .int i/\Q (g i) H
section
variable {a b:Expr} {tb tc:TE}
theorem JJ (ha:PE X a ta) (hb:PE X b tb) {R:V->V->Hp->Prop} (I:Inv X pins σ H s)
  (h:ta σ H λx H1=>tb σ H1 λy H2=>R x y H2) {f:Value->Value->Sem Value}
  (hf:∀v u s2 x y H2,Inv X pins σ H2 s2->RelV x v->RelV y u->R x y H2->wpAny (model X.prog X.w) X.A (f v u) Q X.xe s2):
  wpAny (model X.prog X.w) X.A (eval a X.env) (λv s₁=>wpAny (model X.prog X.w) X.A (eval b X.env) (λu s₂=>wpAny (model X.prog X.w) X.A (f v u) Q X.xe s₂) X.xe s₁) X.xe s:=by
 refine thn (ha pins s σ H _ I h) λv s1 hzz=>?_;obtain⟨x,H1,I1,r1,q1⟩:=hzz;refine thn (hb pins s1 σ H1 _ I1 q1) λu s2 hzz=>?_;obtain⟨y,H2,I2,r2,q2⟩:=hzz;exact hf v u s2 x y H2 I2 r1 r2 q2
theorem am {op:Operator} (ho:OpR X (binaryOp op) r) (ha:PE X a ta) (hb:PE X b tb):PE X (.BinOp a op b pos) (tOp r ta tb):=by
 intro pins s σ H Q I h;exact wpAny_BinOp (JJ ha hb I h λv u s2 x y H2 I2 rx ry q=>ho pins s2 σ H2 x y v u Q I2 rx ry q)
theorem ED {op:UnaryOp} {r:V->Hp->VK->Prop} (ho:UnR X (unaryOp op) r) (ha:PE X a ta):PE X (.UnaryOp op a pos) (tUn r ta):=by
 intro pins s σ H Q I h;exact UnaryOp_ (thn (ha pins s σ H _ I h) λv s1 ⟨x,H1,I1,r1,q1⟩=>ho pins s1 σ H1 x v Q I1 r1 q1)
theorem opI {f:Value->Value->Sem Value} {C:Int->Int->Prop} 
  (rule:∀(i j:Int) (t u:Tok) (s:Shared) (Q:Value->Shared->Prop) (E:Value->Shared->Prop),C i j->Q (.int (g i j) s.toks) {s with toks:=s.toks+1}->wpAny (model X.prog X.w) X.A (f (.int i t) (.int j u)) Q E s):
  OpR X f (rI C λi j=> .int (g i j)):=by
 intro pins s σ H x y v u Q I rx ry h;obtain⟨i,j,rfl,rfl,hc,q⟩:=h;obtain⟨t,rfl⟩:=rx;obtain⟨t',rfl⟩:=ry;exact rule i j t t' s _ _ hc ⟨.int (g i j),H,I.tok _,⟨_,rfl⟩,q⟩
theorem opI0 {f:Value->Value->Sem Value} 
  (rule:∀(i j:Int) (t u:Tok) (s:Shared) (Q:Value->Shared->Prop) (E:Value->Shared->Prop),Q (.int (g i j) s.toks) {s with toks:=s.toks+1}->wpAny (model X.prog X.w) X.A (f (.int i t) (.int j u)) Q E s):
  OpR X f (rI0 λi j=> .int (g i j)):=by
 intro pins s σ H x y v u Q I rx ry h;obtain⟨i,j,rfl,rfl,q⟩:=h;obtain⟨t,rfl⟩:=rx;obtain⟨t',rfl⟩:=ry;exact rule i j t t' s _ _ ⟨.int (g i j),H,I.tok _,⟨_,rfl⟩,q⟩
theorem G5 {f:Value->Value->Sem Value} {g:Int->Int->Bool}
  (rule:∀(i j:Int) (t u:Tok) (s:Shared) (Q:Value->Shared->Prop) (E:Value->Shared->Prop),Q (.bool (g i j)) s->wpAny (model X.prog X.w) X.A (f (.int i t) (.int j u)) Q E s):
  OpR X f (rI0 λi j=> .bl (g i j)):=by
 intro pins s σ H x y v u Q I rx ry h;obtain⟨i,j,rfl,rfl,q⟩:=h;obtain⟨t,rfl⟩:=rx;obtain⟨t',rfl⟩:=ry;exact rule i j t t' s _ _ ⟨.bl (g i j),H,I,rfl,q⟩
def CDiv (i j:Int):Prop:=0<j/\j<1073741824
def CPow (i j:Int):Prop:=0<=j/\j<=1000000/\i.natAbs<2^64
def CMul (i j:Int):Prop:=(-(2^64)<i/\i<2^64)\/(-(2^64)<j/\j<2^64)
theorem CMul.ok {i j:Int} (h:CMul i j):IntMulOk i j:=by
 rcases h with⟨h1,h2⟩|⟨h1,h2⟩
 .exact .of_left (intBits_le_64 h1 h2)
 .exact .of_right (intBits_le_64 h1 h2)
theorem bn:OpR X (binaryOp .Add) (rI0 λi j=> .int (i+j)):=opI0 λ_ _ _ _ _ _ _ q=>add_int q
theorem ie:OpR X (binaryOp .Sub) (rI0 λi j=> .int (i-j)):=opI0 λ_ _ _ _ _ _ _ q=>sub_int q
theorem dn:OpR X (binaryOp .Mult) (rI CMul λi j=> .int (i*j)):=opI λ_ _ _ _ _ _ _ hc q=>mul_int q hc.ok
theorem aS:OpR X (binaryOp .FloorDiv) (rI CDiv λi j=> .int (i/j)):=opI λi j _ _ _ _ _ hc q=>by
 have h1:(0:Int)<j:=hc.1;have h2:j<1073741824:=hc.2;exact floordiv_int (by lia) (by rw[V0 i (by lia)];exact q) (.inl (PyProof.noPylong_small (by lia)))
theorem aP:OpR X (binaryOp .Mod) (rI (λ_ j=>0<j) λi j=> .int (i%j)):=opI λi j _ _ _ _ _ hc q=>by
 have h1:(0:Int)<j:=hc;exact mod_int' (by lia) (by rw[Int.fmod_eq_emod_of_nonneg i (by lia)];exact q)
theorem jj:OpR X (binaryOp .Pow) (rI CPow λi j=> .int (i^j.toNat)):=opI λ_ _ _ _ _ _ _ hc q=>pow_int_small hc.1 hc.2.1 hc.2.2 q
theorem unI {f:Value->Sem Value} {g:Int->Int}
  (rule:∀(i:Int) (t:Tok) (s:Shared) (Q:Value->Shared->Prop) (E:Value->Shared->Prop),Q (.int (g i) s.toks) {s with toks:=s.toks+1}->wpAny (model X.prog X.w) X.A (f (.int i t)) Q E s):
  UnR X f (rU λi=> .int (g i)):=by
 intro pins s σ H x v Q I rx h;obtain⟨i,rfl,q⟩:=h;obtain⟨t,rfl⟩:=rx;exact rule i t s _ _ ⟨.int (g i),H,I.tok _,⟨_,rfl⟩,q⟩
theorem AG:UnR X (unaryOp .USub) (rU λi=> .int (-i)):=unI λ_ _ _ _ _ q=>neg_int q
end
def scal:V->V->Bool
 | .non,.non=>true| .non,.int _=>true| .int _,.non=>true| .non,.bl _=>true| .bl _,.non=>true| .non,.str _=>true| .str _,.non=>true
 | .int _,.int _=>true| .bl _,.bl _=>true| .str _,.str _=>true| .byt _,.byt _=>true
 | .int _,.str _=>true| .str _,.int _=>true| .bl _,.str _=>true| .str _,.bl _=>true
 |_,_=>false
def rEq:R2:=λx y H Q=>scal x y=true/\Q (.bl (decide (x=y))) H
def rNe:R2:=λx y H Q=>scal x y=true/\Q (.bl (!decide (x=y))) H
theorem Ck {i j:Int}:decide (V.int i=V.int j)=(i==j):=by
 rw[Xi];simp
theorem FG {i j:Bool}:decide (V.bl i=V.bl j)=(i==j):=by
 rw[Xi];simp
theorem Cj {i j:Str}:decide (V.str i=V.str j)=(i==j):=by
 rw[Xi];simp
theorem Cl {i j:Array UInt8}:decide (V.byt i=V.byt j)=(i.toList==j.toList):=by
 rw[Xi];cases i;cases j;simp
section
variable {a b:Expr} {tb tc:TE}
theorem bh {Q:VK} {k k':Bool} (I:Inv X pins σ H s) (q:Q (.bl k) H) (e:k=k'):EP X pins σ Q (.bool k') s:=by
 subst e;exact⟨.bl k,H,I,rfl,q⟩
theorem bL:OpR X (compareOp .Eq) rEq:=by
 intro pins s σ H x y v u Q I rx ry h;obtain⟨hs,q⟩:=h;cases x with
 |non=>
  cases rx;cases y with
  |non=>cases ry;exact PySem.EqNone.eq_none_none (bh I q (by simp))
  |bl j=>cases ry;exact PySem.EqNone.eq_none_bool (bh I q (by simp))
  |int j=>obtain⟨t',rfl⟩:=ry;exact PySem.EqNone.eq_none_int (bh I q (by simp))
  |str j=>obtain⟨t',rfl⟩:=ry;exact PySem.EqNone.eq_none_str (bh I q (by simp))
  |_=>exact absurd (show false=true from hs) Qi
 |bl i=>
  cases rx;cases y with
  |non=>cases ry;exact PySem.EqNone.eq_bool_none (bh I q (by simp))
  |bl j=>cases ry;exact eq_bool (bh I q FG)
  |str j=>obtain⟨t',rfl⟩:=ry;exact PySem.EqMixed.eq_bool_str (bh I q (by simp))
  |_=>exact absurd (show false=true from hs) Qi
 |int i=>
  obtain⟨t,rfl⟩:=rx;cases y with
  |non=>cases ry;exact PySem.EqNone.eq_int_none (bh I q (by simp))
  |int j=>obtain⟨t',rfl⟩:=ry;exact eq_int (bh I q Ck)
  |str j=>obtain⟨t',rfl⟩:=ry;exact PySem.EqMixed.eq_int_str (bh I q (by simp))
  |_=>exact absurd (show false=true from hs) Qi
 |str i=>
  obtain⟨t,rfl⟩:=rx;cases y with
  |non=>cases ry;exact PySem.EqNone.eq_str_none (bh I q (by simp))
  |bl j=>cases ry;exact PySem.EqMixed.eq_str_bool (bh I q (by simp))
  |int j=>obtain⟨t',rfl⟩:=ry;exact PySem.EqMixed.eq_str_int (bh I q (by simp))
  |str j=>obtain⟨t',rfl⟩:=ry;exact eq_str (bh I q Cj)
  |_=>exact absurd (show false=true from hs) Qi
 |byt i=>
  obtain⟨t,rfl⟩:=rx;cases y with
  |byt j=>obtain⟨t',rfl⟩:=ry;exact PySem.W.eq_bytes (bh I q Cl)
  |_=>exact absurd (show false=true from hs) Qi
 |_=>cases y<;>exact absurd (show false=true from hs) Qi
theorem xb:OpR X (compareOp .NotEq) rNe:=by
 intro pins s σ H x y v u Q I rx ry h;obtain⟨hs,q⟩:=h;cases x with
 |non=>
  cases rx;cases y with
  |non=>cases ry;exact PySem.EqNone.ne_none_none (bh I q (by simp))
  |bl j=>cases ry;exact PySem.EqNone.ne_none_bool (bh I q (by simp))
  |int j=>obtain⟨t',rfl⟩:=ry;exact PySem.EqNone.ne_none_int (bh I q (by simp))
  |str j=>obtain⟨t',rfl⟩:=ry;exact PySem.EqNone.ne_none_str (bh I q (by simp))
  |_=>exact absurd (show false=true from hs) Qi
 |bl i=>
  cases rx;cases y with
  |non=>cases ry;exact PySem.EqNone.ne_bool_none (bh I q (by simp))
  |bl j=>cases ry;exact ne_bool (bh I q (congrArg not FG))
  |str j=>obtain⟨t',rfl⟩:=ry;exact PySem.EqMixed.ne_bool_str (bh I q (by simp))
  |_=>exact absurd (show false=true from hs) Qi
 |int i=>
  obtain⟨t,rfl⟩:=rx;cases y with
  |non=>cases ry;exact PySem.EqNone.ne_int_none (bh I q (by simp))
  |int j=>obtain⟨t',rfl⟩:=ry;exact ne_int (bh I q (congrArg not Ck))
  |str j=>obtain⟨t',rfl⟩:=ry;exact PySem.EqMixed.ne_int_str (bh I q (by simp))
  |_=>exact absurd (show false=true from hs) Qi
 |str i=>
  obtain⟨t,rfl⟩:=rx;cases y with
  |non=>cases ry;exact PySem.EqNone.ne_str_none (bh I q (by simp))
  |bl j=>cases ry;exact PySem.EqMixed.ne_str_bool (bh I q (by simp))
  |int j=>obtain⟨t',rfl⟩:=ry;exact PySem.EqMixed.ne_str_int (bh I q (by simp))
  |str j=>obtain⟨t',rfl⟩:=ry;exact ne_str (bh I q (congrArg not Cj))
  |_=>exact absurd (show false=true from hs) Qi
 |byt i=>
  obtain⟨t,rfl⟩:=rx;cases y with
  |byt j=>obtain⟨t',rfl⟩:=ry;exact PySem.W.ne_bytes (bh I q (congrArg not Cl))
  |_=>exact absurd (show false=true from hs) Qi
 |_=>cases y<;>exact absurd (show false=true from hs) Qi
theorem dW:OpR X (compareOp .Lt) (rI0 λi j=> .bl (decide (i<j))):=G5 λ_ _ _ _ _ _ _ q=>lt_int q
theorem lW:OpR X (compareOp .LtE) (rI0 λi j=> .bl (decide (i<=j))):=G5 λ_ _ _ _ _ _ _ q=>le_int q
theorem zA:OpR X (compareOp .Gt) (rI0 λi j=> .bl (decide (j<i))):=G5 λ_ _ _ _ _ _ _ q=>gt_int q
theorem xf:OpR X (compareOp .GtE) (rI0 λi j=> .bl (decide (j<=i))):=G5 λ_ _ _ _ _ _ _ q=>ge_int q
theorem cQ:OpR X (compareOp .Is) (λx y H Q=>y= .non/\Q (.bl (decide (x= .non))) H):=by
 intro pins s σ H x y v u Q I rx ry h;obtain⟨rfl,q⟩:=h;cases ry;refine is_none_gen (bh I q ?_);cases x<;>first
  |(cases rx;rfl)
  |(obtain⟨t,rfl⟩:=rx;rfl)
theorem pX:OpR X (compareOp .IsNot) (λx y H Q=>y= .non/\Q (.bl (!decide (x= .non))) H):=by
 intro pins s σ H x y v u Q I rx ry h;obtain⟨rfl,q⟩:=h;cases ry;refine isnot_none_gen (bh I q ?_);cases x<;>first
  |(cases rx;rfl)
  |(obtain⟨t,rfl⟩:=rx;rfl)
theorem ar (b:Expr) (h:op≠ .In:=by decide) (h2:op≠ .NotIn:=by decide):behindInMarks op b=false:=by
 have e1:(op==CmpOp.In)=false:=by cases op<;>first|rfl|exact absurd rfl h
 have e2:(op==CmpOp.NotIn)=false:=by cases op<;>first|rfl|exact absurd rfl h2
 cases b<;>simp[behindInMarks,e1,e2]
theorem bG (ho:OpR X (compareOp op) r) (ha:PE X a ta) (hb:PE X b tb) (hm:behindInMarks op b=false):PE X (.Compare a [op] [b] pos) (tOp r ta tb):=by
 intro pins s σ H Q I h;exact wpAny_Compare1 (JJ ha hb I h λv u s2 x y H2 I2 rx ry q=>ho pins s2 σ H2 x y v u Q I2 rx ry q) hm
def HX (t:TE):TT:=λσ H Q=>t σ H λx H'=>∃k,x= .bl k/\Q k H'
theorem aq (ho:OpR X (compareOp op) r) (ha:PE X a ta) (hb:PE X b tb) (hm:behindInMarks op b=false):PT X (.Compare a [op] [b] pos) (HX (tOp r ta tb)):=by
 intro pins s σ H Q I h;refine wpAny_isTrue_Compare1 (thn (ha pins s σ H _ I h) λv s1 ⟨x,H1,I1,r1,q1⟩=>thn (hb pins s1 σ H1 _ I1 q1) λu s2 ⟨y,H2,I2,r2,q2⟩=>
  thn (ho pins s2 σ H2 x y v u _ I2 r1 r2 q2) λc s3 ⟨z,H3,I3,r3,k,e,q3⟩=>?_) hm
 subst e;cases r3;exact wpAny_truthy_bool ⟨H3,I3,q3⟩
def Em (r r':R2) (ta tb tc:TE):TE:=λσ H Q=>ta σ H λx H1=>tb σ H1 λy H2=>r x y H2 λz H3=>∃k,z= .bl k/\
 (if k=true then tc σ H3 λw' H4=>r' y w' H4 Q else Q (.bl false) H3)
theorem EF {op':CmpOp} {r':R2} (ho:OpR X (compareOp op) r) (ho':OpR X (compareOp op') r') (ha:PE X a ta) (hb:PE X b tb) (hc:PE X c tc)
  (hm:lastMarks [op,op'] [b,c]=false:=by with_unfolding_all rfl):PE X (.Compare a [op,op'] [b,c] pos) (Em r r' ta tb tc):=by
 intro pins s σ H Q I h;refine Compare_chain (thn (ha pins s σ H _ I h) λv s1 ⟨x,H1,I1,r1,q1⟩=>chain_link (thn (hb pins s1 σ H1 _ I1 q1) λu s2 ⟨y,H2,I2,r2,q2⟩=>
  thn (ho pins s2 σ H2 x y v u _ I2 r1 r2 q2) λd s3 ⟨z,H3,I3,r3,k,e,q3⟩=>?_)) hm
 subst e;cases r3;refine wpAny_truthy_bool ?_;cases k with
 |false=>exact ite_ff ⟨.bl false,H3,I3,rfl,q3⟩
 |true=>exact ite_tt (chain_last (thn (hc pins s3 σ H3 _ I3 q3) λw' s4 ⟨z',H4,I4,r4,q4⟩=>ho' pins s4 σ H4 y z' u w' Q I4 r2 r4 q4))
theorem Ez {op':CmpOp} {r':R2} (ho:OpR X (compareOp op) r) (ho':OpR X (compareOp op') r') (ha:PE X a ta) (hb:PE X b tb) (hc:PE X c tc)
  (hm:lastMarks [op,op'] [b,c]=false:=by with_unfolding_all rfl):PT X (.Compare a [op,op'] [b,c] pos) (HX (Em r r' ta tb tc)):=by
 intro pins s σ H Q I h;refine isTrue_chain (thn (ha pins s σ H _ I h) λv s1 ⟨x,H1,I1,r1,q1⟩=>test_link (thn (hb pins s1 σ H1 _ I1 q1) λu s2 ⟨y,H2,I2,r2,q2⟩=>
  thn (ho pins s2 σ H2 x y v u _ I2 r1 r2 q2) λd s3 ⟨z,H3,I3,r3,k,e,q3⟩=>?_)) hm
 subst e;cases r3;refine wpAny_truthy_bool ?_;cases k with
 |false=>
  obtain⟨k',e',q'⟩:=q3;cases e';exact ite_ff ⟨H3,I3,q'⟩
 |true=>
  refine ite_tt (test_last (thn (hc pins s3 σ H3 _ I3 q3) λw' s4 ⟨z',H4,I4,r4,q4⟩=>thn (ho' pins s4 σ H4 y z' u w' _ I4 r2 r4 q4) λd' s5 hzz=>?_));obtain⟨z2,H5,I5,r5,k2,e2,q5⟩:=hzz;subst e2;cases r5;exact wpAny_truthy_bool ⟨H5,I5,q5⟩
theorem uW:(sizeLine:Nat)<2^63:=by rw[sizeLine_eq];decide
theorem jG {x:V} (r:Vals [x] us):∃u,us=[u]/\RelV x u:=by
 cases r with
 |cons r1 r2=>cases r2;exact⟨_,rfl,r1⟩
theorem tQ {x:V} (r:Vals [x,y] us):∃u w',us=[u,w']/\RelV x u/\RelV y w':=by
 cases r with
 |cons r1 r2=>
  cases r2 with
  |cons r3 r4=>cases r4;exact⟨_,_,rfl,r1,r3⟩
theorem nJ (hc:X.calm=true):eZ X (.builtin "max") (λxs H Q=>∃i j,xs=[.int i,.int j]/\Q (.int (if j>i then j else i)) H):=by
 intro pins s σ H xs us Q I r h;obtain⟨i,j,rfl,q⟩:=h;obtain⟨u,w',rfl,⟨t,rfl⟩,⟨t',rfl⟩⟩:=tQ r;refine max_two_ints (I.ok.hd hc) λh' tk k=>⟨_,H,I.kept k,?_,q⟩;by_cases hj:j>i
 .rw[if_pos hj,if_pos hj];exact⟨_,rfl⟩
 .rw[if_neg hj,if_neg hj];exact⟨_,rfl⟩
theorem nI (hc:X.calm=true):eZ X (.builtin "min") (λxs H Q=>∃i j,xs=[.int i,.int j]/\Q (.int (if j<i then j else i)) H):=by
 intro pins s σ H xs us Q I r h;obtain⟨i,j,rfl,q⟩:=h;obtain⟨u,w',rfl,⟨t,rfl⟩,⟨t',rfl⟩⟩:=tQ r;refine min_two_ints (I.ok.hd hc) λh' tk k=>⟨_,H,I.kept k,?_,q⟩;by_cases hj:j<i
 .rw[if_pos hj,if_pos hj];exact⟨_,rfl⟩
 .rw[if_neg hj,if_neg hj];exact⟨_,rfl⟩
theorem yH:eZ X (.type "str") (λxs H Q=>∃i,xs=[.int i]/\i.natAbs.log2<1920/\Q (.str (toString i)) H):=by
 intro pins s σ H xs us Q I r h;obtain⟨i,rfl,hz,q⟩:=h;obtain⟨u,rfl,t,rfl⟩:=jG r;exact PySem.P.str_of_int hz ⟨.str _,H,I.tok _,⟨_,rfl⟩,q⟩
end
end
section
structure ObjM (h:Heap) (x dx C:Addr) (mA:Str->Option Value):Prop where
 obj:h.get? x=some (PySem.W.instObj C dx)
 ns:h.Ns1 dx mA
 ne:dx≠x
theorem Df {mA:Str->Option Value} (n:h.Ns1 dx mA):∃od,h.get? dx=some od/\∀name,PySem.W.lookIn name od=some (mA name):=by
 obtain⟨o,es,ep,ho,hd,hk,_,hm⟩:=n;refine⟨o,ho,λname=>?_⟩;have e:=hm name;unfold nsFind findBy at e;rw[<-Array.find?_toList]at e;unfold PySem.W.lookIn;rw[hd];dsimp only;split
 .rename_i y q
  rw[q]at e;exact congrArg some e
 .rename_i q
  rw[q]at e;have a:es.toList.any (·.refKey)=false:=by
   rw[List.any_eq_false];intro y hy;obtain⟨z,t,hkey⟩:=hk y (Array.mem_toList_iff.mp hy);simp[DictEntry.refKey,hkey]
  have a':¬es.toList.any (·.refKey)=true:=by rw[a];exact Qi
  rw[if_neg a'];exact congrArg some e
theorem ObjM.look {x:Addr} {mA:Str->Option Value} (I:ObjM h x dx C mA):∃od,PySem.W.InstAt h x (PySem.W.instObj C dx) C (some od)/\∀name,PySem.W.lookIn name od=some (mA name):=
 let⟨od,ho,hl⟩:=Df I.ns
 ⟨od,⟨I.obj,rfl,rfl,ho⟩,hl⟩
section
variable {x:Addr} {mA:Str->Option Value} {v:Value}
theorem Hs {expr:Bool} (X:K.In s.heap) (I:ObjM s.heap x dx C mA) (hg:PySem.W.plainGet K C name=true) (hh:PySem.W.hasDictIn K C=true)
  (ha:PySem.W.findIn K (.ref C) name=some none) (hv:mA name=some v) (hv':PySem.W.handedIn v=true) (h:Q v {s with toks:=s.toks+1}):
  wpAny (model prog w) A (getAttr (.ref x) name expr) Q E s:=by
 obtain⟨od,J,hl⟩:=I.look;exact PySem.W.get_value X J (Xs hg).1 (PySem.W.findObj_own hh ha rfl (by rw[hl,hv])) hv' h
theorem Fn {pl:Sem Bool} {Q:Value×List Value->Shared->Prop} (X:K.In s.heap) (I:ObjM s.heap x dx C mA) (hg:PySem.W.plainGet K C name=true)
  (hf:PySem.W.findIn K (.ref C) name=some (some (.ref f))) (ht:PySem.W.isFn K (.ref f)=true) (hv:mA name=none) (h:Q (.ref f,[.ref x]) s):
  wpAny (model prog w) A (getMethod (.ref x) name pl) Q E s:=by
 obtain⟨od,J,hl⟩:=I.look;exact PySem.W.method_fn X J (Xs hg).1 (Xs hg).2 hf (beq_iff_eq.mp ht) (by show(PySem.W.lookIn name od).map (·.isSome)=some false;rw[hl,hv];rfl) h
theorem GO {ns:List Str} {Q:Unit->Shared->Prop} (X:K.In s.heap) (I:ObjM s.heap x dx C mA)
  (hs:PySem.W.findIn K (.ref C) "__setattr__"=some (some (.builtin "object.__setattr__"))) (hp:PySem.W.plainOver K C=true) (ht:PySem.W.takerIn K C name=some none) (hh:PySem.W.hasDictIn K C=true)
  (hw:PySem.Within mA ns) (hsz:ns.length<=sizeLine)
  (h:∀h',ObjM h' x dx C (λy=>if y=name then some v else mA y)->Heap.SameBut dx s.heap h'->Q () {s with heap:=h',toks:=s.toks+2}):
  wpAny (model prog w) A (setAttr (.ref x) name v) Q E s:=by
 obtain⟨od,J,hl⟩:=I.look;refine PySem.W.set_plain X J hs (PySem.W.osa_open (s:={s with toks:=s.toks+1}) (r:=none) X J hp ht λb=>?_);obtain⟨cd,hc,hd'⟩:=PySem.W.any_some hh;have hx:s.heap.get? x=some ⟨.ref C,some dx,.plain, #[]⟩:=I.obj;refine wpAny_bind (wpAny_pure (wpAny_bind (wpAny_bind (wpAny_loadPart hx (wpAny_bind (PySem.W.Looks.here (s:={s with toks:=s.toks+1}) (PySem.W.looks_clsIn X hc) ?_))))));rw[hd'];refine wpAny_pure (a:=some dx) (wpAny_bind (wpAny_pure (wpAny_bind ?_)));refine wpAny_nsSet1 (s:={s with toks:=s.toks+1}) I.ns λh' hn2 hs2=>?_;obtain⟨oD,esD,epD,hoD,hdD,hcD⟩:=hn2.count (PySem.Within.cons name v hw);refine wpAny_bind (wpAny_lookBehind hoD (by rw[hdD];exact pastItsLine_dict (QD hcD (by rw[Qp];lia))) ?_);exact wpAny_pure (h _ ⟨(hs2.2 _ (Ne.symm I.ne)).trans I.obj,hn2,I.ne⟩ hs2)
theorem EZ {vs:List Value} (X:K.In s.heap) (hm:PySem.W.makesIn K C=true)
  (hi:PySem.W.findIn K (.ref C) "__init__"=some (some (.ref f))) (hf:PySem.W.typeIn K (.ref f)=some (.type "function"))
  (h:codeAny (model prog w) (A.under (.builtin "type.__call__" ⟨.ref C::vs,kw⟩)) (.call (.ref f) ⟨.ref (s.heap.objs.size+1)::vs,kw⟩) (PySem.W.InitBack (s.heap.objs.size+1) R)
   {s with heap:=(s.heap.push PySem.W.emptyDict).push (PySem.W.instObj C s.heap.objs.size)}):
  codeAny (model prog w) A (.call (.ref C) ⟨vs,kw⟩) R s:=by
 obtain⟨hh,g,d,t,os⟩:=s;exact PySem.W.make_core (PySem.W.makes_of X hm) (PySem.W.looks_findIn X hi) (λself=>PySem.W.bind_fn X self hf) (.inl rfl) h
end
def a8 (f:Str) (v:V):List (Str×V)->List (Str×V)
 | []=> [(f,v)]
 |(g,x)::r=>if g=f then(g,v)::r else(g,x)::a8 f v r
theorem bi (f g:Str) (v:V):∀fs:List (Str×V),(a8 f v fs).lookup g=if g=f then some v else fs.lookup g
 | []=>by
  show List.lookup g [(f,v)]=_;by_cases h:g=f
  .have hb:(g==f)=true:=beq_iff_eq.mpr h;simp only[List.lookup,hb,if_pos h]
  .have hb:(g==f)=false:=beq_eq_false_iff_ne.mpr h;simp only[List.lookup,hb,if_neg h]
 |(k,x)::r=>by
  have ih:=bi f g v r;rw[show a8 f v ((k,x)::r)=(if k=f then(k,v)::r else(k,x)::a8 f v r) from rfl];by_cases hk:k=f
  .rw[if_pos hk];by_cases h:g=k
   .have hb:(g==k)=true:=beq_iff_eq.mpr h;simp only[List.lookup,hb,if_pos (h.trans hk)]
   .have hb:(g==k)=false:=beq_eq_false_iff_ne.mpr h;simp only[List.lookup,hb,if_neg (λe:g=f=>h (e.trans hk.symm))]
  .rw[if_neg hk];by_cases h:g=k
   .have hb:(g==k)=true:=beq_iff_eq.mpr h;simp only[List.lookup,hb,if_neg (λe:g=f=>hk (h.symm.trans e))]
   .have hb:(g==k)=false:=beq_eq_false_iff_ne.mpr h;simp only[List.lookup,hb];exact ih
theorem rG (f:Str) (v:V):∀fs:List (Str×V),f∈(a8 f v fs).map (·.1)/\∀g,g∈fs.map (·.1)->g∈(a8 f v fs).map (·.1)
 | []=>⟨by simp[a8],λg h=>by simp at h⟩
 |(k,x)::r=>by
  obtain⟨i1,i2⟩:=rG f v r;rw[show a8 f v ((k,x)::r)=(if k=f then(k,v)::r else(k,x)::a8 f v r) from rfl];by_cases hk:k=f
  .rw[if_pos hk];subst hk;exact⟨by simp,λg h=>by simpa using h⟩
  .rw[if_neg hk];refine⟨?_,λg h=>?_⟩
   .rw[Qs];exact Qd _ i1
   .rw[Qs]at h⊢;rcases Qg.mp h with e|e
    .exact Qg.mpr (.inl e)
    .exact Qd _ (i2 g e)
theorem r9 (f:Str) (v:V):∀fs:List (Str×V),(a8 f v fs).length<=fs.length+1
 | []=>by simp[a8]
 |(k,x)::r=>by
  have ih:=r9 f v r;rw[show a8 f v ((k,x)::r)=(if k=f then(k,v)::r else(k,x)::a8 f v r) from rfl];by_cases hk:k=f
  .rw[if_pos hk,Qp,Qp];lia
  .rw[if_neg hk,Qp,Qp];lia
theorem RelO.some_of (r:RelO (some v) o):∃u,o=some u/\RelV v u:=by
 cases o with
 |none=>exact(show False from r).elim
 |some u=>exact⟨u,rfl,r⟩
theorem RelO.none_of (r:RelO none o):o=none:=by
 cases o with
 |none=>rfl
 |some u=>exact(show False from r).elim
theorem Do (r:RelV v u):PySem.W.handedIn u=true:=by
 cases v with
 |non=>cases (show u=Value.none from r);rfl
 |bl b=>cases (show u=Value.bool b from r);rfl
 |int i=>obtain⟨t,e⟩:=(show ∃t,u=Value.int i t from r);cases e;rfl
 |str x=>obtain⟨t,e⟩:=(show ∃t,u=Value.str x t from r);cases e;rfl
 |byt b=>obtain⟨t,e⟩:=(show ∃t,u=Value.bytes b t from r);cases e;rfl
 |flt b=>obtain⟨t,e⟩:=(show ∃t,u=Value.float b t from r);cases e;rfl
 |ref a=>cases (show u=Value.ref a from r);rfl
 |ty n=>cases (show u=Value.type n from r);rfl
section
variable {fs fs':List (Str×V)}
theorem ins_get (hok:HOk P w H h) (e:H a=some (.ins C dx fs)):∃mA,ObjM h a dx C mA/\(∀f,RelO (fs.lookup f) (mA f))/\PySem.Within mA (fs.map (·.1))/\fs.length<=1000/\H dx=some (.own a):=by
 obtain⟨d,z,ne,ob,mA,n,r,q⟩:=(show ObjOk P w H h a (.ins C dx fs) from hok a _ e);exact⟨mA,⟨ob,n,ne⟩,r,q,z,d⟩
end
structure Cls (K:PySem.W.Frag) (C:Addr):Prop where
 pg:PySem.W.plainGet K C Str.empty=true
 hd:PySem.W.hasDictIn K C=true
 po:PySem.W.plainOver K C=true
 sa:PySem.W.findIn K (.ref C) "__setattr__"=some (some (.builtin "object.__setattr__"))
theorem Cls.get (c:Cls K C) (f:Str):PySem.W.plainGet K C f=true:=c.pg
def NoAttr (K:PySem.W.Frag) (C:Addr) (f:Str):Prop:=PySem.W.findIn K (.ref C) f=some none
theorem NoAttr.taker {f:Str} (n:NoAttr K C f):PySem.W.takerIn K C f=some none:=by
 unfold PySem.W.takerIn;rw[show PySem.W.findIn K (.ref C) f=some none from n];rfl
structure bI (K:PySem.W.Frag) (C:Addr) (m:Str) (f:Addr):Prop where
 at_:PySem.W.findIn K (.ref C) m=some (some (.ref f))
 fn:PySem.W.isFn K (.ref f)=true
 kp:PySem.W.keepIn K (.ref f)=true
section
variable {fs:List (Str×V)} {f:Str}
theorem u9 {b:Bool} (I:Inv X pins σ H s) (e:H a=some (.ins C dx fs)) (c:Cls X.K C) (n:NoAttr X.K C f) (l:fs.lookup f=some v)
  (h:∀u s',Inv X pins σ H s'->RelV v u->Q u s'):wpAny (model X.prog X.w) A (getAttr (.ref a) f b) Q E s:=by
 obtain⟨mA,O,r,_,_,_⟩:=ins_get I.hok e;obtain⟨u,hu,ru⟩:=RelO.some_of (v:=v) (o:=mA f) (by rw[<-l];exact r f);exact Hs I.kIn O (c.get f) c.hd n hu (Do ru) (h u _ (I.tok _) ru)
theorem iy {g:Addr} {pl:Sem Bool} {Q:Value×List Value->Shared->Prop} (I:Inv X pins σ H s) (e:H a=some (.ins C dx fs)) (c:Cls X.K C) (k:bI X.K C m g) (l:fs.lookup m=none)
  (h:Q (.ref g,[.ref a]) s):wpAny (model X.prog X.w) A (getMethod (.ref a) m pl) Q E s:=by
 obtain⟨mA,O,r,_,_,_⟩:=ins_get I.hok e;have hn:mA m=none:=RelO.none_of (by rw[<-l];exact r m);exact Fn I.kIn O (c.get m) k.at_ k.fn hn h
theorem ui {Q:Unit->Shared->Prop} (I:Inv X pins σ H s) (e:H a=some (.ins C dx fs)) (c:Cls X.K C) (n:NoAttr X.K C f) (hl:fs.length<1000) (ry:RelV y u)
  (h:∀s',Inv X pins σ (upd H a (.ins C dx (a8 f y fs))) s'->Q () s'):wpAny (model X.prog X.w) A (setAttr (.ref a) f u) Q E s:=by
 obtain⟨mA,O,r,wi,_,ho⟩:=ins_get I.hok e;have hz:(fs.map (·.1)).length<=sizeLine:=by rw[Q0,sizeLine_eq];lia
 refine GO I.kIn O c.sa c.po n.taker c.hd wi hz λh' O' sb=>h _ ?_;have hd:∃o,h'.get? dx=some o:=let⟨o,_,_,e',_⟩:=O'.ns;⟨o,e'⟩
 refine I.write (x:=a) (e:=dx) (by rw[e];exact True.intro) (.inr ho) (λb q hb z=>(sb.2 b hb).trans z) hd ?_;refine⟨by rw[af O.ne];exact ho,?_,O.ne,O'.obj,_,O'.ns,λg=>?_,λg hg=>?_⟩
 .have:=r9 f y fs;lia
 .show RelO ((a8 f y fs).lookup g) (if g=f then some u else mA g);rw[bi];by_cases q:g=f
  .rw[if_pos q,if_pos q];exact ry
  .rw[if_neg q,if_neg q];exact r g
 .by_cases q:g=f
  .rw[q];exact(rG f y fs).1
  .refine(rG f y fs).2 g (wi g λz=>hg ?_);show(if g=f then some u else mA g)=none;rw[if_neg q];exact z
theorem Inv.made (I:Inv X pins σ H s):Inv X pins σ (upd (upd H s.heap.objs.size (.own (s.heap.objs.size+1))) (s.heap.objs.size+1) (.ins C s.heap.objs.size []))
  {s with heap:=(s.heap.push PySem.W.emptyDict).push (PySem.W.instObj C s.heap.objs.size)}:=by
 have e1:(s.heap.push PySem.W.emptyDict).get? s.heap.objs.size=some PySem.W.emptyDict:=Heap.get?_push_size s.heap rfl;have e2:((s.heap.push PySem.W.emptyDict).push (PySem.W.instObj C s.heap.objs.size)).get? (s.heap.objs.size+1)=some (PySem.W.instObj C s.heap.objs.size):=by
  have:=Heap.get?_push_size (s.heap.push PySem.W.emptyDict) (o:=PySem.W.instObj C s.heap.objs.size) rfl;rwa [Heap.size_push]at this
 have e3:(s.heap.push PySem.W.emptyDict).Ns s.heap.objs.size (λ_=>none):=⟨PySem.W.emptyDict, #[],_,e1,rfl,(λe he=>absurd he (by simp)),λ_=>rfl⟩;have I1:=I.laid (a:=s.heap.objs.size) (o:= .own (s.heap.objs.size+1)) (h':=s.heap.push PySem.W.emptyDict) (t':=s.toks) (λb u q=>Heap.get?_push_of_some _ q) (Q4 _) ⟨_,e1⟩;refine I1.laid (a:=s.heap.objs.size+1) (o:= .ins C s.heap.objs.size []) (t':=s.toks) (λb u q=>Heap.get?_push_of_some _ q) (Zr (Heap.size_push _ _)) ?_;have ne:s.heap.objs.size≠s.heap.objs.size+1:=QC (Zx _);refine⟨by rw[af ne,ae],Qj _,ne,e2,λ_=>none,(Heap.Ns1.of_empty e3).at λo q=>Heap.get?_push_of_some _ q,λ_=>True.intro,λy hy=>absurd rfl hy⟩
theorem HJ {env:Env} {f:Str} (hb:attributeBase e f env (eval e env)=eval e env)
  (h:wpAny (model prog w) A (eval e env) (λo s₁=>wpAny (model prog w) A (getAttr o f true) Q E s₁) E s):wpAny (model prog w) A (eval (.Attribute e f pos) env) Q E s:=
 Attribute_any_ h (by rw[arm_eval_Attribute,hb])
end
def tFld (K:PySem.W.Frag) (ta:TE) (f:Str):TE:=λσ H Q=>ta σ H λx H1=>∃a C dx fs v,x= .ref a/\H1 a=some (.ins C dx fs)/\Cls K C/\NoAttr K C f/\fs.lookup f=some v/\Q v H1
def sFld (K:PySem.W.Frag) (ta tv:TE) (f:Str):TS:=λD σ H=>tv σ H λy H1=>ta σ H1 λx H2=>∃a C dx fs,x= .ref a/\H2 a=some (.ins C dx fs)/\Cls K C/\NoAttr K C f/\fs.length<1000/\
 D.nx σ (upd H2 a (.ins C dx (a8 f y fs)))
def JT (X:Cx) (op:Operator) (rd:V->V->Hp->VK->Prop):Prop:=
 ∀(pins:List (Addr×Obj)) (s:Shared) (σ:St) (H:Hp) (x y:V) (u v:Value) (Q:VK),Inv X pins σ H s->RelV x u->RelV y v->rd x y H Q->wpAny (model X.prog X.w) X.A (inplaceOp op u v) (EP X pins σ Q) X.xe s
def GP (K:PySem.W.Frag) (ta tv:TE) (rd:V->V->Hp->VK->Prop) (f:Str):TS:=λD σ H=>ta σ H λx H1=>∃a C dx fs v,x= .ref a/\H1 a=some (.ins C dx fs)/\Cls K C/\NoAttr K C f/\fs.lookup f=some v/\
 tv σ H1 λy H2=>rd v y H2 λz H3=>∃dx' fs',H3 a=some (.ins C dx' fs')/\fs'.length<1000/\D.nx σ (upd H3 a (.ins C dx' (a8 f z fs')))
section
variable {o value:Expr} {f:Str} {tpos:Pos} {tv:TE}
theorem au (he:PE X e ta) (hb:attributeBase e f X.env (eval e X.env)=eval e X.env):PE X (.Attribute e f pos) (tFld X.K ta f):=by
 intro pins s σ H Q I h;refine HJ hb (thn (he pins s σ H _ I h) λu s1 hzz=>?_);obtain⟨x,H1,I1,rx,a,C,dx,fs,v,ex,ea,c,n,l,q⟩:=hzz;subst ex;obtain rfl:u=Value.ref a:=rx;exact u9 I1 ea c n l λu' s2 I2 ru=>⟨v,H1,I2,ru,q⟩
theorem a9 (ha:PE X o ta) (hv:PE X value tv) (hs:swapsWith value (some (.Attribute o f pos')) pos.line X.env=pure false):PS X (.Assign [.Attribute o f pos'] value pos) (sFld X.K ta tv f):=by
 intro pins s σ H D I h;refine plainObj_wpAny_Assign_Attribute (thn (hv pins s σ H _ I h) λu s1 ⟨y,H1,I1,ry,q⟩=>thn (ha pins s1 σ H1 _ I1 q) λov s2 hzz=>?_) hs;obtain⟨x,H2,I2,rx,a,C,dx,fs,ex,ea,c,n,l,q2⟩:=hzz;subst ex;obtain rfl:ov=Value.ref a:=rx;exact ui I2 ea c n l ry λs3 I3=>⟨σ,_,I3,q2⟩
theorem gO {op:Operator} (ha:PE X o ta) (hv:PE X value tv) (hop:JT X op rd):PS X (.AugAssign (.Attribute o f tpos) op value pos) (GP X.K ta tv rd f):=by
 intro pins s σ H D I h;refine wpAny_AugAssign_AttributeAny (thn (ha pins s σ H _ I h) λov s1 hzz=>?_);obtain⟨x,H1,I1,rx,a,C,dx,fs,v,ex,ea,c,n,l,q⟩:=hzz;subst ex;obtain rfl:ov=Value.ref a:=rx;refine u9 I1 ea c n l λu s2 I2 ru=>thn (hv pins s2 σ H1 _ I2 q) λw3 s3 ⟨y,H2,I3,ry,q3⟩=>thn (hop pins s3 σ H2 v y u w3 _ I3 ru ry q3) λw4 s4 hzz=>?_;obtain⟨z,H3,I4,rz,dx',fs',ea',l',q4⟩:=hzz;exact ui I4 ea' c n l' rz λs5 I5=>⟨σ,_,I5,q4⟩
def rAdd:V->V->Hp->VK->Prop:=λx y H Q=>∃i j,x= .int i/\y= .int j/\Q (.int (i+j)) H
def rSub:V->V->Hp->VK->Prop:=λx y H Q=>∃i j,x= .int i/\y= .int j/\Q (.int (i-j)) H
theorem u7:JT X .Add rAdd:=by
 rintro pins s σ H x y u v Q I rx ry ⟨i,j,rfl,rfl,q⟩;obtain⟨t,rfl⟩:=(show ∃t,u=Value.int i t from rx);obtain⟨t',rfl⟩:=(show ∃t',v=Value.int j t' from ry);exact PyProof.Rows.iadd_int ⟨.int (i+j),H,I.tok _,⟨_,rfl⟩,q⟩
theorem Jy:JT X .Sub rSub:=by
 rintro pins s σ H x y u v Q I rx ry ⟨i,j,rfl,rfl,q⟩;obtain⟨t,rfl⟩:=(show ∃t,u=Value.int i t from rx);obtain⟨t',rfl⟩:=(show ∃t',v=Value.int j t' from ry);exact PyProof.Rows.isub_int ⟨.int (i-j),H,I.tok _,⟨_,rfl⟩,q⟩
theorem Il {pl:Sem Bool} {apos:Pos} {args:List Expr} (he:PE X e te) (I:Inv X pins σ H s)
  (h:te σ H λx H1=>∃a C dx fs g,x= .ref a/\H1 a=some (.ins C dx fs)/\Cls X.K C/\bI X.K C m g/\fs.lookup m=none/\
   ∀s1,Inv X pins σ H1 s1->wpAny (model X.prog X.w) X.A (callWith pos (.ref g) [.ref a] (backTo pos (starEach args X.env)) (backToKw pos (keywordEach [] X.env))) Q X.xe s1)
  (ht:eval (.Call (.Attribute e m apos) args [] pos) X.env=(do
   let ov<-eval e X.env
   standAt apos.atName
   let(f,first)<-holding [ov] (getMethod ov m pl)
   callWith pos f first (backTo pos (starEach args X.env)) (backToKw pos (keywordEach [] X.env)))):
  wpAny (model X.prog X.w) X.A (eval (.Call (.Attribute e m apos) args [] pos) X.env) Q X.xe s:=by
 refine Zl (pl:=pl) (thn (he pins s σ H _ I h) λu s1 hzz=>?_) ht;obtain⟨x,H1,I1,rx,a,C,dx,fs,g,ex,ea,c,k,l,q⟩:=hzz;subst ex;obtain rfl:u=Value.ref a:=rx;exact iy I1 ea c k l (q s1 I1)
end
section
variable {c:Value} {b:Bool}
inductive TyOf (K:PySem.W.Frag) (H:Hp):V->Value->Prop where
 |non:TyOf K H .non (.type "NoneType")
 |bl (x:Bool):TyOf K H (.bl x) (.type "bool")
 |int (i:Int):TyOf K H (.int i) (.type "int")
 |str (x:Str):TyOf K H (.str x) (.type "str")
 |flt (x:UInt64):TyOf K H (.flt x) (.type "float")
 |lst {a:Addr} {xs:List V} (e:H a=some (.lst xs)):TyOf K H (.ref a) (.type "list")
 |frz {a:Addr} {o:Obj} {xs:List V} (e:H a=some (.frz o (.lst xs))):TyOf K H (.ref a) (.type "list")
 |tup {a:Addr} {xs:List V} (e:H a=some (.tup xs)):TyOf K H (.ref a) (.type "tuple")
 |dK {a:Addr} {kvs:List (Key×V)} (e:H a=some (.dK kvs)):TyOf K H (.ref a) (.type "dict")
 |dT {a:Addr} {kvs:List (List Key×V)} (e:H a=some (.dT kvs)):TyOf K H (.ref a) (.type "dict")
 |ins {a C dx:Addr} {fs:List (Str×V)} (e:H a=some (.ins C dx fs)) (cl:Cls K C) (ha:PySem.W.findIn K (.ref C) "__class__"=some (some (.builtin "object.__class__")))
   (hn:PySem.W.specialIn K (.builtin "object.__class__") "__get__"=some (some (.builtin "getset_descriptor.__get__"))) (htk:PySem.W.takesIn K (.builtin "object.__class__")=some true)
   (hm:PySem.W.mroIn K C (.type "object")=some true):TyOf K H (.ref a) (.ref C)
theorem xp {x:V} {t:Value} (I:Inv X pins σ H s) (rx:RelV x u) (ty:TyOf X.K H x t) (e:PySem.W.kitOne X.K t c=some b) (h:∀tk,Q (.bool b) {s with toks:=tk}):
  wpAny (model X.prog X.w) A (call (.builtin "isinstance") [u,c]) Q E s:=by
 cases ty with
 |non=>cases (show u=Value.none from rx);exact QX PySem.W.kitx_none I.kIn True.intro e (λz=>nomatch z) h
 |bl y=>cases (show u=Value.bool y from rx);exact QX PySem.W.kitx_bool I.kIn True.intro e (λz=>nomatch z) h
 |int i=>obtain⟨t,q⟩:=(show ∃t,u=Value.int i t from rx);cases q;exact QX PySem.W.kitx_int I.kIn True.intro e (λz=>nomatch z) h
 |str y=>obtain⟨t,q⟩:=(show ∃t,u=Value.str y t from rx);cases q;exact QX PySem.W.kitx_str I.kIn True.intro e (λz=>nomatch z) h
 |flt y=>obtain⟨t,q⟩:=(show ∃t,u=Value.float y t from rx);cases q;exact QX PySem.W.kitx_float I.kIn True.intro e (λz=>nomatch z) h
 | @lst a xs ea=>
  cases (show u=Value.ref a from rx);obtain⟨_,_,n,_,h1⟩:=(show ObjOk X.prog X.w H s.heap a (.lst xs) from I.hok a _ ea);exact QX PySem.W.kitx_list I.kIn ⟨_,h1,rfl⟩ e (λz=>nomatch z) h
 | @frz a ob xs ea=>
  cases (show u=Value.ref a from rx);obtain⟨_,_,_,n,_,h1⟩:=(show ObjOk X.prog X.w H s.heap a (.frz ob (.lst xs)) from I.hok a _ ea);exact QX PySem.W.kitx_list I.kIn ⟨_,h1,rfl⟩ e (λz=>nomatch z) h
 | @tup a xs ea=>
  cases (show u=Value.ref a from rx);obtain⟨_,_,_,p⟩:=(show ObjOk X.prog X.w H s.heap a (.tup xs) from I.hok a _ ea);obtain⟨o,h1,h2,_⟩:=p;exact QX PySem.W.kitx_tuple I.kIn ⟨o,h1,h2⟩ e (λz=>nomatch z) h
 | @dK a kvs ea=>
  cases (show u=Value.ref a from rx);obtain⟨_,_,vs,_,p⟩:=(show ObjOk X.prog X.w H s.heap a (.dK kvs) from I.hok a _ ea);obtain⟨o,es,ep,h1,h2,_⟩:=p;exact QX PySem.W.kitx_dict I.kIn ⟨o,h1,h2.1⟩ e (λz=>nomatch z) h
 | @dT a kvs ea=>
  cases (show u=Value.ref a from rx);obtain⟨_,_,xs,_,o,es,ep,h1,h2,_⟩:=(show ObjOk X.prog X.w H s.heap a (.dT kvs) from I.hok a _ ea);exact QX PySem.W.kitx_dict I.kIn ⟨o,h1,h2.1⟩ e (λz=>nomatch z) h
 | @ins a C dx fs ea cl ha hn htk hm=>
  cases (show u=Value.ref a from rx);obtain⟨mA,O,_⟩:=ins_get I.hok ea;obtain⟨od,J,_⟩:=O.look;exact QX (PySem.W.kitx_own (cl.get _) cl.hd ha hn htk hm) I.kIn J e (λz=>nomatch z) h
end
end
section
structure Room (k:Nat) (A:Around):Prop where
 hd:A.handled=none
 dp:A.depth+3*k+5<recursionLimit
 un:A.units+16*k+200<cLine
theorem Room.mono {k:Nat} (r:Room k A) (h:j<=k):Room j A:=⟨r.hd,by have:=r.dp;lia,by have:=r.un;lia⟩
theorem Room.deeper {k:Nat} (r:Room (k+1) A) (env:Env):Room k (A.deeper env):=
 ⟨r.hd,by have:=r.dp;show A.depth+1+3*k+5<_;lia,by have:=r.un;show A.units+3+16*k+200<_;lia⟩
theorem Bo:(A.under (.builtin "type.__call__" ⟨.ref C::us,kw⟩)).depth=A.depth+1:=by
 first|rfl|simp[Around.under,Code.weight,Code.isCreation,Code.isGuard,Code.isCaller,Code.frames,Code.isFrame,guardIds]
theorem Bn:(A.under (.builtin "type.__call__" ⟨.ref C::us,kw⟩)).units=A.units+1:=by
 first|rfl|simp[Around.under,Code.cUnits,Code.frames,Code.isFrame]
theorem Room.make {k:Nat} (r:Room (k+1) A) (C:Addr) (us:List Value) (kw:List (Str×Value)):Room k (A.under (.builtin "type.__call__" ⟨.ref C::us,kw⟩)):=
 ⟨r.hd,by have:=r.dp;rw[Bo];lia,by have:=r.un;rw[Bn];lia⟩
theorem Room.depth {k:Nat} (r:Room k A):A.depth<recursionLimit:=by have:=r.dp;lia
theorem Room.units {k:Nat} (r:Room k A):A.units+64<cLine:=by have:=r.un;lia
def GK:TA:=λ_ H Q=>Q [] H
def Kf (ta:TE) (tr:TA):TA:=λσ H Q=>ta σ H λx H1=>tr σ H1 λxs H2=>Q (x::xs) H2
section
variable {t:TA}
theorem ah:PA X [] GK:=λ_ _ _ _ H Q I h=>Calls.spliced_nil ⟨[],H,I,.nil,h⟩
theorem aa (ha:PE X e te) (hr:PA X es t) (hs:starEach (e::es) X.env=(false,eval e X.env)::starEach es X.env:=by rfl):PA X (e::es) (Kf te t):=by
 intro pos pins s σ H Q I h;rw[hs];show wpAny _ _ (spliced ((false,eval e X.env)::backTo pos (starEach es X.env))) _ _ s;refine Calls.spliced_cons (thn (ha pins s σ H _ I h) λu s1 hzz=>?_);obtain⟨x,H1,I1,r1,q1⟩:=hzz;exact thn (hr pos pins s1 σ H1 _ I1 q1) λus s2 ⟨xs,H2,I2,r2,q2⟩=>⟨x::xs,H2,I2,.cons r1 r2,q2⟩
def tTup (t:TA):TE:=λσ H Q=>t σ H λxs H1=>xs.length<=sizeLine/\∀p,H1 p=none->Q (.ref p) (upd H1 p (.tup xs))
def tLst (t:TA):TE:=λσ H Q=>t σ H λxs H1=>xs.length<=sizeLine/\∀p,H1 p=none->Q (.ref p) (upd H1 p (.lst xs))
theorem bz {x1} (h:PA X es t):PE X (.Tuple es x1 pos) (tTup t):=by
 intro pins s σ H Q I hq;refine wpAny_Tuple_spliced (thn (h pos pins s σ H _ I hq) λus s1 ⟨xs,H1,I1,r,z,q⟩=>⟨by rw[<-r.length];exact z,?_⟩);have hf:H1 s1.heap.objs.size=none:=I1.hok.fresh (Q4 _);refine⟨.ref s1.heap.objs.size,upd H1 s1.heap.objs.size (.tup xs),I1.laid (t':=s1.toks) (λb u e=>Heap.get?_push_of_some _ e) (Q4 _) ?_,rfl,q _ hf⟩;exact⟨z,us,r,⟨_,Heap.get?_push_size _ rfl,rfl,_,rfl⟩⟩
theorem bR (h:PA X es t):PE X (.List es pos) (tLst t):=by
 intro pins s σ H Q I hq;refine wpAny_List_spliced (thn (h pos pins s σ H _ I hq) λus s1 ⟨xs,H1,I1,r,z,q⟩=>⟨by rw[<-r.length];exact z,?_⟩);have hf:H1 s1.heap.objs.size=none:=I1.hok.fresh (Q4 _);refine⟨.ref s1.heap.objs.size,upd H1 s1.heap.objs.size (.lst xs),I1.laid (t':=s1.toks) (λb u e=>Heap.get?_push_of_some _ e) (Q4 _) ?_,rfl,q _ hf⟩;exact⟨z,us,0,r,Heap.get?_push_size _ rfl⟩
end
abbrev Sp:=List V->Hp->VK->XK->Prop
abbrev CXT:=List Env->Hp->Shared->XK->Value->Shared->Prop
structure Env0 (P:Program) (w:World) (K:PySem.W.Frag) (mg:Str->Option Value) (base:Heap) (A:Around) (outer:List Env) (s:Shared) (H:Hp):Prop where
 frames:A.frames=some outer
 mod:Mod K mg base
 bs:∀b o,base.get? b=some o->s.heap.get? b=some o/\H b=none
 bsz:base.objs.size<=s.heap.objs.size
 funs:s.heap.FunFrames base outer
 frf:∀b∈frs outer,H b=none
 hok:HOk P w H s.heap
 bare:AllBare s.gens
def CE (outer:List Env) (P:Program) (w:World) (H:Hp) (s:Shared) (Q:VK) (u:Value) (s':Shared):Prop:=
 ∃v H',s'.os=s.os/\AllBare s'.gens/\Un (frs outer) [] H H' s.heap s'.heap/\HOk P w H' s'.heap/\RelV v u/\Q v H'
def CR (CX:CXT) (outer:List Env) (P:Program) (w:World) (H:Hp) (s:Shared) (Q:VK) (E:XK) (r:Result) (s':Shared):Prop:=
 match r with
 | .ok (.ret u)=>CE outer P w H s Q u s'
 | .ok _=>False
 | .error e=>CX outer H s E e s'
structure FnOk (P:Program) (w:World) (K:PySem.W.Frag) (mg:Str->Option Value) (base:Heap) (CX:CXT) (k:Nat) (f:Addr) (fd:FuncData) (ps:List Str) (sp:Sp):Prop where
 len:∀vs H Q E,sp vs H Q E->vs.length=ps.length
 run:∀(A:Around) (outer:List Env) (s:Shared) (H:Hp) (args:Args) (us:List Value) (vs:List V) (Q:VK) (E:XK),Room k A->Env0 P w K mg base A outer s H->BindsTo s fd args (ps.zip us)->Vals vs us->sp vs H Q E->
  codeAny (model P w) A (.call (.ref f) args) (CR CX outer P w H s Q E) s
theorem FnOk.mono {mg:Str->Option Value} {k:Nat} (F:FnOk P w K mg base CX j f fd ps sp) (h:j<=k):
  FnOk P w K mg base CX k f fd ps sp:=⟨F.len,λA outer s H args us vs Q E hr=>F.run A outer s H args us vs Q E (hr.mono h)⟩
theorem Env0.make {mg:Str->Option Value} (e:Env0 P w K mg base A outer s H) (C:Addr) (us:List Value) (kw:List (Str×Value)):
  Env0 P w K mg base (A.under (.builtin "type.__call__" ⟨.ref C::us,kw⟩)) outer s H:=⟨by first|exact e.frames|(simpa[Around.under,Code.envs,Code.isFrame,pushEnvs]using e.frames),e.mod,e.bs,e.bsz,e.funs,e.frf,e.hok,e.bare⟩
section
theorem Inv.env0 (I:Inv X pins σ H s):Env0 X.prog X.w X.K X.mg X.base X.A X.stack s H:=
 ⟨I.ok.frames,I.ok.mod,I.bs,QD I.ok.bsz I.sz,I.stack,I.stkFree,I.hok,I.bare⟩
theorem Inv.after {Q:VK} (I:Inv X pins σ H s) (h:CE X.stack X.prog X.w H s Q u s'):EP X pins σ Q u s':=by
 obtain⟨v,H',os,bare,un,hok,r,q⟩:=h;obtain⟨hh,g,d,t,os'⟩:=s';obtain rfl:os'=s.os:=os;exact⟨v,H',I.call (h':=hh) (g':=g) (d':=d) (t':=t) (ch:=[]) un hok bare (λb z=>absurd z (by simp)),r,q⟩
end
def Ia (sp:Sp) (dvs:List V) (E:XK) (t:TA):TE:=λσ H Q=>t σ H λvs H1=>sp (vs++dvs) H1 Q E
def HY (C:Addr) (m:Str) (sp:Sp) (dvs:List V) (E:XK) (ta:TE) (t:TA):TE:=λσ H Q=>ta σ H λx H1=>∃a dx fs,x= .ref a/\H1 a=some (.ins C dx fs)/\fs.lookup m=none/\
 t σ H1 λvs H2=>sp (x::(vs++dvs)) H2 Q E
def HZ (C:Addr) (sp:Sp) (dvs:List V) (E:XK) (t:TA):TE:=λσ H Q=>t σ H λvs H1=>∀x dx,H1 x=none->H1 dx=none->dx≠x->
 sp (.ref x::(vs++dvs)) (upd (upd H1 dx (.own x)) x (.ins C dx [])) (λv H2=>v= .non/\Q (.ref x) H2) E
def Binds (K:PySem.W.Frag) (fd:FuncData) (ps:List Str) (ds:List Value):Prop:=
 ∀(s:Shared) (us:List Value),K.In s.heap->(us++ds).length=ps.length->BindsTo s fd ⟨us,[]⟩ (ps.zip (us++ds))
theorem Binds.all (h:∀us:List Value,us.length=ps.length->bindArgs fd ⟨us,[]⟩=pure (ps.zip us)):Binds K fd ps []:=λs us _ hl=>by
 rw[ZL]at hl⊢;exact .of_eq (h us hl)
def kR (CX:CXT) (X:Cx) (E:XK):Prop:=∀(pins:List (Addr×Obj)) (σ:St) (H:Hp) (s:Shared) (e:Value) (s':Shared),Inv X pins σ H s->CX X.stack H s E e s'->X.xe e s'
section
variable {k:Nat} {dvs:List V} {ds:List Value} {E:XK} {apos:Pos} {o:Expr} {t:TA}
theorem qZ {Q:VK} (F:FnOk X.prog X.w X.K X.mg X.base CX k f fd ps sp) (hr:Room k X.A) (hb:Binds X.K fd ps ds) (hd:Vals dvs ds) (hx:kR CX X E)
  (I:Inv X pins σ H s) (r:Vals vs us) (h:sp (vs++dvs) H Q E):wpAny (model X.prog X.w) X.A (call (.ref f) us) (EP X pins σ Q) X.xe s:=by
 have r2:Vals (vs++dvs) (us++ds):=r.append hd;have hl:(us++ds).length=ps.length:=by rw[<-r2.length];exact F.len _ _ _ _ h
 refine wpAny_call (codeAny_mono (F.run X.A X.stack s H ⟨us,[]⟩ (us++ds) (vs++dvs) Q E hr I.env0 (hb s us I.kIn hl) r2 h) λr s' hq=>?_);cases r with
 |error e=>exact hx pins σ H s e s' I hq
 |ok fl=>
  cases fl with
  |ret u=>exact I.after hq
  |next=>exact False.elim hq
  |brk=>exact False.elim hq
  |cont=>exact False.elim hq
theorem aM (F:FnOk X.prog X.w X.K X.mg X.base CX k f fd ps sp) (hr:Room k X.A) (hg:Gl X x) (hm:X.mg x=some (.ref f)) (hk:PySem.W.keepIn X.K (.ref f)=true) (hb:Binds X.K fd ps ds) (hd:Vals dvs ds) (hx:kR CX X E)
  (ha:PA X (e::es) t) (hdb:(x==("__debug__":Str))=false:=by decide) (he:starEach (e::es) X.env=(false,eval e X.env)::starEach es X.env:=by rfl) (hpl:(backTo pos (starEach es X.env)).any (·.1)=false:=by rfl):
  PE X (.Call (.Name x p) (e::es) [] pos) (Ia sp dvs E t):=by
 intro pins s σ H Q I h;refine wpAny_Call_Name_kw (qa I hg hm ?_ hdb);refine ZO (h₀:=X.base) I.ok.mod.kin hk (thn (ha pos pins s σ H _ I h) λus s1 ⟨vs,H1,I1,r,q⟩=>⟨I1.kIn,?_⟩) he hpl;exact qZ F hr hb hd hx I1 r q
theorem aQ {pl:Sem Bool} (he:PE X o ta) (c:Cls X.K C) (hm:bI X.K C m f) (F:FnOk X.prog X.w X.K X.mg X.base CX k f fd ps sp) (hr:Room k X.A) (hb:Binds X.K fd ps ds) (hd:Vals dvs ds) (hx:kR CX X E) (ha:PA X (e::es) t)
  (hst:starEach (e::es) X.env=(false,eval e X.env)::starEach es X.env:=by rfl) (hpl:(backTo pos (starEach es X.env)).any (·.1)=false:=by rfl)
  (ht:eval (.Call (.Attribute o m apos) (e::es) [] pos) X.env=(do
   let ov<-eval o X.env
   standAt apos.atName
   let(f,first)<-holding [ov] (getMethod ov m pl)
   callWith pos f first (backTo pos (starEach (e::es) X.env)) (backToKw pos (keywordEach [] X.env))):=by rfl):
  PE X (.Call (.Attribute o m apos) (e::es) [] pos) (HY C m sp dvs E ta t):=by
 intro pins s σ H Q I h;refine Zl (pl:=pl) (thn (he pins s σ H _ I h) λu s1 hzz=>?_) ht;obtain⟨x,H1,I1,rx,a,dx,fs,ex,ea,l,q⟩:=hzz;subst ex;obtain rfl:u=Value.ref a:=rx;refine iy I1 ea c hm l ?_;refine ZO (first:=[.ref a]) (h₀:=X.base) I.ok.mod.kin hm.kp (thn (ha pos pins s1 σ H1 _ I1 q) λus s2 ⟨vs,H2,I2,r,q2⟩=>⟨I2.kIn,?_⟩) hst hpl;exact qZ (us:= .ref a::us) (vs:= .ref a::vs) F hr hb hd hx I2 (.cons rfl r) q2
theorem bu {pl:Sem Bool} (he:PE X o ta) (c:Cls X.K C) (hm:bI X.K C m f) (F:FnOk X.prog X.w X.K X.mg X.base CX k f fd ps sp) (hr:Room k X.A) (hb:Binds X.K fd ps ds) (hd:Vals dvs ds) (hx:kR CX X E)
  (ht:eval (.Call (.Attribute o m apos) [] [] pos) X.env=(do
   let ov<-eval o X.env
   standAt apos.atName
   let(f,first)<-holding [ov] (getMethod ov m pl)
   callWith pos f first (backTo pos (starEach [] X.env)) (backToKw pos (keywordEach [] X.env))):=by rfl):
  PE X (.Call (.Attribute o m apos) [] [] pos) (HY C m sp dvs E ta GK):=by
 intro pins s σ H Q I h;refine Zl (pl:=pl) (thn (he pins s σ H _ I h) λu s1 hzz=>?_) ht;obtain⟨x,H1,I1,rx,a,dx,fs,ex,ea,l,q⟩:=hzz;subst ex;obtain rfl:u=Value.ref a:=rx;refine iy I1 ea c hm l ?_;exact Xu (first:=[.ref a]) I1.kIn hm.kp (qZ (us:=[.ref a]) (vs:=[.ref a]) F hr hb hd hx I1 (.cons rfl .nil) q)
structure Mk (K:PySem.W.Frag) (C f:Addr):Prop where
 makes:PySem.W.makesIn K C=true
 init:PySem.W.findIn K (.ref C) "__init__"=some (some (.ref f))
 fn:PySem.W.isFn K (.ref f)=true
 kp:PySem.W.keepIn K (.ref C)=true
theorem zq {Q:VK} (M:Mk X.K C f) (F:FnOk X.prog X.w X.K X.mg X.base CX k f fd ps sp) (hr:Room (k+1) X.A) (hb:Binds X.K fd ps ds) (hd:Vals dvs ds)
  (hx:kR CX X E) (I:Inv X pins σ H s) (r:Vals vs us)
  (h:∀x dx,H x=none->H dx=none->dx≠x->sp (.ref x::(vs++dvs)) (upd (upd H dx (.own x)) x (.ins C dx [])) (λv H2=>v= .non/\Q (.ref x) H2) E):
  wpAny (model X.prog X.w) X.A (call (.ref C) us) (EP X pins σ Q) X.xe s:=by
 have hq:=h (s.heap.objs.size+1) s.heap.objs.size (I.hok.fresh (Zy _)) (I.hok.fresh (Q4 _)) (QC (Zx _));have I2:=Inv.made (C:=C) I;have r2:Vals (V.ref (s.heap.objs.size+1)::(vs++dvs)) (Value.ref (s.heap.objs.size+1)::(us++ds)):= .cons rfl (r.append hd);have hl:(Value.ref (s.heap.objs.size+1)::us++ds).length=ps.length:=by
  have e:=r2.length;rw[F.len _ _ _ _ hq]at e;exact e.symm
 refine wpAny_call (EZ (f:=f) I.kIn M.makes M.init (beq_iff_eq.mp M.fn) (codeAny_mono (F.run _ X.stack _ _ ⟨Value.ref (s.heap.objs.size+1)::us,[]⟩ (Value.ref (s.heap.objs.size+1)::(us++ds)) _ _ E (hr.make C us [])
  (I2.env0.make C us []) (hb _ (Value.ref (s.heap.objs.size+1)::us) I2.kIn hl) r2 hq) λr s' hq'=>?_))
 cases r with
 |error e=>exact hx pins σ _ _ e s' I2 hq'
 |ok fl=>
  cases fl with
  |ret u=>
   obtain⟨v,H',I3,rv,ev,q3⟩:=I2.after hq';subst ev;exact⟨rv,⟨V.ref (s.heap.objs.size+1),H',I3,rfl,q3⟩⟩
  |next=>exact False.elim hq'
  |brk=>exact False.elim hq'
  |cont=>exact False.elim hq'
theorem iS (M:Mk X.K C f) (F:FnOk X.prog X.w X.K X.mg X.base CX k f fd ps sp) (hr:Room (k+1) X.A) (hg:Gl X x) (hm:X.mg x=some (.ref C)) (hb:Binds X.K fd ps ds) (hd:Vals dvs ds) (hx:kR CX X E)
  (ha:PA X (e::es) t) (hdb:(x==("__debug__":Str))=false:=by decide) (he:starEach (e::es) X.env=(false,eval e X.env)::starEach es X.env:=by rfl) (hpl:(backTo pos (starEach es X.env)).any (·.1)=false:=by rfl):
  PE X (.Call (.Name x p) (e::es) [] pos) (HZ C sp dvs E t):=by
 intro pins s σ H Q I h;refine wpAny_Call_Name_kw (qa I hg hm ?_ hdb);refine ZO (h₀:=X.base) I.ok.mod.kin M.kp (thn (ha pos pins s σ H _ I h) λus s1 ⟨vs,H1,I1,r,q⟩=>⟨I1.kIn,?_⟩) he hpl;exact zq M F hr hb hd hx I1 r q
theorem pV (M:Mk X.K C f) (F:FnOk X.prog X.w X.K X.mg X.base CX k f fd ps sp) (hr:Room (k+1) X.A) (hg:Gl X x) (hm:X.mg x=some (.ref C)) (hb:Binds X.K fd ps ds) (hd:Vals dvs ds) (hx:kR CX X E)
  (hdb:(x==("__debug__":Str))=false:=by decide):PE X (.Call (.Name x p) [] [] pos) (HZ C sp dvs E GK):=by
 intro pins s σ H Q I h;refine wpAny_Call_Name_kw (qa I hg hm ?_ hdb);exact Xu I.kIn M.kp (zq (us:=[]) M F hr hb hd hx I .nil h)
end
structure ao (N P:List Str) (sc:Scope):Prop where
 kind:sc.kind= .function
 co:sc.isCoroutine=false
 gen:sc.isGenerator=false
 nd:N.Nodup
 pre:N.take P.length=P
 par:∀x∈P,sc.names.lookup x=some .local\/sc.names.lookup x=some .cell
 nofree:∀y∈sc.names,y.2≠ .free
theorem xD {kindOf:Str->Option NameKind} {x:Str}:∀{binds:List (Str×Value)} {m:Str->Option Value},(∀v,(x,v)∉binds)->bindL kindOf binds m x=m x
 | [],_,_=>rfl
 |(n,v)::r,m,h=>by
  unfold bindL;rw[xD λw hw=>h w (Qd _ hw)];split
  .have:x≠n:=by rintro rfl;exact h v Q9
   simp[this]
  .rfl
theorem xF {kindOf:Str->Option NameKind} {x:Str}:∀{binds:List (Str×Value)} {m:Str->Option Value},(∀v,(x,v)∉binds)->bindC kindOf binds m x=m x
 | [],_,_=>rfl
 |(n,v)::r,m,h=>by
  unfold bindC;rw[xF λw hw=>h w (Qd _ hw)];split
  .rfl
  .have:x≠n:=by rintro rfl;exact h v Q9
   simp[this]
theorem xE {kindOf:Str->Option NameKind} {x:Str} {v:Value}:∀{P:List Str} {vs:List Value} {i:Nat} {m:Str->Option Value},P.Nodup->P[i]?=some x->vs[i]?=some v->kindOf x=some .local->
  bindL kindOf (P.zip vs) m x=some v
 | [],_,_,_,_,h,_,_=>by simp at h
 |_::_,[],_,_,_,_,h,_=>by simp at h
 |p::P,w::vs,0,m,nd,h1,h2,hk=>by
  simp at h1 h2;subst h1;subst h2;show bindL kindOf ((p,w)::P.zip vs) m p=_;unfold bindL;rw[xD λv hv=>(QM.mp nd).1 (XU hv).1,if_pos hk];simp
 |p::P,w::vs,i+1,m,nd,h1,h2,hk=>by
  show bindL kindOf ((p,w)::P.zip vs) m x=_;unfold bindL;exact xE (i:=i) (QM.mp nd).2 (by simpa using h1) (by simpa using h2) hk
theorem xG {kindOf:Str->Option NameKind} {x:Str} {v:Value}:∀{P:List Str} {vs:List Value} {i:Nat} {m:Str->Option Value},P.Nodup->P[i]?=some x->vs[i]?=some v->kindOf x≠some .local->
  bindC kindOf (P.zip vs) m x=some v
 | [],_,_,_,_,h,_,_=>by simp at h
 |_::_,[],_,_,_,_,h,_=>by simp at h
 |p::P,w::vs,0,m,nd,h1,h2,hk=>by
  simp at h1 h2;subst h1;subst h2;show bindC kindOf ((p,w)::P.zip vs) m p=_;unfold bindC;rw[xF λv hv=>(QM.mp nd).1 (XU hv).1,if_neg hk];simp
 |p::P,w::vs,i+1,m,nd,h1,h2,hk=>by
  show bindC kindOf ((p,w)::P.zip vs) m x=_;unfold bindC;exact xG (i:=i) (QM.mp nd).2 (by simpa using h1) (by simpa using h2) hk
def start (N:List Str) (vs:List V):St:=vs.map some++List.replicate (N.length-vs.length) none
def z7 (CX:CXT) (P:Program) (w:World) (K:PySem.W.Frag) (mg:Str->Option Value) (base:Heap) (N:List Str) (qual:Str) (scope:Scope) (f:Addr) (cd:Value) (A:Around) (outer:List Env) (s:Shared) (H:Hp) (E:XK):Cx where
 prog:=P
 w:=w
 K:=K
 mg:=mg
 base:=base
 A:=A.deeper (envOfC qual scope s.heap.objs.size f cd)
 N:=N
 s₀:=s
 H₀:=H
 env:=envOfC qual scope s.heap.objs.size f cd
 outer:=outer
 stack:=envOfC qual scope s.heap.objs.size f cd::outer
 ex:=[]
 calm:=true
 fn:=λ_=>true
 pn:=[]
 xe:=λe s'=>wpAny (model P w) (A.deeper (envOfC qual scope s.heap.objs.size f cd)) (leaving (envOfC qual scope s.heap.objs.size f cd) e) (λ_ s''=>CX outer H s E e s'') (λe' s''=>CX outer H s E e' s'') s'
theorem Ac {sc:Scope} (h:sc.names.lookup x=some .cell):∃c,(cellsFrom n sc.names []).lookup x=some c:=by
 have q:=PySem.W.cellsFrom_some sc.names n [] (.inl h);exact X8.mp q
theorem Dl {mg:Str->Option Value} {cd:Value} {s1:Shared} {E:XK} 
  (S:ao N ps scope) (hd:A.handled=none) (e0:Env0 P w K mg base A outer s H) (hl:vs.length=ps.length) (r:Vals vs us)
  (x:InCallC s s.heap.objs.size (bindL (envOfC qual scope s.heap.objs.size f cd).kindOf (ps.zip us) λ_=>none) (cellsFrom (s.heap.objs.size+1) scope.names []) (bindC (envOfC qual scope s.heap.objs.size f cd).kindOf (ps.zip us) λ_=>none) s1):
  Inv (z7 CX P w K mg base N qual scope f cd A outer s H E) [] (start N vs) H s1:=by
 have hpl:ps.length<=N.length:=by have:=congrArg List.length S.pre;rw[Q8]at this;lia
 obtain⟨h1,tk,rfl,hk⟩:=x.done;have noA:∀b:Addr,b∉(z7 CX P w K mg base N qual scope f cd A outer s H E).ex:=λb z=>absurd (show b∈([]:List Addr) from z) (by simp);refine⟨⟨e0.mod,S.kind,rfl,rfl,Q4 _,λy z c h1 h2=>?_,λy hy=>?_,λy c _ h=>?_,λ_=>hd,Around.frames_deeper e0.frames,.inr ⟨rfl,rfl⟩,λb z=>absurd z (noA b),e0.bs,e0.bsz,λb _ _=>noA b,λb z=>absurd z (noA b),e0.funs,e0.frf⟩,
  rfl,e0.bare,Un.kept hk,⟨_,x.toInCall.ns,λi y v h1 h2 h3=>?_⟩,λy c h=>⟨_,x.cell y c h⟩,e0.hok.fresh (Q4 _),λy c h=>?_,λp hp=>absurd (show p∈([]:List (Addr×Obj)) from hp) (by simp),e0.hok.kept hk,?_⟩
 .exact name_of_addr x.apart (PySem.mem_of_lookup h1) (PySem.mem_of_lookup h2)
 .have hy:scope.names.lookup y=some .cell\/scope.names.lookup y=some .free:=hy;rcases hy with hy|hy
  .exact Ac hy
  .exact absurd rfl (S.nofree _ (PySem.mem_of_lookup hy))
 .exact Zq (x.above y c (PySem.mem_of_lookup h))
 .have hi:i<vs.length:=by
   unfold start at h2;by_cases hi:i<vs.length
   .exact hi
   .rw[Zi (by simpa using hi)]at h2;rw[List.getElem?_replicate]at h2;split at h2<;>cases h2
  have ha:vs[i]?=some v:=by
   unfold start at h2;rw[Zn (by simpa using hi),Qn]at h2;cases e:vs[i]? with
   |none=>rw[e]at h2;cases h2
   |some a=>rw[e]at h2;cases h2;rfl
  obtain⟨u,hu,rv⟩:=r.get ha;have hp:ps[i]?=some y:=by
   rw[<-S.pre,X9 (by lia)];exact h1
  have ndP:ps.Nodup:=by rw[<-S.pre];exact S.nd.sublist (X7 _ _)
  refine⟨u,rv,?_⟩;rcases S.par y (Q1 hp)with k|k
  .exact .inl ⟨k,xE ndP hp hu k⟩
  .obtain⟨c,e⟩:=Ac (n:=s.heap.objs.size+1) k;refine .inr ⟨.inl k,c,e,?_⟩;have q:=x.cell y c e;rw[xG ndP hp hu (by show scope.names.lookup y≠_;rw[k];decide)]at q;exact q
 .exact e0.hok.fresh (Zq (x.above y c (PySem.mem_of_lookup h)))
 .unfold start;show _=N.length;rw[Qa,Q0,Zm];lia
theorem Iv {mg:Str->Option Value} {k:Nat} {params:Arguments} {dV kV doc pm cdv ct oc:Value} {an od:Option Addr}
  {osl:Array (Option Value)} (lk:K.lookup f=some ⟨oc,od,.func (PySem.W.fnOf name qual params body scope dV kV doc pm an cdv ct),osl⟩) (hcd:PySem.W.codeIn K cdv qual=true) (S:ao N ps scope)
  (len:∀vs H Q E,sp vs H Q E->vs.length=ps.length)
  (hbody:∀(A:Around) (outer:List Env) (s:Shared) (H:Hp) (vs:List V) (Q:VK) (E:XK),Room k (A.deeper (envOfC qual scope s.heap.objs.size f cdv))->sp vs H Q E->
   ∃t,PSs (z7 CX P w K mg base N qual scope f cdv A outer s H E) body t/\t {nx:=λ_ H'=>Q .non H',rt:=Q} (start N vs) H):
  FnOk P w K mg base CX (k+1) f (PySem.W.fnOf name qual params body scope dV kV doc pm an cdv ct) ps sp:=by
 refine⟨len,λA outer s H args us vs Q E hr e0 hb r hsp=>?_⟩;have hl:=len _ _ _ _ hsp;have KX:K.In s.heap:=e0.mod.kin.keeps λb o e=>(e0.bs b o e).1;have lim:s.heap.NoLimit:=e0.mod.nolimit.keeps λb o e=>(e0.bs b o e).1;have hkind:∀y∈ps.zip us,scope.names.lookup y.1=some .local\/(scope.names.lookup y.1=some .cell/\((cellsFrom (s.heap.objs.size+1) scope.names []).lookup y.1).isSome=true):=λ⟨n,v⟩ hy=>by
  rcases S.par n (XU hy).1 with q|q
  .exact .inl q
  .exact .inr ⟨q,PySem.W.cellsFrom_some _ _ _ (.inl q)⟩
 refine codeAny_call_function hr.depth (KX _ _ lk) rfl S.co S.gen rfl (PySem.W.codeRec_of KX hcd) (hb _ _ _ _ ?_);refine wpAny_newFunctionEnv_cells S.kind hkind λenv he s1 x=>?_;subst he;refine⟨lim.keeps x.toInCall.keep,codeAny_func ?_⟩;obtain⟨t,ht,hq⟩:=hbody A outer s H vs Q E (hr.deeper _) hsp;have I:Inv (z7 CX P w K mg base N qual scope f cdv A outer s H E) [] (start N vs) H s1:=Dl S hr.hd e0 hl r x;refine wpAny_mono (ht [] s1 (start N vs) H _ I hq) (λfl s' hs=>?_) λe s' hs=>hs;have fin:∀{σ':St} {H':Hp} {v:V} {u:Value},Inv (z7 CX P w K mg base N qual scope f cdv A outer s H E) [] σ' H' s'->RelV v u->Q v H'->CE outer P w H s Q u s':=
  λ{σ' H' v u} J rv q=>⟨v,H',J.os,J.bare,J.base,J.hok,rv,q⟩
 cases fl with
 |ret u=>
  obtain⟨v,σ',H',J,rv,q⟩:=hs;exact fin J rv q
 |next=>
  obtain⟨σ',H',J,q⟩:=hs;exact fin (v:=V.non) (u:=Value.none) J rfl q
 |brk=>
  obtain⟨_,_,_,q⟩:=hs;exact False.elim q
 |cont=>
  obtain⟨_,_,_,q⟩:=hs;exact False.elim q
end
section
section
variable {t:TA} {id T:String} {r:List V->Hp->VK->Prop}
def tCB (r:List V->Hp->VK->Prop) (t:TA):TE:=λσ H Q=>t σ H λvs H1=>r vs H1 Q
theorem aE (hc:eZ X (.builtin id) r) (hg:Gl X x) (hm:X.mg x=none) (hv:bootBuiltins x=some (.builtin id)) (ha:PA X (e::es) t) (hn:x≠"__name__":=by decide) (hdb:(x==("__debug__":Str))=false:=by decide)
  (he:starEach (e::es) X.env=(false,eval e X.env)::starEach es X.env:=by rfl) (hpl:(backTo pos (starEach es X.env)).any (·.1)=false:=by rfl):PE X (.Call (.Name x p) (e::es) [] pos) (tCB r t):=by
 intro pins s σ H Q I h;refine wpAny_Call_Name_kw (rF I hg hm hv ?_ hn hdb);exact PyProof.Rows.callWith_builtin1 (thn (ha pos pins s σ H _ I h) λus s1 ⟨vs,H1,I1,r1,q1⟩=>hc pins s1 σ H1 vs us Q I1 r1 q1) he hpl
theorem dU (hc:eZ X (.type T) r) (hg:Gl X x) (hm:X.mg x=none) (hv:bootBuiltins x=some (.type T)) (ha:PA X (e::es) t) (hn:x≠"__name__":=by decide) (hdb:(x==("__debug__":Str))=false:=by decide)
  (he:starEach (e::es) X.env=(false,eval e X.env)::starEach es X.env:=by rfl) (hpl:(backTo pos (starEach es X.env)).any (·.1)=false:=by rfl):PE X (.Call (.Name x p) (e::es) [] pos) (tCB r t):=by
 intro pins s σ H Q I h;refine wpAny_Call_Name_kw (rF I hg hm hv ?_ hn hdb);exact PyProof.Rows.callWith_type1 (thn (ha pos pins s σ H _ I h) λus s1 ⟨vs,H1,I1,r1,q1⟩=>hc pins s1 σ H1 vs us Q I1 r1 q1) he hpl
end
end
end L2
namespace HT
open PySem PyProof.Rows
variable {E:Value->Shared->Prop}
def lexLt:List Int->List Int->Bool
 | [],[]=>false
 | [],_::_=>true
 |_::_,[]=>false
 |x::xs,y::ys=>if x=y then lexLt xs ys else decide (x<y)
theorem lexLt_cons (x y:Int) (xs ys:List Int):lexLt (x::xs) (y::ys)=if x=y then lexLt xs ys else decide (x<y):=rfl
theorem lexLt_nil_nil:lexLt [] []=false:=rfl
theorem lexLt_nil_cons (y:Int) (ys:List Int):lexLt [] (y::ys)=true:=rfl
theorem lexLt_cons_nil (x:Int) (xs:List Int):lexLt (x::xs) []=false:=rfl
section
variable {prog:Program} {w:World} {A:Around} {s:Shared}
def sIx (n d:Nat):Option Int->Nat
 |none=>d
 |some v=>if v<0 then(v+(n:Int)).toNat else min v.toNat n
end
end HT
namespace L2
open PySem PySem.Spec PyProof.Rows
variable {a b:Addr} {A:Around} {X:Cx} {e:Expr} {h':Heap} {H H':Hp} {i:Int} {pins:List (Addr×Obj)} {kvs:List (Key×V)} {vs:List (Key×Value)} {its its':List Value} {j n t':Nat} {o:Option V} {pos:Pos} {P:Program} {s:Shared} {σ:St} {T:String} {α:Type} {v x y:V} {u:Value} {E Q:Value->Shared->Prop} {w:World}
section
abbrev TO:=St->Hp->(Option Int->Hp->Prop)->Prop
def PO (X:Cx) (e:Option Expr) (t:TO):Prop:=
 ∀(pins:List (Addr×Obj)) (s:Shared) (σ:St) (H:Hp) (Q:Option Int->Hp->Prop),Inv X pins σ H s->t σ H Q->
  wpAny (model X.prog X.w) X.A (evalPart e X.env) (λu s'=>∃o H',Inv X pins σ H' s'/\IsPart u o/\Q o H') X.xe s
def GJ:TO:=λ_ H Q=>Q none H
def Kb (t:TE):TO:=λσ H Q=>t σ H λx H1=>∃i,x= .int i/\Q (some i) H1
theorem pf {ns:List Int}:∀{us:List Value},Vals (ns.map V.int) us->IntsAre us ns:=by
 induction ns with
 |nil=>intro us r;rw[XB]at r;cases r;exact .nil
 |cons n ns ih=>
  intro us r;rw[Qs]at r;cases r with
  |cons r1 r2=>
   obtain⟨t,e⟩:=r1;subst e;exact .cons n t (ih r2)
section
variable {te:TE} {lo hi:Option Expr} {tl th:TO} {p2:Pos}
theorem iR:PO X none GJ:=by
 intro pins s σ H Q I h;rw[evalPart_none];exact wpAny_pure ⟨none,H,I,.none,h⟩
theorem fL (h:PE X e te):PO X (some e) (Kb te):=by
 intro pins s σ H Q I hw;rw[evalPart_some];refine thn (h pins s σ H _ I hw) λu s1 hzz=>?_;obtain⟨x,H1,I1,r1,q1⟩:=hzz;obtain⟨i,rfl,q⟩:=q1;obtain⟨t,rfl⟩:=r1;exact⟨some i,H1,I1,.int i t,q⟩
def SlR (X:Cx) (r:V->Option Int->Option Int->Hp->VK->Prop):Prop:=
 ∀(pins:List (Addr×Obj)) (s:Shared) (σ:St) (H:Hp) (x:V) (v vl vu:Value) (lo hi:Option Int) (sl:Addr) (Q:VK),Inv X pins σ H s->RelV x v->s.heap.IsSliceOf sl vl vu .none->IsPart vl lo->IsPart vu hi->r x lo hi H Q->
  ∃T id,typeLookup (.type T) "__getitem__"=pure (some (.builtin id))/\s.TypeIs v T/\wpAny (model X.prog X.w) X.A (getItem v (.ref sl)) (EP X pins σ Q) X.xe s
def tSl (r:V->Option Int->Option Int->Hp->VK->Prop) (te:TE) (tl th:TO):TE:=λσ H Q=>te σ H λx H1=>tl σ H1 λl H2=>th σ H2 λu H3=>r x l u H3 Q
theorem eI {r:V->Option Int->Option Int->Hp->VK->Prop} (hr:SlR X r) (he:PE X e te) (hl:PO X lo tl) (hu:PO X hi th):PE X (.Subscript e (.Slice lo hi none p2) pos) (tSl r te tl th):=by
 intro pins s σ H Q I h;refine Subscript_ (thn (he pins s σ H _ I h) λv s1 hzz=>?_);obtain⟨x,H1,I1,r1,q1⟩:=hzz;refine wpAny_Slice (thn (hl pins s1 σ H1 _ I1 q1) λvl s2 ⟨l,H2,I2,pl,q2⟩=>thn (hu pins s2 σ H2 _ I2 q2) λvu s3 hzz=>?_);obtain⟨u,H3,I3,pu,q3⟩:=hzz;rw[evalPart_none];refine wpAny_pure ?_;have I4:Inv X pins σ H3 {s3 with heap:=s3.heap.push {cls:= .type "slice",data:= .fields #[vl,vu,.none]}}:=I3.kept (t':=s3.toks) λb ob q=>Heap.get?_push_of_some _ q;obtain⟨T,id,hT,ht,hg⟩:=hr pins {s3 with heap:=s3.heap.push {cls:= .type "slice",data:= .fields #[vl,vu,.none]}} σ H3 x v vl vu l u s3.heap.objs.size Q I4 r1 (Heap.IsSliceOf.new ..) pl pu q3;show wpAny (model X.prog X.w) X.A (subscriptTail e (.Slice lo hi none p2) v (.ref s3.heap.objs.size)) (EP X pins σ Q) X.xe {s3 with heap:=s3.heap.push {cls:= .type "slice",data:= .fields #[vl,vu,.none]}};exact tail_any (ops:=[.ref s3.heap.objs.size,v]) ht hT hg (by with_unfolding_all rfl)
def nP (xs:List V) (lo hi:Option Int):List V:=(xs.drop (HT.sIx xs.length 0 lo)).take (HT.sIx xs.length xs.length hi-HT.sIx xs.length 0 lo)
theorem Aa (xs:List V) (lo hi:Option Int):(nP xs lo hi).length<=xs.length:=by
 unfold nP;rw[Q8,QA];lia
end
end
section
def ixN (n:Nat) (i:Int):Option Nat:=if 0<=i then(if i<n then some i.toNat else none)else if-(n:Int)<=i then some (i+n).toNat else none
def atI {α:Type} (xs:List α) (i:Int):Option α:=(ixN xs.length i).bind λj=>xs[j]?
theorem Cc (h:ixN n i=some j):seqIndex? i n=some j/\j<n/\-(n:Int)<=i/\i<n:=by
 unfold ixN at h;by_cases h0:0<=i
 .rw[if_pos h0]at h;by_cases h1:i<n
  .rw[if_pos h1]at h;have e:i.toNat=j:=Option.some.inj h;exact⟨by rw[seqIndex_of h0 h1,e],by lia,by lia,h1⟩
  .rw[if_neg h1]at h;cases h
 .rw[if_neg h0]at h;by_cases h1: -(n:Int)<=i
  .rw[if_pos h1]at h;have e:(i+n).toNat=j:=Option.some.inj h;exact⟨by rw[seqIndex_neg (by lia) h1,e],by lia,h1,by lia⟩
  .rw[if_neg h1]at h;cases h
theorem Cu {xs:List α} {v:α} (h:atI xs i=some v):∃j,seqIndex? i xs.length=some j/\xs[j]?=some v/\j<xs.length/\-(xs.length:Int)<=i/\i<xs.length:=by
 unfold atI at h;cases e:ixN xs.length i with
 |none=>rw[e]at h;cases h
 |some j=>
  rw[e]at h;obtain⟨h1,h2,h3,h4⟩:=Cc e;exact⟨j,h1,h,h2,h3,h4⟩
theorem tO {xs:List α} {v:α} (h:xs[j]?=some v):atI xs (j:Int)=some v:=by
 have hj:j<xs.length:=(Q2.mp h).1;have e:ixN xs.length (j:Int)=some j:=by
  unfold ixN;rw[if_pos (by lia),if_pos (by lia)];simp
 unfold atI;rw[e];exact h
def HK (b:Expr):Prop:=∀o i,subscripted b false o i=operate [o,i] (getItem o i)
def IxR (X:Cx) (r:R2):Prop:=
 ∀(value slice:Expr) (pins:List (Addr×Obj)) (s:Shared) (σ:St) (H:Hp) (x y:V) (v u:Value) (Q:VK),Inv X pins σ H s->RelV x v->RelV y u->r x y H Q->
  subscripted slice false v u=operate [v,u] (getItem v u)->wpAny (model X.prog X.w) X.A (subscriptTail value slice v u) (EP X pins σ Q) X.xe s
def MtR (X:Cx) (id:String) (r:V->List V->Hp->VK->Prop):Prop:=
 ∀(pins:List (Addr×Obj)) (s:Shared) (σ:St) (H:Hp) (x:V) (xs:List V) (v:Value) (us:List Value) (Q:VK),Inv X pins σ H s->RelV x v->Vals xs us->r x xs H Q->
  wpAny (model X.prog X.w) X.A (call (.builtin id) (v::us)) (EP X pins σ Q) X.xe s
section
variable {a b:Expr} {ta tb:TE}
theorem aW {r:R2} (hr:IxR X r) (ha:PE X a ta) (hb:PE X b tb) (hs:HK b):PE X (.Subscript a b pos) (tOp r ta tb):=by
 intro pins s σ H Q I h;exact Subscript_ (JJ ha hb I h λv u s2 x y H2 I2 rx ry q=>hr a b pins s2 σ H2 x y v u Q I2 rx ry q (hs _ _))
def rIxL (K:PySem.W.Frag):R2:=λx y H Q=>∃p xs i v,x= .ref p/\y= .int i/\SqL K H p xs/\atI xs i=some v/\Q v H
def rIxT (K:PySem.W.Frag):R2:=λx y H Q=>∃p xs i v,x= .ref p/\y= .int i/\SqT K H p xs/\atI xs i=some v/\Q v H
theorem aV:IxR X (rIxL X.K):=by
 intro value slice pins s σ H x y v u Q I rx ry h hs;obtain⟨p,xs,i,z,rfl,rfl,hq,he,q⟩:=h;cases rx;obtain⟨t,rfl⟩:=ry;obtain⟨its,r,pl,hz⟩:=I.list hq;obtain⟨j,h1,h2,h3,h4,h5⟩:=Cu he;obtain⟨w,ew,rw'⟩:=r.get h2;have hl:=r.length;have hn:=uW;have fin:EP X pins σ Q w s:=⟨z,H,I,rw',q⟩;by_cases h0:0<=i
 .have hj:i.toNat=j:=by
   rw[seqIndex_of h0 h5]at h1;exact Option.some.inj h1
  exact item_listR pl.isList h0 (by lia) (by rw[hj];simpa using ew) fin hs
 .have hj:(i+(its.toArray.size:Int)).toNat=j:=by
   rw[seqIndex_neg (by lia) h4]at h1;rw[Qf,<-hl];exact Option.some.inj h1
  exact subscriptTail_builtinR (x:=w) pl.isList.typeIs slot_list_getitem.lookup
   (wpAny_getItem_list_neg (Q:=λr s'=>r=w/\EP X pins σ Q r s') pl.isList (by lia) (by rw[Qf]<;>lia) (by lia) (by rw[hj];simpa using ew) ⟨rfl,fin⟩) hs
theorem bU:IxR X (rIxT X.K):=by
 intro value slice pins s σ H x y v u Q I rx ry h hs;obtain⟨p,xs,i,z,rfl,rfl,hq,he,q⟩:=h;cases rx;obtain⟨t,rfl⟩:=ry;obtain⟨its,r,pl,hz⟩:=I.tuple hq;obtain⟨j,h1,h2,h3,h4,h5⟩:=Cu he;obtain⟨w,ew,rw'⟩:=r.get h2;have hl:=r.length;have hn:=uW;have fin:EP X pins σ Q w s:=⟨z,H,I,rw',q⟩;exact subscriptTail_builtinR (x:=w) pl.typeIs slot_tuple_getitem.lookup
  (getItem_tuple (j:=j) (Q:=λr s'=>r=w/\EP X pins σ Q r s') pl (by lia) (by lia) (by rw[Qf,<-hl];exact h1) (by simpa using ew) ⟨rfl,fin⟩) hs
theorem Bm (its:List Value) (n j:Nat) (u:Value):Obj.mapSeq (·.setIfInBounds j u) {cls:= .type "list",data:= .seq its.toArray n}={cls:= .type "list",data:= .seq (its.set j u).toArray n}:=by
 simp[Obj.mapSeq]
theorem Inv.lst {pins:List (Addr×Obj)} {σ:St} {H:Hp} {s:Shared} {p:Addr} {xs:List V} (I:Inv X pins σ H s) (h:H p=some (.lst xs)):
  ∃(its:List Value) (n:Nat),Vals xs its/\s.heap.get? p=some {cls:= .type "list",data:= .seq its.toArray n}/\xs.length<=sizeLine:=by
 obtain⟨z,its,n,r,e⟩:=I.hok p _ h;exact⟨its,n,r,e,z⟩
theorem Inv.lstUpd {p:Addr} {xs ys:List V} {n':Nat} {f:Obj->Obj} (I:Inv X pins σ H s) (h:H p=some (.lst xs))
  (ho:s.heap.get? p=some {cls:= .type "list",data:= .seq its.toArray n}) (hf:f {cls:= .type "list",data:= .seq its.toArray n}={cls:= .type "list",data:= .seq its'.toArray n'}) (r:Vals ys its') (hz:ys.length<=sizeLine) (t:Nat):
  Inv X pins σ (upd H p (.lst ys)) {s with heap:=s.heap.update p f,toks:=t}:=by
 have e:(s.heap.update p f).get? p=some {cls:= .type "list",data:= .seq its'.toArray n'}:=by
  rw[Heap.get?_update_self f ho (by rw[hf]<;>rfl),hf]
 refine I.write (x:=p) (e:=p) (by rw[h];trivial) (.inl rfl) (λb u hb q=>(Heap.get?_update_other _ _ (Ne.symm hb)).trans q) ⟨_,e⟩ ?_;exact⟨hz,its',n',r,e⟩
def Kn:V->V->V->Hp->(Hp->Prop)->Prop:=λo i v H Q=>∃p xs k j,o= .ref p/\i= .int k/\H p=some (.lst xs)/\ixN xs.length k=some j/\Q (upd H p (.lst (xs.set j v)))
theorem uj:PSet X Kn:=by
 intro pins s σ H o i v ov iv u Q I ro ri rv h;obtain⟨p,xs,k,j,rfl,rfl,hp,hj,q⟩:=h;cases ro;obtain⟨t,rfl⟩:=ri;obtain⟨its,n,r,ho,hz⟩:=I.lst hp;obtain⟨h1,h2,h3,h4⟩:=Cc hj;have hl:=r.length;have hn:=uW;have I':Inv X pins σ (upd H p (.lst (xs.set j v))) {s with heap:=s.heap.update p (Obj.mapSeq (·.setIfInBounds j u))}:=
  I.lstUpd hp ho (Bm its n j u) (r.set rv j) (by rw[QI];exact hz) s.toks
 by_cases h0:0<=k
 .have hk:k.toNat=j:=by
   rw[seqIndex_of h0 h4]at h1;exact Option.some.inj h1
  exact PySem.W.ki_setAt ho h0 (by lia) (by rw[Qf,<-hl];exact h4) (by rw[hk];exact⟨_,I',q⟩)
 .have hk:(k+(its.toArray.size:Int)).toNat=j:=by
   rw[seqIndex_neg (by lia) h3]at h1;rw[Qf,<-hl];exact Option.some.inj h1
  exact PySem.W.ki_setBack ho (by lia) (by rw[Qf,<-hl];exact h3) (by lia) (by rw[hk];exact⟨_,I',q⟩)
theorem x6 (lo hi:Option Int) (n:Nat):(sliceBounds lo hi none n).1=((HT.sIx n 0 lo:Nat):Int)/\(sliceBounds lo hi none n).2.1=((HT.sIx n n hi:Nat):Int)/\(sliceBounds lo hi none n).2.2=1:=by
 refine⟨?_,?_,rfl⟩
 .cases lo with
  |none=>simp[sliceBounds,HT.sIx]
  |some i=>
   simp only[sliceBounds,HT.sIx,Option.getD_none,show(1:Int)>0 by decide,if_true];by_cases h:i<0
   .simp only[h,if_true]<;>lia
   .simp only[h,if_false]<;>lia
 .cases hi with
  |none=>simp[sliceBounds,HT.sIx]
  |some i=>
   simp only[sliceBounds,HT.sIx,Option.getD_none,show(1:Int)>0 by decide,if_true];by_cases h:i<0
   .simp only[h,if_true]<;>lia
   .simp only[h,if_false]<;>lia
theorem vW (its:List Value) (lo hi:Option Int):slicePick its.toArray lo hi none=((its.drop (HT.sIx its.length 0 lo)).take (HT.sIx its.length its.length hi-HT.sIx its.length 0 lo)).toArray:=by
 obtain⟨h1,h2,h3⟩:=x6 lo hi its.toArray.size;unfold slicePick;rw[h1,h2,h3];simp only[sliceRange_one,pick_run,Qf]<;>rfl
def rSlL (K:PySem.W.Frag):V->Option Int->Option Int->Hp->VK->Prop:=λx lo hi H Q=>∃a xs,x= .ref a/\SqL K H a xs/\∀p,H p=none->Q (.ref p) (upd H p (.lst (nP xs lo hi)))
theorem gH:SlR X (rSlL X.K):=by
 intro pins s σ H x v vl vu lo hi sl Q I rx hs pl pu h;obtain⟨a,xs,rfl,hx,q⟩:=h;cases rx;obtain⟨its,r,ht,hz⟩:=I.list hx;have hlen:=r.length;refine⟨"list",_,slot_list_getitem.lookup,ht.isList.typeIs,?_⟩;refine wpAny_getItem_list_slice ht.isList hs pl pu .none (by simp) ?_ (by rw[Qf]<;>lia);rw[vW,<-hlen];refine⟨.ref s.heap.objs.size,_,I.laid (t':=s.toks) (o:= .lst (nP xs lo hi)) (λb ob q=>Heap.get?_push_of_some _ q) (Q4 _) ?_,rfl,q _ (I.hok.fresh (Q4 _))⟩;exact⟨QD (Aa xs lo hi) hz,_,0,(r.drop (HT.sIx xs.length 0 lo)).take (HT.sIx xs.length xs.length hi-HT.sIx xs.length 0 lo),Heap.get?_push_size _ rfl⟩
def qh:V->Bool
 | .non=>true
 | .bl _=>true
 | .int _=>true
 | .str _=>true
 |_=>false
def eqV:V->V->Bool
 | .non,.non=>true
 | .bl a,.bl b=>a==b
 | .bl a,.int b=>(if a then 1 else 0)==b
 | .int a,.bl b=>a==(if b then 1 else 0)
 | .int a,.int b=>a==b
 | .str a,.str b=>a==b
 |_,_=>false
theorem JE {v:Value} (ry:RelV y u) (rx:RelV x v) (fy:qh y=true) (fx:qh x=true):SeqAt.EqAt A s u v (eqV y x):=by
 cases y with
 |non=>
  cases ry;cases x with
  |non=>cases rx;exact SeqAt.EqAt.same _
  |bl b=>cases rx;exact SeqAt.EqAt.none_bool b
  |int b=>obtain⟨t,rfl⟩:=rx;exact SeqAt.EqAt.none_int b t
  |str b=>obtain⟨t,rfl⟩:=rx;exact SeqAt.EqAt.none_str b t
  |_=>exact absurd (show false=true from fx) Qi
 |bl a=>
  cases ry;cases x with
  |non=>cases rx;exact SeqAt.EqAt.bool_none a
  |bl b=>cases rx;exact SeqAt.EqAt.bool_bool a b
  |int b=>obtain⟨t,rfl⟩:=rx;exact SeqAt.EqAt.bool_int a b t
  |str b=>obtain⟨t,rfl⟩:=rx;exact SeqAt.EqAt.bool_str a b t
  |_=>exact absurd (show false=true from fx) Qi
 |int a=>
  obtain⟨t',rfl⟩:=ry;cases x with
  |non=>cases rx;exact SeqAt.EqAt.int_none a t'
  |bl b=>cases rx;exact SeqAt.EqAt.int_bool a t' b
  |int b=>obtain⟨t,rfl⟩:=rx;exact SeqAt.EqAt.int_int a t' b t
  |str b=>obtain⟨t,rfl⟩:=rx;exact SeqAt.EqAt.int_str a t' b t
  |_=>exact absurd (show false=true from fx) Qi
 |str a=>
  obtain⟨t',rfl⟩:=ry;cases x with
  |non=>cases rx;exact SeqAt.EqAt.str_none a t'
  |bl b=>cases rx;exact SeqAt.EqAt.str_bool a t' b
  |int b=>obtain⟨t,rfl⟩:=rx;exact SeqAt.EqAt.str_int a t' b t
  |str b=>obtain⟨t,rfl⟩:=rx;exact SeqAt.EqAt.str_str a t' b t
  |_=>exact absurd (show false=true from fx) Qi
 |_=>exact absurd (show false=true from fy) Qi
def eqU (x:V) (u:Value):Bool:=match u with
 | .none=>eqV .non x
 | .bool b=>eqV (.bl b) x
 | .int i _=>eqV (.int i) x
 | .str z _=>eqV (.str z) x
 |_=>false
theorem Fy (r:RelV y u) (f:qh y=true):eqU x u=eqV y x:=by
 cases y with
 |non=>cases r;rfl
 |bl b=>cases r;rfl
 |int i=>obtain⟨t,rfl⟩:=r;rfl
 |str z=>obtain⟨t,rfl⟩:=r;rfl
 |_=>exact absurd (show false=true from f) Qi
theorem yS {x:V}:∀{xs:List V} {us:List Value},Vals xs us->xs.all qh=true->us.any (eqU x)=xs.any λy=>eqV y x
 |_,_,.nil,_=>rfl
 |y::xs,u::us,.cons r t,f=>by
  rw[List.all_cons,QK]at f;rw[ZU,ZU,Fy r f.1,yS t f.2]
theorem uT {A:Around} {s:Shared} {x:V} {v:Value} (rx:RelV x v) (fx:qh x=true):∀{xs:List V} {us:List Value},Vals xs us->xs.all qh=true->∀u∈us,SeqAt.EqAt A s u v (eqU x u)
 |_,_,.nil,_=>λu hu=>by cases hu
 |y::xs,u::us,.cons r t,f=>λu' hu=>by
  rw[List.all_cons,QK]at f;rcases Qg.mp hu with rfl|hu
  .rw[Fy r f.1];exact JE r rx f.1 fx
  .exact uT rx fx t f.2 u' hu
def inV (x:V) (xs:List V):Bool:=xs.any λy=>eqV y x
def rIn (K:PySem.W.Frag) (neg:Bool):R2:=λx y H Q=>∃p xs,y= .ref p/\(SqL K H p xs\/SqT K H p xs)/\qh x=true/\xs.all qh=true/\Q (.bl (if neg then !inV x xs else inV x xs)) H
theorem CS:OpR X (compareOp .In) (rIn X.K false):=by
 intro pins s σ H x y v u Q I rx ry h;obtain⟨p,xs,rfl,hq,fx,fs,q⟩:=h;cases ry;rcases hq with hq|hq
 .obtain⟨its,r,pl,hz⟩:=I.list hq;refine SeqAt.in_listAt (eqU x) pl.isList (λw hw=>uT rx fx r fs w (by simpa using hw)) ⟨.bl _,H,I,rfl,?_⟩;rw[show its.toArray.any (eqU x)=its.any (eqU x) by simp,yS r fs];exact q
 .obtain⟨its,r,pl,hz⟩:=I.tuple hq;refine SeqAt.in_tupleAt (eqU x) pl (λw hw=>uT rx fx r fs w (by simpa using hw)) ⟨.bl _,H,I,rfl,?_⟩;rw[show its.toArray.any (eqU x)=its.any (eqU x) by simp,yS r fs];exact q
theorem aD:eZ X (.builtin "len") (λxs H Q=>∃p ys,xs=[.ref p]/\(SqL X.K H p ys\/SqT X.K H p ys)/\Q (.int ys.length) H):=by
 intro pins s σ H xs us Q I r h;obtain⟨p,ys,rfl,hq,q⟩:=h;obtain⟨u,rfl,rx⟩:=jG r;cases rx;have hn:=uW;rcases hq with hq|hq
 .obtain⟨its,r',pl,hz⟩:=I.list hq;have hlen:=r'.length;exact Calls.call_len_list pl.isList (by simp only[Qf]<;>lia) ⟨.int ys.length,H,I.tok _,⟨s.toks+1,by rw[Qf,hlen]⟩,q⟩
 .obtain⟨its,r',pl,hz⟩:=I.tuple hq;have hlen:=r'.length;exact len_tuple pl (by simp only[Qf]<;>lia) ⟨.int ys.length,H,I.tok _,⟨s.toks+1,by rw[Qf,hlen]⟩,q⟩
theorem ql:eZ X (.type "list") (λxs H Q=>∃p ys,xs=[.ref p]/\(SqL X.K H p ys\/SqT X.K H p ys)/\∀l,H l=none->Q (.ref l) (upd H l (.lst ys))):=by
 intro pins s σ H xs us Q I r h;obtain⟨p,ys,rfl,hq,q⟩:=h;obtain⟨u,rfl,rx⟩:=jG r;cases rx;have fin:∀(its:List Value),Vals ys its->ys.length<=sizeLine->∀(h':Heap) (c':Nat),(∀b o',s.heap.get? b=some o'->h'.get? b=some o')->
   h'.get? s.heap.objs.size=some {cls:= .type "list",dict:=none,data:= .seq its.toArray c',slots:= #[]}->EP X pins σ Q (.ref s.heap.objs.size) {s with heap:=h'}:=λits r' hz h' c' kp e=>
  ⟨.ref s.heap.objs.size,_,I.laid (t':=s.toks) kp (Q4 _) (show ObjOk X.prog X.w _ h' _ (.lst ys) from⟨hz,its,c',r',e⟩),rfl,q _ (I.hok.fresh (Q4 _))⟩
 rcases hq with hq|hq
 .obtain⟨its,r',pl,hz⟩:=I.list hq;have hlen:=r'.length;obtain⟨o,ho,hc,n,hd⟩:=pl.isList;exact call_list_seq p (.inl rfl) ho hc hd (λh' c' kp e=>fin its r' hz h' c' kp e) (by simp only[Qf]<;>lia)
 .obtain⟨its,r',pl,hz⟩:=I.tuple hq;have hlen:=r'.length;obtain⟨o,ho,hc,n,hd⟩:=pl;exact call_list_seq p (.inr rfl) ho hc hd (λh' c' kp e=>fin its r' hz h' c' kp e) (by simp only[Qf]<;>lia)
def tyV (K:PySem.W.Frag) (T:String) (x:V) (H:Hp):Prop:=match x with
 | .str _=>T="str"
 | .int _=>T="int"
 | .ref p=>(T="list"/\∃xs,SqL K H p xs)\/(T="tuple"/\∃o,K.lookup p=some o/\o.cls= .type "tuple"/\o.dict=none)\/
   (T="dict"/\((∃kvs,H p=some (.dK kvs))\/∃kvs,H p=some (.dT kvs)))\/(T="set"/\∃S n,H p=some (.set S n))
 |_=>False
theorem Ed {v:Value} (I:Inv X pins σ H s) (r:RelV x v) (ty:tyV X.K T x H):
  s.TypeIs v T/\∀a,v= .ref a->∃ob,s.heap.get? a=some ob/\ob.dict=none:=by
 cases x with
 |str z=>
  obtain⟨t,rfl⟩:=r;cases (show T="str" from ty);exact⟨typeIs_str s z t,λ_ e=>nomatch e⟩
 |int i=>
  obtain⟨t,rfl⟩:=r;cases (show T="int" from ty);exact⟨typeIs_int s i t,λ_ e=>nomatch e⟩
 |ref p=>
  cases r;rcases ty with⟨rfl,xs,hq⟩|⟨rfl,o,hk,hc,hd⟩|⟨rfl,hk⟩|⟨rfl,S,n,hk⟩
  .obtain⟨its,_,pl,_⟩:=I.list hq;refine⟨pl.isList.typeIs,λa e=>?_⟩;cases e;obtain⟨o,n,e,c,hd,_⟩:=pl;exact⟨o,e,hd⟩
  .refine⟨⟨o,I.kIn p o hk,hc⟩,λa e=>?_⟩;cases e;exact⟨o,I.kIn _ o hk,hd⟩
  .have z:∃o,s.heap.get? p=some o/\o.ExactDict:=by
    rcases hk with⟨kvs,hk⟩|⟨kvs,hk⟩
    .obtain⟨_,_,_,_,o,_,_,e,ex,_⟩:=I.hok p _ hk;exact⟨o,e,ex⟩
    .obtain⟨_,_,_,_,o,_,_,e,ex,_⟩:=I.hok p _ hk;exact⟨o,e,ex⟩
   obtain⟨o,e,ex⟩:=z;refine⟨⟨o,e,ex.1⟩,λa e2=>?_⟩;cases e2;exact⟨o,e,ex.2.1⟩
  .obtain⟨o,_,_,_,e,ex,_⟩:=I.hok p _ hk;refine⟨⟨o,e,ex.1⟩,λa e2=>?_⟩;cases e2;exact⟨o,e,ex.2.1⟩
 |_=>exact False.elim ty
def tBM0 (K:PySem.W.Frag) (T:String) (r:V->List V->Hp->VK->Prop) (to:TE):TE:=λσ H Q=>to σ H λx H1=>tyV K T x H1/\r x [] H1 Q
def tBM (K:PySem.W.Frag) (T:String) (r:V->List V->Hp->VK->Prop) (to:TE) (t:TA):TE:=λσ H Q=>to σ H λx H1=>tyV K T x H1/\t σ H1 λxs H2=>r x xs H2 Q
variable {o:Expr} {es:List Expr} {to:TE} {t:TA} {name:Str} {apos cpos:Pos} {id:String} {r:V->List V->Hp->VK->Prop}
theorem uC (pa:PlainAttrs T) (slot:Slot T name id) (hty:typeOf (.builtin id)=pure (.type "method_descriptor")) (hm:MtR X id r) (ho:PE X o to)
  (hbase:attributeBase o name X.env (eval o X.env)=eval o X.env:=by rfl) (hline:(apos.endLine==cpos.line)=true:=by rfl):PE X (.Call (.Attribute o name apos) [] [] cpos) (tBM0 X.K T r to):=by
 intro pins s σ H Q I h;refine wpAny_Call_method0_late hbase hline (thn (ho pins s σ H _ I h) λv s1 hzz=>?_);obtain⟨x,H1,I1,r1,ty,q1⟩:=hzz;obtain⟨h1,h2⟩:=Ed I1 r1 ty;exact⟨T,id,pa,slot,hty,h1,h2,Calls.callWith_builtin rfl (PySem.evalArgs_none (hm pins s1 σ H1 x [] v [] Q I1 r1 .nil q1))⟩
theorem dG (pa:PlainAttrs T) (slot:Slot T name id) (hty:typeOf (.builtin id)=pure (.type "method_descriptor")) (hm:MtR X id r) (ho:PE X o to) (ha:PA X (e::es) t)
  (hbase:attributeBase o name X.env (eval o X.env)=eval o X.env:=by rfl)
  (hfew:((backTo cpos (starEach (e::es) X.env)).all (λx=>!x.1)&&(backToKw cpos (keywordEach [] X.env)).all (λx=>x.1.isSome)
   &&decide ((e::es).length+([]:List Keyword).length+(if([]:List Keyword).isEmpty then 0 else 1)<30))=true:=by rfl)
  (hline:(apos.endLine==cpos.line)=true:=by rfl) (hs:starEach (e::es) X.env=(false,eval e X.env)::starEach es X.env:=by rfl) (hplain:(backTo cpos (starEach es X.env)).any (·.1)=false:=by rfl):
  PE X (.Call (.Attribute o name apos) (e::es) [] cpos) (tBM X.K T r to t):=by
 intro pins s σ H Q I h;refine wpAny_Call_method_late hbase hfew hline rfl (thn (ho pins s σ H _ I h) λv s1 hzz=>?_);obtain⟨x,H1,I1,r1,ty,q1⟩:=hzz;obtain⟨h1,h2⟩:=Ed I1 r1 ty;refine⟨T,id,pa,slot,hty,h1,h2,?_⟩;have hA:=ha cpos pins s1 σ H1 _ I1 q1;rw[hs]at hA⊢;refine Calls.callWith_builtin (by show(false||(backTo cpos (starEach es X.env)).any (·.1))=false;rw[hplain]<;>rfl) (Calls.evalArgs_plain ?_);exact thn hA λus s2 ⟨vs,H2,I2,r2,q2⟩=>hm pins s2 σ H2 x vs v us Q I2 r1 r2 q2
end
end
section
def MtM (X:Cx) (id:String) (r:V->List V->Hp->VK->Prop):Prop:=
 ∀(pins:List (Addr×Obj)) (s:Shared) (σ:St) (H:Hp) (x:V) (xs:List V) (v:Value) (us:List Value) (Q:VK),Inv X pins σ H s->RelV x v->Vals xs us->r x xs H Q->
  wpAny (model X.prog X.w) X.A (call (.builtin id) (v::us)) (EP X pins σ Q) X.xe s
theorem Vals.one:∀{x:V} {us:List Value},Vals [x] us->∃u,us=[u]/\RelV x u
 |_,_,.cons r .nil=>⟨_,rfl,r⟩
theorem Vals.two:∀{x y:V} {us:List Value},Vals [x,y] us->∃u v,us=[u,v]/\RelV x u/\RelV y v
 |_,_,_,.cons r (.cons q .nil)=>⟨_,_,rfl,r,q⟩
theorem Vals.zero:∀{us:List Value},Vals [] us->us=[]
 |_,.nil=>rfl
theorem Vals.eraseIdx:∀{xs:List V} {us:List Value} (i:Nat),Vals xs us->Vals (xs.eraseIdx i) (us.eraseIdx i)
 |_,_,_,.nil=> .nil
 |_,_,0,.cons _ t=>t
 |_,_,i+1,.cons r t=> .cons r (Vals.eraseIdx i t)
theorem rE {α:Type}:∀(l:List α) (i:Nat),(l.eraseIdx i).length<=l.length
 | [],_=>Q4 _
 |_::_,0=>Zy _
 |_::r,i+1=>Nat.succ_le_succ (rE r i)
section
variable {l:Addr} {xs ys zs:List V}
theorem Inv.lset {f:Array Value->Array Value} (I:Inv X pins σ H s) (hH:H l=some (.lst xs))
  (e:s.heap.get? l=some {cls:= .type "list",data:= .seq its.toArray n}) (hf:f its.toArray=its'.toArray) (hv:Vals ys its') (hz:ys.length<=sizeLine):
  Inv X pins σ (upd H l (.lst ys)) {s with heap:=s.heap.update l (Obj.mapSeq f),toks:=t'}:=by
 have q:=PySem.IsL.update e f;rw[hf]at q;refine I.write (x:=l) (e:=l) (by rw[hH];exact trivial) (.inl rfl) (λb' u hb hu=>(Heap.get?_update_other s.heap (Obj.mapSeq f) (Ne.symm hb)).trans hu) ⟨_,q⟩ ?_;exact⟨hz,its',_,hv,q⟩
theorem Inv.lnew (I:Inv X pins σ H s) (hv:Vals ys its) (hz:ys.length<=sizeLine):
  Inv X pins σ (upd H s.heap.objs.size (.lst ys)) {s with heap:=s.heap.push {cls:= .type "list",data:= .seq its.toArray},toks:=t'}:=
 I.laid (λ_ _ q=>Heap.get?_push_of_some _ q) (Q4 _) ⟨hz,its,0,hv,Heap.get?_push_size _ rfl⟩
theorem Inv.fresh (I:Inv X pins σ H s):H s.heap.objs.size=none:=I.hok.fresh (Q4 _)
theorem Inv.lstM (I:Inv X pins σ H s) (hH:H l=some (.lst xs)):xs.length<=sizeLine/\∃(its:List Value) (n:Nat),Vals xs its/\xs.length=its.length/\s.heap.get? l=some {cls:= .type "list",data:= .seq its.toArray n}:=by
 obtain⟨z,its,n,r,e⟩:=I.hok l _ hH;exact⟨z,its,n,r,r.length,e⟩
theorem EM (h:n<=sizeLine):Builtin.List.listTooLong n=false:=by
 unfold Builtin.List.listTooLong;exact decide_eq_false (by lia)
end
section
def GZ:V->List V->Hp->VK->Prop:=λx vs H Q=>∃l xs y,x= .ref l/\vs=[y]/\H l=some (.lst xs)/\xs.length<sizeLine/\Q .non (upd H l (.lst (xs++ [y])))
theorem dX:MtM X "list.append" GZ:=by
 intro pins s σ H x vs v us Q I rx rv h;obtain⟨l,xs,y,rfl,rfl,hH,hz,q⟩:=h;cases rx;obtain⟨u,rfl,ru⟩:=rv.one;obtain⟨z,its,n,r,hl,e⟩:=I.lstM hH;refine call_meets F.slot_list_append ⟨_,e,rfl⟩ F.entry_list_append (F.args_list_append_2 _ _) (PySem.list_append l its.toArray n u (by rw[Qf];lia)) ⟨e,?_⟩;refine⟨.non,_,I.lset (its':=its++ [u]) hH e (by simp) (r.append (.cons ru .nil)) ?_,rfl,q⟩;rw[Qa,Z4];lia
def GY:V->List V->Hp->VK->Prop:=λx vs H Q=>∃l b xs zs,x= .ref l/\vs=[.ref b]/\H l=some (.lst xs)/\H b=some (.lst zs)/\xs.length+zs.length<=sizeLine/\Q .non (upd H l (.lst (xs++zs)))
theorem ni:MtM X "list.extend" GY:=by
 intro pins s σ H x vs v us Q I rx rv h;obtain⟨l,b,xs,zs,rfl,rfl,hH,hB,hz,q⟩:=h;cases rx;obtain⟨u,rfl,ru⟩:=rv.one;cases ru;obtain⟨z,its,n,r,hl,e⟩:=I.lstM hH;obtain⟨z2,its2,n2,r2,hl2,e2⟩:=I.lstM hB;have hsz:its.toArray.size+its2.toArray.size<=sizeLine:=by rw[Qf,Qf];lia
 have hlong:¬(!its.toArray.isEmpty&&Builtin.List.listTooLong (its.toArray.size+its2.toArray.size))=true:=by
  rw[EM hsz,Bool.and_false];exact Qi
 refine call_meets F.slot_list_extend ⟨_,e,rfl⟩ F.entry_list_extend (F.args_list_extend_2 _ _)
  (AutoSeq1.list_extend_list_list_0 l its.toArray n b its2.toArray n2 hlong (by rw[Qf];lia) (by lia)) ⟨e,e2,?_⟩
 refine⟨.non,_,I.lset (its':=its++its2) hH e (by simp) (r.append r2) ?_,rfl,q⟩;rw[Qa];lia
def IV:V->List V->Hp->VK->Prop:=λx vs H Q=>∃l xs i k y,x= .ref l/\vs=[.int i]/\H l=some (.lst xs)/\-(2^63)<=i/\i<2^63/\seqIndex? i xs.length=some k/\xs[k]?=some y/\Q y (upd H l (.lst (xs.eraseIdx k)))
theorem zF:MtM X "list.pop" IV:=by
 intro pins s σ H x vs v us Q I rx rv h;obtain⟨l,xs,i,k,y,rfl,rfl,hH,h1,h2,hk,hy,q⟩:=h;cases rx;obtain⟨u,rfl,ru⟩:=rv.one;obtain⟨t,rfl⟩:=ru;obtain⟨z,its,n,r,hl,e⟩:=I.lstM hH;obtain⟨w,hw,rw'⟩:=r.get hy;refine call_meets F.slot_list_pop ⟨_,e,rfl⟩ F.entry_list_pop (F.args_list_pop_2 _ _)
  (MeetsSeq.list_pop_at l its.toArray n i t k w (fitsIndex_both h1 h2) (by rw[Qf,<-hl];exact hk) (by rw[<-Qw];exact hw) (by rw[Qf];lia)) ⟨e,?_⟩
 refine⟨y,_,I.lset (its':=its.eraseIdx k) hH e ?_ (r.eraseIdx k) ?_,rw',q⟩
 .show its.toArray.eraseIdxIfInBounds k=(its.eraseIdx k).toArray;rw[XM]
 .have:=rE xs k;lia
def IY:V->List V->Hp->VK->Prop:=λx vs H Q=>∃l xs,x= .ref l/\vs=[]/\H l=some (.lst xs)/\Q .non (upd H l (.lst []))
theorem ES:MtM X "list.clear" IY:=by
 intro pins s σ H x vs v us Q I rx rv h;obtain⟨l,xs,rfl,rfl,hH,q⟩:=h;cases rx;have hus:=rv.zero;subst hus;obtain⟨z,its,n,r,hl,e⟩:=I.lstM hH;refine call_meets F.slot_list_clear ⟨_,e,rfl⟩ F.entry_list_clear (F.args_list_clear_1 _) (AutoSeq1.list_clear_list_0 l its.toArray n (by rw[Qf];lia)) ⟨e,?_⟩;exact⟨.non,_,I.lset (its':=[]) (ys:=[]) hH e rfl .nil (Qj _),rfl,q⟩
def rCat:R2:=λx y H Q=>∃l b xs zs,x= .ref l/\y= .ref b/\H l=some (.lst xs)/\H b=some (.lst zs)/\xs.length+zs.length<=sizeLine/\∀p,H p=none->Q (.ref p) (upd H p (.lst (xs++zs)))
theorem EJ:OpR X (binaryOp .Add) rCat:=by
 intro pins s σ H x y v u Q I rx ry h;obtain⟨l,b,xs,zs,rfl,rfl,hH,hB,hz,q⟩:=h;cases rx;cases ry;obtain⟨z,its,n,r,hl,e⟩:=I.lstM hH;obtain⟨z2,its2,n2,r2,hl2,e2⟩:=I.lstM hB;refine PySem.P.add_list e e2 ?_ (by rw[Qf,Qf];lia);have ea:its.toArray++its2.toArray=(its++its2).toArray:=by simp
 rw[ea];exact⟨.ref _,_,I.lnew (t':=s.toks) (r.append r2) (by rw[Qa];lia),rfl,q _ I.fresh⟩
end
end
section
section
variable {κ:Type} [DecidableEq κ]
def aO (kvs:List (κ×V)) (k:κ):Option V:=(kvs.find? λkv=>decide (kv.1=k)).map (·.2)
def bv (kvs:List (κ×V)) (k:κ) (v:V):List (κ×V):=
 if(kvs.any λkv=>decide (kv.1=k))=true then kvs.map (λkv=>if kv.1=k then(kv.1,v)else kv)else kvs++ [(k,v)]
def bT (kvs:List (κ×V)) (k:κ):List (κ×V):=kvs.filter λkv=>decide (kv.1≠k)
theorem lE {k:κ}:aO ([]:List (κ×V)) k=none:=rfl
theorem bp {p:κ×V} {r:List (κ×V)} {k:κ} (e:p.1=k):aO (p::r) k=some p.2:=by simp[aO,ZM,e]
theorem bj {p:κ×V} {r:List (κ×V)} {k:κ} (e:¬p.1=k):aO (p::r) k=aO r k:=by simp[aO,ZM,e]
theorem cK (k:κ):∀kvs:List (κ×V),(kvs.any λkv=>decide (kv.1=k))=(aO kvs k).isSome
 | []=>rfl
 |p::r=>by
  rw[ZU];by_cases e:p.1=k
  .simp only[bp e,decide_eq_true e,Bool.true_or,Option.isSome_some]
  .rw[bj e,decide_eq_false e,Bool.false_or];exact cK k r
theorem zb (k j:κ) (y:V):∀kvs:List (κ×V),aO (kvs.map λkv=>if kv.1=k then(kv.1,y)else kv) j=(aO kvs j).map λx=>if j=k then y else x
 | []=>rfl
 |p::r=>by
  have ih:=zb k j y r;rw[Qs];by_cases h:p.1=k
  .rw[if_pos h];by_cases e:p.1=j
   .rw[bp (p:=(p.1,y)) e,bp e,Xj,if_pos (e.symm.trans h)]
   .rw[bj (p:=(p.1,y)) e,bj e,ih]
  .rw[if_neg h];by_cases e:p.1=j
   .rw[bp (p:=p) e,bp e,Xj,if_neg (λz=>h (e.trans z))]
   .rw[bj (p:=p) e,bj e,ih]
theorem wQ (k j:κ) (y:V):∀kvs:List (κ×V),aO kvs k=none->aO (kvs++ [(k,y)]) j=if j=k then some y else aO kvs j
 | [],_=>by
  by_cases e:k=j
  .rw[if_pos e.symm];exact bp (p:=(k,y)) e
  .rw[if_neg (λz=>e z.symm)];exact bj (p:=(k,y)) e
 |p::r,hn=>by
  rw[List.cons_append];have hk:¬p.1=k:=λz=>by rw[bp z]at hn;cases hn
  rw[bj hk]at hn;have ih:=wQ k j y r hn;by_cases e:p.1=j
  .rw[bp e,bp e,if_neg (λz=>hk (e.trans z))]
  .rw[bj e,bj e,ih]
theorem gT (kvs:List (κ×V)) (k j:κ) (y:V):aO (bv kvs k y) j=if j=k then some y else aO kvs j:=by
 unfold bv;by_cases a:(kvs.any λkv=>decide (kv.1=k))=true
 .rw[if_pos a,zb];rw[cK]at a;by_cases e:j=k
  .obtain⟨x,hx⟩:=X8.mp a;rw[if_pos e,e,hx,Xj,if_pos rfl]
  .rw[if_neg e];cases aO kvs j with
   |none=>rfl
   |some x=>rw[Xj,if_neg e]
 .rw[if_neg a];refine wQ k j y kvs ?_;rw[cK]at a;cases q:aO kvs k with
  |none=>rfl
  |some x=>rw[q]at a;exact(a rfl).elim
theorem cc (kvs:List (κ×V)) (k:κ) (v:V):(bv kvs k v).length<=kvs.length+1:=by
 unfold bv;split
 .rw[Q0];lia
 .rw[Qa,Qp,ZZ];lia
theorem zu {kvs:List (κ×V)} {k:κ} (v:V) (h:aO kvs k=none):bv kvs k v=kvs++ [(k,v)]:=by
 unfold bv;rw[cK,h];exact if_neg (by decide)
theorem RelO.isSome_eq {u:Option Value} (r:RelO o u):o.isSome=u.isSome:=by
 cases o with
 |none=>cases u with
  |none=>rfl
  |some _=>exact(show False from r).elim
 |some _=>cases u with
  |none=>exact(show False from r).elim
  |some _=>rfl
theorem KV.val {kvs:List (κ×V)} {vs:List (κ×Value)} (r:KV kvs vs) (k:κ):RelO (aO kvs k) (valueAt vs k):=by
 unfold KV at r
 induction r with
 |nil=>exact True.intro
 | @cons p q ps qs h t ih=>
  obtain⟨h1,h2⟩:=h;by_cases e:p.1=k
  .have e':q.1=k:=h1.symm.trans e;have b:valueAt (q::qs) k=some q.2:=by simp[valueAt,ZM,e']
   rw[bp e,b];exact h2
  .have e':¬q.1=k:=λz=>e (h1.trans z);have b:valueAt (q::qs) k=valueAt qs k:=by simp[valueAt,ZM,e']
   rw[bj e,b];exact ih
theorem KV.any {kvs:List (κ×V)} {vs:List (κ×Value)} (r:KV kvs vs) (k:κ):(kvs.any λkv=>decide (kv.1=k))=vs.any λkv=>decide (kv.1=k):=by
 unfold KV at r
 induction r with
 |nil=>rfl
 |cons h t ih=>rw[ZU,ZU,ih,h.1]
theorem KV.repl {kvs:List (κ×V)} {vs:List (κ×Value)} (r:KV kvs vs) (k:κ) (ry:RelV y u):
  KV (kvs.map λkv=>if kv.1=k then(kv.1,y)else kv) (vs.map λkv=>if kv.1=k then(kv.1,u)else kv):=by
 unfold KV at r⊢
 induction r with
 |nil=>exact .nil
 | @cons p q ps qs h t ih=>
  rw[Qs,Qs];refine .cons ?_ ih;obtain⟨h1,h2⟩:=h;by_cases e:p.1=k
  .rw[if_pos e,if_pos (h1.symm.trans e)];exact⟨h1,ry⟩
  .rw[if_neg e,if_neg (λz=>e (h1.trans z))];exact⟨h1,h2⟩
theorem KV.put {kvs:List (κ×V)} {vs:List (κ×Value)} (r:KV kvs vs) (k:κ) (ry:RelV y u):KV (bv kvs k y) (stored vs k u):=by
 unfold bv stored;rw[r.any k];by_cases e:(vs.any λkv=>decide (kv.1=k))=true
 .rw[if_pos e,if_pos e];exact r.repl k ry
 .rw[if_neg e,if_neg e];exact Paired.snoc r ⟨rfl,ry⟩
theorem KV.drop {kvs:List (κ×V)} {vs:List (κ×Value)} (r:KV kvs vs) (k:κ):KV (bT kvs k) (without vs k):=by
 unfold KV at r⊢;unfold bT without
 induction r with
 |nil=>exact .nil
 | @cons p q ps qs h t ih=>
  obtain⟨h1,h2⟩:=h;rw[ZT,ZT];by_cases e:p.1=k
  .have a:¬decide (p.1≠k)=true:=by simp[e]
   have b:¬decide (q.1≠k)=true:=by simp[h1.symm.trans e]
   rw[if_neg a,if_neg b];exact ih
  .have e':¬q.1=k:=λz=>e (h1.trans z);have a:decide (p.1≠k)=true:=by simp[e]
   have b:decide (q.1≠k)=true:=by simp[e']
   rw[if_pos a,if_pos b];exact .cons ⟨h1,h2⟩ ih
theorem KV.length {kvs:List (κ×V)} {vs:List (κ×Value)} (r:KV kvs vs):kvs.length=vs.length:=Paired.length r
theorem Fz (kvs:List (κ×V)) (k:κ):(bT kvs k).length<=kvs.length:=Qo _ _
end
theorem sd {k:Key} (r:RelV (kV k) u):(a7 P w).is k u=true:=by
 cases k with
 |inl i=>obtain⟨t,e⟩:=(show ∃t,u=Value.int i t from r);subst e;exact zL P w i t
 |inr x=>obtain⟨t,e⟩:=(show ∃t,u=Value.str x t from r);subst e;exact zK P w x t
theorem xo {P:Program} {w:World}:∀{ks:List Key} {us:List Value},Vals (ks.map kV) us->ItemsAre (a7 P w) ks us
 | [],_,r=>by rw[XB]at r;cases r;exact .nil
 |k::ks,_,r=>by
  rw[Qs]at r;cases r with
  |cons h t=>exact .cons (sd h) (xo t)
abbrev KT (H:Hp):List (List Key×V)->List (List Key×Addr×Value)->Prop:=Paired λp q=>p.1=q.1/\H q.2.1=some (.tup (p.1.map kV))/\RelV p.2 q.2.2
theorem KT.val {kvs:List (List Key×V)} {xs:List (List Key×Addr×Value)} (r:KT H kvs xs) (k:List Key):RelO (aO kvs k) ((atKey xs k).map (·.2)):=by
 induction r with
 |nil=>exact True.intro
 | @cons p q ps qs h t ih=>
  obtain⟨h1,_,h2⟩:=h;by_cases e:p.1=k
  .have e':q.1=k:=h1.symm.trans e;have b:atKey (q::qs) k=some q.2:=by simp[atKey,ZM,e']
   rw[bp e,b];exact h2
  .have e':¬q.1=k:=λz=>e (h1.trans z);have b:atKey (q::qs) k=atKey qs k:=by simp[atKey,ZM,e']
   rw[bj e,b];exact ih
theorem KT.repl {kvs:List (List Key×V)} {xs:List (List Key×Addr×Value)} (r:KT H kvs xs) (k:List Key) (ry:RelV y u):
  KT H (kvs.map λkv=>if kv.1=k then(kv.1,y)else kv) (xs.map (putAt k u)):=by
 induction r with
 |nil=>exact .nil
 | @cons p q ps qs h t ih=>
  rw[Qs,Qs];refine .cons ?_ ih;obtain⟨h1,h2,h3⟩:=h;unfold putAt;by_cases e:p.1=k
  .rw[if_pos e,if_pos (h1.symm.trans e)];exact⟨h1,h2,ry⟩
  .rw[if_neg e,if_neg (λz=>e (h1.trans z))];exact⟨h1,h2,h3⟩
theorem KT.put {kvs:List (List Key×V)} {xs:List (List Key×Addr×Value)} (r:KT H kvs xs) (k:List Key) (hb:H b=some (.tup (k.map kV))) (ry:RelV y u):
  KT H (bv kvs k y) (storedH xs k b u):=by
 have e:(kvs.any λkv=>decide (kv.1=k))=(atKey xs k).isSome:=by
  rw[cK,(r.val k).isSome_eq,XC]
 unfold bv storedH;rw[e];by_cases q:(atKey xs k).isSome=true
 .rw[if_pos q,if_pos q];exact r.repl k ry
 .rw[if_neg q,if_neg q];exact Paired.snoc r ⟨rfl,hb,ry⟩
theorem KT.keeps {kvs:List (List Key×V)} {xs:List (List Key×Addr×Value)} (r:KT H kvs xs) (ht:∀b ys,H b=some (.tup ys)->H' b=some (.tup ys)):KT H' kvs xs:=
 Paired.mapP r λ_ _ z=>⟨z.1,ht _ _ z.2.1,z.2.2⟩
section
variable {h:Heap}
theorem Ie {u:HO} (ok:HOk P w H h) (e:Rd H a u):ObjOk P w H h a u:=e.ok ok
theorem oj (ok:HOk P w H h) (e:Rd H a (.dK kvs)):kvs.length<=sizeLine/\(a==sysModules)=false/\∃vs,KV kvs vs/\h.DictOf (a7 P w) a vs:=
 show ObjOk P w H h a (.dK kvs) from Ie ok e
theorem jN (ok:HOk P w H h) (e:H a=some (.dK kvs)):kvs.length<=sizeLine/\(a==sysModules)=false/\∃vs,KV kvs vs/\h.DictOf (a7 P w) a vs:=oj ok (.inl e)
theorem uY {ks:List Key} (ok:HOk P w H h) (e:H a=some (.tup (ks.map kV))):(tupleKind (a7 P w)).is h ks a:=by
 obtain⟨_,its,r,o,h1,h2,n,h3⟩:=(show ObjOk P w H h a (.tup (ks.map kV)) from ok a _ e);exact⟨o,its.toArray,n,h1,h2,h3,by simpa using xo r⟩
theorem zV {kvs:List (List Key×V)} (ok:HOk P w H h) (e:Rd H a (.dT kvs)):kvs.length<=sizeLine/\(a==sysModules)=false/\
  ∃xs,KT H kvs xs/\h.DictOfH (tupleKind (a7 P w)) a xs:=by
 obtain⟨z,y,xs,r,o,es,ep,h1,h2,h3,h4,h5⟩:=(show ObjOk P w H h a (.dT kvs) from Ie ok e);refine⟨z,y,xs,r,o,es,ep,h1,h2,h3,h4,λx hx=>?_,h5⟩;have all:∀{l:List (List Key×V)} {m:List (List Key×Addr×Value)},KT H l m->∀x∈m,(tupleKind (a7 P w)).is h x.1 x.2.1:=by
  intro l m q
  induction q with
  |nil=>intro x hx;exact nomatch hx
  | @cons p q ps qs hq t ih=>
   intro x hx;rcases Qg.mp hx with e|hx
   .subst e;exact uY ok (by rw[<-hq.1];exact hq.2.1)
   .exact ih x hx
 exact all r x hx
theorem KI {kvs:List (List Key×V)} (ok:HOk P w H h) (e:H a=some (.dT kvs)):kvs.length<=sizeLine/\(a==sysModules)=false/\
  ∃xs,KT H kvs xs/\h.DictOfH (tupleKind (a7 P w)) a xs:=zV ok (.inl e)
end
def DGet (H:Hp) (a:Addr) (y:V) (r:Option V):Prop:=
 (∃kvs k,Rd H a (.dK kvs)/\y=kV k/\r=aO kvs k)\/∃kvs k b,Rd H a (.dT kvs)/\y= .ref b/\H b=some (.tup (k.map kV))/\r=aO kvs k
def DPut (H:Hp) (a:Addr) (y v:V) (H':Hp):Prop:=
 (∃kvs k,H a=some (.dK kvs)/\y=kV k/\kvs.length<sizeLine/\H'=upd H a (.dK (bv kvs k v)))\/
 ∃kvs k b,H a=some (.dT kvs)/\y= .ref b/\H b=some (.tup (k.map kV))/\kvs.length<sizeLine/\H'=upd H a (.dT (bv kvs k v))
theorem DGet.k {k:Key} (e:H a=some (.dK kvs)):DGet H a (kV k) (aO kvs k):= .inl ⟨kvs,k,.inl e,rfl,rfl⟩
theorem DPut.k {k:Key} (e:H a=some (.dK kvs)) (hl:kvs.length<sizeLine):DPut H a (kV k) v (upd H a (.dK (bv kvs k v))):= .inl ⟨kvs,k,e,rfl,hl,rfl⟩
section
variable {r:Value}
theorem Inv.big (I:Inv X pins σ H s):sysModules<s.heap.objs.size:=by
 have h:mainGlobals<s.heap.objs.size:=(I.mod.glob.keeps I.bk).lt;exact Nat.lt_trans (by decide) h
theorem Dv (hu:A.units+1<cLine) (I:Inv X pins σ H s) (g:DGet H a y (some v)) (ry:RelV y u) (h:∀w' s',Inv X pins σ H s'->RelV v w'->Q w' s'):
  wpAny (model X.prog X.w) A (getItem (.ref a) u) Q E s:=by
 rcases g with⟨kvs,k,e,ey,l⟩|⟨kvs,k,b,e,ey,eb,l⟩
 .subst ey;obtain⟨z,hd,vs,rel,dd⟩:=oj I.hok e;obtain⟨w',hw,rw'⟩:=RelO.some_of (v:=v) (o:=valueAt vs k) (by rw[l];exact rel.val k);exact wpAny_getItem_of (sd ry) dd.mapOf hw (h w' _ (I.tok _) rw')
 .subst ey;cases (show u=Value.ref b from ry);obtain⟨z,hd,xs,rel,dd⟩:=zV I.hok e;obtain⟨w',hw,rw'⟩:=RelO.some_of (v:=v) (o:=(atKey xs k).map (·.2)) (by rw[l];exact rel.val k);obtain⟨p,hp,hp2⟩:=Zf.mp hw;refine wpAny_getItem_heap (tupleKind_room_in1 hu) (uY I.hok eb) dd hp ?_;rw[hp2];exact h w' _ (I.tok _) rw'
theorem d_in (hu:A.units+1<cLine) (I:Inv X pins σ H s) (g:DGet H a y o) (ry:RelV y u) (h:∀s',Inv X pins σ H s'->Q (.bool o.isSome) s'):
  wpAny (model X.prog X.w) A (compareOp .In u (.ref a)) Q E s:=by
 rcases g with⟨kvs,k,e,ey,l⟩|⟨kvs,k,b,e,ey,eb,l⟩
 .subst ey;obtain⟨z,hd,vs,rel,dd⟩:=oj I.hok e;refine wpAny_in_of (sd ry) hd dd.mapOf ?_;rw[<-(rel.val k).isSome_eq,<-l];exact h _ (I.tok _)
 .subst ey;cases (show u=Value.ref b from ry);obtain⟨z,hd,xs,rel,dd⟩:=zV I.hok e;refine wpAny_in_heap (tupleKind_room_in1 hu) (uY I.hok eb) hd dd ?_;have q:=(rel.val k).isSome_eq;rw[XC]at q;rw[<-q,<-l];exact h _ (I.tok _)
theorem Hv (hu:A.units+1<cLine) (I:Inv X pins σ H s) (g:DGet H a y o) (ry:RelV y u) (h:∀s',Inv X pins σ H s'->Q (.bool (!o.isSome)) s'):
  wpAny (model X.prog X.w) A (compareOp .NotIn u (.ref a)) Q E s:=by
 rcases g with⟨kvs,k,e,ey,l⟩|⟨kvs,k,b,e,ey,eb,l⟩
 .subst ey;obtain⟨z,hd,vs,rel,dd⟩:=oj I.hok e;refine wpAny_notIn_of (sd ry) hd dd.mapOf ?_;rw[<-(rel.val k).isSome_eq,<-l];exact h _ (I.tok _)
 .subst ey;cases (show u=Value.ref b from ry);obtain⟨z,hd,xs,rel,dd⟩:=zV I.hok e;refine wpAny_notIn_heap (tupleKind_room_in1 hu) (uY I.hok eb) hd dd ?_;have q:=(rel.val k).isSome_eq;rw[XC]at q;rw[<-q,<-l];exact h _ (I.tok _)
theorem qi {ob:HO} (I:Inv X pins σ H s) (mu:Mut (H a)) (hs:Heap.SameBut a s.heap h') (he:∃q,h'.get? a=some q) (new:ObjOk X.prog X.w (upd H a ob) h' a ob):
  Inv X pins σ (upd H a ob) {s with heap:=h',toks:=t'}:=
 I.write (x:=a) (e:=a) mu (.inl rfl) (λb q hb z=>(hs.2 b hb).trans z) he new
theorem yG (z:kvs.length<=sizeLine) (hd:(a==sysModules)=false) (rel:KV kvs vs) (dd:h'.DictOf (a7 P w) a vs):
  ObjOk P w H' h' a (.dK kvs):=⟨z,hd,vs,rel,dd⟩
theorem Du {Q:Unit->Shared->Prop} (hu:A.units+1<cLine) (I:Inv X pins σ H s) (g:DPut H a y v H') (ry:RelV y u) (rv:RelV v r) (h:∀s',Inv X pins σ H' s'->Q () s'):
  wpAny (model X.prog X.w) A (setItem (.ref a) u r) Q E s:=by
 rcases g with⟨kvs,k,e,ey,l,eH⟩|⟨kvs,k,b,e,ey,eb,l,eH⟩
 .subst ey eH;obtain⟨z,hd,vs,rel,dd⟩:=jN I.hok e;have hz:vs.length<=sizeLine:=by rw[<-rel.length];exact z
  have hl:(bv kvs k v).length<=sizeLine:=by have:=cc kvs k v;lia
  refine wpAny_setItem_pairs (hsz:=hz) (sd ry) dd λh' dd' hs=>h _ ?_;have he:∃q,h'.get? a=some q:=let⟨q,_,_,hq,_⟩:=dd';⟨q,hq⟩
  exact qi I (by rw[e];exact True.intro) hs he (yG hl hd (rel.put k rv) dd')
 .subst ey eH;cases (show u=Value.ref b from ry);obtain⟨z,hd,xs,rel,dd⟩:=KI I.hok e;have hz:xs.length<=sizeLine:=by rw[<-Paired.length rel];exact z
  have hl:(bv kvs k v).length<=sizeLine:=by have:=cc kvs k v;lia
  refine wpAny_setItem_heap (hsz:=hz) (tupleKind_room_in1 hu) (uY I.hok eb) dd λh' dd' hs=>h _ ?_;obtain⟨q,es,ep,hq,h2,h3,h4,_,h5⟩:=dd';refine qi I (by rw[e];exact True.intro) hs ⟨q,hq⟩ ⟨hl,hd,_,(rel.put k eb rv).keeps λc ys ec=>?_,q,es,ep,hq,h2,h3,h4,h5⟩;rw[af (cm ec e (λz=>nomatch z))];exact ec
end
section
variable {k:Key}
theorem KJ {more:List Value} (I:Inv X pins σ H s) (e:H a=some (.dK kvs)) (ry:RelV (kV k) u) (l:aO kvs k=some v) (hm:more=[]\/∃x,more=[x])
  (h:∀w' s',Inv X pins σ (upd H a (.dK (bT kvs k))) s'->RelV v w'->Q w' s'):wpAny (model X.prog X.w) A (call (.builtin "dict.pop") (.ref a::u::more)) Q E s:=by
 obtain⟨z,hd,vs,rel,dd⟩:=jN I.hok e;obtain⟨w',hw,rw'⟩:=RelO.some_of (v:=v) (o:=valueAt vs k) (by rw[<-l];exact rel.val k);have hp:(keyPart u).isSome=true:=by
  cases k with
  |inl i=>obtain⟨t,q⟩:=(show ∃t,u=Value.int i t from ry);subst q;rfl
  |inr x=>obtain⟨t,q⟩:=(show ∃t,u=Value.str x t from ry);subst q;rfl
 have ha:argsOk "dict.pop" ⟨.ref a::u::more,[]⟩:=by
  rcases hm with q|⟨x,q⟩
  .subst q;exact PySem.F.args_dict_pop_2 _ _
  .subst q;exact PySem.F.args_dict_pop_3 _ _ _
 refine call_meetsIn Xk dd.typeIs PySem.F.entry_dict_pop ha (meets_dict_pop_there (a7 X.prog X.w) a (sd ry) more hm hp)
  ⟨vs,w',dd,by rw[<-rel.length];exact z,hw,λh' dd' hs=>h w' _ ?_ rw'⟩
 have he:∃q,h'.get? a=some q:=let⟨q,_,_,hq,_⟩:=dd';⟨q,hq⟩
 exact qi I (by rw[e];exact True.intro) hs he (yG (QD (Fz kvs k) z) hd (rel.drop k) dd')
theorem KK (I:Inv X pins σ H s) (e:Rd H a (.dK kvs)) (h:∀t s',Inv X pins σ H s'->Q (.int kvs.length t) s'):wpAny (model X.prog X.w) A (call (.builtin "len") [.ref a]) Q E s:=by
 obtain⟨z,hd,vs,rel,dd⟩:=oj I.hok e;refine call_len_dict hd dd (by rw[<-rel.length];rw[sizeLine_eq]at z;lia) ?_;rw[<-rel.length];exact h _ _ (I.tok _)
end
def NoSl (i:Expr):Prop:=∀ov iv,subscripted i false ov iv=operate [ov,iv] (getItem ov iv)
theorem GN {prog:Program} {env:Env} {value slice:Expr} {id:String} 
  (hl:typeLookup (.type T) "__getitem__"=pure (some (.builtin id))) (hs:NoSl slice)
  (h:wpAny (model prog w) A (eval value env) (λo s₁=>wpAny (model prog w) A (eval slice env) (λi s₂=>s₂.TypeIs o T/\wpAny (model prog w) A (getItem o i) Q E s₂) E s₁) E s):
  wpAny (model prog w) A (eval (.Subscript value slice pos) env) Q E s:=by
 refine Subscript_ (wpAny_mono h (λo s₁ h₁=>wpAny_mono h₁ (λi s₂ h₂=>?_) λ_ _ x=>x) λ_ _ x=>x);obtain⟨hT,h₂⟩:=h₂;unfold subscriptTail;refine wpAny_bind ?_;rw[getitemInPython_of_ne hT.not_modules];refine wpAny_bind (wpAny_specialOf hT hl ?_);have fin:wpAny (model prog w) A (subscripted slice false o i) (λr s₃=>wpAny (model prog w) A (letTemporaryGo value o r>>=λ_=>pure r) Q E s₃) E s₂:=by
  rw[hs o i];exact wpAny_operating (wpAny_mono h₂ (λr s₃ h₃=>wpAny_bind (wpAny_letTemporaryGo (wpAny_pure h₃))) λ_ _ x=>x)
 first
  |exact wpAny_pure (wpAny_bind fin)
  |exact wpAny_bind (wpAny_pure (wpAny_bind fin))
  |exact wpAny_bind fin
theorem zZ (I:Inv X pins σ H s) (g:DGet H a y o):s.TypeIs (.ref a) "dict":=by
 rcases g with⟨kvs,k,e,_,_⟩|⟨kvs,k,b,e,_,_,_⟩
 .obtain⟨_,_,vs,_,dd⟩:=oj I.hok e;exact dd.typeIs
 .obtain⟨_,_,xs,_,dd⟩:=zV I.hok e;exact dd.typeIs
def Ke (td ty:TE):TE:=λσ H Q=>td σ H λx H1=>ty σ H1 λy H2=>∃a v,x= .ref a/\DGet H2 a y (some v)/\Q v H2
def tDIn (ty td:TE):TE:=λσ H Q=>ty σ H λy H1=>td σ H1 λx H2=>∃a o,x= .ref a/\DGet H2 a y o/\Q (.bl o.isSome) H2
def GL (ty td:TE):TE:=λσ H Q=>ty σ H λy H1=>td σ H1 λx H2=>∃a o,x= .ref a/\DGet H2 a y o/\Q (.bl (!o.isSome)) H2
def Kj (td ty tv:TE):TS:=λD σ H=>tv σ H λv H1=>td σ H1 λx H2=>ty σ H2 λy H3=>∃a H4,x= .ref a/\DPut H3 a y v H4/\D.nx σ H4
section
variable {o i value:Expr} {pos' tpos:Pos} {td ty tv:TE}
theorem G3 (hu:X.A.units+1<cLine) (ho:PE X o td) (hi:PE X i ty) (hs:NoSl i):PE X (.Subscript o i pos) (Ke td ty):=by
 intro pins s σ H Q I h;refine GN PySem.F.slot_dict_getitem.lookup hs (thn (ho pins s σ H _ I h) λu s1 ⟨x,H1,I1,rx,q1⟩=>thn (hi pins s1 σ H1 _ I1 q1) λiv s2 hzz=>?_);obtain⟨y,H2,I2,ry,a,v,ex,g,q2⟩:=hzz;subst ex;obtain rfl:u=Value.ref a:=rx;exact⟨zZ I2 g,Dv hu I2 g ry λw' s3 I3 rw'=>⟨v,H2,I3,rw',q2⟩⟩
theorem EG (hu:X.A.units+1<cLine) (hi:PE X i ty) (ho:PE X o td):PC X .In i o (tDIn ty td):=by
 intro pins s σ H Q I h;refine thn (hi pins s σ H _ I h) λiv s1 ⟨y,H1,I1,ry,q1⟩=>thn (ho pins s1 σ H1 _ I1 q1) λu s2 hzz=>?_;obtain⟨x,H2,I2,rx,a,ov,ex,g,q2⟩:=hzz;subst ex;obtain rfl:u=Value.ref a:=rx;exact d_in hu I2 g ry λs3 I3=>⟨.bl ov.isSome,H2,I3,rfl,q2⟩
theorem w6 (hu:X.A.units+1<cLine) (hi:PE X i ty) (ho:PE X o td):PC X .NotIn i o (GL ty td):=by
 intro pins s σ H Q I h;refine thn (hi pins s σ H _ I h) λiv s1 ⟨y,H1,I1,ry,q1⟩=>thn (ho pins s1 σ H1 _ I1 q1) λu s2 hzz=>?_;obtain⟨x,H2,I2,rx,a,ov,ex,g,q2⟩:=hzz;subst ex;obtain rfl:u=Value.ref a:=rx;exact Hv hu I2 g ry λs3 I3=>⟨.bl (!ov.isSome),H2,I3,rfl,q2⟩
theorem yi (hu:X.A.units+1<cLine) (ho:PE X o td) (hi:PE X i ty) (hv:PE X value tv) (hs:swapsWith value (some (.Subscript o i pos')) pos.line X.env=pure false):
  PS X (.Assign [.Subscript o i pos'] value pos) (Kj td ty tv):=by
 intro pins s σ H D I h;refine wpAny_Assign_Subscript (thn (hv pins s σ H _ I h) λr s1 ⟨v,H1,I1,rv,q1⟩=>thn (ho pins s1 σ H1 _ I1 q1) λu s2 ⟨x,H2,I2,rx,q2⟩=>thn (hi pins s2 σ H2 _ I2 q2) λiv s3 hzz=>?_) hs;obtain⟨y,H3,I3,ry,a,H4,ex,g,q3⟩:=hzz;subst ex;obtain rfl:u=Value.ref a:=rx;exact Du hu I3 g ry rv λs4 I4=>⟨σ,H4,I4,q3⟩
end
theorem vc (h:Heap) (hb:sysModules<h.objs.size):ObjOk P w H (h.push {cls:= .type "dict",data:= .dict #[]}) h.objs.size (.dK []):=
 ⟨Qj _,beq_eq_false_iff_ne.mpr (Ne.symm (QC hb)),[],.nil,Heap.DictOf.new h⟩
def IQ:TE:=λ_ H Q=>∀p,H p=none->Q (.ref p) (upd H p (.dK []))
section
theorem eJ:PE X (.Dict [] [] pos) IQ:=λpins s σ H Q I h=>
 wpAny_Dict_empty ⟨.ref s.heap.objs.size,_,I.laid (a:=s.heap.objs.size) (o:= .dK []) (t':=s.toks) (λ_ _ q=>Heap.get?_push_of_some _ q) (Q4 _) (vc s.heap I.big),rfl,h _ (I.hok.fresh (Q4 _))⟩
end
end
end L2
namespace Att
open PySem PySem.W PySem.Calls PyProof.Rows
variable {h:Heap} {n:Nat} {l:OpenLaw} {P:Params} {YP:World->Heap->Prop}
theorem tD:∀(ns:List Int) (vs:List Value),WellAll P h vs (ns.map WData.int)->IntsAre vs ns:=by
 intro ns
 induction ns with
 |nil=>
  intro vs w;rw[XB]at w;cases w;exact .nil
 |cons n ns ih=>
  intro vs w;rw[Qs]at w;cases w with
  |cons a b=>
   cases a;exact .cons _ _ (ih _ b)
theorem CJ (hn:l.most=some n) {args:List WData} {vals:List Value}
  (hpre:l.row.toRowW.claim.pre args=true) (hwl:WellAll P h vals args):
  ∃a vs ns,vals=[Value.ref a]/\args=[WData.list (ns.map WData.int)]/\h.get? a=some {cls:= .type "list",data:= .seq vs.toArray}/\IntsAre vs ns/\ns.length<=n:=by
 have hsh:WShape.hasAll [] args [.list .int]=true:=(pre_splitW hpre).1;have hc:l.pre.holds [] {args:=args}=true:=(pre_splitW hpre).2;obtain⟨d,r,rfl,h1,h2⟩:=hasAllW_cons hsh;obtain rfl:=hasAllW_nil h2;obtain⟨xs,rfl,h3⟩:=hasW_list h1;obtain⟨ns,rfl⟩:=items_int h3;have hlen:ns.length<=n:=by
  unfold OpenLaw.pre at hc;have h4:(WTm.not (.lt (.lit (.int (n:Int))) (.len (.arg 0)))).holds [] {args:=[.list (ns.map .int)]}=true:=by
   have h4:=(holds_andW hc).1;rw[hn]at h4;exact h4
  have h5:=condW_of h4 (w_not (w_lt w_lit (w_len_list (w_arg rfl))));rw[Q0]at h5;refine Nat.le_of_not_lt λq=>?_;have q':(n:Int)<((ns.length:Nat):Int):=by lia
  first
   |(rw[decide_eq_true q']at h5;exact absurd h5 (by decide))
   |(simp at h5;lia)
 cases hwl with
 |cons w1 w2=>
  cases w2;cases w1 with
  |list ho hall=>exact⟨_,_,ns,rfl,rfl,ho,tD ns _ hall,hlen⟩
theorem CM (l:OpenLaw) (args:List WData):l.row.toRowW.claim.post args (.bool true) args=true:=
 postW_of (r:=l.row.toRowW) (X:=(true==true))
  (show WShape.has [] (.bool true) .bool=true by first|rfl|decide|simp[WShape.has,WShape.arms,WShape.armsAll])
  (show(WTm.eq .res (.lit (.bool true))).value [] {args:=args,res:=some (.bool true),after:=args}=some (.bool (true==true)) from w_eq_bool (w_res rfl) w_lit) rfl
theorem attach_call {q:Program} {loose:List Str} {XP:(Str->Option Value)->Heap->Prop} {d:DefRec}
  (hn:l.most=some n) (hdf:d.params.defaults=[])
  (call:∀(w:World) (s₀ s₁:Shared) (mg mb:Str->Option Value) (fa:Addr) (o:Obj) (pm cd doc:Value) (a:Addr) (vs:List Value) (ns:List Int),
   Ground q loose [] XP w s₀ mg mb s₁.heap->YP w s₁.heap->
   s₁.heap.get? fa=some o->o.data= .func (docDef d.name d.params d.body d.scope pm cd doc)->s₁.heap.CodeRec cd d.name->mg d.name=some (.ref fa)->
   s₁.heap.get? a=some {cls:= .type "list",data:= .seq vs.toArray}->IntsAre vs ns->ns.length<=n->s₁.gens= #[]->
   codeAny (model l.prog w) callerA (.call (.ref fa) ⟨[.ref a],[]⟩) (λr s'=>r= .ok (.ret (.bool true))/\OldK s₁.heap s'.heap/\s'.os=s₁.os/\AllBare s'.gens) s₁):
  WalkO q loose XP YP l.row.toRowW d [] (λf vs=>PySem.call f vs):=by
 intro w s₀ s₁ mg mb G Y fa o pm cd doc dV kV ho hd hcd hD hmg hg args vals as hpre hlay hrd hwl hlo;obtain rfl:dV= .none:=Dflts.none hD hdf;obtain rfl:kV= .none:=Dflts.noKw hD;obtain⟨a,vs,ns,rfl,rfl,hobj,hints,hlen⟩:=CJ hn hpre hwl;refine enter_call (codeAny_mono (call w s₀ s₁ mg mb fa o pm cd doc a vs ns G Y ho (fd_plain hd) hcd hmg hobj hints hlen hg) λr s' hq=>?_);obtain⟨rfl,h2,h3,h4⟩:=hq;exact⟨.inl ⟨.bool true,.bool true,[],rfl,λ_=>rfl,.bool true,CM l _,λ_=>⟨List.Pairwise.nil,λ_ hm=>(nomatch hm)⟩⟩,h2,h3,h4⟩
end Att
namespace L2
open PySem PySem.Spec PyProof.Rows
variable {a f:Addr} {X:Cx} {fd:FuncData} {base:Heap} {H:Hp} {ns:List Int} {N:List Str} {n:Nat} {P:Program} {A B c:Prop} {K:PySem.W.Frag} {sp:Sp} {σ:St} {st:Stmt} {qual x:Str} {nx:St->Hp->Prop} {g:TG} {tb:TS} {rt:VK} {w:World} {YP:World->Heap->Prop}
section
theorem wP:∀{vs:List Value} {ns:List Int},IntsAre vs ns->Vals (ns.map V.int) vs
 |_,_,.nil=> .nil
 |_,_,.cons n t h=> .cons ⟨t,rfl⟩ (wP h)
def JS (H:Hp):Prop:=∀b,H b=none\/∃o xs,H b=some (.frz o (.lst xs))
theorem Fa {mg mb:Str->Option Value} {CX:CXT} {k:Nat} {fa:Addr} {s₁:Shared} {vs:List Value} 
  (KX:K.In s₁.heap) (hns:s₁.heap.Ns mainGlobals mg) (hb:s₁.heap.Ns builtinsNs mb) (hbb:∀x:Str,x≠"__name__"->mb x=bootBuiltins x) (hlim:s₁.heap.NoLimit) (hg:s₁.gens= #[])
  (ha:s₁.heap.get? a=some {cls:= .type "list",data:= .seq vs.toArray}) (hi:IntsAre vs ns) (hl:ns.length<=sizeLine) (hr:Room k callerA)
  (F:∀base:Heap,K.In base->base.Ns mainGlobals mg->FnOk P w K mg base CX k fa fd [x] sp) (hbind:∀(s:Shared) (u:Value),BindsTo s fd ⟨[u],[]⟩ [(x,u)])
  (hsp:∀H:Hp,JS H->SqL K H a (ns.map V.int)->sp [.ref a] H (λv _=>v= .bl true) λ_ _ _=>False)
  (hCX:∀H e s',CX [] H s₁ (λ_ _ _=>False) e s'->False):
  codeAny (model P w) callerA (.call (.ref fa) ⟨[.ref a],[]⟩) (λr s'=>r= .ok (.ret (.bool true))/\OldK s₁.heap s'.heap/\s'.os=s₁.os/\AllBare s'.gens) s₁:=by
 have rv:=wP hi;have lenV:=hi.length;have core:∀H:Hp,JS H->SqL K H a (ns.map V.int)->HOk P w H s₁.heap->(∀b,H b≠none->b=a)->(H a≠none->K.lookup a=none)->
   codeAny (model P w) callerA (.call (.ref fa) ⟨[.ref a],[]⟩) (λr s'=>r= .ok (.ret (.bool true))/\OldK s₁.heap s'.heap/\s'.os=s₁.os/\AllBare s'.gens) s₁:=by
  intro H hO hS hok hA hK;have base_of:∀{b:Addr} {o:Obj},s₁.heap.get? b=some o->H b=none->(yC s₁.heap H).get? b=some o:=λe n=>Fi e n;have noA:∀{b:Addr} {o:Obj} {es:Array DictEntry} {ep:Nat},s₁.heap.get? b=some o->o.data= .dict es ep->H b=none:=λ{b o es ep} e d=>by
   cases q:H b with
   |none=>rfl
   |some u=>
    have e':b=a:=hA b (by rw[q];simp);subst e';rw[ha]at e;cases e;have d':Data.seq vs.toArray _=Data.dict es ep:=d;cases d'
  have nsK:∀{b:Addr} {m:Str->Option Value},s₁.heap.Ns b m->(yC s₁.heap H).Ns b m:=λ{b m} ⟨o,es,ep,e,d,r⟩=>⟨o,es,ep,base_of e (noA e d),d,r⟩;have hKb:K.In (yC s₁.heap H):=λb o e=>base_of (KX b o e) (by
   cases q:H b with
   |none=>rfl
   |some u=>
    have e':b=a:=hA b (by rw[q];simp);subst e';rw[hK (by rw[q];simp)]at e;cases e)
  have hM:Mod K mg (yC s₁.heap H):=⟨hKb,nsK hns,⟨mb,nsK hb,hbb⟩,let⟨mc,h1,h2⟩:=hlim;⟨mc,nsK h1,h2⟩⟩;have e0:Env0 P w K mg (yC s₁.heap H) callerA [] s₁ H:=⟨rfl,hM,λb o e=>G7 e,Zr (Dn _ _),trivial,λb hb=>absurd (show b∈([]:List Addr) from hb) (by simp),hok,.of_eq hg⟩;refine codeAny_mono ((F _ hKb (nsK hns)).run callerA [] s₁ H ⟨[.ref a],[]⟩ [.ref a] [.ref a] _ _ hr e0 (hbind s₁ (.ref a)) (.cons rfl .nil) (hsp H hO hS)) λr s' h=>?_;cases r with
  |error e=>exact(hCX H e s' h).elim
  |ok fl=>
   cases fl with
   |next=>exact False.elim h
   |brk=>exact False.elim h
   |cont=>exact False.elim h
   |ret u=>
    obtain⟨v,H',os,bare,un,hok',r',q⟩:=h;have q':v= .bl true:=q;subst q';obtain rfl:u=Value.bool true:=r';refine⟨rfl,OldK.of_keep λb o e=>?_,os,bare⟩;cases q:H b with
    |none=>exact un.keep b o e q (by intro z;exact absurd (show b∈([]:List Addr) from z) (by simp)) (by simp)
    |some u=>
     rcases hO b with z|⟨ob,xs,z⟩
     .rw[q]at z;cases z
     .have z2:=un.frzs b ob _ z;obtain⟨e1,_⟩:=hok b _ z;obtain⟨e2,_⟩:=hok' b _ z2;rw[e]at e1;cases e1;exact e2
 cases hk:K.lookup a with
 |some o=>
  have e:=KX a o hk;rw[ha]at e;cases e;refine core (λ_=>none) (λ_=> .inl rfl) (.inr ⟨_,vs.toArray,_,hk,rfl,rfl,rfl,by rw[Qf,lenV];exact hl,by simpa using rv⟩) (λb u z=>by have z':(none:Option HO)=some u:=z;cases z') (λb z=>absurd rfl z) λz=>absurd rfl z
 |none=>
  refine core (λb=>if b=a then some (.frz {cls:= .type "list",data:= .seq vs.toArray} (.lst (ns.map V.int)))else none) (λb=>?_) (.inl (.inr ⟨{cls:= .type "list",data:= .seq vs.toArray},if_pos rfl⟩)) (λb u z=>?_) (λb z=>?_) λ_=>hk
  .by_cases hb:b=a
   .exact .inr ⟨_,_,if_pos hb⟩
   .exact .inl (if_neg hb)
  .by_cases hb:b=a
   .have z':=(if_pos hb).symm.trans z;cases z';subst hb;exact⟨ha,by rw[Q0];exact hl,vs,_,rv,ha⟩
   .have z':=(if_neg hb).symm.trans z;cases z'
  .by_cases hb:b=a
   .exact hb
   .exact absurd (if_neg hb) z
end
section
theorem walk_of {l:PySem.W.OpenLaw} {k:Nat} {q:Program} {loose:List Str} {XP:(Str->Option Value)->Heap->Prop} {d:DefRec} {K:Params->PySem.W.Frag} {CX:World->CXT} {sp:World->Sp} 
  (hn:l.most=some n) (hn2:n<=sizeLine) (hdf:d.params.defaults=[]) (hr:Room k callerA)
  (hY:∀(w:World) (h:Heap),YP w h->(K w.params).In h)
  (F:∀(w:World) (mg:Str->Option Value) (fa:Addr) (h:Heap),(K w.params).In h->h.Ns mainGlobals mg->mg d.name=some (.ref fa)->
   ∃fd:FuncData,(∀(s:Shared) (u:Value),BindsTo s fd ⟨[u],[]⟩ [(x,u)])/\
    ∀base:Heap,(K w.params).In base->base.Ns mainGlobals mg->FnOk l.prog w (K w.params) mg base (CX w) k fa fd [x] (sp w))
  (hsp:∀(w:World) (H:Hp) (a:Addr) (ns:List Int),ns.length<=n->JS H->SqL (K w.params) H a (ns.map V.int)->sp w [.ref a] H (λv _=>v= .bl true) λ_ _ _=>False)
  (hCX:∀(w:World) (H:Hp) (s:Shared) (e:Value) (s':Shared),CX w [] H s (λ_ _ _=>False) e s'->False):
  PySem.W.WalkO q loose XP YP l.row.toRowW d [] (λf vs=>PySem.call f vs):=by
 refine Att.attach_call hn hdf λw s₀ s₁ mg mb fa o pm cd doc a vs ns G Y ho hd hcd hmg hobj hints hlen hg=>?_;have KX:=hY w _ Y;obtain⟨fd,hb,hF⟩:=F w mg fa _ KX G.T.g hmg;exact Fa KX G.T.g G.T.b G.T.builtins G.T.nolimit hg hobj hints (QD hlen hn2) hr hF hb (λH hO hS=>hsp w H a ns hlen hO hS) λH e s'=>hCX w H s₁ e s'
end
section
abbrev CX0:CXT:=λ_ _ _ _ _ _=>False
abbrev E0:XK:=λ_ _ _=>False
theorem aA:kR CX0 X E0:=λ_ _ _ _ _ _ _ h=>h.elim
structure Fun (K:PySem.W.Frag) (x qual:Str) (st:Stmt) (f:Addr) (fd:FuncData):Prop where
 ex:∃(oc:Value) (od:Option Addr) (kV doc pm:Value) (an:Option Addr) (cdv ct:Value) (osl:Array (Option Value)),
  fd=PySem.W.fnOf x qual (gL st) (dO st) (ak st) .none kV doc pm an cdv ct/\K.lookup f=some ⟨oc,od,.func fd,osl⟩/\PySem.W.codeIn K cdv qual=true
 kp:PySem.W.keepIn K (.ref f)=true
section
variable {mg:Str->Option Value}
theorem Fun.ok {ps:List Str} {k:Nat} (F:Fun K x qual st f fd) (S:ao N ps (ak st)) (len:∀vs H Q E,sp vs H Q E->vs.length=ps.length)
  (hbody:∀(cdv:Value) (A:Around) (outer:List Env) (s:Shared) (H:Hp) (vs:List V) (Q:VK) (E:XK),Room k (A.deeper (envOfC qual (ak st) s.heap.objs.size f cdv))->sp vs H Q E->
   ∃t,PSs (z7 CX0 P w K mg base N qual (ak st) f cdv A outer s H E).nox (dO st) t/\t {nx:=λ_ H'=>Q .non H',rt:=Q} (start N vs) H):FnOk P w K mg base CX0 (k+1) f fd ps sp:=by
 obtain⟨oc,od,kV,doc,pm,an,cdv,ct,osl,rfl,lk,hcd⟩:=F.ex;refine Iv lk hcd S len λA outer s H vs Q E hr hsp=>?_;obtain⟨t,h,q⟩:=hbody cdv A outer s H vs Q E hr hsp;exact⟨t,h.nox,q⟩
theorem JD {oc:Value} {od an:Option Addr} {osl:Array (Option Value)} {kV doc pm cdv ct:Value} (l:K.lookup f=some ⟨oc,od,.func (PySem.W.fnOf x qual (gL st) (dO st) (ak st) .none kV doc pm an cdv ct),osl⟩)
  (c:PySem.W.codeIn K cdv qual=true) (k:PySem.W.keepIn K (.ref f)=true):Fun K x qual st f (PySem.W.fnOf x qual (gL st) (dO st) (ak st) .none kV doc pm an cdv ct):=⟨⟨oc,od,kV,doc,pm,an,cdv,ct,osl,rfl,l,c⟩,k⟩
end
theorem sf {A:Around} {k:Nat} (hr:Room k A):A.units+1<cLine:=X3 (Nat.add_le_add_left (by decide:1<=64) _) hr.units
theorem cp (h:n<=1000):n<sizeLine:=X3 h (by decide)
section
theorem pv (i:Nat) {pos:Pos} (hN:X.N[i]?=some x:=by rfl) (hv:Vis X.env.scope x:=by first|exact Or.inl rfl|exact Or.inr (Or.inl rfl)|exact Or.inr (Or.inr rfl)) (hd:(x==("__debug__":Str))=false:=by decide)
  (hcd:(x==("__classdict__":Str))=false:=by decide):PE X (.Name x pos) (IP i):=Jd hN hv hd hcd
end
theorem cI (h:B):if false=true then A else B:=by
 rw[if_neg Qi];exact h
theorem c6 (h:A):if true=true then A else B:=by
 rw[if_pos rfl];exact h
theorem bJ [Decidable c] (h1:c->A) (h2:¬c->B):if c then A else B:=by
 by_cases h:c
 .rw[if_pos h];exact h1 h
 .rw[if_neg h];exact h2 h
theorem oh [Decidable c] (hc:c) (h:B):if(!decide c)=true then A else B:=by
 rw[decide_eq_true hc];exact cI h
def Same (H H':Hp):Prop:=∀b o,H b=some o->H' b=some o
theorem Same.refl (H:Hp):Same H H:=λ_ _ h=>h
theorem Same.trans {H1 H2:Hp} (a:Same H H1) (b:Same H1 H2):Same H H2:=λc o h=>b c o (a c o h)
end
section
section
theorem Dz:eZ X (.builtin "len") (λxs H Q=>∃a kvs,xs=[V.ref a]/\H a=some (.dK kvs)/\Q (.int kvs.length) H):=by
 intro pins s σ H xs us Q I r h;obtain⟨a,kvs,rfl,ha,q⟩:=h;obtain⟨u,rfl,ru⟩:=jG r;cases ru;exact KK I (.inl ha) λt s' I'=>⟨.int kvs.length,H,I',⟨t,rfl⟩,q⟩
end
section
variable {κ:Type} [DecidableEq κ]
theorem Eb {kvs:List (κ×V)} {k:κ} (h:aO kvs k=none):¬k∈kvs.map (·.1):=by
 intro m;obtain⟨p,hp,e⟩:=Qh.mp m;have q:(kvs.any λkv=>decide (kv.1=k))=true:=List.any_eq_true.mpr ⟨p,hp,decide_eq_true e⟩;rw[cK,h]at q;exact absurd q (by simp)
theorem tH {kvs:List (κ×V)} {k:κ} {v:V} (h:aO kvs k=some v):k∈kvs.map (·.1):=by
 have q:(kvs.any λkv=>decide (kv.1=k))=true:=by
  rw[cK,h]
  all_goals rfl
 obtain⟨p,hp,e⟩:=List.any_eq_true.mp q;exact Qh.mpr ⟨p,hp,of_decide_eq_true e⟩
theorem BW:∀{l:List κ} {k:κ},l.Nodup->¬k∈l->(l++ [k]).Nodup
 | [],k,_,_=>by simp
 |a::r,k,h,hk=>by
  obtain⟨h1,h2⟩:=QM.mp h;show(a::(r++ [k])).Nodup;refine QM.mpr ⟨λm=>?_,BW h2 λm=>hk (Qg.mpr (Or.inr m))⟩;rcases Q5.mp m with q|q
  .exact h1 q
  .exact hk (Qg.mpr (Or.inl (Q7.mp q).symm))
theorem G8 {kvs:List (κ×V)} {k:κ} (v:V) (hn:(kvs.map (·.1)).Nodup) (h:aO kvs k=none):((bv kvs k v).map (·.1)).Nodup:=by
 rw[zu v h,Qc];exact BW hn (Eb h)
theorem rK {p:κ×V} {r:List (κ×V)} {k:κ} (e:p.1=k):bT (p::r) k=bT r k:=by
 unfold bT;rw[ZT,if_neg (by simp[e])]
theorem nG {p:κ×V} {r:List (κ×V)} {k:κ} (e:¬p.1=k):bT (p::r) k=p::bT r k:=by
 unfold bT;rw[ZT,if_pos (by simp[e])]
theorem zX:∀{kvs:List (κ×V)} {k:κ},¬k∈kvs.map (·.1)->bT kvs k=kvs
 | [],_,_=>rfl
 |p::r,k,h=>by
  have h':¬k∈r.map (·.1):=λm=>by
   obtain⟨q,hq,e⟩:=Qh.mp m;exact h (Qh.mpr ⟨q,Qg.mpr (Or.inr hq),e⟩)
  rw[nG λe=>h (Qh.mpr ⟨p,Qg.mpr (Or.inl rfl),e⟩),zX h']
theorem xw {kvs:List (κ×V)} {k:κ} {p:κ×V} (h:p∈bT kvs k):p∈kvs:=(QH.mp h).1
theorem p5:∀{kvs:List (κ×V)} {k:κ},(kvs.map (·.1)).Nodup->((bT kvs k).map (·.1)).Nodup
 | [],_,_=>Zj
 |p::r,k,h=>by
  have h:(p.1::r.map (·.1)).Nodup:=h;obtain⟨h1,h2⟩:=QM.mp h;by_cases e:p.1=k
  .rw[rK e];exact p5 h2
  .rw[nG e];show(p.1::(bT r k).map (·.1)).Nodup;refine QM.mpr ⟨λm=>h1 ?_,p5 h2⟩;obtain⟨q,hq,eq⟩:=Qh.mp m;exact Qh.mpr ⟨q,xw hq,eq⟩
theorem xy:∀{kvs:List (κ×V)} {k:κ},(kvs.map (·.1)).Nodup->k∈kvs.map (·.1)->(bT kvs k).length+1=kvs.length
 | [],_,_,m=>by simp at m
 |p::r,k,h,m=>by
  have h:(p.1::r.map (·.1)).Nodup:=h;have m:k=p.1\/k∈r.map (·.1):=Qg.mp m;obtain⟨h1,h2⟩:=QM.mp h;by_cases e:p.1=k
  .subst e;rw[rK rfl,zX h1]
   all_goals rfl
  .have m':k∈r.map (·.1):=m.resolve_left λz=>e z.symm;have q:=xy h2 m';rw[nG e,Qp,Qp];lia
end
end
section
theorem bg:bootBuiltins "len"=some (.builtin "len"):=by decide+kernel
theorem dI:bootBuiltins "isinstance"=some (.builtin "isinstance"):=by decide+kernel
theorem rR:bootBuiltins "min"=some (.builtin "min"):=by decide+kernel
theorem xC:bootBuiltins "sorted"=some (.builtin "sorted"):=by decide+kernel
theorem JI:bootBuiltins "int"=some (.type "int"):=by decide+kernel
theorem Hx:bootBuiltins "bool"=some (.type "bool"):=by decide+kernel
theorem JH:bootBuiltins "str"=some (.type "str"):=by decide+kernel
theorem yK:bootBuiltins "max"=some (.builtin "max"):=by decide+kernel
theorem yL:bootBuiltins "list"=some (.type "list"):=by decide+kernel
theorem tN:bootBuiltins "dict"=some (.type "dict"):=by decide+kernel
theorem Jo:PySem.W.kitOne K (.type "int") (.type "int")=some true:=by kernel_rfl
theorem Jp:PySem.W.kitOne K (.type "int") (.type "bool")=some false:=by kernel_rfl
theorem Jq:PySem.W.kitOne K (.type "bool") (.type "int")=some true:=by kernel_rfl
theorem Jr:PySem.W.kitOne K (.type "bool") (.type "bool")=some true:=by kernel_rfl
theorem Jn:PySem.W.kitOne K (.type "NoneType") (.type "int")=some false:=by kernel_rfl
theorem Jm:PySem.W.kitOne K (.type "str") (.type "int")=some false:=by kernel_rfl
theorem lq [Decidable c] (hc:c) (h:A):if decide c=true then A else B:=by
 rw[decide_eq_true hc];exact c6 h
theorem bc [Decidable c] (hc:¬c) (h:B):if decide c=true then A else B:=by
 rw[decide_eq_false hc];exact cI h
theorem nC {xs:List V} (Pv:Nat->St->Hp->Prop) (h0:Pv 0 σ H) (hl:∀i σ H,i<=xs.length->Pv i σ H->SqL K H a xs)
  (hs:∀i x σ H,xs[i]?=some x->Pv i σ H->g x σ H λσ2 H2=>tb ⟨Pv (i+1),rt,nx,Pv (i+1)⟩ σ2 H2) (hd:∀σ H,Pv xs.length σ H->nx σ H):
  ∃W:Nat->Nat->St->Hp->Prop,(∃m,W 0 m σ H)/\∀i m σ H,W i m σ H->
   ((Itl K a).stop i H/\nx σ H)\/((Itl K a).go i H/\∃N:St->Hp->Prop,(∀σ' H',N σ' H'->∃m',m'<m/\W (i+1) m' σ' H')/\∀x H',(Itl K a).yld i H x H'->g x σ H' λσ2 H2=>tb ⟨N,rt,nx,N⟩ σ2 H2):=
 Fu (D:=⟨nx,rt,λ_ _=>False,λ_ _=>False⟩) Pv h0 hl hs hd
theorem Bw {lo:Int} (Pv:Nat->St->Hp->Prop) (h0:Pv 0 σ H)
  (hs:∀i σ H,i<n->Pv i σ H->g (.int (lo+i)) σ H λσ2 H2=>tb ⟨Pv (i+1),rt,nx,Pv (i+1)⟩ σ2 H2) (hd:∀σ H,Pv n σ H->nx σ H):
  ∃W:Nat->Nat->St->Hp->Prop,(∃m,W 0 m σ H)/\∀i m σ H,W i m σ H->
   ((Itr lo n).stop i H/\nx σ H)\/((Itr lo n).go i H/\∃N:St->Hp->Prop,(∀σ' H',N σ' H'->∃m',m'<m/\W (i+1) m' σ' H')/\∀x H',(Itr lo n).yld i H x H'->g x σ H' λσ2 H2=>tb ⟨N,rt,nx,N⟩ σ2 H2):=
 rH (D:=⟨nx,rt,λ_ _=>False,λ_ _=>False⟩) Pv h0 hs hd
theorem vf {k:Int} (h0:0<=k) (h:k<(ns.length:Int)):atI (ns.map V.int) k=some (.int (ns.getD k.toNat 0)):=by
 obtain⟨j,rfl⟩:=Za h0;refine tO ?_;have hj:j<ns.length:=by lia
 rw[Qn,Q3 hj,QN,Qm,Q3 hj];rfl
theorem FJ {k:Int} (h:¬k<(ns.length:Int)):ns.getD k.toNat 0=0:=by
 rw[Qm,List.getElem?_eq_none (by lia)];rfl
section
theorem si:eZ X (.builtin "isinstance") (λxs H Q=>∃x n t b,xs=[x,.ty n]/\TyOf X.K H x t/\PySem.W.kitOne X.K t (.type n)=some b/\Q (.bl b) H):=by
 intro pins s σ H xs us Q I r h;obtain⟨x,n,t,b,rfl,ty,e,q⟩:=h;obtain⟨u,w',rfl,ru,rw'⟩:=tQ r;cases (show w'=Value.type n from rw');exact xp I ru ty e λtk=>⟨.bl b,H,I.tok _,rfl,q⟩
theorem xc:OpR X (compareOp .IsNot) (λx y H Q=>∃a b,x= .bl a/\y= .bl b/\Q (.bl (a !=b)) H):=by
 intro pins s σ H x y v u Q I rx ry h;obtain⟨a,b,rfl,rfl,q⟩:=h;cases rx;cases ry;exact isnot_bool (bh I q rfl)
end
theorem fsc {P:List Str} {sc:Scope} (a:sc.kind= .function:=by rfl) (b:sc.isCoroutine=false:=by rfl) (c:sc.isGenerator=false:=by rfl) (d:N.Nodup:=by decide+kernel) (e:N.take P.length=P:=by rfl) (f:∀x∈P,sc.names.lookup x=some .local\/sc.names.lookup x=some .cell:=by decide+kernel) (g:∀y∈sc.names,y.2≠ .free:=by decide+kernel):ao N P sc:=⟨a,b,c,d,e,f,g⟩
theorem Room.mo {j k:Nat} {A:Around} (r:Room k A) (h:j<=k:=by decide):Room j A:=r.mono h
theorem Fun.okl {mg:Str->Option Value} {ps:List Str} {k:Nat} (F:Fun K x qual st f fd) (S:ao N ps (ak st))
  (hbody:∀(cdv:Value) (A:Around) (outer:List Env) (s:Shared) (H:Hp) (vs:List V) (Q:VK) (E:XK),Room k (A.deeper (envOfC qual (ak st) s.heap.objs.size f cdv))->sp vs H Q E->
   ∃t,PSs (z7 CX0 P w K mg base N qual (ak st) f cdv A outer s H E).nox (dO st) t/\t {nx:=λ_ H'=>Q .non H',rt:=Q} (start N vs) H)
  (len:∀vs H Q E,sp vs H Q E->vs.length=ps.length:=by intro _ _ _ _ h;(repeat obtain⟨_,h⟩:=h);subst_vars;rfl):FnOk P w K mg base CX0 (k+1) f fd ps sp:=F.ok S len hbody
end
end L2
namespace SW
variable {m n:Int} {a b:Nat}
def rv:Nat->Nat->Nat
 |0,_=>0
 |k+1,n=>(n%2)*2^k+rv k (n/2)
theorem BQ:∀(k n:Nat),rv k n<2^k
 |0,_=>by simp[rv]
 |k+1,n=>by
  have h:=BQ k (n/2);have m:n%2<2:=Nat.mod_lt _ (by decide);have e:rv (k+1) n=(n%2)*2^k+rv k (n/2):=rfl;have p:2^(k+1)=2*2^k:=by rw[ZP,X2]
  rw[e,p];rcases Nat.mod_two_eq_zero_or_one n with z|z<;>rw[z]<;>lia
theorem ye:∀(k n:Nat),rv (k+1) n=rv k n*2+(n/2^k)%2
 |0,n=>by simp[rv]
 |k+1,n=>by
  have h:=ye k (n/2);have e1:rv (k+2) n=(n%2)*2^(k+1)+rv (k+1) (n/2):=rfl;have e2:rv (k+1) n=(n%2)*2^k+rv k (n/2):=rfl;have d:n/2/2^k=n/2^(k+1):=by
   rw[Xg,ZP,X2]
  rw[e1,e2,h,d,ZP];rw[Nat.add_mul,Nat.mul_assoc];lia
theorem Ev:∀(k n:Nat),rv k (n%2^k)=rv k n
 |0,_=>rfl
 |k+1,n=>by
  have p:2^(k+1)=2*2^k:=by rw[ZP,X2]
  have e1:n%2^(k+1)%2=n%2:=by
   rw[p];exact Nat.mod_mul_right_mod n 2 (2^k)
  have e2:n%2^(k+1)/2=n/2%2^k:=by
   rw[p];exact Nat.mod_mul_right_div_self n 2 (2^k)
  show(n%2^(k+1)%2)*2^k+rv k (n%2^(k+1)/2)=(n%2)*2^k+rv k (n/2);rw[e1,e2,Ev k (n/2)]
theorem BP:∀k,rv k 0=0
 |0=>rfl
 |k+1=>by show(0%2)*2^k+rv k (0/2)=0;rw[Nat.zero_div,BP k];simp
theorem uz:∀(a b n:Nat),rv (a+b) n=rv a n*2^b+rv b (n/2^a)
 |0,b,n=>by simp[rv]
 |a+1,b,n=>by
  have h:=uz a b (n/2);have e:a+1+b=(a+b)+1:=by lia
  have d:n/2/2^a=n/2^(a+1):=by
   rw[Xg,ZP,X2]
  rw[e];show(n%2)*2^(a+b)+rv (a+b) (n/2)=((n%2)*2^a+rv a (n/2))*2^b+_;rw[h,d,Nat.add_mul,Nat.mul_assoc,<-Nat.pow_add];lia
theorem Eu:∀(k n:Nat),rv k (rv k n)=n%2^k
 |0,n=>by simp[rv,Nat.mod_one]
 |k+1,n=>by
  have e:rv (k+1) n=rv k n*2+(n/2^k)%2:=ye k n;have e1:(rv k n*2+(n/2^k)%2)%2=(n/2^k)%2:=by lia
  have e2:(rv k n*2+(n/2^k)%2)/2=rv k n:=by lia
  rw[e];show(rv k n*2+(n/2^k)%2)%2*2^k+rv k ((rv k n*2+(n/2^k)%2)/2)=n%2^(k+1);rw[e1,e2,Eu k n,ZP,Nat.mod_mul,X2 (2^k)];lia
theorem IU {n:Nat}:rv (a+b) n/2^b=rv a n:=by
 have l:=BQ b (n/2^a);rw[uz a b n,X2,Nat.mul_add_div (Nat.two_pow_pos b),Nat.div_eq_of_lt l,ZQ]
theorem GQ {s:Nat} (h:s<2^a):rv (a+b) s=rv a s*2^b:=by
 rw[uz a b s,Nat.div_eq_of_lt h,BP,ZQ]
@[irreducible] def tz (n:Int):Int:=((rv 16 n.toNat:Nat):Int)
@[irreducible] def rz (a:Nat) (n:Int):Int:=((rv a n.toNat:Nat):Int)
theorem qJ (n:Int):0<=tz n:=by unfold tz;exact Xx _
theorem HV (n:Int):tz n<65536:=by
 have h:=BQ 16 n.toNat;have e:(2:Nat)^16=65536:=by decide
 unfold tz;lia
theorem BN (h0:0<=n) (h1:n<65536):tz (tz n)=n:=by
 have h:=Eu 16 n.toNat;have e:(2:Nat)^16=65536:=by decide
 unfold tz;rw[QN,h,e];lia
theorem IJ (h0:0<=n) (h1:n<65536) (k0:0<=m) (k1:m<65536) (e:tz n=tz m):n=m:=by
 rw[<-BN h0 h1,<-BN k0 k1,e]
theorem wR (i:Nat) (m:Nat):((rv i m:Nat):Int)*2+((m/2^i:Nat):Int)%2=((rv (i+1) m:Nat):Int):=by
 rw[ye];lia
theorem wS (i:Nat) (m:Nat):((m/2^i:Nat):Int)/2=((m/2^(i+1):Nat):Int):=by
 have d:m/2^i/2=m/2^(i+1):=by rw[Xg,ZP]
 rw[<-d];lia
theorem CK (a:Nat) (n:Int):0<=rz a n:=by unfold rz;exact Xx _
theorem Kl (a:Nat) (n:Int):rz a n<2^a:=by
 have h:=BQ a n.toNat;unfold rz;have c:((rv a n.toNat:Nat):Int)<((2^a:Nat):Int):=by exact_mod_cast h
 simpa using c
theorem Kk (a:Nat) (h0:0<=n) (h1:n<2^a):rz a (rz a n)=n:=by
 obtain⟨m,rfl⟩:=Za h0;have h:=Eu a m;have h1':m<2^a:=by exact_mod_cast h1
 unfold rz;rw[QN,QN,h,Nat.mod_eq_of_lt h1']
theorem GI (hab:a+b=16) {s:Int} (h0:0<=s) (h1:s<2^a):tz s=rz a s*2^b:=by
 obtain⟨m,rfl⟩:=Za h0;have h1':m<2^a:=by exact_mod_cast h1
 have h:=GQ (b:=b) h1';rw[hab]at h;unfold tz rz;rw[QN,h];simp
theorem II (hab:a+b=16) (h0:0<=m):tz m/2^b=rz a (m%2^a):=by
 obtain⟨n,rfl⟩:=Za h0;have h:=IU (a:=a) (b:=b) (n:=n);rw[hab]at h;have e:((n:Int)%2^a).toNat=n%2^a:=by
  have c:((n:Int)%2^a)=((n%2^a:Nat):Int):=by simp
  rw[c,QN]
 unfold tz rz;rw[QN,e,Ev,<-h];simp
structure Row (S:Int) (a b:Nat):Prop where
 ab:a+b=16
 lo:2<=a
 hi:a<=9
 eq:S=2^a
section
variable {S:Int} (R:Row S a b)
include R
theorem Row.mul:S*2^b=65536:=by
 rw[R.eq,<-Int.pow_add,R.ab];decide
theorem Row.wpos:(0:Int)<2^b:=Int.pow_pos (by decide)
theorem Row.pos:0<S:=by rw[R.eq];exact Int.pow_pos (by decide)
theorem Row.width:65536/S=2^b:=by
 rw[<-R.mul,Int.mul_ediv_cancel_left _ (QR R.pos)]
theorem Row.wpos':0<65536/S:=by rw[R.width];exact R.wpos
theorem Row.slot {s:Int} (h0:0<=s) (h1:s<S):tz s=2^b*rz a s/\0<=rz a s/\rz a s<S/\rz a (rz a s)=s:=by
 have h1':s<2^a:=by rw[<-R.eq];exact h1
 refine⟨by rw[GI R.ab h0 h1',Xh],CK _ _,by rw[R.eq];exact Kl _ _,Kk _ h0 h1'⟩
theorem Row.top (h0:0<=m):2^b*rz a (m%S)<=tz m/\tz m<2^b*rz a (m%S)+2^b:=by
 have d:=II R.ab h0;rw[<-R.eq]at d;have e:=Xl (tz m) (2^b);have p:=Qe (tz m) (QR R.wpos);have q:=Qb (tz m) R.wpos;rw[d]at e;lia
theorem Row.mod0 (m:Int):0<=m%S:=Qe _ (QR R.pos)
theorem Row.mod1 (m:Int):m%S<S:=Qb _ R.pos
theorem Row.between {W x y p:Int} (hW:0<W) (h0:W*x<=p) (h1:p<W*x+W) (k0:W*y<=p) (k1:p<W*y+W):x=y:=by
 rcases Int.lt_trichotomy x y with h|h|h
 .have:W*(x+1)<=W*y:=XS (by lia) (XD hW);rw[Int.mul_add]at this;lia
 .exact h
 .have:W*(y+1)<=W*x:=XS (by lia) (XD hW);rw[Int.mul_add]at this;lia
theorem Row.st_has (h0:0<=m):tz (m%S)<=tz m/\tz m<tz (m%S)+65536/S:=by
 obtain⟨e,_⟩:=R.slot (R.mod0 m) (R.mod1 m);have t:=R.top h0;rw[R.width,e];exact t
end
theorem oY {k:Nat} (h:k<=6):Row (4*2^k) (k+2) (14-k):=by
 refine⟨by lia,by lia,by lia,?_⟩;rw[Int.pow_add];lia
end SW
namespace L2
open PySem PySem.Spec PyProof.Rows
section
end
section
end
section
theorem Ec {H:Hp} {a:Addr} {o:HO} (h:H a=some o):upd H a o=H:=by
 funext b;by_cases z:b=a
 .subst z;rw[ae,h]
 .rw[af z]
end
section
abbrev rV:List Value:=[.type "ValueError",.type "Exception",.type "BaseException",.type "object"]
def JW (bm:List Value):Prop:=∃ups:List Addr,bm=ups.map Value.ref++rV
structure BE (K:PySem.W.Frag) (C:Addr) (bm:List Value):Prop where
 ob:∃nm q N bs sn sub ab col dd k0 k1 k2 k3 k5,K.lookup C=some (excClassObj nm q C N bs bm true sn sub ab col dd k0 k1 k2 k3 k5 "ValueError.__new__")
 mro:JW bm
 kp:PySem.W.keepIn K (.ref C)=true
 ga:PySem.W.findIn K (.ref C) "__getattribute__"=some (some (.builtin "BaseException.__getattribute__"))
 gn:PySem.W.findIn K (.ref C) "__getattr__"=some none
 sa:PySem.W.findIn K (.ref C) "__setattr__"=some (some (.builtin "object.__setattr__"))
end
section
end
end L2
namespace L2
open PySem PySem.Spec PyProof.Rows PySem.W
end L2
namespace L2
open PySem PySem.Spec PyProof.Rows PySem.W
variable {E:Value->Shared->Prop}
section
variable {prog:Program} {w:World} {A:Around} {s:Shared} {K:PySem.W.Frag} {e C:Addr} {bm:List Value}
structure XIs (K:PySem.W.Frag) (C:Addr):Prop where
 ha:findIn K (.ref C) "__class__"=some (some (.builtin "object.__class__"))
 hn:specialIn K (.builtin "object.__class__") "__get__"=some (some (.builtin "getset_descriptor.__get__"))
 tk:takesIn K (.builtin "object.__class__")=some true
 hm:mroIn K C (.type "object")=some true
end
end L2
namespace L2
open PySem PySem.Spec PyProof.Rows PySem.W
section
variable {X:Cx} {pins:List (Addr×Obj)} {σ:St} {H:Hp} {s:Shared}
theorem kQ (K:PySem.W.Frag) (hK:X.K=K):eZ X (.builtin "isinstance") (λxs H Q=>∃x D t b,xs=[x,.ref D]/\TyOf K H x t/\kitOne K t (.ref D)=some b/\Q (.bl b) H):=by
 subst hK;intro pins s σ H xs us Q I r h;obtain⟨x,D,t,b,rfl,ty,e,q⟩:=h;obtain⟨u,w',rfl,ru,rw'⟩:=tQ r;cases (show w'=Value.ref D from rw');exact xp I ru ty e λtk=>⟨.bl b,H,I.tok _,rfl,q⟩
end
end L2
namespace L2
open PySem PySem.Spec PyProof.Rows PySem.W
end L2
namespace L2
open PySem PySem.Spec PyProof.Rows PySem.W
structure FU (K:PySem.W.Frag) (C:Addr) (m:Str) (v:Value):Prop where
 sp:specialIn K (.ref C) "__getattribute__"=some (some (.builtin "type.__getattribute__"))
 rd:readsIn K C (.type "type")=true
 at_:findCls K (.ref C) (.type "type") m=some (.val v)
section
variable {X:Cx} {pins:List (Addr×Obj)} {σ:St} {H:Hp} {s:Shared}
variable {CX:CXT} {k:Nat} {f C:Addr} {fd:FuncData} {ps:List Str} {sp:Sp} {dvs:List V} {ds:List Value} {E:XK} {x m:Str} {p pos apos:Pos} {e o:Expr} {es:List Expr} {ta:TE} {t:TA} {bm:List Value}
theorem yk {pl:Sem Bool} (hg:Gl X x) (hm:X.mg x=some (.ref C)) (hc:FU X.K C m (.ref f)) (hk:PySem.W.keepIn X.K (.ref f)=true) (F:FnOk X.prog X.w X.K X.mg X.base CX k f fd ps sp) (hr:Room k X.A) (hb:Binds X.K fd ps ds) (hd:Vals dvs ds) (hx:kR CX X E) (ha:PA X (e::es) t)
  (hdb:(x==("__debug__":Str))=false:=by decide)
  (hst:starEach (e::es) X.env=(false,eval e X.env)::starEach es X.env:=by rfl) (hpl:(backTo pos (starEach es X.env)).any (·.1)=false:=by rfl)
  (ht:eval (.Call (.Attribute (.Name x p) m apos) (e::es) [] pos) X.env=(do
   let ov<-eval (.Name x p) X.env
   standAt apos.atName
   let(f,first)<-holding [ov] (getMethod ov m pl)
   callWith pos f first (backTo pos (starEach (e::es) X.env)) (backToKw pos (keywordEach [] X.env))):=by rfl):
  PE X (.Call (.Attribute (.Name x p) m apos) (e::es) [] pos) (Ia sp dvs E t):=by
 intro pins s σ H Q I h;refine Zl (pl:=pl) (qa I hg hm ?_ hdb) ht;refine method_cls I.kIn hc.sp (cls_value I.kIn hc.rd hc.at_ rfl ?_);refine ZO (first:=[]) (h₀:=X.base) I.ok.mod.kin hk (thn (ha pos pins _ σ H _ (I.tok _) h) λus s2 ⟨vs,H2,I2,r,q2⟩=>⟨I2.kIn,?_⟩) hst hpl;exact qZ F hr hb hd hx I2 r q2
end
end L2
namespace L2
open PySem PySem.Spec PyProof.Rows PySem.W
end L2
namespace L2
open PySem PySem.Spec PyProof.Rows PySem.W
end L2
namespace L2
open PySem PySem.Spec PyProof.Rows PySem.W
end L2
namespace L2
open PySem PySem.Spec PyProof.Rows PySem.W
variable {T:Addr}
def iM (K:PySem.W.Frag) (fd:FuncData) (ps:List Str) (dvs:List V):Prop:=∃ds,Binds K fd ps ds/\Vals dvs ds
structure FunD (K:PySem.W.Frag) (x qual:Str) (st:Stmt) (f:Addr) (fd:FuncData):Prop where
 ex:∃(oc:Value) (od:Option Addr) (dV kV doc pm:Value) (an:Option Addr) (cdv ct:Value) (osl:Array (Option Value)),
  fd=fnOf x qual (gL st) (dO st) (ak st) dV kV doc pm an cdv ct/\K.lookup f=some ⟨oc,od,.func fd,osl⟩/\codeIn K cdv qual=true
 kp:keepIn K (.ref f)=true
section
variable {P:Program} {w:World} {K:PySem.W.Frag} {mg:Str->Option Value} {base:Heap} {x qual:Str} {st:Stmt} {f:Addr} {fd:FuncData} {N ps:List Str} {k:Nat} {sp:Sp}
theorem FunD.ok (F:FunD K x qual st f fd) (S:ao N ps (ak st)) (len:∀vs H Q E,sp vs H Q E->vs.length=ps.length)
  (hbody:∀(cdv:Value) (A:Around) (outer:List Env) (s:Shared) (H:Hp) (vs:List V) (Q:VK) (E:XK),Room k (A.deeper (envOfC qual (ak st) s.heap.objs.size f cdv))->sp vs H Q E->
   ∃t,PSs (z7 CX0 P w K mg base N qual (ak st) f cdv A outer s H E).nox (dO st) t/\t {nx:=λ_ H'=>Q .non H',rt:=Q} (start N vs) H):FnOk P w K mg base CX0 (k+1) f fd ps sp:=by
 obtain⟨oc,od,dV,kV,doc,pm,an,cdv,ct,osl,rfl,lk,hcd⟩:=F.ex;refine Iv lk hcd S len λA outer s H vs Q E hr hsp=>?_;obtain⟨t,h,q⟩:=hbody cdv A outer s H vs Q E hr hsp;exact⟨t,h.nox,q⟩
structure JU (K:PySem.W.Frag) (x qual:Str) (st:Stmt) (T f:Addr) (fd:FuncData):Prop where
 toD:FunD K x qual st f fd
 ex:∃(kV doc pm:Value) (an:Option Addr) (cdv ct:Value),fd=fnOf x qual (gL st) (dO st) (ak st) (.ref T) kV doc pm an cdv ct
theorem Cf {oc:Value} {od an:Option Addr} {osl:Array (Option Value)} {kV doc pm cdv ct:Value} (l:K.lookup f=some ⟨oc,od,.func (fnOf x qual (gL st) (dO st) (ak st) (.ref T) kV doc pm an cdv ct),osl⟩)
  (c:codeIn K cdv qual=true) (k:keepIn K (.ref f)=true):JU K x qual st T f (fnOf x qual (gL st) (dO st) (ak st) (.ref T) kV doc pm an cdv ct):=⟨⟨⟨oc,od,_,kV,doc,pm,an,cdv,ct,osl,rfl,l,c⟩,k⟩,⟨kV,doc,pm,an,cdv,ct,rfl⟩⟩
theorem cv {dd:Option Addr} {items:Array Value} {n:Nat} {sl:Array (Option Value)} {ds:List Value} (g:Nat) (hg:g+ds.length=ps.length) (F:JU K x qual st T f fd) (hT:K.lookup T=some ⟨.type "tuple",dd,.seq items n,sl⟩)
  (h:∀(kV doc pm:Value) (an:Option Addr) (cdv ct:Value) (us:List Value),us.length=g->∃k,bindArgs (fnOf x qual (gL st) (dO st) (ak st) (.ref T) kV doc pm an cdv ct) ⟨us,[]⟩=seqItems? (.ref T)>>=k/\k (some items)=pure (ps.zip (us++ds))):
  Binds K fd ps ds:=by
 obtain⟨kV,doc,pm,an,cdv,ct,rfl⟩:=F.ex;intro s us X hl;obtain⟨k,h1,h2⟩:=h kV doc pm an cdv ct us (by rw[Qa]at hl;lia);exact BindsTo.of_defaults rfl (X _ _ hT) rfl h1 h2
end
end L2
namespace L2
open PySem PySem.Spec PyProof.Rows
inductive DV where
 |non|bl (b:Bool)|int (i:Int)|str (x:Str)|lst (xs:List DV)|tup (xs:List DV)
end L2
namespace L2
open PySem PySem.Spec PyProof.Rows
end L2
namespace L2
open PySem PySem.Spec PyProof.Rows SeqAt
section
variable {X:Cx}
theorem cx {st:Stmt}:PS X st (λ_ _ _=>False):=λ_ _ _ _ _ _ h=>h.elim
theorem PlainL.isL {h:Heap} {a:Addr} {xs:Array Value} (p:PlainL h a xs):h.IsList a xs:=by
 obtain⟨o,n,e,c,_,d⟩:=p;exact⟨o,e,c,n,d⟩
end
end L2
namespace L2
open PySem PySem.Spec PyProof.Rows SeqAt
def Fl:V->Prop
 | .int _=>True| .str _=>True| .non=>True|_=>False
section
variable {X:Cx} {pins:List (Addr×Obj)} {σ:St} {H:Hp} {s:Shared}
theorem yF {A:Around} {x:V} {u v:Value} (h:Fl x) (r1:RelV x u) (r2:RelV x v):EqAt A s u v true:=by
 cases x with
 |int n=>
  obtain⟨t1,rfl⟩:=r1;obtain⟨t2,rfl⟩:=r2;have:=EqAt.int_int (A:=A) (s:=s) n t1 n t2;rwa [beq_self_eq_true]at this
 |str n=>
  obtain⟨t1,rfl⟩:=r1;obtain⟨t2,rfl⟩:=r2;have:=EqAt.str_str (A:=A) (s:=s) n t1 n t2;rwa [beq_self_eq_true]at this
 |non=>
  cases (show u=Value.none from r1);cases (show v=Value.none from r2);exact EqAt.same _
 |_=>exact h.elim
end
end L2
namespace L2
open PySem PySem.Spec PyProof.Rows SeqAt
def Alk (K:PySem.W.Frag) (H:Hp):Nat->V->V->Prop
 |0,x,y=>Fl x/\x=y
 |n+1,x,y=>(Fl x/\x=y)\/∃a b xs ys,x= .ref a/\y= .ref b/\(SqL K H a xs/\SqL K H b ys\/SqT K H a xs/\SqT K H b ys)/\xs.length=ys.length/\∀(j:Nat) (u v:V),xs[j]?=some u->ys[j]?=some v->Alk K H n u v
theorem vn:∀{xs:List V} {us:List Value},Vals xs us->∀(j:Nat) (h:j<us.length),∃x,xs[j]?=some x/\RelV x us[j]
 |_,_,.nil,_,h=>absurd h (XV _)
 |_,_,.cons r _,0,_=>⟨_,rfl,r⟩
 |_,_,.cons _ r,j+1,h=>vn r j (Nat.lt_of_succ_lt_succ h)
section
variable {X:Cx} {pins:List (Addr×Obj)} {σ:St} {H:Hp} {s:Shared}
theorem FS (I:Inv X pins σ H s):∀(n:Nat) {A:Around} {x y:V} {u v:Value},A.units+n<cLine->Alk X.K H n x y->RelV x u->RelV y v->EqAt A s u v true
 |0,_,_,_,_,_,_,⟨f,e⟩,r1,r2=>yF f r1 (e▸r2)
 |n+1,A,x,y,u,v,hu,h,r1,r2=>by
  rcases h with⟨f,e⟩|⟨a,b,xs,ys,rfl,rfl,o,l,g⟩
  .exact yF f r1 (e▸r2)
  cases r1;cases r2;by_cases e:a=b
  .subst e;exact EqAt.same _
  have it:∀{us vs:List Value},Vals xs us->Vals ys vs->∀(j:Nat) (h1:j<us.length) (h2:j<vs.length),EqAt A.in1 s us[j] vs[j] true:=λv1 v2 j h1 h2=>by
   obtain⟨x,e1,q1⟩:=vn v1 j h1;obtain⟨y,e2,q2⟩:=vn v2 j h2;exact FS I n (by show A.units+1+n<cLine;lia) (g j x y e1 e2) q1 q2
  refine EqAt.of_refs e ?_;rcases o with⟨h1,h2⟩|⟨h1,h2⟩
  .obtain⟨i1,v1,p1,_⟩:=I.list h1;obtain⟨i2,v2,p2,_⟩:=I.list h2;have:=RcAt.lists (A:=A) (e:=λ_=>true) (PlainL.isL p1) (PlainL.isL p2) (by simpa[<-v1.length,<-v2.length]using l) (by lia) (λj a b=>by simpa using it v1 v2 j (by simpa using a) (by simpa using b));rw[QS.mpr λ_ _=>rfl]at this;exact this
  .obtain⟨i1,v1,p1,_⟩:=I.tuple h1;obtain⟨i2,v2,p2,_⟩:=I.tuple h2;have:=RcAt.tuples (A:=A) (e:=λ_=>true) p1 p2 (by lia) (λj a b=>by simpa using it v1 v2 j (by simpa using a) (by simpa using b));rw[QS.mpr λ_ _=>rfl]at this;simpa[<-v1.length,<-v2.length,l]using this
def rAlk (K:PySem.W.Frag) (f:Bool):R2:=λx y H Q=>∃(a b:Addr) (xs ys:List V),x= .ref a/\y= .ref b/\(SqL K H a xs/\SqL K H b ys\/SqT K H a xs/\SqT K H b ys)/\xs.length=ys.length/\(∀(j:Nat) (u v:V),xs[j]?=some u->ys[j]?=some v->Alk K H 4 u v)/\Q (.bl (!f)) H
theorem EI (K:PySem.W.Frag) (hK:X.K=K) (hu:X.A.units+20<cLine):OpR X (compareOp .NotEq) (rAlk K true):=by
 subst hK;intro pins s σ H x y v u Q I rx ry h;obtain⟨a,b,xs,ys,rfl,rfl,o,l,g,q⟩:=h;cases rx;cases ry;have it:∀{us vs:List Value},Vals xs us->Vals ys vs->∀(j:Nat) (h1:j<us.length) (h2:j<vs.length),EqAt X.A.in1 s us[j] vs[j] true:=λv1 v2 j h1 h2=>by
  obtain⟨x,e1,q1⟩:=vn v1 j h1;obtain⟨y,e2,q2⟩:=vn v2 j h2;exact FS I 4 (by show X.A.units+1+4<cLine;lia) (g j x y e1 e2) q1 q2
 rcases o with⟨h1,h2⟩|⟨h1,h2⟩
 .obtain⟨i1,v1,p1,_⟩:=I.list h1;obtain⟨i2,v2,p2,_⟩:=I.list h2;have:=RcNeAt.lists (A:=X.A) (e:=λ_=>true) (PlainL.isL p1) (PlainL.isL p2) (by simpa[<-v1.length,<-v2.length]using l) (by lia) (λj a b=>by simpa using it v1 v2 j (by simpa using a) (by simpa using b));rw[QS.mpr λ_ _=>rfl]at this;exact this _ _ _ _ ⟨.bl _,H,I,rfl,q⟩
 .obtain⟨i1,v1,p1,_⟩:=I.tuple h1;obtain⟨i2,v2,p2,_⟩:=I.tuple h2;have:=RcNeAt.tuples (A:=X.A) (e:=λ_=>true) p1 p2 (by lia) (λj a b=>by simpa using it v1 v2 j (by simpa using a) (by simpa using b));rw[QS.mpr λ_ _=>rfl,show(true&&i1.toArray.size==i2.toArray.size)=true by simp[<-v1.length,<-v2.length,l]]at this;exact this _ _ _ _ ⟨.bl _,H,I,rfl,q⟩
end
end L2
namespace L2
open PySem PySem.Spec PyProof.Rows
variable {D:Addr->Sp->Prop} {X:Cx} {o:HO} {H:Hp} {kk:Nat}
theorem fS {x y:V} {A B:Prop} (e:x=y) (h:A):if decide (x=y)=true then A else B:=by
 rw[decide_eq_true e];exact c6 h
theorem aj {p:Addr} (h:H p=none):Same H (upd H p o):=λb u e=>by
 rw[af (al e h)];exact e
def AllI (P:Int->Prop):List V->Prop
 | []=>True
 | .int m::r=>P m/\AllI P r
 |_::_=>False
theorem AllI.ints {P:Int->Prop}:∀{L:List V},AllI P L->∃ns:List Int,L=ns.map V.int/\∀m∈ns,P m
 | [],_=>⟨[],rfl,λ_ z=>nomatch z⟩
 | .int m::r,h=>by
  obtain⟨ns,e,q⟩:=AllI.ints h.2;refine⟨m::ns,by rw[e];rfl,λx hx=>?_⟩;rcases Qg.mp hx with rfl|hx
  .exact h.1
  .exact q x hx
theorem w5 {P:Int->Prop} {L:List V} {c n:Int} (h:AllI P L) (hn:(L.length:Int)=n) (hp:0<n):∃m,atI L (c%n)=some (.int m)/\P m:=by
 obtain⟨ns,e,q⟩:=h.ints;subst e;have a:=Qe c (QR hp);have b:=Qb c hp;rw[Q0]at hn;have hlt:(c%n).toNat<ns.length:=by lia
 refine⟨_,vf a (by lia),q _ ?_⟩;rw[Qm,Q3 hlt];exact Zh hlt
theorem bN {H':Hp} {l:Addr} (s:Same H H') (n:H l=none):Same H (upd H' l o):=λb u e=>by
 rw[af (al e n)];exact s b u e
theorem Fc {K:PySem.W.Frag} {C D:Addr} {b:Bool} (h1:PySem.W.typeIn K (.ref D)=some (.type "type")) (h2:PySem.W.isClsIn K D=true) (h3:PySem.W.subIn K (.ref C) (.ref D)=some b) (hne:C=D->b=true):
  PySem.W.kitOne K (.ref C) (.ref D)=some b:=by
 unfold PySem.W.kitOne;by_cases z:((Value.ref C:Value)== .ref D)=true
 .rw[if_pos z,hne (Value.ref.inj (beq_iff_eq.mp z))]
 .rw[if_neg z];show(if((PySem.W.clsIn K D).isSome&&PySem.W.typeIn K (.ref D)==some (.type "type"))=true then PySem.W.subIn K (.ref C) (.ref D)else none)=some b;have:(PySem.W.clsIn K D).isSome=true:=h2;rw[if_pos (by rw[this,h1];simp),h3]
def KN (_ j:Int):Prop:=0<j/\j.natAbs.log2<9000
theorem zB:OpR X (binaryOp .FloorDiv) (rI KN λi j=> .int (i/j)):=opI λi j _ _ _ _ _ hc q=>by
 have h1:(0:Int)<j:=hc.1;exact floordiv_int (by lia) (by rw[V0 i (by lia)];exact q) (.inl (PyProof.noPylong_of_log2 hc.2))
theorem Room.u20 {k:Nat} {A:Around} (r:Room k A):A.units+20<cLine:=by have:=r.un;lia
section
variable {k:Nat} {f C:Addr} {fd:FuncData} {ps:List Str} {sp:Sp} {dvs:List V} {ds:List Value} {E:XK} {x m:Str} {p pos apos:Pos} {e o:Expr} {es:List Expr} {ta:TE} {t:TA}
def DN (X:Cx) (kk:Nat) (m:Str) (C:Addr) (sp:Sp):Prop:=Cls X.K C/\∃f fd ps,bI X.K C m f/\FnOk X.prog X.w X.K X.mg X.base CX0 kk f fd ps sp/\Binds X.K fd ps []
def D1 (C:Addr) (sp:Sp):Addr->Sp->Prop:=λC' sp'=>C'=C/\sp'=sp
def DOr (D D':Addr->Sp->Prop):Addr->Sp->Prop:=λC sp=>D C sp\/D' C sp
theorem bY (c:Cls X.K C) (hm:bI X.K C m f) (F:FnOk X.prog X.w X.K X.mg X.base CX0 k f fd ps sp) (hb:Binds X.K fd ps []) (hk:k<=kk):∀C' sp',D1 C sp C' sp'->DN X kk m C' sp':=λC' sp' h=>by
 obtain⟨rfl,rfl⟩:=h;exact⟨c,f,fd,ps,hm,F.mono hk,hb⟩
theorem gK {D':Addr->Sp->Prop} (h:∀C sp,D C sp->DN X kk m C sp) (h':∀C sp,D' C sp->DN X kk m C sp):∀C sp,DOr D D' C sp->DN X kk m C sp:=λC sp z=>z.elim (h C sp) (h' C sp)
def Ek (D:Addr->Sp->Prop) (m:Str) (ta:TE) (t:TA):TE:=λσ H Q=>ta σ H λx H1=>∃a C dx fs sp,x= .ref a/\H1 a=some (.ins C dx fs)/\fs.lookup m=none/\D C sp/\
 t σ H1 λvs H2=>sp (x::vs) H2 Q E0
theorem pU {pl:Sem Bool} (hD:∀C sp,D C sp->DN X kk m C sp) (hr:Room kk X.A) (he:PE X o ta) (ha:PA X (e::es) t)
  (hst:starEach (e::es) X.env=(false,eval e X.env)::starEach es X.env:=by rfl) (hpl:(backTo pos (starEach es X.env)).any (·.1)=false:=by rfl)
  (ht:eval (.Call (.Attribute o m apos) (e::es) [] pos) X.env=(do
   let ov<-eval o X.env
   standAt apos.atName
   let(f,first)<-holding [ov] (getMethod ov m pl)
   callWith pos f first (backTo pos (starEach (e::es) X.env)) (backToKw pos (keywordEach [] X.env))):=by rfl):
  PE X (.Call (.Attribute o m apos) (e::es) [] pos) (Ek D m ta t):=by
 intro pins s σ H Q I h;refine Zl (pl:=pl) (thn (he pins s σ H _ I h) λu s1 hzz=>?_) ht;obtain⟨x,H1,I1,rx,a,C,dx,fs,sp,ex,ea,l,d,q⟩:=hzz;subst ex;obtain rfl:u=Value.ref a:=rx;obtain⟨c,f,fd,ps,hm,F,hb⟩:=hD C sp d;refine iy I1 ea c hm l ?_;refine ZO (first:=[.ref a]) (h₀:=X.base) I.ok.mod.kin hm.kp (thn (ha pos pins s1 σ H1 _ I1 q) λus s2 ⟨vs,H2,I2,r,q2⟩=>⟨I2.kIn,?_⟩) hst hpl;exact qZ (us:= .ref a::us) (vs:= .ref a::vs) (dvs:=[]) F hr hb .nil aA I2 (.cons rfl r) (by rw[ZL];exact q2)
theorem CQ {pl:Sem Bool} (hD:∀C sp,D C sp->DN X kk m C sp) (hr:Room kk X.A) (he:PE X o ta)
  (ht:eval (.Call (.Attribute o m apos) [] [] pos) X.env=(do
   let ov<-eval o X.env
   standAt apos.atName
   let(f,first)<-holding [ov] (getMethod ov m pl)
   callWith pos f first (backTo pos (starEach [] X.env)) (backToKw pos (keywordEach [] X.env))):=by rfl):
  PE X (.Call (.Attribute o m apos) [] [] pos) (Ek D m ta GK):=by
 intro pins s σ H Q I h;refine Zl (pl:=pl) (thn (he pins s σ H _ I h) λu s1 hzz=>?_) ht;obtain⟨x,H1,I1,rx,a,C,dx,fs,sp,ex,ea,l,d,q⟩:=hzz;subst ex;obtain rfl:u=Value.ref a:=rx;obtain⟨c,f,fd,ps,hm,F,hb⟩:=hD C sp d;refine iy I1 ea c hm l ?_;refine Xu (first:=[.ref a]) I1.kIn hm.kp ?_;exact qZ (us:=[.ref a]) (vs:=[.ref a]) (dvs:=[]) F hr hb .nil aA I1 (.cons rfl .nil) q
end
end L2
namespace Srt
open PySem PyProof.Rows
variable {xs ys:Array Keyed} {blt:Keyed->Keyed->Bool} {e hi i j lo n nrem:Nat} {st:SortSt} {γ:Type} {Q:Unit->SortSt->Prop} {E:Value->Shared->Prop}
abbrev dk:Keyed:=(Value.none,Value.none)
def g (xs:Array Keyed) (i:Nat):Keyed:=xs[i]?.getD dk
theorem dw (h:i<xs.size):xs[i]?=some (g xs i):=by
 unfold g;rw[getElem?_pos xs i h];rfl
theorem qd (h:xs[i]?=ys[j]?):g xs i=g ys j:=by unfold g;rw[h]
theorem xq (h:i<xs.size):g xs i∈xs:=by
 have e:=dw h;exact Array.mem_of_getElem? e
structure Cmp (blt:Keyed->Keyed->Bool):Prop where
 asym:∀x y,blt x y=true->blt y x=false
 tr:∀x y z,blt y x=false->blt z y=false->blt z x=false
section
variable (C:Cmp blt)
abbrev le (blt:Keyed->Keyed->Bool) (x y:Keyed):Prop:=blt y x=false
include C
theorem Cmp.trans {x y z:Keyed} (h1:le blt x y) (h2:le blt y z):le blt x z:=C.tr x y z h1 h2
theorem Cmp.of_lt {x y:Keyed} (h:blt x y=true):le blt x y:=C.asym _ _ h
end
def On (blt:Keyed->Keyed->Bool) (xs:Array Keyed) (lo hi:Nat):Prop:=∀i j,lo<=i->i<j->j<hi->le blt (g xs i) (g xs j)
def Off (blt:Keyed->Keyed->Bool) (xs:Array Keyed) (lo hi:Nat):Prop:=∀i j,lo<=i->i<j->j<hi->le blt (g xs j) (g xs i)
theorem On.one:On blt xs lo (lo+1):=λi j h1 h2 h3=>by lia
theorem Off.one:Off blt xs lo (lo+1):=λi j h1 h2 h3=>by lia
theorem On.congr (h:On blt xs lo hi) (e:∀k,lo<=k->k<hi->g ys k=g xs k):On blt ys lo hi:=λi j h1 h2 h3=>by
 rw[e i h1 (by lia),e j (by lia) h3];exact h i j h1 h2 h3
theorem On.sub {lo' hi':Nat} (h:On blt xs lo hi) (h1:lo<=lo') (h2:hi'<=hi):On blt xs lo' hi':=λi j a b c=>h i j (by lia) b (by lia)
section
variable (C:Cmp blt)
include C
theorem On.snoc (h:On blt xs lo (lo+n)) (hn:1<=n) (e:le blt (g xs (lo+n-1)) (g xs (lo+n))):On blt xs lo (lo+(n+1)):=λi j h1 h2 h3=>by
 by_cases z:j<lo+n
 .exact h i j h1 h2 z
 .have ej:j=lo+n:=by lia
  subst ej;by_cases y:i=lo+n-1
  .subst y;exact e
  .exact C.trans (h i (lo+n-1) h1 (by lia) (by lia)) e
theorem Off.snoc (h:Off blt xs lo (lo+n)) (hn:1<=n) (e:le blt (g xs (lo+n)) (g xs (lo+n-1))):Off blt xs lo (lo+(n+1)):=λi j h1 h2 h3=>by
 by_cases z:j<lo+n
 .exact h i j h1 h2 z
 .have ej:j=lo+n:=by lia
  subst ej;by_cases y:i=lo+n-1
  .subst y;exact e
  .exact C.trans e (h i (lo+n-1) h1 (by lia) (by lia))
end
theorem Fp (hj:j<=xs.size) (k:Nat):g (mirror xs i j ((j-i)/2)) k=if i<=k/\k<j then g xs (i+j-1-k)else g xs k:=by
 have e:=getElem?_mirror_all (i:=i) hj k;by_cases h1:i<=k/\k<j
 .rw[if_pos h1]at e⊢;exact qd e
 .rw[if_neg h1]at e⊢;exact qd e
theorem Fq {src d:Nat} (hs:src<xs.size) (hd:d<=src) (k:Nat):g (bubble xs src d) k=if k=src-d then g xs src else if src-d<k/\k<=src then g xs (k-1)else g xs k:=by
 have e:=getElem?_bubble hs d hd k;by_cases h1:k=src-d
 .rw[if_pos h1]at e⊢;exact qd e
 .rw[if_neg h1]at e⊢;by_cases h2:src-d<k/\k<=src
  .rw[if_pos h2]at e⊢;exact qd e
  .rw[if_neg h2]at e⊢;exact qd e
section
variable {prog:Program} {w:World} {A:Around} {s:Shared} {a₀:Array Keyed} {κ:SortKind}
def yU (prog:Program) (w:World) (A:Around) (E:Value->Shared->Prop) (s:Shared) (a₀:Array Keyed) (κ:SortKind) (blt:Keyed->Keyed->Bool):Prop:=
 ∀(x y:Keyed) (st:SortSt) (Q:Option Bool->SortSt->Prop),x∈a₀->y∈a₀->kindOf st=κ->Q (some (blt x y)) st->wpS (model prog w) A E s (lt' x y) Q st
structure Base (a₀:Array Keyed) (κ:SortKind) (st:SortSt):Prop where
 kind:kindOf st=κ
 fine:failedOf st=none
 perm:(arrOf st).Perm a₀
theorem Base.size (B:Base a₀ κ st):(arrOf st).size=a₀.size:=B.perm.size_eq
theorem Base.mem (B:Base a₀ κ st) (h:i<a₀.size):g (arrOf st) i∈a₀:=(B.perm.mem_iff).mp (xq (by rw[B.size];exact h))
variable (L:yU prog w A E s a₀ κ blt)
include L
theorem pH {Q:Option Bool->SortSt->Prop} (B:Base a₀ κ st) (hi:i<a₀.size) (hj:j<a₀.size) (h:Q (some (blt (g (arrOf st) i) (g (arrOf st) j))) st):
  wpS (model prog w) A E s (ltAt' i j) Q st:=by
 rw[ltAt'_eq];refine wpS_bind (wpS_get ?_);show wpS _ _ _ _ (do let x<-elem' (arrOf st) i;let y<-elem' (arrOf st) j;lt' x y) Q st;rw[elem'_eq,elem'_eq,dw (by rw[B.size];exact hi),dw (by rw[B.size];exact hj)];refine wpS_bind (wpS_pure (wpS_bind (wpS_pure ?_)));exact L _ _ st Q (B.mem hi) (B.mem hj) B.kind h
omit L in
theorem Ea {α:Type} {m m':StateT SortSt Sem α} {Q:α->SortSt->Prop} (e:m=m') (h:wpS (model prog w) A E s m' Q st):wpS (model prog w) A E s m Q st:=by rw[e];exact h
abbrev Keep (lo:Nat) (xs ys:Array Keyed):Prop:=∀k,k<lo->g ys k=g xs k
theorem gS (B:Base a₀ κ st) (hj:j<=a₀.size)
  (h:∀st',Base a₀ κ st'->pendingOf st'=pendingOf st->(∀k,g (arrOf st') k=if i<=k/\k<j then g (arrOf st) (i+j-1-k)else g (arrOf st) k)->Q () st'):
  wpS (model prog w) A E s (reverseSlice' i j) Q st:=by
 rw[reverseSlice'_eq];refine wpS_modify (h _ ⟨B.kind,B.fine,(mirror_perm _ _ _ _).trans B.perm⟩ rfl λk=>?_);exact Fp (by rw[B.size];exact hj) k
theorem D9 {a:Nat} {f:Nat->Option γ×Nat->StateT SortSt Sem (ForInStep (Option γ×Nat))} {Q:Option γ×Nat->SortSt->Prop} (C:Cmp blt) (B:Base a₀ κ st) (ha:1<=a) (han:a<=nrem) (hz:lo+nrem<=a₀.size) (hs:On blt (arrOf st) lo (lo+a))
  (hf:∀(i n:Nat) (R:ForInStep (Option γ×Nat)->SortSt->Prop),n<nrem->1<=n->(blt (g (arrOf st) (lo+n)) (g (arrOf st) (lo+n-1))=true->R (.done (none,n)) st)->(blt (g (arrOf st) (lo+n)) (g (arrOf st) (lo+n-1))=false->R (.yield (none,n+1)) st)->wpS (model prog w) A E s (f i (none,n)) R st)
  (h:∀n,a<=n->n<=nrem->On blt (arrOf st) lo (lo+n)->(n<nrem->blt (g (arrOf st) (lo+n)) (g (arrOf st) (lo+n-1))=true)->Q (none,n) st):
  wpS (model prog w) A E s (forIn [a:nrem] (none,a) f) Q st:=by
 refine wpS_forRange (I:=λi c st'=>st'=st/\c=(none,i)/\a<=i/\i<=nrem/\On blt (arrOf st) lo (lo+i)) ?_ ?_ ⟨rfl,rfl,Q4 _,han,hs⟩
 .rintro i c st' h1 h2 ⟨rfl,rfl,h3,h4,h5⟩;refine hf i i _ h2 (by lia) (λe=>?_) (λe=>?_)
  .exact h i h3 h4 h5 λ_=>e
  .exact⟨rfl,rfl,by lia,by lia,h5.snoc C (by lia) e⟩
 .rintro c st' ⟨rfl,rfl,h3,h4,h5⟩;have e:max a nrem=nrem:=QL han;rw[e]at h5⊢;exact h nrem han (Q4 _) h5 λz=>absurd z (Zv _)
omit L in
theorem rA {b:Nat} (hb:lo<=b) (h:Off blt xs lo e) (o:On blt xs b e) (hy:∀k,g ys k=if b<=k/\k<e then g xs (b+e-1-k)else g xs k):Off blt ys lo e:=λi j h1 h2 h3=>by
 rw[hy i,hy j];by_cases jb:b<=j
 .rw[if_pos ⟨jb,h3⟩];by_cases ib:b<=i
  .rw[if_pos ⟨ib,by lia⟩];exact o _ _ (by lia) (by lia) (by lia)
  .rw[if_neg (by lia)];exact h _ _ h1 (by lia) (by lia)
 .rw[if_neg (by lia),if_neg (by lia)];exact h i j h1 h2 h3
omit L in
theorem Jg (h:Off blt xs lo e) (hy:∀k,g ys k=if lo<=k/\k<e then g xs (lo+e-1-k)else g xs k):On blt ys lo e:=λi j h1 h2 h3=>by
 rw[hy i,hy j,if_pos ⟨h1,by lia⟩,if_pos ⟨by lia,h3⟩];exact h _ _ (by lia) (by lia) (by lia)
omit L in
theorem G6 (h:On blt xs lo e) (hy:∀k,g ys k=if lo<=k/\k<e then g xs (lo+e-1-k)else g xs k):Off blt ys lo e:=λi j h1 h2 h3=>by
 rw[hy i,hy j,if_pos (show lo<=j/\j<e by lia),if_pos (show lo<=i/\i<e by lia)];exact h _ _ (by lia) (by lia) (by lia)
def FR (lo:Nat):Nat->Option (Option Nat)×Nat->StateT SortSt Sem (ForInStep (Option (Option Nat)×Nat)):=λ_ __s=>do
 let __x<-ltAt' (lo+__s.snd) (lo+__s.snd-1)
 match __x with
 |some smaller=>if smaller=true then pure (ForInStep.done (none,__s.snd))else pure (ForInStep.yield (none,__s.snd+1))
 |_=>pure (ForInStep.done (some none,__s.snd))
def wU (lo n nrem:Nat):StateT SortSt Sem (Option Nat):=do
 reverseSlice' lo (lo+n)
 let __s<-forIn [n:nrem] (none,n) (FR lo)
 match __s.fst with
 |some r=>pure r
 |none=>pure (some __s.snd)
def Ci (lo:Nat):Nat->Option (Option Nat)×Nat×Nat->StateT SortSt Sem (ForInStep (Option (Option Nat)×Nat×Nat)):=λ_ __s=>do
 let __x<-ltAt' (lo+__s.snd.fst) (lo+__s.snd.fst-1)
 match __x with
 |some smaller=>
  if smaller=true then
   if __s.snd.snd>0 then do
    reverseSlice' (lo+__s.snd.fst-(__s.snd.snd+1)) (lo+__s.snd.fst)
    pure (ForInStep.yield (none,__s.snd.fst+1,0))
   else pure (ForInStep.yield (none,__s.snd.fst+1,0))
  else do
   let __x<-ltAt' (lo+__s.snd.fst-1) (lo+__s.snd.fst)
   match __x with
   |some larger=>
    if larger=true then pure (ForInStep.done (none,__s.snd.fst,__s.snd.snd))
    else pure (ForInStep.yield (none,__s.snd.fst+1,__s.snd.snd+1))
   |_=>pure (ForInStep.done (some none,__s.snd.fst,__s.snd.snd))
 |_=>pure (ForInStep.done (some none,__s.snd.fst,__s.snd.snd))
def xz (lo n nrem:Nat):StateT SortSt Sem (Option Nat):=do
 liftM (rule "list.sort.descending-run")
 let __s<-forIn [n+1:nrem] (none,n+1,0) (Ci lo)
 match __s.fst with
 |some r=>pure r
 |none=>
  if __s.snd.snd>0 then do
   reverseSlice' (lo+__s.snd.fst-(__s.snd.snd+1)) (lo+__s.snd.fst)
   wU lo __s.snd.fst nrem
  else wU lo __s.snd.fst nrem
theorem BL {R:ForInStep (Option (Option Nat)×Nat)->SortSt->Prop} (B:Base a₀ κ st) (hz:lo+nrem<=a₀.size) (hn:n<nrem) (h1:1<=n)
  (ht:blt (g (arrOf st) (lo+n)) (g (arrOf st) (lo+n-1))=true->R (.done (none,n)) st) (hf:blt (g (arrOf st) (lo+n)) (g (arrOf st) (lo+n-1))=false->R (.yield (none,n+1)) st):wpS (model prog w) A E s (FR lo i (none,n)) R st:=by
 unfold FR;refine wpS_bind (pH L B (by dsimp only;lia) (by dsimp only;lia) ?_);dsimp only;cases e:blt (g (arrOf st) (lo+n)) (g (arrOf st) (lo+n-1))with
 |true=>exact wpS_pure (ht e)
 |false=>exact wpS_pure (hf e)
theorem pG {Q:Option Nat->SortSt->Prop} (C:Cmp blt) (B:Base a₀ κ st) (h1:1<=n) (hn:n<=nrem) (hz:lo+nrem<=a₀.size) (ho:Off blt (arrOf st) lo (lo+n))
  (h:∀m st',Base a₀ κ st'->pendingOf st'=pendingOf st->1<=m->m<=nrem->On blt (arrOf st') lo (lo+m)->Keep lo (arrOf st) (arrOf st')->Q (some m) st'):wpS (model prog w) A E s (wU lo n nrem) Q st:=by
 unfold wU;refine wpS_bind (gS L B (by lia) λst' B' hp hy=>?_);refine wpS_bind (D9 L C B' h1 hn hz (Jg ho hy) (λi n R hn h1 ht hf=>BL L B' (i:=i) hz hn h1 ht hf) (λm ha hm hs _=>?_));exact wpS_pure (h m st' B' hp (by lia) hm hs λk hk=>by rw[hy k,if_neg (by lia)])
theorem za {Q:Option Nat->SortSt->Prop} (C:Cmp blt) (B:Base a₀ κ st) (h1:1<=n) (hn:n+1<=nrem) (hz:lo+nrem<=a₀.size) (ho:Off blt (arrOf st) lo (lo+(n+1)))
  (h:∀m st',Base a₀ κ st'->pendingOf st'=pendingOf st->1<=m->m<=nrem->On blt (arrOf st') lo (lo+m)->Keep lo (arrOf st) (arrOf st')->Q (some m) st'):wpS (model prog w) A E s (xz lo n nrem) Q st:=by
 unfold xz;refine wpS_bind (wpS_lift (wpAny_rule ⟨rfl,?_⟩));refine wpS_bind (wpS_forRange (I:=λi c st'=>∃q,c=(none,i,q)/\Base a₀ κ st'/\pendingOf st'=pendingOf st/\Keep lo (arrOf st) (arrOf st')/\n+1<=i/\i<=nrem/\q+1<=i/\Off blt (arrOf st') lo (lo+i)/\On blt (arrOf st') (lo+i-(q+1)) (lo+i)) ?_ ?_
  ⟨0,rfl,B,rfl,λ_ _=>rfl,Q4 _,hn,by lia,ho,λi j a b c=>by lia⟩)
 .rintro i c st' hi1 hi2 ⟨q,rfl,B',hp,hk,h2,h3,h4,off,on⟩;unfold Ci;refine wpS_bind (pH L B' (by dsimp only;lia) (by dsimp only;lia) ?_);dsimp only;cases e:blt (g (arrOf st') (lo+i)) (g (arrOf st') (lo+i-1))with
  |true=>
   by_cases q0:q>0
   .rw[if_pos rfl,if_pos q0];refine wpS_bind (gS L B' (by lia) λst2 B2 hp2 hy=>?_);refine wpS_pure ⟨0,rfl,B2,hp2.trans hp,λk hk2=>by rw[hy k,if_neg (by lia)];exact hk k hk2,by lia,by lia,by lia,?_,λi j a b c=>by lia⟩;refine(rA (by lia) off on hy).snoc C (by lia) ?_;rw[hy,hy,if_neg (by lia),if_pos (by lia)];have z:lo+i-(q+1)+(lo+i)-1-(lo+i-1)=lo+i-(q+1):=by lia
    rw[z];exact C.trans (C.of_lt e) (off _ _ (by lia) (by lia) (by lia))
   .rw[if_pos rfl,if_neg q0];exact wpS_pure ⟨0,rfl,B',hp,hk,by lia,by lia,by lia,off.snoc C (by lia) (C.of_lt e),λi j a b c=>by lia⟩
  |false=>
   simp only[Zk,if_false];refine wpS_bind (pH L B' (by lia) (by lia) ?_);dsimp only;cases e2:blt (g (arrOf st') (lo+i-1)) (g (arrOf st') (lo+i))with
   |true=>
    simp only[if_true];refine wpS_pure ?_;dsimp only;by_cases q0:q>0
    .rw[if_pos q0];refine wpS_bind (gS L B' (by lia) λst2 B2 hp2 hy=>?_);refine pG L C B2 (by lia) h3 hz (rA (by lia) off on hy) λm st3 B3 hp3 a b c d=>h m st3 B3 (hp3.trans (hp2.trans hp)) a b c λk hk2=>?_;rw[d k hk2,hy k,if_neg (by lia)];exact hk k hk2
    .rw[if_neg q0];exact pG L C B' (by lia) h3 hz off λm st3 B3 hp3 a b c d=>h m st3 B3 (hp3.trans hp) a b c λk hk2=>(d k hk2).trans (hk k hk2)
   |false=>
    simp only[Zk,if_false];refine wpS_pure ⟨q+1,rfl,B',hp,hk,by lia,by lia,by lia,off.snoc C (by lia) e2,?_⟩;have z:lo+(i+1)-(q+1+1)=lo+i-(q+1):=by lia
    rw[z];intro x y hx hy hz';by_cases hyi:y<lo+i
    .exact on x y hx hy hyi
    .have ey:y=lo+i:=by lia
     subst ey;by_cases hxi:x=lo+i-1
     .subst hxi;exact e
     .exact C.trans (on x (lo+i-1) hx (by lia) (by lia)) e
 .rintro c st' ⟨q,rfl,B',hp,hk,h2,h3,h4,off,on⟩;have em:max (n+1) nrem=nrem:=QL hn;rw[em]at h3 h4 off on⊢;dsimp only;by_cases q0:q>0
  .rw[if_pos q0];refine wpS_bind (gS L B' (by lia) λst2 B2 hp2 hy=>?_);refine pG L C B2 (by lia) h3 hz (rA (by lia) off on hy) λm st3 B3 hp3 a b c d=>h m st3 B3 (hp3.trans (hp2.trans hp)) a b c λk hk2=>?_;rw[d k hk2,hy k,if_neg (by lia)];exact hk k hk2
  .rw[if_neg q0];exact pG L C B' (by lia) h3 hz off λm st3 B3 hp3 a b c d=>h m st3 B3 (hp3.trans hp) a b c λk hk2=>(d k hk2).trans (hk k hk2)
theorem D8 {Q:Option Nat->SortSt->Prop} (C:Cmp blt) (B:Base a₀ κ st) (h1:1<=nrem) (hz:lo+nrem<=a₀.size)
  (h:∀n st',Base a₀ κ st'->pendingOf st'=pendingOf st->1<=n->n<=nrem->On blt (arrOf st') lo (lo+n)->Keep lo (arrOf st) (arrOf st')->Q (some n) st'):wpS (model prog w) A E s (countRun' lo nrem) Q st:=by
 rw[countRun'_eq];dsimp only;refine wpS_bind (D9 L C B (Q4 1) h1 hz On.one (λi n R hn h1 ht hf=>BL L B (i:=i) hz hn h1 ht hf) (λn ha hn hs hlt=>?_));dsimp only;by_cases en:n=nrem
 .subst en;simp only[beq_self_eq_true,if_true];exact wpS_pure (h n st B rfl ha hn hs λ_ _=>rfl)
 .have eb:(n==nrem)=false:=beq_eq_false_iff_ne.mpr en;simp only[eb,Zk,if_false];have fall:=hlt (by lia);by_cases n1:n>1
  .rw[if_pos n1];refine wpS_bind (pH L B (by lia) (by lia) ?_);dsimp only;cases e:blt (g (arrOf st) lo) (g (arrOf st) (lo+n-1))with
   |true=>
    simp only[if_true];exact wpS_pure (h n st B rfl ha hn hs λ_ _=>rfl)
   |false=>
    simp only[Zk,if_false];refine wpS_bind (gS L B (by lia) λst2 B2 hp2 hy=>?_);have off:Off blt (arrOf st2) lo (lo+(n+1)):=by
     refine(G6 hs hy).snoc C ha ?_;rw[hy,hy,if_neg (by lia),if_pos (by lia)];have z:lo+(lo+n)-1-(lo+n-1)=lo:=by lia
     rw[z];exact C.trans (C.of_lt fall) e
    refine Ea (m':=xz lo n nrem) (by
      unfold xz wU FR Ci;congr 1;funext _u;congr 1;funext s2;obtain⟨r2,n2,q2⟩:=s2;cases r2 with
      |some r2=>rfl
      |none=>
       dsimp only;split
       .congr 1;funext _v;congr 1;funext _w;congr 1;funext s3;obtain⟨r3,n3⟩:=s3;cases r3<;>rfl
       .congr 1;funext _w;congr 1;funext s3;obtain⟨r3,n3⟩:=s3;cases r3<;>rfl) (za L C B2 ha (by lia) hz off λm st3 B3 hp3 a b c d=>h m st3 B3 (hp3.trans hp2) a b c λk hk=>by rw[d k hk,hy k,if_neg (by lia)])
  .rw[if_neg n1];have e1:n=1:=by lia
   subst e1;refine Ea (m':=xz lo 1 nrem) (by
      unfold xz wU FR Ci;congr 1;funext _u;congr 1;funext s2;obtain⟨r2,n2,q2⟩:=s2;cases r2 with
      |some r2=>rfl
      |none=>
       dsimp only;split
       .congr 1;funext _v;congr 1;funext _w;congr 1;funext s3;obtain⟨r3,n3⟩:=s3;cases r3<;>rfl
       .congr 1;funext _w;congr 1;funext s3;obtain⟨r3,n3⟩:=s3;cases r3<;>rfl) (za L C B ha (by lia) hz (Off.one.snoc C (Q4 1) (C.of_lt fall)) h)
omit L in
theorem BK {k l:Nat} (B:Base a₀ κ st) (hk:k<a₀.size) (hl:l<=k)
  (h:∀st',Base a₀ κ st'->pendingOf st'=pendingOf st->(∀j,g (arrOf st') j=if j=l then g (arrOf st) k else if l<j/\j<=k then g (arrOf st) (j-1)else g (arrOf st) j)->Q () st'):
  wpS (model prog w) A E s (moveDown' k l) Q st:=by
 rw[moveDown'_eq];refine wpS_modify (h _ ⟨B.kind,B.fine,(bubble_perm _ _ _).trans B.perm⟩ rfl λj=>?_);have e:=Fq (xs:=arrOf st) (src:=k) (d:=k-l) (by rw[B.size];exact hk) (by lia) j;have z:k-(k-l)=l:=by lia
 rw[z]at e;exact e
theorem CB {ok:Nat} {Q:Bool->SortSt->Prop} (C:Cmp blt) (B:Base a₀ κ st) (h1:1<=ok) (hok:ok<=n) (hz:lo+n<=a₀.size) (hs:On blt (arrOf st) lo (lo+ok))
  (h:∀st',Base a₀ κ st'->pendingOf st'=pendingOf st->On blt (arrOf st') lo (lo+n)->Keep lo (arrOf st) (arrOf st')->Q true st'):wpS (model prog w) A E s (binarySort' lo n ok) Q st:=by
 rw[binarySort'_eq];dsimp only;have em:max ok 1=ok:=Nat.max_eq_left h1;rw[em];refine wpS_bind (wpS_forRange (I:=λi c st'=>c=(none,())/\Base a₀ κ st'/\pendingOf st'=pendingOf st/\Keep lo (arrOf st) (arrOf st')/\ok<=i/\i<=n/\On blt (arrOf st') lo (lo+i)) ?_ ?_
  ⟨rfl,B,rfl,λ_ _=>rfl,Q4 _,hok,hs⟩)
 .rintro k c st' hk1 hk2 ⟨rfl,B',hp,hk,h2,h3,on⟩;refine wpS_bind (wpS_forRange (I:=λi c st2=>st2=st'/\∃l r,c=(none,l,r)/\l<=r/\r<=k/\r-l<=k-i/\(∀j,j<l->le blt (g (arrOf st') (lo+j)) (g (arrOf st') (lo+k)))/\(∀j,r<=j->j<k->le blt (g (arrOf st') (lo+k)) (g (arrOf st') (lo+j)))) ?_ ?_
   ⟨rfl,0,k,rfl,Qj _,Q4 _,Q4 _,λj hj=>absurd hj (XV _),λj a b=>by lia⟩)
  .rintro i c st2 hi1 hi2 ⟨rfl,l,r,rfl,hlr,hrk,hm,below,above⟩;dsimp only;by_cases hge:l>=r
   .rw[if_pos hge];refine wpS_pure ?_;dsimp only;have elr:l=r:=by lia
    refine wpS_bind (BK B' (by lia) (by lia) λst3 B3 hp3 hy=>wpS_pure ⟨rfl,B3,hp3.trans hp,λq hq=>?_,by lia,by lia,?_⟩)
    .rw[hy q,if_neg (by lia),if_neg (by lia)];exact hk q hq
    .intro a b ha hab hb;rw[hy a,hy b];by_cases b1:b=lo+l
     .rw[if_pos b1,if_neg (by lia),if_neg (by lia)];have:=below (a-lo) (by lia);rwa [show lo+(a-lo)=a by lia]at this
     .rw[if_neg b1];by_cases b2:lo+l<b/\b<=lo+k
      .rw[if_pos b2];by_cases a1:a=lo+l
       .rw[if_pos a1];have:=above (b-1-lo) (by lia) (by lia);rwa [show lo+(b-1-lo)=b-1 by lia]at this
       .rw[if_neg a1];by_cases a2:lo+l<a/\a<=lo+k
        .rw[if_pos a2];exact on _ _ (by lia) (by lia) (by lia)
        .rw[if_neg a2];exact on _ _ (by lia) (by lia) (by lia)
      .rw[if_neg b2,if_neg (by lia),if_neg (by lia)];exact on _ _ ha hab (by lia)
   .rw[if_neg hge];refine wpS_bind (pH L B' (by lia) (by lia) ?_);dsimp only;cases e:blt (g (arrOf st2) (lo+k)) (g (arrOf st2) (lo+(l+r)/2))with
    |true=>
     rw[if_pos rfl];refine wpS_pure ⟨rfl,l,(l+r)/2,rfl,by lia,by lia,by lia,below,λj a b=>?_⟩;by_cases ej:j=(l+r)/2
     .subst ej;exact C.of_lt e
     .exact C.trans (C.of_lt e) (on _ _ (by lia) (by lia) (by lia))
    |false=>
     rw[if_neg (by decide)];refine wpS_pure ⟨rfl,(l+r)/2+1,r,rfl,by lia,by lia,by lia,λj a=>?_,above⟩;by_cases ej:j=(l+r)/2
     .subst ej;exact e
     .exact C.trans (on _ _ (by lia) (by lia) (by lia)) e
  .rintro c st2 ⟨rfl,l,r,rfl,hlr,hrk,hm,below,above⟩;have ek:max 0 k=k:=QL (Qj _);rw[ek]at hm;have elr:l=r:=by lia
   dsimp only;refine wpS_bind (BK B' (by lia) (by lia) λst3 B3 hp3 hy=>wpS_pure ⟨rfl,B3,hp3.trans hp,λq hq=>?_,by lia,by lia,?_⟩)
   .rw[hy q,if_neg (by lia),if_neg (by lia)];exact hk q hq
   .intro a b ha hab hb;rw[hy a,hy b];by_cases b1:b=lo+l
    .rw[if_pos b1,if_neg (by lia),if_neg (by lia)];have:=below (a-lo) (by lia);rwa [show lo+(a-lo)=a by lia]at this
    .rw[if_neg b1];by_cases b2:lo+l<b/\b<=lo+k
     .rw[if_pos b2];by_cases a1:a=lo+l
      .rw[if_pos a1];have:=above (b-1-lo) (by lia) (by lia);rwa [show lo+(b-1-lo)=b-1 by lia]at this
      .rw[if_neg a1];by_cases a2:lo+l<a/\a<=lo+k
       .rw[if_pos a2];exact on _ _ (by lia) (by lia) (by lia)
       .rw[if_neg a2];exact on _ _ (by lia) (by lia) (by lia)
     .rw[if_neg b2,if_neg (by lia),if_neg (by lia)];exact on _ _ ha hab (by lia)
 .rintro c st' ⟨rfl,B',hp,hk,h2,h3,on⟩;have e:max ok n=n:=QL hok;rw[e]at on;exact wpS_pure (h st' B' hp on hk)
def Ht:Bool->Keyed->Array Keyed->Nat->Nat->Nat->StateT SortSt Sem (Option Nat):=sortPriv%PySem.Builtin.gallop
omit L in
theorem wO {f:Nat->Option γ×Nat×Nat->StateT SortSt Sem (ForInStep (Option γ×Nat×Nat))} {Q:Option γ×Nat×Nat->SortSt->Prop} (be:Nat->Bool) (mono:∀i j,i<=j->j<n->be j=true->be i=true)
  (hf:∀(i lo hi:Nat) (R:ForInStep (Option γ×Nat×Nat)->SortSt->Prop),hi<=n->(lo>=hi->R (.done (none,lo,hi)) st)->(lo<hi->be (lo+(hi-lo)/2)=true->R (.yield (none,lo+(hi-lo)/2+1,hi)) st)->(lo<hi->be (lo+(hi-lo)/2)=false->R (.yield (none,lo,lo+(hi-lo)/2)) st)->wpS (model prog w) A E s (f i (none,lo,hi)) R st)
  (h1:lo<=hi) (h2:hi<=n) (ht:∀i,i<lo->be i=true) (hF:∀i,hi<=i->i<n->be i=false)
  (h:∀k,k<=n->(∀i,i<k->be i=true)->(∀i,k<=i->i<n->be i=false)->Q (none,k,k) st):wpS (model prog w) A E s (forIn [0:n] (none,lo,hi) f) Q st:=by
 refine wpS_forRange (I:=λi c st'=>st'=st/\∃lo hi,c=(none,lo,hi)/\lo<=hi/\hi<=n/\hi-lo<=n-i/\(∀i,i<lo->be i=true)/\(∀i,hi<=i->i<n->be i=false)) ?_ ?_
  ⟨rfl,lo,hi,rfl,h1,h2,by lia,ht,hF⟩
 .rintro i c st' hi1 hi2 ⟨rfl,lo,hi,rfl,g1,g2,g3,g4,g5⟩;refine hf i lo hi _ g2 (λz=>?_) (λz e=>?_) (λz e=>?_)
  .have e:lo=hi:=by lia
   subst e;exact h lo g2 g4 g5
  .exact⟨rfl,_,_,rfl,by lia,g2,by lia,λj hj=>mono j _ (by lia) (by lia) e,g5⟩
  .refine⟨rfl,_,_,rfl,by lia,by lia,by lia,g4,λj a b=>?_⟩;cases q:be j with
   |false=>rfl
   |true=>rw[mono _ j a b q]at e;cases e
 .rintro c st' ⟨rfl,lo,hi,rfl,g1,g2,g3,g4,g5⟩;have em:max 0 n=n:=QL (Qj _);rw[em]at g3;have e:lo=hi:=by lia
  subst e;exact h lo g2 g4 g5
theorem gM {left:Bool} {key:Keyed} {arr:Array Keyed} {base hint:Nat} {Q:Option Nat->SortSt->Prop} (hK:kindOf st=κ) (hk:key∈a₀) (ha:∀i,i<n->base+i<arr.size/\g arr (base+i)∈a₀) (hh:hint<n)
  (be:Nat->Bool) (hbe:∀i,i<n->be i=if left=true then blt (g arr (base+i)) key else !blt key (g arr (base+i))) (mono:∀i j,i<=j->j<n->be j=true->be i=true)
  (h:∀k,k<=n->(∀i,i<k->be i=true)->(∀i,k<=i->i<n->be i=false)->Q (some k) st):wpS (model prog w) A E s (Ht left key arr base n hint) Q st:=by
 have bey:∀(i:Nat) (R:Option Bool->SortSt->Prop),i<n->R (some (be i)) st->wpS (model prog w) A E s (elem' arr (base+i)>>=λx=>if left=true then lt' x key else lt' key x>>=λr=>pure (r.map λx=>!x)) R st:=by
  intro i R hi q;obtain⟨h1,h2⟩:=ha i hi;rw[elem'_eq,dw h1];refine wpS_bind (wpS_pure ?_);have e:=hbe i hi;cases left with
  |true=>
   rw[if_pos rfl]at e⊢;exact L _ _ st R h2 hk hK (by rw[<-e];exact q)
  |false=>
   rw[if_neg (by decide)]at e⊢;refine wpS_bind (L _ _ st _ hk h2 hK (wpS_pure ?_));show R (some (!blt key (g arr (base+i)))) st;rw[<-e];exact q
 refine wpS_bind ?_;dsimp only;refine bey hint _ hh ?_;dsimp only;cases e0:be hint with
 |true=>
  rw[if_pos rfl];refine wpS_bind (wpS_mono (wpS_forRange (I:=λi c st'=>st'=st/\∃la ofs,c=(none,la,ofs)/\la<ofs/\i+1<=ofs/\hint+la<n/\be (hint+la)=true)
   (Q:=λc st'=>st'=st/\∃la ofs,c=(none,la,ofs)/\la<ofs/\hint+la<n/\be (hint+la)=true/\(n-hint<=ofs\/(hint+ofs<n/\be (hint+ofs)=false))) ?_ ?_ ⟨rfl,0,1,rfl,by lia,by lia,by lia,e0⟩) ?_)
  .rintro i c st' hi1 hi2 ⟨rfl,la,ofs,rfl,a1,a2,a3,a4⟩;dsimp only;by_cases z:ofs>=n-hint
   .rw[if_pos z];exact wpS_pure ⟨rfl,la,ofs,rfl,a1,a3,a4,.inl z⟩
   .rw[if_neg z];refine wpS_bind (bey (hint+ofs) _ (by lia) ?_);dsimp only;cases e:be (hint+ofs)with
    |false=>
     rw[if_pos (by decide)];exact wpS_pure ⟨rfl,la,ofs,rfl,a1,a3,a4,.inr ⟨by lia,e⟩⟩
    |true=>
     rw[if_neg (by decide)];exact wpS_pure ⟨rfl,ofs,2*ofs+1,rfl,by lia,by lia,by lia,e⟩
  .rintro c st' ⟨rfl,la,ofs,rfl,a1,a2,a3,a4⟩;have em:max 0 n=n:=QL (Qj _);rw[em]at a2;exact⟨rfl,la,ofs,rfl,a1,a3,a4,.inl (by lia)⟩
  .rintro c st' ⟨rfl,la,ofs,rfl,a1,a3,a4,a5⟩;dsimp only;refine wpS_bind (wO be mono (λi lo hi R hn c1 c2 c3=>?_) (by lia) (by lia) (λi hi=>mono i (hint+la) (by lia) a3 a4) (λi h1 h2=>?_) λk h1 h2 h3=>?_)
   .dsimp only;by_cases z:lo>=hi
    .rw[if_pos z];exact wpS_pure (c1 z)
    .rw[if_neg z];refine wpS_bind (bey _ _ (by lia) ?_);dsimp only;cases e:be (lo+(hi-lo)/2)with
     |true=>rw[if_pos rfl];exact wpS_pure (c2 (by lia) e)
     |false=>rw[if_neg (by decide)];exact wpS_pure (c3 (by lia) e)
   .rcases a5 with z|⟨z1,z2⟩
    .lia
    .cases q:be i with
     |false=>rfl
     |true=>rw[mono (hint+ofs) i (by lia) h2 q]at z2;cases z2
   .exact wpS_pure (h k h1 h2 h3)
 |false=>
  rw[if_neg (by decide)];refine wpS_bind (wpS_mono (wpS_forRange (I:=λi c st'=>st'=st/\∃la ofs,c=(none,la,ofs)/\la<ofs/\i+1<=ofs/\la<=hint/\be (hint-la)=false)
   (Q:=λc st'=>st'=st/\∃la ofs,c=(none,la,ofs)/\la<ofs/\la<=hint/\be (hint-la)=false/\(hint+1<=ofs\/(ofs<=hint/\be (hint-ofs)=true))) ?_ ?_ ⟨rfl,0,1,rfl,by lia,by lia,by lia,e0⟩) ?_)
  .rintro i c st' hi1 hi2 ⟨rfl,la,ofs,rfl,a1,a2,a3,a4⟩;dsimp only;by_cases z:ofs>=hint+1
   .rw[if_pos z];exact wpS_pure ⟨rfl,la,ofs,rfl,a1,a3,a4,.inl z⟩
   .rw[if_neg z];refine wpS_bind (bey (hint-ofs) _ (by lia) ?_);dsimp only;cases e:be (hint-ofs)with
    |true=>
     rw[if_pos rfl];exact wpS_pure ⟨rfl,la,ofs,rfl,a1,a3,a4,.inr ⟨by lia,e⟩⟩
    |false=>
     rw[if_neg (by decide)];exact wpS_pure ⟨rfl,ofs,2*ofs+1,rfl,by lia,by lia,by lia,e⟩
  .rintro c st' ⟨rfl,la,ofs,rfl,a1,a2,a3,a4⟩;have em:max 0 n=n:=QL (Qj _);rw[em]at a2;exact⟨rfl,la,ofs,rfl,a1,a3,a4,.inl (by lia)⟩
  .rintro c st' ⟨rfl,la,ofs,rfl,a1,a3,a4,a5⟩;dsimp only;refine wpS_bind (wO be mono (λi lo hi R hn c1 c2 c3=>?_) (by lia) (by lia) (λi hi=>?_) (λi h1 h2=>?_) λk h1 h2 h3=>?_)
   .dsimp only;by_cases z:lo>=hi
    .rw[if_pos z];exact wpS_pure (c1 z)
    .rw[if_neg z];refine wpS_bind (bey _ _ (by lia) ?_);dsimp only;cases e:be (lo+(hi-lo)/2)with
     |true=>rw[if_pos rfl];exact wpS_pure (c2 (by lia) e)
     |false=>rw[if_neg (by decide)];exact wpS_pure (c3 (by lia) e)
   .rcases a5 with z|⟨z1,z2⟩
    .lia
    .exact mono i (hint-ofs) (by lia) (by lia) z2
   .cases q:be i with
    |false=>rfl
    |true=>rw[mono (hint-la) i (by lia) h2 q]at a4;cases a4
   .exact wpS_pure (h k h1 h2 h3)
end
end Srt
namespace Srt
open PySem PyProof.Rows
variable {A:Around} {a₀:Array Keyed} {x:Keyed} {blt:Keyed->Keyed->Bool} {R:Keyed->SortSt->Prop} {all o ra rb:List Keyed} {i n:Nat} {prog:Program} {s:Shared} {κ:SortKind} {st:SortSt} {Q:Unit->SortSt->Prop} {E:Value->Shared->Prop} {w:World}
def EV:Array Keyed->Array Keyed->StateT SortSt Sem (Array Keyed):=sortPriv%PySem.Builtin.mergeLo
def EW:Array Keyed->Array Keyed->StateT SortSt Sem (Array Keyed):=sortPriv%PySem.Builtin.mergeHi
section
abbrev PW (blt:Keyed->Keyed->Bool) (l:List Keyed):Prop:=l.Pairwise (le blt)
structure Lo (blt:Keyed->Keyed->Bool) (all o ra rb:List Keyed):Prop where
 perm:(o++(ra++rb)).Perm all
 srt:PW blt o
 low:∀x∈o,∀y∈ra++rb,le blt x y
theorem Lo.a {ca:List Keyed} (h:Lo blt all o (ca++ra) rb) (hs:PW blt (ca++ra)) (hc:∀x∈ca,∀y∈rb,le blt x y):Lo blt all (o++ca) ra rb where
 perm:=by
  refine List.Perm.trans ?_ h.perm;rw[Ql,Ql]
 srt:=Qk.mpr ⟨h.srt,(Qk.mp hs).1,λx hx y hy=>h.low x hx y (by simp[hy])⟩
 low:=λx hx y hy=>by
  rcases Q5.mp hx with q|q
  .exact h.low x q y (by rcases Q5.mp hy with z|z<;>simp[z])
  .rcases Q5.mp hy with z|z
   .exact(Qk.mp hs).2.2 x q y z
   .exact hc x q y z
theorem Lo.b {cb:List Keyed} (h:Lo blt all o ra (cb++rb)) (hs:PW blt (cb++rb)) (hc:∀x∈cb,∀y∈ra,le blt x y):Lo blt all (o++cb) ra rb where
 perm:=by
  refine List.Perm.trans ?_ h.perm;rw[Ql];refine List.Perm.append_left o ?_;rw[<-Ql,<-Ql];exact List.Perm.append_right rb ZS
 srt:=Qk.mpr ⟨h.srt,(Qk.mp hs).1,λx hx y hy=>h.low x hx y (by simp[hy])⟩
 low:=λx hx y hy=>by
  rcases Q5.mp hx with q|q
  .exact h.low x q y (by rcases Q5.mp hy with z|z<;>simp[z])
  .rcases Q5.mp hy with z|z
   .exact hc x q y z
   .exact(Qk.mp hs).2.2 x q y z
theorem Lo.endA (h:Lo blt all o ra []) (hs:PW blt ra):(o++ra).Perm all/\PW blt (o++ra):=
 ⟨by simpa using h.perm,Qk.mpr ⟨h.srt,hs,λx hx y hy=>h.low x hx y (by simp[hy])⟩⟩
theorem Lo.endB {z:Keyed} (h:Lo blt all o [z] rb) (hs:PW blt rb) (hz:∀x∈rb,le blt x z):(o++(rb++ [z])).Perm all/\PW blt (o++(rb++ [z])):=by
 refine⟨List.Perm.trans (List.Perm.append_left o ZS) h.perm,Qk.mpr ⟨h.srt,Qk.mpr ⟨hs,Zb _ _,λx hx y hy=>?_⟩,λx hx y hy=>h.low x hx y ?_⟩⟩
 .rw[Q7.mp hy];exact hz x hx
 .rcases Q5.mp hy with q|q<;>simp_all
theorem vb {a:Array Keyed} (h:i<a.size):a.toList.drop i=g a i::a.toList.drop (i+1):=by
 have e:=dw h;rw[<-Qw]at e;obtain⟨h1,h2⟩:=Q2.mp e;rw[Z2 h1,h2]
theorem kA {a:Array Keyed} (h:x∈a.toList.drop i):∃j,i<=j/\j<a.size/\x=g a j:=by
 obtain⟨k,hk,e⟩:=Zs.mp h;rw[QA]at hk;have hs:i+k<a.size:=by rw[<-Q6];lia
 refine⟨i+k,by lia,hs,?_⟩;have e2:=dw hs;rw[<-Qw]at e2;rw[ZB]at e;rw[Q3 (by rw[Q6];exact hs)]at e2;rw[<-e];exact Option.some.inj e2
theorem hX {a:Array Keyed} (h:On blt a 0 a.size) (i:Nat):PW blt (a.toList.drop i):=by
 refine Z3.mpr λj k hj hk hjk=>?_;rw[QA,Q6]at hj hk;have e1:=dw (xs:=a) (i:=i+j) (by lia);have e2:=dw (xs:=a) (i:=i+k) (by lia);rw[<-Qw,Q3 (by rw[Q6];lia)]at e1 e2;rw[ZB,ZB,Option.some.inj e1,Option.some.inj e2];exact h _ _ (Qj _) (by lia) (by lia)
theorem EK {a:Array Keyed} (h:PW blt a.toList):On blt a 0 a.size:=λi j _ hij hj=>by
 have e1:=dw (xs:=a) (i:=i) (by lia);have e2:=dw (xs:=a) (i:=j) hj;rw[<-Qw,Q3 (by rw[Q6];lia)]at e1 e2;rw[<-Option.some.inj e1,<-Option.some.inj e2];exact Z3.mp h i j _ _ hij
theorem qk (a:Array Keyed) (i k:Nat):(a.extract i (i+k)).toList=(a.toList.drop i).take k:=by
 rw[Z8,QU];congr 1;lia
theorem gN (a:Array Keyed) (i:Nat):(a.extract i).toList=a.toList.drop i:=by
 rw[Z8,QU,Qt];rw[QA,Q6];exact Q4 _
theorem zW (l:List Keyed) (i k:Nat):l.drop i=(l.drop i).take k++l.drop (i+k):=by
 rw[<-Xo,QJ]
end
structure Like (st st':SortSt):Prop where
 kind:kindOf st'=kindOf st
 arr:arrOf st'=arrOf st
 pend:pendingOf st'=pendingOf st
 fail:failedOf st'=failedOf st
theorem Like.refl (st:SortSt):Like st st:=⟨rfl,rfl,rfl,rfl⟩
section
theorem bK {arr:Array Keyed} (h:i<arr.size) (q:R (g arr i) st):wpS (model prog w) A E s (elem' arr i) R st:=by
 rw[elem'_eq,dw h];exact wpS_pure q
def AS:Nat->StateT SortSt Sem Unit:=sortPriv%PySem.Builtin.setMinGallop
theorem D7 {m:Nat} (h:∀st',Like st st'->Q () st'):wpS (model prog w) A E s (AS m) Q st:=wpS_modify (h _ ⟨rfl,rfl,rfl,rfl⟩)
variable (L:yU prog w A E s a₀ κ blt)
include L
theorem AD {a b:Array Keyed} {Q:Array Keyed->SortSt->Prop} (C:Cmp blt) (hK:kindOf st=κ) (hm:∀x,x∈a.toList++b.toList->x∈a₀) (oa:On blt a 0 a.size) (ob:On blt b 0 b.size) (ha:0<a.size) (hb:0<b.size)
  (hfirst:blt (g b 0) (g a 0)=true) (hlast:∀j,j<b.size->blt (g b j) (g a (a.size-1))=true)
  (h:∀res st',Like st st'->res.toList.Perm (a.toList++b.toList)->PW blt res.toList->Q res st'):wpS (model prog w) A E s (EV a b) Q st:=by
 have ma:∀i,i<a.size->g a i∈a₀:=λi hi=>hm _ (by have:=xq hi;simp[this]);have mb:∀i,i<b.size->g b i∈a₀:=λi hi=>hm _ (by have:=xq hi;simp[this]);have doneA:∀(o:List Keyed) (ia:Nat) (st':SortSt) (res:Array Keyed),Like st st'->Lo blt (a.toList++b.toList) o (a.toList.drop ia) []->res.toList=o++a.toList.drop ia->Q res st':=λo ia st' res lk lo e=>by
  obtain⟨p1,p2⟩:=lo.endA (hX oa ia);exact h res st' lk (by rw[e];exact p1) (by rw[e];exact p2)
 have doneB:∀(o:List Keyed) (ib:Nat) (st':SortSt) (res:Array Keyed),Like st st'->Lo blt (a.toList++b.toList) o (a.toList.drop (a.size-1)) (b.toList.drop ib)->res.toList=o++(b.toList.drop ib++a.toList.drop (a.size-1))->Q res st':=λo ib st' res lk lo e=>by
  have ez:a.toList.drop (a.size-1)=[g a (a.size-1)]:=by
   rw[vb (by lia),Zg (by rw[Q6];lia)]
  rw[ez]at lo e;obtain⟨p1,p2⟩:=lo.endB (hX ob ib) (λx hx=>by
   obtain⟨j,_,hj,rfl⟩:=kA hx;exact C.of_lt (hlast j hj))
  exact h res st' lk (by rw[e];exact p1) (by rw[e];exact p2)
 have chunkA:∀(out:Array Keyed) (ia ib k:Nat),ia+k<=a.size->ib<b.size->Lo blt (a.toList++b.toList) out.toList (a.toList.drop ia) (b.toList.drop ib)->(∀i,i<k->blt (g b ib) (g a (ia+i))=false)->
   Lo blt (a.toList++b.toList) (out++a.extract ia (ia+k)).toList (a.toList.drop (ia+k)) (b.toList.drop ib):=λout ia ib k h1 h2 lo hk=>by
  rw[QG,qk];have pa:=hX oa ia;rw[zW a.toList ia k]at lo pa;refine lo.a pa λx hx y hy=>?_;obtain⟨i,hi,e⟩:=Zs.mp hx;rw[Q8,QA,Q6]at hi;have ex:x=g a (ia+i):=by
   have e2:=dw (xs:=a) (i:=ia+i) (by lia);rw[<-Qw,Q3 (by rw[Q6];lia)]at e2;rw[Zt,ZB]at e;rw[<-e];exact Option.some.inj e2
  obtain⟨j,hj1,hj2,rfl⟩:=kA hy;have l1:le blt x (g b ib):=by rw[ex];exact hk i (by lia)
  by_cases ej:j=ib
  .rw[ej];exact l1
  .exact C.trans l1 (ob ib j (Qj _) (by lia) hj2)
 have chunkB:∀(out:Array Keyed) (ia ib k:Nat),ib+k<=b.size->ia<a.size->Lo blt (a.toList++b.toList) out.toList (a.toList.drop ia) (b.toList.drop ib)->(∀i,i<k->blt (g b (ib+i)) (g a ia)=true)->
   Lo blt (a.toList++b.toList) (out++b.extract ib (ib+k)).toList (a.toList.drop ia) (b.toList.drop (ib+k)):=λout ia ib k h1 h2 lo hk=>by
  rw[QG,qk];have pb:=hX ob ib;rw[zW b.toList ib k]at lo pb;refine lo.b pb λx hx y hy=>?_;obtain⟨i,hi,e⟩:=Zs.mp hx;rw[Q8,QA,Q6]at hi;have ex:x=g b (ib+i):=by
   have e2:=dw (xs:=b) (i:=ib+i) (by lia);rw[<-Qw,Q3 (by rw[Q6];lia)]at e2;rw[Zt,ZB]at e;rw[<-e];exact Option.some.inj e2
  obtain⟨j,hj1,hj2,rfl⟩:=kA hy;have l1:le blt x (g a ia):=by rw[ex];exact C.of_lt (hk i (by lia))
  by_cases ej:j=ia
  .rw[ej];exact l1
  .exact C.trans l1 (oa ia j (Qj _) (by lia) hj2)
 have one:∀(x:Array Keyed) (i:Nat),i<x.size->(x.extract i (i+1))= #[g x i]:=λx i hi=>by
  apply Array.ext';rw[qk,vb hi];rfl
 have stepB:∀(out:Array Keyed) (ia ib:Nat),ia<a.size->ib<b.size->Lo blt (a.toList++b.toList) out.toList (a.toList.drop ia) (b.toList.drop ib)->blt (g b ib) (g a ia)=true->
   Lo blt (a.toList++b.toList) (out.push (g b ib)).toList (a.toList.drop ia) (b.toList.drop (ib+1)):=λout ia ib h1 h2 lo hk=>by
  have:=chunkB out ia ib 1 (by lia) h1 lo λi hi=>by rw[show ib+i=ib by lia];exact hk
  rwa [one b ib h2,<-ZY]at this
 have stepA:∀(out:Array Keyed) (ia ib:Nat),ia<a.size->ib<b.size->Lo blt (a.toList++b.toList) out.toList (a.toList.drop ia) (b.toList.drop ib)->blt (g b ib) (g a ia)=false->
   Lo blt (a.toList++b.toList) (out.push (g a ia)).toList (a.toList.drop (ia+1)) (b.toList.drop ib):=λout ia ib h1 h2 lo hk=>by
  have:=chunkA out ia ib 1 (by lia) h2 lo λi hi=>by rw[show ia+i=ia by lia];exact hk
  rwa [one a ia h1,<-ZY]at this
 have endA:∀(out:Array Keyed) (ia ib:Nat) (st':SortSt),Like st st'->b.size<=ib->Lo blt (a.toList++b.toList) out.toList (a.toList.drop ia) (b.toList.drop ib)->Q (out++a.extract ia++b.extract ib) st':=λout ia ib st' lk hb lo=>by
  have en:b.toList.drop ib=[]:=Zg (by rw[Q6];lia);rw[en]at lo;refine doneA _ ia st' _ lk lo ?_;rw[QG,QG,gN,gN,en,ZL]
 have endB:∀(out:Array Keyed) (ia ib:Nat) (st':SortSt),Like st st'->ia+1=a.size->Lo blt (a.toList++b.toList) out.toList (a.toList.drop ia) (b.toList.drop ib)->Q (out++b.extract ib++a.extract ia) st':=λout ia ib st' lk ha lo=>by
  have en:ia=a.size-1:=by lia
  refine doneB out.toList ib st' _ lk (by rw[<-en];exact lo) ?_;rw[QG,QG,gN,gN,<-en,Ql]
 have monoA:∀(ka:Nat) (x:Keyed) (i j:Nat),i<=j->ka+j<a.size->(!blt x (g a (ka+j)))=true->(!blt x (g a (ka+i)))=true:=λka x i j h1 h2 h3=>by
  have h3:blt x (g a (ka+j))=false:=by simpa using h3
  by_cases e:i=j
  .subst e;simpa using h3
  .have:=C.trans (oa (ka+i) (ka+j) (Qj _) (by lia) h2) h3;simpa using this
 have monoB:∀(kb:Nat) (x:Keyed) (i j:Nat),i<=j->kb+j<b.size->blt (g b (kb+j)) x=true->blt (g b (kb+i)) x=true:=λkb x i j h1 h2 h3=>by
  by_cases e:i=j
  .subst e;exact h3
  .have q:=ob (kb+i) (kb+j) (Qj _) (by lia) h2;cases z:blt (g b (kb+i)) x with
   |true=>rfl
   |false=>
    have f:blt (g b (kb+j)) x=false:=C.trans z q;rw[h3]at f;cases f
 refine wpS_bind ?_;dsimp only;refine wpS_lift (wpAny_rule ⟨rfl,?_⟩);refine wpS_bind (bK hb ?_);have start:Lo blt (a.toList++b.toList) [g b 0] (a.toList.drop 0) (b.toList.drop 1):=by
  have l0:Lo blt (a.toList++b.toList) [] (a.toList.drop 0) ([g b 0]++b.toList.drop 1):=by
   refine⟨?_,List.Pairwise.nil,λx hx=>absurd hx QT⟩;have e:=vb hb;rw[Z9]at e;rw[Z9,ZN,List.singleton_append,<-e]
  have:=l0.b (by have:=hX ob 0;rw[vb hb]at this;exact this) (λx hx y hy=>by
   rw[Q7.mp hx];obtain⟨j,_,hj,rfl⟩:=kA hy;by_cases j0:j=0
   .rw[j0];exact C.of_lt hfirst
   .exact C.trans (C.of_lt hfirst) (oa 0 j (Q4 _) (by lia) hj))
  simpa using this
 by_cases b1:1=b.size
 .have eb:(1==b.size)=true:=beq_iff_eq.mpr b1;rw[if_pos eb];refine wpS_pure ?_;have en:b.toList.drop 1=[]:=Zg (by rw[Q6];lia);rw[en]at start;refine doneA _ 0 st _ (Like.refl _) start ?_;simp[b1]
 .have eb:¬(1==b.size)=true:=by simpa using b1
  rw[if_neg eb];by_cases a1:0+1=a.size
  .have ea:(0+1==a.size)=true:=beq_iff_eq.mpr a1;rw[if_pos ea];refine wpS_pure ?_;have e0:a.size-1=0:=by lia
   refine doneB [g b 0] 1 st _ (Like.refl _) (by rw[e0];exact start) ?_;rw[e0,QG,QG,gN,gN,Ql]
  .have ea:¬(0+1==a.size)=true:=by simpa using a1
   rw[if_neg ea];refine wpS_bind (wpS_get ?_);refine wpS_bind (wpS_mono (wpS_forRange (I:=λi c st'=>Like st st'/\∃out ia ib mg,c=(none,out,ia,ib,mg)/\ia+1<a.size/\ib<b.size/\i<=ia+ib/\Lo blt (a.toList++b.toList) out.toList (a.toList.drop ia) (b.toList.drop ib))
    (Q:=λc st'=>∃res,c.1=some res/\Q res st') ?_ ?_ ⟨Like.refl _, #[g b 0],0,1,_,rfl,by lia,by lia,by lia,start⟩) ?_)
   .rintro i c st' hi1 hi2 ⟨lk,out,ia,ib,mg,rfl,ha1,hb1,hi,lo⟩;have hK':kindOf st'=κ:=lk.kind.trans hK;refine wpS_bind (wpS_mono (wpS_forRange (I:=λj c st2=>st2=st'/\∃out ja jb p q,c=(none,out,ja,jb,p,q)/\ja+1<a.size/\jb<b.size/\ia+ib<=ja+jb/\Lo blt (a.toList++b.toList) out.toList (a.toList.drop ja) (b.toList.drop jb))
     (Q:=λc st2=>st2=st'/\((∃res,c.1=some res/\Q res st')\/∃out ja jb p q,c=(none,out,ja,jb,p,q)/\ja+1<a.size/\jb<b.size/\ia+ib<=ja+jb/\Lo blt (a.toList++b.toList) out.toList (a.toList.drop ja) (b.toList.drop jb))) ?_ ?_
     ⟨rfl,out,ia,ib,0,0,rfl,ha1,hb1,Q4 _,lo⟩) ?_)
    .rintro j c st2 hj1 hj2 ⟨rfl,out,ja,jb,p,q,rfl,hja,hjb,hij,lo⟩;dsimp only;refine wpS_bind (bK hjb (wpS_bind (bK (by lia) (wpS_bind (L _ _ _ _ (mb jb hjb) (ma ja (by lia)) hK' ?_)))));dsimp only;cases e:blt (g b jb) (g a ja)with
     |true=>
      rw[if_pos rfl];have lo':=stepB out ja jb (by lia) hjb lo e;refine wpS_bind (bK hjb ?_);by_cases z:jb+1=b.size
      .rw[if_pos (beq_iff_eq.mpr z)];exact wpS_pure ⟨rfl,.inl ⟨_,rfl,endA _ ja (jb+1) _ lk (by lia) lo'⟩⟩
      .rw[if_neg (by simpa using z)];by_cases y:q+1>=mg
       .rw[if_pos y];exact wpS_pure ⟨rfl,.inr ⟨_,_,_,_,_,rfl,hja,by lia,by lia,lo'⟩⟩
       .rw[if_neg y];exact wpS_pure ⟨rfl,_,_,_,_,_,rfl,hja,by lia,by lia,lo'⟩
     |false=>
      rw[if_neg (by decide)];have lo':=stepA out ja jb (by lia) hjb lo e;refine wpS_bind (bK (by lia) ?_);by_cases z:ja+1+1=a.size
      .rw[if_pos (beq_iff_eq.mpr z)];exact wpS_pure ⟨rfl,.inl ⟨_,rfl,endB _ (ja+1) jb _ lk z lo'⟩⟩
      .rw[if_neg (by simpa using z)];by_cases y:p+1>=mg
       .rw[if_pos y];exact wpS_pure ⟨rfl,.inr ⟨_,_,_,_,_,rfl,by lia,hjb,by lia,lo'⟩⟩
       .rw[if_neg y];exact wpS_pure ⟨rfl,_,_,_,_,_,rfl,by lia,hjb,by lia,lo'⟩
    .rintro c st2 ⟨rfl,out,ja,jb,p,q,rfl,hja,hjb,hij,lo⟩;exact⟨rfl,.inr ⟨_,_,_,_,_,rfl,hja,hjb,hij,lo⟩⟩
    .rintro ⟨r,c⟩ st2 ⟨rfl,⟨res,e,q⟩|⟨out,ja,jb,p,q,e,hja,hjb,hij,lo⟩⟩
     .dsimp only at e;subst e;exact wpS_pure ⟨res,rfl,q⟩
     .obtain⟨rfl,rfl⟩:=Prod.mk.inj e;dsimp only;refine wpS_bind (wpS_lift (wpAny_rule ⟨rfl,?_⟩));refine wpS_bind (wpS_mono (wpS_forRange (I:=λj c st3=>Like st st3/\∃out ka kb m' p q,c=(none,out,ka,kb,m',p,q)/\ka+1<a.size/\kb<b.size/\ia+ib+j<=ka+kb/\Lo blt (a.toList++b.toList) out.toList (a.toList.drop ka) (b.toList.drop kb))
       (Q:=λc st3=>Like st st3/\((∃res,c.1=some res/\Q res st3)\/∃out ka kb m' p q,c=(none,out,ka,kb,m',p,q)/\ka+1<a.size/\kb<b.size/\ia+ib+1<=ka+kb/\Lo blt (a.toList++b.toList) out.toList (a.toList.drop ka) (b.toList.drop kb))) ?_ ?_
       ⟨lk,out,ja,jb,_,_,_,rfl,hja,hjb,by lia,lo⟩) ?_)
      .rintro j c st3 hj1 hj2 ⟨lk3',out,ka,kb,m',p,q,rfl,hka,hkb,hij,lo⟩;dsimp only;by_cases m1:m'>1
       case' pos=>rw[if_pos m1]
       case' neg=>rw[if_neg m1]
       all_goals
        refine wpS_bind (D7 λst4 lk3=>?_);have lk4:Like st st4:=⟨lk3.kind.trans lk3'.kind,lk3.arr.trans lk3'.arr,lk3.pend.trans lk3'.pend,lk3.fail.trans lk3'.fail⟩;have hK4:kindOf st4=κ:=lk4.kind.trans hK;refine wpS_bind (bK hkb ?_);refine wpS_bind (gM L hK4 (mb kb hkb) (λi hi=>⟨by lia,ma _ (by lia)⟩) (by lia) (λi=>!blt (g b kb) (g a (ka+i))) (λi hi=>rfl) (λi j h1 h2 h3=>monoA ka _ i j h1 (by lia) h3) λk hk1 hk2 hk3=>?_);dsimp only;have klt:k<a.size-ka:=by
         rcases Nat.lt_or_ge k (a.size-ka)with z|z
         .exact z
         .have f:=hk2 (a.size-1-ka) (by lia);rw[show ka+(a.size-1-ka)=a.size-1 by lia,hlast kb hkb]at f;cases f
        have hk2':∀i,i<k->blt (g b kb) (g a (ka+i))=false:=λi hi=>by have:=hk2 i hi;simpa using this
        have bw:blt (g b kb) (g a (ka+k))=true:=by have:=hk3 k (Q4 _) klt;simpa using this
        have lo1:=lo;by_cases k0:k>0
        case' pos=>
         rw[if_pos k0];replace lo1:=chunkA out ka kb k (by lia) hkb lo hk2';by_cases z:ka+k+1=a.size
         case pos=>
          rw[if_pos (beq_iff_eq.mpr z)];exact wpS_pure ⟨lk4,.inl ⟨_,rfl,endB _ (ka+k) kb _ lk4 z lo1⟩⟩
         have zz:¬ka+k=a.size:=by lia
         rw[if_neg (by simpa using z),if_neg (by simpa using zz)];obtain⟨kc,ek⟩:∃kc,kc=ka+k:=⟨_,rfl⟩
        case' neg=>
         rw[if_neg k0];rw[show k=0 by lia,ZQ]at bw;obtain⟨kc,ek⟩:∃kc,kc=ka:=⟨_,rfl⟩
        all_goals
         rw[<-ek]at lo1 bw⊢;refine wpS_bind (bK hkb ?_);have lo2:=stepB _ kc kb (by lia) hkb lo1 bw;by_cases z2:kb+1=b.size
         case pos=>
          rw[if_pos (beq_iff_eq.mpr z2)];exact wpS_pure ⟨lk4,.inl ⟨_,rfl,endA _ kc (kb+1) _ lk4 (by lia) lo2⟩⟩
         rw[if_neg (by simpa using z2)];refine wpS_bind (bK (by lia) ?_);refine wpS_bind (gM L hK4 (ma _ (by lia)) (λi hi=>⟨by lia,mb _ (by lia)⟩) (by lia) (λi=>blt (g b (kb+1+i)) (g a kc)) (λi hi=>rfl) (λi j h1 h2 h3=>monoB (kb+1) _ i j h1 (by lia) h3) λk2 h1 h2 h3=>?_);dsimp only;have lo3:=lo2;by_cases q0:k2>0
         case' pos=>
          rw[if_pos q0];replace lo3:=chunkB _ kc (kb+1) k2 (by lia) (by lia) lo2 h2;by_cases z3:kb+1+k2=b.size
          case pos=>
           rw[if_pos (beq_iff_eq.mpr z3)];exact wpS_pure ⟨lk4,.inl ⟨_,rfl,endA _ kc (kb+1+k2) _ lk4 (by lia) lo3⟩⟩
          rw[if_neg (by simpa using z3)];have w3:=h3 k2 (Q4 _) (by lia);obtain⟨kd,ed⟩:∃kd,kd=kb+1+k2:=⟨_,rfl⟩
         case' neg=>
          rw[if_neg q0];have w3:blt (g b (kb+1)) (g a kc)=false:=h3 0 (by lia) (by lia);obtain⟨kd,ed⟩:∃kd,kd=kb+1:=⟨_,rfl⟩
         all_goals
          rw[<-ed]at lo3 w3⊢;refine wpS_bind (bK (by lia) ?_);have lo4:=stepA _ kc kd (by lia) (by lia) lo3 w3;by_cases z4:kc+1+1=a.size
          case pos=>
           rw[if_pos (beq_iff_eq.mpr z4)];exact wpS_pure ⟨lk4,.inl ⟨_,rfl,endB _ (kc+1) kd _ lk4 z4 lo4⟩⟩
          rw[if_neg (by simpa using z4)];split
          .exact wpS_pure ⟨lk4,.inr ⟨_,_,_,_,_,_,rfl,by lia,by lia,by lia,lo4⟩⟩
          .exact wpS_pure ⟨lk4,_,_,_,_,_,_,rfl,by lia,by lia,by lia,lo4⟩
      .rintro c st3 ⟨lk3,out,ka,kb,m',p,q,rfl,hka,hkb,hij,lo⟩;have em:max 0 (a.size+b.size)=a.size+b.size:=QL (Qj _);rw[em]at hij;lia
      .rintro ⟨r,c⟩ st3 ⟨lk3,⟨res,e,q⟩|⟨out,ka,kb,m',p,q,e,hka,hkb,hij,lo⟩⟩
       .dsimp only at e;subst e;exact wpS_pure ⟨res,rfl,q⟩
       .obtain⟨rfl,rfl⟩:=Prod.mk.inj e;dsimp only;refine wpS_bind (wpS_modify (wpS_pure ⟨⟨lk3.kind,lk3.arr,lk3.pend,lk3.fail⟩,_,_,_,_,rfl,hka,hkb,by lia,lo⟩))
   .rintro c st' ⟨lk,out,ia,ib,mg,rfl,ha1,hb1,hi,lo⟩;have em:max 0 (a.size+b.size)=a.size+b.size:=QL (Qj _);rw[em]at hi;lia
   .rintro ⟨r,c⟩ st' ⟨res,e,q⟩;dsimp only at e;subst e;exact wpS_pure q
end
section
structure Hi (blt:Keyed->Keyed->Bool) (all o ra rb:List Keyed):Prop where
 perm:((ra++rb)++o).Perm all
 srt:PW blt o
 high:∀x∈ra++rb,∀y∈o,le blt x y
theorem Hi.a {ca:List Keyed} (h:Hi blt all o (ra++ca) rb) (hs:PW blt (ra++ca)) (hc:∀x∈rb,∀y∈ca,le blt x y):Hi blt all (ca++o) ra rb where
 perm:=by
  refine List.Perm.trans ?_ h.perm;rw[<-Ql];refine List.Perm.append_right o ?_;rw[Ql,Ql];exact List.Perm.append_left ra ZS
 srt:=Qk.mpr ⟨(Qk.mp hs).2.1,h.srt,λx hx y hy=>h.high x (by simp[hx]) y hy⟩
 high:=λx hx y hy=>by
  rcases Q5.mp hy with q|q
  .rcases Q5.mp hx with z|z
   .exact(Qk.mp hs).2.2 x z y q
   .exact hc x z y q
  .exact h.high x (by rcases Q5.mp hx with z|z<;>simp[z]) y q
theorem Hi.b {cb:List Keyed} (h:Hi blt all o ra (rb++cb)) (hs:PW blt (rb++cb)) (hc:∀x∈ra,∀y∈cb,le blt x y):Hi blt all (cb++o) ra rb where
 perm:=by
  refine List.Perm.trans ?_ h.perm;rw[<-Ql];refine List.Perm.append_right o ?_;rw[Ql]
 srt:=Qk.mpr ⟨(Qk.mp hs).2.1,h.srt,λx hx y hy=>h.high x (by simp[hx]) y hy⟩
 high:=λx hx y hy=>by
  rcases Q5.mp hy with q|q
  .rcases Q5.mp hx with z|z
   .exact hc x z y q
   .exact(Qk.mp hs).2.2 x z y q
  .exact h.high x (by rcases Q5.mp hx with z|z<;>simp[z]) y q
theorem Eh {a:Array Keyed} (h:i<a.size):a.toList.take (i+1)=a.toList.take i++ [g a i]:=by
 have e:=dw h;rw[<-Qw]at e;rw[Qr,e];rfl
theorem iu {a:Array Keyed} (h:x∈a.toList.take n):∃j,j<n/\j<a.size/\x=g a j:=by
 obtain⟨k,hk,e⟩:=Zs.mp h;rw[Q8,Q6]at hk;refine⟨k,by lia,by lia,?_⟩;have e2:=dw (xs:=a) (i:=k) (by lia);rw[<-Qw,Q3 (by rw[Q6];lia)]at e2;rw[Zt]at e;rw[<-e];exact Option.some.inj e2
theorem dY {a:Array Keyed} (h:x∈(a.extract i n).toList):∃j,i<=j/\j<n/\j<a.size/\x=g a j:=by
 rw[Z8,QU]at h;obtain⟨k,hk,e⟩:=Zs.mp h;rw[Q8,QA,Q6]at hk;refine⟨i+k,by lia,by lia,by lia,?_⟩;have e2:=dw (xs:=a) (i:=i+k) (by lia);rw[<-Qw,Q3 (by rw[Q6];lia)]at e2;rw[Zt,ZB]at e;rw[<-e];exact Option.some.inj e2
theorem m7 {a:Array Keyed} (h:On blt a 0 a.size) (n:Nat):PW blt (a.toList.take n):=by
 have:=hX h 0;rw[Z9]at this;exact List.Pairwise.sublist (X7 _ _) this
theorem ze {a:Array Keyed} (h:i<=n):a.toList.take n=a.toList.take i++(a.extract i n).toList:=by
 rw[Z8,QU];obtain⟨k,rfl⟩:∃k,n=i+k:=⟨n-i,by lia⟩;rw[List.take_add,show i+k-i=k by lia]
theorem Hw (a:Array Keyed) (n:Nat):(a.extract 0 n).toList=a.toList.take n:=by
 rw[Z8,QU,Z9,Nat.sub_zero]
end
section
variable (L:yU prog w A E s a₀ κ blt)
include L
theorem AE {a b:Array Keyed} {Q:Array Keyed->SortSt->Prop} (C:Cmp blt) (hK:kindOf st=κ) (hm:∀x,x∈a.toList++b.toList->x∈a₀) (oa:On blt a 0 a.size) (ob:On blt b 0 b.size) (ha:0<a.size) (hb:0<b.size)
  (hfirst:blt (g b 0) (g a 0)=true) (hlast:∀j,j<b.size->blt (g b j) (g a (a.size-1))=true)
  (h:∀res st',Like st st'->res.toList.Perm (a.toList++b.toList)->PW blt res.toList->Q res st'):wpS (model prog w) A E s (EW a b) Q st:=by
 have ma:∀i,i<a.size->g a i∈a₀:=λi hi=>hm _ (by have:=xq hi;simp[this]);have mb:∀i,i<b.size->g b i∈a₀:=λi hi=>hm _ (by have:=xq hi;simp[this]);have bfirst:∀i,i<a.size->blt (g b 0) (g a i)=true:=λi hi=>by
  by_cases i0:i=0
  .rw[i0];exact hfirst
  .cases z:blt (g b 0) (g a i)with
   |true=>rfl
   |false=>
    have f:blt (g b 0) (g a 0)=false:=C.trans (oa 0 i (Q4 _) (by lia) hi) z;rw[hfirst]at f;cases f
 have chunkA:∀(out:Array Keyed) (na nb k:Nat),k<=na->na<=a.size->1<=nb->nb<=b.size->Hi blt (a.toList++b.toList) out.reverse.toList (a.toList.take na) (b.toList.take nb)->(∀i,k<=i->i<na->blt (g b (nb-1)) (g a i)=true)->
   Hi blt (a.toList++b.toList) (out++(a.extract k na).reverse).reverse.toList (a.toList.take k) (b.toList.take nb):=λout na nb k h1 h2 h3 h4 lo hk=>by
  have er:(out++(a.extract k na).reverse).reverse.toList=(a.extract k na).toList++out.reverse.toList:=by simp
  have pa:=m7 oa na;rw[ze h1]at lo pa;rw[er];refine lo.a pa λx hx y hy=>?_;obtain⟨i,hi1,hi2,hi3,rfl⟩:=dY hy;obtain⟨j,hj1,hj2,rfl⟩:=iu hx;have l1:=C.of_lt (hk i hi1 hi2);by_cases ej:j=nb-1
  .rw[ej];exact l1
  .exact C.trans (ob j (nb-1) (Qj _) (by lia) (by lia)) l1
 have chunkB:∀(out:Array Keyed) (na nb k:Nat),k<=nb->nb<=b.size->1<=na->na<=a.size->Hi blt (a.toList++b.toList) out.reverse.toList (a.toList.take na) (b.toList.take nb)->(∀i,k<=i->i<nb->blt (g b i) (g a (na-1))=false)->
   Hi blt (a.toList++b.toList) (out++(b.extract k nb).reverse).reverse.toList (a.toList.take na) (b.toList.take k):=λout na nb k h1 h2 h3 h4 lo hk=>by
  have er:(out++(b.extract k nb).reverse).reverse.toList=(b.extract k nb).toList++out.reverse.toList:=by simp
  have pb:=m7 ob nb;rw[ze h1]at lo pb;rw[er];refine lo.b pb λx hx y hy=>?_;obtain⟨i,hi1,hi2,hi3,rfl⟩:=dY hy;obtain⟨j,hj1,hj2,rfl⟩:=iu hx;have l1:le blt (g a (na-1)) (g b i):=hk i hi1 hi2;by_cases ej:j=na-1
  .rw[ej];exact l1
  .exact C.trans (oa j (na-1) (Qj _) (by lia) (by lia)) l1
 have one:∀(x:Array Keyed) (i:Nat),i<x.size->(x.extract i (i+1)).reverse= #[g x i]:=λx i hi=>by
  have:x.extract i (i+1)= #[g x i]:=by
   apply Array.ext';rw[qk,vb hi];rfl
  rw[this];rfl
 have stepA:∀(out:Array Keyed) (na nb:Nat),1<=na->na<=a.size->1<=nb->nb<=b.size->Hi blt (a.toList++b.toList) out.reverse.toList (a.toList.take na) (b.toList.take nb)->blt (g b (nb-1)) (g a (na-1))=true->
   Hi blt (a.toList++b.toList) (out.push (g a (na-1))).reverse.toList (a.toList.take (na-1)) (b.toList.take nb):=λout na nb h1 h2 h3 h4 lo hk=>by
  have:=chunkA out na nb (na-1) (by lia) h2 h3 h4 lo λi hi hj=>by rw[show i=na-1 by lia];exact hk
  rwa [show a.extract (na-1) na=a.extract (na-1) (na-1+1) by rw[show na-1+1=na by lia],one a (na-1) (by lia),<-ZY]at this
 have stepB:∀(out:Array Keyed) (na nb:Nat),1<=na->na<=a.size->1<=nb->nb<=b.size->Hi blt (a.toList++b.toList) out.reverse.toList (a.toList.take na) (b.toList.take nb)->blt (g b (nb-1)) (g a (na-1))=false->
   Hi blt (a.toList++b.toList) (out.push (g b (nb-1))).reverse.toList (a.toList.take na) (b.toList.take (nb-1)):=λout na nb h1 h2 h3 h4 lo hk=>by
  have:=chunkB out na nb (nb-1) (by lia) h4 h1 h2 lo λi hi hj=>by rw[show i=nb-1 by lia];exact hk
  rwa [show b.extract (nb-1) nb=b.extract (nb-1) (nb-1+1) by rw[show nb-1+1=nb by lia],one b (nb-1) (by lia),<-ZY]at this
 have endA:∀(out:Array Keyed) (na nb:Nat) (st':SortSt),Like st st'->na=0->nb<=b.size->Hi blt (a.toList++b.toList) out.reverse.toList (a.toList.take na) (b.toList.take nb)->Q (a.extract 0 na++b.extract 0 nb++out.reverse) st':=λout na nb st' lk hn hb2 lo=>by
  subst hn;have e:(a.extract 0 0++b.extract 0 nb++out.reverse).toList=b.toList.take nb++out.reverse.toList:=by
   rw[QG,QG,Hw,Hw];rfl
  refine h _ st' lk ?_ ?_
  .rw[e];exact lo.perm
  .rw[e];exact Qk.mpr ⟨m7 ob nb,lo.srt,λx hx y hy=>lo.high x (by simp[hx]) y hy⟩
 have endB:∀(out:Array Keyed) (na nb:Nat) (st':SortSt),Like st st'->nb=1->na<=a.size->Hi blt (a.toList++b.toList) out.reverse.toList (a.toList.take na) (b.toList.take nb)->Q (b.extract 0 nb++a.extract 0 na++out.reverse) st':=λout na nb st' lk hn ha2 lo=>by
  subst hn;have e:(b.extract 0 1++a.extract 0 na++out.reverse).toList=(b.toList.take 1++a.toList.take na)++out.reverse.toList:=by
   rw[QG,QG,Hw,Hw]
  refine h _ st' lk ?_ ?_
  .rw[e];exact List.Perm.trans (List.Perm.append_right _ ZS) lo.perm
  .rw[e];refine Qk.mpr ⟨Qk.mpr ⟨m7 ob 1,m7 oa na,λx hx y hy=>?_⟩,lo.srt,λx hx y hy=>lo.high x ?_ y hy⟩
   .obtain⟨i,hi1,hi2,rfl⟩:=iu hx;obtain⟨j,hj1,hj2,rfl⟩:=iu hy;rw[show i=0 by lia];exact C.of_lt (bfirst j hj2)
   .rcases Q5.mp hx with z|z
    .exact Q5.mpr (.inr z)
    .exact Q5.mpr (.inl z)
 have monoA:∀(ka:Nat) (x:Keyed) (i j:Nat),i<=j->ka+j<a.size->(!blt x (g a (ka+j)))=true->(!blt x (g a (ka+i)))=true:=λka x i j h1 h2 h3=>by
  have h3:blt x (g a (ka+j))=false:=by simpa using h3
  by_cases e:i=j
  .subst e;simpa using h3
  .have:=C.trans (oa (ka+i) (ka+j) (Qj _) (by lia) h2) h3;simpa using this
 have monoB:∀(kb:Nat) (x:Keyed) (i j:Nat),i<=j->kb+j<b.size->blt (g b (kb+j)) x=true->blt (g b (kb+i)) x=true:=λkb x i j h1 h2 h3=>by
  by_cases e:i=j
  .subst e;exact h3
  .have q:=ob (kb+i) (kb+j) (Qj _) (by lia) h2;cases z:blt (g b (kb+i)) x with
   |true=>rfl
   |false=>
    have f:blt (g b (kb+j)) x=false:=C.trans z q;rw[h3]at f;cases f
 refine wpS_bind ?_;dsimp only;refine wpS_lift (wpAny_rule ⟨rfl,?_⟩);refine wpS_bind (bK (by lia) ?_);have start:Hi blt (a.toList++b.toList) (#[g a (a.size-1)]:Array Keyed).reverse.toList (a.toList.take (a.size-1)) (b.toList.take b.size):=by
  have l0:Hi blt (a.toList++b.toList) [] (a.toList.take (a.size-1)++ [g a (a.size-1)]) (b.toList.take b.size):=by
   refine⟨?_,List.Pairwise.nil,λx _ y hy=>absurd hy QT⟩;rw[<-Eh (by lia),show a.size-1+1=a.size by lia,ZL];have e1:a.toList.take a.size=a.toList:=Qt (by rw[Q6];exact Q4 _);have e2:b.toList.take b.size=b.toList:=Qt (by rw[Q6];exact Q4 _);rw[e1,e2]
  have:=l0.a (by rw[<-Eh (by lia)];exact m7 oa _) (λx hx y hy=>by
   rw[Q7.mp hy];obtain⟨j,_,hj,rfl⟩:=iu hx;exact C.of_lt (hlast j hj))
  exact this
 by_cases a1:a.size-1=0
 .rw[if_pos (beq_iff_eq.mpr a1)];exact wpS_pure (endA _ (a.size-1) b.size st (Like.refl _) a1 (Q4 _) start)
 .rw[if_neg (by simpa using a1)];by_cases b1:b.size=1
  .rw[if_pos (beq_iff_eq.mpr b1)];exact wpS_pure (endB _ (a.size-1) b.size st (Like.refl _) b1 (by lia) start)
  .rw[if_neg (by simpa using b1)];refine wpS_bind (wpS_get ?_);refine wpS_bind (wpS_mono (wpS_forRange (I:=λi c st'=>Like st st'/\∃na nb out mg,c=(none,na,nb,out,mg)/\1<=na/\na<=a.size/\2<=nb/\nb<=b.size/\na+nb+i<=a.size+b.size/\Hi blt (a.toList++b.toList) out.reverse.toList (a.toList.take na) (b.toList.take nb))
    (Q:=λc st'=>∃res,c.1=some res/\Q res st') ?_ ?_ ⟨Like.refl _,_,_, #[g a (a.size-1)],_,rfl,by lia,by lia,by lia,Q4 _,by lia,start⟩) ?_)
   .rintro i c st' hi1 hi2 ⟨lk,na,nb,out,mg,rfl,ha1,ha2,hb1,hb2,hi,lo⟩;have hK':kindOf st'=κ:=lk.kind.trans hK;refine wpS_bind (wpS_mono (wpS_forRange (I:=λj c st2=>st2=st'/\∃ja jb out p q,c=(none,ja,jb,out,p,q)/\1<=ja/\ja<=a.size/\2<=jb/\jb<=b.size/\ja+jb<=na+nb/\Hi blt (a.toList++b.toList) out.reverse.toList (a.toList.take ja) (b.toList.take jb))
     (Q:=λc st2=>st2=st'/\((∃res,c.1=some res/\Q res st')\/∃ja jb out p q,c=(none,ja,jb,out,p,q)/\1<=ja/\ja<=a.size/\2<=jb/\jb<=b.size/\ja+jb<=na+nb/\Hi blt (a.toList++b.toList) out.reverse.toList (a.toList.take ja) (b.toList.take jb))) ?_ ?_
     ⟨rfl,na,nb,out,0,0,rfl,ha1,ha2,hb1,hb2,Q4 _,lo⟩) ?_)
    .rintro j c st2 hj1 hj2 ⟨rfl,ja,jb,out,p,q,rfl,hja,hja2,hjb,hjb2,hij,lo⟩;dsimp only;refine wpS_bind (bK (by lia) (wpS_bind (bK (by lia) (wpS_bind (L _ _ _ _ (mb (jb-1) (by lia)) (ma (ja-1) (by lia)) hK' ?_)))));dsimp only;cases e:blt (g b (jb-1)) (g a (ja-1))with
     |true=>
      rw[if_pos rfl];have lo':=stepA out ja jb (by lia) hja2 (by lia) hjb2 lo e;refine wpS_bind (bK (by lia) ?_);by_cases z:ja-1=0
      .rw[if_pos (beq_iff_eq.mpr z)];exact wpS_pure ⟨rfl,.inl ⟨_,rfl,endA _ (ja-1) jb _ lk z hjb2 lo'⟩⟩
      .rw[if_neg (by simpa using z)];by_cases y:p+1>=mg
       .rw[if_pos y];exact wpS_pure ⟨rfl,.inr ⟨_,_,_,_,_,rfl,by lia,by lia,hjb,hjb2,by lia,lo'⟩⟩
       .rw[if_neg y];exact wpS_pure ⟨rfl,_,_,_,_,_,rfl,by lia,by lia,hjb,hjb2,by lia,lo'⟩
     |false=>
      rw[if_neg (by decide)];have lo':=stepB out ja jb (by lia) hja2 (by lia) hjb2 lo e;refine wpS_bind (bK (by lia) ?_);by_cases z:jb-1=1
      .rw[if_pos (beq_iff_eq.mpr z)];exact wpS_pure ⟨rfl,.inl ⟨_,rfl,endB _ ja (jb-1) _ lk z hja2 lo'⟩⟩
      .rw[if_neg (by simpa using z)];by_cases y:q+1>=mg
       .rw[if_pos y];exact wpS_pure ⟨rfl,.inr ⟨_,_,_,_,_,rfl,hja,hja2,by lia,by lia,by lia,lo'⟩⟩
       .rw[if_neg y];exact wpS_pure ⟨rfl,_,_,_,_,_,rfl,hja,hja2,by lia,by lia,by lia,lo'⟩
    .rintro c st2 ⟨rfl,ja,jb,out,p,q,rfl,hja,hja2,hjb,hjb2,hij,lo⟩;exact⟨rfl,.inr ⟨_,_,_,_,_,rfl,hja,hja2,hjb,hjb2,hij,lo⟩⟩
    .rintro ⟨r,c⟩ st2 ⟨rfl,⟨res,e,q⟩|⟨ja,jb,out,p,q,e,hja,hja2,hjb,hjb2,hij,lo⟩⟩
     .dsimp only at e;subst e;exact wpS_pure ⟨res,rfl,q⟩
     .obtain⟨rfl,rfl⟩:=Prod.mk.inj e;dsimp only;refine wpS_bind (wpS_lift (wpAny_rule ⟨rfl,?_⟩));refine wpS_bind (wpS_mono (wpS_forRange (I:=λj c st3=>Like st st3/\∃ka kb out m' p q,c=(none,ka,kb,out,m',p,q)/\1<=ka/\ka<=a.size/\2<=kb/\kb<=b.size/\ka+kb+j<=na+nb/\Hi blt (a.toList++b.toList) out.reverse.toList (a.toList.take ka) (b.toList.take kb))
       (Q:=λc st3=>Like st st3/\((∃res,c.1=some res/\Q res st3)\/∃ka kb out m' p q,c=(none,ka,kb,out,m',p,q)/\1<=ka/\ka<=a.size/\2<=kb/\kb<=b.size/\ka+kb+1<=na+nb/\Hi blt (a.toList++b.toList) out.reverse.toList (a.toList.take ka) (b.toList.take kb))) ?_ ?_
       ⟨lk,ja,jb,out,_,_,_,rfl,hja,hja2,hjb,hjb2,by lia,lo⟩) ?_)
      .rintro j c st3 hj1 hj2 ⟨lk3',ka,kb,out,m',p,q,rfl,hka,hka2,hkb,hkb2,hij,lo⟩;dsimp only;by_cases m1:m'>1
       case' pos=>rw[if_pos m1]
       case' neg=>rw[if_neg m1]
       all_goals
        refine wpS_bind (D7 λst4 lk3=>?_);have lk4:Like st st4:=⟨lk3.kind.trans lk3'.kind,lk3.arr.trans lk3'.arr,lk3.pend.trans lk3'.pend,lk3.fail.trans lk3'.fail⟩;have hK4:kindOf st4=κ:=lk4.kind.trans hK;refine wpS_bind (bK (by lia) ?_);refine wpS_bind (gM L hK4 (mb (kb-1) (by lia)) (λi hi=>⟨by lia,ma _ (by lia)⟩) (by lia) (λi=>!blt (g b (kb-1)) (g a (0+i))) (λi hi=>rfl) (λi j h1 h2 h3=>monoA 0 _ i j h1 (by lia) h3) λk hk1 hk2 hk3=>?_);dsimp only;have hk2':∀i,i<k->blt (g b (kb-1)) (g a i)=false:=λi hi=>by have f:=hk2 i hi;rw[XE]at f;simpa using f
        have hk3':∀i,k<=i->i<ka->blt (g b (kb-1)) (g a i)=true:=λi hi hj=>by have f:=hk3 i hi hj;rw[XE]at f;simpa using f
        have lo1:=lo;by_cases k0:ka-k>0
        case' pos=>
         rw[if_pos k0];replace lo1:=chunkA out ka kb k (by lia) (by lia) (by lia) (by lia) lo hk3';by_cases z:k=0
         case pos=>
          rw[if_pos (beq_iff_eq.mpr z)];exact wpS_pure ⟨lk4,.inl ⟨_,rfl,endA _ k kb _ lk4 z (by lia) lo1⟩⟩
         rw[if_neg (by simpa using z)]
        case' neg=>
         rw[if_neg k0];have e0:k=ka:=by lia
         subst e0
        all_goals
         refine wpS_bind (bK (by lia) ?_);have lo2:=stepB _ k kb (by lia) (by lia) (by lia) (by lia) lo1 (hk2' (k-1) (by lia));by_cases z2:kb-1=1
         case pos=>
          rw[if_pos (beq_iff_eq.mpr z2)];exact wpS_pure ⟨lk4,.inl ⟨_,rfl,endB _ k (kb-1) _ lk4 z2 (by lia) lo2⟩⟩
         rw[if_neg (by simpa using z2)];refine wpS_bind (bK (by lia) ?_);refine wpS_bind (gM L hK4 (ma _ (by lia)) (λi hi=>⟨by lia,mb _ (by lia)⟩) (by lia) (λi=>blt (g b (0+i)) (g a (k-1))) (λi hi=>rfl) (λi j h1 h2 h3=>monoB 0 _ i j h1 (by lia) h3) λk2 h1 h2 h3=>?_);dsimp only;have k2p:0<k2:=by
          rcases Zz k2 with z|z
          .have f:blt (g b (0+0)) (g a (k-1))=false:=h3 0 (by lia) (by lia);rw[ZQ,bfirst (k-1) (by lia)]at f;cases f
          .exact z
         have h2':∀i,i<k2->blt (g b i) (g a (k-1))=true:=λi hi=>by have f:=h2 i hi;rwa [XE]at f
         have h3':∀i,k2<=i->i<kb-1->blt (g b i) (g a (k-1))=false:=λi hi hj=>by have f:=h3 i hi hj;rwa [XE]at f
         have lo3:=lo2;by_cases q0:kb-1-k2>0
         case' pos=>
          rw[if_pos q0];replace lo3:=chunkB _ k (kb-1) k2 (by lia) (by lia) (by lia) (by lia) lo2 h3';by_cases z3:k2=1
          case pos=>
           rw[if_pos (beq_iff_eq.mpr z3)];exact wpS_pure ⟨lk4,.inl ⟨_,rfl,endB _ k k2 _ lk4 z3 (by lia) lo3⟩⟩
          have zz:¬k2=0:=by lia
          rw[if_neg (by simpa using z3),if_neg (by simpa using zz)]
         case' neg=>
          rw[if_neg q0];have e2:kb-1=k2:=by lia
          rw[e2]at lo3⊢
         all_goals
          refine wpS_bind (bK (by lia) ?_);have lo4:=stepA _ k k2 (by lia) (by lia) (by lia) (by lia) lo3 (h2' (k2-1) (by lia));by_cases z4:k-1=0
          case pos=>
           rw[if_pos (beq_iff_eq.mpr z4)];exact wpS_pure ⟨lk4,.inl ⟨_,rfl,endA _ (k-1) k2 _ lk4 z4 (by lia) lo4⟩⟩
          rw[if_neg (by simpa using z4)];split
          .exact wpS_pure ⟨lk4,.inr ⟨_,_,_,_,_,_,rfl,by lia,by lia,by lia,by lia,by lia,lo4⟩⟩
          .exact wpS_pure ⟨lk4,_,_,_,_,_,_,rfl,by lia,by lia,by lia,by lia,by lia,lo4⟩
      .rintro c st3 ⟨lk3,ka,kb,out,m',p,q,rfl,hka,hka2,hkb,hkb2,hij,lo⟩;have em:max 0 (a.size+b.size)=a.size+b.size:=QL (Qj _);rw[em]at hij;lia
      .rintro ⟨r,c⟩ st3 ⟨lk3,⟨res,e,q⟩|⟨ka,kb,out,m',p,q,e,hka,hka2,hkb,hkb2,hij,lo⟩⟩
       .dsimp only at e;subst e;exact wpS_pure ⟨res,rfl,q⟩
       .obtain⟨rfl,rfl⟩:=Prod.mk.inj e;dsimp only;refine wpS_bind (wpS_modify (wpS_pure ⟨⟨lk3.kind,lk3.arr,lk3.pend,lk3.fail⟩,_,_,_,_,rfl,hka,hka2,hkb,hkb2,by lia,lo⟩))
   .rintro c st' ⟨lk,na,nb,out,mg,rfl,ha1,ha2,hb1,hb2,hi,lo⟩;have em:max 0 (a.size+b.size)=a.size+b.size:=QL (Qj _);rw[em]at hi;lia
   .rintro ⟨r,c⟩ st' ⟨res,e,q⟩;dsimp only at e;subst e;exact wpS_pure q
end
end Srt
namespace Srt
open PySem PyProof.Rows
variable {A:Around} {p:Array (Nat×Nat×Nat)} {arr a₀ m xs:Array Keyed} {Q:Bool->SortSt->Prop} {blt:Keyed->Keyed->Bool} {l:List (Nat×Nat×Nat)} {at_ i lo n:Nat} {prog:Program} {s:Shared} {κ:SortKind} {st:SortSt} {α:Type} {E:Value->Shared->Prop} {w:World}
section
def lay (arr:Array Keyed) (at_:Nat) (m:Array Keyed):Array Keyed:=m.toList.zipIdx.foldl (λa p=>a.setIfInBounds (at_+p.2) p.1) arr
theorem E8:∀(l:List Keyed) (j:Nat) (arr:Array Keyed) (at_:Nat),at_+j+l.length<=arr.size->
  ((l.zipIdx j).foldl (λa p=>a.setIfInBounds (at_+p.2) p.1) arr).toList=arr.toList.take (at_+j)++l++arr.toList.drop (at_+j+l.length)
 | [],j,arr,at_,h=>by simp
 |x::l,j,arr,at_,h=>by
  rw[List.zipIdx_cons,List.foldl_cons];have hl:at_+j<arr.size:=by simp at h;lia
  have ih:=E8 l (j+1) (arr.setIfInBounds (at_+j) x) at_ (by simp at h⊢;lia)
  rw[ih,V1];have e1:(arr.toList.set (at_+j) x).take (at_+(j+1))=arr.toList.take (at_+j)++ [x]:=by
   rw[show at_+(j+1)=at_+j+1 by lia,Qr,List.take_set_of_le (Q4 _),Xf (by rw[Q6];exact hl)];rfl
  have e2:(arr.toList.set (at_+j) x).drop (at_+(j+1)+l.length)=arr.toList.drop (at_+j+(x::l).length):=by
   rw[List.drop_set_of_lt (by lia)];congr 1;simp;lia
  rw[e1,e2,Ql,Ql,Ql];rfl
theorem zQ (h:at_+m.size<=arr.size):(lay arr at_ m).toList=arr.toList.take at_++m.toList++arr.toList.drop (at_+m.size):=by
 have:=E8 m.toList 0 arr at_ (by simpa using h)
 simpa[lay]using this
theorem yE (xs:Array Keyed) (k:Nat):g xs k=(xs.toList[k]?).getD dk:=by unfold g;rw[Qw]
theorem KG (h:at_+m.size<=arr.size) (k:Nat):g (lay arr at_ m) k=if at_<=k/\k<at_+m.size then g m (k-at_)else g arr k:=by
 rw[yE,zQ h];have l1:(arr.toList.take at_).length=at_:=by rw[Q8,Q6];lia
 by_cases a:k<at_
 .rw[if_neg (by lia),Ql,Zn (by lia),X9 a,<-yE]
 .by_cases b:k<at_+m.size
  .rw[if_pos ⟨by lia,b⟩,Ql,Zi (by lia),l1,Zn (by rw[Q6];lia),<-yE]
  .rw[if_neg (by lia),Zi (by rw[Qa,l1,Q6];lia),Qa,l1,Q6,X4,show at_+m.size+(k-(at_+m.size))=k by lia,<-yE]
theorem E7 (h:at_+m.size<=arr.size) (p:m.toList.Perm ((arr.toList.drop at_).take m.size)):(lay arr at_ m).Perm arr:=by
 rw[X5,zQ h];have e:arr.toList=arr.toList.take at_++((arr.toList.drop at_).take m.size++arr.toList.drop (at_+m.size)):=by
  rw[<-Xo,QJ,QJ]
 refine List.Perm.trans ?_ (List.Perm.of_eq e.symm);rw[Ql];exact List.Perm.append_left _ (List.Perm.append_right _ p)
theorem oi (h:n<=arr.size) {k:Nat} (hk:k<n-i):g (arr.extract i n) k=g arr (i+k):=by
 unfold g;rw[Array.getElem?_extract,if_pos (by lia)]
theorem uh (h:n<=arr.size):(arr.extract i n).size=n-i:=by rw[Array.size_extract];lia
theorem yo (h:n<=arr.size) (o:On blt arr i n):On blt (arr.extract i n) 0 (arr.extract i n).size:=λa b _ hab hb=>by
 rw[uh h]at hb;rw[oi h (by lia),oi h hb];exact o _ _ (by lia) (by lia) (by lia)
end
section
theorem GH {x:SortSt} {Q:PUnit->SortSt->Prop} (h:Q ⟨⟩ x):wpS (model prog w) A E s (set x:StateT SortSt Sem PUnit) Q st:=by
 unfold wpS;rw[StateT.run_set];exact wpAny_pure ⟨rfl,h⟩
variable (L:yU prog w A E s a₀ κ blt)
include L
theorem AF {sa na pa sb nb pb:Nat} (C:Cmp blt) (B:Base a₀ κ st) (hi:(pendingOf st)[i]?=some (sa,na,pa)) (hj:(pendingOf st)[i+1]?=some (sb,nb,pb)) (hb:sb=sa+na) (h1:1<=na) (h2:1<=nb) (hz:sb+nb<=a₀.size)
  (oa:On blt (arrOf st) sa (sa+na)) (ob:On blt (arrOf st) sb (sb+nb))
  (h:∀st',Base a₀ κ st'->pendingOf st'=((pendingOf st).setIfInBounds i (sa,na+nb,pa)).eraseIdxIfInBounds (i+1)->On blt (arrOf st') sa (sa+(na+nb))->(∀k,k<sa\/sa+(na+nb)<=k->g (arrOf st') k=g (arrOf st) k)->Q true st'):
  wpS (model prog w) A E s (mergeAt' i) Q st:=by
 subst hb;have hsz:=B.size;have hsz':((sortPriv%PySem.Builtin.SortState.a) st).size=a₀.size:=B.size;refine wpS_bind (wpS_get ?_);dsimp only;rw[hi,hj];dsimp only;refine wpS_bind (GH ?_);have B1:Base a₀ κ (SortSt.mk' (kindOf st) (arrOf st) (((pendingOf st).setIfInBounds i (sa,na+nb,pa)).eraseIdxIfInBounds (i+1)) (gallopOf st) (failedOf st)):=⟨B.kind,B.fine,B.perm⟩;refine wpS_bind (bK (by lia) ?_);refine wpS_bind (gM L B1.kind (B.mem (by lia)) (λj hj=>⟨by lia,B.mem (by lia)⟩) (by lia) (λj=>!blt (g (arrOf st) (sa+na)) (g (arrOf st) (sa+j))) (λj hj=>rfl) (λx y h3 h4 h5=>?_) λk hk1 hk2 hk3=>?_)
 .have h5:blt (g (arrOf st) (sa+na)) (g (arrOf st) (sa+y))=false:=by simpa using h5
  by_cases e:x=y
  .subst e;simpa using h5
  .have:=C.trans (oa (sa+x) (sa+y) (by lia) (by lia) (by lia)) h5;simpa using this
 .dsimp only;have low:∀j,j<k->le blt (g (arrOf st) (sa+j)) (g (arrOf st) (sa+na)):=λj hj=>by have:=hk2 j hj;simpa using this
  have up:∀j,k<=j->j<na->blt (g (arrOf st) (sa+na)) (g (arrOf st) (sa+j))=true:=λj hj hj2=>by have:=hk3 j hj hj2;simpa using this
  have lowB:∀j x,j<k->sa+na<=x->x<sa+na+nb->le blt (g (arrOf st) (sa+j)) (g (arrOf st) x):=λj x hj hx hx2=>by
   by_cases e:x=sa+na
   .rw[e];exact low j hj
   .exact C.trans (low j hj) (ob (sa+na) x (Q4 _) (by lia) hx2)
  by_cases n0:na-k=0
  .rw[if_pos (beq_iff_eq.mpr n0)];refine wpS_pure (h _ B1 rfl (λx y hx hxy hy=>?_) λ_ _=>rfl);by_cases c:y<sa+na
   .exact oa x y hx hxy c
   .by_cases d:x<sa+na
    .have:=lowB (x-sa) y (by lia) (by lia) (by lia);rwa [show sa+(x-sa)=x by lia]at this
    .exact ob x y (by lia) hxy (by lia)
  .rw[if_neg (by simpa using n0)];refine wpS_bind (bK (by lia) ?_);rw[show sa+k+(na-k)-1=sa+na-1 by lia];refine wpS_bind (gM L B1.kind (B.mem (by lia)) (λj hj=>⟨by lia,B.mem (by lia)⟩) (by lia) (λj=>blt (g (arrOf st) (sa+na+j)) (g (arrOf st) (sa+na-1))) (λj hj=>rfl) (λx y h3 h4 h5=>?_) λm hm1 hm2 hm3=>?_)
   .by_cases e:x=y
    .subst e;exact h5
    .cases z:blt (g (arrOf st) (sa+na+x)) (g (arrOf st) (sa+na-1))with
     |true=>rfl
     |false=>
      have f:blt (g (arrOf st) (sa+na+y)) (g (arrOf st) (sa+na-1))=false:=C.trans z (ob (sa+na+x) (sa+na+y) (by lia) (by lia) (by lia));rw[h5]at f;cases f
   .dsimp only;have hk2':∀j,j<m->blt (g (arrOf st) (sa+na+j)) (g (arrOf st) (sa+na-1))=true:=hm2;have first:blt (g (arrOf st) (sa+na+0)) (g (arrOf st) (sa+k+0))=true:=by
     rw[ZQ,ZQ];exact up k (Q4 _) (by lia)
    have mp:0<m:=by
     rcases Zz m with z|z
     .have f:blt (g (arrOf st) (sa+na+0)) (g (arrOf st) (sa+na-1))=false:=hm3 0 (by lia) (by lia);have q:=up (na-1) (by lia) (by lia);rw[show sa+(na-1)=sa+na-1 by lia]at q;rw[ZQ,q]at f;cases f
     .exact z
    have high:∀x,sa+na+m<=x->x<sa+na+nb->le blt (g (arrOf st) (sa+na-1)) (g (arrOf st) x):=λx hx hx2=>by
     have f:blt (g (arrOf st) (sa+na+(x-(sa+na)))) (g (arrOf st) (sa+na-1))=false:=hm3 (x-(sa+na)) (by lia) (by lia);rwa [show sa+na+(x-(sa+na))=x by lia]at f
    have highA:∀y x,sa<=y->y<sa+na->sa+na+m<=x->x<sa+na+nb->le blt (g (arrOf st) y) (g (arrOf st) x):=λy x hy hy2 hx hx2=>by
     by_cases e:y=sa+na-1
     .rw[e];exact high x hx hx2
     .exact C.trans (oa y (sa+na-1) hy (by lia) (by lia)) (high x hx hx2)
    rw[if_neg (by have:¬m=0:=by lia
                  simpa using this)]
    have sx:((arrOf st).extract (sa+k) (sa+na)).size=sa+na-(sa+k):=uh (by lia);have sy:((arrOf st).extract (sa+na) (sa+na+m)).size=sa+na+m-(sa+na):=uh (by lia);have oa':On blt (arrOf st) (sa+k) (sa+na):=oa.sub (by lia) (by lia);have ob':On blt (arrOf st) (sa+na) (sa+na+m):=ob.sub (by lia) (by lia);have tail:∀(res:Array Keyed) (st2:SortSt),Like (SortSt.mk' (kindOf st) (arrOf st) (((pendingOf st).setIfInBounds i (sa,na+nb,pa)).eraseIdxIfInBounds (i+1)) (gallopOf st) (failedOf st)) st2->res.toList.Perm (((arrOf st).extract (sa+k) (sa+na)).toList++((arrOf st).extract (sa+na) (sa+na+m)).toList)->PW blt res.toList->
      wpS (model prog w) A E s (modify (λs=>SortSt.mk' (kindOf s) (lay (arrOf s) (sa+k) res) (pendingOf s) (gallopOf s) (failedOf s))>>=λ_=>get>>=λx=>pure (failedOf x).isNone) Q st2:=λres st2 lk pm pw=>by
     have rs:res.size=na-k+m:=by
      have:=pm.length_eq;rw[Qa,Q6,Q6,Q6,sx,sy]at this;lia
     have rm:∀j,j<res.size->∃x,sa+k<=x/\x<sa+na+m/\g res j=g (arrOf st) x:=λj hj=>by
      have mem:g res j∈res.toList:=by have:=xq hj;simpa using this
      rcases Q5.mp (pm.mem_iff.mp mem)with q|q
      .obtain⟨x,x1,x2,_,x4⟩:=dY q;exact⟨x,by lia,by lia,x4⟩
      .obtain⟨x,x1,x2,_,x4⟩:=dY q;exact⟨x,by lia,by lia,x4⟩
     have fit:sa+k+res.size<=(arrOf st2).size:=by rw[lk.arr];show sa+k+res.size<=(arrOf st).size;lia
     refine wpS_bind (wpS_modify ?_);refine wpS_bind (wpS_get (wpS_pure ?_));have hg:∀x,g (lay (arrOf st2) (sa+k) res) x=if sa+k<=x/\x<sa+k+res.size then g res (x-(sa+k))else g (arrOf st) x:=λx=>by
      rw[KG fit,lk.arr]
     have ef:(failedOf st2).isNone=true:=by
      rw[lk.fail];show(failedOf st).isNone=true;rw[B.fine];rfl
     show Q (failedOf st2).isNone _;rw[ef];have on:=EK pw;refine h _ ⟨lk.kind.trans B.kind,lk.fail.trans B.fine,?_⟩ lk.pend ?_ ?_
     .refine(E7 fit ?_).trans (by rw[lk.arr];exact B.perm);rw[lk.arr];show res.toList.Perm (((arrOf st).toList.drop (sa+k)).take res.size);refine pm.trans (List.Perm.of_eq ?_);rw[Z8,Z8,QU,QU,rs,show sa+na-(sa+k)=na-k by lia,show sa+na+m-(sa+na)=m by lia,List.take_add,Xo,show sa+k+(na-k)=sa+na by lia]
     .intro x y hx hxy hy;show le blt (g (lay (arrOf st2) (sa+k) res) x) (g (lay (arrOf st2) (sa+k) res) y);rw[hg x,hg y];by_cases y1:sa+k<=y/\y<sa+k+res.size
      .rw[if_pos y1];by_cases x1:sa+k<=x/\x<sa+k+res.size
       .rw[if_pos x1];exact on _ _ (Qj _) (by lia) (by lia)
       .rw[if_neg x1];obtain⟨z,z1,z2,z3⟩:=rm (y-(sa+k)) (by lia);rw[z3];by_cases zz:z<sa+na
        .exact oa x z hx (by lia) zz
        .have:=lowB (x-sa) z (by lia) (by lia) (by lia);rwa [show sa+(x-sa)=x by lia]at this
      .rw[if_neg y1];by_cases x1:sa+k<=x/\x<sa+k+res.size
       .rw[if_pos x1];obtain⟨z,z1,z2,z3⟩:=rm (x-(sa+k)) (by lia);rw[z3];by_cases zz:z<sa+na
        .exact highA z y (by lia) zz (by lia) (by lia)
        .exact ob z y (by lia) (by lia) (by lia)
       .rw[if_neg x1];by_cases yy:y<sa+na
        .exact oa x y hx hxy yy
        .by_cases xx:x<sa+na
         .exact highA x y hx xx (by lia) (by lia)
         .exact ob x y (by lia) hxy (by lia)
     .intro x hx;show g (lay (arrOf st2) (sa+k) res) x=g (arrOf st) x;rw[hg x,if_neg (by lia)]
    by_cases c:na-k<=m
    .rw[if_pos c];refine wpS_bind (AD L C B1.kind (λx hx=>?_) (yo (by lia) oa') (yo (by lia) ob') (by rw[sx];lia) (by rw[sy];lia) ?_ ?_ λres st2 lk pm pw=>?_)
     .rcases Q5.mp hx with q|q
      .obtain⟨j,_,_,hj3,rfl⟩:=dY q;exact B.mem (by lia)
      .obtain⟨j,_,_,hj3,rfl⟩:=dY q;exact B.mem (by lia)
     .rw[oi (by lia) (by lia),oi (by lia) (by lia)];exact first
     .intro j hj;rw[sy]at hj;rw[sx,oi (by lia) (by lia),oi (by lia) (by lia),show sa+k+(sa+na-(sa+k)-1)=sa+na-1 by lia];exact hk2' j (by lia)
     .exact tail res st2 lk pm pw
    .rw[if_neg c];refine wpS_bind (AE L C B1.kind (λx hx=>?_) (yo (by lia) oa') (yo (by lia) ob') (by rw[sx];lia) (by rw[sy];lia) ?_ ?_ λres st2 lk pm pw=>?_)
     .rcases Q5.mp hx with q|q
      .obtain⟨j,_,_,hj3,rfl⟩:=dY q;exact B.mem (by lia)
      .obtain⟨j,_,_,hj3,rfl⟩:=dY q;exact B.mem (by lia)
     .rw[oi (by lia) (by lia),oi (by lia) (by lia)];exact first
     .intro j hj;rw[sy]at hj;rw[sx,oi (by lia) (by lia),oi (by lia) (by lia),show sa+k+(sa+na-(sa+k)-1)=sa+na-1 by lia];exact hk2' j (by lia)
     .exact tail res st2 lk pm pw
end
section
def Stack (blt:Keyed->Keyed->Bool) (xs:Array Keyed):List (Nat×Nat×Nat)->Nat->Nat->Prop
 | [],f,t=>f=t
 |(st,len,_)::r,f,t=>st=f/\1<=len/\On blt xs st (st+len)/\Stack blt xs r (st+len) t
theorem Stack.le {xs:Array Keyed}:∀{l:List (Nat×Nat×Nat)} {f t:Nat},Stack blt xs l f t->f+l.length<=t
 | [],f,t,h=>by cases h;simp
 |(st,len,p)::r,f,t,h=>by
  obtain⟨rfl,h1,_,h3⟩:=h;have:=Stack.le h3;simp;lia
theorem Stack.app {xs:Array Keyed}:∀{l r:List (Nat×Nat×Nat)} {f t:Nat},Stack blt xs (l++r) f t↔∃m,Stack blt xs l f m/\Stack blt xs r m t
 | [],r,f,t=>⟨λh=>⟨f,rfl,h⟩,λ⟨m,e,h⟩=>by cases e;exact h⟩
 |(st,len,p)::l,r,f,t=>by
  constructor
  .rintro ⟨h1,h2,h3,h4⟩;obtain⟨m,a,b⟩:=Stack.app.mp h4;exact⟨m,⟨h1,h2,h3,a⟩,b⟩
  .rintro ⟨m,⟨h1,h2,h3,a⟩,b⟩;exact⟨h1,h2,h3,Stack.app.mpr ⟨m,a,b⟩⟩
theorem Stack.congr {ys:Array Keyed}:∀{l:List (Nat×Nat×Nat)} {f t:Nat},Stack blt xs l f t->(∀k,f<=k->k<t->g ys k=g xs k)->Stack blt ys l f t
 | [],f,t,h,_=>h
 |(st,len,p)::r,f,t,h,e=>by
  obtain⟨rfl,h1,h2,h3⟩:=h;have:=h3.le;exact⟨rfl,h1,h2.congr λk a b=>e k a (by lia),h3.congr λk a b=>e k (by lia) b⟩
theorem Stack.pw {a b p q:Nat} {f t:Nat} (h:Stack blt xs (l++ [(a,b,p)]) f t):Stack blt xs (l++ [(a,b,q)]) f t:=by
 obtain⟨m,h1,h2⟩:=Stack.app.mp h;exact Stack.app.mpr ⟨m,h1,h2⟩
theorem kq {q:Nat} (S:Stack blt xs p.toList 0 lo) (h:1<=n) (o:On blt xs lo (lo+n)):Stack blt xs (p.push (lo,n,q)).toList 0 (lo+n):=by
 rw[XF];exact Stack.app.mpr ⟨lo,S,rfl,h,o,rfl⟩
theorem zJ (q:Array α) (x:α) (f:α->α):(q.push x).modify ((q.push x).size-1) f=q.push (f x):=by
 have e:(q.push x).size-1=q.size:=by simp
 rw[e];apply Array.ext
 .simp
 .intro i h1 h2;rw[Array.getElem_modify];by_cases hi:q.size=i
  .subst hi;simp
  .rw[if_neg hi];have:i<q.size:=by simp at h2;lia
   rw[Xm this,Xm this]
theorem p7 {pw:Nat} (z:1<=p.size) (S:Stack blt xs p.toList 0 lo):Stack blt xs (p.modify (p.size-1) λx=>(x.1,x.2.1,pw)).toList 0 lo:=by
 obtain⟨q,x,rfl⟩:∃q x,p=q.push x:=⟨p.pop,p[p.size-1],by
  apply Array.ext
  .simp;lia
  .intro i h1 h2;by_cases hi:i<p.pop.size
   .rw[Xm hi];simp
   .have:i=p.size-1:=by simp at h2 hi;lia
    subst this;rw[Array.getElem_push];rw[dif_neg (by simp)]⟩
 rw[zJ,XF];rw[XF]at S;obtain⟨a,b,c⟩:=x;exact S.pw
theorem Ep {l:List α} {x y:α} (h1:l[i]?=some x) (h2:l[i+1]?=some y):∃p r,l=p++x::y::r/\p.length=i:=by
 obtain⟨a1,e1⟩:=Q2.mp h1;obtain⟨a2,e2⟩:=Q2.mp h2;refine⟨l.take i,l.drop (i+2),?_,by rw[Q8];lia⟩;have d1:=Z2 a1;have d2:=Z2 a2;rw[e1]at d1;rw[e2]at d2
 calc l=l.take i++l.drop i:=(QJ _ _).symm
  _=_:=by rw[d1,d2]
theorem Fx {p r:List α} {x y v:α}:((p++x::y::r).set p.length v).eraseIdx (p.length+1)=p++v::r:=by
 rw[List.set_append_right _ _ (Q4 _),Nat.sub_self];rw[Xz (by lia),show p.length+1-p.length=1 by lia];rfl
end
section
variable (L:yU prog w A E s a₀ κ blt)
include L
theorem qI (C:Cmp blt) (B:Base a₀ κ st) (S:Stack blt (arrOf st) (pendingOf st).toList 0 lo) (hlo:lo<=a₀.size) (hi:i+1<(pendingOf st).size)
  (h:∀st',Base a₀ κ st'->Stack blt (arrOf st') (pendingOf st').toList 0 lo->(pendingOf st').size+1=(pendingOf st).size->(∀k,lo<=k->g (arrOf st') k=g (arrOf st) k)->Q true st'):
  wpS (model prog w) A E s (mergeAt' i) Q st:=by
 have q1:(pendingOf st)[i]?=some ((pendingOf st)[i]'(by lia)):=getElem?_pos _ _ _;have q2:(pendingOf st)[i+1]?=some ((pendingOf st)[i+1]'hi):=getElem?_pos _ _ _;obtain⟨⟨sa,na,pa⟩,e1⟩:∃x,x=(pendingOf st)[i]'(by lia):=⟨_,rfl⟩;obtain⟨⟨sb,nb,pb⟩,e2⟩:∃x,x=(pendingOf st)[i+1]'hi:=⟨_,rfl⟩;rw[<-e1]at q1;rw[<-e2]at q2;have t1:=q1;have t2:=q2;rw[<-Qw]at t1 t2;obtain⟨p,r,el,pl⟩:=Ep t1 t2;rw[el]at S;obtain⟨m,S1,S2⟩:=Stack.app.mp S;obtain⟨rfl,n1,o1,rfl,n2,o2,S3⟩:=S2;have l3:=S3.le;have l1:=S1.le;refine AF L C B q1 q2 rfl n1 n2 (by lia) o1 o2 λst' B' hp on keep=>?_;have ep:(pendingOf st').toList=p++(sa,na+nb,pa)::r:=by
  rw[hp,Array.toList_eraseIdxIfInBounds,V1,el,<-pl,Fx]
 have kz:∀k,k<sa\/sa+na+nb<=k->g (arrOf st') k=g (arrOf st) k:=λk hk=>keep k (by lia);refine h st' B' ?_ ?_ λk hk=>kz k (by lia)
 .rw[ep];refine Stack.app.mpr ⟨sa,S1.congr λk a b=>kz k (.inl b),rfl,by lia,on,?_⟩;rw[show sa+(na+nb)=sa+na+nb by lia];exact S3.congr λk a b=>kz k (.inr a)
 .have a:=congrArg List.length ep;have b:=congrArg List.length el;simp at a b;lia
theorem y9 {Q:Unit->SortSt->Prop} (C:Cmp blt) (B:Base a₀ κ st) (hp:pendingOf st= #[]) (h2:1<=a₀.size)
  (h:∀st',Base a₀ κ st'->On blt (arrOf st') 0 a₀.size->Q () st'):wpS (model prog w) A E s sortRuns' Q st:=by
 rw[sortRuns'_eq];refine wpS_bind (wpS_get ?_);dsimp only;have hsz:=B.size;rw[hsz];refine wpS_bind (wpS_mono (wpS_forRange
  (I:=λi c st'=>∃lo,c=(none,lo)/\i<=lo/\lo<=a₀.size/\Base a₀ κ st'/\Stack blt (arrOf st') (pendingOf st').toList 0 lo)
  (Q:=λc st'=>c=(none,a₀.size)/\Base a₀ κ st'/\Stack blt (arrOf st') (pendingOf st').toList 0 a₀.size) ?step ?fin ⟨0,rfl,Q4 _,Qj _,B,by rw[hp];exact rfl⟩) ?post)
 case fin=>
  rintro c st' ⟨lo,rfl,h1,h3,B',S⟩;have em:max 0 a₀.size=a₀.size:=QL (Qj _);rw[em]at h1;have e:lo=a₀.size:=by lia
  subst e;exact⟨rfl,B',S⟩
 case step=>
  rintro i c st' _ hi ⟨lo,rfl,h1,h3,B',S⟩;dsimp only;by_cases z:lo>=a₀.size
  .rw[if_pos z];have e:lo=a₀.size:=by lia
   subst e;exact wpS_pure ⟨rfl,B',S⟩
  .rw[if_neg z];refine wpS_bind (D8 L C B' (by lia) (by lia) λn st2 B2 p2 m1 m2 O2 k2=>?_);dsimp only;have S2:Stack blt (arrOf st2) (pendingOf st2).toList 0 lo:=by
    rw[p2];exact S.congr λk _ b=>k2 k b
   by_cases small:n<minRun' a₀.size a₀.size 0
   .rw[if_pos small];refine wpS_bind (wpS_lift (wpAny_rule ⟨rfl,?_⟩));refine wpS_bind (CB L C B2 m1 (by lia) (by lia) O2 λst3 B3 p3 O3 k3=>?_);rw[if_neg (by decide)];have S3:Stack blt (arrOf st3) (pendingOf st3).toList 0 lo:=by
     rw[p3];exact S2.congr λk _ b=>k3 k b
    generalize hn:min (a₀.size-lo) (minRun' a₀.size a₀.size 0)=n' at O3;have n1':1<=n':=by lia
    have n2':lo+n'<=a₀.size:=by lia
    refine wpS_bind (wpS_get ?_);cases eb:(pendingOf st3).back? with
    |none=>
     dsimp only;exact wpS_bind (wpS_modify (wpS_pure ⟨lo+n',rfl,by lia,by lia,⟨B3.kind,B3.fine,B3.perm⟩,kq S3 (by lia) O3⟩))
    |some tt=>
     obtain⟨s1,n1,p1⟩:=tt;dsimp only;have hsz3:1<=(pendingOf st3).size:=by
      rcases Zz (pendingOf st3).size with q|q
      .rw[Array.size_eq_zero_iff.mp q]at eb;cases eb
      .exact q
     refine wpS_bind (wpS_mono (wpS_forRange (I:=λ_ c st4=>c=(none,())/\Base a₀ κ st4/\Stack blt (arrOf st4) (pendingOf st4).toList 0 lo/\On blt (arrOf st4) lo (lo+n')/\1<=(pendingOf st4).size)
      (Q:=λc st4=>c=(none,())/\Base a₀ κ st4/\Stack blt (arrOf st4) (pendingOf st4).toList 0 lo/\On blt (arrOf st4) lo (lo+n')/\1<=(pendingOf st4).size) ?_ (λ_ _ q=>q) ⟨rfl,B3,S3,O3,hsz3⟩) ?_)
     .rintro j c st4 _ _ ⟨rfl,B4,S4,O4,z4⟩;refine wpS_bind (wpS_get ?_);by_cases big:(pendingOf st4).size>1
      .rw[if_pos big,getElem?_pos (pendingOf st4) ((pendingOf st4).size-2) (by lia)];obtain⟨⟨u1,u2,older⟩,eu⟩:∃x,x=(pendingOf st4)[(pendingOf st4).size-2]'(by(clear big hsz3 eb n2' n1' hn p3 small m2 m1 p2 z h3 h1 hi hsz h2 hp;omega (config:={}))):=⟨_,rfl⟩;rw[<-eu];dsimp only;split
       .exact wpS_pure ⟨rfl,B4,S4,O4,z4⟩
       .refine wpS_bind (qI L C B4 S4 (by lia) (by lia) λst5 B5 S5 z5 k5=>?_);rw[if_neg (by decide)];exact wpS_pure ⟨rfl,B5,S5,O4.congr λk a b=>k5 k a,by lia⟩
      .rw[if_neg big];exact wpS_pure ⟨rfl,B4,S4,O4,z4⟩
     .rintro c st4 ⟨rfl,B4,S4,O4,z4⟩;dsimp only;refine wpS_bind (wpS_modify (wpS_bind (wpS_modify (wpS_pure ⟨lo+n',rfl,by lia,by lia,⟨B4.kind,B4.fine,B4.perm⟩,?_⟩))));exact kq (p7 z4 S4) (by lia) O4
   .rw[if_neg small];have B3:=B2;have S3:=S2;have O3:=O2;obtain⟨st3,e3⟩:∃x,x=st2:=⟨_,rfl⟩;rw[<-e3]at B3 S3 O3⊢;refine wpS_bind (wpS_get ?_);cases eb:(pendingOf st3).back? with
    |none=>
     dsimp only;exact wpS_bind (wpS_modify (wpS_pure ⟨lo+n,rfl,by lia,by lia,⟨B3.kind,B3.fine,B3.perm⟩,kq S3 (by lia) O3⟩))
    |some tt=>
     obtain⟨s1,n1,p1⟩:=tt;dsimp only;have hsz3:1<=(pendingOf st3).size:=by
      rcases Zz (pendingOf st3).size with q|q
      .rw[Array.size_eq_zero_iff.mp q]at eb;cases eb
      .exact q
     refine wpS_bind (wpS_mono (wpS_forRange (I:=λ_ c st4=>c=(none,())/\Base a₀ κ st4/\Stack blt (arrOf st4) (pendingOf st4).toList 0 lo/\On blt (arrOf st4) lo (lo+n)/\1<=(pendingOf st4).size)
      (Q:=λc st4=>c=(none,())/\Base a₀ κ st4/\Stack blt (arrOf st4) (pendingOf st4).toList 0 lo/\On blt (arrOf st4) lo (lo+n)/\1<=(pendingOf st4).size) ?_ (λ_ _ q=>q) ⟨rfl,B3,S3,O3,hsz3⟩) ?_)
     .rintro j c st4 _ _ ⟨rfl,B4,S4,O4,z4⟩;refine wpS_bind (wpS_get ?_);by_cases big:(pendingOf st4).size>1
      .rw[if_pos big,getElem?_pos (pendingOf st4) ((pendingOf st4).size-2) (by lia)];obtain⟨⟨u1,u2,older⟩,eu⟩:∃x,x=(pendingOf st4)[(pendingOf st4).size-2]'(by omega (config:={})):=⟨_,rfl⟩;rw[<-eu];dsimp only;split
       .exact wpS_pure ⟨rfl,B4,S4,O4,z4⟩
       .refine wpS_bind (qI L C B4 S4 (by lia) (by lia) λst5 B5 S5 z5 k5=>?_);rw[if_neg (by decide)];exact wpS_pure ⟨rfl,B5,S5,O4.congr λk a b=>k5 k a,by lia⟩
      .rw[if_neg big];exact wpS_pure ⟨rfl,B4,S4,O4,z4⟩
     .rintro c st4 ⟨rfl,B4,S4,O4,z4⟩;dsimp only;refine wpS_bind (wpS_modify (wpS_bind (wpS_modify (wpS_pure ⟨lo+n,rfl,by lia,by lia,⟨B4.kind,B4.fine,B4.perm⟩,?_⟩))));exact kq (p7 z4 S4) (by lia) O4
 case post=>
  rintro c st' ⟨rfl,B',S⟩;dsimp only;have lenS:=S.le;refine wpS_bind (wpS_mono (wpS_forRange (I:=λi c st2=>c=(none,())/\Base a₀ κ st2/\Stack blt (arrOf st2) (pendingOf st2).toList 0 a₀.size/\(pendingOf st2).size+i<=a₀.size+1)
   (Q:=λc st2=>c=(none,())/\Base a₀ κ st2/\Stack blt (arrOf st2) (pendingOf st2).toList 0 a₀.size/\(pendingOf st2).size<=1) ?_ ?_ ⟨rfl,B',S,by rw[Q6]at lenS;lia⟩) ?_)
  .rintro i c st2 _ hi ⟨rfl,B2,S2,z2⟩;refine wpS_bind (wpS_get ?_);by_cases one:(pendingOf st2).size<=1
   .rw[if_pos one];exact wpS_pure ⟨rfl,B2,S2,one⟩
   .rw[if_neg one];generalize hix:(if Option.any _ _=true then(pendingOf st2).size-2-1 else(pendingOf st2).size-2)=ix;have gen:∀bb:Bool,(if bb=true then(pendingOf st2).size-2-1 else(pendingOf st2).size-2)+1<(pendingOf st2).size:=λbb=>by
     cases bb with
     |true=>rw[if_pos rfl];lia
     |false=>rw[if_neg (by decide)];lia
    have hx:ix+1<(pendingOf st2).size:=by
     rw[<-hix];exact gen _
    refine wpS_bind (qI L C B2 S2 (Q4 _) hx λst3 B3 S3 z3 k3=>?_);rw[if_neg (by decide)];exact wpS_pure ⟨rfl,B3,S3,by lia⟩
  .rintro c st2 ⟨rfl,B2,S2,z2⟩;have em:max 0 a₀.size=a₀.size:=QL (Qj _);rw[em]at z2;exact⟨rfl,B2,S2,by lia⟩
  .rintro c st2 ⟨rfl,B2,S2,z2⟩;dsimp only;refine wpS_pure (h st2 B2 ?_)
   match hl:(pendingOf st2).toList,S2 with
   | [],S2=>
    have e:0=a₀.size:=S2;lia
   | [(a,b,p)],S2=>
    obtain⟨rfl,_,o,e⟩:=S2;have e:0+b=a₀.size:=e;rw[e]at o;exact o
   |_::_::_,_=>
    have:=congrArg List.length hl;simp at this;lia
end
end Srt
namespace Srt
open PySem PyProof.Rows
variable {blt:Keyed->Keyed->Bool} {vs:List Value} {E Q:Value->Shared->Prop}
section
variable {prog:Program} {w:World} {A:Around} {s:Shared} {κ:SortKind}
abbrev But (a:Addr) (s s':Shared):Prop:=∀b o,b≠a->s.heap.get? b=some o->s'.heap.get? b=some o
theorem wX {a:Addr} {n:Nat} {P:PySem.Fin->Shared->Prop} (ho:s.heap.get? a=some (seqObj "list" vs.toArray n)) (hz:vs.length<=sizeLine) (C:Cmp blt)
  (hkk:∀h':Heap,But a s {s with heap:=h'}->2<=vs.length->∀Q':SortKind->Shared->Prop,Q' κ {s with heap:=h'}->wpAny (model prog w) A (keyKind' vs.toArray) Q' E {s with heap:=h'})
  (L:∀h':Heap,But a s {s with heap:=h'}->yU prog w A E {s with heap:=h'} (pairsOf vs) κ blt)
  (h:∀out:Array Keyed,out.Perm (pairsOf vs)->PW blt out.toList->P (.done (.ret .none)) {s with heap:=sortedHeap s.heap a vs (out.map (·.2))}):wpAny (model prog w) A (Builtin.«list.sort» ⟨[.ref a],[]⟩) P E s:=by
 have hv:vs.toArray.size=vs.length:=Qf;have ha:=Heap.lt_size ho;rw[list_sort_plain];refine wpAny_bind (listItems_at ho rfl (wpAny_bind (listUpdate_at ho rfl ?_ (hsz:=by rw[hv];exact hz))));obtain⟨e1,ho1⟩:∃k,(s.heap.update a (Obj.mapSeq λ_=> #[])).get? a=some (seqObj "list" #[] k):=⟨_,get?_update_seq ho (λ_=> #[])⟩;refine wpAny_bind (seqEpoch_at ho1 rfl (wpAny_bind (wpAny_newTuple ?_ (hsz:=hz))));refine wpAny_bind (wpAny_newList (wpAny_holding ?_));generalize hh:((s.heap.update a (Obj.mapSeq λ_=> #[])).push (seqObj "tuple" vs.toArray 0)).push (seqObj "list" #[] 0)=h6;have up:∀b o,(s.heap.update a (Obj.mapSeq λ_=> #[])).get? b=some o->h6.get? b=some o:=λb o e=>by
  rw[<-hh];exact Heap.get?_push_of_some _ (Heap.get?_push_of_some _ e)
 have ho6:=up a _ ho1;have but:But a s {s with heap:=h6}:=λb o hb e=>up b o (by exact(Heap.get?_update_other _ _ (Ne.symm hb)).trans e);have fin:∀out:Array Keyed,out.Perm (pairsOf vs)->PW blt out.toList->P (.done (.ret .none)) {s with heap:=h6.update a (Obj.mapSeq λ_=>out.map (·.2))}:=λout p q=>by
  have:=h out p q;unfold sortedHeap at this;rw[hh]at this;exact this
 have hsz2:∀out:Array Keyed,out.Perm (pairsOf vs)->(out.map (·.2)).size<=sizeLine+1:=λout p=>by
  have:=p.size_eq;rw[pairsOf_size]at this;rw[Array.size_map];lia
 dsimp only;by_cases h2:vs.toArray.size<2
 .rw[if_pos h2,if_pos h2];refine wpAny_bind (wpAny_pure ?_);rw[StateT.run_pure];refine wpAny_bind (wpAny_pure ?_);dsimp only;have pr:(SortSt.mk' general' (vs.toArray.zip vs.toArray) #[] 7 none|>arrOf).Perm (pairsOf vs):=Array.Perm.refl _;refine wpAny_bind (seqEpoch_at ho6 rfl (wpAny_bind (listUpdate_at ho6 rfl ?_ (hsz:=Qj _) (hsz2:=hsz2 _ pr))));simp only[bne_self_eq_false,Zk,if_false];refine wpAny_pure (fin _ pr ?_);have l1:(vs.toArray.zip vs.toArray).toList.length<=1:=by simp at h2⊢;lia
  show PW blt (vs.toArray.zip vs.toArray).toList;revert l1;generalize (vs.toArray.zip vs.toArray).toList=l;rcases l with _|⟨x,_|⟨y,t⟩⟩<;>intro l1<;>first|exact List.Pairwise.nil|exact Zb _ _|exact absurd l1 (Nat.not_le_of_lt (Nat.succ_lt_succ (Nat.succ_pos _)))
 .rw[if_neg h2,if_neg h2];refine wpAny_bind (hkk h6 but (by lia) _ ?_);refine wpAny_bind (wpAny_mono (y9 (L h6 but) (st:=SortSt.mk' κ (vs.toArray.zip vs.toArray) #[] 7 none) (Q:=λ_ st'=>Base (pairsOf vs) κ st'/\On blt (arrOf st') 0 (pairsOf vs).size) C
   ⟨rfl,rfl,Array.Perm.refl _⟩ rfl (by rw[pairsOf_size];lia) λst' B O=>⟨B,O⟩) ?_ λ_ _ e=>e)
  rintro ⟨⟨⟩,st'⟩ s' ⟨rfl,B,O⟩;dsimp only;refine wpAny_bind (seqEpoch_at ho6 rfl (wpAny_bind (listUpdate_at ho6 rfl ?_ (hsz:=Qj _) (hsz2:=hsz2 _ B.perm))));rw[B.fine];simp only[bne_self_eq_false,Zk,if_false];refine wpAny_pure (fin _ B.perm ?_);have:=hX (a:=arrOf st') (blt:=blt) (by rw[B.size];exact O) 0;rwa [Z9]at this
theorem sorted_any {l:Addr} (hl:s.heap.IsList l vs.toArray) (hz:vs.length<=sizeLine) (C:Cmp blt)
  (hkk:∀h':Heap,(∀b o,s.heap.get? b=some o->h'.get? b=some o)->2<=vs.length->∀Q':SortKind->Shared->Prop,Q' κ {s with heap:=h'}->wpAny (model prog w) A.in1.in1 (keyKind' vs.toArray) Q' (λ_ _=>False) {s with heap:=h'})
  (L:∀h':Heap,(∀b o,s.heap.get? b=some o->h'.get? b=some o)->yU prog w A.in1.in1 (λ_ _=>False) {s with heap:=h'} (pairsOf vs) κ blt)
  (h:∀out:Array Keyed,out.Perm (pairsOf vs)->PW blt out.toList->Q (.ref (s.heap.objs.size+1)) {s with heap:=sortedAll s.heap vs (out.map (·.2))}):wpAny (model prog w) A (call (.builtin "sorted") [.ref l]) Q E s:=by
 refine Calls.call_function_entry kind_sorted plain_sorted entry_sorted (args_sorted1 _) ?_;unfold Builtin.«sorted»;refine wpAny_bind (m:=checkCount "sorted" 1 1 _) (wpAny_pure (wpAny_bind (collect_list hl ?_ (hsz:=hz))));refine wpAny_bind (wpAny_newList ?_ (hsz:=hz));generalize hh:(s.heap.push (seqObj "list" #[] 0)).update s.heap.objs.size (Obj.mapSeq (· ++vs.toArray))=h1;have hs1:h1.objs.size=s.heap.objs.size+1:=by rw[<-hh,Heap.size_update,size_push']
 have old:∀b o,s.heap.get? b=some o->(h1.push (seqObj "list" vs.toArray 0)).get? b=some o:=λb o e=>by
  refine Heap.get?_push_of_some _ ?_;rw[<-hh];exact(Heap.get?_update_other _ _ (Ne.symm (QC (Heap.lt_size e)))).trans (Heap.get?_push_of_some _ e)
 have new:(h1.push (seqObj "list" vs.toArray 0)).get? (s.heap.objs.size+1)=some (seqObj "list" vs.toArray 0):=by
  rw[<-hs1];exact Heap.get?_push_size _ rfl
 have keep:∀h':Heap,But (s.heap.objs.size+1) {s with heap:=h1.push (seqObj "list" vs.toArray 0)} {s with heap:=h'}->∀b o,s.heap.get? b=some o->h'.get? b=some o:=λh' k b o e=>
  k b o (QC (XG (Heap.lt_size e))) (old b o e)
 show wpAny _ _ _ _ _ {s with heap:=h1.push (seqObj "list" vs.toArray 0)};rw[hs1];refine wpAny_bind (wpAny_holding (wpAny_mono (wpAny_call_entry (E:=λ_ _=>False) slot_list_sort ⟨_,new,rfl⟩ entry_list_sort (wX (κ:=κ) (blt:=blt) new hz C (λh' k=>hkk h' (keep h' k)) (λh' k=>L h' (keep h' k)) λout p q=>⟨_,rfl,?_⟩) (args_list_sort _)) (λ_ _ q=>q) λ_ _ f=>f.elim));refine wpAny_pure ⟨_,rfl,?_⟩;have:=h out p q;unfold sortedAll at this;rw[hh]at this;exact this
end
end Srt
namespace Srt
open PySem PyProof.Rows
variable {blt:Keyed->Keyed->Bool} {E:Value->Shared->Prop}
theorem zP:∀(a b:List Int),HT.lexLt a b=true->HT.lexLt b a=false
 | [],[],h=>rfl
 | [],_::_,_=>rfl
 |_::_,[],h=>by rw[HT.lexLt_cons_nil]at h;cases h
 |x::xs,y::ys,h=>by
  rw[HT.lexLt_cons]at h⊢;by_cases e:x=y
  .rw[if_pos e]at h;rw[if_pos e.symm];exact zP xs ys h
  .rw[if_neg e]at h;rw[if_neg (Ne.symm e)];have:=of_decide_eq_true h;exact decide_eq_false (by lia)
theorem E6:∀(a b c:List Int),HT.lexLt b a=false->HT.lexLt c b=false->HT.lexLt c a=false
 | [],b,[],_,_=>rfl
 |x::xs,[],c,h,_=>by rw[HT.lexLt_nil_cons]at h;cases h
 |a,y::ys,[],_,h=>by rw[HT.lexLt_nil_cons]at h;cases h
 | [],_,_::_,_,_=>HT.lexLt_cons_nil _ _
 |x::xs,y::ys,z::zs,h1,h2=>by
  rw[HT.lexLt_cons]at h1 h2⊢;by_cases e1:y=x
  .rw[if_pos e1]at h1;by_cases e2:z=y
   .rw[if_pos e2]at h2;rw[if_pos (e2.trans e1)];exact E6 xs ys zs h1 h2
   .rw[if_neg e2]at h2;rw[if_neg (by rw[<-e1];exact e2)];have:=of_decide_eq_false h2;exact decide_eq_false (by lia)
  .rw[if_neg e1]at h1;have g1:=of_decide_eq_false h1;by_cases e2:z=y
   .rw[if_pos e2]at h2;rw[if_neg (by lia)];exact decide_eq_false (by lia)
   .rw[if_neg e2]at h2;have g2:=of_decide_eq_false h2;by_cases e3:z=x
    .lia
    .rw[if_neg e3];exact decide_eq_false (by lia)
theorem cmp_of (k:Keyed->List Int):Cmp λp q=>HT.lexLt (k p) (k q):=⟨λx y h=>zP _ _ h,λx y z h1 h2=>E6 _ _ _ h1 h2⟩
theorem runs_of {prog:Program} {w:World} {A:Around} {s:Shared} {a₀:Array Keyed} {κ:SortKind} 
  (h:∀(x y:Keyed) (E':Value->Shared->Prop) (Q:Bool->Shared->Prop),x∈a₀->y∈a₀->Q (blt x y) s->wpAny (model prog w) A (keyLt' κ x.1 y.1) Q E' s):yU prog w A E s a₀ κ blt:=by
 intro x y st Q hx hy hk q;rw[lt'_eq];refine wpS_bind (wpS_get ?_);rw[hk];refine wpS_bind (wpS_lift (wpAny_attempt (h x y _ _ hx hy ⟨rfl,?_⟩)));exact wpS_pure q
end Srt
namespace L2
open PySem PySem.Spec PyProof.Rows
variable {H:Hp} {pins:List (Addr×Obj)} {xs ys:List V} {its:List Value} {s:Shared} {σ:St} {u:Value}
def unV (u:Value):V:=(absV u).getD .non
theorem tR {x:V} (r:RelV x u):unV u=x:=by unfold unV;rw[r.abs];rfl
theorem xS:∀{xs:List V} {us:List Value},Vals xs us->us.map unV=xs
 |_,_,.nil=>rfl
 |_,_,.cons r t=>by rw[Qs,tR r,xS t]
theorem lw {us:List Value} (h:Vals xs us) (hu:u∈us):∃x∈xs,RelV x u:=by
 induction h with
 |nil=>exact absurd hu QT
 |cons r t ih=>
  rcases Qg.mp hu with e|e
  .subst e;exact⟨_,Q9,r⟩
  .obtain⟨x,h1,h2⟩:=ih e;exact⟨x,Qd _ h1,h2⟩
theorem xT:∀{us:List Value},(∀u∈us,RelV (unV u) u)->Vals (us.map unV) us
 | [],_=> .nil
 |u::r,h=> .cons (h u Q9) (xT λv hv=>h v (Qd _ hv))
section
variable {X:Cx}
theorem CH {Q:VK} {p:Addr} {κ:SortKind} {ky:V->List Int} (I:Inv X pins σ H s) (hz:xs.length<=sizeLine) (rv:Vals xs its) (hl:s.heap.IsList p its.toArray)
  (hkk:∀h':Heap,(∀b o,s.heap.get? b=some o->h'.get? b=some o)->2<=its.length->∀Q':SortKind->Shared->Prop,Q' κ {s with heap:=h'}->wpAny (model X.prog X.w) X.A.in1.in1 (keyKind' its.toArray) Q' (λ_ _=>False) {s with heap:=h'})
  (hlt:∀h':Heap,(∀b o,s.heap.get? b=some o->h'.get? b=some o)->∀(x y:V) (u v:Value) (E':Value->Shared->Prop) (Q':Bool->Shared->Prop),x∈xs->y∈xs->RelV x u->RelV y v->Q' (HT.lexLt (ky x) (ky y)) {s with heap:=h'}->wpAny (model X.prog X.w) X.A.in1.in1 (keyLt' κ u v) Q' E' {s with heap:=h'})
  (q:∀l ys,H l=none->ys.Perm xs->ys.Pairwise (λa b=>HT.lexLt (ky b) (ky a)=false)->Q (.ref l) (upd H l (.lst ys))):
  wpAny (model X.prog X.w) X.A (call (.builtin "sorted") [.ref p]) (EP X pins σ Q) X.xe s:=by
 have hi:its.length<=sizeLine:=by rw[<-rv.length];exact hz
 have mem:∀z:Keyed,z∈pairsOf its->z.1=z.2/\z.1∈its:=λz hz=>by
  have:z∈(pairsOf its).toList:=by simpa using hz
  rw[pairsOf_toList]at this;exact mem_zip_self this
 refine Srt.sorted_any (κ:=κ) (blt:=λa b=>HT.lexLt (ky (unV a.1)) (ky (unV b.1))) hl hi (Srt.cmp_of λa=>ky (unV a.1)) hkk (λh' k=>Srt.runs_of λx y E' Q' hx hy q'=>?_) λout pm pw=>?_
 .obtain⟨x',hx1,hx2⟩:=lw rv (mem x hx).2;obtain⟨y',hy1,hy2⟩:=lw rv (mem y hy).2;rw[tR hx2,tR hy2]at q';exact hlt h' k x' y' x.1 y.1 E' Q' hx1 hy1 hx2 hy2 q'
 .have pml:out.toList.Perm (its.zip its):=by
   have:=X5.mp pm;rwa [pairsOf_toList]at this
  have eqs:∀z∈out.toList,z.1=z.2/\z.1∈its:=λz hz=>mem_zip_self (pml.mem_iff.mp hz);have e2:(out.map (·.2)).toList=out.toList.map (·.2):=Array.toList_map;have pv:((out.map (·.2)).toList).Perm its:=by
   rw[e2];refine(pml.map _).trans (List.Perm.of_eq ?_);exact List.map_snd_zip (Q4 _)
  have hu:∀u∈(out.map (·.2)).toList,RelV (unV u) u:=λu hu=>by
   obtain⟨x,_,r⟩:=lw rv (pv.mem_iff.mp hu);rw[tR r];exact r
  have vy:=xT hu;have fresh:H (s.heap.objs.size+1)=none:=I.hok.fresh (Zy _);have py:((out.map (·.2)).toList.map unV).Perm xs:=by
   rw[<-xS rv];exact pv.map _
  obtain⟨e,at_⟩:=sortedAll_at s.heap its (out.map (·.2));refine⟨.ref (s.heap.objs.size+1),upd H (s.heap.objs.size+1) (.lst ((out.map (·.2)).toList.map unV)),I.laid (t':=s.toks) (λb o q=>sortedAll_old q) (Zy _) ⟨?_,_,e,vy,?_⟩,rfl,q _ _ fresh py ?_⟩
  .rw[py.length_eq];exact hz
  .rw[at_,ZW]
  .rw[e2,Qu];refine QO.mpr (pw.imp_of_mem λ{a b} ha hb h=>?_);show HT.lexLt (ky (unV b.2)) (ky (unV a.2))=false;rw[<-(eqs a ha).1,<-(eqs b hb).1];exact h
def yB:V->List Int
 | .int i=> [i]
 |_=> []
theorem CP {ns:List Int} (h:ys.Perm (ns.map V.int)):∃ms:List Int,ys=ms.map V.int/\ms.Perm ns:=by
 have e:ys=(ys.map λy=>match y with| .int i=>i|_=>0).map V.int:=by
  rw[Qu];refine(XH ys).symm.trans (Zd λy hy=>?_);obtain⟨i,_,rfl⟩:=Qh.mp (h.mem_iff.mp hy);rfl
 refine⟨_,e,?_⟩;refine(h.map λy=>match y with| .int i=>i|_=>0).trans (List.Perm.of_eq ?_);rw[Qu];exact XH ns
def kRef (ky:Addr->List Int):V->List Int
 | .ref a=>ky a
 |_=> []
theorem CO {as:List Addr} (h:ys.Perm (as.map V.ref)):∃bs:List Addr,ys=bs.map V.ref/\bs.Perm as:=by
 have e:ys=(ys.map λy=>match y with| .ref i=>i|_=>0).map V.ref:=by
  rw[Qu];refine(XH ys).symm.trans (Zd λy hy=>?_);obtain⟨i,_,rfl⟩:=Qh.mp (h.mem_iff.mp hy);rfl
 refine⟨_,e,?_⟩;refine(h.map λy=>match y with| .ref i=>i|_=>0).trans (List.Perm.of_eq ?_);rw[Qu];exact XH as
theorem AJ {a:Addr} (I:Inv X pins σ H s) (h:H a=some (.tup xs)) {h':Heap} (k:∀b o,s.heap.get? b=some o->h'.get? b=some o):
  ∃(o:Obj) (its:List Value) (n:Nat),Vals xs its/\h'.get? a=some o/\o.cls= .type "tuple"/\o.data= .seq its.toArray n:=by
 obtain⟨_,its,rv,o,e,c,n,d⟩:=(show ObjOk X.prog X.w H s.heap a (.tup xs) from I.hok a _ h);exact⟨o,its,n,rv,k _ _ e,c,d⟩
theorem IK {x y:V} (r:Vals [x,y] its):∃u v,its=[u,v]/\RelV x u/\RelV y v:=tQ r
end
end L2
namespace Srt
open PySem PyProof.Rows
variable {blt:Keyed->Keyed->Bool} {E Q:Value->Shared->Prop}
section
variable {prog:Program} {w:World} {A:Around} {s:Shared} {κ:SortKind}
theorem sorted_src {r:Value} {G:List Value->Prop} 
  (hc:∀(R:List Value->Shared->Prop) (E':Value->Shared->Prop),(∀(h1:Heap) (tk:Nat) (vs:List Value),(∀b o,s.heap.get? b=some o->h1.get? b=some o)->G vs->R vs {s with heap:=h1,toks:=tk})->wpAny (model prog w) A.in1 (collect r) R E' s)
  (hz:∀vs,G vs->vs.length<=sizeLine) (C:Cmp blt)
  (hkk:∀(vs:List Value) (h':Heap) (tk:Nat),G vs->(∀b o,s.heap.get? b=some o->h'.get? b=some o)->2<=vs.length->∀Q':SortKind->Shared->Prop,Q' κ {s with heap:=h',toks:=tk}->wpAny (model prog w) A.in1.in1 (keyKind' vs.toArray) Q' (λ_ _=>False) {s with heap:=h',toks:=tk})
  (L:∀(vs:List Value) (h':Heap) (tk:Nat),G vs->(∀b o,s.heap.get? b=some o->h'.get? b=some o)->yU prog w A.in1.in1 (λ_ _=>False) {s with heap:=h',toks:=tk} (pairsOf vs) κ blt)
  (h:∀(vs:List Value) (h1 h2:Heap) (tk e:Nat) (out:Array Keyed),G vs->(∀b o,s.heap.get? b=some o->h1.get? b=some o)->(∀b o,h1.get? b=some o->h2.get? b=some o)->h2.get? h1.objs.size=some (seqObj "list" (out.map (·.2)) e)->out.Perm (pairsOf vs)->PW blt out.toList->Q (.ref h1.objs.size) {s with heap:=h2,toks:=tk}):
  wpAny (model prog w) A (call (.builtin "sorted") [r]) Q E s:=by
 refine Calls.call_function_entry kind_sorted plain_sorted entry_sorted (args_sorted1 _) ?_;unfold Builtin.«sorted»;refine wpAny_bind (m:=checkCount "sorted" 1 1 _) (wpAny_pure (wpAny_bind (hc _ _ λh1 tk vs k1 g=>?_)));refine wpAny_bind (wpAny_newList ?_ (hsz:=hz vs g));have new:(h1.push (seqObj "list" vs.toArray 0)).get? h1.objs.size=some (seqObj "list" vs.toArray 0):=Heap.get?_push_size _ rfl;have keep:∀h':Heap,But h1.objs.size {s with heap:=h1.push (seqObj "list" vs.toArray 0),toks:=tk} {s with heap:=h',toks:=tk}->∀b o,s.heap.get? b=some o->h'.get? b=some o:=λh' k b o e=>
  k b o (QC (Heap.lt_size (k1 b o e))) (Heap.get?_push_of_some _ (k1 b o e))
 show wpAny _ _ _ _ _ {s with heap:=h1.push (seqObj "list" vs.toArray 0),toks:=tk};refine wpAny_bind (wpAny_holding (wpAny_mono (wpAny_call_entry (E:=λ_ _=>False) slot_list_sort ⟨_,new,rfl⟩ entry_list_sort (wX (s:={s with heap:=h1.push (seqObj "list" vs.toArray 0),toks:=tk}) (κ:=κ) (blt:=blt) new (hz vs g) C (λh' k=>hkk vs h' tk g (keep h' k)) (λh' k=>L vs h' tk g (keep h' k)) λout p q=>⟨_,rfl,?_⟩) (args_list_sort _)) (λ_ _ q=>q) λ_ _ f=>f.elim));refine wpAny_pure ⟨_,rfl,?_⟩;obtain⟨e,at_⟩:=sortedHeap_at (out:=out.map (·.2)) new;refine h vs h1 _ tk e out g k1 (λb o q=>?_) at_ p q
 have lt:=Heap.lt_size q;rw[sortedHeap_old (QC lt) (by rw[size_push'];exact XG lt)];exact Heap.get?_push_of_some _ q
end
end Srt
namespace L2
open PySem PySem.Spec PyProof.Rows
variable {C D d:Addr} {X:Cx} {elt iter tg:Expr} {H H1 H4:Hp} {Fin:Hp->Prop} {J:It} {R:It->Hp->Prop} {pins:List (Addr×Obj)} {kvs:List (Key×V)} {vs:List (Key×Value)} {cl:List (Str×Addr)} {elts ifs:List Expr} {M N':List Str} {xs ys:List V} {i n:Nat} {ob:Obj} {pos px:Pos} {P:Program} {K:PySem.W.Frag} {scope:Scope} {s:Shared} {σ:St} {x y:Str} {nx:St->Hp->Prop} {B:St->VK->It->Hp->Prop} {te:TE} {g:TG} {wi:TI} {tc:TT} {Q:VK} {RR:Value->Addr->Result->Shared->Prop} {w:World}
section
section
theorem Ca {k:Key} {v:Value} (h:(a7 P w).is k v=true):RelV (kV k) v:=by
 rw[Bk]at h;cases k with
 |inl i=>
  cases v with
  |int j t=>exact⟨t,by simp[my,Value.isInt]at h;rw[h]⟩
  |_=>simp[my,Value.isInt]at h
 |inr x=>
  cases v with
  |str y t=>exact⟨t,by simp[my,Value.isStrOf]at h;rw[h]⟩
  |_=>simp[my,Value.isStrOf]at h
def jM (kvs:List (Key×V)):List V:=kvs.map λp=>kV p.1
theorem tP {acc:List Value} (rel:KV kvs vs) (hl:acc.length=vs.length)
  (hv:∀(j:Nat) (v:Value),acc[j]?=some v->∃k x,vs[j]?=some (k,x)/\(a7 P w).is k v=true):Vals (jM kvs) acc:=by
 induction rel generalizing acc with
 |nil=>cases acc with
  |nil=>exact .nil
  |cons a b=>simp at hl
 |cons r t ih=>
  rename_i p q ps qs
  cases acc with
  |nil=>simp at hl
  |cons a b=>
   refine .cons ?_ (ih (by simpa using hl) λj v e=>?_)
   .obtain⟨k,x,e1,e2⟩:=hv 0 a rfl;simp at e1;subst e1;show RelV (kV p.1) a;rw[r.1];exact Ca e2
   .exact hv (j+1) v (by simpa using e)
theorem By (hh:X.A.handled=none):eZ X (.type "list") (λxs H Q=>∃a kvs,xs=[.ref a]/\Rd H a (.dK kvs)/\∀l,H l=none->Q (.ref l) (upd H l (.lst (jM kvs)))):=by
 intro pins s σ H xs us Q I r h;obtain⟨a,kvs,rfl,hd,q⟩:=h;obtain⟨u,rfl,ru⟩:=jG r;cases ru;obtain⟨z,lo,vs,rel,dd⟩:=oj I.hok hd;obtain⟨ep,hat⟩:=dd.dictAt;have hlen:kvs.length=vs.length:=rel.length;refine PySem.W.kdl_call (PySem.W.kdl_dict (knd:=a7 X.prog X.w) (kvs:=vs) (ep:=ep) lo) hh hat (by lia) λh' tk acc' c' hk hS hacc=>?_;have hv:Vals (jM kvs) acc'.toList:=tP rel (by rw[Q6];exact hacc.1) λj v e=>hacc.2 j v (by rw[<-Qw];exact e);refine⟨.ref s.heap.objs.size,_,I.laid (t':=tk) hk (Q4 _) (show ObjOk X.prog X.w _ h' _ (.lst (jM kvs)) from⟨?_,acc'.toList,c',hv,?_⟩),rfl,q _ (I.hok.fresh (Q4 _))⟩
 .unfold jM;rw[Q0];exact z
 .rw[ZW];exact hS
theorem zk {T:String} {r:Addr} {OK:Heap->Prop} {ns:List Int} (hh:X.A.handled=none) (I:Inv X pins σ H s) (rel:KV kvs vs) (z:kvs.length<=sizeLine)
  (src:PySem.W.KdlSrc X.prog X.w T r d vs.length (λi v=>∃k x,vs[i]?=some (k,x)/\(a7 X.prog X.w).is k v=true) OK) (hok:OK s.heap) (hns:jM kvs=ns.map V.int)
  (q:∀(l:Addr) (ms:List Int),H l=none->ms.Perm ns->ms.Pairwise (· <= ·)->Q (.ref l) (upd H l (.lst (ms.map V.int)))):wpAny (model X.prog X.w) X.A (call (.builtin "sorted") [.ref r]) (EP X pins σ Q) X.xe s:=by
 have hlen:kvs.length=vs.length:=rel.length;have hlk:(jM kvs).length=kvs.length:=Q0 _;have allI:∀its:List Value,Vals (jM kvs) its->∀v∈its,∃i t,v=Value.int i t:=λits rv v hv=>by
  obtain⟨x,hx,rx⟩:=lw rv hv;rw[hns]at hx;obtain⟨i,_,rfl⟩:=Qh.mp hx;obtain⟨t,e⟩:=rx;exact⟨i,t,e⟩
 have mem:∀(its:List Value) (z:Keyed),z∈pairsOf its->z.1=z.2/\z.1∈its:=λits z hz=>by
  have:z∈(pairsOf its).toList:=by simpa using hz
  rw[pairsOf_toList]at this;exact mem_zip_self this
 refine Srt.sorted_src (G:=λits=>Vals (jM kvs) its) (κ:=oneType') (blt:=λa b=>HT.lexLt (yB (unV a.1)) (yB (unV b.1))) (λR E' k=>?_) (λits rv=>by rw[<-rv.length,hlk];exact z) (Srt.cmp_of λa=>yB (unV a.1))
  (λits h' tk rv k h2 Q' hQ=>?_) (λits h' tk rv k=>Srt.runs_of λx y E' Q' hx hy hQ=>?_) (λits h1 h2 tk e out rv k1 k2 at_ pm pw=>?_)
 .refine PySem.W.kdu_collect src hh hok (by lia) λh' tk acc hk hacc=>k h' tk acc.toList hk ?_;exact tP rel (by rw[Q6];exact hacc.1) λj v e=>hacc.2 j v (by rw[<-Qw];exact e)
 .refine PySem.W.kas_kind (T:= .type "int") h2 (λv hv=>?_) (by decide+kernel) (by decide+kernel) hQ;obtain⟨i,t,rfl⟩:=allI its rv v hv;exact PySem.W.Looks.of_pure rfl
 .obtain⟨i,t,e1⟩:=allI its rv _ (mem its x hx).2;obtain⟨j,t',e2⟩:=allI its rv _ (mem its y hy).2;rw[e1,e2]at hQ⊢;refine PySem.W.kat_lt_int ?_;have e:HT.lexLt (yB (unV (.int i t))) (yB (unV (.int j t')))=decide (i<j):=by
   show HT.lexLt [i] [j]=_;rw[HT.lexLt_cons];by_cases z:i=j
   .rw[if_pos z,HT.lexLt_nil_nil,decide_eq_false (by lia)]
   .rw[if_neg z]
  rw[e]at hQ;exact hQ
 .have pml:out.toList.Perm (its.zip its):=by
   have:=X5.mp pm;rwa [pairsOf_toList]at this
  have eqs:∀z∈out.toList,z.1=z.2/\z.1∈its:=λz hz=>mem_zip_self (pml.mem_iff.mp hz);have e2:(out.map (·.2)).toList=out.toList.map (·.2):=Array.toList_map;have pv:((out.map (·.2)).toList).Perm its:=by
   rw[e2];refine(pml.map _).trans (List.Perm.of_eq ?_);exact List.map_snd_zip (Q4 _)
  have hu:∀u∈(out.map (·.2)).toList,RelV (unV u) u:=λu hu=>by
   obtain⟨x,_,r⟩:=lw rv (pv.mem_iff.mp hu);rw[tR r];exact r
  have vy:=xT hu;have I1:Inv X pins σ H {s with heap:=h1,toks:=tk}:=I.kept k1;have py:((out.map (·.2)).toList.map unV).Perm (ns.map V.int):=by
   rw[<-hns,<-xS rv];exact pv.map _
  have pw2:((out.map (·.2)).toList.map unV).Pairwise (λa b=>HT.lexLt (yB b) (yB a)=false):=by
   rw[e2,Qu];refine QO.mpr (pw.imp_of_mem λ{a b} ha hb h=>?_);show HT.lexLt (yB (unV b.2)) (yB (unV a.2))=false;rw[<-(eqs a ha).1,<-(eqs b hb).1];exact h
  have lz:((out.map (·.2)).toList.map unV).length<=sizeLine:=by
   rw[py.length_eq,<-hns,hlk];exact z
  obtain⟨ms,em,pm'⟩:=CP py;rw[em]at vy pw2 lz;refine⟨.ref h1.objs.size,upd H h1.objs.size (.lst (ms.map V.int)),I1.laid (t':=tk) k2 (Q4 _) ⟨lz,_,e,vy,?_⟩,rfl,q _ _ (I1.hok.fresh (Q4 _)) pm' ?_⟩
  .rw[at_,ZW]
  .refine(QO.mp pw2).imp λ{a b} h=>?_;have h:HT.lexLt [b] [a]=false:=h;rw[HT.lexLt_cons]at h;by_cases z:b=a
   .lia
   .rw[if_neg z]at h;have:=of_decide_eq_false h;lia
theorem yI (hh:X.A.handled=none):eZ X (.builtin "sorted") (λxs H Q=>∃(a:Addr) (kvs:List (Key×V)) (ns:List Int),xs=[.ref a]/\Rd H a (.dK kvs)/\jM kvs=ns.map V.int/\
  ∀(l:Addr) (ms:List Int),H l=none->ms.Perm ns->ms.Pairwise (· <= ·)->Q (.ref l) (upd H l (.lst (ms.map V.int)))):=by
 intro pins s σ H xs us Q I r h;obtain⟨a,kvs,ns,rfl,hd,hns,q⟩:=h;obtain⟨u,rfl,ru⟩:=jG r;cases ru;obtain⟨z,lo,vs,rel,dd⟩:=oj I.hok hd;obtain⟨ep,hat⟩:=dd.dictAt;exact zk hh I rel z (PySem.W.kdl_dict (knd:=a7 X.prog X.w) (kvs:=vs) (ep:=ep) lo) hat hns q
def Kq:V->List V->Hp->VK->Prop:=λx vs H Q=>∃a kvs k v,x= .ref a/\vs=[kV k]/\H a=some (.dK kvs)/\aO kvs k=some v/\Q v (upd H a (.dK (bT kvs k)))
theorem BX:MtR X "dict.pop" Kq:=by
 intro pins s σ H x vs v us Q I rx rv h;obtain⟨a,kvs,k,y,rfl,rfl,hH,hl,q⟩:=h;cases rx;obtain⟨u,rfl,ru⟩:=rv.one;exact KJ I hH ru hl (.inl rfl) λw' s' I' r'=>⟨y,_,I',r',q⟩
def Kp (K:PySem.W.Frag):V->List V->Hp->VK->Prop:=λx vs H Q=>∃(sep:Str) (a:Addr) (ys:List Str),x= .str sep/\vs=[.ref a]/\SqL K H a (ys.map V.str)/\sep.length<=16/\(ys.map (·.length)).sum+ys.length<=1048576/\Q (.str (Txt.join sep ys)) H
theorem zf:∀{ys:List Str} {its:List Value},Vals (ys.map V.str) its->StrsAre its ys
 | [],_,.nil=> .nil
 |_::_,_,.cons ⟨t,e⟩ r=>by subst e;exact .cons _ _ (zf r)
theorem G9:MtR X "str.join" (Kp X.K):=by
 intro pins s σ H x vs v us Q I rx rv h;obtain⟨sep,a,ys,rfl,rfl,hS,h1,h2,q⟩:=h;obtain⟨t,rfl⟩:=rx;obtain⟨u,rfl,ru⟩:=rv.one;cases ru;obtain⟨its,r,pl,_⟩:=I.list hS;exact join_listW pl.isList (by simpa using zf r) h1 h2 λt' k=>⟨.str _,H,I.tok _,⟨t',rfl⟩,q⟩
end
end
section
theorem pD {env:Env}:∀(l:List (Str×NameKind)) (cs:List (Str×Addr)),(∀p∈l,p.2= .free->∃c,env.cells.lookup p.1=some c)->
  ∃cl,(forIn l cs (λp cs=>if(p.2==NameKind.free)=true then cellOf env p.1>>=λa=>pure (ForInStep.yield ((p.1,a)::cs))else pure (ForInStep.yield cs)):Sem _)=pure cl/\
   (∀y c,cl.lookup y=some c->cs.lookup y=some c\/env.cells.lookup y=some c)/\(∀y c,cs.lookup y=some c->∃c',cl.lookup y=some c')/\(∀y,(y,NameKind.free)∈l->∃c,cl.lookup y=some c)
 | [],cs,_=>⟨cs,by rw[List.forIn_nil],λy c h=> .inl h,λy c h=>⟨c,h⟩,λy h=>nomatch h⟩
 |(n,k)::r,cs,h=>by
  rw[List.forIn_cons];by_cases hk:k= .free
  .subst hk;obtain⟨c,hc⟩:=h (n,.free) Q9 rfl;have hc:env.cells.lookup n=some c:=hc;have e:cellOf env n=pure c:=by unfold cellOf;rw[hc]
   obtain⟨cl,h1,h2,h3,h4⟩:=pD r ((n,c)::cs) λp hp=>h p (Qd _ hp);refine⟨cl,?_,λy c' hy=>?_,λy c' hy=>?_,λy hy=>?_⟩
   .simp only[beq_self_eq_true,if_true,e,pure_bind];exact h1
   .rcases h2 y c' hy with q|q
    .rw[ZE]at q;split at q
     .rename_i z
      cases q;rw[beq_iff_eq]at z;subst z;exact .inr hc
     .exact .inl q
    .exact .inr q
   .by_cases z:y=n
    .exact h3 y c (by rw[ZE,z];simp)
    .exact h3 y c' (by rw[ZE,beq_eq_false_iff_ne.mpr z];exact hy)
   .rcases Qg.mp hy with q|q
    .have e1:y=n:=(Prod.mk.inj q).1;exact h3 y c (by rw[ZE,e1];simp)
    .exact h4 y q
  .have hb:(k==NameKind.free)=false:=by simpa using hk
   obtain⟨cl,h1,h2,h3,h4⟩:=pD r cs λp hp=>h p (Qd _ hp);refine⟨cl,?_,h2,h3,λy hy=>?_⟩
   .simp only[hb,Zk,if_false,pure_bind];exact h1
   .rcases Qg.mp hy with q|q
    .exact absurd (Prod.mk.inj q).2.symm hk
    .exact h4 y q
theorem ve {env:Env} (h:∀p∈scope.names,p.2= .free->∃c,env.cells.lookup p.1=some c):
  ∃cl,closureFor scope env=pure cl/\(∀y c,cl.lookup y=some c->env.cells.lookup y=some c)/\(∀y,(y,NameKind.free)∈scope.names->∃c,cl.lookup y=some c):=by
 obtain⟨cl,h1,h2,_,h4⟩:=pD scope.names [] h;refine⟨cl,?_,λy c hy=>(h2 y c hy).resolve_left λz=>by simp at z,h4⟩;unfold closureFor;simp only[bind_pure];exact h1
def cCx (X:Cx) (M N':List Str) (scope:Scope) (cl:List (Str×Addr)) (C:Addr) (s₂:Shared) (H₂:Hp) (fp:List Addr):Cx:=
 {X with N:=M++N',s₀:=s₂,H₀:=H₂,env:=compEnvC scope cl C X.env,outer:=X.stack,stack:=X.stack,ex:=fp,fn:=λ_=>false,pn:=[],xe:=λ_ _=>False}
structure CScope (X:Cx) (M N':List Str) (scope:Scope):Prop where
 kind:scope.kind= .function
 nd:(M++N').Nodup
 ln:N'.length=X.N.length
 own:∀x∈M,scope.names.lookup x=some .local
 nocell:∀y∈scope.names,y.2≠ .cell
 names:∀y∈scope.names,y.2= .local->scope.names.lookup y.1=some .local
 free:∀y∈scope.names,y.2= .free->X.env.kindOf y.1=some .cell
 vis:∀(j:Nat) (y:Str),N'[j]?=some y->Vis (relabel scope X.env) y->X.N[j]?=some y/\(y,NameKind.free)∈scope.names/\(relabel scope X.env).names.lookup y=some .cell
 cells:∀y,((relabel scope X.env).names.lookup y=some .cell\/(relabel scope X.env).names.lookup y=some .free)->(y,NameKind.free)∈scope.names
def Af (n:Nat) (g:TG) (tc:TT) (te:TE) (σ:St) (Q:VK) (J:It) (H1:Hp):Prop:=∀D,H1 D=none->∃W:Nat->Nat->St->List V->Hp->Prop,(∃m,W 0 m (List.replicate n none++σ) [] (upd H1 D (.lst [])))/\∀i m τ ys H2,W i m τ ys H2->H2 D=some (.lst ys)->
 (J.stop i H2/\Q (.ref D) H2)\/(J.go i H2/\∀x H3,J.yld i H2 x H3->∃G:St->Hp->Prop,(∀τ2 H4,G τ2 H4->∃(Ny:VK) (Ns:Hp->Prop),(∀y H6,Ny y H6->H6 D=some (.lst ys)/\ys.length<sizeLine/\∃m',m'<m/\W (i+1) m' τ2 (ys++ [y]) (upd H6 D (.lst (ys++ [y]))))/\
  (∀H5,Ns H5->H5 D=some (.lst ys)/\∃m',m'<m/\W (i+1) m' τ2 ys H5)/\tc τ2 H4 λb H5=>if b=true then te τ2 H5 Ny else Ns H5)/\g x τ H3 G)
def HW:TT:=λ_ H Q=>Q true H
def PTs (X:Cx) (ifs:List Expr) (tc:TT):Prop:=∀(pins:List (Addr×Obj)) (s:Shared) (σ:St) (H:Hp) (Q:Bool->Hp->Prop),Inv X pins σ H s->tc σ H Q->
 wpAny (model X.prog X.w) X.A (forIn ifs true λc r=>if r=true then do let ok<-isTrue c X.env (eval c X.env);pure (ForInStep.yield ok)else pure (ForInStep.yield r)) (λb s'=>∃H',Inv X pins σ H' s'/\Q b H') X.xe s
section
theorem G1:PTs X [] HW:=λ_ _ _ H _ I h=>wpAny_tests_nil ⟨H,I,h⟩
theorem BS {c:Expr} (h:PT X c tc):PTs X [c] tc:=λpins s σ H Q I q=>wpAny_tests_one (h pins s σ H Q I q)
theorem CScope.pg {s₂:Shared} {H₂:Hp} {fp:List Addr} (S:CScope X M N' scope) (h:M[i]?=some x):PG (cCx X M N' scope cl C s₂ H₂ fp) (.Name x px) (mB i):=
 bF S.nd (by show(M++N')[i]?=_;rw[Zn (Q2.mp h).1];exact h) (.inl (lookup_relabel_local (S.own x (Q1 h)))) (.inr (lookup_relabel_local (S.own x (Q1 h))))
structure IF (X:Cx) (pins:List (Addr×Obj)) (H:Hp) (C:Addr):Prop where
 no:H C=none
 fr:C≠X.env.locals
 ab:X.s₀.heap.objs.size<=C
 ce:∀x c,X.env.cells.lookup x=some c->c≠C
 pi:∀p∈X.pn++pins,p.1≠C
theorem xA (hc:X.calm=true) (S:CScope X M N' scope) (hi:PI X tg iter wi)
  (hg:∀cl C s₂ H₂ fp,PG (cCx X M N' scope cl C s₂ H₂ fp) tg g) (hcn:∀cl C s₂ H₂ fp,PTs (cCx X M N' scope cl C s₂ H₂ fp) ifs tc) (he:∀cl C s₂ H₂ fp,PE (cCx X M N' scope cl C s₂ H₂ fp) elt te)
  (cl1:∀y c,cl.lookup y=some c->X.env.cells.lookup y=some c) (cl2:∀y,(y,NameKind.free)∈scope.names->∃c,cl.lookup y=some c) (I:Inv X pins σ H s) (h:wi σ H R) (hB:∀J H,R J H->Af M.length g tc te σ Q J H)
  (hR:∀D C s4 H',Inv X pins σ H' s4->(∃m,s4.heap.Ns C m)->IF X pins H' C->Q (.ref D) H'->RR (.ref D) C (.ok .next) s4):
  wpAny (model X.prog X.w) X.A (eval iter X.env) (λv s1=>wpAny (model X.prog X.w) X.A (pyIter v) (λitv s2=>wpAny (model X.prog X.w) X.A (newList []) (λacc s3=>
   wpAny (model X.prog X.w) X.A (newFunctionEnv scope X.env.globals cl [] X.env.qual none .none (some X.env)) (λcenv s4=>
    codeAny (model X.prog X.w) X.A (.compStart (.ListComp elt [⟨tg,iter,ifs,0⟩] scope pos) 0 itv acc {cenv with scope:=relabel scope X.env}) (RR acc cenv.locals) s4) X.xe s3) X.xe s2) X.xe s1) X.xe s:=by
 refine thn (hi pins s σ H _ I h) λv s1 h1=>thn h1 λitv s2 h2=>?_;obtain⟨it,fp,tn,J,H2,e,I2,T,st2,f2,h⟩:=h2;subst e;refine wpAny_newObj_type (wpAny_newFunctionEnv S.nocell (by intro y hy;simp at hy) (λh₁ hns₁ hsb₁=>?_) S.kind);dsimp only at hns₁ hsb₁⊢;generalize hD:s2.heap.objs.size=D at*;generalize hH3:s2.heap.push {cls:= .type "list",dict:=none,data:= .seq ([]:List Value).toArray}=h3 at hns₁ hsb₁⊢;have hCs:h3.objs.size=D+1:=by rw[<-hH3,Heap.size_push,hD]
 have fD:H2 D=none:=I2.hok.fresh (Zr hD);obtain⟨W,⟨m0,w0⟩,turn⟩:=hB _ _ h D fD;generalize hC:h3.objs.size=C at*;have gD:s2.heap.get? D=none:=Heap.get?_none_of_le (Zr hD);have gC:s2.heap.get? C=none:=Heap.get?_none_of_le (by rw[hD,hCs];exact Zy _);have DC:D≠C:=by rw[hCs];exact QC (Zx _)
 have up3:∀b o,s2.heap.get? b=some o->h3.get? b=some o:=λb o e=>by rw[<-hH3];exact Heap.get?_push_of_some _ e
 have hold:∀b o,h3.get? b=some o->h₁.get? b=some o:=λb o e=>hsb₁.extBut b o (by intro z;have:=Heap.lt_size e;rw[z,hC]at this;exact absurd this (Zv _)) (Heap.get?_push_of_some _ e);have up:∀b o,s2.heap.get? b=some o->h₁.get? b=some o:=λb o e=>hold b o (up3 b o e);have oD:h₁.get? D=some {cls:= .type "list",dict:=none,data:= .seq ([]:List Value).toArray}:=hold _ _ (by rw[<-hH3,<-hD];exact Heap.get?_push_size _ rfl);have fpo:∀b∈fp,b≠C/\b∉frs X.stack:=λb hb=>by
  obtain⟨o,e,_⟩:=T.obj _ _ st2 b hb;refine⟨λz=>(by rw[z,gC]at e;cases e),λz=>?_⟩;rcases Qg.mp (I2.stkSub b z)with q|q
  .exact(f2 b hb).2.1 q
  .exact(f2 b hb).2.2.1 q
 have fC:H2 C=none:=I2.hok.fresh (by rw[hD,hCs];exact Zy _);have ok:(cCx X M N' scope cl C s2 H2 fp).Ok:=
  {mod:=I2.ok.mod,kind:=S.kind,glob:=I2.ok.glob,blt:=I2.ok.blt,above:=by show s2.heap.objs.size<=C;rw[hD,hCs];exact Zy _
   inj:=λy z c h1 h2=>I2.ok.inj y z c (cl1 _ _ h1) (cl1 _ _ h2),has:=λy hy=>cl2 y (S.cells y hy),cab:=λy c z=>by cases z
   hd:=I2.ok.hd,frames:=I2.ok.frames,stk:= .inl rfl,exf:=λb hb=>⟨(fpo b hb).1,λy c e=>(f2 b hb).2.2.2.2.1 y c (cl1 y c e)⟩
   bs:=I2.bs,bsz:=QD I2.ok.bsz I2.sz
   noex:=λb o e hb=>by
    rcases(f2 b hb).2.2.2.1 with q|q
    .exact I2.ok.noex b o e q
    .exact absurd (Qx (Heap.lt_size e) (QD I2.ok.bsz q)) (Zv _)
   exfs:=λb hb=>(fpo b hb).2,funs:=I2.stack,frf:=I2.stkFree}
 have ne2:∀b u,H2 b=some u->b≠D:=λb u e=>al e fD;have I3:Inv (cCx X M N' scope cl C s2 H2 fp) [] (List.replicate M.length none++σ) (upd H2 D (.lst [])) {s2 with heap:=h₁,toks:=s2.toks+([]:List (Str×Value)).length}:=
  {ok:=ok,os:=rfl,bare:=I2.bare,base:=Un.laid up (Zr hD) fD
   loc:=⟨_,hns₁,λi y v e1 e2 e3=>by
    by_cases lt:i<M.length
    .have e2:(List.replicate M.length none++σ)[i]?=some (some v):=e2;rw[Zn (by rw[Zm];exact lt),List.getElem?_replicate,if_pos lt]at e2;cases e2
    .have e1:(M++N')[i]?=some y:=e1;have e2:(List.replicate M.length none++σ)[i]?=some (some v):=e2;rw[Zi (Nat.not_lt.mp lt)]at e1;rw[Zi (by rw[Zm];exact Nat.not_lt.mp lt),Zm]at e2;generalize i-M.length=j at e1 e2;obtain⟨e1,q1,q2⟩:=S.vis j y e1 e3;have kc:=S.free _ q1 rfl;obtain⟨m,hn,hl⟩:=I2.loc;obtain⟨u,r,l⟩:=hl j y v e1 e2 (.inr (.inl kc));refine⟨u,r,?_⟩;rcases l with⟨k,_⟩|⟨_,c,e,z⟩
     .rw[kc]at k;cases k
     .obtain⟨c',e'⟩:=cl2 y q1;have ee:=cl1 _ _ e';rw[e]at ee;cases ee;obtain⟨o,ho,hd⟩:=z;exact .inr ⟨.inl q2,c,e',o,up _ _ ho,hd⟩⟩
   cell:=λy c e=>by
    obtain⟨v,o,ho,hd⟩:=I2.cell y c (cl1 _ _ e);exact⟨v,o,up _ _ ho,hd⟩
   free:=by show upd H2 D (.lst []) C=none;rw[af DC.symm];exact fC
   freeC:=λy c e=>by
    have q:=I2.freeC y c (cl1 _ _ e);obtain⟨v,o,ho,hd⟩:=I2.cell y c (cl1 _ _ e);rw[af (λz=>by rw[z,gD]at ho;cases ho)];exact q
   pin:=λp hp=>absurd (show p∈([]:List (Addr×Obj)) from hp) (by simp)
   hok:=I2.hok.laid up (Zr hD) ⟨Qj _,[],0,.nil,oD⟩
   len:=by show(List.replicate M.length none++σ).length=(M++N').length;rw[Qa,Qa,Zm,I2.len,S.ln]}
 have stat:∀{H':Hp},(∀b∈fp,H' b=none)->∀b∈fp,Aj (cCx X M N' scope cl C s2 H2 fp) [] H' b:=λhn b hb=>
  ⟨hn b hb,(fpo b hb).1,(fpo b hb).2,.inl hb,λy c e=>(f2 b hb).2.2.2.2.1 y c (cl1 _ _ e),λp hp=>absurd (show p∈([]:List (Addr×Obj)) from hp) (by simp)⟩
 have st3:tn 0 h₁:=T.keep _ _ _ st2 λb hb o e=>up b o e;have loop:∀s3:Shared,s3={s2 with heap:=h₁,toks:=s2.toks+([]:List (Str×Value)).length}->
   codeAny (model X.prog X.w) X.A (.compLoop (.ListComp elt [⟨tg,iter,ifs,0⟩] scope pos) 0 (.ref it) (.ref D) (compEnvC scope cl C X.env)) (RR (.ref D) C) s3:=by
  rintro s3 rfl;refine codeAny_loop rfl (λn s'=>∃i τ ys H',Inv (cCx X M N' scope cl C s2 H2 fp) [] τ H' s'/\tn i s'.heap/\(∀b∈fp,H' b=none)/\H' D=some (.lst ys)/\W i n τ ys H') ?_ m0
   ⟨0,_,[],_,I3,st3,λb hb=>by rw[af (λz=>by obtain⟨o,e,_⟩:=T.obj _ _ st2 b hb;rw[z,gD]at e;cases e)];exact(f2 b hb).1,ae,w0⟩
  rintro n s' ⟨i,τ,ys,H',I',st',fr',hD',w'⟩;show wpAny _ X.A ((compTurn (.ListComp elt [⟨tg,iter,ifs,0⟩] scope pos) 0 (.ref it) (.ref D) (compEnvC scope cl C X.env)).onRaise (λx=>do noteFrame x (compEnvC scope cl C X.env);theTreesLotGoes x)) _ _ s';refine wpAny_noted ?_;rw[compTurn_list];refine wpAny_bind (wpAny_standAt (wpAny_bind ?_));rcases turn i n τ ys H' w' hD' with⟨stop,qn⟩|⟨go,step⟩
  .refine thn (T.done (cCx X M N' scope cl C s2 H2 fp) rfl rfl rfl hc i [] s' _ H' _ I' (stat fr') st' stop) λr s4 ⟨hr,I4⟩=>?_;subst hr;refine wpAny_pure ?_;obtain⟨m,hn,_⟩:=I4.loc;have IX:Inv X pins σ H' s4:=I2.call' (s':=s4) I4.os (show Un (frs X.stack) fp H2 H' s2.heap s4.heap from I4.base) I4.hok I4.bare λb hb=>⟨(f2 b hb).2.2.2.1,(f2 b hb).2.1,(f2 b hb).2.2.2.2.1,(f2 b hb).2.2.2.2.2⟩;refine hR D C s4 H' IX ⟨m,hn⟩ ⟨I4.free,λz=>?_,?_,λy c e z=>?_,λp hp z=>?_⟩ qn
   .have:=I2.lt;rw[<-z,hCs,hD]at this;exact absurd this (Nat.not_lt.mpr (Zy _))
   .refine QD I2.sz ?_;rw[hD,hCs];exact Zy _
   .obtain⟨v,o,ho,_⟩:=I2.cell y c e;rw[z,gC]at ho;cases ho
   .have ho:=(I2.pin p hp).1;rw[z,gC]at ho;cases ho
  .refine thn (T.item (cCx X M N' scope cl C s2 H2 fp) rfl rfl rfl hc i [] s' _ H' _ I' (stat fr') st' go) λr s4 ⟨u,hr,h4⟩=>?_;subst hr;refine wpAny_bind (thn h4 λ_ s5 hzz=>?_);obtain⟨y,H5,I5,r5,y5,st5,fr5⟩:=hzz;have I5':=I5.pinned (stat fr5) (T.obj _ _ st5);obtain⟨G,hG,gq⟩:=step y H5 y5;refine wpAny_bind (wpAny_mono (hg cl C s2 H2 fp _ s5 _ H5 y _ _ I5' r5 gq) (λ_ s6 hzz=>?_) λ_ _ f=>f.elim);obtain⟨τ6,H6,I6,q6⟩:=hzz;have fin:∀{τ7:St} {H7:Hp} {s7:Shared},Inv (cCx X M N' scope cl C s2 H2 fp) ([]++uA fp s5.heap) τ7 H7 s7->tn (i+1) s7.heap/\∀b∈fp,H7 b=none:=λ{τ7 H7 s7} I7=>by
    refine⟨T.keep _ _ _ st5 λb hb o e=>(I7.pin (b,o) (Qv _ (Qv _ (kx hb e)))).1,λb hb=>?_⟩;obtain⟨o,e,d⟩:=T.obj _ _ st5 b hb;exact(I7.pin (b,o) (Qv _ (Qv _ (kx hb e)))).2.1
   obtain⟨Ny,Ns,hy,hn,q6⟩:=hG _ _ q6;refine wpAny_bind (wpAny_mono (hcn cl C s2 H2 fp _ s6 _ H6 _ I6 q6) (λb s7 ⟨H7,I7,q7⟩=>?_) λ_ _ f=>f.elim);cases b with
   |false=>
    rw[if_neg Qi]at q7;obtain⟨hD7,m',hm',w7⟩:=hn _ q7;exact wpAny_pure (show _/\_ from⟨rfl,m',hm',i+1,τ6,ys,_,I7.unpinned,(fin I7).1,(fin I7).2,hD7,w7⟩)
   |true=>
    rw[if_pos rfl]at q7;refine wpAny_bind (wpAny_bind (wpAny_mono (he cl C s2 H2 fp _ s7 _ H7 _ I7 q7) (λz s8 hzz=>?_) λ_ _ f=>f.elim));obtain⟨y',H8,I8,r8,q8⟩:=hzz;obtain⟨hD8,hl8,m',hm',w8⟩:=hy _ _ q8;refine wpAny_bind (wpAny_mono (dX (X:=cCx X M N' scope cl C s2 H2 fp) _ s8 _ H8 (.ref D) [y'] (.ref D) [z] (λ_ H9=>H9=upd H8 D (.lst (ys++ [y']))) I8 rfl (.cons r8 .nil) ⟨D,ys,y',rfl,rfl,hD8,hl8,rfl⟩) (λz9 s9 hzz=>?_) λ_ _ f=>f.elim);obtain⟨_,H9,I9,_,e9⟩:=hzz;subst e9;exact wpAny_pure (wpAny_pure ⟨rfl,m',hm',i+1,τ6,ys++ [y'],_,I9.unpinned,(fin I9).1,(fin I9).2,ae,w8⟩)
 exact codeAny_compStart_list (loop _ rfl) (T.self _ 0 _ _ _ st3 (loop _ rfl))
theorem Inv.loose {h':Heap} (I:Inv X pins σ H s) (l:IF X pins H C) (sb:Heap.SameBut C s.heap h'):Inv X pins σ H {s with heap:=h'}:=
 I.turned (t':=s.toks) (λb o hb e=>(sb.2 b hb).trans e) l.no l.fr (.inr l.ab) l.ce l.pi
section
variable {py spos:Pos}
theorem zy (hB:∀σ Q J H,B σ Q J H->Af M.length g tc te σ Q J H) (hc:X.calm=true) (S:CScope X M N' scope) (hi:PI X tg iter wi) (hg:CScope X M N' scope->∀cl C s₂ H₂ fp,PG (cCx X M N' scope cl C s₂ H₂ fp) tg g) (hcn:∀cl C s₂ H₂ fp,PTs (cCx X M N' scope cl C s₂ H₂ fp) ifs tc) (he:∀cl C s₂ H₂ fp,PE (cCx X M N' scope cl C s₂ H₂ fp) elt te)
  (hs:∀x,foldedSetIterable iter X.env x=pure x:=by intro _;rfl):PE X (.ListComp elt [⟨tg,iter,ifs,0⟩] scope pos) (λσ H Q=>wi σ H (B σ Q)):=by
 intro pins s σ H Q I h;obtain⟨cl,hclos,cl1,cl2⟩:=ve (env:=X.env) (scope:=scope) λp hp hf=>I.ok.has p.1 (.inl (S.free p hp hf));rw[eval_ListComp];refine wpAny_comprehension_free (use:=none) rfl hs hclos S.kind S.names (xA hc S hi (hg S) hcn he cl1 cl2 I h (hB _ _) λD C s4 H' I4 hn l q=>?_);obtain⟨m,hn⟩:=hn;exact⟨m,hn,λh' sb=>⟨.ref D,H',I4.loose l sb,rfl,q⟩⟩
theorem EA (hB:∀σ Q J H,B σ Q J H->Af M.length g tc te σ Q J H) (hc:X.calm=true) (S:CScope X M N' scope) (hi:PI X tg iter wi) (hg:CScope X M N' scope->∀cl C s₂ H₂ fp,PG (cCx X M N' scope cl C s₂ H₂ fp) tg g) (hcn:∀cl C s₂ H₂ fp,PTs (cCx X M N' scope cl C s₂ H₂ fp) ifs tc) (he:∀cl C s₂ H₂ fp,PE (cCx X M N' scope cl C s₂ H₂ fp) elt te)
  (hN:X.N.Nodup) (hy:X.N[i]?=some y) (hk:X.env.scope.names.lookup y=some .local) (hsw:swapsWith (.ListComp elt [⟨tg,iter,ifs,0⟩] scope pos) (some (.Name y py)) spos.line X.env=pure true:=by rfl)
  (hs:∀x,foldedSetIterable iter X.env x=pure x:=by intro _;rfl):PS X (.Assign [.Name y py] (.ListComp elt [⟨tg,iter,ifs,0⟩] scope pos) spos) (GM (λσ H Q=>wi σ H (B σ Q)) (mB i)):=by
 intro pins s σ H D I h;obtain⟨cl,hclos,cl1,cl2⟩:=ve (env:=X.env) (scope:=scope) λp hp hf=>I.ok.has p.1 (.inl (S.free p hp hf));rw[exec_Assign_Name_used _ _ _ _ hsw];refine wpAny_bind (wpAny_standAt (wpAny_bind ?_));show wpAny _ X.A (do let _<-comprehension (.ListComp elt [⟨tg,iter,ifs,0⟩] scope pos) scope X.env _ (newList []) false (eval iter X.env) (some (assign (.Name y py) X.env))) _ _ s;refine wpAny_bind (thn (wpAny_comprehension_free (use:=some (assign (.Name y py) X.env)) (Q:=λ_ s'=>SP X pins D .next s') rfl hs hclos S.kind S.names
  (xA (Q:=λv H'=>D.nx (σ.set i (some v)) H') hc S hi (hg S) hcn he cl1 cl2 I h (hB _ _) λD' C s4 H' I4 hn l q=>?_)) λ_ s' hq=>wpAny_pure (wpAny_pure hq))
 obtain⟨m,hn⟩:=hn;show wpAny _ X.A (assign (.Name y py) X.env (.ref D')) _ _ _;refine wpAny_assign_Name (wV (v:= .ref D') I4 hN hy (.inl hk) rfl (λs5 I5 hzz=>?_) (.inr hk));obtain⟨a,sb,ha⟩:=hzz;have ne:C≠a:=by
  rcases ha with z|z
  .rw[z];exact l.fr
  .exact Ne.symm (l.ce _ _ z)
 exact⟨m,hn.sameBut sb ne,λh' sb'=>⟨_,H',I5.loose l sb',q⟩⟩
end
def Bz (te:TE) (σ:St) (Q:VK) (J:It) (H1:Hp):Prop:=∀D,H1 D=none->∃W:Nat->Nat->List V->Hp->Prop,(∃m,W 0 m [] (upd H1 D (.lst [])))/\∀i m ys H2,W i m ys H2->H2 D=some (.lst ys)->
 (J.stop i H2/\Q (.ref D) H2)\/(J.go i H2/\∀x H3,J.yld i H2 x H3->te (some x::σ) H3 λy H4=>H4 D=some (.lst ys)/\ys.length<sizeLine/\∃m',m'<m/\W (i+1) m' (ys++ [y]) (upd H4 D (.lst (ys++ [y]))))
def Kg (wi:TI) (te:TE):TE:=λσ H Q=>wi σ H (Bz te σ Q)
theorem KL (h:Bz te σ Q J H1):Af 1 (mB 0) HW te σ Q J H1:=λD hD=>by
 obtain⟨W,⟨m0,w0⟩,turn⟩:=h D hD;refine⟨λi m τ ys H=>(∃v,τ=v::σ)/\W i m ys H,⟨m0,⟨none,rfl⟩,w0⟩,λi m τ ys H2 w e=>?_⟩;obtain⟨⟨v,rfl⟩,w⟩:=w;rcases turn i m ys H2 w e with z|⟨go,z⟩
 .exact .inl z
 .refine .inr ⟨go,λx H3 y=>⟨λτ2 H4=>τ2=some x::σ/\H4=H3,λτ2 H4 e=>?_,rfl,rfl⟩⟩;obtain⟨rfl,rfl⟩:=e;refine⟨λy H6=>H6 D=some (.lst ys)/\ys.length<sizeLine/\∃m',m'<m/\W (i+1) m' (ys++ [y]) (upd H6 D (.lst (ys++ [y]))),λ_=>False,λy H6 n=>?_,λ_ n=>n.elim,?_⟩
  .obtain⟨n1,n2,m',n3,n4⟩:=n;exact⟨n1,n2,m',n3,⟨_,rfl⟩,n4⟩
  .exact c6 (B:=False) (z x _ y)
theorem iT (hc:X.calm=true) (S:CScope X [x] N' scope) (hi:PI X (.Name x px) iter wi) (he:∀cl C s₂ H₂ fp,PE (cCx X [x] N' scope cl C s₂ H₂ fp) elt te)
  (hs:∀x,foldedSetIterable iter X.env x=pure x:=by intro _;rfl):PE X (.ListComp elt [⟨.Name x px,iter,[],0⟩] scope pos) (Kg wi te):=
 zy (B:=Bz te) (λ_ _ _ _=>KL) hc S hi (λS _ _ _ _ _=>S.pg rfl) (λ_ _ _ _ _=>G1) he hs
end
def zt (scope dsc:Scope):List (Str×NameKind):=scope.names.map λp=>if(p.2==NameKind.free&&dsc.kind==ScopeKind.function&&dsc.names.lookup p.1==some NameKind.cell)=true then(p.1,NameKind.cell)else(p.1,p.2)
def Iw (M N N':List Str) (dsc:Scope) (scope:Scope):Bool:=
 (scope.kind==ScopeKind.function)&&decide (M++N').Nodup&&(M.all λx=>scope.names.lookup x==some NameKind.local)&&(scope.names.all λy=>y.2 !=NameKind.cell)&&(scope.names.all λy=>y.2 !=NameKind.local||scope.names.lookup y.1==some NameKind.local)
 &&(scope.names.all λy=>y.2 !=NameKind.free||dsc.names.lookup y.1==some NameKind.cell)&&(N'.all λy=>(zt scope dsc).lookup y !=some NameKind.local&&(zt scope dsc).lookup y !=some NameKind.free)&&decide (N'.length=N.length)&&(N'.zip N).all λp=>p.1==p.2||(zt scope dsc).lookup p.1==none
theorem pR {dsc:Scope}:∀{l:List (Str×NameKind)} {y:Str} {k:NameKind},(∀p∈l,p.2≠NameKind.cell)->(l.map λp=>if(p.2==NameKind.free&&dsc.kind==ScopeKind.function&&dsc.names.lookup p.1==some NameKind.cell)=true then(p.1,NameKind.cell)else(p.1,p.2)).lookup y=some k->(k= .cell\/k= .free)->(y,NameKind.free)∈l
 | [],y,k,_,h,_=>by simp at h
 |(n,kk)::r,y,k,hn,h,hk=>by
  rw[Qs]at h;by_cases c:(kk==NameKind.free&&dsc.kind==ScopeKind.function&&dsc.names.lookup n==some NameKind.cell)=true
  .dsimp only at h;rw[if_pos c,ZE]at h;split at h
   .rename_i z
    rw[beq_iff_eq]at z;subst z;have:kk= .free:=by
     rw[QK,QK]at c;simpa using c.1.1
    rw[this];exact Q9
   .exact Qd _ (pR (λp hp=>hn p (Qd _ hp)) h hk)
  .dsimp only at h;rw[if_neg c,ZE]at h;split at h
   .rename_i z
    rw[beq_iff_eq]at z;subst z;cases h;rcases hk with e|e
    .exact absurd e (hn _ Q9)
    .rw[e];exact Q9
   .exact Qd _ (pR (λp hp=>hn p (Qd _ hp)) h hk)
theorem CScope.of {dsc:Scope} {N:List Str} (eN:X.N=N) (ed:X.env.scope=dsc) (h:Iw M N N' dsc scope=true):CScope X M N' scope:=by
 unfold Iw at h;simp only[QK]at h;obtain⟨⟨⟨⟨⟨⟨⟨⟨h1,h2⟩,h3⟩,h4⟩,h5⟩,h6⟩,h7⟩,h8⟩,h9⟩:=h;have hrel:(relabel scope X.env).names=zt scope dsc:=by rw[<-ed];rfl
 have nocell:∀y∈scope.names,y.2≠NameKind.cell:=λy hy=>by have:=QS.mp h4 y hy;simpa using this
 refine⟨by simpa using h1,of_decide_eq_true h2,by rw[eN];exact of_decide_eq_true h8,λx hx=>by simpa using QS.mp h3 x hx,nocell,λy hy e=>?_,λy hy e=>?_,λj y hj v=>?_,λy e=>?_⟩
 .have:=QS.mp h5 y hy;rw[e]at this;simpa using this
 .have:=QS.mp h6 y hy;rw[e]at this;show X.env.scope.names.lookup y.1=_;rw[ed];simpa using this
 .have nl:=QS.mp h7 y (Q1 hj);have hz:∃z,N[j]?=some z/\(y,z)∈N'.zip N:=by
   have lj:=(Q2.mp hj).1;have l8:N'.length=N.length:=of_decide_eq_true h8;refine⟨N[j]'(by lia),Q3 _,?_⟩;refine Q1 (i:=j) ?_;rw[List.getElem?_zip_eq_some];exact⟨hj,Q3 _⟩
  obtain⟨z,hz,mz⟩:=hz;have e9:=QS.mp h9 _ mz;unfold Vis at v;rw[hrel]at v⊢;have nl:¬(zt scope dsc).lookup y=some NameKind.local/\¬(zt scope dsc).lookup y=some NameKind.free:=by simpa using nl
  rcases v with v|v|v
  .exact absurd v nl.1
  .refine⟨?_,pR nocell v (.inl rfl),v⟩;rw[eN,hz];dsimp only at e9;rw[v,Bool.or_eq_true]at e9;rcases e9 with e9|e9
   .rw[beq_iff_eq]at e9;rw[e9]
   .cases e9
  .exact absurd v nl.2
 .have e:(zt scope dsc).lookup y=some .cell\/(zt scope dsc).lookup y=some .free:=by rw[<-hrel];exact e
  rcases e with e|e
  .exact pR nocell e (.inl rfl)
  .exact pR nocell e (.inr rfl)
def CNext (n i:Nat) (ys:List V) (D:Addr) (Pv:Nat->List V->Hp->Prop):VK:=λy H4=>H4 D=some (.lst ys)/\ys.length<sizeLine/\∃m',m'<n-i/\m'=n-(i+1)/\i+1<=n/\Pv (i+1) (ys++ [y]) (upd H4 D (.lst (ys++ [y])))
theorem CNext.mk {Pv:Nat->List V->Hp->Prop} {y:V} (hi:i<n) (h1:H4 D=some (.lst ys)) (h2:ys.length<sizeLine) (h3:Pv (i+1) (ys++ [y]) (upd H4 D (.lst (ys++ [y])))):CNext n i ys D Pv y H4:=
 ⟨h1,h2,n-(i+1),by lia,rfl,hi,h3⟩
theorem jP {a:Addr} (Pv:Nat->List V->Hp->Prop) (h0:Pv 0 [] (upd H1 D (.lst []))) (hl:∀i ys H,i<=xs.length->Pv i ys H->SqL K H a xs)
  (hs:∀i x ys H2,xs[i]?=some x->Pv i ys H2->H2 D=some (.lst ys)->te (some x::σ) H2 (CNext xs.length i ys D Pv))
  (hd:∀ys H2,Pv xs.length ys H2->H2 D=some (.lst ys)->Fin H2):
  ∃W:Nat->Nat->List V->Hp->Prop,(∃m,W 0 m [] (upd H1 D (.lst [])))/\∀i m ys H2,W i m ys H2->H2 D=some (.lst ys)->
   ((Itl K a).stop i H2/\Fin H2)\/((Itl K a).go i H2/\∀x H3,(Itl K a).yld i H2 x H3->te (some x::σ) H3 λy H4=>H4 D=some (.lst ys)/\ys.length<sizeLine/\∃m',m'<m/\W (i+1) m' (ys++ [y]) (upd H4 D (.lst (ys++ [y])))):=by
 refine⟨λi m ys H=>m=xs.length-i/\i<=xs.length/\Pv i ys H,⟨xs.length,by simp,Qj _,h0⟩,?_⟩;rintro i m ys H ⟨rfl,hi,p⟩ hD;have q:=hl i ys H hi p;by_cases lt:i<xs.length
 .refine .inr ⟨⟨xs,xs[i],q,by simp[lt]⟩,λx H' y=>?_⟩;obtain⟨e,y⟩:=y;subst e;exact hs i x ys _ (y xs q) p hD
 .have e:i=xs.length:=by lia
  subst e;exact .inl ⟨⟨xs,q,Q4 _⟩,hd ys H p hD⟩
theorem pB {lo:Int} (Pv:Nat->List V->Hp->Prop) (h0:Pv 0 [] (upd H1 D (.lst [])))
  (hs:∀i ys H2,i<n->Pv i ys H2->H2 D=some (.lst ys)->te (some (.int (lo+i))::σ) H2 (CNext n i ys D Pv))
  (hd:∀ys H2,Pv n ys H2->H2 D=some (.lst ys)->Fin H2):
  ∃W:Nat->Nat->List V->Hp->Prop,(∃m,W 0 m [] (upd H1 D (.lst [])))/\∀i m ys H2,W i m ys H2->H2 D=some (.lst ys)->
   ((Itr lo n).stop i H2/\Fin H2)\/((Itr lo n).go i H2/\∀x H3,(Itr lo n).yld i H2 x H3->te (some x::σ) H3 λy H4=>H4 D=some (.lst ys)/\ys.length<sizeLine/\∃m',m'<m/\W (i+1) m' (ys++ [y]) (upd H4 D (.lst (ys++ [y])))):=by
 refine⟨λi m ys H=>m=n-i/\i<=n/\Pv i ys H,⟨n,by simp,Qj _,h0⟩,?_⟩;rintro i m ys H ⟨rfl,hi,p⟩ hD;by_cases lt:i<n
 .refine .inr ⟨lt,λx H' y=>?_⟩;obtain⟨e,y⟩:=y;subst e y;exact hs i ys _ lt p hD
 .have e:i=n:=by lia
  subst e;exact .inl ⟨Q4 _,hd ys H p hD⟩
end
section
def yJ (tc:TT) (te:TE) (σ:St) (Q:VK) (J:It) (H1:Hp):Prop:=∀D,H1 D=none->∃W:Nat->Nat->List V->Hp->Prop,(∃m,W 0 m [] (upd H1 D (.lst [])))/\∀i m ys H2,W i m ys H2->H2 D=some (.lst ys)->
 (J.stop i H2/\Q (.ref D) H2)\/(J.go i H2/\∀x H3,J.yld i H2 x H3->tc (some x::σ) H3 λb H4=>if b=true then te (some x::σ) H4 λy H5=>H5 D=some (.lst ys)/\ys.length<sizeLine/\∃m',m'<m/\W (i+1) m' (ys++ [y]) (upd H5 D (.lst (ys++ [y])))else H4 D=some (.lst ys)/\∃m',m'<m/\W (i+1) m' ys H4)
def El (wi:TI) (tc:TT) (te:TE):TE:=λσ H Q=>wi σ H (yJ tc te σ Q)
theorem Ix (h:yJ tc te σ Q J H1):Af 1 (mB 0) tc te σ Q J H1:=λD hD=>by
 obtain⟨W,⟨m0,w0⟩,turn⟩:=h D hD;refine⟨λi m τ ys H=>(∃v,τ=v::σ)/\W i m ys H,⟨m0,⟨none,rfl⟩,w0⟩,λi m τ ys H2 w e=>?_⟩;obtain⟨⟨v,rfl⟩,w⟩:=w;rcases turn i m ys H2 w e with z|⟨go,z⟩
 .exact .inl z
 .refine .inr ⟨go,λx H3 y=>⟨λτ2 H4=>τ2=some x::σ/\H4=H3,λτ2 H4 e=>?_,rfl,rfl⟩⟩;obtain⟨rfl,rfl⟩:=e;refine⟨_,_,λy H6 n=>?_,λH5 n=>?_,z x _ y⟩
  .obtain⟨n1,n2,m',n3,n4⟩:=n;exact⟨n1,n2,m',n3,⟨_,rfl⟩,n4⟩
  .obtain⟨n1,m',n3,n4⟩:=n;exact⟨n1,m',n3,⟨_,rfl⟩,n4⟩
section
theorem pW {cnd:Expr} (hc:X.calm=true) (S:CScope X [x] N' scope) (hi:PI X (.Name x px) iter wi) (hcn:∀cl C s₂ H₂ fp,PT (cCx X [x] N' scope cl C s₂ H₂ fp) cnd tc) (he:∀cl C s₂ H₂ fp,PE (cCx X [x] N' scope cl C s₂ H₂ fp) elt te)
  (hs:∀x,foldedSetIterable iter X.env x=pure x:=by intro _;rfl):PE X (.ListComp elt [⟨.Name x px,iter,[cnd],0⟩] scope pos) (El wi tc te):=
 zy (B:=yJ tc te) (λ_ _ _ _=>Ix) hc S hi (λS _ _ _ _ _=>S.pg rfl) (λ_ _ _ _ _=>BS (hcn _ _ _ _ _)) he hs
theorem EB {cnd:Expr} {py spos:Pos} (hc:X.calm=true) (S:CScope X [x] N' scope) (hi:PI X (.Name x px) iter wi) (hcn:∀cl C s₂ H₂ fp,PT (cCx X [x] N' scope cl C s₂ H₂ fp) cnd tc) (he:∀cl C s₂ H₂ fp,PE (cCx X [x] N' scope cl C s₂ H₂ fp) elt te)
  (hN:X.N.Nodup) (hy:X.N[i]?=some y) (hk:X.env.scope.names.lookup y=some .local) (hsw:swapsWith (.ListComp elt [⟨.Name x px,iter,[cnd],0⟩] scope pos) (some (.Name y py)) spos.line X.env=pure true:=by rfl)
  (hs:∀x,foldedSetIterable iter X.env x=pure x:=by intro _;rfl):PS X (.Assign [.Name y py] (.ListComp elt [⟨.Name x px,iter,[cnd],0⟩] scope pos) spos) (GM (El wi tc te) (mB i)):=
 EA (B:=yJ tc te) (λ_ _ _ _=>Ix) hc S hi (λS _ _ _ _ _=>S.pg rfl) (λ_ _ _ _ _=>BS (hcn _ _ _ _ _)) he hN hy hk hsw hs
end
def CSkip (n i:Nat) (ys:List V) (D:Addr) (Pv:Nat->List V->Hp->Prop) (H4:Hp):Prop:=H4 D=some (.lst ys)/\∃m',m'<n-i/\m'=n-(i+1)/\i+1<=n/\Pv (i+1) ys H4
theorem CSkip.mk {Pv:Nat->List V->Hp->Prop} (hi:i<n) (h1:H4 D=some (.lst ys)) (h3:Pv (i+1) ys H4):CSkip n i ys D Pv H4:=⟨h1,n-(i+1),by lia,rfl,hi,h3⟩
theorem kP {a:Addr} (Pv:Nat->List V->Hp->Prop) (h0:Pv 0 [] (upd H1 D (.lst []))) (hl:∀i ys H,i<=xs.length->Pv i ys H->SqL K H a xs)
  (hs:∀i x ys H2,xs[i]?=some x->Pv i ys H2->H2 D=some (.lst ys)->tc (some x::σ) H2 λb H4=>if b=true then te (some x::σ) H4 (CNext xs.length i ys D Pv)else CSkip xs.length i ys D Pv H4)
  (hd:∀ys H2,Pv xs.length ys H2->H2 D=some (.lst ys)->Fin H2):
  ∃W:Nat->Nat->List V->Hp->Prop,(∃m,W 0 m [] (upd H1 D (.lst [])))/\∀i m ys H2,W i m ys H2->H2 D=some (.lst ys)->
   ((Itl K a).stop i H2/\Fin H2)\/((Itl K a).go i H2/\∀x H3,(Itl K a).yld i H2 x H3->tc (some x::σ) H3 λb H4=>if b=true then te (some x::σ) H4 λy H5=>H5 D=some (.lst ys)/\ys.length<sizeLine/\∃m',m'<m/\W (i+1) m' (ys++ [y]) (upd H5 D (.lst (ys++ [y])))else H4 D=some (.lst ys)/\∃m',m'<m/\W (i+1) m' ys H4):=by
 refine⟨λi m ys H=>m=xs.length-i/\i<=xs.length/\Pv i ys H,⟨xs.length,by simp,Qj _,h0⟩,?_⟩;rintro i m ys H ⟨rfl,hi,p⟩ hD;have q:=hl i ys H hi p;by_cases lt:i<xs.length
 .refine .inr ⟨⟨xs,xs[i],q,by simp[lt]⟩,λx H' y=>?_⟩;obtain⟨e,y⟩:=y;subst e;exact hs i x ys _ (y xs q) p hD
 .have e:i=xs.length:=by lia
  subst e;exact .inl ⟨⟨xs,q,Q4 _⟩,hd ys H p hD⟩
end
section
end
section
def vwO (a d:Addr):HO:= .ext λh=>h.IsItemsView a d
def Itd (ob:Obj) (d:Addr) (kvs:List (Key×V)):It:=
 ⟨λi H=>H d=some (.frz ob (.dK kvs))/\i<kvs.length,λi H x H'=>∃p k v,x= .ref p/\H p=none/\kvs[i]?=some (k,v)/\H'=upd H p (.tup [kV k,v]),λi H=>H d=some (.frz ob (.dK kvs))/\kvs.length<=i⟩
def DObj (P:Program) (w:World) (ob:Obj) (d:Addr) (kvs:List (Key×V)) (vs:List (Key×Value)) (ep:Nat):Prop:=
 KV kvs vs/\∀h:Heap,h.get? d=some ob->h.DictAt (a7 P w) d vs ep
theorem KV.getI (h:KV kvs vs):∀{i:Nat} {k:Key} {v:V},kvs[i]?=some (k,v)->∃u,vs[i]?=some (k,u)/\RelV v u:=by
 induction h with
 |nil=>intro i k v e;simp at e
 |cons r t ih=>
  rename_i p q ps qs
  intro i k v e;cases i with
  |zero=>
   simp at e;subst e;exact⟨q.2,by simp[show k=q.1 from r.1],r.2⟩
  |succ j=>
   obtain⟨u,h1,h2⟩:=ih (i:=j) (by simpa using e);exact⟨u,by simpa using h1,h2⟩
theorem AI {x1} {ep:Nat} (it:Addr) (D:DObj P w ob d kvs vs ep):
  BF P w K (.Tuple elts x1 pos) (Itd ob d kvs) [it] it (λi h=>∃ok ov,IsItemIter h it d i vs.length ep ok ov) where
 mem:=by simp
 obj:=λi h st b hb=>by
  obtain⟨ok,ov,st⟩:=st;have z:b=it:=by simpa using hb
  subst z;exact⟨_,st,λv z=>by cases z⟩
 keep:=λi h h' st k=>by
  obtain⟨ok,ov,st⟩:=st;exact⟨ok,ov,k it (by simp) _ st⟩
 item:=by
  intro X hP hw hK hc i pins s σ H E I hf st hg;subst hP hw hK;obtain⟨ok,ov,st⟩:=st;obtain⟨hq,hi⟩:=hg;have fi:=hf it (by simp);obtain⟨hob,_⟩:=I.hok d _ hq;have hat:=D.2 s.heap hob;obtain⟨⟨k,v⟩,hx⟩:∃kv,kvs[i]?=some kv:=⟨kvs[i],by simp[hi]⟩;obtain⟨u,hu,ru⟩:=KV.getI D.1 hx;refine wpAny_pyNext_items_item st hat hu λkey h' hkey g1 g3 gz g5=>⟨_,rfl,?_⟩;refine wpAny_letOwnedTupleGo_items g1 λh2 k1 k2=>?_;have rk:RelV (kV k) key:=Ca hkey;have np:H s.heap.objs.size=none:=I.hok.fresh (Q4 _);have nit:s.heap.objs.size≠it:=XA (Heap.lt_size st);have keep:∀b o,b≠it->s.heap.get? b=some o->h2.get? b=some o:=λb o z q=>(k2.2 b z).trans (g5 b o z q);have tupAt:h2.get? s.heap.objs.size=some {cls:= .type "tuple",data:= .seq #[key,u]}:=(k2.2 _ nit).trans g3;have trk:∀b v,H b=some v->b≠it:=λb v q z=>by rw[z,fi.1]at q;cases q
  have un:Un (frs X.stack) [it] H (upd H s.heap.objs.size (.tup [kV k,v])) s.heap h2:=by
   refine⟨λb o q n hb hx=>keep b o (λz=>hx (by simp[z])) q,λb o q n hb hx=>⟨o.slots,keep b o (λz=>hx (by simp[z])) q⟩,λb o q n hx=>?_,
    λb o q hx=>⟨o,keep b o (λz=>hx (by simp[z])) q⟩,λb ys q=>?_,λb o v q=>?_,λb ps q=>⟨#[],?_⟩⟩
   .rw[af (QC (Heap.lt_size q))];exact n
   .rw[af (al q np)];exact q
   .rw[af (al q np)];exact q
   .rw[af (al q np),q];simp
  have hok:HOk X.prog X.w (upd H s.heap.objs.size (.tup [kV k,v])) h2:=λb v' q=>by
   by_cases z:b=s.heap.objs.size
   .subst z;rw[ae]at q;cases q;exact⟨by show 2<=sizeLine;decide,[key,u],.cons rk (.cons ru .nil),_,tupAt,rfl,_,rfl⟩
   .rw[af z]at q;refine(I.hok b v' q).stay (λc o hc r=>?_) (λc r=>by rw[af (al r np)];exact r) λc ys r=>by rw[af (al r np)];exact r
    rcases hc with rfl|hc
    .exact keep _ _ (trk _ _ q) r
    .exact keep _ _ (trk _ _ hc) r
  have I2:Inv X pins σ (upd H s.heap.objs.size (.tup [kV k,v])) {s with heap:=h2}:=I.call' (s':={s with heap:=h2}) rfl un hok I.bare λb hb=>by
   have z:Aj X pins H b:=hf b hb;exact⟨z.2.2.2.1,z.2.1,z.2.2.2.2.1,z.2.2.2.2.2⟩
  refine⟨.ref s.heap.objs.size,_,I2,rfl,⟨_,k,v,rfl,np,hx,rfl⟩,⟨key,u,k1⟩,λb hb=>?_⟩;have z:b=it:=by simpa using hb
  subst z;rw[af (Ne.symm nit)];exact fi.1
 done:=by
  intro X hP hw hK hc i pins s σ H E I hf st hg;subst hP hw hK;obtain⟨ok,ov,st⟩:=st;obtain⟨hq,hi⟩:=hg;obtain⟨hob,_⟩:=I.hok d _ hq;have hat:=D.2 s.heap hob;obtain⟨f0,f1,f2,f3,f4,f5⟩:=hf it (by simp);have hl:kvs.length=vs.length:=D.1.length;exact wpAny_pyNext_items_end (I.ok.hd hc) st hat (by simp;lia) λh' eb=>⟨rfl,I.turned (t':=s.toks) (λb o hb e=>eb b o hb e) f0 f1 f3 f4 f5⟩
 self:=λ_ _ _ _ _ st h=>let⟨_,_,st⟩:=st;PySem.W.kcp_self st h
section
def IW:V->List V->Hp->VK->Prop:=λx vs H Q=>∃d kvs,x= .ref d/\vs=[]/\H d=some (.dK kvs)/\∀a,H a=none->Q (.ref a) (upd H a (vwO a d))
theorem zG:MtR X "dict.items" IW:=by
 intro pins s σ H x vs v us Q I rx rv h;obtain⟨d,kvs,rfl,rfl,hd,q⟩:=h;cases rx;cases rv;obtain⟨z,lo,ws,rel,dd⟩:=jN I.hok hd;refine call_meetsIn Xc dd.typeIs PySem.F.entry_dict_items (PySem.F.args_dict_items_1 _) (meets_dict_items (a7 X.prog X.w) d lo) ⟨⟨ws,dd⟩,?_⟩;have new:(s.heap.push {cls:= .type "dict_items",data:= .fields #[.ref d]}).get? s.heap.objs.size=some {cls:= .type "dict_items",data:= .fields #[.ref d]}:=Heap.get?_push_size _ rfl;refine⟨.ref s.heap.objs.size,_,I.laid (t':=s.toks) (λb o e=>Heap.get?_push_of_some _ e) (Q4 _) (show ObjOk X.prog X.w _ _ _ (vwO s.heap.objs.size d) from⟨⟨_,new,rfl,rfl⟩,⟨_,new⟩,λh1 h2 p k=>?_⟩),rfl,q _ (I.hok.fresh (Q4 _))⟩;obtain⟨o,e,c⟩:=p;exact⟨o,k o e,c⟩
theorem Inv.freeze (I:Inv X pins σ H s) (hd:H d=some (.dK kvs)) (ho:s.heap.get? d=some ob):Inv X pins σ (upd H d (.frz ob (.dK kvs))) s:=by
 have own:∀b y,H b=some (.own y)->upd H d (.frz ob (.dK kvs)) b=some (.own y):=λb y q=>by rw[af (λz=>by rw[z,hd]at q;cases q)];exact q
 have tup:∀b xs,H b=some (.tup xs)->upd H d (.frz ob (.dK kvs)) b=some (.tup xs):=λb xs q=>by rw[af (λz=>by rw[z,hd]at q;cases q)];exact q
 have non:∀b,H b=none->upd H d (.frz ob (.dK kvs)) b=none:=λb q=>by rw[af (λz=>by rw[z,hd]at q;cases q)];exact q
 refine⟨I.ok,I.os,I.bare,⟨I.base.keep,I.base.slot,λb o e n hx=>non b (I.base.free b o e n hx),I.base.there,λb xs e=>tup b xs (I.base.tups b xs e),λb o u e=>?_,λb ps e=>?_⟩,I.loc,I.cell,non _ I.free,λx c e=>non c (I.freeC x c e),λp hp=>?_,λb o e=>?_,I.len⟩
 .have:=I.base.frzs b o u e;rw[af (λz=>by rw[z,hd]at this;cases this)];exact this
 .obtain⟨m,q⟩:=I.base.tbls b ps e;exact⟨m,by rw[af (λz=>by rw[z,hd]at q;cases q)];exact q⟩
 .obtain⟨h1,h2,h3⟩:=I.pin p hp;exact⟨h1,non _ h2,h3⟩
 .by_cases z:b=d
  .subst z;rw[ae]at e;cases e;exact⟨ho,(I.hok b _ hd).stay (λ_ _ _ q=>q) (λc q=>own c b q) tup⟩
  .rw[af z]at e;exact(I.hok b o e).stay (λ_ _ _ q=>q) (λc q=>own c b q) tup
theorem Inv.thaw (I:Inv X pins σ H s) (hd:H d=some (.frz ob (.dK kvs))) (h0:∀o u,X.H₀ d≠some (.frz o u)):Inv X pins σ (upd H d (.dK kvs)) s:=by
 have own:∀b y,H b=some (.own y)->upd H d (.dK kvs) b=some (.own y):=λb y q=>by rw[af (λz=>by rw[z,hd]at q;cases q)];exact q
 have tup:∀b xs,H b=some (.tup xs)->upd H d (.dK kvs) b=some (.tup xs):=λb xs q=>by rw[af (λz=>by rw[z,hd]at q;cases q)];exact q
 have non:∀b,H b=none->upd H d (.dK kvs) b=none:=λb q=>by rw[af (λz=>by rw[z,hd]at q;cases q)];exact q
 refine⟨I.ok,I.os,I.bare,⟨I.base.keep,I.base.slot,λb o e n hx=>non b (I.base.free b o e n hx),I.base.there,λb xs e=>tup b xs (I.base.tups b xs e),λb o u e=>?_,λb ps e=>?_⟩,I.loc,I.cell,non _ I.free,λx c e=>non c (I.freeC x c e),λp hp=>?_,λb o e=>?_,I.len⟩
 .have:=I.base.frzs b o u e;rw[af (λz=>by rw[z]at e;exact h0 _ _ e)];exact this
 .obtain⟨m,q⟩:=I.base.tbls b ps e;exact⟨m,by rw[af (λz=>by rw[z,hd]at q;cases q)];exact q⟩
 .obtain⟨h1,h2,h3⟩:=I.pin p hp;exact⟨h1,non _ h2,h3⟩
 .by_cases z:b=d
  .subst z;rw[ae]at e;cases e;obtain⟨_,q⟩:=I.hok b _ hd;exact ObjOk.stay (show ObjOk X.prog X.w H s.heap b (.dK kvs) from q) (λ_ _ _ q=>q) (λc q=>own c b q) tup
  .rw[af z]at e;exact(I.hok b o e).stay (λ_ _ _ q=>q) (λc q=>own c b q) tup
theorem Inv.noFrz (I:Inv X pins σ H s) (hd:H d=some (.dK kvs)):∀o u,X.H₀ d≠some (.frz o u):=λo u e=>by
 have:=I.base.frzs d o u e;rw[hd]at this;cases this
def Jz (te:TE):TI:=λσ H R=>te σ H λx H1=>∃a d kvs,x= .ref a/\H1 a=some (vwO a d)/\H1 d=some (.dK kvs)/\∀ob,R (Itd ob d kvs) (upd H1 d (.frz ob (.dK kvs)))
theorem zw {l:Expr} {x1} (hl:PE X l te):PI X (.Tuple elts x1 pos) l (Jz te):=by
 intro pins s σ H R I h;refine thn (hl pins s σ H _ I h) λv s1 hzz=>?_;obtain⟨x,H1,I1,r1,q1⟩:=hzz;obtain⟨a,d,kvs,e,ha,hd,q⟩:=q1;subst e;cases r1;obtain⟨z,lo,vs,rel,dd⟩:=jN I1.hok hd;obtain⟨ep,hat⟩:=dd.dictAt;obtain⟨vw,_,_⟩:=(show ObjOk X.prog X.w H1 s1.heap a (vwO a d) from I1.hok a _ ha);obtain⟨ob,es,hob,rest⟩:=id hat;refine wpAny_pyIter_items vw hat ?_;have If:=I1.freeze hd hob;refine⟨s1.heap.objs.size,[s1.heap.objs.size],_,_,_,rfl,If.kept (t':=s1.toks) λb o e=>Heap.get?_push_of_some _ e,AI _ ⟨rel,λh e=>⟨ob,es,e,rest⟩⟩,⟨_,_,Heap.get?_push_size _ rfl⟩,λb hb=>?_,q ob⟩;have e:b=s1.heap.objs.size:=by simpa using hb
 subst e;exact If.fpOk (Q4 _) (If.hok.fresh (Q4 _))
def J9 (t:TS):TS:=λD σ H=>∃d kvs,H d=some (.dK kvs)/\t ⟨λσ' H'=>∃ob,H' d=some (.frz ob (.dK kvs))/\D.nx σ' (upd H' d (.dK kvs)),λv H'=>∃ob,H' d=some (.frz ob (.dK kvs))/\D.rt v (upd H' d (.dK kvs)),
 λσ' H'=>∃ob,H' d=some (.frz ob (.dK kvs))/\D.bk σ' (upd H' d (.dK kvs)),λσ' H'=>∃ob,H' d=some (.frz ob (.dK kvs))/\D.ct σ' (upd H' d (.dK kvs))⟩ σ H
theorem yh {st:Stmt} {t:TS} (h:PS X st t):PS X st (J9 t):=by
 intro pins s σ H D I ⟨d,kvs,hd,q⟩;have h0:=I.noFrz hd;refine thn (h pins s σ H _ I q) λf s1 q1=>?_;cases f with
 |next=>obtain⟨σ7,H7,I7,ob,e,q7⟩:=q1;exact⟨σ7,_,I7.thaw e h0,q7⟩
 |cont=>obtain⟨σ7,H7,I7,ob,e,q7⟩:=q1;exact⟨σ7,_,I7.thaw e h0,q7⟩
 |brk=>obtain⟨σ7,H7,I7,ob,e,q7⟩:=q1;exact⟨σ7,_,I7.thaw e h0,q7⟩
 |ret v=>obtain⟨x7,σ7,H7,I7,r7,ob,e,q7⟩:=q1;exact⟨x7,σ7,_,I7.thaw e h0,r7,q7⟩
end
theorem va {tb:TS} {rt:VK} (Pv:Nat->St->Hp->Prop) (h0:Pv 0 σ H) (hl:∀i σ H,i<=kvs.length->Pv i σ H->H d=some (.frz ob (.dK kvs)))
  (hs:∀i k v p σ H,kvs[i]?=some (k,v)->Pv i σ H->H p=none->g (.ref p) σ (upd H p (.tup [kV k,v])) λσ2 H2=>tb ⟨Pv (i+1),rt,nx,Pv (i+1)⟩ σ2 H2) (hd:∀σ H,Pv kvs.length σ H->nx σ H):
  ∃W:Nat->Nat->St->Hp->Prop,(∃m,W 0 m σ H)/\∀i m σ H,W i m σ H->
   ((Itd ob d kvs).stop i H/\nx σ H)\/((Itd ob d kvs).go i H/\∃N:St->Hp->Prop,(∀σ' H',N σ' H'->∃m',m'<m/\W (i+1) m' σ' H')/\∀x H',(Itd ob d kvs).yld i H x H'->g x σ H' λσ2 H2=>tb ⟨N,rt,nx,N⟩ σ2 H2):=by
 refine⟨λi m σ H=>m=kvs.length-i/\i<=kvs.length/\Pv i σ H,⟨kvs.length,by simp,Qj _,h0⟩,?_⟩;rintro i m σ H ⟨rfl,hi,p⟩;have q:=hl i σ H hi p;by_cases lt:i<kvs.length
 .refine .inr ⟨⟨q,lt⟩,Pv (i+1),λσ' H' z=>⟨kvs.length-(i+1),by lia,rfl,lt,z⟩,λx H' y=>?_⟩;obtain⟨pp,k,v,rfl,np,e,rfl⟩:=y;exact hs i k v pp σ H e p np
 .have e:i=kvs.length:=by lia
  subst e;exact .inl ⟨⟨q,Q4 _⟩,hd σ H p⟩
end
section
theorem FK:bootBuiltins "sum"=some (.builtin "sum"):=by decide+kernel
section
variable (K:PySem.W.Frag) (hK:X.K=K)
include hK
theorem wI:eZ X (.builtin "len") (λxs H Q=>∃p ys,xs=[.ref p]/\(SqL K H p ys\/SqT K H p ys)/\Q (.int ys.length) H):=by subst hK;exact aD
theorem Fe:IxR X (rIxL K):=by subst hK;exact aV
theorem tK:IxR X (rIxT K):=by subst hK;exact bU
end
section
theorem xB (hc:X.calm=true):eZ X (.builtin "min") (λxs H Q=>∃(p:Addr) (ns:List Int),xs=[.ref p]/\SqL X.K H p (ns.map V.int)/\0<ns.length/\∀M,M∈ns->(∀a∈ns,M<=a)->Q (.int M) H):=by
 intro pins s σ H xs us Q I r h;obtain⟨p,ns,rfl,hq,hne,q⟩:=h;obtain⟨u,rfl,ru⟩:=jG r;cases ru;obtain⟨its,rv,pl,hz⟩:=I.list hq;have hi:IntsAre its ns:=pf rv;obtain⟨xs,e⟩:=hi.allInts.items;have hns:ns=xs.toList.map (·.1):=by
  rw[<-hi.numsOf,<-nums_intItems,<-e]
 have hsz:0<xs.size:=by
  have h3:=hne;rw[hns,Q0,Q6]at h3;exact h3
 have hl:=pl.isList;rw[e]at hl;refine min_intList (I.ok.hd hc) hl hsz λv h' tk hv hk=>?_;obtain⟨t,rfl⟩:=intItems_at hv;obtain⟨h1,h2⟩:=argBest_lt (numAt xs) (xs.size-1);refine⟨.int _,H,I.kept (t':=tk) hk,⟨t,rfl⟩,q _ ?_ λa ha=>?_⟩
 .rw[hns,numAt_eq];exact getD_mem (by rw[Q0,Q6];lia)
 .rw[hns]at ha;obtain⟨j,hj,rfl⟩:=mem_getD ha;rw[Q0,Q6]at hj;rw[<-numAt_eq];exact h2 j (by lia)
theorem Dy (hc:X.calm=true):eZ X (.builtin "sum") (λxs H Q=>∃(p:Addr) (ns:List Int),xs=[.ref p]/\SqL X.K H p (ns.map V.int)/\Q (.int ns.sum) H):=by
 intro pins s σ H xs us Q I r h;obtain⟨p,ns,rfl,hq,q⟩:=h;obtain⟨u,rfl,ru⟩:=jG r;cases ru;obtain⟨its,rv,pl,hz⟩:=I.list hq;have hi:IntsAre its ns:=pf rv;obtain⟨xs,hx⟩:=hi.allInts.items;have hl:=pl.isList;rw[hx]at hl;refine sum_intListG (I.ok.hd hc) hl λh' tk t' hk=>?_;have e1:ns=xs.toList.map (·.1):=by
  rw[<-nums_intItems,<-hx];exact(show numsOf its.toArray.toList=ns from hi.numsOf).symm
 have e2:preSum (numAt xs) xs.size=ns.sum:=by
  rw[preSum_eq,Qt (by simp),e1]
 rw[e2];exact⟨.int _,H,I.kept (t':=tk) hk,⟨t',rfl⟩,q⟩
end
end
section
theorem xg {y:Int}:∀{ns:List Int} {m:Nat},m<ns.idxOf y->(h:m<ns.length)->ns[m]≠y
 | [],m,_,h=>by simp at h
 |a::r,m,lt,h=>by
  rw[List.idxOf_cons]at lt;by_cases c:a=y
  .rw[c]at lt;simp at lt
  .have:(a==y)=false:=beq_eq_false_iff_ne.mpr c;rw[this]at lt;cases m with
   |zero=>exact c
   |succ j=>exact xg (ns:=r) (m:=j) (by simpa using lt) (by simpa using h)
theorem xv:∀(ns:List Int) (i:Nat),(ns.eraseIdx i).map V.int=(ns.map V.int).eraseIdx i
 | [],_=>rfl
 |_::_,0=>rfl
 |a::r,i+1=>by
  show V.int a::(r.eraseIdx i).map V.int=V.int a::(r.map V.int).eraseIdx i;rw[xv r i]
section
def GX:V->List V->Hp->VK->Prop:=λx vs H Q=>∃(l:Addr) (xs:List V) (k:Int) (y:V),x= .ref l/\vs=[.int k,y]/\H l=some (.lst xs)/\0<=k/\k<=(xs.length:Int)/\xs.length<sizeLine/\Q .non (upd H l (.lst (xs.take k.toNat++y::xs.drop k.toNat)))
theorem xi:MtM X "list.insert" GX:=by
 intro pins s σ H x vs v us Q I rx rv h;obtain⟨l,xs,k,y,rfl,rfl,hH,h0,hk,hz,q⟩:=h;cases rx;obtain⟨u1,u,rfl,⟨t,rfl⟩,ru⟩:=rv.two;obtain⟨z,its,n,r,hl,e⟩:=I.lstM hH;have fits:¬(!Builtin.List.listFitsIndex k)=true:=by
  have line:=uW;rw[fitsIndex_both (by lia) (by lia)];exact Qi
 have hsz:its.toArray.size<=sizeLine:=by rw[Qf];lia
 refine call_meets F.slot_list_insert ⟨_,e,rfl⟩ F.entry_list_insert (F.args_list_insert_3 _ _ _) (AutoListH.list_insert_list_int_val_1 l its.toArray n k t u fits hsz) ⟨e,?_⟩;refine⟨.non,_,I.lset (its':=its.take k.toNat++u::its.drop k.toNat) hH e ?_ ((r.take k.toNat).append (.cons ru (r.drop k.toNat))) ?_,rfl,q⟩
 .have e0:(if k<0 then(k+((its.toArray.size:Nat):Int)).toNat else min k.toNat its.toArray.size)=k.toNat:=by
   rw[if_neg (by lia),Qf];lia
  show(its.toArray.extract 0 _).push u++its.toArray.extract _=_;rw[e0];simp;exact Qt (by rw[QA];lia)
 .rw[Qa,Qp,Q8,QA];lia
def GW:V->List V->Hp->VK->Prop:=λx vs H Q=>∃(l:Addr) (ns:List Int) (y:Int),x= .ref l/\vs=[.int y]/\H l=some (.lst (ns.map V.int))/\y∈ns/\Q .non (upd H l (.lst ((ns.erase y).map V.int)))
theorem C6:MtM X "list.remove" GW:=by
 intro pins s σ H x vs v us Q I rx rv h;obtain⟨l,ns,y,rfl,rfl,hH,hy,q⟩:=h;cases rx;obtain⟨u,rfl,ru⟩:=rv.one;obtain⟨t,rfl⟩:=ru;obtain⟨z,its,n,r,hl,e⟩:=I.lstM hH;have hi:IntsAre its ns:=pf r;have at_:∀(m:Nat) (hm:m<its.toArray.size),∃t',its.toArray[m]=Value.int (ns.getD m 0) t':=λm hm=>by
  have hm':m<ns.length:=by rw[Qf,<-hl,Q0]at hm;exact hm
  obtain⟨w,hw,rw'⟩:=r.get (i:=m) (x:= .int (ns.getD m 0)) (by rw[Qn,Q3 hm',Qm,Q3 hm'];rfl);obtain⟨t',rfl⟩:=rw';refine⟨t',?_⟩;have:=(Q2.mp hw).2;simpa using this
 have hx:ns.idxOf y<ns.length:=List.idxOf_lt_length_of_mem hy;have ga:∀m,m<ns.length->ns.getD m 0=ns[m]!:=λm hm=>by simp[hm]
 refine call_meets F.slot_list_remove ⟨_,e,rfl⟩ F.entry_list_remove (F.args_list_remove_2 _ _) (MeetsSeq.list_remove l its.toArray n (.int y t) (λv=>match v with| .int i _=>i==y|_=>false) (λv hv=>?_) (ns.idxOf y) (by rw[Qf,<-hl,Q0];exact hx) ?_ (λm hm lt=>?_) (by rw[Qf];lia)) ⟨e,?_⟩
 .obtain⟨m,hm,em⟩:=Array.getElem_of_mem hv;obtain⟨t',et⟩:=at_ m hm
  rw[<-em,et];exact MeetsSeq.EqGives.int _ _ _ _
 .obtain⟨t',et⟩:=at_ (ns.idxOf y) (by rw[Qf,<-hl,Q0];exact hx)
  rw[et];show(ns.getD (ns.idxOf y) 0==y)=true;rw[Qm,Q3 hx,Option.getD_some,List.getElem_idxOf hx];exact beq_self_eq_true y
 .obtain⟨t',et⟩:=at_ m hm
  rw[et];show(ns.getD m 0==y)=false;have hm':m<ns.length:=by lia
  rw[Qm,Q3 hm',Option.getD_some];exact beq_eq_false_iff_ne.mpr (λw=>xg lt hm' w)
 .have ee:ns.erase y=ns.eraseIdx (ns.idxOf y):=(List.erase_eq_eraseIdx_of_idxOf rfl);have em:(ns.eraseIdx (ns.idxOf y)).map V.int=(ns.map V.int).eraseIdx (ns.idxOf y):=xv _ _;rw[ee,em]at q;refine⟨.non,_,I.lset (its':=its.eraseIdx (ns.idxOf y)) hH e ?_ (r.eraseIdx (ns.idxOf y)) ?_,rfl,q⟩
  .show its.toArray.eraseIdxIfInBounds (ns.idxOf y)=(its.eraseIdx (ns.idxOf y)).toArray;rw[XM]
  .have:=rE (ns.map V.int) (ns.idxOf y);lia
end
end
section
section
theorem vh:eZ X (.type "dict") (λxs H Q=>∃d kvs,xs=[.ref d]/\H d=some (.dK kvs)/\∀p,H p=none->Q (.ref p) (upd H p (.dK kvs))):=by
 intro pins s σ H xs us Q I r h;obtain⟨d,kvs,rfl,hd,q⟩:=h;obtain⟨u,rfl,ru⟩:=jG r;cases ru;obtain⟨z,lo,vs,rel,dd⟩:=jN I.hok hd;refine kt_call_dict lo dd (by rw[<-rel.length];exact z) λh' hm hs=>?_;obtain⟨_,nm,_⟩:=vc (P:=X.prog) (w:=X.w) (H:=H) s.heap I.big;refine⟨.ref s.heap.objs.size,_,I.laid (a:=s.heap.objs.size) (o:= .dK kvs) (t':=s.toks) (λb o e=>(hs.2 b (QC (Heap.lt_size e))).trans (Heap.get?_push_of_some _ e)) (Q4 _) ⟨z,nm,vs,rel,hm⟩,rfl,q _ (I.hok.fresh (Q4 _))⟩
end
end
section
section
def GV:V->List V->Hp->VK->Prop:=λx vs H Q=>∃a kvs k y,x= .ref a/\vs=[kV k,y]/\H a=some (.dK kvs)/\kvs.length<sizeLine/\(∀v,aO kvs k=some v->Q v H)/\(aO kvs k=none->Q y (upd H a (.dK (bv kvs k y))))
theorem C4:MtR X "dict.setdefault" GV:=by
 intro pins s σ H x vs v us Q I rx rv h;obtain⟨a,kvs,k,y,rfl,rfl,hH,hl,q1,q2⟩:=h;cases rx;obtain⟨u,r,rfl,ru,rr⟩:=tQ rv;obtain⟨z,hd,ws,rel,dd⟩:=jN I.hok hH;have rk:=rel.val k;refine call_meetsIn XW dd.typeIs PySem.F.entry_dict_setdefault (PySem.F.args_dict_setdefault_3 _ _ _) (kt_meets_setdefault (a7 X.prog X.w) a (sd ru) hd r) ⟨ws,dd,by rw[<-rel.length];exact z,λv hv=>?_,λhn h' dd' hs=>?_⟩
 .rw[hv]at rk;cases e:aO kvs k with
  |none=>rw[e]at rk;exact rk.elim
  |some x=>
   rw[e]at rk;exact⟨x,H,I.tok _,rk,q1 x e⟩
 .rw[hn]at rk;cases e:aO kvs k with
  |some x=>rw[e]at rk;exact rk.elim
  |none=>
   have he:∃q,h'.get? a=some q:=let⟨q,_,_,hq,_⟩:=dd';⟨q,hq⟩
   have lp:=cc kvs k y;exact⟨y,_,qi I (by rw[hH];exact True.intro) hs he (yG (by lia) hd (rel.put k rr) dd'),rr,q2 e⟩
end
end
section
section
def rB (kvs more:List (Key×V)):List (Key×V):=more.foldl (λacc p=>bv acc p.1 p.2) kvs
theorem KV.mrg {more:List (Key×V)} {mws:List (Key×Value)} (h:KV more mws):∀{kvs:List (Key×V)} {ws:List (Key×Value)},KV kvs ws->KV (rB kvs more) (merged ws mws):=by
 induction h with
 |nil=>intro kvs ws r;exact r
 |cons r t ih=>
  rename_i p q ps qs
  intro kvs ws rw;have e:p.1=q.1:=r.1;have:=ih (rw.put p.1 r.2);rw[e]at this;show KV (rB (bv kvs p.1 p.2) ps) _;rw[e];exact this
theorem uP:∀{more kvs:List (Key×V)},(rB kvs more).length<=kvs.length+more.length
 | [],_=>Q4 _
 |p::r,kvs=>by
  have h1:=uP (more:=r) (kvs:=bv kvs p.1 p.2);have h2:=cc kvs p.1 p.2;show(rB (bv kvs p.1 p.2) r).length<=_;rw[Qp];lia
def rUpd:V->List V->Hp->VK->Prop:=λx vs H Q=>∃d o kvs more,x= .ref d/\vs=[.ref o]/\d≠o/\H d=some (.dK kvs)/\H o=some (.dK more)/\kvs.length+more.length<=sizeLine/\Q .non (upd H d (.dK (rB kvs more)))
theorem C2:MtR X "dict.update" rUpd:=by
 intro pins s σ H x vs v us Q I rx rv h;obtain⟨d,o,kvs,more,rfl,rfl,ne,hd,ho,hl,q⟩:=h;cases rx;obtain⟨u,rfl,ru⟩:=jG rv;cases ru;obtain⟨z,lo,ws,rel,dd⟩:=jN I.hok hd;obtain⟨z2,lo2,ws2,rel2,dd2⟩:=jN I.hok ho;refine call_meetsIn PySem.F.slot_dict_update dd.typeIs PySem.F.entry_dict_update (PySem.F.args_dict_update_2 _ _) (meets_dict_update (a7 X.prog X.w) d o ne lo2) ⟨ws,ws2,dd,dd2,by rw[<-rel.length,<-rel2.length];exact hl,λh' dd' _ hs=>?_⟩;have he:∃q,h'.get? d=some q:=let⟨q,_,_,hq,_⟩:=dd';⟨q,hq⟩
 exact⟨.non,_,qi I (by rw[hd];exact True.intro) hs he (yG (QD uP hl) lo (rel2.mrg rel) dd'),rfl,q⟩
end
end
end L2
namespace PySem
open PySem.Spec
variable {E:Value->Shared->Prop}
section
variable {prog:Program} {w:World} {A:Around} {s:Shared}
theorem FB:typeLookup (.type "list") "keys"=pure none:=am_miss_of_fast (by decide+kernel)
theorem FD {a:Addr} {o:Obj} {xs:Array Value} {k:Nat} {Q:Option Value->Shared->Prop} (hx:s.heap.get? a=some o) (hc:o.cls= .type "list") (hdat:o.data= .seq xs k) (hd:o.dict=none) (hA:A.handled=none)
  (h:∀h' tk,(∀b ob,s.heap.get? b=some ob->h'.get? b=some ob)->Q none {s with heap:=h',toks:=tk}):
  wpAny (model prog w) A (getAttr? (.ref a) "keys") Q E s:=by
 obtain⟨c,dct,dat,sl⟩:=o;simp only at hc hdat hd;subst hc hdat hd;obtain⟨hp,g,d,tk,os⟩:=s;have hT:∀tk',(⟨hp,g,d,tk',os⟩:Shared).TypeIs (.ref a) "list":=λ_=>⟨_,hx,rfl⟩;have f1:=sub_AttributeError;have f3:=F.slot_list_getattribute.lookup;have f4:=F.slot_list_getattribute.bind (.ref a);have f5:=am_list_getattr_none;unfold getAttr? getAttrBy? getAttrBy
 repeat (any_goals (first|assumption|exact hT _|((with_reducible show wpAny _ _ (call (Value.builtin "list.__getattribute__") _ _) _ _ _);refine call_meets F.slot_list_getattribute (hT _) am_entry_list_getattribute (F.args_list_getattribute_2 _ _) (meets_getattribute_miss_list a xs k sl "keys" _ FB (by decide+kernel)) ⟨hx,hA,λh' tk' e hx'=>?_⟩)|wp_step))
 obtain⟨t',u',he⟩:=hx'.there;show wpAny _ _ (getattributeRaised _ _ _ _ _ _ _) _ _ _;unfold getattributeRaised
 repeat (any_goals (first|assumption|wp_step))
 exact h _ _ hx'.keeps
end
end PySem
namespace PySem
open PySem.Spec
namespace F
theorem entry_dict_update_loop:entryFor table "dict.update.loop"=some Builtin.«dict.update.loop»:=entryFor_of_tree (by kernel_rfl)
theorem plain_dict_update_loop:plainId "dict.update.loop"=true:=by decide+kernel
end F
section
variable {prog:Program} {w:World} {K:Type} [DecidableEq K] {knd:KeyKind prog w K} {A:Around} {R:Result->Shared->Prop} {s:Shared}
theorem FA {E:Value->Shared->Prop} {p:Addr} {k v:Value} {Q:List Value->Shared->Prop} (hp:s.heap.IsTuple p #[k,v]) (h:Q [k,v] s):wpAny (model prog w) A (Builtin.Dict.pairItems (.ref p)) Q E s:=by
 obtain⟨o,ho,hc,n,hd⟩:=hp;have hT:s.TypeIs (.ref p) "tuple":=⟨_,ho,hc⟩;unfold Builtin.Dict.pairItems;refine wpAny_bind (wpAny_typeOf hT ?_);have e:((Value.type "tuple"==Value.type "list")||(Value.type "tuple"==Value.type "tuple"))=true:=by decide
 rw[if_pos e];obtain⟨hp,g,d,tk,os⟩:=s;obtain⟨c,dct,dat,sl⟩:=o;simp only at hc hd;subst hc hd
 repeat (any_goals (first|assumption|wp_step))
theorem FC {I ax D:Addr} {items:Array Value} {ps:List (K×Value)} {h₀:Heap} (hh:A.handled=none) (hne:ax≠I) (hDI:D≠I) (hDa:D≠ax) (n0:h₀.get? D=none) (n1:h₀.get? I=none) (hl:ps.length<=sizeLine)
  (hi:∀(j:Nat) (v:Value),items[j]?=some v->∃p k key x,v= .ref p/\ps[j]?=some (k,x)/\knd.is k key=true/\h₀.IsTuple p #[key,x]) (hs:ps.length=items.size):
  ∀(n i:Nat) (s:Shared),items.size-i=n->i<=items.size->s.heap.IsListIter I ax i->s.heap.IsList ax items->(∀b o,h₀.get? b=some o->s.heap.get? b=some o)->s.heap.DictOf knd D (merged [] (ps.take i))->
   (∀h' tk,(∀b o,h₀.get? b=some o->h'.get? b=some o)->h'.DictOf knd D (merged [] ps)->R (.ok (.ret .none)) {s with heap:=h',toks:=tk})->
   codeAny (model prog w) A (.builtin "dict.update.loop" ⟨[.ref D,.ref I,rawInt i,.none],[]⟩) R s:=by
 intro n
 induction n with
 |zero=>
  intro i s hn hi' it il kp dd hR;have e:i=items.size:=by lia
  subst e;refine codeAny_builtin F.entry_dict_update_loop ?_;rw[Around.under_plainId F.plain_dict_update_loop _];show wpAny _ A.in1 (pyNext (.ref I)>>=_) _ _ s;have hh1:A.in1.handled=none:=by simp[hh]
  refine wpAny_bind (wpAny_pyNext_list_end hh1 it il (by simp) λh' he'=>?_);show wpAny _ A.in1 (Builtin.Dict.addKeywords D []>>=_) _ _ _;refine wpAny_bind (wpAny_pure (wpAny_pure ?_));rw[Qt (Zr hs)]at dd;refine hR h' s.toks (λb o e=>he' b o (λz=>by rw[z,n1]at e;cases e) (kp b o e)) ?_;exact dd.at λo e=>he' D o hDI e
 |succ n ih=>
  intro i s hn hi' it il kp dd hR;have hlt:i<items.size:=by lia
  refine codeAny_builtin F.entry_dict_update_loop ?_;rw[Around.under_plainId F.plain_dict_update_loop _];show wpAny _ A.in1 (pyNext (.ref I)>>=_) _ _ s;refine wpAny_bind (wpAny_pyNext_list_item it il (x:=items[i]) (by simp[hlt]) λh' hit' hs'=>?_);obtain⟨p,k,key,x,ev,ep,hk,tp⟩:=hi i items[i] (by simp[hlt]);rw[ev];have kp':∀b o,h₀.get? b=some o->h'.get? b=some o:=λb o e=>hs'.extBut b o (λz=>by rw[z,n1]at e;cases e) (kp b o e);have tp':h'.IsTuple p #[key,x]:=tp.at λo e=>kp' p o e;show wpAny _ A.in1 (holding [Value.ref p] _>>=_) _ _ _;refine wpAny_bind (wpAny_holding (wpAny_bind (wpAny_tryCatch (FA tp' ?_))));show wpAny _ _ (holding [key,x] (dictSet D key x)) _ _ _;refine wpAny_holding (wpAny_dictSet_pairs hk (kvs:=merged [] (ps.take i)) ?_ (λh2 d2 s2=>?_) ?_)
  .exact dd.at λo e=>hs'.extBut D o hDI e
  .refine wpAny_pure ⟨plainId_quiet F.plain_dict_update_loop _,ih (i+1) _ (by lia) hlt ?_ ?_ ?_ ?_ λh3 tk k3 d3=>hR h3 tk k3 d3⟩
   .exact hit'.at λo e=>(s2.2 I (Ne.symm hDI)).trans e
   .exact(il.at λo e=>hs'.extBut ax o hne e).at λo e=>(s2.2 ax (Ne.symm hDa)).trans e
   .exact λb o e=>(s2.2 b (λz=>by rw[z,n0]at e;cases e)).trans (kp' b o e)
   .rw[merged_take_succ _ _ _ _ ep];exact d2
  .have:=merged_length_le [] (ps.take i);rw[Q8]at this;simp only[ZZ]at this;lia
end
end PySem
namespace PySem
open PySem.Spec
variable {E Q:Value->Shared->Prop}
section
variable {prog:Program} {w:World} {K:Type} [DecidableEq K] {knd:KeyKind prog w K} {A:Around} {s:Shared}
theorem FE {l:Addr} {items:Array Value} {ps:List (K×Value)} (hh:A.handled=none) (hl:PlainL s.heap l items) (hsz:ps.length<=sizeLine)
  (hi:∀(j:Nat) (v:Value),items[j]?=some v->∃p k key x,v= .ref p/\ps[j]?=some (k,x)/\knd.is k key=true/\s.heap.IsTuple p #[key,x]) (hs:ps.length=items.size)
  (h:∀h' tk,h'.DictOf knd s.heap.objs.size (merged [] ps)->(∀b o,s.heap.get? b=some o->h'.get? b=some o)->Q (.ref s.heap.objs.size) {s with heap:=h',toks:=tk}):
  wpAny (model prog w) A (call (.type "dict") [.ref l]) Q E s:=by
 refine callType_codes (Q₁:=λobj s₁=>obj= .ref s.heap.objs.size/\s₁={s with heap:=s.heap.push {cls:= .type "dict",data:= .dict #[]}}) F.kt_called_dict (F.kt_typeCall_dict_1 _) F.entry_dict_init (kt_code_dict_new _ ⟨rfl,rfl⟩) ?_;rintro obj s₁ ⟨rfl,rfl⟩;have hnew:(s.heap.push {cls:= .type "dict",data:= .dict #[]}).DictOf knd s.heap.objs.size []:=Heap.DictOf.new s.heap;obtain⟨o,n,ho,hc,hd,hdat⟩:=hl;have ho':(s.heap.push {cls:= .type "dict",data:= .dict #[]}).get? l=some o:=Heap.get?_push_of_some _ ho;have lD:l<s.heap.objs.size:=Heap.lt_size ho;refine⟨hnew.typeIs,F.args_dict_init_2 _ _,?_⟩;unfold Builtin.«dict.__init__»;refine wpAny_bind ?_;unfold Builtin.Dict.selfAndRest;refine wpAny_bind (wpAny_notOrdered_dict hnew.typeIs ?_);show wpAny _ _ (pure (s.heap.objs.size,[Value.ref l])) _ _ _;refine wpAny_pure ?_;show wpAny _ _ (Builtin.Dict.updateFrom "dict.__init__" s.heap.objs.size (.ref l) [] .none) _ _ _;unfold Builtin.Dict.updateFrom;refine wpAny_bind (wpAny_typeOf (show Shared.TypeIs _ (.ref l) "list" from⟨_,ho',hc⟩) ?_);rw[if_pos (by decide)];refine wpAny_bind (FD ho' hc hdat hd hh λh1 tk1 k1=>?_);simp only[Option.isNone_none,if_true];refine wpAny_bind (wpAny_rule ?_);have l1:h1.IsList l items:=⟨_,k1 _ _ ho',hc,n,hdat⟩;refine wpAny_bind (wpAny_pyIter_list l1 ?_);have D1:h1.DictOf knd s.heap.objs.size []:=hnew.at λo e=>k1 _ _ e;have sl:l<h1.objs.size:=Heap.lt_size (k1 _ _ ho');have sD:s.heap.objs.size<h1.objs.size:=by obtain⟨o',_,_,e,_⟩:=D1;exact Heap.lt_size e
 refine wpAny_pure ⟨by first|rfl|exact plainId_quiet F.plain_dict_update_loop _,?_⟩;refine FC (knd:=knd) (h₀:=s.heap) (ax:=l) (by simp[hh]) (QC sl) (QC sD) (XA lD) (Heap.get?_none_of_le (Q4 _)) (Heap.get?_none_of_le (Zq sD)) hsz hi hs _ 0 _ rfl (Qj _) ?_ ?_ ?_ ?_ ?_
 .exact⟨_,Heap.get?_push_size _ rfl,rfl,rfl⟩
 .exact l1.push _
 .exact λb o e=>Heap.get?_push_of_some _ (k1 _ _ (Heap.get?_push_of_some _ e))
 .exact D1.push _
 .exact λh' tk kp dd=>⟨rfl,h h' tk dd kp⟩
end
end PySem
namespace L2
open PySem PySem.Spec PyProof.Rows
variable {d:Addr} {X:Cx} {tg:Expr} {H:Hp} {hi lo st:Int} {R:It->Hp->Prop} {pins:List (Addr×Obj)} {kvs:List (Key×V)} {vs:List (Key×Value)} {ob:Obj} {P:Program} {K:PySem.W.Frag} {s:Shared} {σ:St} {nx:St->Hp->Prop} {g:TG} {tb:TS} {rt:VK} {E:Value->Shared->Prop} {w:World}
section
section
theorem zY (I:Inv X pins σ H s):∀{ts:List (Addr×Key×V)} {us:List Value},Vals (ts.map λe=>V.ref e.1) us->(∀e∈ts,SqT X.K H e.1 [kV e.2.1,e.2.2])->∃ps:List (Key×Value),KV (ts.map (·.2)) ps/\∀(j:Nat) (v:Value),us[j]?=some v->∃p k key x,v= .ref p/\ps[j]?=some (k,x)/\(a7 X.prog X.w).is k key=true/\s.heap.IsTuple p #[key,x]
 | [],_,.nil,_=>⟨[],.nil,λj v h=>by cases j<;>cases h⟩
 |e::r,_,.cons h1 h2,tu=>by
  obtain⟨ps,kv,g⟩:=zY I h2 λy hy=>tu y (Qd _ hy);cases h1;obtain⟨its,rv,tp,_⟩:=I.tuple (tu e Q9);obtain⟨a,b,rfl,ra,rb⟩:=IK rv;refine⟨(e.2.1,b)::ps,.cons ⟨rfl,rb⟩ kv,λj v h=>?_⟩;cases j with
  |zero=>cases h;exact⟨_,_,_,_,rfl,rfl,sd ra,tp⟩
  |succ j=>exact g j v h
theorem vg (hh:X.A.handled=none):eZ X (.type "dict") (λxs H Q=>∃(a:Addr) (ts:List (Addr×Key×V)),xs=[.ref a]/\SqL X.K H a (ts.map λe=>V.ref e.1)/\(∀e∈ts,SqT X.K H e.1 [kV e.2.1,e.2.2])/\∀p,H p=none->Q (.ref p) (upd H p (.dK (rB [] (ts.map (·.2)))))):=by
 intro pins s σ H xs us Q I r h;obtain⟨a,ts,rfl,hl,tu,q⟩:=h;obtain⟨u,rfl,ru⟩:=jG r;cases ru;obtain⟨its,rv,pl,z⟩:=I.list hl;obtain⟨ps,kv,g⟩:=zY I rv tu;have l1:ts.length=ps.length:=by have:=kv.length;rwa [Q0]at this
 have l2:ts.length=its.length:=by have:=rv.length;rwa [Q0]at this
 rw[Q0]at z;refine FE (knd:=a7 X.prog X.w) (ps:=ps) hh pl (by lia) (λj v e=>g j v (by simpa using e)) (by rw[Qf];lia) λh' tk dd kp=>?_;obtain⟨_,nm,_⟩:=vc (P:=X.prog) (w:=X.w) (H:=H) s.heap I.big;have zz:(rB [] (ts.map (·.2))).length<=sizeLine:=by
  have:=uP (kvs:=[]) (more:=ts.map (·.2));rw[Q0]at this;simp only[ZZ]at this;lia
 refine⟨.ref s.heap.objs.size,_,I.laid (a:=s.heap.objs.size) (o:= .dK (rB [] (ts.map (·.2)))) (t':=tk) kp (Q4 _) ⟨zz,nm,_,kv.mrg .nil,dd⟩,rfl,q _ (I.hok.fresh (Q4 _))⟩
theorem Cm {A:Around} {kb:List (Key×V)} {wb:List (Key×Value)} (rb:KV kb wb):∀{ka:List (Key×V)} {wa:List (Key×Value)},KV ka wa->(∀p∈ka,Fl p.2/\aO kb p.1=some p.2)->PySem.W.KeqHits A s wb wa true
 | [],_,.nil,_=> .nil
 |(k,v)::r,(k',u)::wr,.cons h1 h2,g=>by
  obtain⟨f,e⟩:=g (k,v) Q9;obtain⟨e1,rv⟩:=h1;have e1:k=k':=e1;subst e1;obtain⟨y,hy,ry⟩:=RelO.some_of (v:=v) (o:=valueAt wb k) (by rw[<-e];exact rb.val k);exact .hit (e:=true) (b:=true) hy (yF f rv ry) (Cm rb h2 λq hq=>g q (Qd _ hq))
def Ko:R2:=λx y H Q=>∃(a b:Addr) (ka kb:List (Key×V)),x= .ref a/\y= .ref b/\H a=some (.dK ka)/\H b=some (.dK kb)/\ka.length=kb.length/\(∀p∈ka,Fl p.2/\aO kb p.1=some p.2)/\Q (.bl false) H
theorem G4 (hu:X.A.units+20<cLine):OpR X (compareOp .NotEq) Ko:=by
 intro pins s σ H x y v u Q I rx ry h;obtain⟨a,b,ka,kb,rfl,rfl,ha,hb,l,g,q⟩:=h;cases rx;cases ry;obtain⟨z,lo,vs,rel,dd⟩:=jN I.hok ha;obtain⟨z2,lo2,ws,rel2,dd2⟩:=jN I.hok hb;have l1:ka.length=vs.length:=rel.length;have l2:kb.length=ws.length:=rel2.length;have hl:vs.length=ws.length:=by lia
 refine PySem.W.keq_ne (r:=true) lo lo2 dd dd2 (by lia) (λe=>Cm rel2 rel g) ⟨.bl false,H,I,?_,q⟩;show Value.bool _=Value.bool _;simp[hl]
end
end
section
section
def rNeE:R2:=λx y H Q=>∃(a b:Addr) (kvs:List (Key×V)),x= .ref a/\y= .ref b/\Rd H a (.dK kvs)/\Rd H b (.dK [])/\Q (.bl (!decide (kvs.length=0))) H
theorem EH (hu:X.A.units+20<cLine):OpR X (compareOp .NotEq) rNeE:=by
 intro pins s σ H x y v u Q I rx ry h;obtain⟨a,b,kvs,rfl,rfl,ha,hb,q⟩:=h;cases rx;cases ry;obtain⟨z,lo,vs,rel,dd⟩:=oj I.hok ha;obtain⟨z2,lo2,ws,rel2,dd2⟩:=oj I.hok hb;cases rel2;have hlen:kvs.length=vs.length:=rel.length;refine PySem.W.keq_ne (r:=true) lo lo2 dd dd2 (by lia) (λe=>?_) ⟨.bl (!decide (kvs.length=0)),H,I,?_,q⟩
 .have:vs=[]:=Xd.mp e;rw[this];exact .nil
 .show Value.bool _=Value.bool _;rw[hlen];congr 1;cases vs<;>simp
end
end
section
def vwV (a d:Addr):HO:= .ext λh=>h.IsValuesView a d
def Itw (ob:Obj) (d:Addr) (kvs:List (Key×V)):It:=
 ⟨λi H=>H d=some (.frz ob (.dK kvs))/\i<kvs.length,λi H x H'=>H'=H/\∃k,kvs[i]?=some (k,x),λi H=>H d=some (.frz ob (.dK kvs))/\kvs.length<=i⟩
theorem CC {ep:Nat} (it:Addr) (D:DObj P w ob d kvs vs ep):
  BF P w K tg (Itw ob d kvs) [it] it (λi h=>h.IsValIter it d i vs.length ep) where
 mem:=by simp
 obj:=λi h st b hb=>by
  have z:b=it:=by simpa using hb
  subst z;obtain⟨o,e,c,dd⟩:=st;exact⟨o,e,λv z=>by rw[dd]at z;cases z⟩
 keep:=λi h h' st k=>by
  obtain⟨o,e,r⟩:=st;exact⟨o,k it (by simp) _ e,r⟩
 item:=by
  intro X hP hw hK hc i pins s σ H E I hf st hg;subst hP hw hK;obtain⟨hq,hi⟩:=hg;obtain⟨f0,f1,f2,f3,f4,f5⟩:=hf it (by simp);obtain⟨hob,_⟩:=I.hok d _ hq;have hat:=D.2 s.heap hob;obtain⟨⟨k,v⟩,hx⟩:∃kv,kvs[i]?=some kv:=⟨kvs[i],by simp[hi]⟩;obtain⟨u,hu,ru⟩:=KV.getI D.1 hx;refine wpAny_pyNext_values_item st hat hu λh' st' sb=>?_;have I1:Inv X pins σ H {s with heap:=h'}:=I.turned (t':=s.toks) (λb o hb e=>(sb.2 b hb).trans e) f0 f1 f3 f4 f5;obtain⟨o,e,c,dd⟩:=id st';exact⟨u,rfl,zT (s:={s with heap:=h'}) e c dd (by decide) ⟨v,H,I1,ru,⟨rfl,k,hx⟩,st',λb hb=>(hf b hb).1⟩⟩
 done:=by
  intro X hP hw hK hc i pins s σ H E I hf st hg;subst hP hw hK;obtain⟨hq,hi⟩:=hg;obtain⟨hob,_⟩:=I.hok d _ hq;have hat:=D.2 s.heap hob;obtain⟨f0,f1,f2,f3,f4,f5⟩:=hf it (by simp);have hl:kvs.length=vs.length:=D.1.length;exact wpAny_pyNext_values_end (I.ok.hd hc) st hat (by simp;lia) λh' eb=>⟨rfl,I.turned (t':=s.toks) (λb o hb e=>eb b o hb e) f0 f1 f3 f4 f5⟩
 self:=λ_ _ _ _ _ st h=>wpAny_pyIter_valiter st h
section
def Km:V->List V->Hp->VK->Prop:=λx vs H Q=>∃d kvs,x= .ref d/\vs=[]/\H d=some (.dK kvs)/\∀a,H a=none->Q (.ref a) (upd H a (vwV a d))
theorem xh:MtR X "dict.values" Km:=by
 intro pins s σ H x vs v us Q I rx rv h;obtain⟨d,kvs,rfl,rfl,hd,q⟩:=h;cases rx;cases rv;obtain⟨z,lo,ws,rel,dd⟩:=jN I.hok hd;refine call_meetsIn Xa dd.typeIs PySem.F.entry_dict_values (PySem.F.args_dict_values_1 _) (meets_dict_values (a7 X.prog X.w) d lo) ⟨⟨ws,dd⟩,?_⟩;have new:(s.heap.push {cls:= .type "dict_values",data:= .fields #[.ref d]}).get? s.heap.objs.size=some {cls:= .type "dict_values",data:= .fields #[.ref d]}:=Heap.get?_push_size _ rfl;refine⟨.ref s.heap.objs.size,_,I.laid (t':=s.toks) (λb o e=>Heap.get?_push_of_some _ e) (Q4 _) (show ObjOk X.prog X.w _ _ _ (vwV s.heap.objs.size d) from⟨⟨_,new,rfl,rfl⟩,⟨_,new⟩,λh1 h2 p k=>?_⟩),rfl,q _ (I.hok.fresh (Q4 _))⟩;obtain⟨o,e,c⟩:=p;exact⟨o,k o e,c⟩
def KB (te:TE):TI:=λσ H R=>te σ H λx H1=>∃a d kvs,x= .ref a/\H1 a=some (vwV a d)/\H1 d=some (.dK kvs)/\∀ob,R (Itw ob d kvs) (upd H1 d (.frz ob (.dK kvs)))
theorem G2 {l:Expr} {te:TE} (hl:PE X l te):PI X tg l (KB te):=by
 intro pins s σ H R I h;refine thn (hl pins s σ H _ I h) λv s1 hzz=>?_;obtain⟨x,H1,I1,r1,q1⟩:=hzz;obtain⟨a,d,kvs,e,ha,hd,q⟩:=q1;subst e;cases r1;obtain⟨z,lo,vs,rel,dd⟩:=jN I1.hok hd;obtain⟨ep,hat⟩:=dd.dictAt;obtain⟨vw,_,_⟩:=(show ObjOk X.prog X.w H1 s1.heap a (vwV a d) from I1.hok a _ ha);obtain⟨ob,es,hob,rest⟩:=id hat;refine wpAny_pyIter_values vw hat ?_;have If:=I1.freeze hd hob;refine⟨s1.heap.objs.size,[s1.heap.objs.size],_,_,_,rfl,If.kept (t':=s1.toks) λb o e=>Heap.get?_push_of_some _ e,CC _ ⟨rel,λh e=>⟨ob,es,e,rest⟩⟩,⟨_,Heap.get?_push_size _ rfl,rfl,rfl⟩,λb hb=>?_,q ob⟩;have e:b=s1.heap.objs.size:=by simpa using hb
 subst e;exact If.fpOk (Q4 _) (If.hok.fresh (Q4 _))
end
theorem Ft (Pv:Nat->St->Hp->Prop) (h0:Pv 0 σ H) (hl:∀i σ H,i<=kvs.length->Pv i σ H->H d=some (.frz ob (.dK kvs)))
  (hs:∀i k v σ H,kvs[i]?=some (k,v)->Pv i σ H->g v σ H λσ2 H2=>tb ⟨Pv (i+1),rt,nx,Pv (i+1)⟩ σ2 H2) (hd:∀σ H,Pv kvs.length σ H->nx σ H):
  ∃W:Nat->Nat->St->Hp->Prop,(∃m,W 0 m σ H)/\∀i m σ H,W i m σ H->
   ((Itw ob d kvs).stop i H/\nx σ H)\/((Itw ob d kvs).go i H/\∃N:St->Hp->Prop,(∀σ' H',N σ' H'->∃m',m'<m/\W (i+1) m' σ' H')/\∀x H',(Itw ob d kvs).yld i H x H'->g x σ H' λσ2 H2=>tb ⟨N,rt,nx,N⟩ σ2 H2):=by
 refine⟨λi m σ H=>m=kvs.length-i/\i<=kvs.length/\Pv i σ H,⟨kvs.length,by simp,Qj _,h0⟩,?_⟩;rintro i m σ H ⟨rfl,hi,p⟩;have q:=hl i σ H hi p;by_cases lt:i<kvs.length
 .refine .inr ⟨⟨q,lt⟩,Pv (i+1),λσ' H' z=>⟨kvs.length-(i+1),by lia,rfl,lt,z⟩,λx H' y=>?_⟩;obtain⟨rfl,k,e⟩:=y;exact hs i k x σ _ e p
 .have e:i=kvs.length:=by lia
  subst e;exact .inl ⟨⟨q,Q4 _⟩,hd σ H p⟩
end
section
section
theorem BM:∀{kvs:List (Key×V)} {vs:List (Key×Value)} {ns:List Int},KV kvs vs->kvs.map (·.2)=ns.map V.int->∀(i:Nat) (k:Key) (v:Value),vs[i]?=some (k,v)->∃t:Tok,v= .int (ns.getD i 0) t
 | [],_,_,.nil,_,i,k,v,h=>by cases i<;>cases h
 |p::r,_,ns,.cons h1 h2,e,i,k,v,h=>by
  cases ns with
  |nil=>cases e
  |cons n ns=>
   obtain⟨e1,e2⟩:=List.cons.inj e;cases i with
   |zero=>
    cases h;have e1:p.2= .int n:=e1;have:=h1.2;rw[e1]at this;exact this
   |succ i=>exact BM h2 e2 i k v h
theorem En:∀ns:List Int,preSum (λi=>ns.getD i 0) ns.length=ns.sum
 | []=>rfl
 |n::r=>by
  rw[Qp,PySem.W.kdu_shift,List.sum_cons,<-En r];rfl
theorem Dx (hh:X.A.handled=none):eZ X (.builtin "sum") (λxs H Q=>∃(a d:Addr) (kvs:List (Key×V)) (ns:List Int),xs=[.ref a]/\H a=some (vwV a d)/\H d=some (.dK kvs)/\kvs.map (·.2)=ns.map V.int/\Q (.int ns.sum) H):=by
 intro pins s σ H xs us Q I r h;obtain⟨a,d,kvs,ns,rfl,ha,hd,hns,q⟩:=h;obtain⟨u,rfl,ru⟩:=jG r;cases ru;obtain⟨z,lo,vs,rel,dd⟩:=jN I.hok hd;obtain⟨ep,hat⟩:=dd.dictAt;obtain⟨vw,_,_⟩:=(show ObjOk X.prog X.w H s.heap a (vwV a d) from I.hok a _ ha);have S:=PySem.W.kdl_values (prog:=X.prog) (w:=X.w) (r:=a) (d:=d) (knd:=a7 X.prog X.w) (kvs:=vs) (ep:=ep);have ok:s.heap.IsValuesView a d/\s.heap.DictAt (a7 X.prog X.w) d vs ep:=⟨vw,hat⟩;have l1:vs.length=ns.length:=by
  have h1:=rel.length;have h2:=congrArg List.length hns;rw[Q0,Q0]at h2;lia
 refine call_sum_walkAnyS ?_;obtain⟨oI,St,hit,W,st⟩:=S.iter X.A.in1 s hh ok;refine hit _ _ ⟨s.heap.objs.size,_,_,_,vs.length,_,_,(λi=>ns.getD i 0),rfl,W.toS,st,λb hb=>?_,λi v ⟨k,e⟩=>BM rel hns i k v e,λs' t' hm=>?_⟩
 .show b<(s.heap.push oI).objs.size;rw[size_push'];rcases Qg.mp hb with e|hb
  .rw[e];exact Zx _
  .rw[Q7.mp hb];exact XG (S.there _ ok).2
 .have hk:∀b o,s.heap.get? b=some o->s'.heap.get? b=some o:=λb o e=>
   hm.heap b o (λhI=>absurd (Heap.lt_size e) (by rw[Q7.mp hI];exact Zv _)) (Heap.get?_push_of_some _ e)
  rw[Moved.eq_with hm,l1,En];exact⟨.int _,H,I.kept (t':=s'.toks) hk,⟨t',rfl⟩,q⟩
end
end
section
end
section
def DH (lo st:Int) (n:Nat):It:=⟨λi _=>i<n,λi H x H'=>H'=H/\x= .int (lo+i*st),λi _=>n<=i⟩
theorem zc (it:Addr) (lo st:Int) (n:Nat):BF P w K tg (DH lo st n) [it] it (λi h=>IsRangeIter h it (lo+(i:Nat)*st) ((n:Int)-(i:Nat)) st) where
 mem:=by simp
 obj:=λi h hst b hb=>by
  have e:b=it:=by simpa using hb
  subst e;exact⟨_,hst,λv z=>by
   have z':Data.fields _=Data.cell v:=z;cases z'⟩
 keep:=λi h h' hst k=>k it (by simp) _ hst
 item:=by
  intro X hP hw hK hc i pins s σ H E I hf hst hg;subst hP hw hK;obtain⟨f0,f1,f2,f3,f4,f5⟩:=hf it (by simp);have W:=Walks.range (prog:=X.prog) (w:=X.w) (I.ok.hd hc) it lo st n;refine W.item i s _ _ hg hst λv h' tk hv st' kk=>?_;obtain⟨t,rfl⟩:=hv;have I1:Inv X pins σ H {s with heap:=h',toks:=tk}:=I.turned (λb o hb e=>kk b o (by simpa using hb) e) f0 f1 f3 f4 f5;exact⟨_,rfl,zT (s:={s with heap:=h',toks:=tk}) (n:="range_iterator") st' rfl rfl (by decide) ⟨.int (lo+i*st),H,I1,⟨t,rfl⟩,⟨rfl,rfl⟩,st',λb hb=>(hf b hb).1⟩⟩
 done:=by
  intro X hP hw hK hc i pins s σ H E I hf hst hg;subst hP hw hK;obtain⟨f0,f1,f2,f3,f4,f5⟩:=hf it (by simp);exact wpAny_pyNext_range_end (I.ok.hd hc) hst (by have:n<=i:=hg;lia) λh' eb=>⟨rfl,I.turned (t':=s.toks) (λb o hb e=>eb b o hb e) f0 f1 f3 f4 f5⟩
 self:=λ_ _ _ _ _ hst h=>wpAny_pyIter_rangeiter hst h
def pC (lo hi st:Int):Nat:=(Builtin.Range.rangeSize lo hi st).toNat
theorem nU (h:0<st):Builtin.Range.rangeSize lo hi st=if lo<hi then(hi-lo-1)/st+1 else 0:=by
 unfold Builtin.Range.rangeSize;rw[if_pos h]
theorem yf (h:0<st) (h0:0<=lo) (h1:0<=hi):0<=Builtin.Range.rangeSize lo hi st/\Builtin.Range.rangeSize lo hi st<=hi:=by
 rw[nU h];split
 .have a:0<=(hi-lo-1)/st:=XX (by lia) (by lia);have b:(hi-lo-1)/st<=hi-lo-1:=Int.ediv_le_self _ (by lia);lia
 .lia
section
theorem CL {t u v:Tok} {tk:Nat} (I:Inv X pins σ H s) (h1:0<=lo) (h2:lo<2^30) (h3:0<=hi) (h4:hi<2^30) (h5:0<st) (h6:st<2^30)
  (q:R (DH lo st (pC lo hi st)) H):wpAny (model X.prog X.w) X.A (pyIter (.ref s.heap.objs.size)) (PIE X pins σ tg R) E {s with heap:=s.heap.push {cls:= .type "range",data:= .fields #[.int lo t,.int hi u,.int st v]},toks:=tk}:=by
 have bd:=yf (lo:=lo) (hi:=hi) h5 h1 h3;refine wpAny_pyIter_range (IsRange.new ..) ?_ ?_
 .unfold Builtin.Range.small;simp only[Builtin.Range.rangeFitsLong,QK,Bool.or_eq_true,decide_eq_true_eq,beq_iff_eq,h5,if_true];generalize Builtin.Range.rangeSize lo hi st=n at bd⊢;have p63:(2:Int)^63=9223372036854775808:=by decide
  have p30:(2:Int)^30=1073741824:=by decide
  rw[p30]at h2 h4 h6
  try rw[p63]
  lia
 have I1:Inv X pins σ H {s with heap:=s.heap.push {cls:= .type "range",data:= .fields #[.int lo t,.int hi u,.int st v]},toks:=tk}:=I.kept λb o e=>Heap.get?_push_of_some _ e;refine⟨(s.heap.push {cls:= .type "range",data:= .fields #[.int lo t,.int hi u,.int st v]}).objs.size,[(s.heap.push {cls:= .type "range",data:= .fields #[.int lo t,.int hi u,.int st v]}).objs.size],_,_,H,rfl,
  I1.kept (t':=tk) λb o e=>Heap.get?_push_of_some _ e,zc _ lo st (pC lo hi st),?_,λb hb=>?_,q⟩
 .have e1:lo+((0:Nat):Int)*st=lo:=by simp
  have e2:((pC lo hi st:Nat):Int)-((0:Nat):Int)=Builtin.Range.rangeSize lo hi st:=by unfold pC;lia
  show IsRangeIter _ _ (lo+((0:Nat):Int)*st) (((pC lo hi st:Nat):Int)-((0:Nat):Int)) st;rw[e1,e2];exact Heap.get?_push_size _ rfl
 .have e:b=(s.heap.push {cls:= .type "range",data:= .fields #[.int lo t,.int hi u,.int st v]}).objs.size:=by simpa using hb
  subst e;exact I1.fpOk (Q4 _) (I1.hok.fresh (Q4 _))
def KC (ta:TA):TI:=λσ H R=>ta σ H λvs H1=>∃i j k:Int,vs=[.int i,.int j,.int k]/\(0<=i/\i<2^30/\0<=j/\j<2^30/\0<k/\k<2^30)/\R (DH i k (pC i j k)) H1
theorem CN {a b c:Expr} {ta:TA} {p pos:Pos} (hg:Gl X "range") (hm:X.mg "range"=none) (ha:PA X [a,b,c] ta) (hs:starEach [a,b,c] X.env=[(false,eval a X.env),(false,eval b X.env),(false,eval c X.env)]:=by rfl)
  (hs2:starEach [b,c] X.env=[(false,eval b X.env),(false,eval c X.env)]:=by rfl):PI X tg (.Call (.Name "range" p) [a,b,c] [] pos) (KC ta):=by
 intro pins s σ H R I h;refine Call_ (rF I hg hm boot_range (PyProof.Rows.callWith_type1 (thn (ha pos pins s σ H _ I h) λus s1 hzz=>?_) (by rw[hs,hs2]) (by rw[hs2];rfl)));obtain⟨vs,H1,I1,r1,q1⟩:=hzz;obtain⟨i,j,k,e,⟨q1,q2,q3,q4,q5,q6⟩,q⟩:=q1;subst e;cases r1 with
 |cons r rr=>
  cases rr with
  |cons r' rr=>
   cases rr with
   |cons r'' rr=>
    cases rr;obtain⟨t,rfl⟩:=r;obtain⟨t',rfl⟩:=r';obtain⟨t'',rfl⟩:=r'';exact call_range_3 (by lia) (CL I1 q1 q2 q3 q4 q5 q6 q) (.inl (PyProof.noPylong_small (by lia)))
end
theorem zU {n:Nat} (Pv:Nat->St->Hp->Prop) (h0:Pv 0 σ H)
  (hs:∀i σ H,i<n->Pv i σ H->g (.int (lo+i*st)) σ H λσ2 H2=>tb ⟨Pv (i+1),rt,nx,Pv (i+1)⟩ σ2 H2) (hd:∀σ H,Pv n σ H->nx σ H):
  ∃W:Nat->Nat->St->Hp->Prop,(∃m,W 0 m σ H)/\∀i m σ H,W i m σ H->
   ((DH lo st n).stop i H/\nx σ H)\/((DH lo st n).go i H/\∃N:St->Hp->Prop,(∀σ' H',N σ' H'->∃m',m'<m/\W (i+1) m' σ' H')/\∀x H',(DH lo st n).yld i H x H'->g x σ H' λσ2 H2=>tb ⟨N,rt,nx,N⟩ σ2 H2):=by
 refine⟨λi m σ H=>m=n-i/\i<=n/\Pv i σ H,⟨n,by simp,Qj _,h0⟩,?_⟩;rintro i m σ H ⟨rfl,hi,p⟩;by_cases hlt:i<n
 .refine .inr ⟨hlt,Pv (i+1),λσ' H' p'=>⟨n-(i+1),by lia,rfl,hlt,p'⟩,λx H' y=>?_⟩;obtain⟨e,y⟩:=y;subst e y;exact hs i σ _ hlt p
 .have e:i=n:=by lia
  subst e;exact .inl ⟨Q4 _,hd σ H p⟩
end
end L2
namespace L2
open PySem PySem.Spec PyProof.Rows Srt
section
variable {X:Cx}
def K3f (H:Hp) (a:Addr) (k:List Int):Prop:=∃i j m:Int,H a=some (.tup [.int i,.int j,.int m])/\k=[i,j,m]
theorem tS {x y z:V} {its:List Value} (r:Vals [x,y,z] its):∃u v w,its=[u,v,w]/\RelV x u/\RelV y v/\RelV z w:=by
 cases r with
 |cons r1 r=>
  obtain⟨v,w,rfl,h2,h3⟩:=tQ r;exact⟨_,v,w,rfl,r1,h2,h3⟩
theorem wH:eZ X (.builtin "sorted") (λvs H Q=>∃(p:Addr) (as:List Addr) (ky:Addr->List Int),vs=[.ref p]/\SqL X.K H p (as.map V.ref)/\(∀a∈as,K3f H a (ky a))/\
  ∀(l:Addr) (bs:List Addr),H l=none->bs.Perm as->bs.Pairwise (λa b=>HT.lexLt (ky b) (ky a)=false)->Q (.ref l) (upd H l (.lst (bs.map V.ref)))):=by
 intro pins s σ H xs us Q I r h;obtain⟨p,as,ky,rfl,hq,hk,q⟩:=h;obtain⟨u,rfl,ru⟩:=jG r;cases ru;obtain⟨its,rv,pl,hz⟩:=I.list hq;refine CH (κ:=tuples' (Value.type "int" !=Value.type "tuple")) (ky:=kRef ky) I hz rv pl.isList (λh' k h2 Q' hQ=>?_) (λh' k x y u v E' Q' hx hy rx ry hQ=>?_) λl ys hl pm pw=>?_
 .have tups:∀(bs:List Addr) (ws:List Value),(∀a∈bs,K3f H a (ky a))->Vals (bs.map V.ref) ws->∃fs:List Value,PySem.W.KatTups h' ws fs/\(∀f∈fs,∃i t,f=Value.int i t)/\fs.length=ws.length:=by
   intro bs
   induction bs with
   |nil=>intro ws _ r;cases r;exact⟨[],.nil,λ_ h=>absurd h QT,rfl⟩
   |cons a bs ih=>
    intro ws hk r;cases r with
    |cons r1 r2=>
     cases r1;obtain⟨fs,t,hi,hl⟩:=ih _ (λb hb=>hk b (Qd _ hb)) r2;obtain⟨i,j,m,ha,_⟩:=hk a Q9;obtain⟨o,its2,n,rv2,e,c,d⟩:=AJ I ha k;obtain⟨u1,u2,u3,rfl,q1,q2,q3⟩:=tS rv2;obtain⟨t1,rfl⟩:=q1;refine⟨Value.int i t1::fs,.cons e c d rfl t,λf hf=>?_,by rw[Qp,Qp,hl]⟩;rcases Qg.mp hf with z|z
     .exact⟨i,t1,z⟩
     .exact hi f z
  obtain⟨fs,t,hi,hl⟩:=tups as its hk rv;refine PySem.W.kat_kind (T:= .type "int") t (by lia) (λv hv=>?_) (by decide+kernel) hQ;obtain⟨i,t,rfl⟩:=hi v hv;exact PySem.W.Looks.of_pure rfl
 .obtain⟨a,ha,rfl⟩:=Qh.mp hx;obtain⟨b,hb,rfl⟩:=Qh.mp hy;cases rx;cases ry;obtain⟨i,j,m,ea,ka⟩:=hk a ha;obtain⟨i',j',m',eb,kb⟩:=hk b hb;have hQ:Q' (HT.lexLt (ky a) (ky b)) {s with heap:=h'}:=hQ;rw[ka,kb,HT.lexLt_cons,HT.lexLt_cons,HT.lexLt_cons,HT.lexLt_nil_nil]at hQ;obtain⟨o,its1,n,rv1,e1,c1,d1⟩:=AJ I ea k;obtain⟨u1,u2,u3,rfl,⟨t1,rfl⟩,⟨t2,rfl⟩,⟨t5,rfl⟩⟩:=tS rv1;obtain⟨o',its2,n',rv2,e2,c2,d2⟩:=AJ I eb k;obtain⟨w1,w2,w3,rfl,⟨t3,rfl⟩,⟨t4,rfl⟩,⟨t6,rfl⟩⟩:=tS rv2;refine PySem.W.kat_lt e1 d1 e2 d2 (XN (SeqAt.EqAt.int_int _ _ _ _ _ _ _ _ (V2 (λe=>XY ?_) (λe=>V3 ?_))))
  .rw[if_pos (beq_iff_eq.mp e)]at hQ;refine XN (SeqAt.EqAt.int_int _ _ _ _ _ _ _ _ (V2 (λe=>XY ?_) (λe=>V3 ?_)))
   .rw[if_pos (beq_iff_eq.mp e)]at hQ;refine XN (SeqAt.EqAt.int_int _ _ _ _ _ _ _ _ (V2 (λe=>XY ?_) (λe=>V3 ?_)))
    .rw[if_pos (beq_iff_eq.mp e)]at hQ;exact PySem.W.kat_nil (by simpa using hQ)
    .rw[if_neg (beq_eq_false_iff_ne.mp e)]at hQ;exact PySem.W.kat_one _ _ (lt_int hQ)
   .rw[if_neg (beq_eq_false_iff_ne.mp e)]at hQ;exact PySem.W.kat_one _ _ (lt_int hQ)
  .rw[if_neg (beq_eq_false_iff_ne.mp e)]at hQ;exact oneLt_int hQ
 .obtain⟨bs,rfl,pm'⟩:=CO pm;exact q l bs hl pm' (QO.mp pw)
end
end L2
namespace L2
open PySem PySem.Spec PyProof.Rows
variable {tg:Expr} {K:PySem.W.Frag}
section
end
section
def Itv (K:PySem.W.Frag) (a:Addr) (n:Nat):It:=
 ⟨λi H=>i<n/\∃xs x,SqL K H a xs/\xs[n-1-i]?=some x,λi H x H'=>H'=H/\∀xs,SqL K H a xs->xs[n-1-i]?=some x,λi _=>n<=i⟩
theorem Ee {P:Program} {w:World} (a it:Addr) (n:Nat):BF P w K tg (Itv K a n) [it] it (λi h=>i<=n/\h.IsRevIter it a ((n:Int)-1-(i:Int))) where
 mem:=by simp
 obj:=λi h st b hb=>by
  have e:b=it:=by simpa using hb
  subst e;obtain⟨_,o,e,c,d⟩:=st;exact⟨o,e,λv z=>by rw[d]at z;cases z⟩
 keep:=λi h h' st k=>⟨st.1,st.2.at λo e=>k it (by simp) o e⟩
 item:=by
  intro X hP hw hK hc i pins s σ H E I hf st hg;subst hP hw hK;obtain⟨hi,xs,x,hq,hx⟩:=hg;obtain⟨its,rv,p,hz⟩:=I.list hq;obtain⟨u,hu,ru⟩:=rv.get hx;obtain⟨f0,f1,f2,f3,f4,f5⟩:=hf it (by simp);have e1:(n:Int)-1-(i:Int)=((n-1-i:Nat):Int):=by lia
  have hit:=st.2;rw[e1]at hit;refine wpAny_pyNext_rev_item hit p.isList (x:=u) (by simpa using hu) λh' st' sb=>?_;have e2:((n-1-i:Nat):Int)-1=(n:Int)-1-((i+1:Nat):Int):=by lia
  rw[e2]at st';have I1:Inv X pins σ H {s with heap:=h'}:=I.turned (t':=s.toks) (λb o hb e=>(sb.2 b hb).trans e) f0 f1 f3 f4 f5;obtain⟨o,e,c,d⟩:=id st';exact⟨u,rfl,zT (s:={s with heap:=h'}) e c d (by decide) ⟨x,H,I1,ru,⟨rfl,λys hy=>by rw[I.list_inj hy hq];exact hx⟩,⟨hi,st'⟩,λb hb=>(hf b hb).1⟩⟩
 done:=by
  intro X hP hw hK hc i pins s σ H E I hf st hg;subst hP hw hK;obtain⟨f0,f1,f2,f3,f4,f5⟩:=hf it (by simp);have hit:=st.2;have hn:n<=i:=hg;have e:(n:Int)-1-(i:Int)= -1:=by have:=st.1;lia
  rw[e]at hit;exact wpAny_pyNext_rev_end (I.ok.hd hc) hit λh' eb=>⟨rfl,I.turned (t':=s.toks) (λb o hb e=>eb b o hb e) f0 f1 f3 f4 f5⟩
 self:=λ_ _ _ _ _ st h=>wpAny_pyIter_revIter st.2 h
section
variable {X:Cx}
def iRev (K:PySem.W.Frag) (ta:TA):TI:=λσ H R=>ta σ H λvs H1=>∃a xs,vs=[.ref a]/\SqL K H1 a xs/\R (Itv K a xs.length) H1
theorem Jc {a:Expr} {ta:TA} {p pos:Pos} (hg:Gl X "reversed") (hm:X.mg "reversed"=none) (ha:PA X [a] ta) (hs:starEach [a] X.env=[(false,eval a X.env)]:=by rfl):PI X tg (.Call (.Name "reversed" p) [a] [] pos) (iRev X.K ta):=by
 intro pins s σ H R I h;refine Call_ (rF I hg hm Boot.«reversed» (PyProof.Rows.callWith_type1 (thn (ha pos pins s σ H _ I h) λus s1 hzz=>?_) hs rfl));obtain⟨vs,H1,I1,r1,q1⟩:=hzz;obtain⟨b,xs,e,hq,q⟩:=q1;subst e;cases r1 with
 |cons r rr=>
  cases rr;cases r;obtain⟨its,rv,p,hz⟩:=I1.list hq;have hl:=rv.length;refine call_reversed_list p.isList ?_;refine wpAny_pyIter_revIter (l:=b) (i:=(its.toArray.size:Int)-1) ⟨_,Heap.get?_push_size _ rfl,rfl,rfl⟩ ?_;refine⟨s1.heap.objs.size,[s1.heap.objs.size],_,_,H1,rfl,I1.kept (t':=s1.toks) λb o e=>Heap.get?_push_of_some _ e,Ee b _ xs.length,⟨Qj _,?_⟩,λb hb=>?_,q⟩
  .have e:(xs.length:Int)-1-((0:Nat):Int)=(its.toArray.size:Int)-1:=by simp;lia
   rw[e];exact⟨_,Heap.get?_push_size _ rfl,rfl,rfl⟩
  .have e:b=s1.heap.objs.size:=by simpa using hb
   subst e;exact I1.fpOk (Q4 _) (I1.hok.fresh (Q4 _))
end
theorem Dw {a D:Addr} {xs:List V} {te:TE} {tc:TT} {σ:St} {H1:Hp} {Fin:Hp->Prop} (Pv:Nat->List V->Hp->Prop) (h0:Pv 0 [] (upd H1 D (.lst []))) (hl:∀i ys H,i<=xs.length->Pv i ys H->SqL K H a xs)
  (hs:∀i x ys H2,xs.reverse[i]?=some x->Pv i ys H2->H2 D=some (.lst ys)->tc (some x::σ) H2 λb H4=>if b=true then te (some x::σ) H4 (CNext xs.length i ys D Pv)else CSkip xs.length i ys D Pv H4)
  (hd:∀ys H2,Pv xs.length ys H2->H2 D=some (.lst ys)->Fin H2):
  ∃W:Nat->Nat->List V->Hp->Prop,(∃m,W 0 m [] (upd H1 D (.lst [])))/\∀i m ys H2,W i m ys H2->H2 D=some (.lst ys)->
   ((Itv K a xs.length).stop i H2/\Fin H2)\/((Itv K a xs.length).go i H2/\∀x H3,(Itv K a xs.length).yld i H2 x H3->tc (some x::σ) H3 λb H4=>if b=true then te (some x::σ) H4 λy H5=>H5 D=some (.lst ys)/\ys.length<sizeLine/\∃m',m'<m/\W (i+1) m' (ys++ [y]) (upd H5 D (.lst (ys++ [y])))else H4 D=some (.lst ys)/\∃m',m'<m/\W (i+1) m' ys H4):=by
 refine⟨λi m ys H=>m=xs.length-i/\i<=xs.length/\Pv i ys H,⟨xs.length,by simp,Qj _,h0⟩,?_⟩;rintro i m ys H ⟨rfl,hi,p⟩ hD;have q:=hl i ys H hi p;by_cases lt:i<xs.length
 .refine .inr ⟨⟨lt,xs,xs[xs.length-1-i]'(by lia),q,Q3 _⟩,λx H' y=>?_⟩;obtain⟨e,y⟩:=y;subst e;exact hs i x ys _ (by rw[List.getElem?_reverse lt];exact y xs q) p hD
 .have e:i=xs.length:=by lia
  subst e;exact .inl ⟨Q4 _,hd ys H p hD⟩
end
section
end
section
end
end L2
namespace SW
open PySem L2
set_option maxHeartbeats 0
variable {L a b c dx p q tb:Addr} {F F':Addr->Prop} {t:Adr} {up:Bool} {o:HO} {x':HSt} {H H':Hp} {W hi k lo m n sz:Int} {R:Int->Bool} {kv' kvs ps qs:List (Int×V)} {ls:List (List Int)} {fs r:List (Str×V)} {A:List Addr} {ks l x y:List Int} {pa':List Pk} {ts:List Tp} {xs:List V} {i i0 j:Nat} {E:Nat->Prop} {K:PySem.W.Frag} {st:SSt} {σ:St} {f:Str} {α β:Type} {av v:V} {Q:VK}
structure Txt (K:PySem.W.Frag) (mg:Str->Option Value) (t:Adr):Prop where
 Lm:mg "WalkError"=some (.ref t.bZ)
 Lr:mg "NoToken"=some (.ref t.nK)
 Lq:mg "OutOfTurn"=some (.ref t.Ae)
 Lu:mg "NoKey"=some (.ref t.Cp)
 Ln:mg "Twice"=some (.ref t.Co)
 Lp:mg "TooOld"=some (.ref t.Ad)
 Ls:mg "NoMoment"=some (.ref t.vi)
 zM:mg "Token"=some (.ref t.fP)
 uR:mg "BySlots"=some (.ref t.aT)
 EU:mg "Up"=some (.ref t.c8)
 Hb:mg "Down"=some (.ref t.bV)
 KP:mg "Page"=some (.ref t.cW)
 J0:mg "Copier"=some (.ref t.a6)
 JZ:mg "Leaves"=some (.ref t.bx)
 Ky:mg "Makes"=some (.ref t.fQ)
 Kx:mg "Slots"=some (.ref t.aY)
 Kz:mg "House"=some (.ref t.aK)
 Md:Fun K "__init__" "NoKey.__init__" nT t.Gs t.ot
 LU:Binds K t.ot ["self","key"] []
 L9:Fun K "__init__" "Twice.__init__" nS t.Gr t.oo
 LQ:Binds K t.oo ["self","key"] []
 Ma:Fun K "__init__" "TooOld.__init__" lP t.FT t.mH
 LR:Binds K t.mH ["self","moment"] []
 Mc:Fun K "__init__" "NoMoment.__init__" jH t.DG t.jO
 LT:Binds K t.jO ["self","moment"] []
 zO:mg "turned"=some (.ref t.Ai)
 vA:Fun K "turned" "turned" uy t.Ai t.vd
 Ag:Binds K t.vd ["number"] []
 De:mg "mark_of"=some (.ref t.xL)
 xQ:Fun K "mark_of" "mark_of" qW t.xL t.rO
 DD:Binds K t.rO ["key"] []
 Bp:mg "place_of"=some (.ref t.vo)
 vC:Fun K "place_of" "place_of" oV t.vo t.pq
 BA:Binds K t.pq ["key"] []
 xk:mg "slot_of"=some (.ref t.xJ)
 rT:Fun K "slot_of" "slot_of" qU t.xJ t.rM
 xH:Binds K t.rM ["key","size"] []
 Hk:mg "stretch_of"=some (.ref t.qo)
 yV:Fun K "stretch_of" "stretch_of" jX t.qo t.kB
 Hy:Binds K t.kB ["slot","size"] []
 Dd:mg "slot_at"=some (.ref t.xK)
 xP:Fun K "slot_at" "slot_at" qV t.xK t.rN
 DB:Binds K t.rN ["place","size"] []
 Jj:mg "is_whole"=some (.ref t.vp)
 BG:Fun K "is_whole" "is_whole" oW t.vp t.pz
 JK:Binds K t.pz ["thing"] []
 jL:mg "is_from"=some (.ref t.xN)
 gR:Fun K "is_from" "is_from" qY t.xN t.rQ
 jQ:Binds K t.rQ ["thing","low"] []
 Dc:mg "word_of"=some (.ref t.xI)
 xO:Fun K "word_of" "word_of" qT t.xI t.rL
 DA:Binds K t.rL ["bound"] []
 jF:Fun K "__init__" "Token.__init__" i6 t.jE t.jp
 ou:Binds K t.jp ["self","kind","at","end"] []
 FX:Fun K "words" "Token.words" gZ t.cX t.iF
 mM:Binds K t.iF ["self"] []
 D3:FunD K "__init__" "BySlots.__init__" f9 t.kY t.cn
 tE:Binds K t.cn ["self","at","end"] []
 L8:iM K t.cn ["self","at","end"] [(.int (65536))]
 L3:iM K t.cn ["self","at","end"] [(.int (0)),(.int (65536))]
 DM:Fun K "holds" "BySlots.holds" fu t.jV t.fH
 jR:Binds K t.fH ["self","key"] []
 JV:FunD K "__init__" "Up.__init__" oX t.vt t.iE
 BB:Binds K t.iE ["self","at","end"] []
 L4:iM K t.iE ["self","at","end"] [.non]
 LY:iM K t.iE ["self","at","end"] [(.int (0)),.non]
 IG:Fun K "holds" "Up.holds" lO t.sv t.mG
 mL:Binds K t.mG ["self","key"] []
 HU:FunD K "__init__" "Down.__init__" ko t.qE t.eX
 yR:Binds K t.eX ["self","at","end"] []
 L7:iM K t.eX ["self","at","end"] [(.int (0))]
 LZ:iM K t.eX ["self","at","end"] [.non,(.int (0))]
 GG:Fun K "holds" "Down.holds" ji t.oN t.jC
 jD:Binds K t.jC ["self","key"] []
 Ip:mg "ask"=some (.ref t.IC)
 FW:FunD K "ask" "ask" Es t.IC t.z6
 b_ask:Binds K t.z6 ["house","token","many","sieve"] []
 BC:iM K t.z6 ["house","token","many","sieve"] [.non]
 JM:iM K t.z6 ["house","token","many","sieve"] [(.int (10)),.non]
 DR:mg "page_by_slots"=some (.ref t.kT)
 tG:Fun K "page_by_slots" "page_by_slots" fY t.kT t.gj
 DT:Binds K t.gj ["slots","token","many"] []
 E2:mg "page_by_keys"=some (.ref t.mR)
 vD:Fun K "page_by_keys" "page_by_keys" eh t.mR t.iA
 FM:Binds K t.iA ["house","token","many"] []
 E3:mg "keys_of_page"=some (.ref t.mS)
 vE:Fun K "keys_of_page" "keys_of_page" eB t.mS t.iB
 FN:Binds K t.iB ["leaves","token","many"] []
 Io:mg "keys_near"=some (.ref t.sk)
 Ak:Fun K "keys_near" "keys_near" lL t.sk t.mC
 Iy:Binds K t.mC ["leaves","token","most"] []
 E1:mg "token_behind"=some (.ref t.mQ)
 vB:Fun K "token_behind" "token_behind" gV t.mQ t.iz
 FL:Binds K t.iz ["token","key"] []
 J6:mg "is_left"=some (.ref t.xM)
 DI:Fun K "is_left" "is_left" qX t.xM t.rP
 J7:Binds K t.rP ["token","key"] []
 HQ:Fun K "__init__" "Page.__init__" kf t.qB t.kM
 HG:Binds K t.kM ["self","token"] []
 HP:Fun K "read" "Page.read" j9 t.qA t.kL
 HF:Binds K t.kL ["self","house","many"] []
 DY:Fun K "outcome" "Page.outcome" fZ t.kU t.gk
 DU:Binds K t.gk ["self"] []
 F7:FunD K "__init__" "Copier.__init__" g9 t.mY t.eY
 LX:Binds K t.eY ["self","house","token","stopped"] []
 tF:iM K t.eY ["self","house","token","stopped"] [.non]
 AB:Fun K "open_page" "Copier.open_page" dj t.gF t.dD
 Ax:Binds K t.dD ["self"] []
 AA:FunD K "read_page" "Copier.read_page" dh t.gE t.b5
 Aw:Binds K t.b5 ["self","many"] []
 mP:iM K t.b5 ["self","many"] [(.int (10))]
 Ao:Fun K "close_page" "Copier.close_page" cN t.fX t.cV
 Ah:Binds K t.cV ["self"] []
 DK:Fun K "follow" "Copier.follow" fk t.jT t.fF
 rS:Binds K t.fF ["self","steps"] []
 y6:Fun K "follow_mark" "Copier.follow_mark" cr t.fc t.cu
 y4:Binds K t.cu ["self","number"] []
 Ga:Fun K "copy" "Copier.copy" hJ t.mZ t.iI
 mO:Binds K t.iI ["self"] []
 DL:Fun K "covers" "Copier.covers" fo t.jU t.fG
 DE:Binds K t.fG ["self","key"] []
 D0:Fun K "place" "Copier.place" f8 t.kX t.gr
 DX:Binds K t.gr ["self"] []
 F6:Fun K "left" "Copier.left" g8 t.mX t.iH
 FQ:Binds K t.iH ["self"] []
 DZ:Fun K "total" "Copier.total" f7 t.kW t.gp
 DW:Binds K t.gp ["self"] []
 FY:Fun K "__init__" "Leaves.__init__" g6 t.mV t.iG
 FP:Binds K t.iG ["self"] []
 GC:Fun K "add" "Leaves.add" fK t.oH t.jy
 Go:Binds K t.jy ["self","key"] []
 Cz:Fun K "discard" "Leaves.discard" eE t.i4 t.eT
 Cs:Binds K t.eT ["self","key"] []
 GB:Fun K "has" "Leaves.has" je t.oG t.jx
 wL:Binds K t.jx ["self","key"] []
 Me:Fun K "many" "Leaves.many" lR t.vx t.mJ
 LV:Binds K t.mJ ["self"] []
 Cy:Fun K "from_on" "Leaves.from_on" cw t.iZ t.eS
 Cr:Binds K t.eS ["self","key","most"] []
 Az:Fun K "down_from" "Leaves.down_from" b4 t.gB t.dC
 Av:Binds K t.dC ["self","key","most"] []
 Cw:Fun K "leaf_of" "Leaves.leaf_of" eD t.iY t.eQ
 cH:Binds K t.eQ ["self","key"] []
 Ay:Fun K "part_leaf" "Leaves.part_leaf" de t.gA t.dB
 Au:Binds K t.dB ["self","at"] []
 An:Fun K "join_small" "Leaves.join_small" cM t.fW t.cU
 mN:Binds K t.cU ["self","at"] []
 GA:Fun K "__init__" "Makes.__init__" jd t.oE t.jw
 Gn:Binds K t.jw ["self"] []
 Gz:Fun K "note" "Makes.note" jc t.oC t.jv
 Gm:Binds K t.jv ["self","moment","value"] []
 rZ:mg "empty_row"=some (.ref t.sr)
 m4:Fun K "empty_row" "empty_row" iP t.sr t.mD
 sj:Binds K t.mD ["size"] []
 Gx:Fun K "__init__" "Slots.__init__" i8 t.oA t.jt
 Gj:Binds K t.jt ["self"] []
 HL:Fun K "put" "Slots.put" j6 t.qw t.kI
 HC:Binds K t.kI ["self","key","value"] []
 Gy:Fun K "drop" "Slots.drop" i9 t.oB t.ju
 Gk:Binds K t.ju ["self","key"] []
 HN:Fun K "get" "Slots.get" j8 t.qz t.kK
 HE:Binds K t.kK ["self","key"] []
 HM:Fun K "has" "Slots.has" j7 t.qy t.kJ
 yQ:Binds K t.kJ ["self","key"] []
 Gw:Fun K "rows" "Slots.rows" fJ t.oz t.js
 wK:Binds K t.js ["self"] []
 Mb:Fun K "moved" "Slots.moved" lQ t.vv t.mI
 LS:Binds K t.mI ["self"] []
 Gv:Fun K "span" "Slots.span" dF t.oy t.jr
 Gi:Binds K t.jr ["self","low","high"] []
 Gu:Fun K "stop" "Slots.stop" i7 t.ox t.jq
 wJ:Binds K t.jq ["self","place"] []
 DJ:Fun K "cell_of" "Slots.cell_of" fj t.jS t.fE
 fI:Binds K t.fE ["self","key"] []
 Cv:Fun K "lying_at" "Slots.lying_at" eC t.iX t.eP
 Cq:Binds K t.eP ["self","place"] []
 BI:Fun K "move_slot" "Slots.move_slot" dP t.iJ t.dR
 pE:Binds K t.dR ["self"] []
 BJ:Fun K "begin_row" "Slots.begin_row" dQ t.iK t.dS
 pF:Binds K t.dS ["self"] []
 GD:Fun K "__init__" "House.__init__" jf t.oJ t.jz
 Gp:Binds K t.jz ["self"] []
 HR:Fun K "put" "House.put" kg t.qC t.kN
 HH:Binds K t.kN ["self","key","value"] []
 GE:Fun K "drop" "House.drop" jg t.oK t.jA
 Gq:Binds K t.jA ["self","key"] []
 HS:Fun K "get" "House.get" kh t.qD t.kO
 HI:Binds K t.kO ["self","key"] []
 Mf:Fun K "has" "House.has" pQ t.yT t.qj
 LW:Binds K t.qj ["self","key"] []
 CA:Fun K "lay_mark" "House.lay_mark" eF t.i5 t.eU
 qm:Binds K t.eU ["self"] []
 FZ:FunD K "diary" "House.diary" g7 t.mW t.eV
 vm:Binds K t.eV ["self","low"] []
 gs:iM K t.eV ["self","low"] [(.int (0))]
 GF:Fun K "done" "House.done" jh t.oM t.jB
 wM:Binds K t.jB ["self","row","value"] []
 uV:mg "_law_cell_at"=some (.ref t.mU)
 m5:Fun K "_law_cell_at" "_law_cell_at" gY t.mU t.iD
 vk:Binds K t.iD ["_law_script","_law_k"] []
 yA:mg "_law_mixed"=some (.ref t.qt)
 qH:Fun K "_law_mixed" "_law_mixed" j3 t.qt t.kF
 yP:Binds K t.kF ["_law_cell","_law_k"] []
 yz:mg "_law_place"=some (.ref t.qr)
 qG:Fun K "_law_place" "_law_place" j2 t.qr t.kE
 yO:Binds K t.kE ["_law_key"] []
 Jk:mg "_law_run"=some (.ref t.vq)
 BH:Fun K "_law_run" "_law_run" gW t.vq t.pA
 JL:Binds K t.pA ["_law_cell"] []
 Ir:mg "_law_deed"=some (.ref t.su)
 Am:Fun K "_law_deed" "_law_deed" lN t.su t.mF
 IA:Binds K t.mF ["_law_house_here","_law_kept","_law_cell"] []
 Hm:mg "_law_house"=some (.ref t.qu)
 yX:Fun K "_law_house" "_law_house" j4 t.qu t.kG
 HA:Binds K t.kG ["_law_cells"] []
 As:mg "_law_numbers_told"=some (.ref t.gx)
 nQ:Fun K "_law_numbers_told" "_law_numbers_told" db t.gx t.dA
 At:Binds K t.dA ["_law_kind","_law_cell"] []
 E4:mg "_law_numbers"=some (.ref t.mT)
 vF:Fun K "_law_numbers" "_law_numbers" gX t.mT t.iC
 FO:Binds K t.iC ["_law_cell","_law_keys"] []
 Hl:mg "_law_token"=some (.ref t.qq)
 yW:Fun K "_law_token" "_law_token" jZ t.qq t.kD
 Hz:Binds K t.kD ["_law_numbers_here"] []
 Hn:mg "_law_holds"=some (.ref t.qv)
 yY:Fun K "_law_holds" "_law_holds" j5 t.qv t.kH
 HB:Binds K t.kH ["_law_numbers_here","_law_key"] []
 yx:mg "_law_words"=some (.ref t.qp)
 qF:Fun K "_law_words" "_law_words" jY t.qp t.kC
 yN:Binds K t.kC ["_law_token_here"] []
 Iq:mg "_law_read"=some (.ref t.ss)
 Al:Fun K "_law_read" "_law_read" lM t.ss t.mE
 Iz:Binds K t.mE ["_law_copier","_law_house_here","_law_token_here","_law_cell"] []
 KU:mg "law"=some (.ref t.IB)
 KM:Fun K "law" "law" zp t.IB t.Cn
 b_law:Binds K t.Cn ["_law_script"] []
 K5:BE K t.bZ (([]:List Addr).map Value.ref++rV)
 La:BE K t.nK (([t.bZ]:List Addr).map Value.ref++rV)
 K9:BE K t.Ae (([t.bZ]:List Addr).map Value.ref++rV)
 Lk:NoAttr K t.Cp "key"
 Lc:BE K t.Cp (([t.bZ]:List Addr).map Value.ref++rV)
 Le:NoAttr K t.Co "key"
 K7:BE K t.Co (([t.bZ]:List Addr).map Value.ref++rV)
 Lf:NoAttr K t.Ad "moment"
 K8:BE K t.Ad (([t.bZ]:List Addr).map Value.ref++rV)
 Lj:NoAttr K t.vi "moment"
 Lb:BE K t.vi (([t.bZ]:List Addr).map Value.ref++rV)
 Lg:NoAttr K t.fP "kind"
 Li:NoAttr K t.fP "at"
 Lh:NoAttr K t.fP "end"
 LP:Cls K t.fP
 Ll:Mk K t.fP t.jE
 KW:XIs K t.fP
 LB:PySem.W.kitOne K (.ref t.fP) (.ref t.aT)=some false
 LA:PySem.W.kitOne K (.ref t.fP) (.ref t.c8)=some false
 Lv:bI K t.fP "words" t.cX
 tx:NoAttr K t.aT "kind"
 jk:NoAttr K t.aT "at"
 b9:NoAttr K t.aT "end"
 bC:Cls K t.aT
 Bj:Mk K t.aT t.kY
 oO:XIs K t.aT
 Bs:PySem.W.kitOne K (.ref t.aT) (.ref t.aT)=some true
 LO:PySem.W.kitOne K (.ref t.aT) (.ref t.c8)=some false
 Db:bI K t.aT "words" t.cX
 jK:bI K t.aT "holds" t.jV
 Bh:NoAttr K t.c8 "kind"
 p6:NoAttr K t.c8 "at"
 jJ:NoAttr K t.c8 "end"
 gw:Cls K t.c8
 Kt:Mk K t.c8 t.vt
 lu:XIs K t.c8
 Gh:PySem.W.kitOne K (.ref t.c8) (.ref t.aT)=some false
 Fd:PySem.W.kitOne K (.ref t.c8) (.ref t.c8)=some true
 Im:bI K t.c8 "words" t.cX
 mr:bI K t.c8 "holds" t.sv
 yt:NoAttr K t.bV "kind"
 iq:NoAttr K t.bV "at"
 iU:NoAttr K t.bV "end"
 b6:Cls K t.bV
 Ha:Mk K t.bV t.qE
 d7:XIs K t.bV
 DS:PySem.W.kitOne K (.ref t.bV) (.ref t.aT)=some false
 Br:PySem.W.kitOne K (.ref t.bV) (.ref t.c8)=some false
 Gg:bI K t.bV "words" t.cX
 jn:bI K t.bV "holds" t.oN
 wA:NoAttr K t.cW "asked"
 dH:NoAttr K t.cW "found"
 n8:NoAttr K t.cW "ahead"
 wz:NoAttr K t.cW "noted"
 dM:NoAttr K t.cW "closing"
 bO:Cls K t.cW
 KO:Mk K t.cW t.qB
 KZ:XIs K t.cW
 LF:PySem.W.kitOne K (.ref t.cW) (.ref t.aT)=some false
 LE:PySem.W.kitOne K (.ref t.cW) (.ref t.c8)=some false
 Hg:bI K t.cW "read" t.qA
 DO:bI K t.cW "outcome" t.kU
 dN:NoAttr K t.a6 "house"
 tw:NoAttr K t.a6 "first"
 cT:NoAttr K t.a6 "rest"
 bB:NoAttr K t.a6 "followed"
 fA:NoAttr K t.a6 "copied"
 b8:NoAttr K t.a6 "page"
 aF:Cls K t.a6
 JY:Mk K t.a6 t.mY
 K4:XIs K t.a6
 LN:PySem.W.kitOne K (.ref t.a6) (.ref t.aT)=some false
 LM:PySem.W.kitOne K (.ref t.a6) (.ref t.c8)=some false
 Ar:bI K t.a6 "open_page" t.gF
 nO:bI K t.a6 "read_page" t.gE
 zN:bI K t.a6 "close_page" t.fX
 rD:bI K t.a6 "follow" t.jT
 y3:bI K t.a6 "follow_mark" t.fc
 mw:bI K t.a6 "copy" t.mZ
 Da:bI K t.a6 "covers" t.jU
 DQ:bI K t.a6 "place" t.kX
 EY:bI K t.a6 "left" t.mX
 DP:bI K t.a6 "total" t.kW
 aB:NoAttr K t.bx "leaves"
 aL:Cls K t.bx
 JX:Mk K t.bx t.mV
 K2:XIs K t.bx
 LJ:PySem.W.kitOne K (.ref t.bx) (.ref t.aT)=some false
 LI:PySem.W.kitOne K (.ref t.bx) (.ref t.c8)=some false
 Ge:bI K t.bx "add" t.oH
 B6:bI K t.bx "discard" t.i4
 wF:bI K t.bx "has" t.oG
 Lx:bI K t.bx "many" t.vx
 B0:bI K t.bx "from_on" t.iZ
 Aq:bI K t.bx "down_from" t.gB
 cE:bI K t.bx "leaf_of" t.iY
 Ap:bI K t.bx "part_leaf" t.gA
 mt:bI K t.bx "join_small" t.fW
 wB:NoAttr K t.fQ "made"
 Ab:Cls K t.fQ
 Kv:Mk K t.fQ t.oE
 K0:XIs K t.fQ
 LH:PySem.W.kitOne K (.ref t.fQ) (.ref t.aT)=some false
 LG:PySem.W.kitOne K (.ref t.fQ) (.ref t.c8)=some false
 Gd:bI K t.fQ "note" t.oC
 aX:NoAttr K t.aY "table"
 bP:NoAttr K t.aY "shifted"
 bH:NoAttr K t.aY "kept"
 aG:Cls K t.aY
 Ku:Mk K t.aY t.oA
 KY:XIs K t.aY
 LD:PySem.W.kitOne K (.ref t.aY) (.ref t.aT)=some false
 LC:PySem.W.kitOne K (.ref t.aY) (.ref t.c8)=some false
 He:bI K t.aY "put" t.qw
 Gc:bI K t.aY "drop" t.oB
 Hf:bI K t.aY "get" t.qz
 yw:bI K t.aY "has" t.qy
 wE:bI K t.aY "rows" t.oz
 Lw:bI K t.aY "moved" t.vv
 Gb:bI K t.aY "span" t.oy
 wD:bI K t.aY "stop" t.ox
 fB:bI K t.aY "cell_of" t.jS
 BZ:bI K t.aY "lying_at" t.iX
 o9:bI K t.aY "move_slot" t.iJ
 pe:bI K t.aY "begin_row" t.iK
 ku:NoAttr K t.aK "now"
 ER:NoAttr K t.aK "floor"
 cR:NoAttr K t.aK "slots"
 gh:NoAttr K t.aK "leaves"
 fz:NoAttr K t.aK "written"
 ip:NoAttr K t.aK "marks"
 wC:NoAttr K t.aK "past"
 CZ:NoAttr K t.aK "holders"
 aN:Cls K t.aK
 Kw:Mk K t.aK t.oJ
 K3:XIs K t.aK
 LL:PySem.W.kitOne K (.ref t.aK) (.ref t.aT)=some false
 LK:PySem.W.kitOne K (.ref t.aK) (.ref t.c8)=some false
 Hh:bI K t.aK "put" t.qC
 Gf:bI K t.aK "drop" t.oK
 Hj:bI K t.aK "get" t.qD
 Lz:bI K t.aK "has" t.yT
 p9:bI K t.aK "lay_mark" t.i5
 iw:bI K t.aK "diary" t.mW
 wG:bI K t.aK "done" t.oM
 nZ:FU K t.fP "__init__" (.ref t.jE)
 Ld:FU K t.bZ "__init__" (.builtin "ValueError.__init__")
 g_BITS:∃tk,mg "BITS"=some (.int 16 tk)
 g_PLACES:∃tk,mg "PLACES"=some (.int 65536 tk)
 g_STRETCHES_A_KEY:∃tk,mg "STRETCHES_A_KEY"=some (.int 4 tk)
 g_MOST_IN_LEAF:∃tk,mg "MOST_IN_LEAF"=some (.int 8 tk)
 g_LEAST_IN_TWO:∃tk,mg "LEAST_IN_TWO"=some (.int 5 tk)
 g_LEAST_SIZE:∃tk,mg "LEAST_SIZE"=some (.int 4 tk)
 g_GREATEST_SIZE:∃tk,mg "GREATEST_SIZE"=some (.int 256 tk)
 KQ:mg "bool"=none
 AC:mg "dict"=none
 KS:mg "int"=none
 gG:mg "isinstance"=none
 bM:mg "len"=none
 D6:mg "list"=none
 D5:mg "max"=none
 y7:mg "min"=none
 m6:mg "range"=none
 IH:mg "reversed"=none
 D4:mg "sorted"=none
 KR:mg "str"=none
 J8:mg "sum"=none
theorem sc_turned:ao ["number","told","rest","step"] ["number"] (ak uy):=fsc
theorem AW:ao ["key"] ["key"] (ak qW):=fsc
theorem zm:ao ["key"] ["key"] (ak oV):=fsc
theorem AU:ao ["key","size"] ["key","size"] (ak qU):=fsc
theorem sc_stretch_of:ao ["slot","size","low"] ["slot","size"] (ak jX):=fsc
theorem AV:ao ["place","size"] ["place","size"] (ak qV):=fsc
theorem zn:ao ["thing"] ["thing"] (ak oW):=fsc
theorem AY:ao ["thing","low"] ["thing","low"] (ak qY):=fsc
theorem AT:ao ["bound"] ["bound"] (ak qT):=fsc
theorem uk:ao ["self","kind","at","end"] ["self","kind","at","end"] (ak i6):=fsc
theorem sN:ao ["self"] ["self"] (ak gZ):=fsc
theorem qR:ao ["self","at","end"] ["self","at","end"] (ak f9):=fsc
theorem pP:ao ["self","key"] ["self","key"] (ak fu):=fsc
theorem zo:ao ["self","at","end"] ["self","at","end"] (ak oX):=fsc
theorem yc:ao ["self","key"] ["self","key"] (ak lO):=fsc
theorem we:ao ["self","at","end"] ["self","at","end"] (ak ko):=fsc
theorem ux:ao ["self","key"] ["self","key"] (ak ji):=fsc
theorem sc_ask:ao ["house","token","many","sieve","page"] ["house","token","many","sieve"] (ak Es):=fsc
theorem sc_page_by_slots:ao ["slots","token","many","rows","reached","gone","stop"] ["slots","token","many"] (ak fY):=fsc
theorem sc_page_by_keys:ao ["house","token","many","page"] ["house","token","many"] (ak eh):=fsc
theorem sc_keys_of_page:ao ["leaves","token","many","most","held","page"] ["leaves","token","many"] (ak eB):=fsc
theorem ya:ao ["leaves","token","most"] ["leaves","token","most"] (ak lL):=fsc
theorem sL:ao ["token","key"] ["token","key"] (ak gV):=fsc
theorem AX:ao ["token","key"] ["token","key"] (ak qX):=fsc
theorem v8:ao ["self","token"] ["self","token"] (ak kf):=fsc
theorem sc_Page__read:ao ["self","house","many","answer"] ["self","house","many"] (ak j9):=fsc
theorem sc_Page__outcome:ao ["self","table","row"] ["self"] (ak fZ):=fsc
theorem sc_Copier__init:ao ["self","house","token","stopped"] ["self","house","token","stopped"] (ak g9):=fsc
theorem lK:ao ["self"] ["self"] (ak dj):=fsc
theorem sc_Copier__read_page:ao ["self","many","page"] ["self","many"] (ak dh):=fsc
theorem sc_Copier__close_page:ao ["self","page"] ["self"] (ak cN):=fsc
theorem sc_Copier__follow:ao ["self","steps","rows","row"] ["self","steps"] (ak fk):=fsc
theorem sc_Copier__follow_mark:ao ["self","number","page"] ["self","number"] (ak cr):=fsc
theorem sR:ao ["self"] ["self"] (ak hJ):=fsc
theorem pO:ao ["self","key"] ["self","key"] (ak fo):=fsc
theorem qQ:ao ["self"] ["self"] (ak f8):=fsc
theorem sQ:ao ["self"] ["self"] (ak g8):=fsc
theorem qP:ao ["self"] ["self"] (ak f7):=fsc
theorem sO:ao ["self"] ["self"] (ak g6):=fsc
theorem sc_Leaves__add:ao ["self","key","at","leaf"] ["self","key"] (ak fK):=fsc
theorem sc_Leaves__discard:ao ["self","key","at"] ["self","key"] (ak eE):=fsc
theorem sc_Leaves__has:ao ["self","key","at"] ["self","key"] (ak je):=fsc
theorem sc_Leaves__from_on:ao ["self","key","most","told","at"] ["self","key","most"] (ak cw):=fsc
theorem sc_Leaves__down_from:ao ["self","key","most","told","at"] ["self","key","most"] (ak b4):=fsc
theorem sc_Leaves__leaf_of:ao ["self","key","low","high","middle"] ["self","key"] (ak eD):=fsc
theorem sc_Leaves__part_leaf:ao ["self","at","leaf","middle"] ["self","at"] (ak de):=fsc
theorem sc_Leaves__join_small:ao ["self","at","both"] ["self","at"] (ak cM):=fsc
theorem uu:ao ["self"] ["self"] (ak jd):=fsc
theorem ut:ao ["self","moment","value"] ["self","moment","value"] (ak jc):=fsc
theorem yb:ao ["size"] ["size"] (ak iP):=fsc
theorem uq:ao ["self"] ["self"] (ak i8):=fsc
theorem sc_Slots__put:ao ["self","key","value","cell"] ["self","key","value"] (ak j6):=fsc
theorem ur:ao ["self","key"] ["self","key"] (ak i9):=fsc
theorem sc_Slots__get:ao ["self","key","cell"] ["self","key"] (ak j8):=fsc
theorem vZ:ao ["self","key"] ["self","key"] (ak j7):=fsc
theorem uo:ao ["self"] ["self"] (ak fJ):=fsc
theorem sc_Slots__span:ao ["self","low","high","found","reached","end","inside"] ["self","low","high"] (ak dF):=fsc
theorem sc_Slots__stop:ao ["self","place","size"] ["self","place"] (ak i7):=fsc
theorem sc_Slots__cell_of:ao ["self","key","old","slot","new"] ["self","key"] (ak fj):=fsc
theorem sc_Slots__lying_at:ao ["self","place","size","found","row","slot","key","value"] ["self","place"] (ak eC):=fsc
theorem sc_Slots__move_slot:ao ["self","old","new","key","value"] ["self"] (ak dP):=fsc
theorem sc_Slots__begin_row:ao ["self","size"] ["self"] (ak dQ):=fsc
theorem uv:ao ["self"] ["self"] (ak jf):=fsc
theorem v9:ao ["self","key","value"] ["self","key","value"] (ak kg):=fsc
theorem uw:ao ["self","key"] ["self","key"] (ak jg):=fsc
theorem wc:ao ["self","key"] ["self","key"] (ak kh):=fsc
theorem oU:ao ["self"] ["self"] (ak eF):=fsc
theorem sP:ao ["self","low"] ["self","low"] (ak g7):=fsc
theorem sc_House__done:ao ["self","row","value","key"] ["self","row","value"] (ak jh):=fsc
theorem sM:ao ["_law_script","_law_k"] ["_law_script","_law_k"] (ak gY):=fsc
theorem sc__law_mixed:ao ["_law_cell","_law_k","_law_number"] ["_law_cell","_law_k"] (ak j3):=fsc
theorem sc__law_place:ao ["_law_key","_law_mark","_law_found","_law_k"] ["_law_key"] (ak j2):=fsc
theorem sc__law_run:ao ["_law_cell","_law_start","_law_number","_law_way","_law_step"] ["_law_cell"] (ak gW):=fsc
theorem sc__law_deed:ao ["_law_house_here","_law_kept","_law_cell","_law_keys","_law_k","_law_value"] ["_law_house_here","_law_kept","_law_cell"] (ak lN):=fsc
theorem sc__law_house:ao ["_law_cells","_law_house_here","_law_kept","_law_cell"] ["_law_cells"] (ak j4):=fsc
theorem sc__law_numbers_told:ao ["_law_kind","_law_cell","_law_low","_law_high"] ["_law_kind","_law_cell"] (ak db):=fsc
theorem sc__law_numbers:ao ["_law_cell","_law_keys","_law_kind","_law_number","_law_low","_law_high"] ["_law_cell","_law_keys"] (ak gX):=fsc
theorem vY:ao ["_law_numbers_here"] ["_law_numbers_here"] (ak jZ):=fsc
theorem sc__law_holds:ao ["_law_numbers_here","_law_key","_law_kind","_law_at","_law_end"] ["_law_numbers_here","_law_key"] (ak j5):=fsc
theorem vX:ao ["_law_token_here"] ["_law_token_here"] (ak jY):=fsc
theorem sc__law_read:ao ["_law_copier","_law_house_here","_law_token_here","_law_cell","_law_many"] ["_law_copier","_law_house_here","_law_token_here","_law_cell"] (ak lM):=fsc
theorem sc_law:ao ["_law_script","_law_house_here","_law_kept","_law_numbers_here","_law_token_here","_law_cell","_law_copier","_law_before","_law_opening","_law_told","_law_found","_law_rows","_law_closing","_law_rest","_law_key","_law_due"] ["_law_script"] (ak zp):=fsc
def Sc:V->Prop
 | .non=>True| .bl _=>True| .int _=>True| .str _=>True|_=>False
theorem T0 (z:Int):Sc (.int z):=True.intro
def isW:V->Bool
 | .int _=>true|_=>false
def Fr (F F':Addr->Prop) (H H':Hp):Prop:=∀b o,¬F b->H b=some o->H' b=some o/\¬F' b
theorem Fr.refl:Fr F F H H:=λ_ _ n e=>⟨e,n⟩
theorem Fr.trans {F'':Addr->Prop} {H'':Hp} (x:Fr F F' H H') (y:Fr F' F'' H' H''):Fr F F'' H H'':=λb o n e=>y b o (x b o n e).2 (x b o n e).1
theorem Fr.of_same (s:Same H H'):Fr F F H H':=λb o n e=>⟨s b o e,n⟩
def aJ (kv:List (Int×V)):List (Key×V):=kv.map λp=>(Sum.inl p.1,p.2)
theorem liftK_val {kv:List (Int×V)}:aO (aJ kv) (Sum.inl k:Key)=aO kv k:=by
 induction kv with
 |nil=>rfl
 |cons p r ih=>
  show aO ((Sum.inl p.1,p.2)::aJ r) (Sum.inl k:Key)=_;by_cases e:p.1=k
  .rw[bp e,bp (by show(Sum.inl p.1:Key)=_;rw[e])]
  .rw[bj e,bj (by show ¬(Sum.inl p.1:Key)=_;exact λz=>e (Sum.inl.inj z)),ih]
theorem Dg {kv:List (Int×V)}:((aJ kv).any λx=>decide (x.1=(Sum.inl k:Key)))=kv.any λx=>decide (x.1=k):=by
 rw[cK,cK,liftK_val]
theorem gQ {kv:List (Int×V)}:bv (aJ kv) (Sum.inl k:Key) v=aJ (bv kv k v):=by
 unfold bv;rw[Dg];by_cases c:(kv.any λx=>decide (x.1=k))=true
 .rw[if_pos c,if_pos c];unfold aJ;rw[Qu,Qu];refine Zd λp _=>?_;show(if(Sum.inl p.1:Key)=Sum.inl k then _ else _)=_;by_cases e:p.1=k
  .rw[if_pos (by rw[e])];simp[e]
  .rw[if_neg λz=>e (Sum.inl.inj z)];simp[e]
 .rw[if_neg c,if_neg c];unfold aJ;rw[Qc];rfl
theorem uX {kv:List (Int×V)}:bT (aJ kv) (Sum.inl k:Key)=aJ (bT kv k):=by
 unfold bT aJ;rw[List.filter_map];congr 1;refine XI λp _=>?_;show decide ((Sum.inl p.1:Key)≠Sum.inl k)=_;by_cases e:p.1=k
 .rw[e];simp
 .have:¬(Sum.inl p.1:Key)=Sum.inl k:=λz=>e (Sum.inl.inj z);simp[e,this]
theorem cq {kv:List (Int×V)}:(aJ kv).length=kv.length:=Q0 _
theorem lU {f:Str} {v:V}:∀fs:List (Str×V),(a8 f v fs).length<=fs.length+1
 | []=>Q4 _
 |(g,x)::r=>by
  rw[a8];split
  .rw[Qp,Qp];lia
  .have:=lU (f:=f) (v:=v) r;rw[Qp,Qp];lia
section
variable {κ:Type} [DecidableEq κ] {kv:List (κ×V)} {k j:κ}
theorem fh:∀{kv:List (κ×V)},aO (bT kv k) j=if j=k then none else aO kv j
 | []=>by
  show aO ([]:List (κ×V)) j=_;rw[lE];split<;>rfl
 |p::r=>by
  by_cases e:p.1=k
  .rw[rK e,fh];by_cases z:j=k
   .rw[if_pos z,if_pos z]
   .rw[if_neg z,if_neg z,bj λy=>z (y.symm.trans e)]
  .rw[nG e];by_cases y:p.1=j
   .rw[bp y,bp y,if_neg λz=>e (y.trans z)]
   .rw[bj y,bj y,fh]
theorem mem_keys:∀{kv:List (κ×V)},k∈kv.map (·.1)↔(aO kv k).isSome=true
 | []=>by simp[lE]
 |p::r=>by
  by_cases e:p.1=k
  .rw[bp e];simp[e]
  .rw[bj e,<-mem_keys];simp[Ne.symm e]
theorem qb:(bv kv k v).map (·.1)=if(aO kv k).isSome=true then kv.map (·.1)else kv.map (·.1)++ [k]:=by
 unfold bv;rw[cK];by_cases c:(aO kv k).isSome=true
 .rw[if_pos c,if_pos c,Qu];refine Zd λp _=>?_;show(if p.1=k then(p.1,v)else p).1=p.1;split<;>rfl
 .rw[if_neg c,if_neg c,Qc];rfl
theorem Bg (h:(kv.map (·.1)).Nodup):((bv kv k v).map (·.1)).Nodup:=by
 cases e:aO kv k with
 |none=>exact G8 v h e
 |some x=>rw[qb,e];exact h
theorem io:∀{l S:List κ},l.Nodup->(∀x∈l,x∈S)->l.length<=S.length
 | [],_,_,_=>Qj _
 |x::xs,S,hn,hs=>by
  obtain⟨h1,h2⟩:=QM.mp hn;have hx:x∈S:=hs x Q9;have:=io (S:=S.erase x) h2 λy hy=>(List.mem_erase_of_ne λz=>h1 (by rw[<-z];exact hy)).mpr (hs y (Qd _ hy));rw[List.length_erase_of_mem hx]at this;have:=List.length_pos_of_mem hx;rw[Qp];lia
end
def SqF (K:PySem.W.Frag) (F:Addr->Prop) (H:Hp) (a:Addr) (xs:List V):Prop:=(Rd H a (.lst xs)/\¬F a)\/∀H',SqL K H' a xs
theorem SqF.sq (h:SqF K F H a xs):SqL K H a xs:=by
 rcases h with h|h
 .exact .inl h.1
 .exact h H
theorem SqF.of (h:SqL K H a xs) (n:∀o,H a=some o->¬F a):SqF K F H a xs:=by
 rcases h with h|h
 .rcases h with h|⟨o,h⟩
  .exact .inl ⟨.inl h,n _ h⟩
  .exact .inl ⟨.inr ⟨o,h⟩,n _ h⟩
 .exact .inr λ_=> .inr h
theorem SqF.fr (h:SqF K F H a xs) (f:Fr F F' H H'):SqF K F' H' a xs:=by
 rcases h with⟨h,n⟩|h
 .rcases h with h|⟨o,h⟩
  .exact .inl ⟨.inl (f _ _ n h).1,(f _ _ n h).2⟩
  .exact .inl ⟨.inr ⟨o,(f _ _ n h).1⟩,(f _ _ n h).2⟩
 .exact .inr h
theorem SqF.new (h:SqF K F H a xs) (n:H p=none):SqF K F (upd H p o) a xs:=h.fr (Fr.of_same (aj n))
structure SSt where
 kv:List (Int×V)
 size:Int
 nxt:Option Int
 mv:Int
def SSt.new:SSt:=⟨[],4,none,0⟩
def SSt.one (s:SSt):SSt:=match s.nxt with
 |none=>s
 |some m=>if s.mv+1=s.size then{s with size:=m,nxt:=none,mv:=0}else{s with mv:=s.mv+1}
def SSt.three (s:SSt):SSt:=match s.nxt with
 |some _=>s
 |none=>if s.size<(s.kv.length:Int)/\s.size<256 then{s with nxt:=some (2*s.size),mv:=0}else if 4*(s.kv.length:Int)<s.size/\4<s.size then{s with nxt:=some (s.size/2),mv:=0}else s
def SSt.put (s:SSt) (k:Int) (v:V):SSt:=SSt.three {s.one with kv:=bv s.kv k v}
def SSt.drop (s:SSt) (k:Int):SSt:=SSt.three {s.one with kv:=bT s.kv k}
def SSt.rows (s:SSt):List Int:=match s.nxt with
 |none=> [s.size]
 |some m=> [s.size,m]
def SSt.moved (s:SSt):Int:=match s.nxt with
 |none=>0
 |some _=>s.mv
structure SlD where
 tb:Addr
 r0:Addr
 r1:Addr
 A0:List Addr
 A1:List Addr
 C0:List (List (Int×V))
 C1:List (List (Int×V))
 n:Int
def slF (tb:Addr) (sh n:Int):List (Str×V):=[("table",.ref tb),("shifted",.int sh),("kept",.int n)]
theorem fO {k:Str}:((k,v)::r).lookup k=some v:=by
 have hb:(k==k)=true:=beq_iff_eq.mpr rfl;simp only[List.lookup,hb]
theorem bD {k m:Str} (h:m≠k):((k,v)::r).lookup m=r.lookup m:=by
 have hb:(m==k)=false:=beq_eq_false_iff_ne.mpr h;simp only[List.lookup,hb]
section
variable {tb':Addr} {sh sh' n':Int} {m:Str}
theorem iO:(slF tb sh n).lookup ("table":Str)=some (.ref tb):=fO
theorem zl:(slF tb sh n).lookup ("shifted":Str)=some (.int sh):=by unfold slF;rw[bD (by decide+kernel),fO]
theorem pM:(slF tb sh n).lookup ("kept":Str)=some (.int n):=by unfold slF;rw[bD (by decide+kernel),bD (by decide+kernel),fO]
def NoM (m:Str):Prop:=m≠("table":Str)/\m≠("shifted":Str)/\m≠("kept":Str)
instance:Decidable (NoM m):=by unfold NoM;infer_instance
theorem Ic (h:NoM m):(slF tb sh n).lookup m=none:=by unfold slF;rw[bD h.1,bD h.2.1,bD h.2.2];rfl
theorem Ks:a8 ("table":Str) (.ref tb') (slF tb sh n)=slF tb' sh n:=by unfold slF;rw[a8,if_pos rfl]
theorem Ii:a8 ("shifted":Str) (.int sh') (slF tb sh n)=slF tb sh' n:=by unfold slF;rw[a8,if_neg (by decide+kernel),a8,if_pos rfl]
theorem Ij:a8 ("kept":Str) (.int n') (slF tb sh n)=slF tb sh n':=by unfold slF;rw[a8,if_neg (by decide+kernel),a8,if_neg (by decide+kernel),a8,if_pos rfl]
theorem pL:(slF tb sh n).length<1000:=by show 3<1000;decide
end
structure RowOk (H:Hp) (r:Addr) (A:List Addr) (C:List (List (Int×V))) (sz:Int):Prop where
 lst:H r=some (.lst (A.map V.ref))
 la:(A.length:Int)=sz
 lc:(C.length:Int)=sz
 cell:∀(j:Nat) (b:Addr) (kv:List (Int×V)),A[j]?=some b->C[j]?=some kv->H b=some (.dK (aJ kv))
 ndk:∀(j:Nat) (kv:List (Int×V)),C[j]?=some kv->(kv.map (·.1)).Nodup
 inj:∀(i j:Nat) (b:Addr),A[i]?=some b->A[j]?=some b->i=j
 home:∀(j:Nat) (kv:List (Int×V)),C[j]?=some kv->∀p∈kv,p.1%65536%sz=(j:Int)
theorem RowOk.has {r:Addr} {C:List (List (Int×V))} (h:RowOk H r A C sz) (hb:b∈A):∃(j:Nat) (kv:List (Int×V)),A[j]?=some b/\C[j]?=some kv/\H b=some (.dK (aJ kv)):=by
 obtain⟨j,hj,e⟩:=Qz hb;have hc:j<C.length:=by have:=h.la;have:=h.lc;lia
 have e1:A[j]?=some b:=by rw[Q3 hj,e]
 have e2:C[j]?=some C[j]:=Q3 hc;exact⟨j,C[j],e1,e2,h.cell j b _ e1 e2⟩
theorem RowOk.frame {r:Addr} {C:List (List (Int×V))} (h:RowOk H r A C sz) (f:∀b,b=r\/b∈A->H' b=H b):RowOk H' r A C sz:=
 ⟨by rw[f r (.inl rfl)];exact h.lst,h.la,h.lc,λj b kv e1 e2=>by rw[f b (.inr (Q1 e1))];exact h.cell j b kv e1 e2,h.ndk,h.inj,h.home⟩
theorem RowOk.notr {r:Addr} {C:List (List (Int×V))} (h:RowOk H r A C sz) (hb:b∈A) {x:Addr} (e:H x=some o) (ne:∀kvs,o≠ .dK kvs):b≠x:=λz=>by
 obtain⟨j,kv,_,_,q⟩:=h.has hb;rw[z,e]at q;cases q;exact ne _ rfl
theorem RowOk.set {r:Addr} {C:List (List (Int×V))} (h:RowOk H r A C sz) (ea:A[j]?=some c) (nd:(kv'.map (·.1)).Nodup) (hm:∀p∈kv',p.1%65536%sz=(j:Int)):
  RowOk (upd H c (.dK (aJ kv'))) r A (C.set j kv') sz:=by
 have hc:r≠c:=(h.notr (Q1 ea) h.lst (λ_ z=>by cases z)).symm;refine⟨by rw[af hc];exact h.lst,h.la,by rw[QI];exact h.lc,λi b kv e1 e2=>?_,λi kv e=>?_,h.inj,λi kv e=>?_⟩
 .rw[Qy]at e2;by_cases z:j=i
  .subst z;rw[ea]at e1;cases e1;rw[if_pos rfl]at e2;split at e2
   .cases e2;exact ae
   .cases e2
  .rw[if_neg z]at e2;rw[af λy=>z (h.inj j i c ea (by rw[<-y];exact e1))];exact h.cell i b kv e1 e2
 .rw[Qy]at e;by_cases z:j=i
  .rw[if_pos z]at e;split at e
   .cases e;exact nd
   .cases e
  .rw[if_neg z]at e;exact h.ndk i kv e
 .rw[Qy]at e;by_cases z:j=i
  .subst z;rw[if_pos rfl]at e;split at e
   .cases e;exact hm
   .cases e
  .rw[if_neg z]at e;exact h.home i kv e
def SlF (a:Addr) (st:SSt) (d:SlD):Addr->Prop:=λb=>b=a\/b=d.tb\/b=d.r0\/b∈d.A0\/(st.nxt.isSome=true/\b=d.r1)\/b∈d.A1
def IsCell (d:SlD) (st:SSt) (k:Int) (c:Addr) (kv:List (Int×V)):Prop:=
 (st.moved<=k%65536%st.size/\d.A0[(k%65536%st.size).toNat]?=some c/\d.C0[(k%65536%st.size).toNat]?=some kv)\/
 (∃m,st.nxt=some m/\k%65536%st.size<st.moved/\d.A1[(k%65536%m).toNat]?=some c/\d.C1[(k%65536%m).toNat]?=some kv)
structure SzOk (st:SSt):Prop where
 pw:st.size∈([4,8,16,32,64,128,256]:List Int)
 nx:∀m,st.nxt=some m->m∈([4,8,16,32,64,128,256]:List Int)/\0<=st.mv/\st.mv<st.size/\(m=2*st.size\/2*m=st.size)
theorem lT {x:Int} (h:x∈([4,8,16,32,64,128,256]:List Int)):x=4\/x=8\/x=16\/x=32\/x=64\/x=128\/x=256:=by simpa using h
theorem bQ {x:Int} (h:x∈([4,8,16,32,64,128,256]:List Int)):4<=x/\x<=256:=by
 rcases lT h with h|h|h|h|h|h|h<;>lia
structure SlB (t:Adr) (H:Hp) (a:Addr) (st:SSt) (d:SlD):Prop where
 obj:∃dx,H a=some (.ins t.aY dx (slF d.tb st.moved d.n))
 tbl:H d.tb=some (.lst (match st.nxt with|none=> [.ref d.r0]|some _=> [.ref d.r0,.ref d.r1]))
 row0:RowOk H d.r0 d.A0 d.C0 st.size
 row1:match st.nxt with|none=>d.A1=[]/\d.C1=[]|some m=>RowOk H d.r1 d.A1 d.C1 m
 dis:∀b,b∈d.A0->b∉d.A1
 tr:d.tb≠d.r0
 tr1:st.nxt.isSome=true->d.tb≠d.r1/\d.r0≠d.r1
 old:∀(j:Nat) (kv:List (Int×V)),d.C0[j]?=some kv->(j:Int)<st.moved->kv=[]
 new:∀(j:Nat) (kv:List (Int×V)),d.C1[j]?=some kv->∀p∈kv,p.1%65536%st.size<st.moved
 val:∀(k:Int) (c:Addr) (kv:List (Int×V)),IsCell d st k c kv->aO kv k=aO st.kv k
section
variable {d:SlD}
theorem SlB.frame (h:SlB t H a st d) (f:∀b,SlF a st d b->H' b=H b):SlB t H' a st d:=by
 obtain⟨dx,ho⟩:=h.obj;refine⟨⟨dx,by rw[f a (.inl rfl)];exact ho⟩,by rw[f d.tb (.inr (.inl rfl))];exact h.tbl,h.row0.frame λb hb=>f b ?_,?_,h.dis,h.tr,h.tr1,h.old,h.new,h.val⟩
 .rcases hb with hb|hb
  .exact .inr (.inr (.inl hb))
  .exact .inr (.inr (.inr (.inl hb)))
 .have r1:=h.row1;have ff:=f;unfold SlF at ff;cases e:st.nxt with
  |none=>rw[e]at r1;exact r1
  |some m=>
   rw[e]at r1;refine RowOk.frame (H:=H) r1 λb hb=>f b ?_;unfold SlF;rw[e];rcases hb with hb|hb
   .exact .inr (.inr (.inr (.inr (.inl ⟨rfl,hb⟩))))
   .exact .inr (.inr (.inr (.inr (.inr hb))))
theorem SlB.dom (h:SlB t H a st d) (hb:SlF a st d b):∃o,H b=some o:=by
 obtain⟨dx,ho⟩:=h.obj;rcases hb with rfl|rfl|rfl|hb|⟨hs,rfl⟩|hb
 .exact⟨_,ho⟩
 .exact⟨_,h.tbl⟩
 .exact⟨_,h.row0.lst⟩
 .obtain⟨_,_,_,_,q⟩:=h.row0.has hb;exact⟨_,q⟩
 .have r1:=h.row1;cases e:st.nxt with
  |none=>rw[e]at hs;cases hs
  |some m=>rw[e]at r1;exact⟨_,r1.lst⟩
 .have r1:=h.row1;cases e:st.nxt with
  |none=>rw[e]at r1;rw[r1.1]at hb;cases hb
  |some m=>rw[e]at r1;obtain⟨_,_,_,_,q⟩:=r1.has hb;exact⟨_,q⟩
theorem SlB.at (h:SlB t H a st d) {kv:List (Int×V)} (ic:IsCell d st k c kv):H c=some (.dK (aJ kv))/\SlF a st d c/\(kv.map (·.1)).Nodup:=by
 rcases ic with⟨_,e1,e2⟩|⟨m,em,_,e1,e2⟩
 .exact⟨h.row0.cell _ _ _ e1 e2,.inr (.inr (.inr (.inl (Q1 e1)))),h.row0.ndk _ _ e2⟩
 .have r1:=h.row1;rw[em]at r1;exact⟨r1.cell _ _ _ e1 e2,.inr (.inr (.inr (.inr (.inr (Q1 e1))))),r1.ndk _ _ e2⟩
theorem rC (hm:4<=m):0<=k%65536%m/\k%65536%m<m/\((k%65536%m).toNat:Int)=k%65536%m:=by
 have h1:=Qe (k%65536) (show m≠0 by lia);have h2:=Qb (k%65536) (show 0<m by lia);exact⟨h1,h2,Xv h1⟩
theorem du {l:List α} {z:Int} (h0:0<=z) (h1:z<(l.length:Int)):∃x,l[z.toNat]?=some x:=⟨l[z.toNat]'(by lia),Q3 (by lia)⟩
theorem SlB.cell (h:SlB t H a st d) (z:SzOk st) (k:Int):∃c kv,IsCell d st k c kv:=by
 obtain⟨s4,_⟩:=bQ z.pw;obtain⟨m0,m1,m2⟩:=rC (k:=k) s4;by_cases c:st.moved<=k%65536%st.size
 .obtain⟨x,e1⟩:=du (l:=d.A0) m0 (by rw[h.row0.la];exact m1);obtain⟨y,e2⟩:=du (l:=d.C0) m0 (by rw[h.row0.lc];exact m1);exact⟨x,y,.inl ⟨c,e1,e2⟩⟩
 .cases e:st.nxt with
  |none=>
   exfalso;have:st.moved=0:=by unfold SSt.moved;rw[e]
   lia
  |some m=>
   obtain⟨pm,_⟩:=z.nx m e;obtain⟨s5,_⟩:=bQ pm;obtain⟨n0,n1,n2⟩:=rC (k:=k) s5;have r1:=h.row1;rw[e]at r1;obtain⟨x,e1⟩:=du (l:=d.A1) n0 (by rw[r1.la];exact n1);obtain⟨y,e2⟩:=du (l:=d.C1) n0 (by rw[r1.lc];exact n1);exact⟨x,y,.inr ⟨m,e,by lia,e1,e2⟩⟩
theorem IsCell.uniq {c':Addr} {kv:List (Int×V)} (x:IsCell d st k c kv) (y:IsCell d st k c' kv'):c=c'/\kv=kv':=by
 rcases x with⟨h0,e1,e2⟩|⟨m,em,h0,e1,e2⟩<;>rcases y with⟨g0,f1,f2⟩|⟨m',em',g0,f1,f2⟩
 .rw[e1]at f1;rw[e2]at f2;cases f1;cases f2;exact⟨rfl,rfl⟩
 .lia
 .lia
 .rw[em]at em';cases em';rw[e1]at f1;rw[e2]at f2;cases f1;cases f2;exact⟨rfl,rfl⟩
theorem SlB.setN (h:SlB t H a st d):SlB t (upd H a (.ins t.aY dx (slF d.tb st.moved n))) a st {d with n:=n}:=by
 obtain⟨dy,ho⟩:=h.obj;have n1:d.tb≠a:=cm h.tbl ho (by intro z;cases z);refine⟨⟨dx,ae⟩,by show upd H a _ d.tb=_;rw[af n1];exact h.tbl,h.row0.frame λb hb=>af ?_,?_,h.dis,h.tr,h.tr1,h.old,h.new,h.val⟩
 .rcases hb with rfl|hb
  .exact cm h.row0.lst ho (by intro z;cases z)
  .exact h.row0.notr hb ho (λ_ z=>by cases z)
 .have r1:=h.row1;cases e:st.nxt with
  |none=>rw[e]at r1;exact r1
  |some m=>
   rw[e]at r1;refine RowOk.frame (H:=H) r1 λb hb=>af ?_;rcases hb with rfl|hb
   .exact cm r1.lst ho (by intro z;cases z)
   .exact r1.notr hb ho (λ_ z=>by cases z)
theorem SlB.setCell (h:SlB t H a st d) (z:SzOk st) {kv:List (Int×V)} (ic:IsCell d st k c kv) (nd:(kv'.map (·.1)).Nodup) (hm:∀p∈kv',p∈kv\/p.1=k)
  (hk:aO kv' k=aO kvs k) (ho:∀j,j≠k->aO kv' j=aO kv j/\aO kvs j=aO st.kv j):
  ∃d',SlB t (upd H c (.dK (aJ kv'))) a {st with kv:=kvs} d'/\d'.n=d.n/\∀b,SlF a {st with kv:=kvs} d' b↔SlF a st d b:=by
 obtain⟨hc,hf,_⟩:=h.at ic;obtain⟨dx,hob⟩:=h.obj;obtain⟨s4,_⟩:=bQ z.pw;obtain⟨m0,m1,m2⟩:=rC (k:=k) s4;have na:a≠c:=cm hob hc (by intro z;cases z);have nt:d.tb≠c:=cm h.tbl hc (by intro z;cases z);have nr:d.r0≠c:=cm h.row0.lst hc (by intro z;cases z);have vals:∀(d':SlD) (j:Int) (b:Addr) (x:List (Int×V)),IsCell d' {st with kv:=kvs} j b x->(∀y,IsCell d st j b y->(x=y/\b≠c)\/(x=kv'/\y=kv))->(∃y,IsCell d st j b y)->aO x j=aO kvs j:=λd' j b x hx f ⟨y,hy⟩=>by
  by_cases e:j=k
  .subst e;obtain⟨rfl,rfl⟩:=IsCell.uniq hy ic;rcases f y hy with⟨_,z⟩|⟨rfl,_⟩
   .exact absurd rfl z
   .exact hk
  .rw[(ho j e).2];rcases f y hy with⟨rfl,_⟩|⟨rfl,rfl⟩
   .exact h.val j b x hy
   .rw[(ho j e).1];exact h.val j b y hy
 rcases ic with⟨h0,e1,e2⟩|⟨m,em,h0,e1,e2⟩
 .have hin:c∈d.A0:=Q1 e1;have hmem:∀p∈kv',p.1%65536%st.size=((k%65536%st.size).toNat:Int):=λp hp=>by
   rcases hm p hp with q|q
   .exact h.row0.home _ _ e2 p q
   .rw[q,m2]
  refine⟨{d with C0:=d.C0.set (k%65536%st.size).toNat kv'},⟨⟨dx,by rw[af na];exact hob⟩,by show upd H c _ d.tb=_;rw[af nt];exact h.tbl,h.row0.set e1 nd hmem,?_,h.dis,h.tr,h.tr1,λj x e lt=>?_,h.new,λj b x hx=>?_⟩,rfl,λb=>Iff.rfl⟩
  .have r1:=h.row1;show match st.nxt with|none=>_|some m=>_
   cases e:st.nxt with
   |none=>rw[e]at r1;exact r1
   |some m=>
    rw[e]at r1;refine RowOk.frame (H:=H) r1 λb hb=>af ?_;rcases hb with rfl|hb
    .exact cm r1.lst hc (by intro z;cases z)
    .exact λy=>h.dis c hin (y▸hb)
  .have e:(d.C0.set (k%65536%st.size).toNat kv')[j]?=some x:=e;have lt:(j:Int)<st.moved:=lt;rw[Qy]at e;by_cases q:(k%65536%st.size).toNat=j
   .exfalso;lia
   .rw[if_neg q]at e;exact h.old j x e lt
  .refine vals _ j b x hx (λy hy=>?_) ?_
   .rcases hx with⟨g0,f1,f2⟩|⟨m',em',g0,f1,f2⟩
    .have f2:(d.C0.set (k%65536%st.size).toNat kv')[(j%65536%st.size).toNat]?=some x:=f2;have f1:d.A0[(j%65536%st.size).toNat]?=some b:=f1;have g0:st.moved<=j%65536%st.size:=g0;rcases hy with⟨_,y1,y2⟩|⟨_,_,y0,_,_⟩
     .rw[Qy]at f2;by_cases q:(k%65536%st.size).toNat=(j%65536%st.size).toNat
      .rw[if_pos q]at f2;split at f2
       .cases f2;rw[<-q,e2]at y2;cases y2;exact .inr ⟨rfl,rfl⟩
       .cases f2
      .rw[if_neg q,y2]at f2;cases f2;exact .inl ⟨rfl,λw=>q (h.row0.inj _ _ c e1 (by rw[<-w];exact f1))⟩
     .lia
    .have f1:d.A1[(j%65536%m').toNat]?=some b:=f1;have f2:d.C1[(j%65536%m').toNat]?=some x:=f2;have g0:j%65536%st.size<st.moved:=g0;have em':st.nxt=some m':=em';rcases hy with⟨y0,_,_⟩|⟨m2,e3,y0,y1,y2⟩
     .lia
     .rw[em']at e3;cases e3;rw[f2]at y2;cases y2;exact .inl ⟨rfl,λw=>h.dis c hin (w▸Q1 f1)⟩
   .obtain⟨b',y,hy⟩:=h.cell z j;have:b'=b:=by
     rcases hx with⟨g0,f1,f2⟩|⟨m',em',g0,f1,f2⟩<;>rcases hy with⟨y0,y1,y2⟩|⟨m3,e3,y0,y1,y2⟩
     .have f1:d.A0[(j%65536%st.size).toNat]?=some b:=f1;rw[y1]at f1;exact Option.some.inj f1
     .have g0:st.moved<=j%65536%st.size:=g0;lia
     .have g0:j%65536%st.size<st.moved:=g0;lia
     .have em':st.nxt=some m':=em';rw[em']at e3;cases e3;have f1:d.A1[(j%65536%m').toNat]?=some b:=f1;rw[y1]at f1;exact Option.some.inj f1
    subst this;exact⟨y,hy⟩
 .have r1:=h.row1;rw[em]at r1;have hin:c∈d.A1:=Q1 e1;obtain⟨pm,_⟩:=z.nx m em;obtain⟨s5,_⟩:=bQ pm;obtain⟨n0,n1,n2⟩:=rC (k:=k) s5;have hmem:∀p∈kv',p.1%65536%m=((k%65536%m).toNat:Int):=λp hp=>by
   rcases hm p hp with q|q
   .exact r1.home _ _ e2 p q
   .rw[q,n2]
  refine⟨{d with C1:=d.C1.set (k%65536%m).toNat kv'},⟨⟨dx,by rw[af na];exact hob⟩,by show upd H c _ d.tb=_;rw[af nt];exact h.tbl,h.row0.frame λb hb=>af ?_,?_,h.dis,h.tr,h.tr1,h.old,λj x e p hp=>?_,λj b x hx=>?_⟩,rfl,λb=>Iff.rfl⟩
  .rcases hb with rfl|hb
   .exact nr
   .exact λy=>h.dis b hb (y▸hin)
  .show match st.nxt with|none=>_|some m=>_
   rw[em];exact r1.set e1 nd hmem
  .have e:(d.C1.set (k%65536%m).toNat kv')[j]?=some x:=e;show p.1%65536%st.size<st.moved;rw[Qy]at e;by_cases q:(k%65536%m).toNat=j
   .rw[if_pos q]at e;split at e
    .cases e;rcases hm p hp with q|q
     .exact h.new _ _ e2 p q
     .rw[q];exact h0
    .cases e
   .rw[if_neg q]at e;exact h.new j x e p hp
  .refine vals _ j b x hx (λy hy=>?_) ?_
   .rcases hx with⟨g0,f1,f2⟩|⟨m',em',g0,f1,f2⟩
    .have f1:d.A0[(j%65536%st.size).toNat]?=some b:=f1;have f2:d.C0[(j%65536%st.size).toNat]?=some x:=f2;have g0:st.moved<=j%65536%st.size:=g0;rcases hy with⟨_,y1,y2⟩|⟨_,_,y0,_,_⟩
     .rw[f2]at y2;cases y2;exact .inl ⟨rfl,λw=>h.dis b (Q1 f1) (w▸hin)⟩
     .lia
    .have em':st.nxt=some m':=em';rw[em]at em';cases em';have f2:(d.C1.set (k%65536%m).toNat kv')[(j%65536%m).toNat]?=some x:=f2;have f1:d.A1[(j%65536%m).toNat]?=some b:=f1;have g0:j%65536%st.size<st.moved:=g0;rcases hy with⟨y0,_,_⟩|⟨m2,e3,y0,y1,y2⟩
     .lia
     .rw[em]at e3;cases e3;rw[Qy]at f2;by_cases q:(k%65536%m).toNat=(j%65536%m).toNat
      .rw[if_pos q]at f2;split at f2
       .cases f2;rw[<-q,e2]at y2;cases y2;exact .inr ⟨rfl,rfl⟩
       .cases f2
      .rw[if_neg q,y2]at f2;cases f2;exact .inl ⟨rfl,λw=>q (r1.inj _ _ c e1 (by rw[<-w];exact f1))⟩
   .obtain⟨b',y,hy⟩:=h.cell z j;have:b'=b:=by
     rcases hx with⟨g0,f1,f2⟩|⟨m',em',g0,f1,f2⟩<;>rcases hy with⟨y0,y1,y2⟩|⟨m3,e3,y0,y1,y2⟩
     .have f1:d.A0[(j%65536%st.size).toNat]?=some b:=f1;rw[y1]at f1;exact Option.some.inj f1
     .have g0:st.moved<=j%65536%st.size:=g0;lia
     .have g0:j%65536%st.size<st.moved:=g0;lia
     .have em':st.nxt=some m':=em';rw[em']at e3;cases e3;have f1:d.A1[(j%65536%m').toNat]?=some b:=f1;rw[y1]at f1;exact Option.some.inj f1
    subst this;exact⟨y,hy⟩
end
theorem uS {kv:List (Int×V)} {p:Int×V} (h:p∈bv kv k v):p∈kv\/p.1=k:=by
 unfold bv at h;split at h
 .obtain⟨q,hq,e⟩:=Qh.mp h;by_cases z:q.1=k
  .rw[if_pos z]at e;rw[<-e];exact .inr z
  .rw[if_neg z]at e;rw[<-e];exact .inl hq
 .rcases Q5.mp h with h|h
  .exact .inl h
  .rw[Q7.mp h];exact .inr rfl
theorem Hc {kv:List (Int×V)} {p:Int×V} (h:p∈kv):(aO kv p.1).isSome=true:=mem_keys.mp (Qh.mpr ⟨p,h,rfl⟩)
def gi (m:Int) (C:List (List (Int×V))) (p:Int×V):List (List (Int×V)):=C.set (p.1%65536%m).toNat (bv (C.getD (p.1%65536%m).toNat []) p.1 p.2)
theorem ET {C:List (List (Int×V))} {p:Int×V}:(gi m C p).length=C.length:=QI
theorem BY {m:Int}:∀{kv:List (Int×V)} {C:List (List (Int×V))},(kv.foldl (gi m) C).length=C.length
 | [],_=>rfl
 |p::r,C=>by rw[List.foldl_cons,BY,ET]
theorem zI {C:List (List (Int×V))} {p:Int×V} {y:List (Int×V)} (e:C[j]?=some y):(gi m C p)[j]?=some (if(p.1%65536%m).toNat=j then bv y p.1 p.2 else y):=by
 unfold gi;rw[Qy];by_cases z:(p.1%65536%m).toNat=j
 .have hj:j<C.length:=(Q2.mp e).1;rw[if_pos z,if_pos z,if_pos (by rw[z];exact hj),Qm,z,e];rfl
 .rw[if_neg z,if_neg z,e]
theorem yv {m:Int}:∀{kv:List (Int×V)} {C:List (List (Int×V))} {j:Nat} {y:List (Int×V)},(kv.map (·.1)).Nodup->C[j]?=some y->∃x,(kv.foldl (gi m) C)[j]?=some x/\
  (∀p∈x,p∈y\/p.1∈kv.map (·.1))/\∀k,aO x k=if(k%65536%m).toNat=j then(aO kv k).or (aO y k)else aO y k
 | [],C,j,y,_,e=>⟨y,e,λp hp=> .inl hp,λk=>by rw[lE];simp⟩
 |p::r,C,j,y,nd,e=>by
  obtain⟨n1,n2⟩:=QM.mp (show(p.1::r.map (·.1)).Nodup from nd);obtain⟨x,h1,h2,h3⟩:=yv (m:=m) n2 (zI (m:=m) (p:=p) e);refine⟨x,h1,λq hq=>?_,λk=>?_⟩
  .rcases h2 q hq with z|z
   .split at z
    .rcases uS z with z|z
     .exact .inl z
     .exact .inr (Qh.mpr ⟨p,Q9,z.symm⟩)
    .exact .inl z
   .exact .inr (Qd _ z)
  .rw[h3 k];by_cases z:(k%65536%m).toNat=j
   .rw[if_pos z,if_pos z];by_cases w:p.1=k
    .subst w;have:aO r p.1=none:=by
      cases q:aO r p.1 with
      |none=>rfl
      |some v=>exact absurd (tH q) n1
     rw[this,bp rfl,if_pos z,gT,if_pos rfl];rfl
    .rw[bj w];congr 1;split
     .rw[gT,if_neg (Ne.symm w)]
     .rfl
   .rw[if_neg z,if_neg z];split
    .rename_i w
     rw[gT,if_neg (λy=>z (by rw[y];exact w))]
    .rfl
theorem RowOk.mov {r:Addr} {C:List (List (Int×V))} {y:List (Int×V)} (h:RowOk H r A C sz) (s4:4<=sz) (ea:A[(k%65536%sz).toNat]?=some c) (ey:C[(k%65536%sz).toNat]?=some y):
  RowOk (upd H c (.dK (aJ (bv y k v)))) r A (gi sz C (k,v)) sz:=by
 have e:gi sz C (k,v)=C.set (k%65536%sz).toNat (bv y k v):=by
  unfold gi;rw[Qm];show C.set (k%65536%sz).toNat (bv (C[(k%65536%sz).toNat]?.getD []) k v)=_;rw[ey];rfl
 rw[e];obtain⟨m0,m1,m2⟩:=rC (k:=k) s4;refine h.set ea (Bg (h.ndk _ _ ey)) λp hp=>?_;rcases uS hp with z|z
 .exact h.home _ _ ey p z
 .rw[z,m2]
section
variable {d:SlD}
theorem SSt.moved_some (e:st.nxt=some m):st.moved=st.mv:=by unfold SSt.moved;rw[e]
theorem SSt.moved_none (e:st.nxt=none):st.moved=0:=by unfold SSt.moved;rw[e]
theorem SlB.movVal (h:SlB t H a st d) (z:SzOk st) (em:st.nxt=some m) {kv:List (Int×V)} (ek:d.C0[st.mv.toNat]?=some kv) (hk:k%65536%st.size<=st.mv) {x:List (Int×V)}
  (ex:(kv.foldl (gi m) d.C1)[(k%65536%m).toNat]?=some x):aO x k=aO st.kv k:=by
 obtain⟨pm,v0,v1,_⟩:=z.nx m em;obtain⟨s4,_⟩:=bQ z.pw;obtain⟨s5,_⟩:=bQ pm;have r1:=h.row1;rw[em]at r1;obtain⟨n0,n1,n2⟩:=rC (k:=k) s5;obtain⟨m0,m1,m2⟩:=rC (k:=k) s4;obtain⟨y,ey⟩:=du (l:=d.C1) n0 (by rw[r1.lc];exact n1);obtain⟨c1,ec1⟩:=du (l:=d.A1) n0 (by rw[r1.la];exact n1);obtain⟨x',e',_,hv⟩:=yv (m:=m) (h.row0.ndk _ _ ek) ey;rw[ex]at e';cases e';rw[hv k,if_pos rfl];have hm:=SSt.moved_some em;by_cases c:k%65536%st.size=st.mv
 .obtain⟨b0,eb0⟩:=du (l:=d.A0) m0 (by rw[h.row0.la];exact m1);have ic:IsCell d st k b0 kv:= .inl ⟨by lia,eb0,by rw[c];exact ek⟩;have yn:aO y k=none:=by
   cases q:aO y k with
   |none=>rfl
   |some v=>
    obtain⟨p,hp,e⟩:=Qh.mp (tH q);have:=h.new _ _ ey p hp;rw[e]at this;lia
  rw[h.val k b0 kv ic,yn];simp
 .have ic:IsCell d st k c1 y:= .inr ⟨m,em,by lia,ec1,ey⟩;have kn:aO kv k=none:=by
   cases q:aO kv k with
   |none=>rfl
   |some v=>
    obtain⟨p,hp,e⟩:=Qh.mp (tH q);have:=h.row0.home _ _ ek p hp;rw[e]at this;lia
  rw[kn,h.val k c1 y ic];rfl
theorem dJ {l:List α} {x y:α} (e:(l.set i x)[j]?=some y):(i=j/\y=x)\/(i≠j/\l[j]?=some y):=by
 rw[Qy]at e;by_cases z:i=j
 .rw[if_pos z]at e;split at e
  .cases e;exact .inl ⟨z,rfl⟩
  .cases e
 .rw[if_neg z]at e;exact .inr ⟨z,e⟩
theorem SlB.one (h:SlB t H a st d) (z:SzOk st) (em:st.nxt=some m) {kv:List (Int×V)} (ek:d.C0[st.mv.toNat]?=some kv) {b':Addr} (nl:st.mv+1≠st.size)
  (ha:H' a=some (.ins t.aY dx (slF d.tb (st.mv+1) d.n))) (ht:H' d.tb=H d.tb) (h0:H' d.r0=some (.lst ((d.A0.set st.mv.toNat b').map V.ref))) (hb:H' b'=some (.dK [])) (hF:¬SlF a st d b')
  (hA:∀(j:Nat) b,d.A0[j]?=some b->j≠st.mv.toNat->H' b=H b) (hr:RowOk H' d.r1 d.A1 (kv.foldl (gi m) d.C1) m):
  SlB t H' a st.one {d with A0:=d.A0.set st.mv.toNat b',C0:=d.C0.set st.mv.toNat [],C1:=kv.foldl (gi m) d.C1}:=by
 obtain⟨pm,v0,v1,_⟩:=z.nx m em;have hone:st.one={st with mv:=st.mv+1}:=by unfold SSt.one;rw[em];exact if_neg nl
 have hmv:({st with mv:=st.mv+1}:SSt).moved=st.mv+1:=SSt.moved_some (st:={st with mv:=st.mv+1}) em;have hm:=SSt.moved_some em;have nA0:b'∉d.A0:=λq=>hF (.inr (.inr (.inr (.inl q))));have nA1:b'∉d.A1:=λq=>hF (.inr (.inr (.inr (.inr (.inr q)))));rw[hone];have r1:=h.row1;rw[em]at r1;refine⟨⟨dx,by rw[hmv];exact ha⟩,by rw[ht];exact h.tbl,⟨h0,by rw[QI];exact h.row0.la,by rw[QI];exact h.row0.lc,λj b x e1 e2=>?_,λj x e=>?_,λi j b e1 e2=>?_,λj x e p hp=>?_⟩,?_,λb hb0 hb1=>?_,h.tr,h.tr1,λj x e lt=>?_,λj x e p hp=>?_,λk c x ic=>?_⟩
 .rcases dJ e1 with⟨q,rfl⟩|⟨q,e1⟩
  .rcases dJ e2 with⟨_,rfl⟩|⟨q2,_⟩
   .exact hb
   .exact absurd q q2
  .rcases dJ e2 with⟨q2,_⟩|⟨_,e2⟩
   .exact absurd q2 q
   .rw[hA j b e1 (Ne.symm q)];exact h.row0.cell j b x e1 e2
 .rcases dJ e with⟨_,rfl⟩|⟨_,e⟩
  .exact Zj
  .exact h.row0.ndk j x e
 .have e1:(d.A0.set st.mv.toNat b')[i]?=some b:=e1;have e2:(d.A0.set st.mv.toNat b')[j]?=some b:=e2;rcases dJ e1 with⟨q,y1⟩|⟨q,f1⟩<;>rcases dJ e2 with⟨q2,y2⟩|⟨q2,f2⟩
  .exact q.symm.trans q2
  .rw[y1]at f2;exact absurd (Q1 f2) nA0
  .rw[y2]at f1;exact absurd (Q1 f1) nA0
  .exact h.row0.inj i j b f1 f2
 .rcases dJ e with⟨_,rfl⟩|⟨_,e⟩
  .cases hp
  .exact h.row0.home j x e p hp
 .show match st.nxt with|none=>_|some m=>_
  rw[em];exact hr
 .obtain⟨j,hj,e⟩:=Qz (show b∈d.A0.set st.mv.toNat b' from hb0);rcases dJ (Q2.mpr ⟨hj,e⟩)with⟨_,rfl⟩|⟨_,e⟩
  .exact nA1 hb1
  .exact h.dis b (Q1 e) hb1
 .rw[hmv]at lt;rcases dJ e with⟨_,rfl⟩|⟨q,e⟩
  .rfl
  .exact h.old j x e (by lia)
 .rw[hmv];show p.1%65536%st.size<st.mv+1;obtain⟨y,ey⟩:∃y,d.C1[j]?=some y:=by
   have hj:j<(kv.foldl (gi m) d.C1).length:=(Q2.mp e).1;rw[BY]at hj;exact⟨_,Q3 hj⟩
  obtain⟨x',e',hp',_⟩:=yv (m:=m) (h.row0.ndk _ _ ek) ey;have e:(kv.foldl (gi m) d.C1)[j]?=some x:=e;rw[e]at e';cases e';rcases hp' p hp with q|q
  .have:=h.new j y ey p q;lia
  .obtain⟨p',hp',e3⟩:=Qh.mp q;have:=h.row0.home _ _ ek p' hp';rw[e3]at this;lia
 .show aO x k=aO st.kv k;rcases ic with⟨g0,f1,f2⟩|⟨m',em',g0,f1,f2⟩
  .rw[hmv]at g0;have g0:st.mv+1<=k%65536%st.size:=g0;have f1:(d.A0.set st.mv.toNat b')[(k%65536%st.size).toNat]?=some c:=f1;have f2:(d.C0.set st.mv.toNat [])[(k%65536%st.size).toNat]?=some x:=f2;rcases dJ f1 with⟨q,_⟩|⟨_,f1⟩
   .lia
   .rcases dJ f2 with⟨q,_⟩|⟨_,f2⟩
    .lia
    .exact h.val k c x (.inl ⟨by lia,f1,f2⟩)
  .rw[hmv]at g0;have em':st.nxt=some m':=em';rw[em]at em';cases em';have g0:k%65536%st.size<st.mv+1:=g0;exact h.movVal z em ek (by lia) f2
theorem SlB.last (h:SlB t H a st d) (z:SzOk st) (em:st.nxt=some m) {kv:List (Int×V)} (ek:d.C0[st.mv.toNat]?=some kv) {tb':Addr} (l:st.mv+1=st.size)
  (ha:H' a=some (.ins t.aY dx (slF tb' 0 d.n))) (ht:H' tb'=some (.lst [.ref d.r1])) (hn:tb'≠d.r1) (hr:RowOk H' d.r1 d.A1 (kv.foldl (gi m) d.C1) m):
  SlB t H' a st.one ⟨tb',d.r1,d.r1,d.A1,[],kv.foldl (gi m) d.C1,[],d.n⟩:=by
 have hone:st.one={st with size:=m,nxt:=none,mv:=0}:=by unfold SSt.one;rw[em];exact if_pos l
 obtain⟨s4,_⟩:=bQ z.pw;rw[hone];refine⟨⟨dx,ha⟩,ht,hr,⟨rfl,rfl⟩,(λb _ q=>by cases q),hn,(λq=>by cases q),λj x e lt=>?_,(λj x e=>by simp at e),λk c x ic=>?_⟩
 .have lt:(j:Int)<0:=lt;lia
 .rcases ic with⟨g0,f1,f2⟩|⟨m',em',_⟩
  .have f2:(kv.foldl (gi m) d.C1)[(k%65536%m).toNat]?=some x:=f2;obtain⟨m0,m1,m2⟩:=rC (k:=k) s4;exact h.movVal z em ek (by lia) f2
  .cases em'
theorem SlB.begin (h:SlB t H a st d) (en:st.nxt=none) {r:Addr} (ha:H' a=H a) (ht:H' d.tb=some (.lst [.ref d.r0,.ref r])) (h0:∀b,b=d.r0\/b∈d.A0->H' b=H b)
  (hr:RowOk H' r A (List.replicate m.toNat []) m) (nr:¬SlF a st d r) (nA:∀b∈A,¬SlF a st d b):SlB t H' a {st with nxt:=some m,mv:=0} {d with r1:=r,A1:=A,C1:=List.replicate m.toNat []}:=by
 obtain⟨dx,ho⟩:=h.obj;have hm:=SSt.moved_none en;refine⟨⟨dx,by rw[ha];rw[hm]at ho;exact ho⟩,ht,h.row0.frame h0,hr,λb q q2=>nA b q2 (.inr (.inr (.inr (.inl q)))),h.tr,λ_=>⟨λq=>nr (.inr (.inl q.symm)),λq=>nr (.inr (.inr (.inl q.symm)))⟩,λj x e lt=>?_,λj x e p hp=>?_,λk c x ic=>?_⟩
 .have lt:(j:Int)<0:=lt;lia
 .have:=Zw (Q1 e);subst this;cases hp
 .rcases ic with⟨g0,f1,f2⟩|⟨m',em',g0,f1,f2⟩
  .refine h.val k c x (.inl ⟨?_,f1,f2⟩);rw[hm];exact g0
  .have g0:k%65536%st.size<0:=g0;have f2:(List.replicate m.toNat ([]:List (Int×V)))[(k%65536%m').toNat]?=some x:=f2;have:0<=k%65536%st.size:=by
    have hpos:(0:Int)<=st.size:=by rw[<-h.row0.la];lia
    rcases Int.lt_or_eq_of_le hpos with q|q
    .exact Qe _ (by lia)
    .rw[<-q,Int.emod_zero];exact Qe _ (by decide)
   lia
theorem SlB.fresh {r:Addr} (ha:H a=some (.ins t.aY dx (slF tb 0 0))) (ht:H tb=some (.lst [.ref r])) (hr:RowOk H r A (List.replicate 4 []) 4) (n:tb≠r):SlB t H a SSt.new ⟨tb,r,r,A,[],List.replicate 4 [],[],0⟩:=by
 refine⟨⟨dx,ha⟩,ht,hr,⟨rfl,rfl⟩,(λb _ q=>by cases q),n,(λq=>by cases q),λj x e lt=>?_,(λj x e=>by simp at e),λk c x ic=>?_⟩
 .have lt:(j:Int)<0:=lt;lia
 .rcases ic with⟨g0,f1,f2⟩|⟨m',em',_⟩
  .have f2:(List.replicate 4 ([]:List (Int×V)))[(k%65536%4).toNat]?=some x:=f2;have:=Zw (Q1 f2);subst this;rfl
  .cases em'
theorem SlB.short (h:SlB t H a st d) (z:SzOk st) {kv:List (Int×V)} (ic:IsCell d st k c kv):kv.length<=st.kv.length:=by
 obtain⟨_,_,nd⟩:=h.at ic;have sub:∀x∈kv.map (·.1),x∈st.kv.map (·.1):=λx hx=>by
  obtain⟨p,hp,e⟩:=Qh.mp hx;subst e;refine mem_keys.mpr ?_;have hs:=Hc hp;have:∃c',IsCell d st p.1 c' kv:=by
   rcases ic with⟨g0,f1,f2⟩|⟨m,em,g0,f1,f2⟩
   .obtain⟨s4,_⟩:=bQ z.pw;obtain⟨m0,m1,m2⟩:=rC (k:=k) s4;have e:=h.row0.home _ _ f2 p hp;rw[m2]at e;exact⟨c,.inl ⟨by rw[e];exact g0,by rw[e];exact f1,by rw[e];exact f2⟩⟩
   .obtain⟨pm,_⟩:=z.nx m em;obtain⟨s5,_⟩:=bQ pm;obtain⟨n0,n1,n2⟩:=rC (k:=k) s5;have r1:=h.row1;rw[em]at r1;have e:=r1.home _ _ f2 p hp;rw[n2]at e;exact⟨c,.inr ⟨m,em,h.new _ _ f2 p hp,by rw[e];exact f1,by rw[e];exact f2⟩⟩
  obtain⟨c',ic'⟩:=this;rw[<-h.val p.1 c' kv ic'];exact hs
 have:=io nd sub;rw[Q0,Q0]at this;exact this
end
theorem zH {m:Int}:∀{kv:List (Int×V)} {C:List (List (Int×V))} {j:Nat} {x y:List (Int×V)},C[j]?=some y->(kv.foldl (gi m) C)[j]?=some x->x.length<=y.length+kv.length
 | [],C,j,x,y,e,f=>by
  have f:C[j]?=some x:=f;rw[e]at f;cases f;exact Q4 _
 |p::r,C,j,x,y,e,f=>by
  have h:=zH (m:=m) (zI (m:=m) (p:=p) e) f;have l:=cc y p.1 p.2;rw[Qp];split at h<;>lia
section
variable {d:SlD}
theorem SlB.short0 (h:SlB t H a st d) (z:SzOk st) {kv:List (Int×V)} (e:d.C0[j]?=some kv):kv.length<=st.kv.length:=by
 cases kv with
 |nil=>exact Qj _
 |cons p r=>
  have hp:=h.row0.home j _ e p Q9;have nj:¬(j:Int)<st.moved:=λq=>by have:=h.old j _ e q;cases this
  have ej:(p.1%65536%st.size).toNat=j:=by lia
  have hj:j<d.A0.length:=by
   have:=h.row0.la;have:=h.row0.lc;have:=(Q2.mp e).1;lia
  exact h.short z (k:=p.1) (c:=d.A0[j]) (.inl ⟨by lia,by rw[ej];exact Q3 hj,by rw[ej];exact e⟩)
theorem SlB.short1 (h:SlB t H a st d) (z:SzOk st) (em:st.nxt=some m) {kv:List (Int×V)} (e:d.C1[j]?=some kv):kv.length<=st.kv.length:=by
 have r1:=h.row1;rw[em]at r1;cases kv with
 |nil=>exact Qj _
 |cons p r=>
  have hp:=r1.home j _ e p Q9;have nj:=h.new j _ e p Q9;have ej:(p.1%65536%m).toNat=j:=by lia
  have hj:j<d.A1.length:=by
   have:=r1.la;have:=r1.lc;have:=(Q2.mp e).1;lia
  exact h.short z (k:=p.1) (c:=d.A1[j]) (.inr ⟨m,em,nj,by rw[ej];exact Q3 hj,by rw[ej];exact e⟩)
end
theorem SzOk.new:SzOk SSt.new:=⟨by decide,λm e=>by cases e⟩
theorem SzOk.kv (z:SzOk st):SzOk {st with kv:=kvs}:=⟨z.pw,z.nx⟩
theorem SzOk.one (z:SzOk st):SzOk st.one:=by
 unfold SSt.one;cases e:st.nxt with
 |none=>exact z
 |some m=>
  obtain⟨pm,v0,v1,hh⟩:=z.nx m e;show SzOk (if _ then _ else _);split
  .exact⟨pm,λm' q=>by cases q⟩
  .rename_i c
   refine⟨z.pw,λm' q=>?_⟩;have q:some m=some m':=q;cases q;exact⟨pm,by show 0<=st.mv+1;lia,by show st.mv+1<st.size;lia,hh⟩
theorem Kr {x:Int} (h:x∈([4,8,16,32,64,128,256]:List Int)) (c:x<256):2*x∈([4,8,16,32,64,128,256]:List Int):=by
 rcases lT h with rfl|rfl|rfl|rfl|rfl|rfl|rfl<;>first|decide|exact absurd c (by decide)
theorem Ih {x:Int} (h:x∈([4,8,16,32,64,128,256]:List Int)) (c:4<x):x/2∈([4,8,16,32,64,128,256]:List Int)/\2*(x/2)=x:=by
 rcases lT h with rfl|rfl|rfl|rfl|rfl|rfl|rfl<;>first|decide|exact absurd c (by decide)
theorem Ig {x:Int} (h:x∈([4,8,16,32,64,128,256]:List Int)):0<x:=by
 rcases lT h with rfl|rfl|rfl|rfl|rfl|rfl|rfl<;>decide
theorem SzOk.three (z:SzOk st):SzOk st.three:=by
 unfold SSt.three;cases e:st.nxt with
 |some m=>exact z
 |none=>
  show SzOk (if _ then _ else _);split
  .rename_i c
   refine⟨z.pw,λm' q=>?_⟩;cases q;exact⟨Kr z.pw c.2,Zu _,Ig z.pw,.inl rfl⟩
  .split
   .rename_i c
    refine⟨z.pw,λm' q=>?_⟩;cases q;exact⟨(Ih z.pw c.2).1,Zu _,Ig z.pw,.inr (Ih z.pw c.2).2⟩
   .exact z
def SlA (_K:PySem.W.Frag) (t:Adr) (H:Hp) (a:Addr) (F:Addr->Prop) (st:SSt):Prop:=
 ∃d,SlB t H a st d/\(∀b,F b↔SlF a st d b)/\d.n=(st.kv.length:Int)/\(st.kv.map (·.1)).Nodup/\SzOk st
section
theorem SlA.ins (h:SlA K t H a F st):∃dx fs,H a=some (.ins t.aY dx fs)/\∀m,NoM m->fs.lookup m=none:=by
 obtain⟨d,hb,_⟩:=h;obtain⟨dx,ho⟩:=hb.obj;exact⟨dx,_,ho,λm hm=>Ic hm⟩
theorem SlA.dom (h:SlA K t H a F st) (hb:F b):∃o,H b=some o:=by
 obtain⟨d,h1,h2,_⟩:=h;exact h1.dom ((h2 b).mp hb)
theorem SlA.frame (h:SlA K t H a F st) (f:∀b,F b->H' b=H b):SlA K t H' a F st:=by
 obtain⟨d,h1,h2,h3⟩:=h;exact⟨d,h1.frame λb hb=>f b ((h2 b).mpr hb),h2,h3⟩
end
section
theorem SlA.same (h:SlA K t H a F st) (s:Same H H'):SlA K t H' a F st:=h.frame λb hb=>by
 obtain⟨o,e⟩:=h.dom hb;rw[e];exact s b o e
theorem SlA.out (h:SlA K t H a F st) (e:H p=none):¬F p:=λz=>by
 obtain⟨o,q⟩:=h.dom z;rw[q]at e;cases e
theorem SlA.upd (h:SlA K t H a F st) (e:¬F p):SlA K t (L2.upd H p o) a F st:=h.frame λb hb=>af λz=>e (z▸hb)
theorem SlA.new (h:SlA K t H a F st) (e:H p=none):SlA K t (L2.upd H p o) a F st:=h.upd (h.out e)
end
def tZ (K:PySem.W.Frag) (t:Adr):Sp:=λvs H Q _=>∃(a dx:Addr),vs=[.ref a]/\H a=some (.ins t.aY dx [])/\H dx=some (.own a)/\∀H' F,SlA K t H' a F SSt.new->Fr (λb=>b=a\/b=dx) F H H'->Q .non H'
def vO (K:PySem.W.Frag) (t:Adr):Sp:=λvs H Q _=>∃(a:Addr) (k i:Int) (F:Addr->Prop) (st:SSt),vs=[.ref a,.int k,.int i]/\SlA K t H a F st/\0<=k/\st.kv.length<4096/\
 ∀H' F',SlA K t H' a F' (st.put k (.int i))->Fr F F' H H'->Q .non H'
def t7 (K:PySem.W.Frag) (t:Adr):Sp:=λvs H Q E=>∃(a:Addr) (k:Int) (F:Addr->Prop) (st:SSt),vs=[.ref a,.int k]/\SlA K t H a F st/\0<=k/\
 ((aO st.kv k).isSome=true->st.kv.length<4096/\∀H' F',SlA K t H' a F' (st.drop k)->Fr F F' H H'->Q .non H')/\(aO st.kv k=none->False)
def vQ (K:PySem.W.Frag) (t:Adr):Sp:=λvs H Q E=>∃(a:Addr) (k:Int) (F:Addr->Prop) (st:SSt),vs=[.ref a,.int k]/\SlA K t H a F st/\0<=k/\
 (∀v,aO st.kv k=some v->∀H' F',SlA K t H' a F' st->Fr F F' H H'->Q v H')/\(aO st.kv k=none->False)
def vP (K:PySem.W.Frag) (t:Adr):Sp:=λvs H Q _=>∃(a:Addr) (k:Int) (F:Addr->Prop) (st:SSt),vs=[.ref a,.int k]/\SlA K t H a F st/\0<=k/\
 ∀H' F',SlA K t H' a F' st->Fr F F' H H'->Q (.bl (aO st.kv k).isSome) H'
def tY (K:PySem.W.Frag) (t:Adr):Sp:=λvs H Q _=>∃(a:Addr) (F:Addr->Prop) (st:SSt),vs=[.ref a]/\SlA K t H a F st/\
 ∀H' F' l,SlA K t H' a F' st->Fr F F' H H'->H l=none->¬F' l->H' l=some (.lst (st.rows.map V.int))->Q (.ref l) H'
def cJ (l:List Int):Prop:=l.Pairwise (· < ·)
structure LvOk (ls:List (List Int)):Prop where
 ne:∀l∈ls,l≠[]
 le:∀l∈ls,l.length<=8
 nb:∀(i:Nat) (x y:List Int),ls[i]?=some x->ls[i+1]?=some y->5<=x.length+y.length
 up:cJ ls.flatten
theorem LvOk.nil:LvOk []:=⟨(λ_ h=>by cases h),(λ_ h=>by cases h),(λi x y e=>by simp at e),List.Pairwise.nil⟩
theorem JG (e:ls[i]?=some x):ls=ls.take i++x::ls.drop (i+1):=by
 obtain⟨h,e⟩:=Q2.mp e;rw[<-e,<-Z2 h,QJ]
theorem gJ (e:ls[i]?=some x):ls.flatten=(ls.take i).flatten++(x++(ls.drop (i+1)).flatten):=by
 conv=>lhs;rw[JG e]
 rw[Ze,Zc]
theorem rise3 {a b c:List Int}:cJ (a++(b++c))↔cJ a/\cJ b/\cJ c/\(∀x∈a,∀y∈b,x<y)/\(∀x∈a,∀y∈c,x<y)/\∀x∈b,∀y∈c,x<y:=by
 unfold cJ;rw[Qk,Qk];constructor
 .rintro ⟨h1,⟨h2,h3,h4⟩,h5⟩;exact⟨h1,h2,h3,λx hx y hy=>h5 x hx y (ZX _ hy),λx hx y hy=>h5 x hx y (Qv _ hy),h4⟩
 .rintro ⟨h1,h2,h3,h4,h5,h6⟩;refine⟨h1,⟨h2,h3,h6⟩,λx hx y hy=>?_⟩;rcases Q5.mp hy with z|z
  .exact h4 x hx y z
  .exact h5 x hx y z
structure LeafOf (ls:List (List Int)) (k:Int) (i:Nat):Prop where
 le:i<=ls.length
 lo:∀(j:Nat) (x:List Int),j<i->ls[j]?=some x->∀y∈x,y<k
 hi:∀x,ls[i]?=some x->∃y∈x,k<=y
theorem zd {y:Int} (h:y∈(ls.take i).flatten):∃(j:Nat) (x:List Int),j<i/\ls[j]?=some x/\y∈x:=by
 obtain⟨x,hx,hy⟩:=XO.mp h;obtain⟨j,hj,e⟩:=Qz hx;rw[Q8]at hj;rw[Zt]at e;exact⟨j,x,by lia,Q2.mpr ⟨by lia,e⟩,hy⟩
theorem LeafOf.ahead (h:LeafOf ls k i):∀y∈(ls.take i).flatten,y<k:=λy hy=>by
 obtain⟨j,x,hj,e,hx⟩:=zd hy;exact h.lo j x hj e y hx
theorem LeafOf.behind (o:LvOk ls) (h:LeafOf ls k i):∀y∈(ls.drop (i+1)).flatten,k<y:=λy hy=>by
 cases e:ls[i]? with
 |none=>
  have:ls.length<=i:=Zo.mp e;rw[Zg (by lia)]at hy;cases hy
 |some x=>
  obtain⟨z,hz,le⟩:=h.hi x e;have up:=o.up;rw[gJ e]at up;have:=(rise3.mp up).2.2.2.2.2 z hz y hy;lia
theorem LeafOf.mem (o:LvOk ls) (h:LeafOf ls k i):k∈ls.flatten↔∃x,ls[i]?=some x/\k∈x:=by
 constructor
 .intro hk;cases e:ls[i]? with
  |none=>
   have l:ls.length<=i:=Zo.mp e;have:ls.take i=ls:=Qt l;have:=h.ahead k (by rw[this];exact hk);lia
  |some x=>
   rw[gJ e]at hk;rcases Q5.mp hk with z|z
   .have:=h.ahead k z;lia
   .rcases Q5.mp z with z|z
    .exact⟨x,rfl,z⟩
    .have:=h.behind o k z;lia
 .rintro ⟨x,e,hk⟩;exact XO.mpr ⟨x,Q1 e,hk⟩
theorem z8:∀{l:List Int} {k:Int},cJ l->k∉l->(∀x∈l.take (l.filter (λz=>decide (z<k))).length,x<k)/\∀x∈l.drop (l.filter (λz=>decide (z<k))).length,k<x
 | [],k,_,_=>⟨λx h=>by simp at h,λx h=>by simp at h⟩
 |a::r,k,up,nk=>by
  obtain⟨h1,h2⟩:=Z5.mp up;have nr:k∉r:=λz=>nk (Qd _ z);have na:a≠k:=λz=>nk (by rw[z];exact Q9);by_cases c:a<k
  .obtain⟨i1,i2⟩:=z8 h2 nr;rw[ZT,if_pos (by simpa using c),Qp,Xw,List.drop_succ_cons];refine⟨λx hx=>?_,i2⟩;rcases Qg.mp hx with rfl|hx
   .exact c
   .exact i1 x hx
  .have:(a::r).filter (λz=>decide (z<k))=[]:=by
    rw[ZR];intro x hx;rcases Qg.mp hx with rfl|hx
    .simpa using c
    .have:=h1 x hx;simp;lia
   rw[this];refine⟨λx hx=>by simp at hx,λx hx=>?_⟩;have hx:x∈a::r:=by simpa using hx
   rcases Qg.mp hx with rfl|hx
   .lia
   .have:=h1 x hx;lia
def fV (l:List Int) (k:Int):List Int:=l.take (l.filter (λz=>decide (z<k))).length++k::l.drop (l.filter (λz=>decide (z<k))).length
theorem Fg:(fV l k).length=l.length+1:=by
 have h:=Qo (λz=>decide (z<k)) l;unfold fV;rw[Qa,Qp,Q8,QA];lia
theorem insL_mem {x:Int}:x∈fV l k↔x=k\/x∈l:=by
 unfold fV;rw[Q5,Qg];have:x∈l↔x∈l.take (l.filter (λz=>decide (z<k))).length\/x∈l.drop (l.filter (λz=>decide (z<k))).length:=by
  rw[<-Q5,QJ]
 rw[this];constructor
 .rintro (h|h|h)
  .exact .inr (.inl h)
  .exact .inl h
  .exact .inr (.inr h)
 .rintro (h|h|h)
  .exact .inr (.inl h)
  .exact .inl h
  .exact .inr (.inr h)
theorem Dm (up:cJ l) (nk:k∉l):cJ (fV l k):=by
 obtain⟨h1,h2⟩:=z8 up nk;have up':cJ (l.take (l.filter (λz=>decide (z<k))).length++l.drop (l.filter (λz=>decide (z<k))).length):=by rw[QJ];exact up
 obtain⟨u1,u2,u3⟩:=Qk.mp up';unfold fV;refine Qk.mpr ⟨u1,Z5.mpr ⟨h2,u2⟩,λx hx y hy=>?_⟩;rcases Qg.mp hy with rfl|hy
 .exact h1 x hx
 .exact u3 x hx y hy
structure AddAt (ls:List (List Int)) (k:Int) (i:Nat) (x:List Int):Prop where
 at_:ls[i]?=some x
 lo:∀y∈(ls.take i).flatten,y<k
 hi:∀y∈(ls.drop (i+1)).flatten,k<y
theorem LeafOf.add (o:LvOk ls) (h:LeafOf ls k i) (ne:ls≠[]):∃x,AddAt ls k (min i (ls.length-1)) x:=by
 have hl:0<ls.length:=QZ.mpr ne;by_cases c:i<ls.length
 .have:min i (ls.length-1)=i:=by lia
  rw[this];exact⟨ls[i],Q3 c,h.ahead,h.behind o⟩
 .have le:=h.le;have:min i (ls.length-1)=ls.length-1:=by lia
  rw[this];have hlt:ls.length-1<ls.length:=by lia
  refine⟨ls[ls.length-1],Q3 hlt,λy hy=>?_,λy hy=>?_⟩
  .obtain⟨j,x,hj,e,hx⟩:=zd hy;exact h.lo j x (by lia) e y hx
  .rw[Zg (by lia)]at hy;cases hy
theorem x9 (e:ls[i]?=some x):ls.set i y=ls.take i++y::ls.drop (i+1):=by
 have hi:=(Q2.mp e).1;rw[List.set_eq_take_append_cons_drop,if_pos hi]
theorem pN (e:ls[i]?=some x):(ls.set i y).flatten=(ls.take i).flatten++(y++(ls.drop (i+1)).flatten):=by
 rw[x9 e,Ze,Zc]
theorem AddAt.set (o:LvOk ls) (h:AddAt ls k i x) (nk:k∉ls.flatten):cJ (ls.set i (fV x k)).flatten/\∀z,z∈(ls.set i (fV x k)).flatten↔z=k\/z∈ls.flatten:=by
 have up:=o.up;rw[gJ h.at_]at up nk;obtain⟨u1,u2,u3,u4,u5,u6⟩:=rise3.mp up;have nx:k∉x:=λz=>nk (Qv _ (ZX _ z));rw[pN h.at_,gJ h.at_];refine⟨rise3.mpr ⟨u1,Dm u2 nx,u3,λa ha b hb=>?_,u5,λa ha b hb=>?_⟩,λz=>?_⟩
 .rcases insL_mem.mp hb with rfl|hb
  .exact h.lo a ha
  .exact u4 a ha b hb
 .rcases insL_mem.mp ha with rfl|ha
  .exact h.hi b hb
  .exact u6 a ha b hb
 .rw[Q5,Q5,Q5,Q5,insL_mem];constructor
  .rintro (h|(h|h)|h)
   .exact .inr (.inl h)
   .exact .inl h
   .exact .inr (.inr (.inl h))
   .exact .inr (.inr (.inr h))
  .rintro (h|h|h|h)
   .exact .inr (.inl (.inl h))
   .exact .inl h
   .exact .inr (.inl (.inr h))
   .exact .inr (.inr h)
theorem qc {z:List Int} (e:ls[i]?=some x) (f:(ls.set i y)[j]?=some z):(i=j/\z=y)\/(i≠j/\ls[j]?=some z):=by
 rw[Qy]at f;by_cases c:i=j
 .rw[if_pos c]at f;split at f
  .cases f;exact .inl ⟨c,rfl⟩
  .cases f
 .rw[if_neg c]at f;exact .inr ⟨c,f⟩
theorem tI {z:List Int} (e:ls[i]?=some x) (h:z∈ls.set i y):z=y\/z∈ls:=by
 obtain⟨j,hj,ez⟩:=Qz h;rcases qc e (Q2.mpr ⟨hj,ez⟩)with⟨_,q⟩|⟨_,q⟩
 .exact .inl q
 .exact .inr (Q1 q)
theorem LvOk.grown (o:LvOk ls) (e:ls[i]?=some x) (l1:x.length<=y.length) (l2:y.length<=8) (up:cJ (ls.set i y).flatten):LvOk (ls.set i y):=by
 have hx:=o.ne x (Q1 e);have px:0<x.length:=QZ.mpr hx;refine⟨λl hl=>?_,λl hl=>?_,λj a b f g=>?_,up⟩
 .rcases tI e hl with rfl|hl
  .exact Zp (by lia)
  .exact o.ne l hl
 .rcases tI e hl with rfl|hl
  .exact l2
  .exact o.le l hl
 .rcases qc e f with⟨c,h1⟩|⟨c,f1⟩<;>rcases qc e g with⟨c',h2⟩|⟨c',g1⟩
  .lia
  .subst c;have:=o.nb i x b e g1;rw[h1];lia
  .rw[c']at e;have:=o.nb j a x f1 e;rw[h2];lia
  .exact o.nb j a b f1 g1
theorem LvOk.parted {a b:List Int} (o:LvOk ls) (e:ls[i]?=some x) (la:a.length=4) (lb:b.length=5) (up:cJ (ls.set i (a++b)).flatten):
  LvOk ((ls.set i a).take (i+1)++b::(ls.set i a).drop (i+1))/\((ls.set i a).take (i+1)++b::(ls.set i a).drop (i+1)).flatten=(ls.set i (a++b)).flatten:=by
 have hi:=(Q2.mp e).1;have lt:(ls.take i).length=i:=by rw[Q8];lia
 have e1:(ls.set i a).take (i+1)++b::(ls.set i a).drop (i+1)=ls.take i++a::b::ls.drop (i+1):=by
  rw[x9 (y:=a) e];have h1:(ls.take i++a::ls.drop (i+1)).take (i+1)=ls.take i++ [a]:=by
   rw[List.take_append,lt,Qt (by lia)];have:i+1-i=1:=by lia
   rw[this];rfl
  have h2:(ls.take i++a::ls.drop (i+1)).drop (i+1)=ls.drop (i+1):=by
   rw[List.drop_append,lt,Zg (by lia)];have:i+1-i=1:=by lia
   rw[this];rfl
  rw[h1,h2,Ql];rfl
 have e2:(ls.take i++a::b::ls.drop (i+1)).flatten=(ls.set i (a++b)).flatten:=by
  rw[pN e,Ze,Zc,Zc,Ql]
 rw[e1];refine⟨⟨λl hl=>?_,λl hl=>?_,λj p q f g=>?_,by rw[e2];exact up⟩,e2⟩
 .rcases Q5.mp hl with h|h
  .exact o.ne l (QY h)
  .rcases Qg.mp h with rfl|h
   .exact Zp (by lia)
   .rcases Qg.mp h with rfl|h
    .exact Zp (by lia)
    .exact o.ne l (ZD h)
 .rcases Q5.mp hl with h|h
  .exact o.le l (QY h)
  .rcases Qg.mp h with rfl|h
   .lia
   .rcases Qg.mp h with rfl|h
    .lia
    .exact o.le l (ZD h)
 .have look:∀(j:Nat) (p:List Int),(ls.take i++a::b::ls.drop (i+1))[j]?=some p->(j<i/\ls[j]?=some p)\/(j=i/\p=a)\/(j=i+1/\p=b)\/(i+2<=j/\ls[j-1]?=some p):=λj p f=>by
   rw[Xp,lt]at f;split at f
   .rename_i c
    rw[List.getElem?_take,if_pos c]at f;exact .inl ⟨c,f⟩
   .rename_i c
    rcases(show j=i\/j=i+1\/i+2<=j by lia)with rfl|rfl|h
    .have:j-j=0:=by lia
     rw[this]at f;cases f;exact .inr (.inl ⟨rfl,rfl⟩)
    .have:i+1-i=1:=by lia
     rw[this]at f;cases f;exact .inr (.inr (.inl ⟨rfl,rfl⟩))
    .obtain⟨n,rfl⟩:∃n,j=i+2+n:=⟨j-(i+2),by lia⟩;have:i+2+n-i=n+1+1:=by lia
     rw[this,Xe,Xe,X4]at f;refine .inr (.inr (.inr ⟨h,?_⟩));have:i+2+n-1=i+1+n:=by lia
     rw[this];exact f
  have pos:∀(j:Nat) (p:List Int),ls[j]?=some p->1<=p.length:=λj p f=>QZ.mpr (o.ne p (Q1 f));rcases look j p f with⟨c,f1⟩|⟨c,h1⟩|⟨c,h1⟩|⟨c,f1⟩<;>rcases look (j+1) q g with⟨c',g1⟩|⟨c',h2⟩|⟨c',h2⟩|⟨c',g1⟩<;>(try rw[h1])<;>(try rw[h2])<;>(try lia)
  .exact o.nb j p q f1 g1
  .have:=pos j p f1;lia
  .have:j+1-1=j-1+1:=by lia
   rw[this]at g1;exact o.nb (j-1) p q f1 g1
def lvF (L:Addr):List (Str×V):=[("leaves",.ref L)]
theorem cG:(lvF L).lookup ("leaves":Str)=some (.ref L):=by
 have hb:(("leaves":Str)==("leaves":Str))=true:=beq_iff_eq.mpr rfl;unfold lvF;simp only[List.lookup,hb]
theorem Iu {m:Str} (h:m≠("leaves":Str)):(lvF L).lookup m=none:=by
 have hb:(m==("leaves":Str))=false:=beq_eq_false_iff_ne.mpr h;unfold lvF;simp only[List.lookup,hb]
structure LvB (t:Adr) (H:Hp) (a L:Addr) (A:List Addr) (ls:List (List Int)):Prop where
 obj:∃dx,H a=some (.ins t.bx dx (lvF L))
 lst:H L=some (.lst (A.map V.ref))
 len:A.length=ls.length
 leaf:∀(j:Nat) (b:Addr) (l:List Int),A[j]?=some b->ls[j]?=some l->H b=some (.lst (l.map V.int))
 inj:∀(i j:Nat) (b:Addr),A[i]?=some b->A[j]?=some b->i=j
 nL:L∉A
def LvF (a L:Addr) (A:List Addr):Addr->Prop:=λb=>b=a\/b=L\/b∈A
section
theorem LvB.at (h:LvB t H a L A ls) (e:ls[i]?=some x):∃c,A[i]?=some c/\H c=some (.lst (x.map V.int)):=by
 have hi:i<A.length:=by rw[h.len];exact(Q2.mp e).1
 exact⟨A[i],Q3 hi,h.leaf i _ x (Q3 hi) e⟩
theorem LvB.has (h:LvB t H a L A ls) (hb:b∈A):∃(j:Nat) (l:List Int),A[j]?=some b/\ls[j]?=some l/\H b=some (.lst (l.map V.int)):=by
 obtain⟨j,hj,e⟩:=Qz hb;have hc:j<ls.length:=by rw[<-h.len];exact hj
 have e1:A[j]?=some b:=by rw[Q3 hj,e]
 exact⟨j,ls[j],e1,Q3 hc,h.leaf j b _ e1 (Q3 hc)⟩
theorem LvB.frame (h:LvB t H a L A ls) (f:∀b,LvF a L A b->H' b=H b):LvB t H' a L A ls:=by
 obtain⟨dx,ho⟩:=h.obj;exact⟨⟨dx,by rw[f a (.inl rfl)];exact ho⟩,by rw[f L (.inr (.inl rfl))];exact h.lst,h.len,λj b l e1 e2=>by rw[f b (.inr (.inr (Q1 e1)))];exact h.leaf j b l e1 e2,h.inj,h.nL⟩
theorem LvB.dom (h:LvB t H a L A ls) (hb:LvF a L A b):∃o,H b=some o:=by
 obtain⟨dx,ho⟩:=h.obj;rcases hb with rfl|rfl|hb
 .exact⟨_,ho⟩
 .exact⟨_,h.lst⟩
 .obtain⟨_,_,_,_,q⟩:=h.has hb;exact⟨_,q⟩
theorem LvB.same (h:LvB t H a L A ls) (s:Same H H'):LvB t H' a L A ls:=h.frame λb hb=>by
 obtain⟨o,e⟩:=h.dom hb;rw[e,s b o e]
theorem LvB.out (h:LvB t H a L A ls) (n:H p=none):¬LvF a L A p:=λz=>by
 obtain⟨o,e⟩:=h.dom z;rw[n]at e;cases e
theorem LvB.write (h:LvB t H a L A ls) (ec:A[i]?=some c) (ex:ls[i]?=some x):LvB t (upd H c (.lst (y.map V.int))) a L A (ls.set i y):=by
 obtain⟨dx,ho⟩:=h.obj;have hc:=h.leaf i c x ec ex;have cA:=Q1 ec;refine⟨⟨dx,by rw[af (cm ho hc (by intro z;cases z))];exact ho⟩,by rw[af (λz=>h.nL (by rw[z];exact cA))];exact h.lst,by rw[QI];exact h.len,λj b l e1 e2=>?_,h.inj,h.nL⟩;rw[Qy]at e2;by_cases z:i=j
 .subst z;rw[ec]at e1;cases e1;rw[if_pos rfl]at e2;split at e2
  .cases e2;exact ae
  .cases e2
 .rw[if_neg z]at e2;rw[af (λy=>z (h.inj i j c ec (by rw[<-y];exact e1)))];exact h.leaf j b l e1 e2
theorem LvB.swap (h:LvB t H a L A ls) {n:Addr} (ec:A[i]?=some c) (ex:ls[i]?=some x) (hn:H n=some (.lst (y.map V.int))) (nF:¬LvF a L A n):LvB t (upd H L (.lst ((A.set i n).map V.ref))) a L (A.set i n) (ls.set i y):=by
 obtain⟨dx,ho⟩:=h.obj;have nA:n∉A:=λz=>nF (.inr (.inr z));have nL:n≠L:=λz=>nF (.inr (.inl z));refine⟨⟨dx,by rw[af (cm ho h.lst (by intro z;cases z))];exact ho⟩,ae,by rw[QI,QI];exact h.len,λj b l e1 e2=>?_,λj k b e1 e2=>?_,λz=>?_⟩
 .rw[Qy]at e1 e2;by_cases z:i=j
  .rw[if_pos z]at e1 e2;split at e1
   .cases e1;split at e2
    .cases e2;rw[af nL];exact hn
    .cases e2
   .cases e1
  .rw[if_neg z]at e1 e2;rw[af (λy=>h.nL (by rw[<-y];exact Q1 e1))];exact h.leaf j b l e1 e2
 .rw[Qy]at e1 e2;by_cases z:i=j
  .rw[if_pos z]at e1;split at e1
   .cases e1;by_cases w:i=k
    .exact z.symm.trans w
    .rw[if_neg w]at e2;exact absurd (Q1 e2) nA
   .cases e1
  .rw[if_neg z]at e1;by_cases w:i=k
   .rw[if_pos w]at e2;split at e2
    .cases e2;exact absurd (Q1 e1) nA
    .cases e2
   .rw[if_neg w]at e2;exact h.inj j k b e1 e2
 .obtain⟨j,hj,e⟩:=Qz z;have e1:=Q2.mpr ⟨hj,e⟩;rw[Qy]at e1;by_cases w:i=j
  .rw[if_pos w]at e1;split at e1
   .cases e1;exact nL rfl
   .cases e1
  .rw[if_neg w]at e1;exact h.nL (Q1 e1)
theorem ins_get {l:List α} {x y:α} (hi:i<=l.length) (e:(l.take i++x::l.drop i)[j]?=some y):(j<i/\l[j]?=some y)\/(j=i/\y=x)\/(i<j/\l[j-1]?=some y):=by
 have lt:(l.take i).length=i:=by rw[Q8];lia
 rw[Xp,lt]at e;split at e
 .rename_i c
  rw[List.getElem?_take,if_pos c]at e;exact .inl ⟨c,e⟩
 .rename_i c
  rcases(show j=i\/i<j by lia)with rfl|h
  .have:j-j=0:=by lia
   rw[this]at e;cases e;exact .inr (.inl ⟨rfl,rfl⟩)
  .obtain⟨n,rfl⟩:∃n,j=i+1+n:=⟨j-(i+1),by lia⟩;have:i+1+n-i=n+1:=by lia
   rw[this,Xe,X4]at e;have:i+1+n-1=i+n:=by lia
   exact .inr (.inr ⟨h,by rw[this];exact e⟩)
theorem LvB.insert (h:LvB t H a L A ls) {n:Addr} (hi:i<=A.length) (hn:H n=some (.lst (y.map V.int))) (nF:¬LvF a L A n):
  LvB t (upd H L (.lst ((A.take i++n::A.drop i).map V.ref))) a L (A.take i++n::A.drop i) (ls.take i++y::ls.drop i):=by
 obtain⟨dx,ho⟩:=h.obj;have nA:n∉A:=λz=>nF (.inr (.inr z));have nL:n≠L:=λz=>nF (.inr (.inl z));have hi2:i<=ls.length:=by rw[<-h.len];exact hi
 refine⟨⟨dx,by rw[af (cm ho h.lst (by intro z;cases z))];exact ho⟩,ae,?_,λj b l e1 e2=>?_,λj k b e1 e2=>?_,λz=>?_⟩
 .have:=h.len;rw[Qa,Qa,Qp,Qp,Q8,Q8,QA,QA];lia
 .rcases ins_get hi e1 with⟨c1,f1⟩|⟨c1,f1⟩|⟨c1,f1⟩<;>rcases ins_get hi2 e2 with⟨c2,f2⟩|⟨c2,f2⟩|⟨c2,f2⟩<;>(try lia)
  .rw[af (λy=>h.nL (by rw[<-y];exact Q1 f1))];exact h.leaf j b l f1 f2
  .rw[f1,f2,af nL];exact hn
  .rw[af (λy=>h.nL (by rw[<-y];exact Q1 f1))];exact h.leaf (j-1) b l f1 f2
 .rcases ins_get hi e1 with⟨c1,f1⟩|⟨c1,f1⟩|⟨c1,f1⟩<;>rcases ins_get hi e2 with⟨c2,f2⟩|⟨c2,f2⟩|⟨c2,f2⟩
  .exact h.inj j k b f1 f2
  .rw[f2]at f1;exact absurd (Q1 f1) nA
  .have:=h.inj _ _ b f1 f2;lia
  .rw[f1]at f2;exact absurd (Q1 f2) nA
  .lia
  .rw[f1]at f2;exact absurd (Q1 f2) nA
  .have:=h.inj _ _ b f1 f2;lia
  .rw[f2]at f1;exact absurd (Q1 f1) nA
  .have:=h.inj _ _ b f1 f2;lia
 .rcases Q5.mp z with z|z
  .exact h.nL (QY z)
  .rcases Qg.mp z with z|z
   .exact nL z.symm
   .exact h.nL (ZD z)
theorem nE {l:List α} {y:α} (e:(l.eraseIdx i)[j]?=some y):(j<i/\l[j]?=some y)\/(i<=j/\l[j+1]?=some y):=by
 rw[List.getElem?_eraseIdx]at e;split at e
 .rename_i c;exact .inl ⟨c,e⟩
 .rename_i c;exact .inr ⟨by lia,e⟩
theorem LvB.erase (h:LvB t H a L A ls):LvB t (upd H L (.lst ((A.eraseIdx i).map V.ref))) a L (A.eraseIdx i) (ls.eraseIdx i):=by
 obtain⟨dx,ho⟩:=h.obj;refine⟨⟨dx,by rw[af (cm ho h.lst (by intro z;cases z))];exact ho⟩,ae,?_,λj b l e1 e2=>?_,λj k b e1 e2=>?_,λz=>h.nL (Z6 z)⟩
 .rw[Xq,Xq,h.len]
 .have bA:b∈A:=Z6 (Q1 e1);rw[af (λy=>h.nL (by rw[<-y];exact bA))];rcases nE e1 with⟨c1,f1⟩|⟨c1,f1⟩<;>rcases nE e2 with⟨c2,f2⟩|⟨c2,f2⟩<;>(try lia)
  .exact h.leaf j b l f1 f2
  .exact h.leaf (j+1) b l f1 f2
 .rcases nE e1 with⟨c1,f1⟩|⟨c1,f1⟩<;>rcases nE e2 with⟨c2,f2⟩|⟨c2,f2⟩
  .exact h.inj j k b f1 f2
  .have:=h.inj _ _ b f1 f2;lia
  .have:=h.inj _ _ b f1 f2;lia
  .have:=h.inj _ _ b f1 f2;lia
end
theorem wY (up:cJ ls.flatten) (ex:ls[i]?=some x) (ey:ls[j]?=some y) (h:i<j):∀p∈x,∀q∈y,p<q:=λp hp q hq=>by
 rw[gJ ex]at up;refine(rise3.mp up).2.2.2.2.2 p hp q (XO.mpr ⟨y,?_,hq⟩);refine Q1 (i:=j-(i+1)) ?_;rw[X4];have:i+1+(j-(i+1))=j:=by lia
 rw[this];exact ey
theorem GU (up:cJ ls.flatten) (ex:ls[i]?=some x):cJ x:=by
 rw[gJ ex]at up;exact(rise3.mp up).2.1
theorem Fb (up:cJ x) (ne:x≠[]):∃m,x[x.length-1]?=some m/\m∈x/\∀y∈x,y<=m:=by
 have hl:=QZ.mpr ne;have hlt:x.length-1<x.length:=by lia
 refine⟨x[x.length-1],Q3 hlt,Zh hlt,λy hy=>?_⟩;obtain⟨j,hj,e⟩:=Qz hy;rcases(show j=x.length-1\/j<x.length-1 by lia)with h|h
 .subst h;rw[e];exact Zu _
 .have:=Z3.mp up j (x.length-1) hj hlt h;rw[e]at this;lia
structure LvN (ls:List (List Int)) (E:Nat->Prop):Prop where
 ne:∀l∈ls,l≠[]
 le:∀l∈ls,l.length<=8
 nb:∀(i:Nat) (x y:List Int),ls[i]?=some x->ls[i+1]?=some y->E i\/5<=x.length+y.length
 up:cJ ls.flatten
theorem LvN.ok (h:LvN ls E) (no:∀i,¬E i):LvOk ls:=⟨h.ne,h.le,λi x y e1 e2=>(h.nb i x y e1 e2).resolve_left (no i),h.up⟩
def oe (ls:List (List Int)) (i:Nat):List (List Int):=match ls[i]?,ls[i+1]? with
 |some x,some y=>if x.length+y.length<5 then(ls.set i (x++y)).eraseIdx (i+1)else ls
 |_,_=>ls
theorem u0 (h:ls.length<=i+1):oe ls i=ls:=by
 unfold oe;have:ls[i+1]?=none:=Zo.mpr h;rw[this];split
 .rename_i h2;cases h2
 .rfl
theorem zR (ex:ls[i]?=some x) (ey:ls[i+1]?=some y):oe ls i=if x.length+y.length<5 then(ls.set i (x++y)).eraseIdx (i+1)else ls:=by
 unfold oe;rw[ex,ey]
theorem Dk:(oe ls i).length<=ls.length/\ls.length<=(oe ls i).length+1:=by
 unfold oe;split
 .split
  .rw[Xq,QI];split<;>lia
  .lia
 .lia
theorem uZ {z v:List Int} (e:((ls.set i z).eraseIdx (i+1))[j]?=some v):(j<i/\ls[j]?=some v)\/(j=i/\v=z)\/(i<j/\ls[j+1]?=some v):=by
 rw[List.getElem?_eraseIdx]at e;split at e
 .rename_i c
  rw[Qy]at e;by_cases h:i=j
  .rw[if_pos h]at e;split at e
   .cases e;exact .inr (.inl ⟨h.symm,rfl⟩)
   .cases e
  .rw[if_neg h]at e;exact .inl ⟨by lia,e⟩
 .rename_i c
  rw[Qy,if_neg (by lia)]at e;exact .inr (.inr ⟨by lia,e⟩)
theorem Dj (ex:ls[i]?=some x) (ey:ls[i+1]?=some y):((ls.set i (x++y)).eraseIdx (i+1)).flatten=ls.flatten:=by
 have hi:=(Q2.mp ex).1;have lt:(ls.take i).length=i:=by rw[Q8];lia
 have hy:ls.drop (i+1)=y::ls.drop (i+2):=by
  obtain⟨h,e⟩:=Q2.mp ey;rw[<-e,<-Z2 h]
 have e1:(ls.set i (x++y)).eraseIdx (i+1)=ls.take i++(x++y)::ls.drop (i+2):=by
  rw[x9 ex,hy,Xz (by lia),lt];have:i+1-i=1:=by lia
  rw[this];rfl
 rw[e1,gJ ex,hy,Ze,Zc,Zc,Ql]
theorem LvN.join (h:LvN ls E) (hE:∀j,E j->j=i\/j+1=i):LvN (oe ls i) (λj=>j+1=i/\E j)/\(oe ls i).flatten=ls.flatten:=by
 cases ex:ls[i]? with
 |none=>
  have hl:ls.length<=i:=Zo.mp ex;rw[u0 (by lia)];refine⟨⟨h.ne,h.le,λj x y e1 e2=>?_,h.up⟩,rfl⟩;rcases h.nb j x y e1 e2 with z|z
  .rcases hE j z with rfl|w
   .rw[ex]at e1;cases e1
   .exact .inl ⟨w,z⟩
  .exact .inr z
 |some x=>
  cases ey:ls[i+1]? with
  |none=>
   have hl:ls.length<=i+1:=Zo.mp ey;rw[u0 hl];refine⟨⟨h.ne,h.le,λj x' y e1 e2=>?_,h.up⟩,rfl⟩;rcases h.nb j x' y e1 e2 with z|z
   .rcases hE j z with rfl|w
    .rw[ey]at e2;cases e2
    .exact .inl ⟨w,z⟩
   .exact .inr z
  |some y=>
   rw[zR ex ey];by_cases c:x.length+y.length<5
   .rw[if_pos c];have fl:=Dj ex ey;have mem:∀v∈(ls.set i (x++y)).eraseIdx (i+1),v=x++y\/v∈ls:=λv hv=>by
     obtain⟨j,hj,e⟩:=Qz hv;rcases uZ (Q2.mpr ⟨hj,e⟩)with⟨_,q⟩|⟨_,q⟩|⟨_,q⟩
     .exact .inr (Q1 q)
     .exact .inl q
     .exact .inr (Q1 q)
    have px:=QZ.mpr (h.ne x (Q1 ex));have lxy:(x++y).length=x.length+y.length:=Qa;refine⟨⟨λv hv=>?_,λv hv=>?_,λj u v e1 e2=>?_,by rw[fl];exact h.up⟩,fl⟩
    .rcases mem v hv with rfl|q
     .exact Zp (by lia)
     .exact h.ne v q
    .rcases mem v hv with rfl|q
     .lia
     .exact h.le v q
    .rcases uZ e1 with⟨c1,f1⟩|⟨c1,f1⟩|⟨c1,f1⟩<;>rcases uZ e2 with⟨c2,f2⟩|⟨c2,f2⟩|⟨c2,f2⟩<;>(try lia)
     .rcases h.nb j u v f1 f2 with z|z
      .rcases hE j z with w|w
       .lia
       .lia
      .exact .inr z
     .rcases h.nb j u x f1 (by rw[c2];exact ex)with z|z
      .exact .inl ⟨c2,z⟩
      .rw[f2];exact .inr (by lia)
     .have e3:ls[i+1+1]?=some v:=by rw[<-c1];exact f2
      rcases h.nb (i+1) y v ey e3 with z|z
      .rcases hE (i+1) z with w|w<;>lia
      .rw[f1];exact .inr (by lia)
     .rcases h.nb (j+1) u v f1 f2 with z|z
      .rcases hE (j+1) z with w|w<;>lia
      .exact .inr z
   .rw[if_neg c];refine⟨⟨h.ne,h.le,λj u v e1 e2=>?_,h.up⟩,rfl⟩;rcases h.nb j u v e1 e2 with z|z
    .rcases hE j z with w|w
     .subst w;rw[ex]at e1;rw[ey]at e2;cases e1;cases e2;exact .inr (by lia)
     .exact .inl ⟨w,z⟩
    .exact .inr z
theorem Bf (h:cJ l):l.Nodup:=h.imp λh=>Int.ne_of_lt h
theorem LvOk.gone (o:LvOk ls) (ex:ls[i]?=some x) (hk:k∈x):cJ (ls.set i (x.erase k)).flatten/\∀z,z∈(ls.set i (x.erase k)).flatten↔z≠k/\z∈ls.flatten:=by
 have up:=o.up;rw[gJ ex]at up;obtain⟨u1,u2,u3,u4,u5,u6⟩:=rise3.mp up;have sub:(x.erase k).Sublist x:=List.erase_sublist;have nx:=Bf u2;rw[pN ex,gJ ex];refine⟨rise3.mpr ⟨u1,u2.sublist sub,u3,λa ha b hb=>u4 a ha b (sub.subset hb),u5,λa ha b hb=>u6 a (sub.subset ha) b hb⟩,λz=>?_⟩;rw[Q5,Q5,Q5,Q5,nx.mem_erase_iff];constructor
 .rintro (h|⟨h1,h2⟩|h)
  .have:=u4 z h k hk;exact⟨by lia,.inl h⟩
  .exact⟨h1,.inr (.inl h2)⟩
  .have:=u6 k hk z h;exact⟨by lia,.inr (.inr h)⟩
 .rintro ⟨h0,h|h|h⟩
  .exact .inl h
  .exact .inr (.inl ⟨h0,h⟩)
  .exact .inr (.inr h)
theorem LvOk.shrunk (o:LvOk ls) (ex:ls[i]?=some x) (ny:y≠[]) (ly:y.length<=x.length) (up:cJ (ls.set i y).flatten):LvN (ls.set i y) (λj=>j=i\/j+1=i):=by
 have hx:=o.le x (Q1 ex);refine⟨λl hl=>?_,λl hl=>?_,λj a b f g=>?_,up⟩
 .rcases tI ex hl with rfl|hl
  .exact ny
  .exact o.ne l hl
 .rcases tI ex hl with rfl|hl
  .lia
  .exact o.le l hl
 .rcases qc ex f with⟨c,_⟩|⟨c,f1⟩
  .exact .inl (.inl c.symm)
  .rcases qc ex g with⟨c',_⟩|⟨c',g1⟩
   .exact .inl (.inr c'.symm)
   .exact .inr (o.nb j a b f1 g1)
theorem LvOk.out (o:LvOk ls) (ex:ls[i]?=some x) (lx:x.length=1) (up:cJ (ls.set i []).flatten):LvOk (ls.eraseIdx i)/\(ls.eraseIdx i).flatten=(ls.set i []).flatten:=by
 have hi:=(Q2.mp ex).1;have lt:(ls.take i).length=i:=by rw[Q8];lia
 have e1:ls.eraseIdx i=ls.take i++ls.drop (i+1):=List.eraseIdx_eq_take_drop_succ _ _;have fl:(ls.eraseIdx i).flatten=(ls.set i []).flatten:=by
  rw[e1,pN ex,Ze];rfl
 refine⟨⟨λl hl=>o.ne l (Z6 hl),λl hl=>o.le l (Z6 hl),λj a b f g=>?_,by rw[fl];exact up⟩,fl⟩;rcases nE f with⟨c1,f1⟩|⟨c1,f1⟩<;>rcases nE g with⟨c2,g1⟩|⟨c2,g1⟩
 .exact o.nb j a b f1 g1
 .have e2:j+1=i:=by lia
  subst e2;have h1:=o.nb j a x f1 ex;have h2:=o.nb (j+1) x b ex g1;lia
 .lia
 .exact o.nb (j+1) a b f1 g1
def LvA (_K:PySem.W.Frag) (t:Adr) (H:Hp) (a:Addr) (F:Addr->Prop) (ks:List Int):Prop:=∃L A ls,LvB t H a L A ls/\LvOk ls/\ls.flatten=ks/\∀b,F b↔LvF a L A b
section
theorem LvA.ins (h:LvA K t H a F ks):∃dx fs,H a=some (.ins t.bx dx fs)/\∀m,m≠("leaves":Str)->fs.lookup m=none:=by
 obtain⟨L,A,ls,hb,_⟩:=h;obtain⟨dx,ho⟩:=hb.obj;exact⟨dx,_,ho,λm hm=>Iu hm⟩
theorem LvA.dom (h:LvA K t H a F ks) (hb:F b):∃o,H b=some o:=by
 obtain⟨L,A,ls,h1,_,_,h2⟩:=h;exact h1.dom ((h2 b).mp hb)
theorem LvA.frame (h:LvA K t H a F ks) (f:∀b,F b->H' b=H b):LvA K t H' a F ks:=by
 obtain⟨L,A,ls,h1,h3,h4,h2⟩:=h;exact⟨L,A,ls,h1.frame λb hb=>f b ((h2 b).mpr hb),h3,h4,h2⟩
theorem LvA.out (h:LvA K t H a F ks) (e:H p=none):¬F p:=λz=>by
 obtain⟨o,q⟩:=h.dom z;rw[q]at e;cases e
theorem LvA.upd (h:LvA K t H a F ks) (e:¬F p):LvA K t (L2.upd H p o) a F ks:=h.frame λb hb=>af λz=>e (z▸hb)
end
def sG (K:PySem.W.Frag) (t:Adr):Sp:=λvs H Q _=>∃(a dx:Addr),vs=[.ref a]/\H a=some (.ins t.bx dx [])/\H dx=some (.own a)/\∀H' F,LvA K t H' a F []->Fr (λb=>b=a\/b=dx) F H H'->Q .non H'
def ub (K:PySem.W.Frag) (t:Adr):Sp:=λvs H Q _=>∃(a:Addr) (k:Int) (F:Addr->Prop) (ks:List Int),vs=[.ref a,.int k]/\LvA K t H a F ks/\∀H' F',LvA K t H' a F' ks->Fr F F' H H'->Q (.bl (decide (k∈ks))) H'
def uc (K:PySem.W.Frag) (t:Adr):Sp:=λvs H Q E=>∃(a:Addr) (k:Int) (F:Addr->Prop) (ks:List Int),vs=[.ref a,.int k]/\LvA K t H a F ks/\ks.length<4096/\
 (k∉ks->∀H' F' ks',LvA K t H' a F' ks'->(∀z,z∈ks'↔z=k\/z∈ks)->Fr F F' H H'->Q .non H')/\(k∈ks->False)
def oS (K:PySem.W.Frag) (t:Adr):Sp:=λvs H Q E=>∃(a:Addr) (k:Int) (F:Addr->Prop) (ks:List Int),vs=[.ref a,.int k]/\LvA K t H a F ks/\ks.length<4096/\
 (k∈ks->∀H' F' ks',LvA K t H' a F' ks'->(∀z,z∈ks'↔z≠k/\z∈ks)->Fr F F' H H'->Q .non H')/\(k∉ks->False)
theorem LvOk.short (o:LvOk ls):ls.length<=ls.flatten.length:=by
 have h:=o.ne;clear o
 induction ls with
 |nil=>exact Q4 _
 |cons x r ih=>
  have:=QZ.mpr (h x Q9);have:=ih λl hl=>h l (Qd _ hl);rw[Zc,Qa,Qp];lia
def oR (K:PySem.W.Frag) (t:Adr):Sp:=λvs H Q _=>∃(a:Addr) (k n:Int) (F:Addr->Prop) (ks:List Int),vs=[.ref a,.int k,.int n]/\LvA K t H a F ks/\ks.length<4096/\0<=n/\
 ∀(H':Hp) (l:Addr),Same H H'->H l=none->H' l=some (.lst (((ks.filter λz=>decide (k<=z)).take n.toNat).map V.int))->Q (.ref l) H'
theorem mK (h:0<=n):nP xs none (some n)=xs.take n.toNat:=by
 unfold nP HT.sIx;simp only[Z9,Nat.sub_zero];rw[if_neg (by lia)];rcases Nat.le_total n.toNat xs.length with c|c
 .rw[X0 c]
 .rw[XQ c,QF,Qt c]
theorem Dp (o:LvOk ls) (h:LeafOf ls k i0):∀z∈(ls.take i0).flatten,¬k<=z:=λz hz=>by
 have:=h.ahead z hz;lia
def dZ (k:Option Int) (z:Int):Bool:=match k with|none=>true|some k=>decide (z<=k)
def vDn:Option Int->V|none=> .non|some k=> .int k
def lH (K:PySem.W.Frag) (t:Adr):Sp:=λvs H Q _=>∃(a:Addr) (k:Option Int) (n:Int) (F:Addr->Prop) (ks:List Int),vs=[.ref a,vDn k,.int n]/\LvA K t H a F ks/\ks.length<4096/\0<=n/\
 ∀(H':Hp) (l:Addr),Same H H'->H l=none->H' l=some (.lst (((ks.reverse.filter (dZ k)).take n.toNat).map V.int))->Q (.ref l) H'
def SSt.low (s:SSt):Int:=match s.nxt with
 |none=>s.size
 |some m=>if m<s.size then m else s.size
theorem E5 {M:Int} (h:M∈st.rows) (l:∀x∈st.rows,M<=x):M=st.low:=by
 unfold SSt.rows at h l;unfold SSt.low;cases e:st.nxt with
 |none=>rw[e]at h;simpa using h
 |some m=>
  rw[e]at h l;have h:M=st.size\/M=m:=by simpa using h
  have l1:=l st.size (by simp);have l2:=l m (by simp);show M=if m<st.size then m else st.size
  split<;>lia
theorem jo (z:SzOk st):st.low∈([4,8,16,32,64,128,256]:List Int):=by
 unfold SSt.low;cases e:st.nxt with
 |none=>exact z.pw
 |some m=>
  show(if m<st.size then m else st.size)∈_;split
  .exact(z.nx m e).1
  .exact z.pw
theorem yg {x:Int} (h:x∈([4,8,16,32,64,128,256]:List Int)):∃a b,Row x a b:=by
 rcases lT h with h|h|h|h|h|h|h<;>subst h
 .exact⟨_,_,oY (k:=0) (by decide)⟩
 .exact⟨_,_,oY (k:=1) (by decide)⟩
 .exact⟨_,_,oY (k:=2) (by decide)⟩
 .exact⟨_,_,oY (k:=3) (by decide)⟩
 .exact⟨_,_,oY (k:=4) (by decide)⟩
 .exact⟨_,_,oY (k:=5) (by decide)⟩
 .exact⟨_,_,oY (k:=6) (by decide)⟩
theorem xU {S p:Int} {a b:Nat} (R:Row S a b) (h0:0<=p) (h1:p<65536):tz (tz p%S)+65536/S=(p/(65536/S)+1)*(65536/S):=by
 have hs:=R.st_has (m:=tz p) (qJ p);rw[BN h0 h1]at hs;have sl:=R.slot (s:=tz p%S) (R.mod0 _) (R.mod1 _);have w:=R.width;have wp:=R.wpos';rw[sl.1,<-w]at hs⊢;have:p/(65536/S)=rz a (tz p%S):=by
  have k0:=Qe p (QR wp);have k1:=Qb p wp;have k2:=Xl p (65536/S);exact R.between wp (x:=p/(65536/S)) (y:=rz a (tz p%S)) (p:=p) (by lia) (by lia) hs.1 hs.2
 rw[this,Int.add_mul,Int.one_mul,Xh]
def tW (K:PySem.W.Frag) (t:Adr):Sp:=λvs H Q _=>∃(a:Addr) (p:Int) (F:Addr->Prop) (st:SSt),vs=[.ref a,.int p]/\SlA K t H a F st/\0<=p/\p<65536/\
 ∀H' F',SlA K t H' a F' st->Fr F F' H H'->Q (.int ((p/(65536/st.low)+1)*(65536/st.low))) H'
structure wN (kd:Str) (fs:List (Str×V)) (a e:V):Prop where
 ki:fs.lookup ("kind":Str)=some (.str kd)
 at_:fs.lookup ("at":Str)=some a
 end_:fs.lookup ("end":Str)=some e
 wo:fs.lookup ("words":Str)=none
 ho:fs.lookup ("holds":Str)=none
def okS (a e:V):Prop:=∃i j,a= .int i/\e= .int j/\0<=i/\i<=j/\j<=65536
def okU (a e:V):Prop:=∃i,a= .int i/\0<=i/\(e= .non\/∃j,e= .int j/\i<=j)
def okD (a e:V):Prop:=∃j,e= .int j/\0<=j/\(a= .non\/∃i,a= .int i/\j<=i)
def Keep (p:Addr) (H H':Hp):Prop:=∀b o,H b=some o->b≠p->H' b=some o
def zh:Sp:=λvs H Q _=>∃x,vs=[x]/\Sc x/\Q (.bl (isW x)) H
def isF (lo:Int):V->Bool
 | .int i=>decide (lo<=i)|_=>false
def AQ:Sp:=λvs H Q _=>∃x lo,vs=[x,.int lo]/\Sc x/\Q (.bl (isF lo x)) H
def wr:V->Str
 | .int i=>toString i|_=>"-"
def AK:Sp:=λvs H Q _=>∃x,vs=[x]/\(x= .non\/∃i:Int,x= .int i/\i.natAbs.log2<1920)/\Q (.str (wr x)) H
def gU (K:PySem.W.Frag):Sp:=λvs H Q _=>∃(p C dx:Addr) (kd:Str) (a e:V),vs=[.ref p,.str kd,a,e]/\H p=some (.ins C dx [])/\Cls K C/\NoAttr K C "kind"/\NoAttr K C "at"/\NoAttr K C "end"/\∀H' fs,Keep p H H'->H' p=some (.ins C dx fs)->wN kd fs a e->Q .non H'
def BO (C N:Addr) (kd:Str) (ok:V->V->Prop):Sp:=λvs H Q E=>∃(p dx:Addr) (a e:V),vs=[.ref p,a,e]/\H p=some (.ins C dx [])/\Sc a/\Sc e/\
 (ok a e->∀H' fs,Keep p H H'->H' p=some (.ins C dx fs)->wN kd fs a e->Q .non H')/\(¬ok a e->False)
def qO (t:Adr):Sp:=BO t.aT t.nK "slots" okS
def zj (t:Adr):Sp:=BO t.c8 t.nK "up" okU
def vV (t:Adr):Sp:=BO t.bV t.nK "down" okD
def okN (kd:Int) (a e:V):Prop:=(kd=0/\okS a e)\/(kd=1/\okU a e)\/(kd=2/\okD a e)
def hS:V->V->Int->Bool
 | .int i,.int j,k=>decide (i<=tz (k%65536))&&decide (tz (k%65536)<j)
 |_,_,_=>false
def hU:V->V->Int->Bool
 | .int i,.int j,k=>decide (i<=k)&&decide (k<j)
 | .int i,.non,k=>decide (i<=k)
 |_,_,_=>false
def hD:V->V->Int->Bool
 | .int i,.int j,k=>decide (j<=k)&&decide (k<=i)
 | .non,.int j,k=>decide (j<=k)
 |_,_,_=>false
def hN (kd:Int):V->V->Int->Bool:=if kd=0 then hS else if kd=1 then hU else hD
def bdV:V->Prop
 | .int i=>i<10^80|_=>True
def xR (kd:Str) (a e:V):Str:=Txt.join (" ":Str) [kd,wr a,wr e]
def AR (C:Addr) (kd:Str) (ok:V->V->Prop) (h:V->V->Int->Bool):Sp:=λvs H Q _=>∃(p dx:Addr) (fs:List (Str×V)) (a e:V) (k:Int),vs=[.ref p,.int k]/\H p=some (.ins C dx fs)/\wN kd fs a e/\ok a e/\0<=k/\∀H',Same H H'->Q (.bl (h a e k)) H'
def d9 (t:Adr):Sp:=AR t.aT "slots" okS hS
def cY (t:Adr):Sp:=AR t.c8 "up" okU hU
def b7 (t:Adr):Sp:=AR t.bV "down" okD hD
def tkC (t:Adr) (kd:Int):Addr:=if kd=0 then t.aT else if kd=1 then t.c8 else t.bV
def kdS (kd:Int):Str:=if kd=0 then "slots" else if kd=1 then "up" else "down"
def cf (t:Adr):Sp:=λvs H Q _=>∃(p dx:Addr) (kd:Int) (fs:List (Str×V)) (a e:V),vs=[.ref p]/\H p=some (.ins (tkC t kd) dx fs)/\wN (kdS kd) fs a e/\okN kd a e/\bdV a/\bdV e/\∀H',Same H H'->Q (.str (xR (kdS kd) a e)) H'
theorem qS {x C:Addr} (h1:H x=none) (h2:H dx=none) (k:Keep x (upd (upd H dx (.own x)) x (.ins C dx [])) H'):Same H H':=λb o q=>by
 refine k b o ?_ (al q h1);rw[af (al q h1),af (al q h2)];exact q
def spHN (t:Adr) (kd:Int):Sp:=if kd=0 then d9 t else if kd=1 then cY t else b7 t
def TkAt (t:Adr) (H:Hp) (p:Addr) (kd:Int) (a e:V):Prop:=∃(dx:Addr) (fs:List (Str×V)),H p=some (.ins (tkC t kd) dx fs)/\wN (kdS kd) fs a e
theorem TkAt.same {kd:Int} {a e:V} (h:TkAt t H p kd a e) (s:Same H H'):TkAt t H' p kd a e:=by
 obtain⟨dx,fs,h1,h2⟩:=h;exact⟨dx,fs,s _ _ h1,h2⟩
theorem okN.sc {kd:Int} {a e:V} (h:okN kd a e):Sc a/\Sc e:=by
 rcases h with⟨_,i,j,rfl,rfl,_⟩|⟨_,i,rfl,_,rfl|⟨j,rfl,_⟩⟩|⟨_,j,rfl,_,rfl|⟨i,rfl,_⟩⟩<;>exact⟨True.intro,True.intro⟩
theorem okN.kd {kd:Int} {a e:V} (h:okN kd a e):kd=0\/kd=1\/kd=2:=by
 rcases h with⟨h,_⟩|⟨h,_⟩|⟨h,_⟩
 .exact .inl h
 .exact .inr (.inl h)
 .exact .inr (.inr h)
theorem okN.s {a e:V} (h:okN 0 a e):okS a e:=by
 rcases h with⟨_,h⟩|⟨h,_⟩|⟨h,_⟩
 .exact h
 .cases h
 .cases h
theorem okN.u {a e:V} (h:okN 1 a e):okU a e:=by
 rcases h with⟨h,_⟩|⟨_,h⟩|⟨h,_⟩
 .cases h
 .exact h
 .cases h
theorem okN.d {a e:V} (h:okN 2 a e):okD a e:=by
 rcases h with⟨h,_⟩|⟨h,_⟩|⟨_,h⟩
 .cases h
 .cases h
 .exact h
theorem dHN {kd:Int} (h:kd=0\/kd=1\/kd=2):DOr (D1 t.aT (d9 t)) (DOr (D1 t.c8 (cY t)) (D1 t.bV (b7 t))) (tkC t kd) (spHN t kd):=by
 rcases h with rfl|rfl|rfl
 .exact .inl ⟨rfl,rfl⟩
 .exact .inr (.inl ⟨rfl,rfl⟩)
 .exact .inr (.inr ⟨rfl,rfl⟩)
theorem dWN {kd:Int} (h:kd=0\/kd=1\/kd=2):DOr (D1 t.aT (cf t)) (DOr (D1 t.c8 (cf t)) (D1 t.bV (cf t))) (tkC t kd) (cf t):=by
 rcases h with rfl|rfl|rfl
 .exact .inl ⟨rfl,rfl⟩
 .exact .inr (.inl ⟨rfl,rfl⟩)
 .exact .inr (.inr ⟨rfl,rfl⟩)
theorem x5 {kd:Int} {a e:V} {E:XK} (ho:okN kd a e) (h:H p=some (.ins (tkC t kd) dx fs)) (f:wN (kdS kd) fs a e) (h0:0<=k)
  (q:∀H',Same H H'->Q (.bl (hN kd a e k)) H'):spHN t kd [.ref p,.int k] H Q E:=by
 rcases ho.kd with rfl|rfl|rfl
 .exact⟨p,dx,fs,a,e,k,rfl,h,f,ho.s,h0,q⟩
 .exact⟨p,dx,fs,a,e,k,rfl,h,f,ho.u,h0,q⟩
 .exact⟨p,dx,fs,a,e,k,rfl,h,f,ho.d,h0,q⟩
set_option exponentiation.threshold 2000 in
theorem KA {i:Int} (h0:0<=i) (h1:i<10^80):i.natAbs.log2<1920:=by
 rcases Zz i.natAbs with z|z
 .rw[z];decide
 .refine(Nat.log2_lt (XA z)).mpr ?_;have:i.natAbs<10^80:=by lia
  exact Nat.lt_trans this (Qx (show 10^80<2^300 by decide) (Nat.pow_le_pow_right (by decide) (by decide)))
def few (a:V):Prop:=(a= .non\/∃i:Int,a= .int i/\i.natAbs.log2<1920)/\(wr a).length<=81
theorem Cg:few .non:=⟨.inl rfl,by decide+kernel⟩
theorem iW {i:Int} (h0:0<=i) (h1:bdV (.int i)):few (.int i):=by
 have h1:i<10^80:=h1;refine⟨.inr ⟨i,rfl,KA h0 h1⟩,?_⟩;show(Str.ofString (toString i)).length<=81;have h:(toString i).length<=80+1:=PySem.int_text_length_le10 (by decide) (by lia);rw[Str.ofString_eq_toList];show((toString i).toList.map Char.toNat).toArray.size<=81;rw[Qf,Q0];exact h
theorem okN.few {kd:Int} {a e:V} (h:okN kd a e) (ba:bdV a) (be:bdV e):few a/\few e:=by
 rcases h with⟨_,i,j,rfl,rfl,h0,h1,_⟩|⟨_,i,rfl,h0,rfl|⟨j,rfl,h1⟩⟩|⟨_,j,rfl,h0,rfl|⟨i,rfl,h1⟩⟩
 .exact⟨iW h0 ba,iW (by lia) be⟩
 .exact⟨iW h0 ba,Cg⟩
 .exact⟨iW h0 ba,iW (by lia) be⟩
 .exact⟨Cg,iW h0 be⟩
 .exact⟨iW (by lia) ba,iW h0 be⟩
structure Tp where
 p:Addr
 k:Int
 v:V
def Tp.kv (e:Tp):Int×V:=(e.k,e.v)
structure PgA (H H':Hp) (F F':Addr->Prop) (r g:Addr) (v:V) (ts:List Tp):Prop where
 tu:H' r=some (.tup [.ref g,v])
 li:H' g=some (.lst (ts.map λe=>V.ref e.p))
 rw:∀e∈ts,H' e.p=some (.tup [.int e.k,e.v])/\¬F' e.p
 nr:(¬F r->H r=none)/\¬F' r
 ng:(¬F g->H g=none)/\¬F' g
section
variable {P:Program} {w:World} {mg:Str->Option Value} {base:Heap}
def CG:Sp:=λvs H Q _=>∃n:Int,vs=[.int n]/\0<=n/\Q (.int (tz n)) H
def AN:Sp:=λvs H Q _=>∃k:Int,vs=[.int k]/\Q (.int (k%65536)) H
def zg:Sp:=λvs H Q _=>∃k:Int,vs=[.int k]/\Q (.int (tz (k%65536))) H
def AL:Sp:=λvs H Q _=>∃k n:Int,vs=[.int k,.int n]/\0<n/\Q (.int (k%65536%n)) H
def AM:Sp:=λvs H Q _=>∃p n:Int,vs=[.int p,.int n]/\0<=p/\0<n/\Q (.int (tz p%n)) H
def vH:Sp:=λvs H Q _=>∃s n:Int,vs=[.int s,.int n]/\0<=s/\0<n/\n<1073741824/\∀p,H p=none->Q (.ref p) (upd H p (.tup [.int (tz s),.int (tz s+65536/n)]))
theorem rh (T:Txt K mg t):FnOk P w K mg base CX0 1 t.Ai t.vd ["number"] CG:=by
 obtain⟨tk_BITS,hBITS⟩:=T.g_BITS;refine T.vA.okl sc_turned λ_ _ _ s H vs Q E hr h=>?_;obtain⟨n,rfl,hn,k⟩:=h;refine⟨_,(ac (az (i:=1) sc_turned.nd rfl (Or.inl rfl) ag)
   (ac (az (i:=2) sc_turned.nd rfl (Or.inl rfl) (pv 0))
   (ac (hZ PassesOwn.never rfl (gP (by rfl) T.m6 (aa (cy (v:= .int 16) (by rfl) hBITS ⟨_,rfl⟩) ah)) (bF (i:=3) sc_turned.nd rfl (Or.inl rfl))
   (ac (az (i:=1) sc_turned.nd rfl (Or.inl rfl) (am bn (am dn (pv 1) ag) (am aP (pv 2) ag)))
   (ai (az (i:=2) sc_turned.nd rfl (Or.inl rfl) (am aS (pv 2) ag)))))
   (ai (aC (pv 1))))))
  ,?_⟩
 have en:((n.toNat/2^0:Nat):Int)=n:=by rw[Nat.pow_zero,Nat.div_one];lia
 refine⟨_,rfl,16,rfl,by decide,by decide,rH (n:=16) (λi σ H'=>∃v,H'=H/\σ=[some (.int n),some (.int ((rv i n.toNat:Nat):Int)),some (.int ((n.toNat/2^i:Nat):Int)),v]) ?_ ?_ ?_⟩
 .refine⟨none,rfl,?_⟩;rw[en];rfl
 .rintro i σ H' hi ⟨v,rfl,rfl⟩;refine⟨_,rfl,_,_,rfl,rfl,.inr ⟨by decide,by decide⟩,_,rfl,_,_,rfl,rfl,(by show(0:Int)<2;decide),_,_,rfl,rfl,_,rfl,_,_,rfl,rfl,⟨by decide,by decide⟩,?_⟩;refine⟨some (.int (0+(i:Int))),rfl,?_⟩;rw[<-wR i n.toNat,<-wS i n.toNat];rfl
 .rintro σ H' ⟨v,rfl,rfl⟩;unfold tz at k;exact⟨_,rfl,k⟩
theorem uG (T:Txt K mg t):FnOk P w K mg base CX0 1 t.xL t.rO ["key"] AN:=by
 obtain⟨tk_PLACES,hPLACES⟩:=T.g_PLACES;refine T.xQ.okl AW λ_ _ _ s H vs Q E hr h=>?_;obtain⟨n,rfl,k⟩:=h;refine⟨_,(ai (aC (am aP (pv 0) (cy (v:= .int 65536) (by rfl) hPLACES ⟨_,rfl⟩))))
  ,?_⟩
 exact⟨_,rfl,_,_,rfl,rfl,(by show(0:Int)<65536;decide),k⟩
theorem rW (T:Txt K mg t):FnOk P w K mg base CX0 2 t.vo t.pq ["key"] zg:=by
 refine T.vC.okl zm λ_ _ _ s H vs Q E hr h=>?_;obtain⟨n,rfl,k⟩:=h;refine⟨_,(ai (aC (aM (rh T) hr.mo (by rfl) T.zO T.vA.kp T.Ag .nil aA (aa (aM (uG T) hr.mo (by rfl) T.De T.xQ.kp T.DD .nil aA (aa (pv 0) ah)) ah))))
  ,?_⟩
 exact⟨_,rfl,_,rfl,_,rfl,Qe _ (by decide),k⟩
theorem uE (T:Txt K mg t):FnOk P w K mg base CX0 2 t.xJ t.rM ["key","size"] AL:=by
 refine T.rT.okl AU λ_ _ _ s H vs Q E hr h=>?_;obtain⟨n,m,rfl,hm,k⟩:=h;refine⟨_,(ai (aC (am aP (aM (uG T) hr.mo (by rfl) T.De T.xQ.kp T.DD .nil aA (aa (pv 0) ah)) (pv 1))))
  ,?_⟩
 exact⟨_,rfl,_,rfl,_,rfl,_,_,rfl,rfl,hm,k⟩
theorem uF (T:Txt K mg t):FnOk P w K mg base CX0 2 t.xK t.rN ["place","size"] AM:=by
 refine T.xP.okl AV λ_ _ _ s H vs Q E hr h=>?_;obtain⟨n,m,rfl,hn,h0,k⟩:=h;refine⟨_,(ai (aC (am aP (aM (rh T) hr.mo (by rfl) T.zO T.vA.kp T.Ag .nil aA (aa (pv 0) ah)) (pv 1))))
  ,?_⟩
 exact⟨_,rfl,_,rfl,hn,_,rfl,_,_,rfl,rfl,h0,k⟩
theorem wg (T:Txt K mg t):FnOk P w K mg base CX0 2 t.qo t.kB ["slot","size"] vH:=by
 obtain⟨tk_PLACES,hPLACES⟩:=T.g_PLACES;refine T.yV.okl sc_stretch_of λ_ _ _ s H vs Q E hr h=>?_;obtain⟨n,m,rfl,hn,h0,h1,k⟩:=h;refine⟨_,(ac (az (i:=2) sc_stretch_of.nd rfl (Or.inl rfl) (aM (rh T) hr.mo (by rfl) T.zO T.vA.kp T.Ag .nil aA (aa (pv 0) ah)))
   (ai (aC (bz (aa (pv 2) (aa (am bn (pv 2) (am aS (cy (v:= .int 65536) (by rfl) hPLACES ⟨_,rfl⟩) (pv 1))) ah))))))
  ,?_⟩
 exact⟨_,rfl,_,rfl,hn,_,rfl,_,rfl,_,rfl,_,_,rfl,rfl,⟨h0,h1⟩,_,_,rfl,rfl,(by show 2<=sizeLine;decide),λp hp=>k p hp⟩
theorem CI {n:Nat} (h:n<=4096):n<sizeLine:=X3 h (by decide)
def xW:Sp:=λvs H Q _=>∃n:Int,vs=[.int n]/\0<=n/\n<=1000/\∀H' r A,Same H H'->H r=none->(∀b∈A,H b=none)->RowOk H' r A (List.replicate n.toNat []) n->Q (.ref r) H'
theorem pY (T:Txt K mg t):FnOk P w K mg base CX0 1 t.sr t.mD ["size"] xW:=by
 refine T.m4.okl yb λ_ _ _ s H vs Q E hr h=>?_;obtain⟨n,rfl,n0,n1,q⟩:=h;refine⟨_,(ai (aC (iT rfl (CScope.of (M:=["slot"]) (N:=["size"]) (N':=["size"]) (dsc:=ak iP) rfl rfl (by decide+kernel)) (gP (by rfl) T.m6 (aa (pv 0) ah)) (λ_ _ _ _ _=>eJ))))
  ,?_⟩
 refine⟨_,rfl,n,rfl,by lia,by lia,λD hD=>?_⟩;refine pB (n:=n.toNat) (lo:=0) (λi ys H3=>Same H H3/\∃as:List Addr,ys=as.map V.ref/\as.length=i/\(∀b∈as,H b=none/\b≠D/\H3 b=some (.dK []))/\∀(x y:Nat) (b:Addr),as[x]?=some b->as[y]?=some b->x=y)
  ⟨aj hD,[],rfl,rfl,(λb hb=>by cases hb),λx y b e=>by simp at e⟩ (λi ys H3 hi ⟨s3,as,ey,el,hb,inj⟩ hDD=>?_) (λys H3 ⟨s3,as,ey,el,hb,inj⟩ hDD=>?_)
 .intro c nc;have cD:c≠D:=(al hDD nc).symm;have nca:c∉as:=λz=>by
   have:=(hb c z).2.2;rw[nc]at this;cases this
  have nH:H c=none:=by
   cases e:H c with
   |none=>rfl
   |some o=>rw[s3 c o e]at nc;cases nc
  refine CNext.mk hi (by rw[af cD.symm];exact hDD) (by rw[ey,Q0];exact cp (by lia)) ⟨bN (s3.trans (aj nc)) hD,as++ [c],by rw[ey,Qc];rfl,by rw[Qa,el];rfl,λb hb'=>?_,λx y b e1 e2=>?_⟩
  .rcases Q5.mp hb' with z|z
   .obtain⟨h1,h2,h3⟩:=hb b z;exact⟨h1,h2,by rw[af h2,af (λw=>nca (by rw[<-w];exact z))];exact h3⟩
   .rw[Q7.mp z];exact⟨nH,cD,by rw[af cD,ae]⟩
  .have lem:∀x:Nat,(as++ [c])[x]?=some b->as[x]?=some b\/(x=as.length/\b=c):=λx e=>by
    rw[Xp]at e;split at e
    .exact .inl e
    .rename_i w
     have:x-as.length=0:=by
      rcases Zz (x-as.length)with z|z
      .exact z
      .rw[List.getElem?_eq_none (by simp;lia)]at e;cases e
     rw[this]at e;cases e;exact .inr ⟨by lia,rfl⟩
   rcases lem x e1 with f1|⟨f1,g1⟩<;>rcases lem y e2 with f2|⟨f2,g2⟩
   .exact inj x y b f1 f2
   .subst g2;exact absurd (Q1 f1) nca
   .subst g1;exact absurd (Q1 f2) nca
   .lia
 .refine q H3 D as s3 hD (λb z=>(hb b z).1) ⟨by rw[hDD,ey],by rw[el];lia,by rw[Zm];lia,λj b kv e1 e2=>?_,λj kv e=>?_,inj,λj kv e p hp=>?_⟩
  .rw[Zw (Q1 e2)];exact(hb b (Q1 e1)).2.2
  .rw[Zw (Q1 e)];exact Zj
  .rw[Zw (Q1 e)]at hp;cases hp
def pI (t:Adr):Sp:=λvs H Q _=>∃(a:Addr) (k:Int) (st:SSt) (d:SlD),vs=[.ref a,.int k]/\SlB t H a st d/\SzOk st/\∀c kv,IsCell d st k c kv->Q (.ref c) H
def nM (t:Adr):Sp:=λvs H Q _=>∃(a:Addr) (st:SSt) (d:SlD),vs=[.ref a]/\SlB t H a st d/\SzOk st/\st.kv.length<4096/\∀H' d',SlB t H' a st.one d'->d'.n=d.n->Fr (SlF a st d) (SlF a st.one d') H H'->Q .non H'
def nN (t:Adr):Sp:=λvs H Q _=>∃(a:Addr) (st:SSt) (d:SlD),vs=[.ref a]/\SlB t H a st d/\SzOk st/\d.n=(st.kv.length:Int)/\∀H' d',SlB t H' a st.three d'->d'.n=d.n->Fr (SlF a st d) (SlF a st.three d') H H'->Q .non H'
theorem uU {z:Int} (h0:0<=z) (e:A[z.toNat]?=some c):atI (A.map V.ref) z=some (.ref c):=by
 obtain⟨j,rfl⟩:=Za h0;refine tO ?_;rw[Qn];have e:A[j]?=some c:=e;rw[e];rfl
theorem cC (T:Txt K mg t):FnOk P w K mg base CX0 3 t.jS t.fE ["self","key"] (pI t):=by
 refine T.DJ.okl sc_Slots__cell_of λ_ _ _ s H vs Q E hr h=>?_;obtain⟨a,k,st,d,rfl,hb,z,q⟩:=h;refine⟨_,(ac (az (i:=2) sc_Slots__cell_of.nd rfl (Or.inl rfl) (aW aV (au (pv 0) rfl) ag (λ_ _=>rfl)))
   (ac (az (i:=3) sc_Slots__cell_of.nd rfl (Or.inl rfl) (aM (uE T) hr.mo (by rfl) T.xk T.rT.kp T.xH .nil aA (aa (pv 1) (aa (aE aD (by rfl) T.bM bg (aa (pv 2) ah)) ah))))
   (ac (aU (aq xf (pv 3) (au (pv 0) rfl) (ar _))
   (ai (aC (aW aV (pv 2) (pv 3) (λ_ _=>rfl))))
   aH)
   (ac (az (i:=4) sc_Slots__cell_of.nd rfl (Or.inl rfl) (aW aV (au (pv 0) rfl) ag (λ_ _=>rfl)))
   (ai (aC (aW aV (pv 4) (aM (uE T) hr.mo (by rfl) T.xk T.rT.kp T.xH .nil aA (aa (pv 1) (aa (aE aD (by rfl) T.bM bg (aa (pv 4) ah)) ah))) (λ_ _=>rfl))))))))
  ,?_⟩
 obtain⟨dx,ho⟩:=hb.obj;obtain⟨s4,s5⟩:=bQ z.pw;obtain⟨m0,m1,m2⟩:=rC (k:=k) s4;have t0:∃xs,H d.tb=some (.lst xs)/\atI xs 0=some (.ref d.r0):=by
  refine⟨_,hb.tbl,?_⟩;cases st.nxt<;>rfl
 obtain⟨xs,hx,x0⟩:=t0;have fld:∀{Q':VK},Q' (.ref d.tb) H->tFld K (IP 0) "table" [some (.ref a),some (.int k),none,none,none] H Q':=λ{Q'} q=>⟨_,rfl,a,_,dx,_,_,rfl,ho,T.aG,T.aX,iO,q⟩;have la:((d.A0.map V.ref).length:Int)=st.size:=by rw[Q0];exact hb.row0.la
 refine⟨_,rfl,a,_,dx,_,_,rfl,ho,T.aG,T.aX,iO,d.tb,_,_,_,rfl,rfl,SqL.of hx,x0,?_⟩;refine⟨_,rfl,_,rfl,d.r0,_,rfl,.inl (SqL.of hb.row0.lst),k,_,rfl,by rw[la];lia,?_⟩;dsimp only;rw[la];refine⟨_,rfl,_,rfl,a,_,dx,_,_,rfl,ho,T.aG,T.bP,zl,_,_,rfl,rfl,_,rfl,bJ (λc=>?_) (λc=>?_)⟩
 .have c:=of_decide_eq_true c;obtain⟨x,e1⟩:=du (l:=d.A0) m0 (by rw[hb.row0.la];exact m1);obtain⟨y,e2⟩:=du (l:=d.C0) m0 (by rw[hb.row0.lc];exact m1);exact⟨_,rfl,_,rfl,d.r0,_,_,_,rfl,rfl,SqL.of hb.row0.lst,uU m0 e1,q x y (.inl ⟨c,e1,e2⟩)⟩
 .have c:¬st.moved<=k%65536%st.size:=λz=>c (decide_eq_true z);cases e:st.nxt with
  |none=>rw[SSt.moved_none e]at c;exact absurd m0 c
  |some m=>
   have hm:=SSt.moved_some e;obtain⟨pm,_⟩:=z.nx m e;obtain⟨s6,_⟩:=bQ pm;obtain⟨n0,n1,n2⟩:=rC (k:=k) s6;have r1:=hb.row1;rw[e]at r1;have ht:=hb.tbl;rw[e]at ht;have lb:((d.A1.map V.ref).length:Int)=m:=by rw[Q0];exact r1.la
   obtain⟨x,e1⟩:=du (l:=d.A1) n0 (by rw[r1.la];exact n1);obtain⟨y,e2⟩:=du (l:=d.C1) n0 (by rw[r1.lc];exact n1);refine⟨_,rfl,a,_,dx,_,_,rfl,ho,T.aG,T.aX,iO,d.tb,_,_,_,rfl,rfl,SqL.of ht,rfl,?_⟩;refine⟨_,rfl,_,rfl,_,rfl,d.r1,_,rfl,.inl (SqL.of r1.lst),k,_,rfl,by rw[lb];lia,?_⟩;dsimp only;rw[lb];exact⟨d.r1,_,_,_,rfl,rfl,SqL.of r1.lst,uU n0 e1,q x y (.inr ⟨m,e,by lia,e1,e2⟩)⟩
theorem bq {n:Nat} (h:n<=100000):n<sizeLine:=X3 h (by decide)
theorem Jw {n:Nat} {z:Int} (h0:0<=z) (h1:z<n):ixN n z=some z.toNat:=by unfold ixN;rw[if_pos h0,if_pos h1]
theorem xl {kv:List (Int×V)} {k:Key} (e:(aJ kv)[i]?=some (k,v)):∃n:Int,k=Sum.inl n/\kv[i]?=some (n,v):=by
 unfold aJ at e;rw[Qn]at e;cases q:kv[i]? with
 |none=>rw[q]at e;cases e
 |some p=>rw[q]at e;cases e;exact⟨p.1,rfl,rfl⟩
theorem Eg {kv:List (Int×V)} {C:List (List (Int×V))} {p:Int×V} (e:kv[i]?=some p):(kv.take (i+1)).foldl (gi m) C=gi m ((kv.take i).foldl (gi m) C) p:=by
 rw[Qr,e,List.foldl_append];rfl
theorem gu (T:Txt K mg t):FnOk P w K mg base CX0 3 t.iJ t.dR ["self"] (nM t):=by
 refine T.BI.okl sc_Slots__move_slot λ_ _ _ s H vs Q E hr h=>?_;obtain⟨a,st,d,rfl,hb,z,hl,q⟩:=h;refine⟨_,(ac (aU (aq bL (aE aD (by rfl) T.bM bg (aa (au (pv 0) rfl) ah)) ag (ar _))
   (ai m8)
   aH)
   (ac (az (i:=1) sc_Slots__move_slot.nd rfl (Or.inl rfl) (aW aV (au (pv 0) rfl) ag (λ_ _=>rfl)))
   (ac (az (i:=2) sc_Slots__move_slot.nd rfl (Or.inl rfl) (aW aV (au (pv 0) rfl) ag (λ_ _=>rfl)))
   (ac (yh (hZ PassesOwn.never rfl (zw (uC QQ Xc PySem.F.type_dict_items zG (aW aV (pv 1) (au (pv 0) rfl) (λ_ _=>rfl)))) (uB rfl (cO (bF (i:=3) sc_Slots__move_slot.nd rfl (Or.inl rfl)) (cO (bF (i:=4) sc_Slots__move_slot.nd rfl (Or.inl rfl)) pT)))
   (ai (yi (sf hr) (aW aV (pv 2) (aM (uE T) hr.mo (by rfl) T.xk T.rT.kp T.xH .nil aA (aa (pv 3) (aa (aE aD (by rfl) T.bM bg (aa (pv 2) ah)) ah))) (λ_ _=>rfl)) (pv 3) (pv 4) rfl))))
   (ac (re eJ (Bb (pv 1) (au (pv 0) rfl) uj))
   (ac (gO (pv 0) ag u7)
   (ai (aU (aq bL (au (pv 0) rfl) (aE aD (by rfl) T.bM bg (aa (pv 1) ah)) (ar _))
   (ac (a9 (pv 0) (bR (aa (pv 2) ah)) rfl)
   (ai (a9 (pv 0) ag rfl)))
   aH))))))))
  ,?_⟩
 obtain⟨dx,ho⟩:=hb.obj;have ht:=hb.tbl;cases e:st.nxt with
 |none=>
  rw[e]at ht;refine⟨_,rfl,a,_,dx,_,_,rfl,ho,T.aG,T.aX,iO,d.tb,_,rfl,.inl (SqL.of ht),rfl,_,rfl,fS rfl ?_⟩;have e1:st.one=st:=by unfold SSt.one;rw[e]
  rw[e1]at q;exact q H d hb rfl Fr.refl
 |some m=>
  rw[e]at ht;refine⟨_,rfl,a,_,dx,_,_,rfl,ho,T.aG,T.aX,iO,d.tb,_,rfl,.inl (SqL.of ht),rfl,_,rfl,bc (λz=>by cases z) ?_⟩;refine⟨_,rfl,a,_,dx,_,_,rfl,ho,T.aG,T.aX,iO,d.tb,_,_,_,rfl,rfl,SqL.of ht,rfl,?_⟩;refine⟨_,rfl,a,_,dx,_,_,rfl,ho,T.aG,T.aX,iO,d.tb,_,_,_,rfl,rfl,SqL.of ht,rfl,?_⟩;obtain⟨pm,v0,v1,_⟩:=z.nx m e;obtain⟨s4,s5⟩:=bQ z.pw;obtain⟨s6,s7⟩:=bQ pm;have hm:=SSt.moved_some e;rw[hm]at ho;have r1:=hb.row1;rw[e]at r1;obtain⟨c0,ec⟩:=du (l:=d.A0) v0 (by rw[hb.row0.la];exact v1);obtain⟨kv,ek⟩:=du (l:=d.C0) v0 (by rw[hb.row0.lc];exact v1);have hc0:=hb.row0.cell _ _ _ ec ek;have lb:((d.A1.map V.ref).length:Int)=m:=by rw[Q0];exact r1.la
  have c0A:c0∉d.A1:=hb.dis c0 (Q1 ec);have r1c:d.r1≠c0:=cm r1.lst hc0 (by intro z;cases z);have kvl:=hb.short0 z ek;have keepA:∀b,b=d.r1\/b∈d.A1->∃o,H b=some o:=λb hb1=>by
   rcases hb1 with rfl|hb1
   .exact⟨_,r1.lst⟩
   .obtain⟨_,_,_,_,w⟩:=r1.has hb1;exact⟨_,w⟩
  refine⟨c0,aJ kv,hc0,_,rfl,_,rfl,a,_,dx,_,_,rfl,ho,T.aG,T.bP,zl,d.r0,_,_,_,rfl,rfl,SqL.of hb.row0.lst,uU v0 ec,.inr (.inr (.inl ⟨rfl,.inl ⟨_,hc0⟩⟩)),c0,aJ kv,rfl,rfl,hc0,λvw nv=>?_⟩;have hc1:upd H vw (vwO vw c0) c0=some (.dK (aJ kv)):=by rw[af (al hc0 nv)];exact hc0
  refine⟨vw,c0,aJ kv,rfl,ae,hc1,λob=>?_⟩;refine va (λi σ H'=>∃v3 v4,σ=[some (.ref a),some (.ref d.r0),some (.ref d.r1),v3,v4]/\RowOk H' d.r1 d.A1 ((kv.take i).foldl (gi m) d.C1) m/\H' c0=some (.frz ob (.dK (aJ kv)))/\∀b o,b∉d.A1->b≠c0->H b=some o->H' b=some o)
   ⟨_,_,rfl,?_,ae,λb o _ n2 e=>?_⟩ (λi σ H' _ ⟨_,_,_,_,hf,_⟩=>hf) (λi k v p σ H' ei ⟨v3,v4,eσ,hr,hf,hk⟩ np=>?_) (λσ H' ⟨v3,v4,eσ,hr,hf,hk⟩=>?_)
  .refine RowOk.frame (H:=H) r1 λb hb1=>?_;obtain⟨o,w⟩:=keepA b hb1;have n2:b≠c0:=by
    rcases hb1 with rfl|hb1
    .exact r1c
    .exact λz=>c0A (z▸hb1)
   rw[af n2,af (al w nv)]
  .rw[af n2,af (al e nv)];exact e
  .subst eσ;obtain⟨n,rfl,en⟩:=xl ei;have hr2:RowOk (upd H' p (.tup [kV (Sum.inl n),v])) d.r1 d.A1 ((kv.take i).foldl (gi m) d.C1) m:=hr.frame λb hb1=>af λw=>by
    have:∃o,H' b=some o:=by
     rcases hb1 with rfl|hb1
     .exact⟨_,hr.lst⟩
     .obtain⟨_,_,_,_,w⟩:=hr.has hb1;exact⟨_,w⟩
    obtain⟨o,q⟩:=this;rw[w,np]at q;cases q
   obtain⟨n0,n1,n2⟩:=rC (k:=n) s6;obtain⟨c,e1⟩:=du (l:=d.A1) n0 (by rw[hr2.la];exact n1);obtain⟨y,e2⟩:=du (l:=(kv.take i).foldl (gi m) d.C1) n0 (by rw[hr2.lc];exact n1);obtain⟨y0,e3⟩:=du (l:=d.C1) n0 (by rw[r1.lc];exact n1);have yl:=zH e3 e2;have y0l:=hb.short1 z e e3;have tl:(kv.take i).length<=kv.length:=by rw[Q8];lia
   have hc:=hr2.cell _ _ _ e1 e2;have cA:c∈d.A1:=Q1 e1;refine⟨p,_,rfl,SqT.of ae,rfl,_,_,rfl,_,_,rfl,rfl,?_⟩;refine⟨_,rfl,_,rfl,_,rfl,_,rfl,d.r1,_,rfl,.inl (SqL.of hr2.lst),n,_,rfl,by rw[lb];lia,?_⟩;dsimp only;rw[lb];refine⟨d.r1,_,_,_,rfl,rfl,SqL.of hr2.lst,uU n0 e1,_,rfl,c,_,rfl,DPut.k (k:=Sum.inl n) hc (by rw[cq];exact bq (by lia)),?_⟩;rw[gQ];have pn:∀b o,H' b=some o->b≠p:=λb o q=>al q np;refine⟨_,_,rfl,?_,?_,λb o nA nc q=>?_⟩
   .rw[Eg en];exact hr2.mov s6 e1 e2
   .rw[af (λw=>c0A (by rw[w];exact cA)),af (pn _ _ hf)];exact hf
   .have q:=hk b o nA nc q;rw[af (λw=>nA (by rw[w];exact cA)),af (pn _ _ q)];exact q
  .subst eσ;rw[cq,QF]at hr;refine⟨ob,hf,λb' nb=>?_⟩;have hF:∀b,¬SlF a st d b->b∉d.A1/\b≠c0/\b≠a/\b≠d.r0/\b≠d.tb/\b≠d.r1:=λb n=>
    ⟨λq=>n (.inr (.inr (.inr (.inr (.inr q))))),λq=>n (.inr (.inr (.inr (.inl (q▸Q1 ec))))),λq=>n (.inl q),λq=>n (.inr (.inr (.inl q))),λq=>n (.inr (.inl q)),λq=>n (.inr (.inr (.inr (.inr (.inl ⟨by rw[e];rfl,q⟩)))))⟩
   have inA1:∀b o,H b=some o->(∀kvs,o≠ .dK kvs)->b∉d.A1:=λb o q ne w=>(r1.notr w q ne) rfl;have K1:∀b o,b∉d.A1->b≠c0->H b=some o->upd H' c0 (.dK (aJ kv)) b=some o:=λb o n1 n2 q=>by rw[af n2];exact hk b o n1 n2 q
   have hr3:RowOk (upd H' c0 (.dK (aJ kv))) d.r1 d.A1 (kv.foldl (gi m) d.C1) m:=hr.frame λb hb1=>af (by
    rcases hb1 with rfl|hb1
    .exact r1c
    .exact λw=>c0A (w▸hb1))
   have hc3:upd H' c0 (.dK (aJ kv)) c0=some (.dK (aJ kv)):=ae;generalize upd H' c0 (.dK (aJ kv))=H3 at nb K1 hr3 hc3⊢;have ho3:=K1 a _ (inA1 _ _ ho (λ_ w=>by cases w)) (cm ho hc0 (by intro w;cases w)) ho;have hr0:=hb.row0.lst;have hr03:=K1 d.r0 _ (inA1 _ _ hr0 (λ_ w=>by cases w)) (cm hr0 hc0 (by intro w;cases w)) hr0;have ht3:=K1 d.tb _ (inA1 _ _ ht (λ_ w=>by cases w)) (cm ht hc0 (by intro w;cases w)) ht;have nbF:¬SlF a st d b':=λw=>by
    rcases w with w|w|w|w|⟨_,w⟩|w
    .rw[w,ho3]at nb;cases nb
    .rw[w,ht3]at nb;cases nb
    .rw[w,hr03]at nb;cases nb
    .obtain⟨j,kv1,f1,f2,f3⟩:=hb.row0.has w;by_cases y:b'=c0
     .rw[y,hc3]at nb;cases nb
     .rw[K1 b' _ (hb.dis b' w) y f3]at nb;cases nb
    .rw[w,hr3.lst]at nb;cases nb
    .obtain⟨_,_,_,_,w'⟩:=hr3.has w;rw[w']at nb;cases nb
   have lA:((d.A0.map V.ref).length:Int)=st.size:=by rw[Q0];exact hb.row0.la
   have bo:∀{x:Addr} {o:HO},H3 x=some o->x≠b':=λq=>al q nb;refine⟨_,rfl,_,rfl,a,_,dx,_,_,rfl,(by rw[af (bo ho3)];exact ho3),T.aG,T.bP,zl,d.r0,_,_,_,rfl,rfl,(by rw[af (bo hr03)];exact hr03),Jw v0 (by rw[lA];exact v1),?_⟩;have g0:H3 d.r1=some (.lst (d.A1.map V.ref)):=hr3.lst;have ra:d.r0≠a:=cm hr0 ho (by intro w;cases w);have r01:d.r0≠d.r1:=(hb.tr1 (by rw[e];rfl)).2;have t1:d.tb≠d.r1:=(hb.tr1 (by rw[e];rfl)).1;have ta:d.tb≠a:=cm ht ho (by intro w;cases w);have r1a:d.r1≠a:=cm r1.lst ho (by intro w;cases w);have cellsA:∀b∈d.A1,b≠b'/\b≠d.r0/\b≠a:=λb w=>by
    obtain⟨_,_,_,_,f⟩:=hr3.has w;exact⟨bo f,cm f hr03 (by intro w;cases w),cm f ho3 (by intro w;cases w)⟩
   have es:(d.A0.map V.ref).set st.mv.toNat (V.ref b')=(d.A0.set st.mv.toNat b').map V.ref:=by rw[List.map_set]
   rw[es];have ho5:upd (upd H3 b' (.dK [])) d.r0 (.lst ((d.A0.set st.mv.toNat b').map V.ref)) a=some (.ins t.aY dx (slF d.tb st.mv d.n)):=by rw[af ra.symm,af (bo ho3)];exact ho3
   refine⟨_,rfl,a,_,dx,_,_,rfl,ho5,T.aG,T.bP,zl,_,_,rfl,rfl,dx,_,ho5,pL,?_⟩;rw[Ii];have H6r0:∀{o:HO},upd (upd (upd H3 b' (.dK [])) d.r0 (.lst ((d.A0.set st.mv.toNat b').map V.ref))) a o d.r0=some (.lst ((d.A0.set st.mv.toNat b').map V.ref)):=by
    intro o;rw[af ra,ae]
   have lS:(((d.A0.set st.mv.toNat b').map V.ref).length:Int)=st.size:=by rw[Q0,QI];exact hb.row0.la
   refine⟨_,rfl,a,_,dx,_,_,rfl,ae,T.aG,T.bP,zl,_,rfl,d.r0,_,rfl,.inl (SqL.of H6r0),rfl,_,rfl,?_⟩;rw[lS];have row6:∀{o:HO},RowOk (upd (upd (upd H3 b' (.dK [])) d.r0 (.lst ((d.A0.set st.mv.toNat b').map V.ref))) a o) d.r1 d.A1 (kv.foldl (gi m) d.C1) m:=λ{o}=>hr3.frame λb hb1=>by
    have:b≠b'/\b≠d.r0/\b≠a:=by
     rcases hb1 with rfl|hb1
     .exact⟨bo g0,r01.symm,r1a⟩
     .exact cellsA b hb1
    rw[af this.2.2,af this.2.1,af this.1]
   have K6:∀{o':HO} (b:Addr) (o:HO),¬SlF a st d b->H b=some o->upd (upd (upd H3 b' (.dK [])) d.r0 (.lst ((d.A0.set st.mv.toNat b').map V.ref))) a o' b=some o:=λ{o'} b o n q=>by
    obtain⟨f1,f2,f3,f4,_⟩:=hF b n;have q3:=K1 b o f1 f2 q;rw[af f3,af f4,af (bo q3)];exact q3
   refine bJ (λc=>?_) (λc=>?_)
   .have c:st.mv+1=st.size:=V.int.inj (of_decide_eq_true c);refine⟨_,rfl,(by show 1<=sizeLine;decide),λtb' nt=>⟨_,rfl,a,_,dx,_,rfl,(by rw[af (al ae nt)];exact ae),T.aG,T.aX,pL,?_⟩⟩;rw[Ks];refine⟨_,rfl,a,_,dx,_,rfl,ae,T.aG,T.bP,pL,?_⟩;rw[Ii,bE];have nta:tb'≠a:=(al ae nt).symm;have nt1:tb'≠d.r1:=(al (row6 (o:= .ins t.aY dx (slF d.tb (st.mv+1) d.n))).lst nt).symm;refine q _ _ (hb.last z e ek (tb':=tb') (dx:=dx) c ae (by rw[af nta];exact ae) nt1 ?_) rfl (λb o n w=>?_)
    .refine(row6 (o:= .ins t.aY dx (slF d.tb (st.mv+1) d.n))).frame λb hb1=>?_;have:b≠a:=by
      rcases hb1 with rfl|hb1
      .exact r1a
      .exact(cellsA b hb1).2.2
     rw[af this,af (λw=>?_)];obtain⟨o,f⟩:∃o,upd (upd (upd H3 b' (.dK [])) d.r0 (.lst ((d.A0.set st.mv.toNat b').map V.ref))) a (.ins t.aY dx (slF d.tb (st.mv+1) d.n)) b=some o:=by
      rcases hb1 with rfl|hb1
      .exact⟨_,row6.lst⟩
      .obtain⟨_,_,_,_,f⟩:=row6.has hb1;exact⟨_,f⟩
     rw[w,nt]at f;cases f
    .obtain⟨f1,f2,f3,f4,f5,f6⟩:=hF b n;have k6:=K6 (o':= .ins t.aY dx (slF d.tb (st.mv+1) d.n)) b o n w;have bt:b≠tb':=al k6 nt;refine⟨by rw[af f3,af bt];exact k6,λy=>?_⟩;rcases y with y|y|y|y|⟨_,y⟩|y
     .exact f3 y
     .exact bt y
     .exact f6 y
     .exact f1 y
     .exact f6 y
     .cases y
   .have c:st.mv+1≠st.size:=λw=>c (decide_eq_true (by rw[w]));refine q _ _ (hb.one z e ek (b':=b') (dx:=dx) c ae (by rw[af ta,af hb.tr,af (bo ht3),ht3,hb.tbl,e]) H6r0 ?_ nbF (λj b f1 f2=>?_) row6) rfl (λb o n w=>⟨K6 b o n w,λy=>?_⟩)
    .have n1:b'≠a:=(bo ho3).symm;have n2:b'≠d.r0:=(bo hr03).symm;rw[af n1,af n2];exact ae
    .have bA:=Q1 f1;obtain⟨_,kv1,_,_,f⟩:=hb.row0.has bA;have nc:b≠c0:=λw=>f2 (hb.row0.inj j _ c0 (w▸f1) ec);have f3:=K1 b _ (hb.dis b bA) nc f;rw[af (cm f3 ho3 (by intro w;cases w)),af (cm f3 hr03 (by intro w;cases w)),af (bo f3),f3,f]
    .obtain⟨f1,f2,f3,f4,f5,f6⟩:=hF b n;rcases y with y|y|y|y|⟨_,y⟩|y
     .exact f3 y
     .exact f5 y
     .exact f4 y
     .obtain⟨j,hj,ej⟩:=Qz (show b∈d.A0.set st.mv.toNat b' from y);rcases dJ (Q2.mpr ⟨hj,ej⟩)with⟨_,g⟩|⟨_,g⟩
      .have:=K1 b o f1 f2 w;rw[g,nb]at this;cases this
      .exact n (.inr (.inr (.inr (.inl (Q1 g)))))
     .exact f6 y
     .exact f1 y
theorem gv (T:Txt K mg t):FnOk P w K mg base CX0 2 t.iK t.dS ["self"] (nN t):=by
 obtain⟨tk_GREATEST_SIZE,hGREATEST_SIZE⟩:=T.g_GREATEST_SIZE;obtain⟨tk_LEAST_SIZE,hLEAST_SIZE⟩:=T.g_LEAST_SIZE;refine T.BJ.okl sc_Slots__begin_row λ_ _ _ s H vs Q E hr h=>?_;obtain⟨a,st,d,rfl,hb,z,hn,q⟩:=h;refine⟨_,(ac (aU (aq bL (aE aD (by rfl) T.bM bg (aa (au (pv 0) rfl) ah)) ag (ar _))
   (ai m8)
   aH)
   (ac (az (i:=1) sc_Slots__begin_row.nd rfl (Or.inl rfl) (aE aD (by rfl) T.bM bg (aa (aW aV (au (pv 0) rfl) ag (λ_ _=>rfl)) ah)))
   (ai (aU (PW.pt (fw (aq zA (au (pv 0) rfl) (pv 1) (ar _)) (dL (aq dW (pv 1) (cy (v:= .int 256) (by rfl) hGREATEST_SIZE ⟨_,rfl⟩) (ar _)))))
   (ai (aR (dG Qq QV QW dX (au (pv 0) rfl) (aa (aM (pY T) hr.mo (by rfl) T.rZ T.m4.kp T.sj .nil aA (aa (am dn (pv 1) ag) ah)) ah))))
   (ai (aU (PW.pt (fw (aq dW (am dn ag (au (pv 0) rfl)) (pv 1) (ar _)) (dL (aq zA (pv 1) (cy (v:= .int 4) (by rfl) hLEAST_SIZE ⟨_,rfl⟩) (ar _)))))
   (ai (aR (dG Qq QV QW dX (au (pv 0) rfl) (aa (aM (pY T) hr.mo (by rfl) T.rZ T.m4.kp T.sj .nil aA (aa (am aS (pv 1) ag) ah)) ah))))
   aH))))))
  ,?_⟩
 obtain⟨dx,ho⟩:=hb.obj;have ht:=hb.tbl;cases e:st.nxt with
 |some m=>
  rw[e]at ht;refine⟨_,rfl,a,_,dx,_,_,rfl,ho,T.aG,T.aX,iO,d.tb,_,rfl,.inl (SqL.of ht),rfl,_,rfl,fS rfl ?_⟩;have e1:st.three=st:=by unfold SSt.three;rw[e]
  rw[e1]at q;exact q H d hb rfl Fr.refl
 |none=>
  rw[e]at ht;refine⟨_,rfl,a,_,dx,_,_,rfl,ho,T.aG,T.aX,iO,d.tb,_,rfl,.inl (SqL.of ht),rfl,_,rfl,bc (λz=>by cases z) ?_⟩;have la:((d.A0.map V.ref).length:Int)=st.size:=by rw[Q0];exact hb.row0.la
  obtain⟨pw4,pw5⟩:=bQ z.pw;refine⟨_,rfl,a,_,dx,_,_,rfl,ho,T.aG,T.aX,iO,d.tb,_,_,_,rfl,rfl,SqL.of ht,rfl,d.r0,_,rfl,.inl (SqL.of hb.row0.lst),?_⟩;dsimp only;rw[la];have fin:∀{m:Int} {H':Hp} {r:Addr} {A:List Addr},st.three={st with nxt:=some m,mv:=0}->Same H H'->H r=none->(∀b∈A,H b=none)->RowOk H' r A (List.replicate m.toNat []) m->H' d.tb=some (.lst [.ref d.r0])/\Q .non (upd H' d.tb (.lst ([.ref d.r0]++ [.ref r]))):=λ{m H' r A} e3 s nr nA hr=>by
   have ht':=s _ _ ht;have notF:∀b,SlF a st d b->∃o,H b=some o:=λb w=>hb.dom w;have nrF:¬SlF a st d r:=λw=>by obtain⟨o,q⟩:=notF r w;rw[nr]at q;cases q
   have nAF:∀b∈A,¬SlF a st d b:=λb hA w=>by obtain⟨o,q⟩:=notF b w;rw[nA b hA]at q;cases q
   refine⟨ht',?_⟩;have sb:=hb.begin (H':=upd H' d.tb (.lst [.ref d.r0,.ref r])) e (m:=m) (r:=r) (A:=A) (by rw[af (cm ho ht (by intro w;cases w)),s _ _ ho,ho]) ae (λb hb1=>?_) (hr.frame λb hb1=>af ?_) nrF nAF
   .rw[<-e3]at sb;refine q _ _ sb rfl λb o n w=>⟨?_,λy=>?_⟩
    .rw[af (λv=>n (.inr (.inl v)))];exact s _ _ w
    .rw[e3]at y;rcases y with y|y|y|y|⟨_,y⟩|y
     .exact n (.inl y)
     .exact n (.inr (.inl y))
     .exact n (.inr (.inr (.inl y)))
     .exact n (.inr (.inr (.inr (.inl y))))
     .have y:b=r:=y;rw[y,nr]at w;cases w
     .rw[nA b y]at w;cases w
   .obtain⟨o,q⟩:=notF b (by
     rcases hb1 with w|w
     .exact .inr (.inr (.inl w))
     .exact .inr (.inr (.inr (.inl w))))
    have:b≠d.tb:=by
     rcases hb1 with w|w
     .rw[w];exact hb.tr.symm
     .exact hb.row0.notr w ht (λ_ z=>by cases z)
    rw[af this,s _ _ q,q]
   .rcases hb1 with w|w
    .rw[w];exact λv=>by rw[v,ht]at nr;cases nr
    .exact λv=>by have:=nA b w;rw[v,ht]at this;cases this
  by_cases cA:st.size<d.n/\st.size<256
  .have e3:st.three={st with nxt:=some (2*st.size),mv:=0}:=by
    unfold SSt.three;rw[e];exact if_pos (by rw[<-hn];exact cA)
   refine⟨_,rfl,a,_,dx,_,_,rfl,ho,T.aG,T.bH,pM,_,rfl,_,_,rfl,rfl,_,rfl,lq cA.1 ⟨_,rfl,_,_,rfl,rfl,_,rfl,lq cA.2 ?_⟩⟩;refine⟨_,rfl,a,_,dx,_,_,rfl,ho,T.aG,T.aX,iO,.inl ⟨rfl,_,SqL.of ht⟩,_,rfl,_,_,rfl,rfl,.inr ⟨by decide,by decide⟩,_,rfl,by lia,by lia,λH' r A s nr nA hr=>?_⟩;obtain⟨f1,f2⟩:=fin (m:=st.size*2) (by rw[e3,Xh]) s nr nA hr;exact⟨d.tb,_,_,rfl,rfl,f1,cp (by show 1<=1000;decide),f2⟩
  .by_cases cB:4*d.n<st.size/\4<st.size
   .have e3:st.three={st with nxt:=some (st.size/2),mv:=0}:=by
     unfold SSt.three;rw[e];exact(if_neg (by rw[<-hn];exact cA)).trans (if_pos (by rw[<-hn];exact cB))
    have c1:¬st.size<d.n:=by lia
    refine⟨_,rfl,a,_,dx,_,_,rfl,ho,T.aG,T.bH,pM,_,rfl,_,_,rfl,rfl,_,rfl,bc c1 ?_⟩;refine⟨_,rfl,a,_,dx,_,_,rfl,ho,T.aG,T.bH,pM,_,_,rfl,rfl,.inl ⟨by decide,by decide⟩,_,rfl,_,_,rfl,rfl,_,rfl,lq cB.1 ⟨_,rfl,_,_,rfl,rfl,_,rfl,lq cB.2 ?_⟩⟩;refine⟨_,rfl,a,_,dx,_,_,rfl,ho,T.aG,T.aX,iO,.inl ⟨rfl,_,SqL.of ht⟩,_,rfl,_,_,rfl,rfl,⟨by decide,by decide⟩,_,rfl,by lia,by lia,λH' r A s nr nA hr=>?_⟩;obtain⟨f1,f2⟩:=fin (m:=st.size/2) e3 s nr nA hr;exact⟨d.tb,_,_,rfl,rfl,f1,cp (by show 1<=1000;decide),f2⟩
   .have e3:st.three=st:=by
     unfold SSt.three;rw[e];exact(if_neg (by rw[<-hn];exact cA)).trans (if_neg (by rw[<-hn];exact cB))
    rw[e3]at q;have q0:=q H d hb rfl Fr.refl;by_cases c1:st.size<d.n
    .have c2:¬st.size<256:=λw=>cA ⟨c1,w⟩;have c3:¬4*d.n<st.size:=by lia
     refine⟨_,rfl,a,_,dx,_,_,rfl,ho,T.aG,T.bH,pM,_,rfl,_,_,rfl,rfl,_,rfl,lq c1 ⟨_,rfl,_,_,rfl,rfl,_,rfl,bc c2 ?_⟩⟩;exact⟨_,rfl,a,_,dx,_,_,rfl,ho,T.aG,T.bH,pM,_,_,rfl,rfl,.inl ⟨by decide,by decide⟩,_,rfl,_,_,rfl,rfl,_,rfl,bc c3 q0⟩
    .refine⟨_,rfl,a,_,dx,_,_,rfl,ho,T.aG,T.bH,pM,_,rfl,_,_,rfl,rfl,_,rfl,bc c1 ?_⟩;refine⟨_,rfl,a,_,dx,_,_,rfl,ho,T.aG,T.bH,pM,_,_,rfl,rfl,.inl ⟨by decide,by decide⟩,_,rfl,_,_,rfl,rfl,_,rfl,?_⟩;by_cases c3:4*d.n<st.size
     .exact lq c3 ⟨_,rfl,_,_,rfl,rfl,_,rfl,bc (λw=>cB ⟨c3,w⟩) q0⟩
     .exact bc c3 q0
section
variable {d:SlD}
theorem SlB.put (h:SlB t H a st d) (z:SzOk st) {kv:List (Int×V)} (ic:IsCell d st k c kv) (v:V):
  ∃d',SlB t (upd H c (.dK (aJ (bv kv k v)))) a {st with kv:=bv st.kv k v} d'/\d'.n=d.n/\∀b,SlF a {st with kv:=bv st.kv k v} d' b↔SlF a st d b:=
 h.setCell z ic (Bg (h.at ic).2.2) (λ_ hp=>uS hp) (by rw[gT,gT,if_pos rfl,if_pos rfl]) λj hj=>⟨by rw[gT,if_neg hj],by rw[gT,if_neg hj]⟩
theorem SlB.drop (h:SlB t H a st d) (z:SzOk st) {kv:List (Int×V)} (ic:IsCell d st k c kv):
  ∃d',SlB t (upd H c (.dK (aJ (bT kv k)))) a {st with kv:=bT st.kv k} d'/\d'.n=d.n/\∀b,SlF a {st with kv:=bT st.kv k} d' b↔SlF a st d b:=
 h.setCell z ic (p5 (h.at ic).2.2) (λ_ hp=> .inl (xw hp)) (by rw[fh,fh,if_pos rfl,if_pos rfl]) λj hj=>⟨by rw[fh,if_neg hj],by rw[fh,if_neg hj]⟩
theorem SlB.insM (h:SlB t H a st d):∃dx fs,H a=some (.ins t.aY dx fs)/\∀m,NoM m->fs.lookup m=none:=by
 obtain⟨dx,ho⟩:=h.obj;exact⟨dx,_,ho,λm hm=>Ic hm⟩
theorem SSt.one_kv:st.one.kv=st.kv:=by
 unfold SSt.one;cases st.nxt with
 |none=>rfl
 |some m=>show(if _ then _ else _:SSt).kv=_;split<;>rfl
theorem SSt.three_kv:st.three.kv=st.kv:=by
 unfold SSt.three;cases st.nxt with
 |some m=>rfl
 |none=>show(if _ then _ else _:SSt).kv=_;split;rfl;split<;>rfl
theorem B8 {kv:List (Int×V)}:((bv kv k v).length:Int)=if(aO kv k).isSome=true then(kv.length:Int)else kv.length+1:=by
 have:=congrArg List.length (qb (kv:=kv) (k:=k) (v:=v));rw[Q0]at this;split
 .rename_i c;rw[if_pos c,Q0]at this;lia
 .rename_i c;rw[if_neg c,Qa,Q0]at this;simp at this;lia
end
theorem nW (T:Txt K mg t):FnOk P w K mg base CX0 4 t.qy t.kJ ["self","key"] (vP K t):=by
 refine T.HM.okl vZ λ_ _ _ s H vs Q E hr h=>?_;obtain⟨a,k,F,st,rfl,⟨d,hb,hF,hn,nd,z⟩,h0,q⟩:=h;refine⟨_,(ai (aC (Je (EG (sf hr) (pv 1) (aQ (pv 0) T.aG T.fB (cC T) hr.mo T.fI .nil aA (aa (pv 1) ah))))))
  ,?_⟩
 obtain⟨dx,fs,hi,hm⟩:=hb.insM;refine⟨_,rfl,_,rfl,a,dx,fs,rfl,hi,hm _ (by decide+kernel),_,rfl,a,k,st,d,rfl,hb,z,λc kv ic=>?_⟩;obtain⟨hc,_,_⟩:=hb.at ic;refine⟨c,_,rfl,DGet.k (k:=Sum.inl k) hc,?_⟩;rw[liftK_val,hb.val k c kv ic];exact q H F ⟨d,hb,hF,hn,nd,z⟩ Fr.refl
theorem wu (T:Txt K mg t):FnOk P w K mg base CX0 4 t.qz t.kK ["self","key"] (vQ K t):=by
 refine T.HN.okl sc_Slots__get λ_ _ _ s H vs Q E hr h=>?_;obtain⟨a,k,F,st,rfl,⟨d,hb,hF,hn,nd,z⟩,h0,q1,q2⟩:=h;refine⟨_,(ac (az (i:=2) sc_Slots__get.nd rfl (Or.inl rfl) (aQ (pv 0) T.aG T.fB (cC T) hr.mo T.fI .nil aA (aa (pv 1) ah)))
   (ac (aU (AZ (w6 (sf hr) (pv 1) (pv 2)))
   (ai cx)
   aH)
   (ai (aC (G3 (sf hr) (pv 2) (pv 1) (λ_ _=>rfl))))))
  ,?_⟩
 have hA:SlA K t H a F st:=⟨d,hb,hF,hn,nd,z⟩;obtain⟨dx,fs,hi,hm⟩:=hb.insM;refine⟨_,rfl,a,dx,fs,rfl,hi,hm _ (by decide+kernel),_,rfl,a,k,st,d,rfl,hb,z,λc kv ic=>?_⟩;obtain⟨hc,_,_⟩:=hb.at ic;have hv:=hb.val k c kv ic;refine⟨_,rfl,_,rfl,c,_,rfl,DGet.k (k:=Sum.inl k) hc,?_⟩;rw[liftK_val,hv];cases e:aO st.kv k with
 |none=>
  refine⟨_,rfl,c6 ?_⟩;exact(q2 e).elim
 |some v=>
  refine⟨_,rfl,cI ?_⟩;refine⟨_,rfl,_,rfl,c,v,rfl,?_,q1 v e H F hA Fr.refl⟩;have:=DGet.k (k:=Sum.inl k) hc;rw[liftK_val,hv,e]at this;exact this
theorem wt (T:Txt K mg t):FnOk P w K mg base CX0 4 t.qw t.kI ["self","key","value"] (vO K t):=by
 refine T.HL.okl sc_Slots__put λ_ _ _ s H vs Q E hr h=>?_;obtain⟨a,k,i,F,st,rfl,⟨d,hb,hF,hn,nd,z⟩,h0,hl,q⟩:=h;refine⟨_,(ac (aR (bu (pv 0) T.aG T.o9 (gu T) hr.mo T.pE .nil aA))
   (ac (az (i:=3) sc_Slots__put.nd rfl (Or.inl rfl) (aQ (pv 0) T.aG T.fB (cC T) hr.mo T.fI .nil aA (aa (pv 1) ah)))
   (ac (aU (AZ (w6 (sf hr) (pv 1) (pv 3)))
   (ai (gO (pv 0) ag u7))
   aH)
   (ac (yi (sf hr) (pv 3) (pv 1) (pv 2) rfl)
   (ai (aR (bu (pv 0) T.aG T.pe (gv T) hr.mo T.pF .nil aA)))))))
  ,?_⟩
 obtain⟨dx,fs,hi,hm⟩:=hb.insM;refine⟨_,rfl,a,dx,fs,rfl,hi,hm _ (by decide+kernel),a,st,d,rfl,hb,z,hl,λH1 d1 hb1 e1 fr1=>?_⟩;obtain⟨dx1,fs1,hi1,hm1⟩:=hb1.insM;have z1:=z.one;refine⟨_,rfl,a,dx1,fs1,rfl,hi1,hm1 _ (by decide+kernel),_,rfl,a,k,st.one,d1,rfl,hb1,z1,λc kv ic=>?_⟩;obtain⟨hc,cF,_⟩:=hb1.at ic;have hv:=hb1.val k c kv ic;have sh:=hb1.short z1 ic;rw[SSt.one_kv]at hv sh;obtain⟨dx2,ho1⟩:=hb1.obj;have na:a≠c:=cm ho1 hc (by intro w;cases w);have key:∀(H2:Hp) (n2:Int),SlB t H2 a st.one {d1 with n:=n2}->Fr (SlF a st d) (SlF a st.one d1) H H2->n2=((bv st.kv k (.int i)).length:Int)->∃d3,SlB t (upd H2 c (.dK (aJ (bv kv k (.int i))))) a {st.one with kv:=bv st.one.kv k (.int i)} d3/\d3.n=((bv st.one.kv k (.int i)).length:Int)/\
   ∀H4 d4,SlB t H4 a (SSt.three {st.one with kv:=bv st.one.kv k (.int i)}) d4->d4.n=d3.n->Fr (SlF a {st.one with kv:=bv st.one.kv k (.int i)} d3) (SlF a (SSt.three {st.one with kv:=bv st.one.kv k (.int i)}) d4) (upd H2 c (.dK (aJ (bv kv k (.int i))))) H4->Q .non H4:=λH2 n2 hb2 fr2 hn2=>by
  obtain⟨d3,hb3,e3,f3⟩:=hb2.put z1 (kv:=kv) ic (.int i);have e3':d3.n=((bv st.one.kv k (.int i)).length:Int):=by rw[e3,SSt.one_kv];exact hn2
  refine⟨d3,hb3,e3',λH4 d4 hb4 e4 fr4=>?_⟩;rw[SSt.one_kv]at hb4 fr4 f3 e3';refine q H4 _ ⟨d4,hb4,λb=>Iff.rfl,?_,?_,?_⟩ ?_
  .show d4.n=((SSt.three _).kv.length:Int);rw[SSt.three_kv,e4,e3']
  .show((SSt.three _).kv.map (·.1)).Nodup;rw[SSt.three_kv];exact Bg nd
  .exact(z1.kv).three
  .have step:Fr (SlF a st.one d1) (SlF a {st.one with kv:=bv st.kv k (.int i)} d3) H2 (upd H2 c (.dK (aJ (bv kv k (.int i))))):=λb o n w=>⟨by rw[af (λy=>n (by rw[y];exact cF))];exact w,λy=>n ((f3 b).mp y)⟩;exact Fr.trans (λb o n w=>fr2 b o (λy=>n ((hF b).mpr y)) w) (Fr.trans step fr4)
 refine⟨_,rfl,_,rfl,c,_,rfl,DGet.k (k:=Sum.inl k) hc,?_⟩;rw[liftK_val,hv];have kl:(aJ kv).length<sizeLine:=by rw[cq];exact CI (by lia)
 cases e:aO st.kv k with
 |none=>
  refine⟨_,rfl,c6 ?_⟩;refine⟨_,rfl,a,_,dx2,_,_,rfl,ho1,T.aG,T.bH,pM,_,_,rfl,rfl,dx2,_,ho1,pL,?_⟩;rw[Ij];have hb2:=hb1.setN (dx:=dx2) (n:=d1.n+1);have hc2:upd H1 a (.ins t.aY dx2 (slF d1.tb st.one.moved (d1.n+1))) c=some (.dK (aJ kv)):=by rw[af na.symm];exact hc
  obtain⟨d3,hb3,n3,fin⟩:=key _ _ hb2 (λb o n w=>⟨by rw[af (λy=>(fr1 b o n w).2 (.inl y))];exact(fr1 b o n w).1,(fr1 b o n w).2⟩) (by rw[B8,e,e1,hn];rfl);refine⟨_,rfl,_,rfl,_,rfl,c,_,rfl,DPut.k (k:=Sum.inl k) hc2 kl,?_⟩;rw[gQ];obtain⟨dx3,fs3,hi3,hm3⟩:=hb3.insM;exact⟨_,rfl,a,dx3,fs3,rfl,hi3,hm3 _ (by decide+kernel),a,_,d3,rfl,hb3,z1.kv,n3,fin⟩
 |some v=>
  refine⟨_,rfl,cI ?_⟩;obtain⟨d3,hb3,n3,fin⟩:=key H1 d1.n hb1 fr1 (by rw[B8,e,e1,hn];rfl);refine⟨_,rfl,_,rfl,_,rfl,c,_,rfl,DPut.k (k:=Sum.inl k) hc kl,?_⟩;rw[gQ];obtain⟨dx3,fs3,hi3,hm3⟩:=hb3.insM;exact⟨_,rfl,a,dx3,fs3,rfl,hi3,hm3 _ (by decide+kernel),a,_,d3,rfl,hb3,z1.kv,n3,fin⟩
theorem uJ (T:Txt K mg t):FnOk P w K mg base CX0 5 t.oB t.ju ["self","key"] (t7 K t):=by
 refine T.Gy.okl ur λ_ _ _ s H vs Q E hr h=>?_;obtain⟨a,k,F,st,rfl,hA,h0,q1,q2⟩:=h;refine⟨_,(ac (aU (rc (eG (aQ (pv 0) T.aG T.yw (nW T) hr.mo T.yQ .nil aA (aa (pv 1) ah))))
   (ai cx)
   aH)
   (ac (aR (bu (pv 0) T.aG T.o9 (gu T) hr.mo T.pE .nil aA))
   (ac (aR (dG QQ Xk PySem.F.type_dict_pop BX (aQ (pv 0) T.aG T.fB (cC T) hr.mo T.fI .nil aA (aa (pv 1) ah)) (aa (pv 1) ah)))
   (ac (gO (pv 0) ag Jy)
   (ai (aR (bu (pv 0) T.aG T.pe (gv T) hr.mo T.pF .nil aA)))))))
  ,?_⟩
 obtain⟨dx,fs,hi,hm⟩:=hA.ins;refine⟨_,rfl,a,dx,fs,rfl,hi,hm _ (by decide+kernel),_,rfl,a,k,F,st,rfl,hA,h0,λH0 F0 hA0 fr0=>?_⟩;cases e:aO st.kv k with
 |none=>
  refine⟨_,rfl,c6 ?_⟩;exact(q2 e).elim
 |some v=>
  refine⟨_,rfl,cI ?_⟩;obtain⟨d,hb,hF,hn,nd,z⟩:=hA0;obtain⟨dx,fs,hi,hm⟩:=hb.insM;obtain⟨hl,q1⟩:=q1 (by rw[e];rfl);refine⟨_,rfl,a,dx,fs,rfl,hi,hm _ (by decide+kernel),a,st,d,rfl,hb,z,hl,λH1 d1 hb1 e1 fr1=>?_⟩;obtain⟨dx1,fs1,hi1,hm1⟩:=hb1.insM;have z1:=z.one;refine⟨_,rfl,a,dx1,fs1,rfl,hi1,hm1 _ (by decide+kernel),_,rfl,a,k,st.one,d1,rfl,hb1,z1,λc kv ic=>?_⟩;obtain⟨hc,cF,_⟩:=hb1.at ic;have hv:=hb1.val k c kv ic;rw[SSt.one_kv,e]at hv;obtain⟨d3,hb3,e3,f3⟩:=hb1.drop z1 ic;rw[SSt.one_kv]at hb3 f3;refine⟨.inr (.inr (.inl ⟨rfl,.inl ⟨_,hc⟩⟩)),_,rfl,c,_,Sum.inl k,v,rfl,rfl,hc,liftK_val.trans hv,?_⟩;rw[uX];obtain⟨dx3,ho3⟩:=hb3.obj;refine⟨_,rfl,a,_,dx3,_,_,rfl,ho3,T.aG,T.bH,pM,_,_,rfl,rfl,dx3,_,ho3,pL,?_⟩;rw[Ij];have hb4:=hb3.setN (dx:=dx3) (n:=d3.n-1);obtain⟨dx4,fs4,hi4,hm4⟩:=hb4.insM;have dl:=xy nd (tH e);have n4:d3.n-1=((bT st.kv k).length:Int):=by rw[e3,e1,hn];lia
  refine⟨_,rfl,a,dx4,fs4,rfl,hi4,hm4 _ (by decide+kernel),a,_,_,rfl,hb4,z1.kv,n4,λH5 d5 hb5 e5 fr5=>?_⟩;refine q1 H5 _ ⟨d5,hb5,λb=>Iff.rfl,?_,?_,z1.kv.three⟩ ?_
  .show d5.n=((SSt.three _).kv.length:Int);rw[SSt.three_kv,e5];exact n4
  .show((SSt.three _).kv.map (·.1)).Nodup;rw[SSt.three_kv];exact p5 nd
  .refine fr0.trans (Fr.trans (λb o n w=>fr1 b o (λy=>n ((hF b).mpr y)) w) (Fr.trans (λb o n w=>?_) fr5));exact⟨by rw[af (λy=>n (.inl y)),af (λy=>n (by rw[y];exact cF))];exact w,λy=>n ((f3 b).mp y)⟩
theorem lZ (T:Txt K mg t):FnOk P w K mg base CX0 1 t.oz t.js ["self"] (tY K t):=by
 refine T.Gw.okl uo λ_ _ _ s H vs Q E hr h=>?_;obtain⟨a,F,st,rfl,⟨d,hb,hF,hn,nd,z⟩,q⟩:=h;refine⟨_,(ai (aC (iT rfl (CScope.of (M:=["row"]) (N:=["self"]) (N':=["self"]) (dsc:=ak fJ) rfl rfl (by decide+kernel)) (cZ (au (pv 0) rfl)) (λ_ _ _ _ _=>(aE (wI K rfl) (by rfl) T.bM bg (aa (pv 0) ah))))))
  ,?_⟩
 have hA:SlA K t H a F st:=⟨d,hb,hF,hn,nd,z⟩;obtain⟨dx,ho⟩:=hb.obj;have tab:∃xs,H d.tb=some (.lst xs)/\xs.length=st.rows.length/\∀(i:Nat) (x:V),xs[i]?=some x->∃r rs,x= .ref r/\H r=some (.lst rs)/\st.rows[i]?=some (rs.length:Int):=by
  have ht:=hb.tbl;have l0:((d.A0.map V.ref).length:Int)=st.size:=by rw[Q0];exact hb.row0.la
  unfold SSt.rows;have r1:=hb.row1;cases e:st.nxt with
  |none=>
   rw[e]at ht;refine⟨_,ht,rfl,λi x hx=>?_⟩;cases i with
   |zero=>cases hx;exact⟨d.r0,_,rfl,hb.row0.lst,by rw[l0];rfl⟩
   |succ j=>simp at hx
  |some m=>
   rw[e]at ht r1;have l1:((d.A1.map V.ref).length:Int)=m:=by rw[Q0];exact r1.la
   refine⟨_,ht,rfl,λi x hx=>?_⟩;cases i with
   |zero=>cases hx;exact⟨d.r0,_,rfl,hb.row0.lst,by rw[l0];rfl⟩
   |succ j=>
    cases j with
    |zero=>cases hx;exact⟨d.r1,_,rfl,r1.lst,by rw[l1];rfl⟩
    |succ j=>simp at hx
 obtain⟨xs,ht,lx,look⟩:=tab;refine⟨_,rfl,a,_,dx,_,_,rfl,ho,T.aG,T.aX,iO,d.tb,rfl,⟨_,SqL.of ht⟩,λD hD=>?_⟩;refine jP (K:=K) (a:=d.tb) (xs:=xs) (λi ys H3=>H3=upd H D (.lst ys)/\ys=(st.rows.take i).map V.int) ⟨rfl,rfl⟩ (λi ys H3 _ w=>SqL.of (by rw[w.1,af (al ht hD)];exact ht)) (λi x ys H3 hx w hDD=>?_) (λys H3 w hDD=>?_)
 .obtain⟨e1,e2⟩:=w;obtain⟨r,rs,rfl,hr,hs⟩:=look i x hx;have hi:i<xs.length:=(Q2.mp hx).1;have hr3:H3 r=some (.lst rs):=by rw[e1,af (al hr hD)];exact hr
  refine⟨_,rfl,r,_,rfl,.inl (SqL.of hr3),CNext.mk hi hDD ?_ ⟨?_,?_⟩⟩
  .rw[e2,Q0,Q8];have:st.rows.length<=2:=by(unfold SSt.rows;cases st.nxt<;>simp)
   exact cp (by lia)
  .rw[e1,bE]
  .rw[e2,Qr,hs,Qc];rfl
 .obtain⟨e1,e2⟩:=w;rw[lx,QF]at e2;subst e2;subst e1;exact q _ F D (hA.new hD) (Fr.of_same (aj hD)) hD (hA.out hD) ae
theorem IT {sh:Int}:a8 ("kept":Str) (.int n) (a8 ("shifted":Str) (.int sh) (a8 ("table":Str) (.ref tb) []))=slF tb sh n:=by
 have e1:a8 ("table":Str) (.ref tb) []=[(("table":Str),V.ref tb)]:=rfl;rw[e1,a8,if_neg (by decide+kernel),a8,a8,if_neg (by decide+kernel),a8,if_neg (by decide+kernel),a8];rfl
theorem uI (T:Txt K mg t):FnOk P w K mg base CX0 2 t.oA t.jt ["self"] (tZ K t):=by
 obtain⟨tk_LEAST_SIZE,hLEAST_SIZE⟩:=T.g_LEAST_SIZE;refine T.Gx.okl uq λ_ _ _ s H vs Q E hr h=>?_;obtain⟨a,dx,rfl,ha,hd,q⟩:=h;refine⟨_,(ac (a9 (pv 0) (bR (aa (aM (pY T) hr.mo (by rfl) T.rZ T.m4.kp T.sj .nil aA (aa (cy (v:= .int 4) (by rfl) hLEAST_SIZE ⟨_,rfl⟩) ah)) ah)) rfl)
   (ac (a9 (pv 0) ag rfl)
   (ai (a9 (pv 0) ag rfl))))
  ,?_⟩
 refine⟨4,rfl,by decide,by decide,λH' r A s nr nA hr=>⟨(by show 1<=sizeLine;decide),λtb nt=>?_⟩⟩;have ha1:=s _ _ ha;have nta:a≠tb:=al ha1 nt;refine⟨_,rfl,a,_,dx,[],rfl,(by rw[af nta];exact ha1),T.aG,T.aX,(by show 0<1000;decide),?_⟩;refine⟨_,rfl,a,_,dx,_,rfl,ae,T.aG,T.bP,?_,?_⟩
 .show 1<1000;decide
 refine⟨_,rfl,a,_,dx,_,rfl,ae,T.aG,T.bH,?_,?_⟩
 .have h1:=lU (f:="shifted") (v:= .int 0) (a8 "table" (.ref tb) []);have h2:=lU (f:="table") (v:= .ref tb) [];have h3:([]:List (Str×V)).length=0:=rfl;lia
 rw[IT,bE,bE];have ntr:tb≠r:=(al hr.lst nt).symm;have sb:=SlB.fresh (t:=t) (H:=upd (upd H' tb (.lst [.ref r])) a (.ins t.aY dx (slF tb 0 0))) (a:=a) (tb:=tb) (r:=r) (A:=A) (dx:=dx) ae (by rw[af nta.symm];exact ae) (hr.frame λb hb1=>?_) ntr
 .refine q _ _ ⟨_,sb,λb=>Iff.rfl,rfl,Zj,SzOk.new⟩ λb o n w=>?_;have n1:b≠a:=λy=>n (.inl y);have w1:=s _ _ w;have n2:b≠tb:=al w1 nt;refine⟨by rw[af n1,af n2];exact w1,λy=>?_⟩;rcases y with y|y|y|y|⟨y,_⟩|y
  .exact n1 y
  .exact n2 y
  .have y:b=r:=y;rw[y,nr]at w;cases w
  .rw[nA b y]at w;cases w
  .cases y
  .cases y
 .have:∃o,H' b=some o:=by
   rcases hb1 with rfl|hb1
   .exact⟨_,hr.lst⟩
   .obtain⟨_,_,_,_,w⟩:=hr.has hb1;exact⟨_,w⟩
  obtain⟨o,w⟩:=this;have n2:b≠tb:=al w nt;have n1:b≠a:=λy=>by
   rcases hb1 with y2|y2
   .rw[<-y2,y,ha]at nr;cases nr
   .have:=nA b y2;rw[y,ha]at this;cases this
  rw[af n1,af n2]
theorem lY (T:Txt K mg t):FnOk P w K mg base CX0 3 t.ox t.jq ["self","place"] (tW K t):=by
 refine T.Gu.okl sc_Slots__stop λ_ _ _ s H vs Q E hr h=>?_;obtain⟨a,p,F,st,rfl,hA,p0,p1,q⟩:=h;refine⟨_,(ac (az (i:=2) sc_Slots__stop.nd rfl (Or.inl rfl) (aE (xB rfl) (by rfl) T.y7 rR (aa (bu (pv 0) T.aG T.wE (lZ T) hr.mo T.wK .nil aA) ah)))
   (ai (aC (aW bU (aM (wg T) hr.mo (by rfl) T.Hk T.yV.kp T.Hy .nil aA (aa (aM (uF T) hr.mo (by rfl) T.Dd T.xP.kp T.DB .nil aA (aa (pv 1) (aa (pv 2) ah))) (aa (pv 2) ah))) ag (λ_ _=>rfl)))))
  ,?_⟩
 have z:SzOk st:=let⟨_,_,_,_,_,z⟩:=hA;z
 obtain⟨s4,s5⟩:=bQ (jo z);obtain⟨x,y,R⟩:=yg (jo z);obtain⟨dx,fs,hi,hm⟩:=hA.ins;refine⟨_,rfl,a,dx,fs,rfl,hi,hm _ (by decide+kernel),a,F,st,rfl,hA,λH1 F1 l sA fr nl oF hl=>⟨l,st.rows,rfl,SqL.of hl,?_,λM hM hle=>?_⟩⟩
 .unfold SSt.rows;cases st.nxt<;>simp
 .have eM:=E5 hM hle;subst eM;refine⟨_,rfl,_,rfl,p,_,rfl,p0,by lia,_,rfl,_,_,rfl,Qe _ (by lia),by lia,by lia,λtp nt=>?_⟩;rw[xU R p0 p1];exact⟨tp,_,_,_,rfl,rfl,SqT.of ae,rfl,q _ F1 (sA.new nt) (fr.trans (Fr.of_same (aj nt)))⟩
structure Rw where
 r:Addr
 A:List Addr
 C:List (List (Int×V))
 s:Int
def e7 (st:SSt) (d:SlD):List Rw:=match st.nxt with|none=> [⟨d.r0,d.A0,d.C0,st.size⟩]|some m=> [⟨d.r0,d.A0,d.C0,st.size⟩,⟨d.r1,d.A1,d.C1,m⟩]
def plc (k:Int):Int:=tz (k%65536)
theorem tJ {st:Int} {x:Nat} (h:0<st):x<pC lo hi st↔lo+(x:Int)*st<hi:=by
 unfold pC;rw[nU h];by_cases c:lo<hi
 .rw[if_pos c];have a:0<=(hi-lo-1)/st:=XX (by lia) (by lia);have e:(x:Int)<=(hi-lo-1)/st↔(x:Int)*st<=hi-lo-1:=Int.le_ediv_iff_mul_le h;lia
 .rw[if_neg c];have:0<=(x:Int)*st:=X6 (by lia) (by lia);lia
theorem fR {kv:List (Int×V)} (nd:(kv.map (·.1)).Nodup) (h:(k,v)∈kv):aO kv k=some v:=by
 induction kv with
 |nil=>cases h
 |cons p r ih=>
  rw[Qs,QM]at nd;by_cases e:p.1=k
  .rw[bp e];rcases Qg.mp h with h|h
   .rw[<-h]
   .exact absurd (Z0 (f:=(·.1)) h) (by rw[<-e]at*;exact nd.1)
  .rw[bj e];rcases Qg.mp h with h|h
   .rw[<-h]at e;exact absurd rfl e
   .exact ih nd.2 h
theorem iV {kv:List (Int×V)} (h:aO kv k=some v):(k,v)∈kv:=by
 induction kv with
 |nil=>rw[lE]at h;cases h
 |cons p r ih=>
  by_cases e:p.1=k
  .rw[bp e]at h;cases h;rw[<-e];exact Q9
  .rw[bj e]at h;exact Qd _ (ih h)
theorem tM {d:SlD} {ri:Nat} {R:Rw} {kv:List (Int×V)} (hb:SlB t H a st d) (hR:(e7 st d)[ri]?=some R) (hk:R.C[j]?=some kv) (hv:(k,v)∈kv):
  k%65536%R.s=(j:Int)/\(kv.map (·.1)).Nodup/\∃c,IsCell d st k c kv:=by
 have hlen:∀{A:List Addr} {C:List (List (Int×V))} {r:Addr} {s:Int} {x:Nat},RowOk H r A C s->C[x]?=some kv->∃b,A[x]?=some b:=λ{A C r s x} ro h=>by
  have h1:=(Q2.mp h).1;have h2:=ro.la;have h3:=ro.lc;exact⟨A[x]'(by lia),Q3 _⟩
 have kvne:kv≠[]:=λz=>by rw[z]at hv;cases hv
 have row1:=hb.row1;have zero:(j:Int)<st.moved->d.C0[j]?=some kv->False:=λh1 h2=>kvne (hb.old _ _ h2 h1);unfold e7 at hR;cases en:st.nxt with
 |none=>
  rw[en]at hR;cases ri with
  |zero=>
   cases hR;have hat:=hb.row0.home _ _ hk _ hv;obtain⟨b,eb⟩:=hlen hb.row0 hk;refine⟨hat,hb.row0.ndk _ _ hk,b,.inl ⟨?_,by rw[hat];exact eb,by rw[hat];exact hk⟩⟩;rw[hat,SSt.moved_none en];lia
  |succ j=>simp at hR
 |some m=>
  rw[en]at hR row1;cases ri with
  |zero=>
   cases hR;have hat:=hb.row0.home _ _ hk _ hv;obtain⟨b,eb⟩:=hlen hb.row0 hk;refine⟨hat,hb.row0.ndk _ _ hk,b,.inl ⟨?_,by rw[hat];exact eb,by rw[hat];exact hk⟩⟩;rw[hat];exact Int.not_lt.mp λy=>zero y hk
  |succ j'=>
   cases j' with
   |zero=>
    cases hR;have hat:=row1.home _ _ hk _ hv;obtain⟨b,eb⟩:=hlen row1 hk;exact⟨hat,row1.ndk _ _ hk,b,.inr ⟨_,en,hb.new _ _ hk _ hv,by rw[hat];exact eb,by rw[hat];exact hk⟩⟩
   |succ j=>simp at hR
def nR (C:List (List (Int×V))) (s m:Int) (x:Nat):List (Int×V):=C.getD (s+(x:Int)*m).toNat []
def GT (s m:Int) (R:Rw):List (Int×V):=(List.range (pC s R.s m)).flatMap (nR R.C s m)
def Jl (st:SSt) (d:SlD) (s:Int):List (Int×V):=(e7 st d).flatMap (GT s st.low)
theorem q9 {d:SlD} (z:SzOk st) {R:Rw} (h:R∈e7 st d):R.s=st.low\/R.s=2*st.low:=by
 unfold e7 at h;unfold SSt.low;cases e:st.nxt with
 |none=>rw[e]at h;rw[Q7.mp h];exact .inl rfl
 |some m=>
  rw[e]at h;obtain⟨_,_,_,nx⟩:=z.nx m e;have p:=bQ z.pw;show R.s=(if m<st.size then m else st.size)\/R.s=2*(if m<st.size then m else st.size);rcases Qg.mp h with h|h
  .rw[h];show st.size=_\/st.size=_;split<;>lia
  .rw[Q7.mp h];show m=_\/m=_;split<;>lia
theorem B7 {x r:Int} (h:r=m\/r=2*m):x%r%m=x%m:=by
 rcases h with rfl|rfl
 .exact Int.emod_emod_of_dvd _ (Int.dvd_refl _)
 .exact Int.emod_emod_of_dvd _ ⟨2,by lia⟩
theorem Hd {d:SlD} {s:Int} (hb:SlB t H a st d) (z:SzOk st) (nd:(st.kv.map (·.1)).Nodup) (s0:0<=s) (s1:s<st.low) (k:Int) (v:V):
  (k,v)∈Jl st d s↔(k,v)∈st.kv/\k%65536%st.low=s:=by
 have lp:=bQ (jo z);constructor
 .intro h;obtain⟨R,hR,h⟩:=ZF.mp h;obtain⟨x,hx,h⟩:=ZF.mp h;have hx:=XZ.mp hx;have hr:=q9 z hR;obtain⟨ri,hri,eR⟩:=Qz hR;have eR:(e7 st d)[ri]?=some R:=by rw[Q3 hri,eR]
  unfold nR at h;have xs:=(tJ (by lia)).mp hx;have xm:0<=(x:Int)*st.low:=X6 (by lia) (by lia);cases ek:R.C[(s+(x:Int)*st.low).toNat]? with
  |none=>rw[Qm,ek]at h;cases h
  |some kv=>
   rw[Qm,ek]at h;have h:(k,v)∈kv:=h;obtain⟨h1,h2,c,h3⟩:=tM hb eR ek h;refine⟨iV (by rw[<-hb.val k c kv h3];exact fR h2 h),?_⟩;rw[<-B7 hr,h1,Xv (by lia),Int.add_mul_emod_self_right];exact Int.emod_eq_of_lt s0 s1
 .rintro ⟨h,hs⟩;obtain⟨c,kv,ic⟩:=hb.cell z k;have hv:=hb.val k c kv ic;rw[fR nd h]at hv;have hm:=iV hv;have fin:∀R:Rw,R∈e7 st d->R.C[(k%65536%R.s).toNat]?=some kv->(k,v)∈Jl st d s:=λR hR hk=>by
   have hr:=q9 z hR;have j0:0<=k%65536%R.s:=Qe _ (by lia);have j1:k%65536%R.s<R.s:=Qb _ (by lia);have jm:=B7 (x:=k%65536) hr;rw[hs]at jm;have dv:=Xl (k%65536%R.s) st.low;have q0:0<=k%65536%R.s/st.low:=XX j0 (by lia);have eq:s+((k%65536%R.s/st.low).toNat:Int)*st.low=k%65536%R.s:=by
    rw[Xv q0,Xh];lia
   refine ZF.mpr ⟨R,hR,ZF.mpr ⟨(k%65536%R.s/st.low).toNat,XZ.mpr ((tJ (by lia)).mpr (by rw[eq];exact j1)),?_⟩⟩;unfold nR;rw[eq,Qm,hk];exact hm
  rcases ic with⟨_,_,h3⟩|⟨m,en,_,_,h3⟩
  .refine fin ⟨d.r0,d.A0,d.C0,st.size⟩ ?_ h3;unfold e7;cases st.nxt<;>simp
  .refine fin ⟨d.r1,d.A1,d.C1,m⟩ ?_ h3;unfold e7;rw[en];simp
theorem nu {C:List (List (Int×V))} {s:Int} {x:Nat} {p:Int×V} (h:p∈nR C s m x):∃kv,C[(s+(x:Int)*m).toNat]?=some kv/\p∈kv:=by
 unfold nR at h;cases ek:C[(s+(x:Int)*m).toNat]? with
 |none=>rw[Qm,ek]at h;cases h
 |some kv=>
  rw[Qm,ek]at h;exact⟨kv,rfl,h⟩
theorem CW {d:SlD} {s:Int} (hb:SlB t H a st d) (z:SzOk st) (s0:0<=s):((Jl st d s).map (·.1)).Nodup:=by
 have lp:=bQ (jo z);refine QO.mpr ?_;have row:∀R∈e7 st d,(GT s st.low R).Pairwise (λp q=>p.1≠q.1):=λR hR=>by
  obtain⟨ri,hri,eR⟩:=Qz hR;have eR:(e7 st d)[ri]?=some R:=by rw[Q3 hri,eR]
  refine List.pairwise_flatMap.mpr ⟨λx _=>?_,?_⟩
  .unfold nR;cases ek:R.C[(s+(x:Int)*st.low).toNat]? with
   |none=>rw[Qm,ek];exact List.Pairwise.nil
   |some kv=>
    rw[Qm,ek];show List.Pairwise _ kv;cases ke:kv with
    |nil=>exact List.Pairwise.nil
    |cons p r=>
     have:=(tM hb eR ek (k:=p.1) (v:=p.2) (by rw[ke];exact Q9)).2.1;rw[ke]at this;exact QO.mp this
  .refine(List.pairwise_lt_range (n:=pC s R.s st.low)).imp λ{x y} hxy p hp q hq e=>?_;obtain⟨kv,h1,h2⟩:=nu hp;obtain⟨kv',h3,h4⟩:=nu hq;have a1:=(tM hb eR h1 h2).1;have a2:=(tM hb eR h3 h4).1;have m1:(x:Int)*st.low<(y:Int)*st.low:=Int.mul_lt_mul_of_pos_right (by lia) (by lia);have m0:0<=(x:Int)*st.low:=X6 (by lia) (by lia);rw[e,a2]at a1;lia
 refine List.pairwise_flatMap.mpr ⟨row,?_⟩;have row1:=hb.row1;unfold e7;cases en:st.nxt with
 |none=>exact Zb _ _
 |some m=>
  refine Z5.mpr ⟨λR hR p hp q hq e=>?_,Zb _ _⟩;rw[Q7.mp hR]at hq;obtain⟨x,_,hp⟩:=ZF.mp hp;obtain⟨y,_,hq⟩:=ZF.mp hq;obtain⟨kv,h1,h2⟩:=nu hp;obtain⟨kv',h3,h4⟩:=nu hq;have n1:=hb.new _ _ h3 _ h4;have n2:=hb.row0.home _ _ h1 _ h2;have n3:¬((s+(x:Int)*st.low).toNat:Int)<st.moved:=λc=>by
   have:=hb.old _ _ h1 c;rw[this]at h2;cases h2
  rw[<-e,n2]at n1;exact n3 n1
structure Ly (X:List Addr) (H H':Hp) (l:Addr) (ts:List Tp) (L:List (Int×V)):Prop where
 sm:∀c o,c∉X->H c=some o->H' c=some o
 li:H' l=some (.lst (ts.map λe=>V.ref e.p))
 tu:∀e∈ts,H' e.p=some (.tup [.int (plc e.k),.int e.k,e.v])/\H e.p=none
 eq:ts.map Tp.kv=L
section
variable {X:List Addr} {H'':Hp} {l:Addr} {L:List (Int×V)}
theorem Ly.same (h:Ly X H H' l ts L) (s:Same H' H''):Ly X H H'' l ts L:=⟨λc o n e=>s _ _ (h.sm c o n e),s _ _ h.li,λe he=>⟨s _ _ (h.tu e he).1,(h.tu e he).2⟩,h.eq⟩
theorem Ly.add (h:Ly X H H' l ts L) (s:Same H' H'') (np:H' p=none) (nl:H l=none) (nX:∀c∈X,∃o,H c=some o/\∃o',H' c=some o') (et:H'' p=some (.tup [.int (plc k),.int k,v])):
  Ly X H (upd H'' l (.lst (ts.map (λe=>V.ref e.p)++ [.ref p]))) l (ts++ [⟨p,k,v⟩]) (L++ [(k,v)]):=by
 have pl:p≠l:=λz=>by rw[z,h.li]at np;cases np
 have old:H p=none:=by
  cases q:H p with
  |none=>rfl
  |some o=>
   by_cases c:p∈X
   .obtain⟨_,_,o',e'⟩:=nX p c;rw[np]at e';cases e'
   .rw[h.sm _ _ c q]at np;cases np
 have h2:=h.same s;refine⟨λc o n e=>?_,by rw[ae,Qc];rfl,λe he=>?_,by rw[Qc,h.eq];rfl⟩
 .rw[af λz=>by rw[z,nl]at e;cases e];exact h2.sm c o n e
 .rcases Q5.mp he with he|he
  .have q:=h2.tu e he;exact⟨by rw[af λz=>by rw[z,h2.li]at q;cases q.1];exact q.1,q.2⟩
  .rw[Q7.mp he];exact⟨by rw[af pl];exact et,old⟩
theorem Ly.freeze {o':HO} (h:Ly [] H H' l ts L) (hb:H b=some o) (bl:b≠l):Ly [b] H (upd H' b o') l ts L:=
 ⟨λc o n e=>by rw[af λz=>n (by rw[z];exact Q9)];exact h.sm c o (by simp) e,by rw[af bl.symm];exact h.li,
  λe he=>⟨by rw[af λz=>by have:=(h.tu e he).2;rw[z,hb]at this;cases this];exact(h.tu e he).1,(h.tu e he).2⟩,h.eq⟩
theorem Ly.thaw (h:Ly [b] H H' l ts L) (hb:H b=some o) (bl:b≠l):Ly [] H (upd H' b o) l ts L:=by
 refine⟨λc o' _ e=>?_,by rw[af bl.symm];exact h.li,λe he=>⟨by rw[af λz=>by have:=(h.tu e he).2;rw[z,hb]at this;cases this];exact(h.tu e he).1,(h.tu e he).2⟩,h.eq⟩;by_cases z:c=b
 .rw[z,ae,<-hb,<-z];exact e
 .rw[af z];exact h.sm c o' (by simpa using z) e
end
def oP (K:PySem.W.Frag) (t:Adr):Sp:=λvs H Q _=>∃(a:Addr) (p:Int) (F:Addr->Prop) (st:SSt),vs=[.ref a,.int p]/\SlA K t H a F st/\0<=p/\p<65536/\st.kv.length<4096/\
 ∀(H':Hp) (F':Addr->Prop) (l:Addr) (ts:List Tp),SlA K t H' a F' st->Fr F F' H H'->¬F' l->H' l=some (.lst (ts.map λe=>V.ref e.p))->(∀e∈ts,H' e.p=some (.tup [.int (plc e.k),.int e.k,e.v])/\¬F' e.p)->
  (∀k v,(k,v)∈ts.map Tp.kv↔(k,v)∈st.kv/\k%65536%st.low=tz p%st.low)->((ts.map Tp.kv).map (·.1)).Nodup->Q (.ref l) H'
theorem IN {d:SlD} (hb:SlB t H a st d) (sz:SzOk st):∃xs,H d.tb=some (.lst xs)/\xs.length=(e7 st d).length/\(e7 st d).length<=2/\
  ∀(i:Nat) (x:V),xs[i]?=some x->∃R:Rw,x= .ref R.r/\(e7 st d)[i]?=some R/\RowOk H R.r R.A R.C R.s/\R.s<=256/\∀(j:Nat) (kv:List (Int×V)),R.C[j]?=some kv->kv.length<=st.kv.length:=by
 have pw:=bQ sz.pw;have ht:=hb.tbl;have r1:=hb.row1;unfold e7;cases e:st.nxt with
 |none=>
  rw[e]at ht;refine⟨_,ht,rfl,by simp,λi x hx=>?_⟩;cases i with
  |zero=>cases hx;exact⟨_,rfl,rfl,hb.row0,pw.2,λj kv h=>hb.short0 sz h⟩
  |succ j=>simp at hx
 |some m=>
  rw[e]at ht r1;refine⟨_,ht,rfl,by simp,λi x hx=>?_⟩;cases i with
  |zero=>cases hx;exact⟨_,rfl,rfl,hb.row0,pw.2,λj kv h=>hb.short0 sz h⟩
  |succ j=>
   cases j with
   |zero=>cases hx;exact⟨_,rfl,rfl,r1,(bQ (sz.nx m e).1).2,λj kv h=>hb.short1 sz e h⟩
   |succ j=>simp at hx
theorem Fv {RR:List Rw} {f:Rw->List (Int×V)} {R:Rw} (e:RR[i]?=some R):(RR.take (i+1)).flatMap f=(RR.take i).flatMap f++f R:=by
 rw[Qr,e,List.flatMap_append];simp
theorem Bx {f:Nat->List (Int×V)} {x:Nat}:(List.range (x+1)).flatMap f=(List.range x).flatMap f++f x:=by
 rw[List.range_succ,List.flatMap_append];simp
theorem CF {kv:List (Int×V)} {p:Int×V} (e:kv[i]?=some p):kv.take (i+1)=kv.take i++ [p]:=by
 rw[Qr,e];rfl
theorem o0 (T:Txt K mg t):FnOk P w K mg base CX0 3 t.iX t.eP ["self","place"] (oP K t):=by
 refine T.Cv.okl sc_Slots__lying_at λ_ _ _ s H vs Q E hr h=>?_;obtain⟨a,p,F,st,rfl,hA,p0,p1,hl4,q⟩:=h;refine⟨_,(ac (az (i:=2) sc_Slots__lying_at.nd rfl (Or.inl rfl) (aE (xB rfl) (by rfl) T.y7 rR (aa (bu (pv 0) T.aG T.wE (lZ T) hr.mo T.wK .nil aA) ah)))
   (ac (az (i:=3) sc_Slots__lying_at.nd rfl (Or.inl rfl) (bR ah))
   (ac (hZ PassesOwn.never rfl (cZ (au (pv 0) rfl)) (bF (i:=4) sc_Slots__lying_at.nd rfl (Or.inl rfl))
   (ai (hZ PassesOwn.never rfl (CN (by rfl) T.m6 (aa (aM (uF T) hr.mo (by rfl) T.Dd T.xP.kp T.DB .nil aA (aa (pv 1) (aa (pv 2) ah))) (aa (aE aD (by rfl) T.bM bg (aa (pv 4) ah)) (aa (pv 2) ah)))) (bF (i:=5) sc_Slots__lying_at.nd rfl (Or.inl rfl))
   (ai (yh (hZ PassesOwn.never rfl (zw (uC QQ Xc PySem.F.type_dict_items zG (aW aV (pv 4) (pv 5) (λ_ _=>rfl)))) (uB rfl (cO (bF (i:=6) sc_Slots__lying_at.nd rfl (Or.inl rfl)) (cO (bF (i:=7) sc_Slots__lying_at.nd rfl (Or.inl rfl)) pT)))
   (ai (aR (dG Qq QV QW dX (pv 3) (aa (bz (aa (aM (rW T) hr.mo (by rfl) T.Bp T.vC.kp T.BA .nil aA (aa (pv 6) ah)) (aa (pv 6) (aa (pv 7) ah)))) ah))))))))))
   (ai (aC (pv 3))))))
  ,?_⟩
 have z:SzOk st:=let⟨_,_,_,_,_,z⟩:=hA;z
 obtain⟨s4,s5⟩:=bQ (jo z);obtain⟨dx,fs,hi,hm⟩:=hA.ins;refine⟨_,rfl,a,dx,fs,rfl,hi,hm _ (by decide+kernel),a,F,st,rfl,hA,λH1 F1 lr sA fr nlr oF hlr=>⟨lr,st.rows,rfl,SqL.of hlr,?_,λM hM hle=>?_⟩⟩
 .unfold SSt.rows;cases st.nxt<;>simp
 have eM:=E5 hM hle;subst eM;have sB:=sA;obtain⟨d,hb,hF,hn,nd,_⟩:=sB;obtain⟨dx1,ho⟩:=hb.obj;obtain⟨xs,ht,lx,l2,look⟩:=IN hb z;have g0:0<=tz p%st.low:=Qe _ (by lia);have g1:tz p%st.low<st.low:=Qb _ (by lia);have low0:st.low>0:=by lia
 refine⟨Qj _,λl nl=>?_⟩;have y0:Ly [] H1 (upd H1 l (.lst [])) l [] []:=⟨λc o _ e=>aj nl _ _ e,ae,(λe he=>by cases he),rfl⟩;generalize upd H1 l (.lst [])=H2 at y0⊢;generalize hs:tz p%st.low=sl at g0 g1 q;refine⟨_,rfl,a,_,dx1,_,_,rfl,y0.sm _ _ (by simp) ho,T.aG,T.aX,iO,d.tb,rfl,⟨_,SqL.of (y0.sm _ _ (by simp) ht)⟩,nC (K:=K) (a:=d.tb) (xs:=xs) (λi σ H'=>∃(v4 v5 v6 v7:Option V) (ts:List Tp),σ=[some (.ref a),some (.int p),some (.int st.low),some (.ref l),v4,v5,v6,v7]/\Ly [] H1 H' l ts (((e7 st d).take i).flatMap (GT sl st.low))/\ts.length<=8192*i)
  ⟨_,_,_,_,[],rfl,y0,by simp⟩ (λi σ H' _ w=>by obtain⟨_,_,_,_,_,_,c,_⟩:=w;exact SqL.of (c.sm _ _ (by simp) ht)) (λi x σ H' hx w=>?_) (λσ H' w=>?_)⟩
 .obtain⟨v4,v5,v6,v7,ts,eσ,c,lt⟩:=w;subst eσ;obtain⟨R,rfl,hR,ro,r256,shR⟩:=look i x hx;have hr:=c.sm _ _ (by simp) ro.lst;have iL:=(Q2.mp hx).1;have lA:((R.A.map V.ref).length:Int)=R.s:=by rw[Q0];exact ro.la
  have rl:=q9 z (Q1 hR);have cnt2:∀y:Nat,y<pC sl R.s st.low->y<2:=λy hy=>by
   have:=(tJ low0).mp hy;refine Nat.lt_of_not_le λy2=>?_;have:(2:Int)*st.low<=(y:Int)*st.low:=XR (by lia) (by lia);lia
  have cn2:pC sl R.s st.low<=2:=by
   by_cases c0:pC sl R.s st.low=0
   .lia
   .have:=cnt2 (pC sl R.s st.low-1) (by lia);lia
  refine⟨_,rfl,_,rfl,p,_,rfl,p0,low0,_,rfl,R.r,_,rfl,.inl (SqL.of hr),_,rfl,_,_,_,rfl,?_,?_⟩
  .rw[hs,lA];exact⟨by lia,by lia,by lia,by lia,by lia,by lia⟩
  rw[hs,lA];generalize eL0:((e7 st d).take i).flatMap (GT sl st.low)=L0 at c;refine zU (n:=pC sl R.s st.low) (λx σ H'=>∃(v5 v6 v7:Option V) (ts:List Tp),σ=[some (.ref a),some (.int p),some (.int st.low),some (.ref l),some (.ref R.r),v5,v6,v7]/\Ly [] H1 H' l ts (L0++(List.range x).flatMap (nR R.C sl st.low))/\ts.length<=8192*i+4096*x)
   ⟨_,_,_,ts,rfl,by simpa using c,by lia⟩ (λx σ H' hx w=>?_) (λσ H' w=>?_)
  .obtain⟨v5,v6,v7,ts,eσ,c,lt⟩:=w;subst eσ;have xs2:=(tJ low0).mp hx;have x2:=cnt2 x hx;have xm:0<=(x:Int)*st.low:=X6 (by lia) (by lia);have la:=ro.la;have lc:=ro.lc;have eb:R.A[(sl+(x:Int)*st.low).toNat]?=some (R.A[(sl+(x:Int)*st.low).toNat]'(by lia)):=Q3 (by lia);have ek:R.C[(sl+(x:Int)*st.low).toNat]?=some (R.C[(sl+(x:Int)*st.low).toNat]'(by lia)):=Q3 (by lia);generalize R.A[(sl+(x:Int)*st.low).toNat]'(by lia)=b at eb;generalize R.C[(sl+(x:Int)*st.low).toNat]'(by lia)=kv at ek;have hbb:=ro.cell _ _ _ eb ek;have kvl:=shR _ _ ek;have hb2:=c.sm _ _ (by simp) hbb;have hr2:=c.sm _ _ (by simp) ro.lst;have bl:b≠l:=λz=>by rw[z,nl]at hbb;cases hbb
   refine⟨b,aJ kv,hb2,_,rfl,_,rfl,R.r,_,_,_,rfl,rfl,SqL.of hr2,uU (by lia) eb,.inr (.inr (.inl ⟨rfl,.inl ⟨_,hb2⟩⟩)),b,aJ kv,rfl,rfl,hb2,λvw nv=>?_⟩;have hc1:upd H' vw (vwO vw b) b=some (.dK (aJ kv)):=by rw[af (al hb2 nv)];exact hb2
   refine⟨vw,b,aJ kv,rfl,ae,hc1,λob=>?_⟩;have cF:=(c.same (aj (o:=vwO vw b) nv)).freeze (o':= .frz ob (.dK (aJ kv))) hbb bl;generalize eL1:L0++(List.range x).flatMap (nR R.C sl st.low)=L1 at cF;refine va (λy σ H''=>∃(v6 v7:Option V) (ts:List Tp),σ=[some (.ref a),some (.int p),some (.int st.low),some (.ref l),some (.ref R.r),some (.int (sl+(x:Int)*st.low)),v6,v7]/\Ly [b] H1 H'' l ts (L1++kv.take y)/\H'' b=some (.frz ob (.dK (aJ kv)))/\ts.length<=8192*i+4096*x+y)
    ⟨_,_,ts,rfl,by simpa using cF,ae,by lia⟩ (λy σ H'' _ w=>by obtain⟨_,_,_,_,_,hf,_⟩:=w;exact hf) (λy k v p' σ H'' ei w np=>?_) (λσ H'' w=>?_)
   .obtain⟨v6,v7,ts,eσ,c,hf,lt⟩:=w;subst eσ;obtain⟨n,rfl,en⟩:=xl ei;have yl:=(Q2.mp en).1;refine⟨p',_,rfl,SqT.of ae,rfl,_,_,rfl,_,_,rfl,rfl,?_⟩;have c3:=c.same (aj (o:= .tup [kV (Sum.inl n),v]) np);have hf3:=aj (o:= .tup [kV (Sum.inl n),v]) np _ _ hf;generalize upd H'' p' (.tup [kV (Sum.inl n),v])=H3 at c3 hf3⊢;refine⟨_,rfl,.inl ⟨rfl,_,SqL.of c3.li⟩,_,rfl,n,rfl,_,rfl,_,rfl,(by show 3<=sizeLine;decide),λp2 np2=>?_⟩;have s4:Same H3 (upd H3 p2 (.tup [.int (tz (n%65536)),kV (Sum.inl n),v])):=aj np2;have e4:upd H3 p2 (.tup [.int (tz (n%65536)),kV (Sum.inl n),v]) p2=some (.tup [.int (plc n),.int n,v]):=ae;generalize upd H3 p2 (.tup [.int (tz (n%65536)),kV (Sum.inl n),v])=H4 at s4 e4⊢;refine⟨l,_,_,rfl,rfl,s4 _ _ c3.li,bq (by rw[Q0];lia),?_⟩;refine⟨_,_,ts++ [⟨p2,n,v⟩],rfl,?_,?_,?_⟩
    .rw[CF en,<-Ql];exact c3.add s4 np2 nl (λc hc=>by rw[Q7.mp hc];exact⟨_,hbb,_,hf3⟩) e4
    .rw[af bl];exact s4 _ _ hf3
    .rw[Qa,Z4];lia
   .obtain⟨v6,v7,ts,eσ,c,hf,lt⟩:=w;subst eσ;rw[cq,QF]at c;rw[cq]at lt;refine⟨ob,hf,_,_,_,ts,rfl,?_,by lia⟩;rw[Bx,<-Ql,show nR R.C sl st.low x=kv by unfold nR;rw[Qm,ek];rfl];rw[eL1];exact c.thaw hbb bl
  .obtain⟨v5,v6,v7,ts,eσ,c,lt⟩:=w;subst eσ;exact⟨_,_,_,_,ts,rfl,by rw[Fv hR,eL0];exact c,by lia⟩
 .obtain⟨v4,v5,v6,v7,ts,eσ,c,lt⟩:=w;subst eσ;rw[lx,QF]at c;have e:=c.eq;have sm:Same H1 H':=λb o e=>c.sm b o (by simp) e;refine⟨_,rfl,q H' F1 l ts (sA.same sm) (fr.trans (Fr.of_same sm)) (sA.out nl) c.li (λe he=>⟨(c.tu e he).1,sA.out (c.tu e he).2⟩) (λk v=>?_) ?_⟩
  .rw[e];exact Hd hb z nd g0 g1 k v
  .rw[e];exact CW hb z g0
theorem yd {S p:Int} {a b:Nat} (R:Row S a b) (h0:0<=p) (h1:p<65536) (hS:S<=65536):k%65536%S=tz p%S↔plc k/(65536/S)=p/(65536/S):=by
 have wp:=R.wpos';have e1:=xU R h0 h1;have k0:0<=k%65536:=Qe _ (by decide);have k1:k%65536<65536:=Qb _ (by decide);have e2:=xU R (p:=plc k) (qJ _) (HV _);rw[show tz (plc k)=k%65536 from BN k0 k1]at e2;have x0:=R.mod0 (k%65536);have x1:=R.mod1 (k%65536);have y0:=R.mod0 (tz p);have y1:=R.mod1 (tz p);constructor
 .intro e;rw[e,e1]at e2;have:=Int.eq_of_mul_eq_mul_right (QR wp) e2;lia
 .intro e;rw[e,<-e1]at e2;exact IJ x0 (by lia) y0 (by lia) (by lia)
theorem Jb (k:Int):0<=plc k/\plc k<65536:=⟨qJ _,HV _⟩
theorem yj {f:α->β}:∀{ts:List α} {l:List β},l.Perm (ts.map f)->∃us:List α,us.Perm ts/\us.map f=l:=by
 intro ts l h;generalize e:ts.map f=m at h
 induction h generalizing ts with
 |nil=>exact⟨[],by rw[List.map_eq_nil_iff.mp e],rfl⟩
 |cons x _ ih=>
  cases ts with
  |nil=>cases e
  |cons y ts=>
   rw[Qs]at e;injection e with e1 e2;obtain⟨us,h1,h2⟩:=ih e2;exact⟨y::us,h1.cons y,by rw[Qs,h2,e1]⟩
 |swap x y l=>
  cases ts with
  |nil=>cases e
  |cons a ts=>
   cases ts with
   |nil=>cases e
   |cons b ts=>
    rw[Qs,Qs]at e;injection e with e1 e2;injection e2 with e2 e3;exact⟨b::a::ts,List.Perm.swap a b ts,by rw[Qs,Qs,e1,e2,e3]⟩
 |trans _ _ ih1 ih2=>
  obtain⟨us,h1,h2⟩:=ih2 e;obtain⟨ws,h3,h4⟩:=ih1 h2;exact⟨ws,h3.trans h1,h4⟩
def rf (x y:Int×V):Prop:=plc x.1<plc y.1\/(plc x.1=plc y.1/\x.1<y.1)
def tX (K:PySem.W.Frag) (t:Adr):Sp:=λvs H Q _=>∃(a:Addr) (lo hi:Int) (F:Addr->Prop) (st:SSt),vs=[.ref a,.int lo,.int hi]/\SlA K t H a F st/\st.kv.length<4096/\(∀p∈st.kv,∃i:Int,p.2= .int i)/\
 ∀(H':Hp) (F':Addr->Prop) (l:Addr) (ts:List Tp),SlA K t H' a F' st->Fr F F' H H'->¬F' l->(¬F l->H l=none)->H' l=some (.lst (ts.map λe=>V.ref e.p))->(∀e∈ts,H' e.p=some (.tup [.int e.k,e.v])/\¬F' e.p)->
  (ts.map Tp.kv).Pairwise rf->(∀k v,(k,v)∈ts.map Tp.kv↔(k,v)∈st.kv/\lo<=plc k/\plc k<hi)->Q (.ref l) H'
theorem Ch {x q:Int} (h:0<W):x/W=q↔q*W<=x/\x<(q+1)*W:=by
 constructor
 .rintro rfl;exact⟨Int.ediv_mul_le x (QR h),X1 x h⟩
 .rintro ⟨h1,h2⟩;have a:=(Int.le_ediv_iff_mul_le h).mpr h1;have b:=(Int.ediv_lt_iff_lt_mul h).mpr h2;lia
def ky3 (H:Hp) (b:Addr):List Int:=match H b with
 |some (.tup [.int i,.int j,.int m])=> [i,j,m]
 |_=> []
theorem Bq {i j:Int} (h:H b=some (.tup [.int i,.int j,.int m])):ky3 H b=[i,j,m]:=by
 unfold ky3;rw[h]
theorem none_of {H2:Hp} (s:Same H H2) (n:H2 p=none):H p=none:=by
 cases e:H p with
 |none=>rfl
 |some o=>rw[s _ _ e]at n;cases n
theorem qe (f:Fr F F' H H') (n:¬F b) (e:H' b=none):H b=none:=by
 cases q:H b with
 |none=>rfl
 |some o=>rw[(f _ _ n q).1]at e;cases e
theorem Fr.upd_new (f:Fr F F' H H') (n:¬F b->H b=none):Fr F F' H (upd H' b o):=λc u nc e=>⟨by rw[af λz=>by rw[z]at nc e;rw[n nc]at e;cases e];exact(f c u nc e).1,(f c u nc e).2⟩
theorem Ex {n:Nat} (hv:(ts.map λe=>V.ref e.p)[n]?=some v):∃e:Tp,v= .ref e.p/\ts[n]?=some e:=by
 rw[Qn]at hv;cases q':ts[n]? with
 |none=>rw[q']at hv;cases hv
 |some e=>rw[q']at hv;cases hv;exact⟨e,rfl,rfl⟩
structure SpI (K:PySem.W.Frag) (t:Adr) (H H':Hp) (a l:Addr) (F F':Addr->Prop) (st:SSt) (ts:List Tp) (b0 c:Int):Prop where
 sl:SlA K t H' a F' st
 fr:Fr F F' H H'
 ol:¬F' l
 li:H' l=some (.lst (ts.map λe=>V.ref e.p))
 tu:∀e∈ts,H' e.p=some (.tup [.int (plc e.k),.int e.k,e.v])/\¬F' e.p
 me:∀k v,(k,v)∈ts.map Tp.kv↔(k,v)∈st.kv/\b0<=plc k/\plc k<c
 nd:((ts.map Tp.kv).map (·.1)).Nodup
section
variable {H1:Hp} {l l1:Addr} {F1:Addr->Prop} {ts1:List Tp} {b0 c:Int}
theorem SpI.len (h:SpI K t H H' a l F F' st ts b0 c):ts.length<=st.kv.length:=by
 have:=io h.nd (S:=st.kv.map (·.1)) λx hx=>by
  obtain⟨p,hp,rfl⟩:=Qh.mp hx;exact Z0 ((h.me p.1 p.2).mp hp).1
 simpa using this
theorem SpI.move (h:SpI K t H H' a l F F' st ts b0 c) (s1:SlA K t H1 a F1 st) (f1:Fr F' F1 H' H1):SpI K t H H1 a l F F1 st ts b0 c:=
 ⟨s1,h.fr.trans f1,(f1 _ _ h.ol h.li).2,(f1 _ _ h.ol h.li).1,λe he=>f1 _ _ (h.tu e he).2 (h.tu e he).1,h.me,h.nd⟩
theorem SpI.step {r:Int} (h:SpI K t H H' a l F F' st ts b0 (r/W*W)) (nl:H l=none) (W0:0<W) (hb:b0<=r/W*W) (s1:SlA K t H1 a F1 st) (f1:Fr F' F1 H' H1) (u1:∀e∈ts1,H1 e.p=some (.tup [.int (plc e.k),.int e.k,e.v])/\¬F1 e.p)
  (m1:∀k v,(k,v)∈ts1.map Tp.kv↔(k,v)∈st.kv/\plc k/W=r/W) (n1:((ts1.map Tp.kv).map (·.1)).Nodup):
  SpI K t H (upd H1 l (.lst (ts.map (λe=>V.ref e.p)++ts1.map (λe=>V.ref e.p)))) a l F F1 st (ts++ts1) b0 ((r/W+1)*W):=by
 obtain⟨l1,ol1⟩:=f1 _ _ h.ol h.li;have e1:(r/W+1)*W=r/W*W+W:=by rw[Int.add_mul,Int.one_mul]
 have nel:∀{p:Addr} {xs:List V},H1 p=some (.tup xs)->p≠l:=λ{p xs} e z=>by rw[z,l1]at e;cases e
 refine⟨s1.upd ol1,λb o n e=>?_,ol1,by rw[ae,Qc],λe he=>?_,λk v=>?_,?_⟩
 .obtain⟨g1,g2⟩:=(h.fr.trans f1) b o n e;exact⟨by rw[af λz=>by rw[z,nl]at e;cases e];exact g1,g2⟩
 .rcases Q5.mp he with he|he
  .obtain⟨g1,g2⟩:=h.tu e he;obtain⟨g3,g4⟩:=f1 _ _ g2 g1;exact⟨by rw[af (nel g3)];exact g3,g4⟩
  .obtain⟨g3,g4⟩:=u1 e he;exact⟨by rw[af (nel g3)];exact g3,g4⟩
 .rw[Qc,Q5,h.me,m1,Ch W0,e1];constructor
  .rintro (⟨x,y,z⟩|⟨x,y,z⟩)
   .exact⟨x,y,by lia⟩
   .exact⟨x,by lia,z⟩
  .rintro ⟨x,y,z⟩;by_cases d:plc k<r/W*W
   .exact .inl ⟨x,y,d⟩
   .exact .inr ⟨x,by lia,z⟩
 .rw[Qc,Qc];refine XJ.mpr ⟨h.nd,n1,λx hx y hy e=>?_⟩;obtain⟨p,hp,rfl⟩:=Qh.mp hx;obtain⟨q,hq,rfl⟩:=Qh.mp hy;have g1:=(h.me p.1 p.2).mp hp;have g2:=(Ch W0).mp ((m1 q.1 q.2).mp hq).2;rw[e]at g1;lia
end
theorem Ki {fs us:List Tp} (up:us.Perm fs) (t3:∀e∈fs,∃i:Int,H e.p=some (.tup [.int (plc e.k),.int e.k,.int i])) (nd:(fs.map (·.k)).Nodup) (pw:(us.map (·.p)).Pairwise (λa b=>HT.lexLt (ky3 H b) (ky3 H a)=false)):(us.map Tp.kv).Pairwise rf:=by
 have nk:us.Pairwise (λe f=>e.k≠f.k):=(up.pairwise_iff (λh=>h.symm)).mpr (QO.mp nd);refine QO.mpr (((QO.mp pw).and nk).imp_of_mem λ{e f} he hf h=>?_);obtain⟨i,te⟩:=t3 e (up.mem_iff.mp he);obtain⟨j,tf⟩:=t3 f (up.mem_iff.mp hf);obtain⟨h1,h2⟩:=h;rw[Bq te,Bq tf,HT.lexLt_cons,HT.lexLt_cons]at h1;show plc e.k<plc f.k\/(plc e.k=plc f.k/\e.k<f.k);by_cases c1:plc f.k=plc e.k
 .rw[if_pos c1,if_neg (Ne.symm h2)]at h1;have:=of_decide_eq_false h1;lia
 .rw[if_neg c1]at h1;have:=of_decide_eq_false h1;lia
theorem uH (T:Txt K mg t):FnOk P w K mg base CX0 4 t.oy t.jr ["self","low","high"] (tX K t):=by
 obtain⟨tk_PLACES,hPLACES⟩:=T.g_PLACES;refine T.Gv.okl sc_Slots__span λ_ _ _ s H vs Q E hr h=>?_;obtain⟨a,lo,hi,F,st,rfl,hA,hl4,hint,q⟩:=h;refine⟨_,(ac (az (i:=3) sc_Slots__span.nd rfl (Or.inl rfl) (bR ah))
   (ac (az (i:=4) sc_Slots__span.nd rfl (Or.inl rfl) (aE (nJ rfl) (by rfl) T.D5 yK (aa (pv 1) (aa ag ah))))
   (ac (az (i:=5) sc_Slots__span.nd rfl (Or.inl rfl) (aE (nI rfl) (by rfl) T.y7 rR (aa (pv 2) (aa (cy (v:= .int 65536) (by rfl) hPLACES ⟨_,rfl⟩) ah))))
   (ac (lV PassesOwn.never (aq dW (pv 4) (pv 5) (ar _))
   (ac (aR (dG Qq ZH ZI ni (pv 3) (aa (aQ (pv 0) T.aG T.BZ (o0 T) hr.mo T.Cq .nil aA (aa (pv 4) ah)) ah)))
   (ai (az (i:=4) sc_Slots__span.nd rfl (Or.inl rfl) (aQ (pv 0) T.aG T.wD (lY T) hr.mo T.wJ .nil aA (aa (pv 4) ah))))))
   (ac (az (i:=6) sc_Slots__span.nd rfl (Or.inl rfl) (aE wH (by rfl) T.D4 xC (aa (pW rfl (CScope.of (M:=["one"]) (N:=["self","low","high","found","reached","end","inside"]) (N':=["self","low","high","found","reached","end","inside"]) (dsc:=ak dF) rfl rfl (by decide+kernel)) (cZ (pv 3)) (λ_ _ _ _ _=>(Ez lW dW (pv 2) (aW (tK K rfl) (pv 0) ag (λ_ _=>rfl)) (pv 3))) (λ_ _ _ _ _=>(pv 0))) ah)))
   (ai (aC (iT rfl (CScope.of (M:=["one"]) (N:=["self","low","high","found","reached","end","inside"]) (N':=["self","low","high","found","reached","end","inside"]) (dsc:=ak dF) rfl rfl (by decide+kernel)) (cZ (pv 6)) (λ_ _ _ _ _=>(bz (aa (aW (tK K rfl) (pv 0) ag (λ_ _=>rfl)) (aa (aW (tK K rfl) (pv 0) ag (λ_ _=>rfl)) ah))))))))))))
  ,?_⟩
 have z:SzOk st:=let⟨_,_,_,_,_,z⟩:=hA;z
 obtain⟨s4,s5⟩:=bQ (jo z);obtain⟨x,y,R⟩:=yg (jo z);have W0:=R.wpos';have strt:∀{p k:Int},0<=p->p<65536->(k%65536%st.low=tz p%st.low↔plc k/(65536/st.low)=p/(65536/st.low)):=λh0 h1=>yd R h0 h1 (by lia);refine⟨Qj _,λl nl=>?_⟩;refine⟨_,rfl,_,_,rfl,_,rfl,_,_,rfl,?_⟩;have r1:0<=(if(0:Int)>lo then 0 else lo)/\lo<=(if(0:Int)>lo then 0 else lo)/\((if(0:Int)>lo then 0 else lo)=0\/(if(0:Int)>lo then 0 else lo)=lo):=by split<;>lia
 have r2:(if(65536:Int)<hi then 65536 else hi)<=65536/\((if(65536:Int)<hi then 65536 else hi)=65536\/(if(65536:Int)<hi then 65536 else hi)=hi):=by split<;>lia
 dsimp only;generalize (if(0:Int)>lo then 0 else lo)=r0 at r1⊢;generalize (if(65536:Int)<hi then 65536 else hi)=e0 at r2⊢;generalize eW:65536/st.low=W at W0 strt;have I0:SpI K t H (upd H l (.lst [])) a l F F st [] (r0/W*W) (r0/W*W):=⟨hA.new nl,Fr.of_same (aj nl),hA.out nl,ae,(λe he=>by cases he),(λk v=>⟨λh=>by(cases h),λh=>by lia⟩),Zj⟩;generalize upd H l (.lst [])=H1 at I0⊢;refine⟨λm σ H'=>∃(r:Int) (F':Addr->Prop) (ts:List Tp),m=(e0-r).toNat/\σ=[some (.ref a),some (.int lo),some (.int hi),some (.ref l),some (.int r),some (.int e0),none]/\SpI K t H H' a l F F' st ts (r0/W*W) (r/W*W)/\r0<=r/\(r=r0\/r/W*W=r),⟨_,r0,F,[],rfl,rfl,I0,Zu _,.inl rfl⟩,λm σ H' w=>?_⟩;obtain⟨r,F',ts,rfl,eσ,I,rr,rm⟩:=w;subst eσ;refine⟨_,rfl,_,rfl,_,_,rfl,rfl,_,rfl,bJ (λc=>?_) (λc=>?_)⟩
 .have c:=of_decide_eq_true c;obtain⟨dx,fs,hins,hm⟩:=I.sl.ins;refine⟨λσ' H2=>∃(r':Int) (F2:Addr->Prop) (ts2:List Tp),r<r'/\σ'=[some (.ref a),some (.int lo),some (.int hi),some (.ref l),some (.int r'),some (.int e0),none]/\SpI K t H H2 a l F F2 st ts2 (r0/W*W) (r'/W*W)/\r'/W*W=r',λσ' H2 w=>?_,?_⟩
  .obtain⟨r',F2,ts2,lt,e,I2,g⟩:=w;exact⟨_,by lia,r',F2,ts2,rfl,e,I2,by lia,.inr g⟩
  refine⟨_,rfl,.inl ⟨rfl,_,SqL.of I.li⟩,_,rfl,a,dx,fs,rfl,hins,hm _ (by decide+kernel),_,rfl,a,r,F',st,rfl,I.sl,by lia,by lia,hl4,λH2 F2 l1 ts1 s2 f2 o2 e2 u2 m2 n2=>?_⟩;have hb0:r0/W*W<=r/W*W:=XR (Int.ediv_le_ediv W0 rr) (by lia);have I2:=I.step nl W0 hb0 s2 f2 u2 (λk v=>by rw[m2,strt (by lia) (by lia)]) n2;have ln:=I2.len;rw[Qa]at ln;refine⟨l,l1,_,_,rfl,rfl,(f2 _ _ I.ol I.li).1,e2,by rw[Q0,Q0];exact Zq (bq (by lia)),?_⟩;generalize upd H2 l (.lst (ts.map (λe=>V.ref e.p)++ts1.map (λe=>V.ref e.p)))=H3 at I2⊢;obtain⟨dx2,fs2,hins2,hm2⟩:=I2.sl.ins;refine⟨_,rfl,a,dx2,fs2,rfl,hins2,hm2 _ (by decide+kernel),_,rfl,a,r,F2,st,rfl,I2.sl,by lia,by lia,λH4 F4 s4 f4=>?_⟩;rw[eW];have ed:(r/W+1)*W/W*W=(r/W+1)*W:=by rw[Int.mul_ediv_cancel _ (QR W0)]
  exact⟨(r/W+1)*W,F4,ts++ts1,X1 r W0,rfl,by rw[ed];exact I2.move s4 f4,ed⟩
 .have c:¬r<e0:=λy=>c (decide_eq_true y);have hl:=I.li;have ln:=I.len;refine⟨_,rfl,l,rfl,⟨_,SqL.of hl⟩,λD hD=>?_⟩;refine kP (K:=K) (a:=l) (xs:=ts.map λe=>V.ref e.p) (λn ys H3=>H3=upd H' D (.lst ys)/\ys=((ts.take n).filter λe=>decide (lo<=plc e.k)&&decide (plc e.k<hi)).map (λe=>V.ref e.p)) ⟨rfl,rfl⟩
   (λn ys H3 _ w=>SqL.of (by rw[w.1,af (al hl hD)];exact hl)) (λn v ys H3 hv w hDD=>?_) (λys H3 w hDD=>?_)
  .obtain⟨e1,e2⟩:=w;have hn:=(Q2.mp hv).1;obtain⟨e,rfl,ee⟩:=Ex hv;have te:=(I.tu e (Q1 ee)).1;have te3:H3 e.p=some (.tup [.int (plc e.k),.int e.k,e.v]):=by rw[e1,af (al te hD)];exact te
   have yl:ys.length<=ts.length:=by
    rw[e2,Q0];have h1:=Qo (λe:Tp=>decide (lo<=plc e.k)&&decide (plc e.k<hi)) (ts.take n);have h2:(ts.take n).length<=ts.length:=by rw[Q8];lia
    lia
   refine⟨_,rfl,_,rfl,e.p,_,_,_,rfl,rfl,SqT.of te3,rfl,_,_,rfl,rfl,_,rfl,?_⟩;by_cases c1:lo<=plc e.k
   .refine lq c1 ⟨_,rfl,_,_,rfl,rfl,_,rfl,?_⟩;by_cases c2:plc e.k<hi
    .refine lq c2 ⟨_,rfl,CNext.mk hn hDD (bq (by lia)) ⟨by rw[e1,bE],?_⟩⟩;rw[e2,Qr,ee,QB,Qc];simp[c1,c2]
    .refine bc c2 (CSkip.mk hn hDD ⟨e1,?_⟩);rw[e2,Qr,ee,QB];simp[c1,c2]
   .refine bc c1 ⟨_,rfl,cI (CSkip.mk hn hDD ⟨e1,?_⟩)⟩;rw[e2,Qr,ee,QB];simp[c1]
  .obtain⟨e1,e2⟩:=w;rw[Q0,QF]at e2;have s3:Same H' H3:=by rw[e1];exact aj hD
   have fsub:(ts.filter λe=>decide (lo<=plc e.k)&&decide (plc e.k<hi)).Sublist ts:=List.filter_sublist;have fm:∀e,e∈(ts.filter λe=>decide (lo<=plc e.k)&&decide (plc e.k<hi))↔e∈ts/\lo<=plc e.k/\plc e.k<hi:=λe=>by
    rw[QH,QK,decide_eq_true_eq,decide_eq_true_eq]
   generalize (ts.filter λe=>decide (lo<=plc e.k)&&decide (plc e.k<hi))=fs at e2 fsub fm;have kvm:∀e∈fs,(e.k,e.v)∈st.kv:=λe he=>((I.me e.k e.v).mp (Z0 (f:=Tp.kv) ((fm e).mp he).1)).1;have t3:∀e∈fs,∃i:Int,e.v= .int i/\H3 e.p=some (.tup [.int (plc e.k),.int e.k,.int i]):=λe he=>by
    obtain⟨i,ei⟩:=hint _ (kvm e he);have te:=s3 _ _ (I.tu e ((fm e).mp he).1).1;have ei:e.v= .int i:=ei;rw[ei]at te;exact⟨i,ei,te⟩
   refine⟨D,fs.map (·.p),ky3 H3,rfl,SqL.of (by rw[hDD,e2,Qu];rfl),λb hb=>?_,λl2 bs nl2 pm pw=>?_⟩
   .obtain⟨e,he,rfl⟩:=Qh.mp hb;obtain⟨i,_,te⟩:=t3 e he;exact⟨_,_,_,te,Bq te⟩
   obtain⟨us,up,ue⟩:=yj pm;subst ue;have um:∀e,e∈us↔e∈fs:=λe=>up.mem_iff;have nk:(fs.map (·.k)).Nodup:=by
    have h0:=I.nd;rw[Qu]at h0;exact h0.sublist (fsub.map _)
   have sorted:=Ki up (λe he=>(t3 e he).imp λ_ h=>h.2) nk pw;have whole:∀k v,(k,v)∈us.map Tp.kv↔(k,v)∈st.kv/\lo<=plc k/\plc k<hi:=λk v=>by
    constructor
    .intro h;obtain⟨e,he,ee⟩:=Qh.mp h;cases ee;have he:=(um e).mp he;exact⟨kvm e he,((fm e).mp he).2⟩
    .rintro ⟨h1,h2,h3⟩;have pb:=Jb k;have b1:=Int.ediv_mul_le r0 (QR W0);have h4:(k,v)∈ts.map Tp.kv:=(I.me k v).mpr ⟨h1,by lia,by lia⟩;obtain⟨e,he,ee⟩:=Qh.mp h4;cases ee;exact Qh.mpr ⟨e,(um e).mpr ((fm e).mpr ⟨he,h2,h3⟩),rfl⟩
   have ul:us.length<=ts.length:=by rw[up.length_eq];exact fsub.length_le
   have e8:upd H3 l2 (.lst ((us.map (·.p)).map V.ref)) l2=some (.lst (us.map λe=>V.ref e.p)):=by rw[ae,Qu];rfl
   have s8:Same H' (upd H3 l2 (.lst ((us.map (·.p)).map V.ref))):=s3.trans (aj nl2);have t8:∀e∈us,upd H3 l2 (.lst ((us.map (·.p)).map V.ref)) e.p=some (.tup [.int (plc e.k),.int e.k,e.v]):=λe he=>s8 _ _ (I.tu e ((fm e).mp ((um e).mp he)).1).1;generalize upd H3 l2 (.lst ((us.map (·.p)).map V.ref))=H8 at e8 s8 t8⊢;refine⟨_,rfl,l2,rfl,⟨_,SqL.of e8⟩,λD2 hD2=>?_⟩;refine jP (K:=K) (a:=l2) (xs:=us.map λe=>V.ref e.p) (λn ys H9=>Same H8 H9/\∃ws:List Tp,ys=ws.map (λe=>V.ref e.p)/\ws.map Tp.kv=(us.take n).map Tp.kv/\∀e∈ws,e.p≠D2/\H8 e.p=none/\H9 e.p=some (.tup [.int e.k,e.v]))
    ⟨aj hD2,[],rfl,rfl,λe he=>by cases he⟩ (λn ys H9 _ w=>SqL.of (w.1 _ _ e8)) (λn v ys H9 hv w hDD2=>?_) (λys H9 w hDD2=>?_)
   .obtain⟨s9,ws,ey,ek,ew⟩:=w;have hn:=(Q2.mp hv).1;obtain⟨e,rfl,ee⟩:=Ex hv;have te:=s9 _ _ (t8 e (Q1 ee));refine⟨_,rfl,e.p,_,_,_,rfl,rfl,SqT.of te,rfl,_,rfl,e.p,_,_,_,rfl,rfl,SqT.of te,rfl,(by show 2<=sizeLine;decide),λp2 np2=>?_⟩;have pd:p2≠D2:=λz=>by rw[z,hDD2]at np2;cases np2
    have wl:ws.length<=us.length:=by
     have:=congrArg List.length ek;rw[Q0,Q0,Q8]at this;lia
    refine CNext.mk hn (by rw[af pd.symm];exact hDD2) (bq (by rw[ey,Q0];lia)) ⟨bN (s9.trans (aj np2)) hD2,ws++ [⟨p2,e.k,e.v⟩],by rw[ey,Qc];rfl,?_,λf hf=>?_⟩
    .rw[Qc,ek,Qr,ee,Qc];rfl
    .rcases Q5.mp hf with hf|hf
     .obtain⟨g1,g2,g3⟩:=ew f hf;exact⟨g1,g2,by rw[af g1];exact aj np2 _ _ g3⟩
     .rw[Q7.mp hf];exact⟨pd,none_of s9 np2,by rw[af pd];exact ae⟩
   .obtain⟨s9,ws,ey,ek,ew⟩:=w;rw[Q0,QF]at ek;have sm:=s8.trans s9;refine q H9 F' D2 ws (I.sl.same sm) (I.fr.trans (Fr.of_same sm)) (I.sl.out (none_of s8 hD2)) (λnF=>qe (I.fr.trans (Fr.of_same s8)) nF hD2) (by rw[hDD2,ey]) (λe he=>?_) (by rw[ek];exact sorted) (by rw[ek];exact whole);obtain⟨_,g2,g3⟩:=ew e he;exact⟨g3,I.sl.out (none_of s8 g2)⟩
theorem fN (e:A[j]?=some c):atI (A.map V.ref) (j:Int)=some (.ref c):=by
 refine tO ?_;rw[Qn,e];rfl
theorem Ct (ne:x≠[]) (e:x[x.length-1]?=some m):atI (x.map V.int) (-1)=some (.int m):=by
 have hl:=QZ.mpr ne;unfold atI ixN;rw[Q0,if_neg (by decide),if_pos (by lia)];show(x.map V.int)[((-1:Int)+(x.length:Int)).toNat]?=_;have:((-1:Int)+(x.length:Int)).toNat=x.length-1:=by lia
 rw[this,Qn,e];rfl
theorem Cb (h:i<A.length):ixN (A.map V.ref).length (i:Int)=some i:=by
 unfold ixN;rw[if_pos (by lia),if_pos (by rw[Q0];lia)];rfl
theorem pj:∀(A:List Addr) (i:Nat),(A.map V.ref).eraseIdx i=(A.eraseIdx i).map V.ref
 | [],_=>rfl
 |_::_,0=>rfl
 |a::r,i+1=>by
  show V.ref a::(r.map V.ref).eraseIdx i=V.ref a::(r.eraseIdx i).map V.ref;rw[pj r i]
theorem xu:∀(ls:List (List Int)) (i:Nat) (y:List Int),(ls.set i y).eraseIdx i=ls.eraseIdx i
 | [],_,_=>rfl
 |_::_,0,_=>rfl
 |x::r,i+1,y=>by
  show x::(r.set i y).eraseIdx i=x::r.eraseIdx i;rw[xu r i y]
def ID (a:Addr) (k:Int) (ls:List (List Int)) (H:Hp):Nat->St->Hp->Prop:=λm σ H'=>∃(lo hi:Nat) (v4:Option V),m=hi-lo/\H'=H/\σ=[some (.ref a),some (.int k),some (.int (lo:Int)),some (.int (hi:Int)),v4]/\lo<=hi/\hi<=ls.length/\
 (∀(j:Nat) (x:List Int),j<lo->ls[j]?=some x->∀y∈x,y<k)/\∀(j:Nat) (x:List Int),hi<=j->ls[j]?=some x->∃y∈x,k<=y
def oQ (t:Adr):Sp:=λvs H Q _=>∃(a:Addr) (k:Int) (L:Addr) (A:List Addr) (ls:List (List Int)),vs=[.ref a,.int k]/\LvB t H a L A ls/\(∀l∈ls,l≠[])/\cJ ls.flatten/\∀i:Nat,LeafOf ls k i->Q (.int (i:Int)) H
theorem bS (T:Txt K mg t):FnOk P w K mg base CX0 1 t.iY t.eQ ["self","key"] (oQ t):=by
 refine T.Cw.okl sc_Leaves__leaf_of λ_ _ _ s H vs Q E hr h=>?_;obtain⟨a,k,L,A,ls,rfl,hb,ne,up,q⟩:=h;refine⟨_,(ac (az (i:=2) sc_Leaves__leaf_of.nd rfl (Or.inl rfl) ag)
   (ac (az (i:=3) sc_Leaves__leaf_of.nd rfl (Or.inl rfl) (aE aD (by rfl) T.bM bg (aa (au (pv 0) rfl) ah)))
   (ac (lV PassesOwn.never (aq dW (pv 2) (pv 3) (ar _))
   (ac (az (i:=4) sc_Leaves__leaf_of.nd rfl (Or.inl rfl) (am aS (am bn (pv 2) (pv 3)) ag))
   (ai (aU (aq dW (aW aV (aW aV (au (pv 0) rfl) (pv 4) (λ_ _=>rfl)) (ED AG ag) (λ_ _=>rfl)) (pv 1) (ar _))
   (ai (az (i:=2) sc_Leaves__leaf_of.nd rfl (Or.inl rfl) (am bn (pv 4) ag)))
   (ai (az (i:=3) sc_Leaves__leaf_of.nd rfl (Or.inl rfl) (pv 4)))))))
   (ai (aC (pv 2))))))
  ,?_⟩
 obtain⟨dx,ho⟩:=hb.obj;have lA:((A.map V.ref).length:Int)=(ls.length:Int):=by rw[Q0,hb.len]
 refine⟨_,rfl,a,_,dx,_,_,rfl,ho,T.aL,T.aB,cG,L,_,rfl,.inl (SqL.of hb.lst),?_⟩;dsimp only;rw[lA];refine⟨ID a k ls H,⟨_,0,ls.length,none,rfl,rfl,rfl,Qj _,Q4 _,λj x h=>absurd h (by lia),λj x h e=>?_⟩,?_⟩
 .have:=(Q2.mp e).1;lia
 rintro m σ H' ⟨lo,hi,v4,rfl,rfl,rfl,h1,h2,h3,h4⟩;refine⟨_,rfl,_,rfl,_,_,rfl,rfl,_,rfl,bJ (λc=>?_) (λc=>?_)⟩
 .have c:lo<hi:=by have:=of_decide_eq_true c;lia
  refine⟨λσ' H''=>∃m',m'<hi-lo/\ID a k ls H' m' σ' H'',λ_ _ h=>h,?_⟩;refine⟨_,rfl,_,rfl,_,_,rfl,rfl,_,_,rfl,rfl,⟨by decide,by decide⟩,?_⟩;obtain⟨mid,em,m1,m2⟩:∃mid:Nat,((lo:Int)+(hi:Int))/2=(mid:Int)/\lo<=mid/\mid<hi:=⟨(lo+hi)/2,by lia,by lia,by lia⟩;dsimp only;rw[em];have hm:mid<ls.length:=by lia
  have ex:ls[mid]?=some ls[mid]:=Q3 hm;obtain⟨b,eb,hbb⟩:=hb.at ex;have nex:=ne _ (Zh hm);obtain⟨g,eg,gm,gmax⟩:=Fb (GU up ex) nex;refine⟨_,rfl,a,_,dx,_,_,rfl,ho,T.aL,T.aB,cG,_,rfl,L,_,_,_,rfl,rfl,SqL.of hb.lst,fN eb,_,rfl,b,_,_,_,rfl,rfl,SqL.of hbb,Ct nex eg,_,rfl,_,_,rfl,rfl,_,rfl,bJ (λc2=>?_) (λc2=>?_)⟩
  .have c2:=of_decide_eq_true c2;refine⟨_,rfl,_,_,rfl,rfl,hi-(mid+1),by lia,mid+1,hi,_,rfl,rfl,rfl,by lia,h2,λj x hj e y hy=>?_,h4⟩;rcases(show j<mid\/j=mid by lia)with h|h
   .have:=wY up e ex h y hy g gm;lia
   .subst h;rw[ex]at e;cases e;have:=gmax y hy;lia
  .have c2:¬g<k:=λz=>c2 (decide_eq_true z);refine⟨_,rfl,mid-lo,by lia,lo,mid,_,rfl,rfl,rfl,by lia,by lia,h3,λj x hj e=>?_⟩;rcases(show j=mid\/mid<j by lia)with h|h
   .subst h;rw[ex]at e;cases e;exact⟨g,gm,by lia⟩
   .obtain⟨y,hy⟩:=List.exists_mem_of_ne_nil x (ne x (Q1 e));have:=wY up ex e h g gm y hy;exact⟨y,hy,by lia⟩
 .have c:¬lo<hi:=λz=>c (decide_eq_true (by lia));have:lo=hi:=by lia
  subst this;exact⟨_,rfl,q lo ⟨h2,h3,λx e=>h4 lo x (Q4 _) e⟩⟩
theorem zS {k:Int}:∀{x:List Int},inV (.int k) (x.map V.int)=decide (k∈x)
 | []=>rfl
 |a::r=>by
  have ih:=zS (k:=k) (x:=r);unfold inV at ih⊢;rw[Qs,ZU,ih];have:eqV (.int a) (.int k)=decide (k=a):=by
   show(_:Bool)=_;by_cases c:a=k
   .subst c;simp[eqV]
   .have c':¬k=a:=λz=>c z.symm;simp[eqV,c,c']
  rw[this];by_cases c:k=a
  .simp[c]
  .simp[c]
theorem Dq:(x.map V.int).all qh=true:=by
 rw[List.all_map];exact QS.mpr λ_ _=>rfl
theorem mf (T:Txt K mg t):FnOk P w K mg base CX0 2 t.oG t.jx ["self","key"] (ub K t):=by
 refine T.GB.okl sc_Leaves__has λ_ _ _ s H vs Q E hr h=>?_;obtain⟨a,k,F,ks,rfl,hA,q⟩:=h;refine⟨_,(ac (az (i:=2) sc_Leaves__has.nd rfl (Or.inl rfl) (aQ (pv 0) T.aL T.cE (bS T) hr.mo T.cH .nil aA (aa (pv 1) ah)))
   (ai (aC (gd (bG dW (pv 2) (aE aD (by rfl) T.bM bg (aa (au (pv 0) rfl) ah)) (ar _)) (cP (bG CS (pv 1) (aW aV (au (pv 0) rfl) (pv 2) (λ_ _=>rfl)) rfl))))))
  ,?_⟩
 obtain⟨dx,fs,hi,hm⟩:=hA.ins;have q:=q H F hA Fr.refl;obtain⟨L,A,ls,hb,ok,ef,hF⟩:=hA;obtain⟨dx',ho⟩:=hb.obj;have lA:((A.map V.ref).length:Int)=(ls.length:Int):=by rw[Q0,hb.len]
 refine⟨_,rfl,a,dx,fs,rfl,hi,hm _ (by decide+kernel),_,rfl,a,k,L,A,ls,rfl,hb,ok.ne,ok.up,λi li=>?_⟩;refine⟨_,rfl,_,rfl,a,_,dx',_,_,rfl,ho,T.aL,T.aB,cG,L,_,rfl,.inl (SqL.of hb.lst),_,_,rfl,rfl,_,rfl,bJ (λc=>?_) (λc=>?_)⟩
 .have c:=of_decide_eq_true c;have hi:i<ls.length:=by lia
  have ex:ls[i]?=some ls[i]:=Q3 hi;obtain⟨b,eb,hbb⟩:=hb.at ex;refine⟨_,rfl,_,rfl,a,_,dx',_,_,rfl,ho,T.aL,T.aB,cG,_,rfl,L,_,_,_,rfl,rfl,SqL.of hb.lst,fN eb,b,_,rfl,.inl (SqL.of hbb),rfl,Dq,?_⟩;show Q (.bl (inV (.int k) (ls[i].map V.int))) H;rw[zS];have:k∈ls[i]↔k∈ks:=by
   rw[<-ef,li.mem ok];constructor
   .exact λz=>⟨_,ex,z⟩
   .rintro ⟨x,e,z⟩;rw[ex]at e;cases e;exact z
  rw[decide_eq_decide.mpr this];exact q
 .have c:¬(i:Int)<((A.map V.ref).length:Int):=λz=>c (decide_eq_true z);have:k∉ks:=λz=>by
   rw[<-ef,li.mem ok]at z;obtain⟨x,e,_⟩:=z;have:=(Q2.mp e).1;lia
  rw[decide_eq_false this]at q;exact q
theorem sY (T:Txt K mg t):FnOk P w K mg base CX0 1 t.mV t.iG ["self"] (sG K t):=by
 refine T.FY.okl sO λ_ _ _ s H vs Q E hr h=>?_;obtain⟨a,dx,rfl,ha,hd,q⟩:=h;refine⟨_,(ai (a9 (pv 0) (bR ah) rfl))
  ,?_⟩
 refine⟨Qj _,λL nL=>⟨_,rfl,a,_,dx,[],rfl,(by rw[af (al ha nL)];exact ha),T.aL,T.aB,(by show 0<1000;decide),?_⟩⟩;have na:=al ha nL;refine q _ (LvF a L []) ⟨L,[],[],⟨⟨dx,ae⟩,by rw[af na.symm];exact ae,rfl,(λj b l e=>by simp at e),(λi j b e=>by simp at e),(λz=>by cases z)⟩,LvOk.nil,rfl,λb=>Iff.rfl⟩ λb o n w=>?_;have n1:b≠a:=λy=>n (.inl y);have n2:b≠L:=al w nL;refine⟨by rw[af n1,af n2];exact w,λy=>?_⟩;rcases y with y|y|y
 .exact n1 y
 .exact n2 y
 .cases y
def lG (t:Adr):Sp:=λvs H Q _=>∃(a L:Addr) (A:List Addr) (ls:List (List Int)) (i:Nat) (x:List Int),vs=[.ref a,.int (i:Int)]/\LvB t H a L A ls/\ls[i]?=some x/\x.length=9/\ls.length<5000/\
 ∀H' A',LvB t H' a L A' ((ls.set i (x.take 4)).take (i+1)++x.drop 4::(ls.set i (x.take 4)).drop (i+1))->Fr (LvF a L A) (LvF a L A') H H'->Q .non H'
theorem l5 (T:Txt K mg t):FnOk P w K mg base CX0 1 t.gA t.dB ["self","at"] (lG t):=by
 refine T.Ay.okl sc_Leaves__part_leaf λ_ _ _ s H vs Q E hr h=>?_;obtain⟨a,L,A,ls,i,x,rfl,hb,ex,lx,ll,q⟩:=h;refine⟨_,(ac (az (i:=2) sc_Leaves__part_leaf.nd rfl (Or.inl rfl) (aW aV (au (pv 0) rfl) (pv 1) (λ_ _=>rfl)))
   (ac (az (i:=3) sc_Leaves__part_leaf.nd rfl (Or.inl rfl) (am aS (aE aD (by rfl) T.bM bg (aa (pv 2) ah)) ag))
   (ac (re (eI gH (pv 2) iR (fL (pv 3))) (Bb (au (pv 0) rfl) (pv 1) uj))
   (ai (aR (dG Qq PySem.F.slot_list_insert PySem.F.type_list_insert xi (au (pv 0) rfl) (aa (am bn (pv 1) ag) (aa (eI gH (pv 2) (fL (pv 3)) iR) ah))))))))
  ,?_⟩
 obtain⟨dx,ho⟩:=hb.obj;obtain⟨c,ec,hc⟩:=hb.at ex;have hil:i<A.length:=(Q2.mp ec).1;have len9:((x.map V.int).length:Int)=9:=by rw[Q0,lx];rfl
 refine⟨_,rfl,a,_,dx,_,_,rfl,ho,T.aL,T.aB,cG,_,rfl,L,_,_,_,rfl,rfl,SqL.of hb.lst,fN ec,?_⟩;refine⟨_,rfl,c,_,rfl,.inl (SqL.of hc),_,_,rfl,rfl,⟨by decide,by decide⟩,?_⟩;dsimp only;rw[len9];have cut1:nP (x.map V.int) none (some (9/2))=(x.take 4).map V.int:=by
  unfold nP;rw[Q0,lx];show((x.map V.int).drop 0).take (4-0)=_;rw[Z9,Z7]
 have cut2:nP (x.map V.int) (some (9/2)) none=(x.drop 4).map V.int:=by
  unfold nP;rw[Q0,lx];show((x.map V.int).drop 4).take (9-4)=_;rw[ZJ,Qt (by rw[QA,Q0,lx];exact Q4 _)]
 refine⟨_,rfl,_,rfl,_,rfl,c,_,rfl,SqL.of hc,λn1 nn1=>?_⟩;rw[cut1];have s1:Same H (upd H n1 (.lst ((x.take 4).map V.int))):=aj nn1;have hb1:=hb.same s1;have hn1:upd H n1 (.lst ((x.take 4).map V.int)) n1=some (.lst ((x.take 4).map V.int)):=ae;have nF1:=hb.out nn1;have ho1:=s1 _ _ ho;have hc1:=s1 _ _ hc;have hL1:=s1 _ _ hb.lst;generalize upd H n1 (.lst ((x.take 4).map V.int))=H1 at s1 hb1 hn1 ho1 hc1 hL1⊢;refine⟨_,rfl,a,_,dx,_,_,rfl,ho1,T.aL,T.aB,cG,_,rfl,L,_,_,_,rfl,rfl,hL1,Cb hil,?_⟩;have es:(A.map V.ref).set i (V.ref n1)=(A.set i n1).map V.ref:=by rw[List.map_set]
 rw[es];have hb2:=hb1.swap ec ex hn1 nF1;have cL:c≠L:=λz=>hb.nL (z▸Q1 ec);have hc2:upd H1 L (.lst ((A.set i n1).map V.ref)) c=some (.lst (x.map V.int)):=by rw[af cL];exact hc1
 obtain⟨dx2,ho2⟩:=hb2.obj;have hL2:=hb2.lst;have f2:Fr (LvF a L A) (LvF a L (A.set i n1)) H (upd H1 L (.lst ((A.set i n1).map V.ref))):=λb o n w=>by
  have w1:=s1 _ _ w;refine⟨by rw[af (λy=>n (.inr (.inl y)))];exact w1,λy=>?_⟩;rcases y with y|y|y
  .exact n (.inl y)
  .exact n (.inr (.inl y))
  .rcases List.mem_or_eq_of_mem_set y with y|y
   .exact n (.inr (.inr y))
   .rw[y,nn1]at w;cases w
 generalize upd H1 L (.lst ((A.set i n1).map V.ref))=H2 at hb2 hc2 ho2 hL2 f2⊢;refine⟨_,rfl,a,_,dx2,_,_,rfl,ho2,T.aL,T.aB,cG,.inl ⟨rfl,_,SqL.of hL2⟩,_,rfl,_,_,rfl,rfl,_,rfl,_,rfl,_,rfl,c,_,rfl,SqL.of hc2,λn2 nn2=>?_⟩;rw[cut2];have s3:Same H2 (upd H2 n2 (.lst ((x.drop 4).map V.int))):=aj nn2;have hb3:=hb2.same s3;have hn3:upd H2 n2 (.lst ((x.drop 4).map V.int)) n2=some (.lst ((x.drop 4).map V.int)):=ae;have nF3:=hb2.out nn2;have hL3:=s3 _ _ hL2;generalize upd H2 n2 (.lst ((x.drop 4).map V.int))=H3 at s3 hb3 hn3 hL3⊢;have lS:(A.set i n1).length=A.length:=QI;refine⟨L,_,_,_,rfl,rfl,hL3,(by lia),(by rw[Q0,lS];lia),(by rw[Q0,lS,hb.len];exact bq (by lia)),?_⟩;have ei:((i:Int)+1).toNat=i+1:=by lia
 have hb4:=hb3.insert (i:=i+1) (by rw[lS];lia) hn3 nF3;rw[ei];have em:((A.set i n1).map V.ref).take (i+1)++V.ref n2::((A.set i n1).map V.ref).drop (i+1)=((A.set i n1).take (i+1)++n2::(A.set i n1).drop (i+1)).map V.ref:=by
  rw[Qc,Qs,Z7,ZJ]
 rw[em];refine q _ _ hb4 (f2.trans (λb o n w=>?_));have w3:=s3 _ _ w;refine⟨by rw[af (λy=>n (.inr (.inl y)))];exact w3,λy=>?_⟩;rcases y with y|y|y
 .exact n (.inl y)
 .exact n (.inr (.inl y))
 .rcases Q5.mp y with y|y
  .exact n (.inr (.inr (QY y)))
  .rcases Qg.mp y with y|y
   .rw[y,nn2]at w;cases w
   .exact n (.inr (.inr (ZD y)))
theorem LvB.insM (h:LvB t H a L A ls):∃dx fs,H a=some (.ins t.bx dx fs)/\∀m,m≠("leaves":Str)->fs.lookup m=none:=by
 obtain⟨dx,ho⟩:=h.obj;exact⟨dx,_,ho,λm hm=>Iu hm⟩
theorem uM (T:Txt K mg t):FnOk P w K mg base CX0 3 t.oH t.jy ["self","key"] (uc K t):=by
 obtain⟨tk_MOST_IN_LEAF,hMOST_IN_LEAF⟩:=T.g_MOST_IN_LEAF;refine T.GC.okl sc_Leaves__add λ_ _ _ s H vs Q E hr h=>?_;obtain⟨a,k,F,ks,rfl,hA,hl,q1,q2⟩:=h;refine⟨_,(ac (aU (eG (aQ (pv 0) T.aL T.wF (mf T) hr.mo T.wL .nil aA (aa (pv 1) ah)))
   (ai cx)
   aH)
   (ac (aU (aq bL (aE aD (by rfl) T.bM bg (aa (au (pv 0) rfl) ah)) ag (ar _))
   (ac (aR (dG Qq QV QW dX (au (pv 0) rfl) (aa (bR (aa (pv 1) ah)) ah)))
   (ai m8))
   aH)
   (ac (az (i:=2) sc_Leaves__add.nd rfl (Or.inl rfl) (aE (nI rfl) (by rfl) T.y7 rR (aa (aQ (pv 0) T.aL T.cE (bS T) hr.mo T.cH .nil aA (aa (pv 1) ah)) (aa (am ie (aE aD (by rfl) T.bM bg (aa (au (pv 0) rfl) ah)) ag) ah))))
   (ac (az (i:=3) sc_Leaves__add.nd rfl (Or.inl rfl) (aW aV (au (pv 0) rfl) (pv 2) (λ_ _=>rfl)))
   (ac (aR (dG Qq PySem.F.slot_list_insert PySem.F.type_list_insert xi (pv 3) (aa (aE aD (by rfl) T.bM bg (aa (pW rfl (CScope.of (M:=["one"]) (N:=["self","key","at","leaf"]) (N':=["self","key","at","leaf"]) (dsc:=ak fK) rfl rfl (by decide+kernel)) (cZ (pv 3)) (λ_ _ _ _ _=>(aq dW (pv 0) (pv 2) (ar _))) (λ_ _ _ _ _=>(pv 0))) ah)) (aa (pv 1) ah))))
   (ai (aU (aq zA (aE aD (by rfl) T.bM bg (aa (pv 3) ah)) (cy (v:= .int 8) (by rfl) hMOST_IN_LEAF ⟨_,rfl⟩) (ar _))
   (ai (aR (aQ (pv 0) T.aL T.Ap (l5 T) hr.mo T.Au .nil aA (aa (pv 2) ah))))
   aH)))))))
  ,?_⟩
 obtain⟨dx,fs,hi,hm⟩:=hA.ins;refine⟨_,rfl,a,dx,fs,rfl,hi,hm _ (by decide+kernel),_,rfl,a,k,F,ks,rfl,hA,λH0 F0 hA0 fr0=>?_⟩;by_cases ck:k∈ks
 .rw[decide_eq_true ck];refine⟨_,rfl,c6 ?_⟩;exact(q2 ck).elim
 rw[decide_eq_false ck];refine⟨_,rfl,cI ?_⟩;have q:=q1 ck;obtain⟨L,A,ls,hb,ok,ef,hF⟩:=hA0;obtain⟨dx',ho⟩:=hb.obj;have lA:((A.map V.ref).length:Int)=(ls.length:Int):=by rw[Q0,hb.len]
 have sh:=ok.short;rw[ef]at sh;have fr:Fr F (LvF a L A) H H0:=λb o n e=>⟨(fr0 b o n e).1,λy=>(fr0 b o n e).2 ((hF b).mpr y)⟩;have nk:k∉ls.flatten:=by rw[ef];exact ck
 by_cases ce:ls=[]
 .subst ce;have eA:A=[]:=Xd.mp hb.len;subst eA;refine⟨_,rfl,a,_,dx',_,_,rfl,ho,T.aL,T.aB,cG,L,_,rfl,.inl (SqL.of hb.lst),rfl,_,rfl,fS rfl ?_⟩;refine⟨_,rfl,a,_,dx',_,_,rfl,ho,T.aL,T.aB,cG,.inl ⟨rfl,_,SqL.of hb.lst⟩,_,rfl,(by show 1<=sizeLine;decide),λn nn=>?_⟩;have s1:Same H0 (upd H0 n (.lst [.int k])):=aj nn;have hb1:=hb.same s1;have hn1:upd H0 n (.lst [.int k]) n=some (.lst (([k]:List Int).map V.int)):=ae;have nF:=hb.out nn;have hL1:=s1 _ _ hb.lst;refine⟨L,_,_,rfl,rfl,hL1,cp (by show 0<=1000;decide),?_⟩;have hb2:=hb1.insert (i:=0) (Qj _) hn1 nF;have ok1:LvOk [[k]]:=⟨(λl hl=>by rw[Q7.mp hl];simp),(λl hl=>by rw[Q7.mp hl];simp),(λi x y e1 e2=>by simp at e2),by show cJ [k];exact Zb _ _⟩;refine q _ (LvF a L [n]) [k] ⟨L,[n],[[k]],hb2,ok1,rfl,λb=>Iff.rfl⟩ (λz=>?_) (fr.trans λb o n' w=>?_)
  .rw[<-ef];simp
  .have w1:=s1 _ _ w;refine⟨by rw[af (λy=>n' (.inr (.inl y)))];exact w1,λy=>?_⟩;rcases y with y|y|y
   .exact n' (.inl y)
   .exact n' (.inr (.inl y))
   .rw[Q7.mp y,nn]at w;cases w
 .have hpos:=QZ.mpr ce;refine⟨_,rfl,a,_,dx',_,_,rfl,ho,T.aL,T.aB,cG,L,_,rfl,.inl (SqL.of hb.lst),rfl,_,rfl,bc (λw=>?_) ?_⟩
  .have:=V.int.inj w;lia
  obtain⟨dx2,fs2,hi2,hm2⟩:=hb.insM;refine⟨_,rfl,a,dx2,fs2,rfl,hi2,hm2 _ (by decide+kernel),_,rfl,a,k,L,A,ls,rfl,hb,ok.ne,ok.up,λi li=>?_⟩;refine⟨_,rfl,a,_,dx',_,_,rfl,ho,T.aL,T.aB,cG,L,_,rfl,.inl (SqL.of hb.lst),_,_,rfl,rfl,_,_,rfl,?_⟩;obtain⟨x,ad⟩:=li.add ok ce;have em:(if((A.map V.ref).length:Int)-1<(i:Int)then((A.map V.ref).length:Int)-1 else(i:Int))=((min i (ls.length-1):Nat):Int):=by
   rw[lA];split<;>lia
  dsimp only;rw[em];generalize min i (ls.length-1)=j at ad⊢;obtain⟨c,ec,hc⟩:=hb.at ad.at_;have jl:j<ls.length:=(Q2.mp ad.at_).1;have x8:=ok.le x (Q1 ad.at_);refine⟨_,rfl,a,_,dx',_,_,rfl,ho,T.aL,T.aB,cG,_,rfl,L,_,_,_,rfl,rfl,SqL.of hb.lst,fN ec,?_⟩;refine⟨_,rfl,.inl ⟨rfl,_,SqL.of hc⟩,_,rfl,c,rfl,⟨_,SqL.of hc⟩,λD hD=>?_⟩;refine kP (K:=K) (a:=c) (xs:=x.map V.int) (λn ys H3=>H3=upd H0 D (.lst ys)/\ys=((x.take n).filter (λz=>decide (z<k))).map V.int) ⟨rfl,rfl⟩ (λn ys H3 _ w=>SqL.of (by rw[w.1,af (al hc hD)];exact hc)) (λn v ys H3 hv w hDD=>?_) (λys H3 w hDD=>?_)
  .obtain⟨e1,e2⟩:=w;obtain⟨g,rfl,eg⟩:∃g:Int,v= .int g/\x[n]?=some g:=by
    rw[Qn]at hv;cases e:x[n]? with
    |none=>rw[e]at hv;cases hv
    |some g=>rw[e]at hv;cases hv;exact⟨g,rfl,rfl⟩
   have hn:n<(x.map V.int).length:=(Q2.mp hv).1;refine⟨_,rfl,_,rfl,_,_,rfl,rfl,_,rfl,?_⟩;have fl:ys.length<=8:=by
    rw[e2,Q0];have h1:=Qo (λz=>decide (z<k)) (x.take n);have h2:(x.take n).length<=x.length:=by rw[Q8];lia
    lia
   by_cases cg:g<k
   .refine lq cg ⟨_,rfl,CNext.mk hn hDD (cp (by lia)) ⟨by rw[e1,bE],?_⟩⟩;rw[e2,Qr,eg,QB,Qc];simp[cg]
   .refine bc cg (CSkip.mk hn hDD ⟨e1,?_⟩);rw[e2,Qr,eg,QB];simp[cg]
  .obtain⟨e1,e2⟩:=w;rw[Q0,QF]at e2;have s3:Same H0 H3:=by rw[e1];exact aj hD
   have hb3:=hb.same s3;have hc3:=s3 _ _ hc;have yl:(ys.length:Int)=((x.filter (λz=>decide (z<k))).length:Int):=by rw[e2,Q0]
   have fle:=Qo (λz=>decide (z<k)) x;refine⟨D,_,rfl,.inl (SqL.of hDD),_,rfl,c,_,_,_,rfl,rfl,hc3,(by lia),(by rw[Q0];lia),(by rw[Q0];exact cp (by lia)),?_⟩;have ei:(x.map V.int).take (ys.length:Int).toNat++V.int k::(x.map V.int).drop (ys.length:Int).toNat=(fV x k).map V.int:=by
    rw[yl,QN];unfold fV;rw[Qc,Qs,Z7,ZJ]
   dsimp only;rw[ei];have hb4:=hb3.write (y:=fV x k) ec ad.at_;have il:=Fg (l:=x) (k:=k);obtain⟨up4,mem4⟩:=ad.set ok nk;have cF:LvF a L A c:= .inr (.inr (Q1 ec));have f4:Fr (LvF a L A) (LvF a L A) H0 (upd H3 c (.lst ((fV x k).map V.int))):=λb o n w=>⟨by rw[af (λy=>n (by rw[y];exact cF))];exact s3 _ _ w,n⟩;have hc4:upd H3 c (.lst ((fV x k).map V.int)) c=some (.lst ((fV x k).map V.int)):=ae;generalize upd H3 c (.lst ((fV x k).map V.int))=H4 at hb4 f4 hc4⊢;refine⟨_,rfl,c,_,rfl,.inl (SqL.of hc4),_,_,rfl,rfl,_,rfl,?_⟩;have ll:((fV x k).map V.int).length=x.length+1:=by rw[Q0,il]
   by_cases c9:x.length=8
   .refine lq (by rw[ll];lia) ?_;obtain⟨dx5,fs5,hi5,hm5⟩:=hb4.insM;have e5:(ls.set j (fV x k))[j]?=some (fV x k):=by rw[Qy,if_pos rfl,if_pos jl]
    refine⟨_,rfl,a,dx5,fs5,rfl,hi5,hm5 _ (by decide+kernel),_,rfl,a,L,A,_,j,_,rfl,hb4,e5,by lia,by rw[QI];lia,λH6 A6 hb6 f6=>?_⟩;have er:(ls.set j (fV x k)).set j ((fV x k).take 4)=ls.set j ((fV x k).take 4):=List.set_set _;rw[er]at hb6;have up5:cJ (ls.set j ((fV x k).take 4++(fV x k).drop 4)).flatten:=by rw[QJ];exact up4
    obtain⟨ok6,ef6⟩:=ok.parted ad.at_ (a:=(fV x k).take 4) (b:=(fV x k).drop 4) (by rw[Q8];lia) (by rw[QA];lia) up5;rw[QJ]at ef6;refine q H6 _ _ ⟨L,A6,_,hb6,ok6,rfl,λb=>Iff.rfl⟩ (λz=>?_) (fr.trans (f4.trans f6));rw[ef6,mem4,ef]
   .refine bc (by rw[ll];lia) ?_;have ok4:=ok.grown ad.at_ (y:=fV x k) (by lia) (by lia) up4;exact q H4 _ _ ⟨L,A,_,hb4,ok4,rfl,λb=>Iff.rfl⟩ (λz=>by rw[mem4,ef]) (fr.trans f4)
def kZ (t:Adr):Sp:=λvs H Q _=>∃(a L:Addr) (A:List Addr) (ls:List (List Int)) (i:Int),vs=[.ref a,.int i]/\LvB t H a L A ls/\-1<=i/\i<(ls.length:Int)/\(∀l∈ls,l.length<=8)/\ls.length<5000/\
 ∀H' A' ls',LvB t H' a L A' ls'->ls'=(if 0<=i then oe ls i.toNat else ls)->Fr (LvF a L A) (LvF a L A') H H'->Q .non H'
theorem EX {n:Addr} (h:b∈A.set i n):b∈A\/b=n:=List.mem_or_eq_of_mem_set h
theorem lg (T:Txt K mg t):FnOk P w K mg base CX0 1 t.fW t.cU ["self","at"] (kZ t):=by
 obtain⟨tk_LEAST_IN_TWO,hLEAST_IN_TWO⟩:=T.g_LEAST_IN_TWO;refine T.An.okl sc_Leaves__join_small λ_ _ _ s H vs Q E hr h=>?_;obtain⟨a,L,A,ls,i,rfl,hb,i0,i1,l8,ll,q⟩:=h;refine⟨_,(ac (aU (PW.pt (hV (aq dW (pv 1) ag (ar _)) (fv (aq bL (am bn (pv 1) ag) (aE aD (by rfl) T.bM bg (aa (au (pv 0) rfl) ah)) (ar _)))))
   (ai m8)
   aH)
   (ac (az (i:=2) sc_Leaves__join_small.nd rfl (Or.inl rfl) (am EJ (aW aV (au (pv 0) rfl) (pv 1) (λ_ _=>rfl)) (aW aV (au (pv 0) rfl) (am bn (pv 1) ag) (λ_ _=>rfl))))
   (ai (aU (aq dW (aE aD (by rfl) T.bM bg (aa (pv 2) ah)) (cy (v:= .int 5) (by rfl) hLEAST_IN_TWO ⟨_,rfl⟩) (ar _))
   (ac (re (pv 2) (Bb (au (pv 0) rfl) (pv 1) uj))
   (ai (aR (dG Qq PySem.F.slot_list_pop PySem.F.type_list_pop zF (au (pv 0) rfl) (aa (am bn (pv 1) ag) ah)))))
   aH))))
  ,?_⟩
 obtain⟨dx,ho⟩:=hb.obj;have lA:((A.map V.ref).length:Int)=(ls.length:Int):=by rw[Q0,hb.len]
 by_cases c0:i<0
 .refine⟨_,rfl,_,_,rfl,rfl,_,rfl,lq c0 ?_⟩;exact c6 (q H A ls hb (by rw[if_neg (by lia)]) Fr.refl)
 refine⟨_,rfl,_,_,rfl,rfl,_,rfl,bc c0 ?_⟩;obtain⟨n,rfl⟩:=Za (show 0<=i by lia);have en:((n:Int)).toNat=n:=QN n;rw[if_pos (by lia),en]at q;refine⟨_,rfl,_,_,rfl,rfl,_,rfl,a,_,dx,_,_,rfl,ho,T.aL,T.aB,cG,L,_,rfl,.inl (SqL.of hb.lst),rfl,_,rfl,?_⟩;by_cases c1:n+1=ls.length
 .refine fS (congrArg V.int (by rw[lA];lia)) ?_;exact q H A ls hb (u0 (by lia)).symm Fr.refl
 refine bc (λw=>c1 (by have:=V.int.inj w;rw[lA]at this;lia)) ?_;have hn:n<ls.length:=by lia
 have hn1:n+1<ls.length:=by lia
 have ex:ls[n]?=some ls[n]:=Q3 hn;have ey:ls[n+1]?=some ls[n+1]:=Q3 hn1;have x8:=l8 _ (Zh hn);have y8:=l8 _ (Zh hn1);generalize ls[n]=x at ex x8;generalize ls[n+1]=y at ey y8;obtain⟨c,ec,hc⟩:=hb.at ex;obtain⟨d,ed,hd⟩:=hb.at ey;have ec1:(n:Int)+1=((n+1:Nat):Int):=rfl;refine⟨_,rfl,a,_,dx,_,_,rfl,ho,T.aL,T.aB,cG,_,rfl,L,_,_,_,rfl,rfl,SqL.of hb.lst,fN ec,_,rfl,a,_,dx,_,_,rfl,ho,T.aL,T.aB,cG,_,rfl,_,_,rfl,rfl,L,_,_,_,rfl,rfl,SqL.of hb.lst,fN ed,c,d,_,_,rfl,rfl,hc,hd,Zq (cp (by rw[Q0,Q0];lia)),λbo nbo=>?_⟩;rw[<-Qc];have s1:Same H (upd H bo (.lst ((x++y).map V.int))):=aj nbo;have hb1:=hb.same s1;have hbo:upd H bo (.lst ((x++y).map V.int)) bo=some (.lst ((x++y).map V.int)):=ae;have nF:=hb.out nbo;have ho1:=s1 _ _ ho;have hL1:=s1 _ _ hb.lst;generalize upd H bo (.lst ((x++y).map V.int))=H1 at s1 hb1 hbo ho1 hL1⊢;refine⟨_,rfl,bo,_,rfl,.inl (SqL.of hbo),_,_,rfl,rfl,_,rfl,?_⟩;have lxy:(((x++y).map V.int).length:Int)=(x.length:Int)+(y.length:Int):=by rw[Q0,Qa];rfl
 rw[zR ex ey]at q;by_cases c5:x.length+y.length<5
 .refine lq (by rw[lxy];lia) ?_;rw[if_pos c5]at q;have nA:n<A.length:=by rw[hb.len];exact hn
  refine⟨_,rfl,_,rfl,a,_,dx,_,_,rfl,ho1,T.aL,T.aB,cG,_,rfl,L,_,_,_,rfl,rfl,hL1,Cb nA,?_⟩;have es:(A.map V.ref).set n (V.ref bo)=(A.set n bo).map V.ref:=by rw[List.map_set]
  rw[es];have hb2:=hb1.swap ec ex hbo nF;obtain⟨dx2,ho2⟩:=hb2.obj;have hL2:=hb2.lst;have f2:Fr (LvF a L A) (LvF a L (A.set n bo)) H (upd H1 L (.lst ((A.set n bo).map V.ref))):=λb o n' w=>by
   have w1:=s1 _ _ w;refine⟨by rw[af (λy=>n' (.inr (.inl y)))];exact w1,λy=>?_⟩;rcases y with y|y|y
   .exact n' (.inl y)
   .exact n' (.inr (.inl y))
   .rcases EX y with y|y
    .exact n' (.inr (.inr y))
    .rw[y,nbo]at w;cases w
  generalize upd H1 L (.lst ((A.set n bo).map V.ref))=H2 at hb2 ho2 hL2 f2⊢;have lS:((A.set n bo).map V.ref).length=ls.length:=by rw[Q0,QI,hb.len]
  have hn2:n+1<(A.set n bo).length:=by rw[QI,hb.len];exact hn1
  have sx:seqIndex? ((n:Int)+1) ((A.set n bo).map V.ref).length=some (n+1):=by
   have:=seqIndex_of (k:=(n:Int)+1) (n:=((A.set n bo).map V.ref).length) (by lia) (by rw[lS];lia);rw[this];congr 1
  refine⟨_,rfl,a,_,dx2,_,_,rfl,ho2,T.aL,T.aB,cG,.inl ⟨rfl,_,SqL.of hL2⟩,_,rfl,_,_,rfl,rfl,L,_,_,n+1,_,rfl,rfl,hL2,(by lia),(by lia),sx,(by rw[Qn,Q3 hn2];rfl),?_⟩;have hb3:=hb2.erase (i:=n+1);have em:((A.set n bo).map V.ref).eraseIdx (n+1)=((A.set n bo).eraseIdx (n+1)).map V.ref:=pj _ _;rw[em];refine q _ _ _ hb3 rfl (f2.trans λb o n' w=>?_);refine⟨by rw[af (λy=>n' (.inr (.inl y)))];exact w,λy=>?_⟩;rcases y with y|y|y
  .exact n' (.inl y)
  .exact n' (.inr (.inl y))
  .exact n' (.inr (.inr (Z6 y)))
 .refine bc (by rw[lxy];lia) ?_;rw[if_neg c5]at q;exact q H1 A ls hb1 rfl (Fr.of_same s1)
theorem o8 (T:Txt K mg t):FnOk P w K mg base CX0 3 t.i4 t.eT ["self","key"] (oS K t):=by
 refine T.Cz.okl sc_Leaves__discard λ_ _ _ s H vs Q E hr h=>?_;obtain⟨a,k,F,ks,rfl,hA,hl,q1,q2⟩:=h;refine⟨_,(ac (aU (rc (eG (aQ (pv 0) T.aL T.wF (mf T) hr.mo T.wL .nil aA (aa (pv 1) ah))))
   (ai cx)
   aH)
   (ac (az (i:=2) sc_Leaves__discard.nd rfl (Or.inl rfl) (aQ (pv 0) T.aL T.cE (bS T) hr.mo T.cH .nil aA (aa (pv 1) ah)))
   (ac (aR (dG Qq PySem.F.slot_list_remove PySem.F.type_list_remove C6 (aW aV (au (pv 0) rfl) (pv 2) (λ_ _=>rfl)) (aa (pv 1) ah)))
   (ac (aU (aq bL (aE aD (by rfl) T.bM bg (aa (aW aV (au (pv 0) rfl) (pv 2) (λ_ _=>rfl)) ah)) ag (ar _))
   (ac (aR (dG Qq PySem.F.slot_list_pop PySem.F.type_list_pop zF (au (pv 0) rfl) (aa (pv 2) ah)))
   (ai m8))
   aH)
   (ac (aR (aQ (pv 0) T.aL T.mt (lg T) hr.mo T.mN .nil aA (aa (pv 2) ah)))
   (ai (aR (aQ (pv 0) T.aL T.mt (lg T) hr.mo T.mN .nil aA (aa (am ie (pv 2) ag) ah)))))))))
  ,?_⟩
 obtain⟨dx,fs,hi,hm⟩:=hA.ins;refine⟨_,rfl,a,dx,fs,rfl,hi,hm _ (by decide+kernel),_,rfl,a,k,F,ks,rfl,hA,λH0 F0 hA0 fr0=>?_⟩;by_cases ck:k∈ks
 case neg=>
  rw[decide_eq_false ck];refine⟨_,rfl,c6 ?_⟩;exact(q2 ck).elim
 rw[decide_eq_true ck];refine⟨_,rfl,cI ?_⟩;have q:=q1 ck;obtain⟨L,A,ls,hb,ok,ef,hF⟩:=hA0;obtain⟨dx',ho⟩:=hb.obj;have sh:=ok.short;rw[ef]at sh;have fr:Fr F (LvF a L A) H H0:=λb o n e=>⟨(fr0 b o n e).1,λy=>(fr0 b o n e).2 ((hF b).mpr y)⟩;obtain⟨dx2,fs2,hi2,hm2⟩:=hb.insM;refine⟨_,rfl,a,dx2,fs2,rfl,hi2,hm2 _ (by decide+kernel),_,rfl,a,k,L,A,ls,rfl,hb,ok.ne,ok.up,λi li=>?_⟩;obtain⟨x,ex,hx⟩:=(li.mem ok).mp (by rw[ef];exact ck);obtain⟨c,ec,hc⟩:=hb.at ex;have il:i<ls.length:=(Q2.mp ex).1;have ilA:i<A.length:=by rw[hb.len];exact il
 refine⟨_,rfl,a,_,dx',_,_,rfl,ho,T.aL,T.aB,cG,_,rfl,L,_,_,_,rfl,rfl,SqL.of hb.lst,fN ec,.inl ⟨rfl,_,SqL.of hc⟩,_,rfl,c,x,k,rfl,rfl,hc,hx,?_⟩;have hb1:=hb.write (y:=x.erase k) ec ex;obtain⟨up1,mem1⟩:=ok.gone ex hx;have cF:LvF a L A c:= .inr (.inr (Q1 ec));have f1:Fr (LvF a L A) (LvF a L A) H0 (upd H0 c (.lst ((x.erase k).map V.int))):=λb o n w=>⟨by rw[af (λy=>n (by rw[y];exact cF))];exact w,n⟩;have hc1:upd H0 c (.lst ((x.erase k).map V.int)) c=some (.lst ((x.erase k).map V.int)):=ae;obtain⟨dx1,ho1⟩:=hb1.obj;have hL1:=hb1.lst;generalize upd H0 c (.lst ((x.erase k).map V.int))=H1 at hb1 f1 hc1 ho1 hL1⊢;have le:=List.length_erase_of_mem hx;refine⟨_,rfl,a,_,dx1,_,_,rfl,ho1,T.aL,T.aB,cG,_,rfl,L,_,_,_,rfl,rfl,SqL.of hL1,fN ec,c,_,rfl,.inl (SqL.of hc1),rfl,_,rfl,?_⟩;have px:=List.length_pos_of_mem hx;by_cases c0:x.length=1
 .refine fS (congrArg V.int (by rw[Q0,le,c0];rfl)) ?_;have en:x.erase k=[]:=Xd.mp (by lia);rw[en]at up1 mem1 hb1;have sx:seqIndex? (i:Int) (A.map V.ref).length=some i:=by
   have:=seqIndex_of (k:=(i:Int)) (n:=(A.map V.ref).length) (by lia) (by rw[Q0];lia);rw[this,QN]
  refine⟨_,rfl,a,_,dx1,_,_,rfl,ho1,T.aL,T.aB,cG,.inl ⟨rfl,_,SqL.of hL1⟩,_,rfl,L,_,_,i,_,rfl,rfl,hL1,(by lia),(by lia),sx,(by rw[Qn,ec];rfl),?_⟩;have hb2:=hb1.erase (i:=i);have e2:(ls.set i ([]:List Int)).eraseIdx i=ls.eraseIdx i:=xu _ _ _;rw[e2]at hb2;rw[pj];obtain⟨ok2,ef2⟩:=ok.out ex c0 up1;refine q _ _ _ ⟨L,_,_,hb2,ok2,rfl,λb=>Iff.rfl⟩ (λz=>by rw[ef2,mem1,ef]) ((fr.trans f1).trans λb o n w=>?_);refine⟨by rw[af (λy=>n (.inr (.inl y)))];exact w,λy=>?_⟩;rcases y with y|y|y
  .exact n (.inl y)
  .exact n (.inr (.inl y))
  .exact n (.inr (.inr (Z6 y)))
 .refine bc (λw=>c0 (by have:=V.int.inj w;rw[Q0,le]at this;lia)) ?_;have ny:x.erase k≠[]:=Zp (by lia);have w1:=ok.shrunk ex ny (by lia) up1;obtain⟨dx3,fs3,hi3,hm3⟩:=hb1.insM;have ls1:(ls.set i (x.erase k)).length=ls.length:=QI;refine⟨_,rfl,a,dx3,fs3,rfl,hi3,hm3 _ (by decide+kernel),_,rfl,a,L,A,_,(i:Int),rfl,hb1,by lia,by rw[ls1];lia,w1.le,by rw[ls1];lia,λH2 A2 ls2 hb2 e2 f2=>?_⟩;rw[if_pos (by lia),QN]at e2;obtain⟨w2,fl2⟩:=w1.join (i:=i) (λj h=>h);rw[<-e2]at w2 fl2;have l2:i<=ls2.length/\ls2.length<=ls.length:=by
   have:=Dk (ls:=ls.set i (x.erase k)) (i:=i);rw[<-e2,ls1]at this;lia
  obtain⟨dx4,fs4,hi4,hm4⟩:=hb2.insM;refine⟨_,rfl,a,dx4,fs4,rfl,hi4,hm4 _ (by decide+kernel),_,rfl,_,_,rfl,rfl,a,L,A2,ls2,(i:Int)-1,rfl,hb2,by lia,by lia,w2.le,by lia,λH3 A3 ls3 hb3 e3 f3=>?_⟩;have fin:LvOk ls3/\ls3.flatten=ls2.flatten:=by
   by_cases ci:i=0
   .subst ci;rw[if_neg (by lia)]at e3;subst e3;exact⟨w2.ok λj h=>by lia,rfl⟩
   .have ei:((i:Int)-1).toNat=i-1:=by lia
    rw[if_pos (by lia),ei]at e3;obtain⟨w3,fl3⟩:=w2.join (i:=i-1) (λj h=>by lia);rw[<-e3]at w3 fl3;exact⟨w3.ok λj h=>by lia,fl3⟩
  obtain⟨ok3,ef3⟩:=fin;refine q H3 _ _ ⟨L,A3,ls3,hb3,ok3,rfl,λb=>Iff.rfl⟩ (λz=>by rw[ef3,fl2,mem1,ef]) (((fr.trans f1).trans f2).trans f3)
def IE (a l:Addr) (k n:Int) (ls:List (List Int)) (H:Hp):Nat->St->Hp->Prop:=λm σ H'=>∃(i:Nat),m=ls.length-i/\Same H H'/\H l=none/\σ=[some (.ref a),some (.int k),some (.int n),some (.ref l),some (.int (i:Int))]/\i<=ls.length/\H' l=some (.lst ((((ls.take i).flatten).filter λz=>decide (k<=z)).map V.int))
theorem rJ (e:ls[i]?=some x):(ls.take (i+1)).flatten=(ls.take i).flatten++x:=by
 rw[Qr,e,Ze];simp
theorem qf (ls:List (List Int)) (i:Nat):ls.flatten=(ls.take i).flatten++(ls.drop i).flatten:=by rw[<-Ze,QJ]
theorem o7 (T:Txt K mg t):FnOk P w K mg base CX0 2 t.iZ t.eS ["self","key","most"] (oR K t):=by
 refine T.Cy.okl sc_Leaves__from_on λ_ _ _ s H vs Q E hr h=>?_;obtain⟨a,k,n,F,ks,rfl,hA,hl,n0,q⟩:=h;refine⟨_,(ac (az (i:=3) sc_Leaves__from_on.nd rfl (Or.inl rfl) (bR ah))
   (ac (az (i:=4) sc_Leaves__from_on.nd rfl (Or.inl rfl) (aQ (pv 0) T.aL T.cE (bS T) hr.mo T.cH .nil aA (aa (pv 1) ah)))
   (ac (lV PassesOwn.never (PW.pt (fw (aq dW (pv 4) (aE aD (by rfl) T.bM bg (aa (au (pv 0) rfl) ah)) (ar _)) (dL (aq dW (aE aD (by rfl) T.bM bg (aa (pv 3) ah)) (pv 2) (ar _)))))
   (ac (aR (dG Qq ZH ZI ni (pv 3) (aa (pW rfl (CScope.of (M:=["one"]) (N:=["self","key","most","told","at"]) (N':=["self","key","most","told","at"]) (dsc:=ak cw) rfl rfl (by decide+kernel)) (cZ (aW aV (au (pv 0) rfl) (pv 4) (λ_ _=>rfl))) (λ_ _ _ _ _=>(aq xf (pv 0) (pv 2) (ar _))) (λ_ _ _ _ _=>(pv 0))) ah)))
   (ai (Ba (i:=4) sc_Leaves__from_on.nd rfl (Or.inl rfl) ag Ff))))
   (ai (aC (eI gH (pv 3) iR (fL (pv 2))))))))
  ,?_⟩
 obtain⟨L,A,ls,hb,ok,ef,hF⟩:=hA;refine⟨Qj _,λl nl=>?_⟩;have s0:Same H (upd H l (.lst [])):=aj nl;have e0:upd H l (.lst []) l=some (.lst (([]:List Int).map V.int)):=ae;have hb0:=hb.same s0;generalize upd H l (.lst [])=H0 at s0 e0 hb0⊢;obtain⟨dx2,fs2,hi2,hm2⟩:=hb0.insM;refine⟨_,rfl,a,dx2,fs2,rfl,hi2,hm2 _ (by decide+kernel),_,rfl,a,k,L,A,ls,rfl,hb0,ok.ne,ok.up,λi0 li=>?_⟩;have f0:((ls.take i0).flatten).filter (λz=>decide (k<=z))=[]:=ZR.mpr λz hz=>by
  have:=Dp ok li z hz;simpa using this
 have lA:((A.map V.ref).length:Int)=(ls.length:Int):=by rw[Q0,hb.len]
 refine⟨IE a l k n ls H,⟨_,i0,rfl,s0,nl,rfl,li.le,by rw[f0];exact e0⟩,?_⟩;rintro m σ H' ⟨i,rfl,s1,_,rfl,il,e1⟩;have hb1:=hb.same s1;obtain⟨dx1,ho1⟩:=hb1.obj;have fin:∀(done:((((ls.take i).flatten).filter λz=>decide (k<=z)).take n.toNat)=(ks.filter λz=>decide (k<=z)).take n.toNat),∀p,H' p=none->Q (.ref p) (upd H' p (.lst (nP ((((ls.take i).flatten).filter λz=>decide (k<=z)).map V.int) none (some n)))):=λdone p np=>by
  refine q _ p (s1.trans (aj np)) ?_ ?_
  .cases e:H p with
   |none=>rfl
   |some o=>rw[s1 _ _ e]at np;cases np
  .rw[ae,mK n0,<-Z7,done]
 refine⟨_,rfl,_,rfl,a,_,dx1,_,_,rfl,ho1,T.aL,T.aB,cG,L,_,rfl,.inl (SqL.of hb1.lst),_,_,rfl,rfl,_,rfl,?_⟩;by_cases c:i<ls.length
 .refine lq (by rw[lA];lia) ?_;refine⟨_,rfl,l,_,rfl,.inl (SqL.of e1),_,rfl,_,_,rfl,rfl,_,rfl,?_⟩;by_cases c2:((((((ls.take i).flatten).filter λz=>decide (k<=z)).map V.int).length:Nat):Int)<n
  .refine lq c2 ?_;refine⟨λσ' H''=>∃m',m'<ls.length-i/\IE a l k n ls H m' σ' H'',λ_ _ h=>h,?_⟩;have ex:ls[i]?=some ls[i]:=Q3 c;obtain⟨b,eb,hbb⟩:=hb1.at ex;have lb:l≠b:=λz=>by
    obtain⟨b',eb',h'⟩:=hb.at ex;rw[eb]at eb';cases eb';rw[<-z,nl]at h';cases h'
   have fl1:=Qo (λz=>decide (k<=z)) (ls.take i).flatten;have fl2:(ls.take i).flatten.length+ls[i].length<=ks.length:=by
    rw[<-ef,qf ls (i+1),rJ ex,Qa,Qa];lia
   refine⟨_,rfl,.inl ⟨rfl,_,SqL.of e1⟩,_,rfl,a,_,dx1,_,_,rfl,ho1,T.aL,T.aB,cG,_,rfl,L,_,_,_,rfl,rfl,SqL.of hb1.lst,fN eb,b,rfl,⟨_,SqL.of hbb⟩,λD hD=>?_⟩;generalize ls[i]=x at ex hbb fl2⊢;refine kP (K:=K) (a:=b) (xs:=x.map V.int) (λm ys H3=>H3=upd H' D (.lst ys)/\ys=((x.take m).filter (λz=>decide (k<=z))).map V.int) ⟨rfl,rfl⟩ (λm ys H3 _ w=>SqL.of (by rw[w.1,af (al hbb hD)];exact hbb)) (λm v ys H3 hv w hDD=>?_) (λys H3 w hDD=>?_)
   .obtain⟨w1,w2⟩:=w;obtain⟨g,rfl,eg⟩:∃g:Int,v= .int g/\x[m]?=some g:=by
     rw[Qn]at hv;cases e:x[m]? with
     |none=>rw[e]at hv;cases hv
     |some g=>rw[e]at hv;cases hv;exact⟨g,rfl,rfl⟩
    have hn:m<(x.map V.int).length:=(Q2.mp hv).1;refine⟨_,rfl,_,rfl,_,_,rfl,rfl,_,rfl,?_⟩;have fl:ys.length<=100000:=by
     rw[w2,Q0];have h1:=Qo (λz=>decide (k<=z)) (x.take m);have h2:(x.take m).length<=x.length:=by rw[Q8];lia
     lia
    by_cases cg:k<=g
    .refine lq cg ⟨_,rfl,CNext.mk hn hDD (bq fl) ⟨by rw[w1,bE],?_⟩⟩;rw[w2,Qr,eg,QB,Qc];simp[cg]
    .refine bc cg (CSkip.mk hn hDD ⟨w1,?_⟩);rw[w2,Qr,eg,QB];simp[cg]
   .obtain⟨w1,w2⟩:=w;rw[Q0,QF]at w2;have s3:Same H' H3:=by rw[w1];exact aj hD
    have e3:=s3 _ _ e1;have fle:=Qo (λz=>decide (k<=z)) x;have hsz:((((ls.take i).flatten).filter λz=>decide (k<=z)).map V.int).length+ys.length<=sizeLine:=by
     rw[w2,Q0,Q0];exact Zq (bq (by lia))
    refine⟨l,D,_,_,rfl,rfl,e3,hDD,hsz,?_⟩;have hE:(((ls.take i).flatten).filter λz=>decide (k<=z)).map V.int++ys=(((ls.take (i+1)).flatten).filter λz=>decide (k<=z)).map V.int:=by
     rw[w2,rJ ex,QB,Qc]
    rw[hE];refine⟨_,rfl,_,_,rfl,rfl,_,?_,i+1,rfl,?_,nl,rfl,c,ae⟩
    .lia
    .exact bN (s1.trans s3) nl
  .refine bc c2 ?_;refine⟨_,rfl,_,rfl,_,rfl,l,_,rfl,SqL.of e1,fin ?_⟩;have:ks.filter (λz=>decide (k<=z))=((ls.take i).flatten).filter (λz=>decide (k<=z))++((ls.drop i).flatten).filter (λz=>decide (k<=z)):=by rw[<-ef,qf ls i,QB]
   rw[this,XT];rw[Q0]at c2;lia
 .refine bc (by rw[lA];lia) ?_;have ei:i=ls.length:=by lia
  subst ei;refine⟨_,rfl,_,rfl,_,rfl,l,_,rfl,SqL.of e1,fin ?_⟩;rw[QF,ef]
def WDn (a l:Addr) (k:Option Int) (n:Int) (ls:List (List Int)) (H:Hp):Nat->St->Hp->Prop:=λm σ H'=>Same H H'/\H l=none/\m<=ls.length/\σ=[some (.ref a),some (vDn k),some (.int n),some (.ref l),some (.int ((m:Int)-1))]/\H' l=some (.lst ((((ls.drop m).flatten).reverse.filter (dZ k)).map V.int))
theorem Hq {c:Prop} [Decidable c] {D:yZ} {A:Prop} (Pv:St->Hp->Prop) (main:∀σ' H',Pv σ' H'->D.nx σ' H') (hA:c->(∀σ' H',Pv σ' H'->D.nx σ' H')->A) (hB:Pv σ H):if c then A else tU D σ H:=bJ (λh=>hA h main) (λ_=>main _ _ hB)
theorem Dr (e:ls[i]?=some x):((ls.drop i).flatten).reverse=((ls.drop (i+1)).flatten).reverse++x.reverse:=by
 obtain⟨h,e⟩:=Q2.mp e;rw[Z2 h,e,Zc,List.reverse_append]
theorem Ds (ok:LvOk ls) (li:LeafOf ls k i0):((ls.drop (i0+1)).flatten).reverse.filter (dZ (some k))=[]:=ZR.mpr λz hz=>by
 have:=li.behind ok z (ZG.mp hz);simp only[dZ,decide_eq_true_eq];lia
theorem FF {len:Nat}:(if((len:Int)-1<(i0:Int))then((len:Int)-1)else(i0:Int))=((min (i0+1) len:Nat):Int)-1:=by
 split<;>lia
theorem Dt (ok:LvOk ls) (li:LeafOf ls k i0):((ls.drop (min (i0+1) ls.length)).flatten).reverse.filter (dZ (some k))=[]:=by
 rcases Nat.le_total (i0+1) ls.length with c|c
 .rw[X0 c];exact Ds ok li
 .rw[XQ c,List.drop_length];rfl
theorem mh (T:Txt K mg t):FnOk P w K mg base CX0 2 t.gB t.dC ["self","key","most"] (lH K t):=by
 refine T.Az.okl sc_Leaves__down_from λ_ _ _ s H vs Q E hr h=>?_;obtain⟨a,k,n,F,ks,rfl,hA,hl,n0,q⟩:=h;refine⟨_,(ac (az (i:=3) sc_Leaves__down_from.nd rfl (Or.inl rfl) (bR ah))
   (ac (az (i:=4) sc_Leaves__down_from.nd rfl (Or.inl rfl) (am ie (aE aD (by rfl) T.bM bg (aa (au (pv 0) rfl) ah)) ag))
   (ac (aU (aq pX (pv 1) bf (ar _))
   (ai (az (i:=4) sc_Leaves__down_from.nd rfl (Or.inl rfl) (aE (nI rfl) (by rfl) T.y7 rR (aa (aQ (pv 0) T.aL T.cE (bS T) hr.mo T.cH .nil aA (aa (pv 1) ah)) (aa (pv 4) ah)))))
   aH)
   (ac (lV PassesOwn.never (PW.pt (fw (aq xf (pv 4) ag (ar _)) (dL (aq dW (aE aD (by rfl) T.bM bg (aa (pv 3) ah)) (pv 2) (ar _)))))
   (ac (aR (dG Qq ZH ZI ni (pv 3) (aa (pW rfl (CScope.of (M:=["one"]) (N:=["self","key","most","told","at"]) (N':=["self","key","most","told","at"]) (dsc:=ak b4) rfl rfl (by decide+kernel)) (Jc (by rfl) T.IH (aa (aW aV (au (pv 0) rfl) (pv 4) (λ_ _=>rfl)) ah)) (λ_ _ _ _ _=>(PW.pt (hV (aq cQ (pv 2) bf (ar _)) (fv (aq lW (pv 0) (pv 2) (ar _)))))) (λ_ _ _ _ _=>(pv 0))) ah)))
   (ai (Ba (i:=4) sc_Leaves__down_from.nd rfl (Or.inl rfl) ag Jx))))
   (ai (aC (eI gH (pv 3) iR (fL (pv 2)))))))))
  ,?_⟩
 obtain⟨L,A,ls,hb,ok,ef,hF⟩:=hA;refine⟨Qj _,λl nl=>?_⟩;have s0:Same H (upd H l (.lst [])):=aj nl;have e0:upd H l (.lst []) l=some (.lst (([]:List Int).map V.int)):=ae;have hb0:=hb.same s0;generalize upd H l (.lst [])=H0 at s0 e0 hb0⊢;obtain⟨dx0,ho0⟩:=hb0.obj;have lA:((A.map V.ref).length:Int)=(ls.length:Int):=by rw[Q0,hb.len]
 refine⟨_,rfl,a,_,dx0,_,_,rfl,ho0,T.aL,T.aB,cG,L,_,rfl,.inl (SqL.of hb0.lst),_,_,rfl,rfl,?_⟩;rw[lA];refine⟨_,rfl,rfl,_,rfl,Hq (λσ' H'=>∃m,WDn a l k n ls H m σ' H') (λσ' H' wW=>?main) (λc key=>?A) ⟨ls.length,s0,nl,Q4 _,rfl,by rw[List.drop_length];exact e0⟩⟩
 case A=>
  cases k with
  |none=>exact absurd c (by decide)
  |some k=>
   obtain⟨dx2,fs2,hi2,hm2⟩:=hb0.insM;refine⟨_,rfl,a,dx2,fs2,rfl,hi2,hm2 _ (by decide+kernel),_,rfl,a,k,L,A,ls,rfl,hb0,ok.ne,ok.up,λi0 li=>?_⟩;refine⟨_,rfl,_,_,rfl,?_⟩;dsimp only;rw[FF];exact key _ _ ⟨min (i0+1) ls.length,s0,nl,Nat.min_le_right _ _,rfl,by rw[Dt ok li];exact e0⟩
 case main=>
  obtain⟨m0,w0⟩:=wW;refine⟨WDn a l k n ls H,⟨m0,w0⟩,?_⟩;rintro m σ H' ⟨s1,_,ml,rfl,e1⟩;have hb1:=hb.same s1;obtain⟨dx1,ho1⟩:=hb1.obj;have fin:∀(done:((((ls.drop m).flatten).reverse.filter (dZ k)).take n.toNat)=(ks.reverse.filter (dZ k)).take n.toNat),∀p,H' p=none->Q (.ref p) (upd H' p (.lst (nP ((((ls.drop m).flatten).reverse.filter (dZ k)).map V.int) none (some n)))):=λdone p np=>by
   refine q _ p (s1.trans (aj np)) ?_ ?_
   .cases e:H p with
    |none=>rfl
    |some o=>rw[s1 _ _ e]at np;cases np
   .rw[ae,mK n0,<-Z7,done]
  refine⟨_,rfl,_,_,rfl,rfl,_,rfl,?_⟩;cases m with
  |zero=>
   refine bc (by decide) ?_;refine⟨_,rfl,_,rfl,_,rfl,l,_,rfl,SqL.of e1,fin ?_⟩;rw[Z9,ef]
  |succ i=>
   have im:((i+1:Nat):Int)-1=(i:Int):=by lia
   rw[im];refine lq (by lia) ?_;refine⟨_,rfl,l,_,rfl,.inl (SqL.of e1),_,rfl,_,_,rfl,rfl,_,rfl,?_⟩;by_cases c2:((((((ls.drop (i+1)).flatten).reverse.filter (dZ k)).map V.int).length:Nat):Int)<n
   .refine lq c2 ?_;refine⟨λσ' H''=>∃m',m'<i+1/\WDn a l k n ls H m' σ' H'',λ_ _ h=>h,?_⟩;have ex:ls[i]?=some ls[i]:=Q3 ml;obtain⟨b,eb,hbb⟩:=hb1.at ex;have fl1:=Qo (dZ k) ((ls.drop (i+1)).flatten).reverse;have fl2:((ls.drop (i+1)).flatten).reverse.length+ls[i].length<=ks.length:=by
     rw[<-ef,qf ls (i+1),rJ ex,Qa,Qa,Z1];lia
    refine⟨_,rfl,.inl ⟨rfl,_,SqL.of e1⟩,_,rfl,a,_,dx1,_,_,rfl,ho1,T.aL,T.aB,cG,_,rfl,L,_,_,_,rfl,rfl,SqL.of hb1.lst,fN eb,b,_,rfl,SqL.of hbb,λD hD=>?_⟩;generalize ls[i]=x at ex hbb fl2⊢;refine Dw (K:=K) (a:=b) (xs:=x.map V.int) (λm ys H3=>H3=upd H' D (.lst ys)/\ys=((x.reverse.take m).filter (dZ k)).map V.int) ⟨rfl,rfl⟩ (λm ys H3 _ w=>SqL.of (by rw[w.1,af (al hbb hD)];exact hbb)) (λm v ys H3 hv w hDD=>?_) (λys H3 w hDD=>?_)
    .obtain⟨w1,w2⟩:=w;obtain⟨g,rfl,eg⟩:∃g:Int,v= .int g/\x.reverse[m]?=some g:=by
      rw[<-List.map_reverse,Qn]at hv;cases e:x.reverse[m]? with
      |none=>rw[e]at hv;cases hv
      |some g=>rw[e]at hv;cases hv;exact⟨g,rfl,rfl⟩
     have hn:m<(x.map V.int).length:=by
      have:=(Q2.mp hv).1;rwa [Z1]at this
     have fl:ys.length<=100000:=by
      rw[w2,Q0];have h1:=Qo (dZ k) (x.reverse.take m);have h2:(x.reverse.take m).length<=x.reverse.length:=by rw[Q8];lia
      rw[Z1]at h2;lia
     have yes:dZ k g=true->CNext (x.map V.int).length m ys D (λm ys H3=>H3=upd H' D (.lst ys)/\ys=((x.reverse.take m).filter (dZ k)).map V.int) (.int g) H3:=λcg=>by
      refine CNext.mk hn hDD (bq fl) ⟨by rw[w1,bE],?_⟩;rw[w2,Qr,eg,QB,Qc];simp[cg]
     have no:dZ k g=false->CSkip (x.map V.int).length m ys D (λm ys H3=>H3=upd H' D (.lst ys)/\ys=((x.reverse.take m).filter (dZ k)).map V.int) H3:=λcg=>by
      refine CSkip.mk hn hDD ⟨w1,?_⟩;rw[w2,Qr,eg,QB];simp[cg]
     refine⟨_,rfl,rfl,_,rfl,?_⟩;cases k with
     |none=>exact c6 (c6 ⟨_,rfl,yes rfl⟩)
     |some k=>
      refine cI ⟨_,rfl,_,rfl,_,_,rfl,rfl,_,rfl,?_⟩;by_cases cg:g<=k
      .exact lq cg ⟨_,rfl,yes (decide_eq_true cg)⟩
      .exact bc cg (no (decide_eq_false cg))
    .obtain⟨w1,w2⟩:=w;rw[Q0,show x.length=x.reverse.length from Z1.symm,QF]at w2;have s3:Same H' H3:=by rw[w1];exact aj hD
     have e3:=s3 _ _ e1;have fle:=Qo (dZ k) x.reverse;have hsz:((((ls.drop (i+1)).flatten).reverse.filter (dZ k)).map V.int).length+ys.length<=sizeLine:=by
      rw[w2,Q0,Q0];rw[Z1]at fle;exact Zq (bq (by lia))
     refine⟨l,D,_,_,rfl,rfl,e3,hDD,hsz,?_⟩;have hE:(((ls.drop (i+1)).flatten).reverse.filter (dZ k)).map V.int++ys=(((ls.drop i).flatten).reverse.filter (dZ k)).map V.int:=by
      rw[w2,Dr ex,QB,Qc]
     rw[hE];refine⟨_,rfl,_,_,rfl,rfl,i,Zx _,bN (s1.trans s3) nl,nl,Zq ml,rfl,ae⟩
   .refine bc c2 ?_;refine⟨_,rfl,_,rfl,_,rfl,l,_,rfl,SqL.of e1,fin ?_⟩;have:ks.reverse.filter (dZ k)=((ls.drop (i+1)).flatten).reverse.filter (dZ k)++((ls.take (i+1)).flatten).reverse.filter (dZ k):=by rw[<-ef,qf ls (i+1),List.reverse_append,QB]
    rw[this,XT];rw[Q0]at c2;lia
theorem tT:(0:Int)<10^(39:Int).toNat:=by decide
theorem zr:∀{a b:List Int},cJ a->cJ b->(∀z,z∈a↔z∈b)->a=b
 | [],[],_,_,_=>rfl
 | [],y::r,_,_,h=>by have:=(h y).mpr Q9;cases this
 |x::r,[],_,_,h=>by have:=(h x).mp Q9;cases this
 |x::r,y::r',ha,hb,h=>by
  obtain⟨a1,a2⟩:=Z5.mp ha;obtain⟨b1,b2⟩:=Z5.mp hb;have exy:x=y:=by
   rcases Qg.mp ((h x).mp Q9)with e|e
   .exact e
   .rcases Qg.mp ((h y).mpr Q9)with e2|e2
    .exact e2.symm
    .have h1:=b1 x e;have h2:=a1 y e2;lia
  subst exy;rw[zr a2 b2 λz=>?_];constructor
  .intro hz;rcases Qg.mp ((h z).mp (Qd _ hz))with e|e
   .have:=a1 z hz;lia
   .exact e
  .intro hz;rcases Qg.mp ((h z).mpr (Qd _ hz))with e|e
   .have:=b1 z hz;lia
   .exact e
theorem LvA.rise (h:LvA K t H a F ks):cJ ks:=by
 obtain⟨_,_,ls,_,ok,ef,_⟩:=h;rw[<-ef];exact ok.up
theorem FH (ms:List Int) (lo hi:Option Int):∃cs:List Int,nP (ms.map V.int) lo hi=cs.map V.int/\cs.Sublist ms:=by
 refine⟨(ms.drop (HT.sIx (ms.map V.int).length 0 lo)).take (HT.sIx (ms.map V.int).length (ms.map V.int).length hi-HT.sIx (ms.map V.int).length 0 lo),?_,?_⟩
 .unfold nP;rw[Z7,ZJ]
 .exact(X7 _ _).trans (List.drop_sublist _ _)
theorem zC (T:Txt K mg t):FnOk P w K mg base CX0 1 t.vp t.pz ["thing"] zh:=by
 refine T.BG.okl zn λ_ _ _ s H vs Q E hr h=>?_;obtain⟨x,rfl,hx,k⟩:=h;refine⟨_,(ai (aC (gd (aE si (by rfl) T.gG dI (aa (pv 0) (aa (BU (v:= .ty "int") (by rfl) T.KS JI rfl) ah))) (cP (Bc (aE si (by rfl) T.gG dI (aa (pv 0) (aa (BU (v:= .ty "bool") (by rfl) T.KQ Hx rfl) ah))))))))
  ,?_⟩
 cases x with
 |int i=>
  refine⟨_,rfl,_,_,_,_,rfl,TyOf.int _,Jo,true,rfl,c6 ?_⟩;exact⟨_,rfl,_,_,_,_,rfl,TyOf.int _,Jp,_,rfl,k⟩
 |bl c=>
  refine⟨_,rfl,_,_,_,_,rfl,TyOf.bl _,Jq,true,rfl,c6 ?_⟩;exact⟨_,rfl,_,_,_,_,rfl,TyOf.bl _,Jr,_,rfl,k⟩
 |str c=>exact⟨_,rfl,_,_,_,_,rfl,TyOf.str _,Jm,false,rfl,cI k⟩
 |non=>exact⟨_,rfl,_,_,_,_,rfl,TyOf.non,Jn,false,rfl,cI k⟩
 |_=>exact hx.elim
theorem oZ (T:Txt K mg t):FnOk P w K mg base CX0 2 t.xN t.rQ ["thing","low"] AQ:=by
 refine T.gR.okl AY λ_ _ _ s H vs Q E hr h=>?_;obtain⟨x,lo,rfl,hx,k⟩:=h;refine⟨_,(ai (aC (gd (aM (zC T) hr.mo (by rfl) T.Jj T.BG.kp T.JK .nil aA (aa (pv 0) ah)) (cP (bG xf (pv 0) (pv 1) (ar _))))))
  ,?_⟩
 cases x with
 |int i=>exact⟨_,rfl,_,rfl,hx,true,rfl,c6 ⟨_,rfl,_,rfl,_,_,rfl,rfl,k⟩⟩
 |bl c=>exact⟨_,rfl,_,rfl,hx,false,rfl,cI k⟩
 |str c=>exact⟨_,rfl,_,rfl,hx,false,rfl,cI k⟩
 |non=>exact⟨_,rfl,_,rfl,hx,false,rfl,cI k⟩
 |_=>exact hx.elim
theorem Bd (T:Txt K mg t):FnOk P w K mg base CX0 1 t.xI t.rL ["bound"] AK:=by
 refine T.xO.okl AT λ_ _ _ s H vs Q E hr h=>?_;obtain⟨x,rfl,hx,k⟩:=h;refine⟨_,(ai (aC (EE (aq cQ (pv 0) bf (ar _)) gb (dU yH (by rfl) T.KR JH (aa (pv 0) ah)))))
  ,?_⟩
 rcases hx with rfl|⟨i,rfl,hi⟩
 .exact⟨_,rfl,rfl,_,rfl,c6 k⟩
 .exact⟨_,rfl,rfl,_,rfl,cI ⟨_,rfl,i,rfl,hi,k⟩⟩
theorem ig (T:Txt K mg t):FnOk P w K mg base CX0 1 t.jE t.jp ["self","kind","at","end"] (gU K):=by
 refine T.jF.okl uk λ_ _ _ s H vs Q E hr h=>?_;obtain⟨p,C,dx,kd,a,e,rfl,hp,cl,n0,n1,n2,k⟩:=h;refine⟨_,(ac (a9 (pv 0) (pv 1) rfl)
   (ac (a9 (pv 0) (pv 2) rfl)
   (ai (a9 (pv 0) (pv 3) rfl))))
  ,?_⟩
 refine⟨_,rfl,_,rfl,p,C,dx,[],rfl,hp,cl,n0,(by show 0<1000;decide),_,rfl,_,rfl,p,C,dx,_,rfl,ae,cl,n1,(by show 1<1000;decide),_,rfl,_,rfl,p,C,dx,_,rfl,ae,cl,n2,?_,?_⟩
 .have h1:=lU (f:="at") (v:=a) (a8 "kind" (.str kd) []);have h2:=lU (f:="kind") (v:= .str kd) [];have h3:([]:List (Str×V)).length=0:=rfl;lia
 rw[bE,bE];refine k _ _ (λb o q z=>by rw[af z];exact q) ae ⟨?_,?_,?_,?_,?_⟩
 .rw[bi,if_neg (by decide+kernel),bi,if_neg (by decide+kernel),bi,if_pos rfl]
 .rw[bi,if_neg (by decide+kernel),bi,if_pos rfl]
 .rw[bi,if_pos rfl]
 .rw[bi,if_neg (by decide+kernel),bi,if_neg (by decide+kernel),bi,if_neg (by decide+kernel)];rfl
 .rw[bi,if_neg (by decide+kernel),bi,if_neg (by decide+kernel),bi,if_neg (by decide+kernel)];rfl
theorem tkN (T:Txt K mg t) {kd:Int} (h:kd=0\/kd=1\/kd=2):Cls K (tkC t kd)/\NoAttr K (tkC t kd) "kind"/\NoAttr K (tkC t kd) "at"/\NoAttr K (tkC t kd) "end":=by
 rcases h with rfl|rfl|rfl
 .exact⟨T.bC,T.tx,T.jk,T.b9⟩
 .exact⟨T.gw,T.Bh,T.p6,T.jJ⟩
 .exact⟨T.b6,T.yt,T.iq,T.iU⟩
theorem Ho {kd:Int} (h:kd=0\/kd=1\/kd=2):(kdS kd).length<=5:=by
 rcases h with rfl|rfl|rfl<;>decide+kernel
theorem sX (T:Txt K mg t):FnOk P w K mg base CX0 2 t.cX t.iF ["self"] (cf t):=by
 refine T.FX.okl sN λ_ _ _ s H vs Q E hr h=>?_;obtain⟨p,dx,kd,fs,a,e,rfl,hp,tf,ho,ba,be,q⟩:=h;refine⟨_,(ai (aC (dG PySem.F.plainAttrs_str PySem.F.slot_str_join PySem.F.type_str_join G9 gb (aa (bR (aa (au (pv 0) rfl) (aa (aM (Bd T) hr.mo (by rfl) T.Dc T.xO.kp T.DA .nil aA (aa (au (pv 0) rfl) ah)) (aa (aM (Bd T) hr.mo (by rfl) T.Dc T.xO.kp T.DA .nil aA (aa (au (pv 0) rfl) ah)) ah)))) ah))))
  ,?_⟩
 obtain⟨cl,n0,n1,n2⟩:=tkN T ho.kd;obtain⟨fa,fe⟩:=okN.few ho ba be;have kl:=Ho ho.kd;refine⟨rfl,_,rfl,p,_,dx,fs,_,rfl,hp,cl,n0,tf.ki,_,rfl,p,_,dx,fs,_,rfl,hp,cl,n1,tf.at_,a,rfl,fa.1,_,rfl,p,_,dx,fs,_,rfl,hp,cl,n2,tf.end_,e,rfl,fe.1,(by show 3<=sizeLine;decide),λl nl=>?_⟩;refine⟨" ",l,[kdS kd,wr a,wr e],rfl,rfl,SqL.of ae,by decide+kernel,?_,q _ (aj nl)⟩;have:=fa.2;have:=fe.2;simp only[Qs,XB,List.sum_cons,List.sum_nil,Qp,ZZ];lia
theorem nB {x:V} (h:isF lo x=true):∃i,x= .int i/\lo<=i:=by
 cases x with
 |int i=>exact⟨i,rfl,of_decide_eq_true h⟩
 |_=>cases h
theorem jI (T:Txt K mg t):FnOk P w K mg base CX0 3 t.kY t.cn ["self","at","end"] (qO t):=by
 obtain⟨tk_PLACES,hPLACES⟩:=T.g_PLACES;refine T.D3.ok qR (λvs H Q E h=>?_) (λcdv A outer s H vs Q E hr h=>?_)
 .obtain⟨p,dx,a,e,rfl,_⟩:=h;rfl
 .obtain⟨p,dx,a,e,rfl,hp,sa,se,k1,k2⟩:=h;refine⟨_,(ac (aU (rc (PW.pt (fw (eG (aM (oZ T) hr.mo (by rfl) T.jL T.gR.kp T.jQ .nil aA (aa (pv 1) (aa ag ah)))) (fw (eG (aM (oZ T) hr.mo (by rfl) T.jL T.gR.kp T.jQ .nil aA (aa (pv 2) (aa (pv 1) ah)))) (dL (aq lW (pv 2) (cy (v:= .int 65536) (by rfl) hPLACES ⟨_,rfl⟩) (ar _)))))))
   (ai cx)
   aH)
   (ai (aR (yk (by rfl) T.zM T.nZ T.jF.kp (ig T) hr.mo T.ou .nil aA (aa (pv 0) (aa gb (aa (pv 1) (aa (pv 2) ah))))))))
   ,?_⟩
  refine⟨_,rfl,a,0,rfl,sa,_,rfl,bJ (λc=>?_) (λc=>?_)⟩
  .obtain⟨i,rfl,i0⟩:=nB c;refine⟨_,rfl,_,rfl,e,i,rfl,se,_,rfl,bJ (λc=>?_) (λc=>?_)⟩
   .obtain⟨j,rfl,ij⟩:=nB c;refine⟨_,rfl,_,_,rfl,rfl,_,rfl,?_⟩;by_cases cj:j<=65536
    .rw[decide_eq_true cj];exact cI ⟨_,rfl,_,rfl,_,rfl,p,_,dx,_,.int i,.int j,rfl,hp,T.bC,T.tx,T.jk,T.b9,λH' fs k h f=>k1 ⟨i,j,rfl,rfl,i0,ij,cj⟩ H' fs k h f⟩
    .rw[decide_eq_false cj];exact c6 ((k2 λ⟨i',j',e1,e2,_,_,h⟩=>by cases e2;exact cj h))
   .exact c6 ((k2 λ⟨i',j',e1,e2,_,h,_⟩=>c (by cases e1;rw[e2];exact decide_eq_true h)))
  .exact c6 ((k2 λ⟨i',j',e1,_,h,_⟩=>c (by rw[e1];exact decide_eq_true h)))
theorem rX (T:Txt K mg t):FnOk P w K mg base CX0 3 t.vt t.iE ["self","at","end"] (zj t):=by
 refine T.JV.ok zo (λvs H Q E h=>?_) (λcdv A outer s H vs Q E hr h=>?_)
 .obtain⟨p,dx,a,e,rfl,_⟩:=h;rfl
 .obtain⟨p,dx,a,e,rfl,hp,sa,se,k1,k2⟩:=h;refine⟨_,(ac (aU (rc (PW.pt (fw (eG (aM (oZ T) hr.mo (by rfl) T.jL T.gR.kp T.jQ .nil aA (aa (pv 1) (aa ag ah)))) (dL (PW.pt (hV (aq cQ (pv 2) bf (ar _)) (fv (eG (aM (oZ T) hr.mo (by rfl) T.jL T.gR.kp T.jQ .nil aA (aa (pv 2) (aa (pv 1) ah)))))))))))
   (ai cx)
   aH)
   (ai (aR (yk (by rfl) T.zM T.nZ T.jF.kp (ig T) hr.mo T.ou .nil aA (aa (pv 0) (aa gb (aa (pv 1) (aa (pv 2) ah))))))))
   ,?_⟩
  refine⟨_,rfl,a,0,rfl,sa,_,rfl,bJ (λc=>?_) (λc=>?_)⟩
  .obtain⟨i,rfl,i0⟩:=nB c;have fin:okU (.int i) e->gU K [.ref p,.str "up",.int i,e] H (λ_ H'=>Q .non H') E0:=λok=>⟨p,_,dx,"up",.int i,e,rfl,hp,T.gw,T.Bh,T.p6,T.jJ,λH' fs k h f=>k1 ok H' fs k h f⟩;by_cases ce:e= .non
   .exact⟨_,rfl,rfl,_,rfl,fS ce (cI ⟨_,rfl,_,rfl,_,rfl,fin ⟨i,rfl,i0,.inl ce⟩⟩)⟩
   .refine⟨_,rfl,rfl,_,rfl,bc ce ⟨_,rfl,_,rfl,e,i,rfl,se,_,rfl,?_⟩⟩;cases ci:isF i e with
    |true=>
     obtain⟨j,rfl,ij⟩:=nB ci;exact cI ⟨_,rfl,_,rfl,_,rfl,fin ⟨i,rfl,i0,.inr ⟨j,rfl,ij⟩⟩⟩
    |false=>
     refine c6 ((k2 λ⟨i',e1,_,e2⟩=>?_));cases e1;rcases e2 with e2|⟨j',e2,h⟩
     .exact ce e2
     .rw[e2]at ci;exact of_decide_eq_false ci h
  .exact c6 ((k2 λ⟨i',e1,h,_⟩=>c (by rw[e1];exact decide_eq_true h)))
theorem nY (T:Txt K mg t):FnOk P w K mg base CX0 3 t.qE t.eX ["self","at","end"] (vV t):=by
 refine T.HU.ok we (λvs H Q E h=>?_) (λcdv A outer s H vs Q E hr h=>?_)
 .obtain⟨p,dx,a,e,rfl,_⟩:=h;rfl
 .obtain⟨p,dx,a,e,rfl,hp,sa,se,k1,k2⟩:=h;refine⟨_,(ac (aU (rc (PW.pt (fw (eG (aM (oZ T) hr.mo (by rfl) T.jL T.gR.kp T.jQ .nil aA (aa (pv 2) (aa ag ah)))) (dL (PW.pt (hV (aq cQ (pv 1) bf (ar _)) (fv (eG (aM (oZ T) hr.mo (by rfl) T.jL T.gR.kp T.jQ .nil aA (aa (pv 1) (aa (pv 2) ah)))))))))))
   (ai cx)
   aH)
   (ai (aR (yk (by rfl) T.zM T.nZ T.jF.kp (ig T) hr.mo T.ou .nil aA (aa (pv 0) (aa gb (aa (pv 1) (aa (pv 2) ah))))))))
   ,?_⟩
  refine⟨_,rfl,e,0,rfl,se,_,rfl,bJ (λc=>?_) (λc=>?_)⟩
  .obtain⟨j,rfl,j0⟩:=nB c;have fin:okD a (.int j)->gU K [.ref p,.str "down",a,.int j] H (λ_ H'=>Q .non H') E0:=λok=>⟨p,_,dx,"down",a,.int j,rfl,hp,T.b6,T.yt,T.iq,T.iU,λH' fs k h f=>k1 ok H' fs k h f⟩;by_cases ce:a= .non
   .exact⟨_,rfl,rfl,_,rfl,fS ce (cI ⟨_,rfl,_,rfl,_,rfl,fin ⟨j,rfl,j0,.inl ce⟩⟩)⟩
   .refine⟨_,rfl,rfl,_,rfl,bc ce ⟨_,rfl,_,rfl,a,j,rfl,sa,_,rfl,?_⟩⟩;cases ci:isF j a with
    |true=>
     obtain⟨i,rfl,ij⟩:=nB ci;exact cI ⟨_,rfl,_,rfl,_,rfl,fin ⟨j,rfl,j0,.inr ⟨i,rfl,ij⟩⟩⟩
    |false=>
     refine c6 ((k2 λ⟨j',e1,_,e2⟩=>?_));cases e1;rcases e2 with e2|⟨i',e2,h⟩
     .exact ce e2
     .rw[e2]at ci;exact of_decide_eq_false ci h
  .exact c6 ((k2 λ⟨j',e1,h,_⟩=>c (by rw[e1];exact decide_eq_true h)))
theorem eL (T:Txt K mg t):FnOk P w K mg base CX0 3 t.jV t.fH ["self","key"] (d9 t):=by
 refine T.DM.okl pP λ_ _ _ s H vs Q E hr h=>?_;obtain⟨p,dx,fs,a,e,k,rfl,hp,tf,⟨i,j,rfl,rfl,i0,ij,j1⟩,h0,q⟩:=h;refine⟨_,(ai (aC (EF lW dW (au (pv 0) rfl) (aM (rW T) hr.mo (by rfl) T.Bp T.vC.kp T.BA .nil aA (aa (pv 1) ah)) (au (pv 0) rfl))))
  ,?_⟩
 have q:Q (.bl (decide (i<=tz (k%65536))&&decide (tz (k%65536)<j))) H:=q H (Same.refl H);refine⟨_,rfl,p,_,dx,fs,_,rfl,hp,T.bC,T.jk,tf.at_,_,rfl,k,rfl,_,_,rfl,rfl,_,rfl,bJ (λc=>?_) (λc=>?_)⟩
 .refine⟨_,rfl,p,_,dx,fs,_,rfl,hp,T.bC,T.b9,tf.end_,_,_,rfl,rfl,?_⟩;rw[c,ZV]at q;exact q
 .rw[QP.mpr c,ZC]at q;exact q
theorem gI (T:Txt K mg t):FnOk P w K mg base CX0 1 t.sv t.mG ["self","key"] (cY t):=by
 refine T.IG.okl yc λ_ _ _ s H vs Q E hr h=>?_;obtain⟨p,dx,fs,a,e,k,rfl,hp,tf,⟨i,rfl,i0,he⟩,h0,q⟩:=h;refine⟨_,(ai (aC (gd (bG lW (au (pv 0) rfl) (pv 1) (ar _)) (cP (zx (bG cQ (au (pv 0) rfl) bf (ar _)) (cP (bG dW (pv 1) (au (pv 0) rfl) (ar _))))))))
  ,?_⟩
 have q:=q H (Same.refl H);rcases he with rfl|⟨j,rfl,ij⟩
 .have q:Q (.bl (decide (i<=k))) H:=q;refine⟨_,rfl,p,_,dx,fs,_,rfl,hp,T.gw,T.p6,tf.at_,_,rfl,_,_,rfl,rfl,_,rfl,bJ (λc=>⟨_,rfl,p,_,dx,fs,_,rfl,hp,T.gw,T.jJ,tf.end_,rfl,_,rfl,fS rfl ?_⟩) (λc=>?_)⟩
  .rw[c]at q;exact q
  .rw[QP.mpr c]at q;exact q
 .have q:Q (.bl (decide (i<=k)&&decide (k<j))) H:=q;refine⟨_,rfl,p,_,dx,fs,_,rfl,hp,T.gw,T.p6,tf.at_,_,rfl,_,_,rfl,rfl,_,rfl,bJ (λc=>⟨_,rfl,p,_,dx,fs,_,rfl,hp,T.gw,T.jJ,tf.end_,rfl,_,rfl,bc (λz=>by cases z) ⟨_,rfl,_,rfl,p,_,dx,fs,_,rfl,hp,T.gw,T.jJ,tf.end_,_,_,rfl,rfl,?_⟩⟩) (λc=>?_)⟩
  .rw[c,ZV]at q;exact q
  .rw[QP.mpr c,ZC]at q;exact q
theorem eK (T:Txt K mg t):FnOk P w K mg base CX0 1 t.oN t.jC ["self","key"] (b7 t):=by
 refine T.GG.okl ux λ_ _ _ s H vs Q E hr h=>?_;obtain⟨p,dx,fs,a,e,k,rfl,hp,tf,⟨j,rfl,j0,ha⟩,h0,q⟩:=h;refine⟨_,(ai (aC (gd (bG lW (au (pv 0) rfl) (pv 1) (ar _)) (cP (zx (bG cQ (au (pv 0) rfl) bf (ar _)) (cP (bG lW (pv 1) (au (pv 0) rfl) (ar _))))))))
  ,?_⟩
 have q:=q H (Same.refl H);rcases ha with rfl|⟨i,rfl,ij⟩
 .have q:Q (.bl (decide (j<=k))) H:=q;refine⟨_,rfl,p,_,dx,fs,_,rfl,hp,T.b6,T.iU,tf.end_,_,rfl,_,_,rfl,rfl,_,rfl,bJ (λc=>⟨_,rfl,p,_,dx,fs,_,rfl,hp,T.b6,T.iq,tf.at_,rfl,_,rfl,fS rfl ?_⟩) (λc=>?_)⟩
  .rw[c]at q;exact q
  .rw[QP.mpr c]at q;exact q
 .have q:Q (.bl (decide (j<=k)&&decide (k<=i))) H:=q;refine⟨_,rfl,p,_,dx,fs,_,rfl,hp,T.b6,T.iU,tf.end_,_,rfl,_,_,rfl,rfl,_,rfl,bJ (λc=>⟨_,rfl,p,_,dx,fs,_,rfl,hp,T.b6,T.iq,tf.at_,rfl,_,rfl,bc (λz=>by cases z) ⟨_,rfl,_,rfl,p,_,dx,fs,_,rfl,hp,T.b6,T.iq,tf.at_,_,_,rfl,rfl,?_⟩⟩) (λc=>?_)⟩
  .rw[c,ZV]at q;exact q
  .rw[QP.mpr c,ZC]at q;exact q
structure Mk1 where
 p:Addr
 mo:Int
 v:V
structure MkA (t:Adr) (H:Hp) (m l:Addr) (es:List Mk1):Prop where
 ob:∃dx,H m=some (.ins t.fQ dx [("made",.ref l)])
 li:H l=some (.lst (es.map λe=>V.ref e.p))
 tu:∀e∈es,H e.p=some (.tup [.int e.mo,e.v])
theorem MkA.keep {m l:Addr} {es:List Mk1} (h:MkA t H m l es) (e1:H' m=H m) (e2:H' l=H l) (tp:∀b xs,H b=some (.tup xs)->H' b=some (.tup xs)):MkA t H' m l es:=⟨h.ob.imp λ_ e=>e1.trans e,e2.trans h.li,λe he=>tp _ _ (h.tu e he)⟩
def ua (t:Adr):Sp:=λvs H Q _=>∃(a dx:Addr),vs=[.ref a]/\H a=some (.ins t.fQ dx [])/\∀(H':Hp) (l:Addr),MkA t H' a l []->H l=none->(∀b o,b≠a->H b=some o->H' b=some o)->Q .non H'
theorem uL (T:Txt K mg t):FnOk P w K mg base CX0 1 t.oE t.jw ["self"] (ua t):=by
 refine T.GA.okl uu λ_ _ _ s H vs Q E hr h=>?_;obtain⟨a,dx,rfl,ha,q⟩:=h;refine⟨_,(ai (a9 (pv 0) (bR ah) rfl))
  ,?_⟩
 refine⟨Qj _,λl nl=>⟨_,rfl,a,_,dx,[],rfl,(by rw[af (al ha nl)];exact ha),T.Ab,T.wB,(by show 0<1000;decide),?_⟩⟩;have na:a≠l:=al ha nl;exact q _ l ⟨⟨dx,ae⟩,by rw[af na.symm];exact ae,λe he=>by cases he⟩ nl λb o n e=>by rw[af n,af (al e nl)];exact e
def t9 (t:Adr):Sp:=λvs H Q _=>∃(m l:Addr) (es:List Mk1) (mo:Int) (v:V),vs=[.ref m,.int mo,v]/\MkA t H m l es/\es.length<100000/\
 ∀(H':Hp) (p:Addr),MkA t H' m l (es++ [⟨p,mo,v⟩])->H p=none->(∀b o,b≠l->H b=some o->H' b=some o)->Q .non H'
theorem uK (T:Txt K mg t):FnOk P w K mg base CX0 1 t.oC t.jv ["self","moment","value"] (t9 t):=by
 refine T.Gz.okl ut λ_ _ _ s H vs Q E hr h=>?_;obtain⟨m,l,es,mo,v,rfl,M,le,q⟩:=h;refine⟨_,(ai (aR (dG Qq QV QW dX (au (pv 0) rfl) (aa (bz (aa (pv 1) (aa (pv 2) ah))) ah))))
  ,?_⟩
 obtain⟨dx,ho⟩:=M.ob;refine⟨_,rfl,m,_,dx,_,_,rfl,ho,T.Ab,T.wB,rfl,.inl ⟨rfl,_,SqL.of M.li⟩,_,rfl,_,rfl,(by show 2<=sizeLine;decide),λp np=>?_⟩;have s1:=aj (o:= .tup [.int mo,v]) np;have pl:p≠l:=λz=>by rw[z,M.li]at np;cases np
 have lm:m≠l:=λz=>by have:=M.li;rw[<-z,ho]at this;cases this
 refine⟨l,_,_,rfl,rfl,s1 _ _ M.li,bq (by rw[Q0];lia),?_⟩;refine q _ p ⟨⟨dx,by rw[af lm];exact s1 _ _ ho⟩,by rw[ae,Qc];rfl,λe he=>?_⟩ np λb o n e=>by rw[af n];exact s1 _ _ e
 rcases Q5.mp he with he|he
 .have te:=s1 _ _ (M.tu e he);rw[af (λz=>by rw[z,s1 _ _ M.li]at te;cases te)];exact te
 .rw[Q7.mp he];rw[af pl];exact ae
section
theorem SlA.notup (h:SlA K t H a F st) (e:H b=some (.tup xs)):¬F b:=λhb=>by
 obtain⟨d,h1,h2,_⟩:=h;obtain⟨dx,ho⟩:=h1.obj;have no:∀o,H b=some o->(∀ys,o≠ .tup ys)->False:=λo q n=>by rw[e]at q;exact n _ (Option.some.inj q).symm
 rcases(h2 b).mp hb with rfl|rfl|rfl|hb|⟨hs,rfl⟩|hb
 .exact no _ ho (λ_ z=>by cases z)
 .exact no _ h1.tbl (λ_ z=>by cases z)
 .exact no _ h1.row0.lst (λ_ z=>by cases z)
 .obtain⟨_,_,_,_,q⟩:=h1.row0.has hb;exact no _ q (λ_ z=>by cases z)
 .have r1:=h1.row1;cases en:st.nxt with
  |none=>rw[en]at hs;cases hs
  |some m=>rw[en]at r1;exact no _ r1.lst (λ_ z=>by cases z)
 .have r1:=h1.row1;cases en:st.nxt with
  |none=>rw[en]at r1;rw[r1.1]at hb;cases hb
  |some m=>
   rw[en]at r1;obtain⟨_,_,_,_,q⟩:=r1.has hb;exact no _ q (λ_ z=>by cases z)
theorem LvA.notup (h:LvA K t H a F ks) (e:H b=some (.tup xs)):¬F b:=λhb=>by
 obtain⟨L,A,ls,h1,_,_,h2⟩:=h;obtain⟨dx,ho⟩:=h1.obj;have no:∀o,H b=some o->(∀ys,o≠ .tup ys)->False:=λo q n=>by rw[e]at q;exact n _ (Option.some.inj q).symm
 rcases(h2 b).mp hb with rfl|rfl|hb
 .exact no _ ho (λ_ z=>by cases z)
 .exact no _ h1.lst (λ_ z=>by cases z)
 .obtain⟨_,_,_,_,q⟩:=h1.has hb;exact no _ q (λ_ z=>by cases z)
end
structure Pk where
 k:Int
 m:Addr
 l:Addr
 es:List Mk1
structure HSt where
 now:Int
 fl:Int
 ma:Int
 st:SSt
 ks:List Int
 di:List (Addr×List V)
 pa:List Pk
 ho:List (Int×V)
def eO:List Pk->Int->List Mk1
 | [],_=> []
 |e::r,k=>if e.k=k then e.es else eO r k
def paD (pa:List Pk):List (Int×V):=pa.map λe=>(e.k,V.ref e.m)
def hoF (now fl:Int) (s l w:Addr) (mk:Int) (p h:Addr):List (Str×V):=[("now",.int now),("floor",.int fl),("slots",.ref s),("leaves",.ref l),("written",.ref w),("marks",.int mk),("past",.ref p),("holders",.ref h)]
def NoH (m:Str):Prop:=m≠("now":Str)/\m≠("floor":Str)/\m≠("slots":Str)/\m≠("leaves":Str)/\m≠("written":Str)/\m≠("marks":Str)/\m≠("past":Str)/\m≠("holders":Str)
instance {m:Str}:Decidable (NoH m):=by unfold NoH;infer_instance
section
variable {now now' fl mk mk':Int} {s l w h:Addr} {m:Str}
theorem tL:(hoF now fl s l w mk p h).lookup ("now":Str)=some (.int now):=fO
theorem JB:(hoF now fl s l w mk p h).lookup ("floor":Str)=some (.int fl):=by unfold hoF;rw[bD (by decide+kernel),fO]
theorem u8:(hoF now fl s l w mk p h).lookup ("slots":Str)=some (.ref s):=by unfold hoF;rw[bD (by decide+kernel),bD (by decide+kernel),fO]
theorem Bv:(hoF now fl s l w mk p h).lookup ("leaves":Str)=some (.ref l):=by unfold hoF;rw[bD (by decide+kernel),bD (by decide+kernel),bD (by decide+kernel),fO]
theorem Bt:(hoF now fl s l w mk p h).lookup ("written":Str)=some (.ref w):=by unfold hoF;rw[bD (by decide+kernel),bD (by decide+kernel),bD (by decide+kernel),bD (by decide+kernel),fO]
theorem Bu:(hoF now fl s l w mk p h).lookup ("marks":Str)=some (.int mk):=by unfold hoF;rw[bD (by decide+kernel),bD (by decide+kernel),bD (by decide+kernel),bD (by decide+kernel),bD (by decide+kernel),fO]
theorem JA:(hoF now fl s l w mk p h).lookup ("past":Str)=some (.ref p):=by unfold hoF;rw[bD (by decide+kernel),bD (by decide+kernel),bD (by decide+kernel),bD (by decide+kernel),bD (by decide+kernel),bD (by decide+kernel),fO]
theorem Fh (n:NoH m):(hoF now fl s l w mk p h).lookup m=none:=by
 obtain⟨h1,h2,h3,h4,h5,h6,h7,h8⟩:=n;unfold hoF;rw[bD h1,bD h2,bD h3,bD h4,bD h5,bD h6,bD h7,bD h8];rfl
theorem G0:a8 ("now":Str) (.int now') (hoF now fl s l w mk p h)=hoF now' fl s l w mk p h:=by unfold hoF;rw[a8,if_pos rfl]
theorem IZ:a8 ("marks":Str) (.int mk') (hoF now fl s l w mk p h)=hoF now fl s l w mk' p h:=by
 unfold hoF;rw[a8,if_neg (by decide+kernel),a8,if_neg (by decide+kernel),a8,if_neg (by decide+kernel),a8,if_neg (by decide+kernel),a8,if_neg (by decide+kernel),a8,if_pos rfl]
theorem Ce:(hoF now fl s l w mk p h).length<1000:=by show 8<1000;decide
end
def Ow (a w p h:Addr) (pa:List Pk):Addr->Prop:=λb=>b=a\/b=w\/b=p\/b=h\/∃e∈pa,b=e.m\/b=e.l
structure HoO (t:Adr) (H:Hp) (a s l w p h:Addr) (x:HSt):Prop where
 ob:∃dx,H a=some (.ins t.aK dx (hoF x.now x.fl s l w x.ma p h))
 wr:H w=some (.lst (x.di.map λe=>V.ref e.1))
 dr:∀e∈x.di,H e.1=some (.tup e.2)
 pa:H p=some (.dK (aJ (paD x.pa)))
 ho:H h=some (.dK (aJ x.ho))
 mx:∀e∈x.pa,MkA t H e.m e.l e.es
 ph:p≠h
 wl:∀e∈x.pa,e.l≠w
 kd:(x.pa.map (·.k)).Nodup
 md:(x.pa.map (·.m)).Nodup
 ld:(x.pa.map (·.l)).Nodup
theorem b3 {t u:TS} {D:yZ} (M:St->Hp->Prop) (h1:∀nx,(∀σ' H',M σ' H'->nx σ' H')->t {D with nx:=nx} σ H) (h2:∀σ' H',M σ' H'->u D σ' H'):Ej t u D σ H:=h1 (u D) h2
theorem xn:jM (aJ kvs)=(kvs.map (·.1)).map V.int:=by
 unfold jM aJ;rw[Qu,Qu];rfl
theorem br:a8 f v []=[(f,v)]:=rfl
theorem ay {g:Str} {x:V} (n:g≠f):a8 f v ((g,x)::r)=(g,x)::a8 f v r:=by rw[a8,if_neg n]
theorem c7 {H2:Hp} (s:Same H H2) (n:H2 p=none):H p=none:=by
 cases e:H p with
 |none=>rfl
 |some o=>rw[s _ _ e]at n;cases n
theorem EQ {f:α->β} {l:List α} (n:(l.map f).Nodup) {x y:α} (hx:x∈l) (hy:y∈l) (e:f x=f y):x=y:=by
 induction l with
 |nil=>cases hx
 |cons z r ih=>
  obtain⟨n1,n2⟩:=QM.mp n;rcases Qg.mp hx with rfl|hx'<;>rcases Qg.mp hy with rfl|hy'
  .rfl
  .exact absurd (Qh.mpr ⟨y,hy',e.symm⟩) n1
  .exact absurd (Qh.mpr ⟨x,hx',e⟩) n1
  .exact ih n2 hx' hy'
section
variable {s l w h:Addr} {x:HSt} {pa:List Pk} {y:Mk1}
theorem HoO.dom (A:HoO t H a s l w p h x) (hb:Ow a w p h x.pa b):∃o,H b=some o/\∀ys,o≠ .tup ys:=by
 obtain⟨dx,ho⟩:=A.ob;rcases hb with rfl|rfl|rfl|rfl|⟨e,he,rfl|rfl⟩
 .exact⟨_,ho,λ_ z=>by cases z⟩
 .exact⟨_,A.wr,λ_ z=>by cases z⟩
 .exact⟨_,A.pa,λ_ z=>by cases z⟩
 .exact⟨_,A.ho,λ_ z=>by cases z⟩
 .obtain⟨dy,hm⟩:=(A.mx e he).ob;exact⟨_,hm,λ_ z=>by cases z⟩
 .exact⟨_,(A.mx e he).li,λ_ z=>by cases z⟩
theorem HoO.keep (A:HoO t H a s l w p h x) (g:∀b,Ow a w p h x.pa b->H' b=H b) (tp:∀b xs,H b=some (.tup xs)->H' b=some (.tup xs)):HoO t H' a s l w p h x:=
 ⟨A.ob.imp λ_ e=>(g a (.inl rfl)).trans e,(g w (.inr (.inl rfl))).trans A.wr,λe he=>tp _ _ (A.dr e he),(g p (.inr (.inr (.inl rfl)))).trans A.pa,(g h (.inr (.inr (.inr (.inl rfl))))).trans A.ho,
  λe he=>(A.mx e he).keep (g _ (.inr (.inr (.inr (.inr ⟨e,he,.inl rfl⟩))))) (g _ (.inr (.inr (.inr (.inr ⟨e,he,.inr rfl⟩))))) tp,A.ph,A.wl,A.kd,A.md,A.ld⟩
theorem HoO.same (A:HoO t H a s l w p h x) (m:Same H H'):HoO t H' a s l w p h x:=A.keep (λb hb=>by
 obtain⟨o,e,_⟩:=A.dom hb;rw[e];exact m _ _ e) λb xs e=>m _ _ e
theorem HoO.set (A:HoO t H a s l w p h x) {now mk:Int} {fl:Int}:HoO t (upd H a (.ins t.aK dx (hoF now fl s l w mk p h))) a s l w p h {x with now:=now,fl:=fl,ma:=mk}:=by
 obtain⟨dy,ho⟩:=A.ob;have n:∀{b:Addr} {o:HO},H b=some o->(∀c d fs,o= .ins c d fs->fs.length=1)->b≠a:=λe i z=>by
  rw[z,ho]at e;have:=i _ _ _ (Option.some.inj e).symm;cases this
 have nt:∀{b:Addr} {o:HO},H b=some o->(∀c d fs,o≠ .ins c d fs)->b≠a:=λe i=>n e λc d fs z=>absurd z (i c d fs);refine⟨⟨dx,ae⟩,by rw[af (nt A.wr λ_ _ _ z=>by cases z)];exact A.wr,λe he=>by rw[af (nt (A.dr e he) λ_ _ _ z=>by cases z)];exact A.dr e he,by rw[af (nt A.pa λ_ _ _ z=>by cases z)];exact A.pa,
  by rw[af (nt A.ho λ_ _ _ z=>by cases z)];exact A.ho,λe he=>?_,A.ph,A.wl,A.kd,A.md,A.ld⟩
 have M:=A.mx e he;obtain⟨dm,hm⟩:=M.ob;exact M.keep (af (n hm λ_ _ _ z=>by cases z;rfl)) (af (nt M.li λ_ _ _ z=>by cases z)) λb xs e=>by rw[af (nt e λ_ _ _ z=>by cases z)];exact e
theorem HoO.row (A:HoO t H a s l w p h x) {r:Addr} (hr:H r=some (.tup xs)):HoO t (upd H w (.lst (x.di.map (λe=>V.ref e.1)++ [.ref r]))) a s l w p h {x with di:=x.di++ [(r,xs)]}:=by
 obtain⟨dy,ho⟩:=A.ob;have nt:∀{b:Addr} {o:HO},H b=some o->(∀ys,o≠ .lst ys)->b≠w:=λe i z=>by
  rw[z,A.wr]at e;exact i _ (Option.some.inj e).symm
 refine⟨⟨dy,by rw[af (nt ho λ_ z=>by cases z)];exact ho⟩,by rw[ae,Qc];rfl,λe he=>?_,by rw[af (nt A.pa λ_ z=>by cases z)];exact A.pa,by rw[af (nt A.ho λ_ z=>by cases z)];exact A.ho,λe he=>?_,A.ph,A.wl,A.kd,A.md,A.ld⟩
 .rcases Q5.mp he with he|he
  .rw[af (nt (A.dr e he) λ_ z=>by cases z)];exact A.dr e he
  .rw[Q7.mp he,af (nt hr λ_ z=>by cases z)];exact hr
 .have M:=A.mx e he;obtain⟨dm,hm⟩:=M.ob;exact M.keep (af (nt hm λ_ z=>by cases z)) (af (A.wl e he)) λb xs e=>by rw[af (nt e λ_ z=>by cases z)];exact e
def paN (pa:List Pk) (k:Int) (y:Mk1):List Pk:=pa.map λe=>if e.k=k then{e with es:=e.es++ [y]}else e
theorem xa {f:Pk->β} (hf:∀e es,f {e with es:=es}=f e):(paN pa k y).map f=pa.map f:=by
 unfold paN;rw[Qu];refine Zd λe _=>?_;show f (if e.k=k then _ else e)=_;split
 .exact hf _ _
 .rfl
theorem ym {e:Pk} (h:e∈paN pa k y):∃g∈pa,e.k=g.k/\e.m=g.m/\e.l=g.l/\((g.k=k/\e.es=g.es++ [y])\/(g.k≠k/\e.es=g.es)):=by
 obtain⟨g,hg,rfl⟩:=Qh.mp h;refine⟨g,hg,?_⟩;split
 .rename_i c;exact⟨rfl,rfl,rfl,.inl ⟨c,rfl⟩⟩
 .rename_i c;exact⟨rfl,rfl,rfl,.inr ⟨c,rfl⟩⟩
theorem Jf (hb:Ow a w p h (paN pa k y) b):Ow a w p h pa b:=by
 rcases hb with z|z|z|z|⟨e,he,z⟩
 .exact .inl z
 .exact .inr (.inl z)
 .exact .inr (.inr (.inl z))
 .exact .inr (.inr (.inr (.inl z)))
 .obtain⟨g,hg,_,e2,e3,_⟩:=ym he;rw[e2,e3]at z;exact .inr (.inr (.inr (.inr ⟨g,hg,z⟩)))
theorem HoO.noted (A:HoO t H a s l w p h x) {e:Pk} (he:e∈x.pa) (ek:e.k=k) (M:MkA t H' e.m e.l (e.es++ [y])) (kp:∀b o,b≠e.l->H b=some o->H' b=some o):HoO t H' a s l w p h {x with pa:=paN x.pa k y}:=by
 obtain⟨dy,ho⟩:=A.ob;have hl:=(A.mx e he).li;have nt:∀{b:Addr} {o:HO},H b=some o->(∀ys,o≠ .lst ys)->H' b=some o:=λe i=>kp _ _ (λz=>by
  rw[z,hl]at e;exact i _ (Option.some.inj e).symm) e
 refine⟨⟨dy,nt ho (λ_ z=>by cases z)⟩,kp _ _ (A.wl e he).symm A.wr,λe he=>nt (A.dr e he) (λ_ z=>by cases z),?_,nt A.ho (λ_ z=>by cases z),λf hf=>?_,A.ph,λf hf=>?_,?_,?_,?_⟩
 .show H' p=some (.dK (aJ (paD (paN x.pa k y))));unfold paD;rw[xa λ_ _=>rfl];exact nt A.pa λ_ z=>by cases z
 .obtain⟨g,hg,e1,e2,e3,⟨c,e4⟩|⟨c,e4⟩⟩:=ym hf
  .have:g=e:=EQ A.kd hg he (c.trans ek.symm);subst this;rw[e2,e3,e4];exact M
  .have M2:=A.mx g hg;obtain⟨dm,hm⟩:=M2.ob;rw[e2,e3,e4];exact M2.keep ((nt hm λ_ z=>by cases z).trans hm.symm) ((kp _ _ (λz=>c (by rw[EQ A.ld hg he z];exact ek)) M2.li).trans M2.li.symm) λb xs e=>nt e λ_ z=>by cases z
 .obtain⟨g,hg,_,_,e3,_⟩:=ym hf;rw[e3];exact A.wl g hg
 .show((paN x.pa k y).map (·.k)).Nodup;rw[xa λ_ _=>rfl];exact A.kd
 .show((paN x.pa k y).map (·.m)).Nodup;rw[xa λ_ _=>rfl];exact A.md
 .show((paN x.pa k y).map (·.l)).Nodup;rw[xa λ_ _=>rfl];exact A.ld
theorem BV (pa:List Pk) (k:Int):(aO (paD pa) k=none/\k∉pa.map (·.k))\/∃e∈pa,e.k=k/\aO (paD pa) k=some (.ref e.m)/\eO pa k=e.es:=by
 induction pa with
 |nil=>exact .inl ⟨lE,λz=>by cases z⟩
 |cons e r ih=>
  show(aO ((e.k,V.ref e.m)::paD r) k=none/\_)\/∃g∈e::r,g.k=k/\aO ((e.k,V.ref e.m)::paD r) k=_/\(if e.k=k then e.es else eO r k)=_;by_cases c:e.k=k
  .exact .inr ⟨e,Q9,c,bp c,if_pos c⟩
  .rw[bj c,if_neg c];rcases ih with⟨i1,i2⟩|⟨g,hg,i1,i2,i3⟩
   .refine .inl ⟨i1,λz=>?_⟩;rw[Qs]at z;rcases Qg.mp z with z|z
    .exact c z.symm
    .exact i2 z
   .exact .inr ⟨g,Qd _ hg,i1,i2,i3⟩
theorem xj:∀{pa:List Pk},k∉pa.map (·.k)->eO pa k=[]
 | [],_=>rfl
 |e::r,n=>by
  rw[Qs]at n;show(if e.k=k then e.es else eO r k)=[];rw[if_neg λz=>n (by rw[z];exact Q9)];exact xj λz=>n (Qd _ z)
theorem p8 {j:Int}:∀{pa:List Pk},k∈pa.map (·.k)->eO (paN pa k y) j=if j=k then eO pa k++ [y]else eO pa j
 |e::r,n=>by
  show(if(if e.k=k then{e with es:=e.es++ [y]}else e:Pk).k=j then(if e.k=k then{e with es:=e.es++ [y]}else e:Pk).es else eO (paN r k y) j)=if j=k then(if e.k=k then e.es else eO r k)++ [y]else(if e.k=j then e.es else eO r j)
  by_cases c:e.k=k
  .rw[if_pos c,if_pos c];show(if e.k=j then e.es++ [y]else eO (paN r k y) j)=_;by_cases d:j=k
   .rw[if_pos d,if_pos (c.trans d.symm)]
   .rw[if_neg d,if_neg λz=>d (z.symm.trans c),if_neg λz=>d (z.symm.trans c)];by_cases m:k∈r.map (·.k)
    .rw[p8 m,if_neg d]
    .have:paN r k y=r:=by
      unfold paN
      conv=>rhs;rw[<-List.map_id r]
      refine Zd λg hg=>if_neg λz=>m ?_;rw[<-z];exact Qh.mpr ⟨g,hg,rfl⟩
     rw[this]
  .rw[if_neg c,if_neg c];have m:k∈r.map (·.k):=by
    rw[Qs]at n;rcases Qg.mp n with z|z
    .exact absurd z.symm c
    .exact z
   rw[p8 m];by_cases d:j=k
   .rw[if_pos d,if_pos d,if_neg λz=>c (z.trans d)]
   .rw[if_neg d,if_neg d]
theorem uQ {e:Pk} {j:Int}:∀{pa:List Pk},e.k∉pa.map (·.k)->eO (pa++ [e]) j=if j=e.k then e.es else eO pa j
 | [],_=>by
  show(if e.k=j then e.es else[])=if j=e.k then e.es else[]
  by_cases c:e.k=j
  .rw[if_pos c,if_pos c.symm]
  .rw[if_neg c,if_neg (Ne.symm c)]
 |g::r,n=>by
  rw[Qs]at n;show(if g.k=j then g.es else eO (r++ [e]) j)=if j=e.k then e.es else(if g.k=j then g.es else eO r j)
  rw[uQ λz=>n (Qd _ z)];by_cases c:g.k=j
  .rw[if_pos c,if_pos c,if_neg λz=>n (by rw[<-z,<-c];exact Q9)]
  .rw[if_neg c,if_neg c]
theorem HoO.newk (A:HoO t H a s l w p h x) {m g:Addr} (nk:k∉x.pa.map (·.k)) (M:MkA t H m g []) (n1:¬Ow a w p h x.pa m) (n2:¬Ow a w p h x.pa g):HoO t (upd H p (.dK (aJ (paD x.pa++ [(k,.ref m)])))) a s l w p h {x with pa:=x.pa++ [⟨k,m,g,[]⟩]}:=by
 obtain⟨dy,ho⟩:=A.ob;have nt:∀{b:Addr} {o:HO},H b=some o->(∀ys,o≠ .dK ys)->b≠p:=λe i z=>by
  rw[z,A.pa]at e;exact i _ (Option.some.inj e).symm
 have kp:∀{m' l':Addr} {es:List Mk1} {o:HO},MkA t H m' l' es->MkA t (upd H p o) m' l' es:=λM=>by
  obtain⟨dm,hm⟩:=M.ob;exact M.keep (af (nt hm λ_ z=>by cases z)) (af (nt M.li λ_ z=>by cases z)) λb xs e=>by rw[af (nt e λ_ z=>by cases z)];exact e
 refine⟨⟨dy,by rw[af (nt ho λ_ z=>by cases z)];exact ho⟩,by rw[af (nt A.wr λ_ z=>by cases z)];exact A.wr,λe he=>by rw[af (nt (A.dr e he) λ_ z=>by cases z)];exact A.dr e he,?_,by rw[af A.ph.symm];exact A.ho,λe he=>?_,A.ph,λe he=>?_,?_,?_,?_⟩
 .rw[ae];show _=some (HO.dK (aJ (paD (x.pa++ [⟨k,m,g,[]⟩]))));unfold paD;rw[Qc];rfl
 .rcases Q5.mp he with he|he
  .exact kp (A.mx e he)
  .rw[Q7.mp he];exact kp M
 .rcases Q5.mp he with he|he
  .exact A.wl e he
  .rw[Q7.mp he];exact λz=>n2 (.inr (.inl z))
 all_goals
  rw[Qc];refine XJ.mpr ⟨?_,by simp,λu hu v hv z=>?_⟩
 .exact A.kd
 .cases Q7.mp hv;rw[z]at hu;exact nk hu
 .exact A.md
 .cases Q7.mp hv;obtain⟨e,he,ee⟩:=Qh.mp hu;exact n1 (.inr (.inr (.inr (.inr ⟨e,he,.inl (z.symm.trans ee.symm)⟩))))
 .exact A.ld
 .cases Q7.mp hv;obtain⟨e,he,ee⟩:=Qh.mp hu;exact n2 (.inr (.inr (.inr (.inr ⟨e,he,.inr (z.symm.trans ee.symm)⟩))))
end
structure vz (pa pa':List Pk) (k:Int) (y:Mk1):Prop where
 of:∀j,eO pa' j=if j=k then eO pa k++ [y]else eO pa j
 ky:pa'.map (·.k)=if k∈pa.map (·.k)then pa.map (·.k)else pa.map (·.k)++ [k]
structure HoB (K:PySem.W.Frag) (t:Adr) (H:Hp) (a s l w p h:Addr) (Fs Fl:Addr->Prop) (x:HSt):Prop where
 o:HoO t H a s l w p h x
 sl:SlA K t H s Fs x.st
 lv:LvA K t H l Fl x.ks
 a1:∀b,Fs b->¬Fl b
 a2:∀b,Ow a w p h x.pa b->¬Fs b
 a3:∀b,Ow a w p h x.pa b->¬Fl b
def HoF (a w p h:Addr) (Fs Fl:Addr->Prop) (pa:List Pk):Addr->Prop:=λb=>Fs b\/Fl b\/Ow a w p h pa b
section
variable {s l w h:Addr} {Fs Fs' Fl Fl':Addr->Prop} {x:HSt}
theorem HoB.slots (B:HoB K t H a s l w p h Fs Fl x) (S:SlA K t H' s Fs' st) (f:Fr Fs Fs' H H'):HoB K t H' a s l w p h Fs' Fl {x with st:=st}/\Fr (HoF a w p h Fs Fl x.pa) (HoF a w p h Fs' Fl x.pa) H H':=by
 have k1:∀b,Fl b->H' b=H b/\¬Fs' b:=λb hb=>by
  obtain⟨o,e⟩:=B.lv.dom hb;have:=f b o (λz=>B.a1 b z hb) e;exact⟨this.1.trans e.symm,this.2⟩
 have k2:∀b,Ow a w p h x.pa b->H' b=H b/\¬Fs' b:=λb hb=>by
  obtain⟨o,e,_⟩:=B.o.dom hb;have:=f b o (B.a2 b hb) e;exact⟨this.1.trans e.symm,this.2⟩
 have O:=B.o.keep (H':=H') (λb hb=>(k2 b hb).1) λb xs e=>(f b _ (B.sl.notup e) e).1;exact⟨⟨⟨O.ob,O.wr,O.dr,O.pa,O.ho,O.mx,O.ph,O.wl,O.kd,O.md,O.ld⟩,S,B.lv.frame λb hb=>(k1 b hb).1,λb h1 h2=>(k1 b h2).2 h1,λb hb=>(k2 b hb).2,B.a3⟩,λb o n e=>⟨(f b o (λz=>n (.inl z)) e).1,λz=>z.elim (f b o (λz=>n (.inl z)) e).2 λz=>n (.inr z)⟩⟩
theorem HoB.leaves (B:HoB K t H a s l w p h Fs Fl x) (S:LvA K t H' l Fl' ks) (f:Fr Fl Fl' H H'):HoB K t H' a s l w p h Fs Fl' {x with ks:=ks}/\Fr (HoF a w p h Fs Fl x.pa) (HoF a w p h Fs Fl' x.pa) H H':=by
 have k1:∀b,Fs b->H' b=H b/\¬Fl' b:=λb hb=>by
  obtain⟨o,e⟩:=B.sl.dom hb;have:=f b o (B.a1 b hb) e;exact⟨this.1.trans e.symm,this.2⟩
 have k2:∀b,Ow a w p h x.pa b->H' b=H b/\¬Fl' b:=λb hb=>by
  obtain⟨o,e,_⟩:=B.o.dom hb;have:=f b o (B.a3 b hb) e;exact⟨this.1.trans e.symm,this.2⟩
 have O:=B.o.keep (H':=H') (λb hb=>(k2 b hb).1) λb xs e=>(f b _ (B.lv.notup e) e).1;exact⟨⟨⟨O.ob,O.wr,O.dr,O.pa,O.ho,O.mx,O.ph,O.wl,O.kd,O.md,O.ld⟩,B.sl.frame λb hb=>(k1 b hb).1,S,λb h1=>(k1 b h1).2,B.a2,λb hb=>(k2 b hb).2⟩,λb o n e=>⟨(f b o (λz=>n (.inr (.inl z))) e).1,λz=>z.elim (λz=>n (.inl z)) λz=>z.elim (f b o (λz=>n (.inr (.inl z))) e).2 λz=>n (.inr (.inr z))⟩⟩
theorem HoB.own (B:HoB K t H a s l w p h Fs Fl x) (O:HoO t H' a s l w p h x') (e1:x'.st=x.st) (e2:x'.ks=x.ks) (f:Fr (Ow a w p h x.pa) (Ow a w p h x'.pa) H H'):HoB K t H' a s l w p h Fs Fl x'/\Fr (HoF a w p h Fs Fl x.pa) (HoF a w p h Fs Fl x'.pa) H H':=by
 have k1:∀b,Fs b->H' b=H b/\¬Ow a w p h x'.pa b:=λb hb=>by
  obtain⟨o,e⟩:=B.sl.dom hb;have:=f b o (λz=>B.a2 b z hb) e;exact⟨this.1.trans e.symm,this.2⟩
 have k2:∀b,Fl b->H' b=H b/\¬Ow a w p h x'.pa b:=λb hb=>by
  obtain⟨o,e⟩:=B.lv.dom hb;have:=f b o (λz=>B.a3 b z hb) e;exact⟨this.1.trans e.symm,this.2⟩
 exact⟨⟨O,by rw[e1];exact B.sl.frame λb hb=>(k1 b hb).1,by rw[e2];exact B.lv.frame λb hb=>(k2 b hb).1,B.a1,λb h1 h2=>(k1 b h2).2 h1,λb h1 h2=>(k2 b h2).2 h1⟩,λb o n e=>⟨(f b o (λz=>n (.inr (.inr z))) e).1,λz=>z.elim (λz=>n (.inl z)) λz=>z.elim (λz=>n (.inr (.inl z))) (f b o (λz=>n (.inr (.inr z))) e).2⟩⟩
theorem HoB.dom (B:HoB K t H a s l w p h Fs Fl x) (hb:HoF a w p h Fs Fl x.pa b):∃o,H b=some o/\∀ys,o≠ .tup ys:=by
 have no:∀F:Addr->Prop,F b->(∀xs,H b=some (.tup xs)->¬F b)->∀o,H b=some o->∃o,H b=some o/\∀ys,o≠ .tup ys:=λF hF n o e=>⟨o,e,λys z=>n ys (by rw[e,z]) hF⟩;rcases hb with hb|hb|hb
 .obtain⟨o,e⟩:=B.sl.dom hb;exact no Fs hb (λxs e=>B.sl.notup e) o e
 .obtain⟨o,e⟩:=B.lv.dom hb;exact no Fl hb (λxs e=>B.lv.notup e) o e
 .exact B.o.dom hb
theorem HoB.keep (B:HoB K t H a s l w p h Fs Fl x) (g:∀b,HoF a w p h Fs Fl x.pa b->H' b=H b) (tp:∀b xs,H b=some (.tup xs)->H' b=some (.tup xs)):HoB K t H' a s l w p h Fs Fl x:=
 ⟨B.o.keep (λb hb=>g b (.inr (.inr hb))) tp,B.sl.frame λb hb=>g b (.inl hb),B.lv.frame λb hb=>g b (.inr (.inl hb)),B.a1,B.a2,B.a3⟩
end
structure HOk (x:HSt):Prop where
 ks:∀z,z∈x.ks↔(aO x.st.kv z).isSome=true
 n0:0<=x.now
 m0:0<=x.ma
 dl:(x.di.length:Int)=x.now+x.ma
 pl:(x.pa.length:Int)<=x.now
 el:∀j,((eO x.pa j).length:Int)<=x.now
 sl:(x.st.kv.length:Int)<=x.now
 hn:(x.ho.map (·.1)).Nodup
 hv:∀p∈x.ho,x.fl<=p.1/\p.1<=x.now/\∃n:Int,p.2= .int n/\0<n
 fb:0<=x.fl/\x.fl<=x.now
 up:∀j,(eO x.pa j).Pairwise (λa b=>a.mo<b.mo)/\∀y∈eO x.pa j,y.mo<=x.now
def HoA (K:PySem.W.Frag) (t:Adr) (H:Hp) (a:Addr) (F:Addr->Prop) (x:HSt):Prop:=∃s l w p h Fs Fl,HoB K t H a s l w p h Fs Fl x/\HOk x/\∀b,F b↔HoF a w p h Fs Fl x.pa b
section
variable {x:HSt}
theorem HoA.ins (A:HoA K t H a F x):∃dx fs,H a=some (.ins t.aK dx fs)/\(∀m,NoH m->fs.lookup m=none)/\fs.lookup ("now":Str)=some (.int x.now)/\fs.lookup ("floor":Str)=some (.int x.fl):=by
 obtain⟨s,l,w,p,h,Fs,Fl,B,_⟩:=A;obtain⟨dx,e⟩:=B.o.ob;exact⟨dx,_,e,λm hm=>Fh hm,tL,JB⟩
theorem HoA.ok (A:HoA K t H a F x):HOk x:=by
 obtain⟨s,l,w,p,h,Fs,Fl,B,O,_⟩:=A;exact O
theorem HoA.dom (A:HoA K t H a F x) (hb:F b):∃o,H b=some o/\∀ys,o≠ .tup ys:=by
 obtain⟨s,l,w,p,h,Fs,Fl,B,_,g⟩:=A;exact B.dom ((g b).mp hb)
theorem HoA.out (A:HoA K t H a F x) (e:H b=none):¬F b:=λz=>by
 obtain⟨o,q,_⟩:=A.dom z;rw[q]at e;cases e
theorem HoA.keep (A:HoA K t H a F x) (g:∀b,F b->H' b=H b) (tp:∀b xs,H b=some (.tup xs)->H' b=some (.tup xs)):HoA K t H' a F x:=by
 obtain⟨s,l,w,p,h,Fs,Fl,B,O,f⟩:=A;exact⟨s,l,w,p,h,Fs,Fl,B.keep (λb hb=>g b ((f b).mpr hb)) tp,O,f⟩
theorem HoA.same (A:HoA K t H a F x) (m:Same H H'):HoA K t H' a F x:=A.keep (λb hb=>by
 obtain⟨o,e,_⟩:=A.dom hb;rw[e];exact m _ _ e) λb xs e=>m _ _ e
theorem HoA.upd (A:HoA K t H a F x) (n:¬F q) (nt:∀xs,H q≠some (.tup xs)):HoA K t (L2.upd H q o) a F x:=A.keep (λb hb=>af λz=>n (z▸hb)) λb xs e=>by rw[af λz=>nt xs (by rw[<-z];exact e)];exact e
end
def ug (t:Adr):Sp:=λvs H Q _=>∃(a s l w p h r:Addr) (k:Int) (x:HSt) (v:V) (xs:List V),vs=[.ref a,.ref r,v]/\HoO t H a s l w p h x/\H r=some (.tup xs)/\atI xs 1=some (.int k)/\x.di.length<50000/\x.pa.length<50000/\(eO x.pa k).length<50000/\
 ∀(H':Hp) (pa':List Pk) (q:Addr),HoO t H' a s l w p h {x with now:=x.now+1,di:=x.di++ [(r,xs)],pa:=pa'}->vz x.pa pa' k ⟨q,x.now+1,v⟩->Fr (Ow a w p h x.pa) (Ow a w p h pa') H H'->Q (.int (x.now+1)) H'
theorem mi (T:Txt K mg t):FnOk P w K mg base CX0 3 t.oM t.jB ["self","row","value"] (ug t):=by
 refine T.GF.okl sc_House__done λ_ _ _ s H vs Q E hr h=>?_;obtain⟨a,s,l,wr,p,h,r,k,x,v,xs,rfl,A,ht,hk,l1,l2,l3,q⟩:=h;refine⟨_,(ac (az (i:=3) sc_House__done.nd rfl (Or.inl rfl) (aW bU (pv 1) ag (λ_ _=>rfl)))
   (ac (gO (pv 0) ag u7)
   (ac (aR (dG Qq QV QW dX (au (pv 0) rfl) (aa (pv 1) ah)))
   (ac (aR (aQ (dG QQ XW PySem.F.type_dict_setdefault C4 (au (pv 0) rfl) (aa (pv 3) (aa (pV T.Kv (uL T) hr.mo (by rfl) T.Ky T.Gn .nil aA) ah))) T.Ab T.Gd (uK T) hr.mo T.Gm .nil aA (aa (au (pv 0) rfl) (aa (pv 2) ah))))
   (ai (aC (au (pv 0) rfl)))))))
  ,?_⟩
 obtain⟨dx,ho⟩:=A.ob;refine⟨_,rfl,r,_,_,_,rfl,rfl,SqT.of ht,hk,?_⟩;refine⟨_,rfl,a,_,dx,_,_,rfl,ho,T.aN,T.ku,tL,_,_,rfl,rfl,dx,_,ho,Ce,?_⟩;rw[G0];have A1:=A.set (now:=x.now+1) (mk:=x.ma) (fl:=x.fl) (dx:=dx);have o1:∀b o,b≠a->H b=some o->upd H a (.ins t.aK dx (hoF (x.now+1) x.fl s l wr x.ma p h)) b=some o:=λb o n e=>by rw[af n];exact e
 have ra:r≠a:=λz=>by rw[z,ho]at ht;cases ht
 have ht1:=o1 _ _ ra ht;generalize upd H a (.ins t.aK dx (hoF (x.now+1) x.fl s l wr x.ma p h))=H1 at A1 o1 ht1⊢;obtain⟨dx1,ho1⟩:=A1.ob;refine⟨_,rfl,a,_,dx1,_,_,rfl,ho1,T.aN,T.fz,Bt,.inl ⟨rfl,_,SqL.of A1.wr⟩,_,rfl,wr,_,_,rfl,rfl,A1.wr,bq (by rw[Q0];show x.di.length<=_;lia),?_⟩;have A2:=A1.row ht1;have o2:∀b o,¬Ow a wr p h x.pa b->H b=some o->upd H1 wr (.lst (x.di.map (λe=>V.ref e.1)++ [.ref r])) b=some o:=λb o n e=>by rw[af λz=>n (.inr (.inl z))];exact o1 _ _ (λz=>n (.inl z)) e
 generalize upd H1 wr (.lst (x.di.map (λe=>V.ref e.1)++ [.ref r]))=H2 at A2 o2⊢;obtain⟨dx2,ho2⟩:=A2.ob;refine⟨_,rfl,a,_,dx2,_,_,rfl,ho2,T.aN,T.wC,JA,.inr (.inr (.inl ⟨rfl,.inl ⟨_,A2.pa⟩⟩)),_,rfl,λm dm nm nd nmd=>⟨m,dm,rfl,ae,λH4 g M4 ng o4=>⟨rfl,?_⟩⟩⟩;have s3:Same H2 (upd (upd H2 dm (.own m)) m (.ins t.fQ dm [])):=bN (aj nd) nm;have s4:Same H2 H4:=λb o e=>o4 b o (λz=>by rw[z,nm]at e;cases e) (s3 b o e);have ng2:=c7 s3 ng;have A4:=A2.same s4;have om:¬Ow a wr p h x.pa m:=λz=>by obtain⟨o,e,_⟩:=A2.dom z;rw[nm]at e;cases e
 have og:¬Ow a wr p h x.pa g:=λz=>by obtain⟨o,e,_⟩:=A2.dom z;rw[ng2]at e;cases e
 have o5:∀b o,¬Ow a wr p h x.pa b->H b=some o->H4 b=some o/\b≠m/\b≠g:=λb o n e=>⟨s4 _ _ (o2 b o n e),λz=>(by have:=o2 b o n e;rw[z,nm]at this;cases this),λz=>(by have:=o2 b o n e;rw[z,ng2]at this;cases this)⟩;clear s3 s4 o4 o2 o1 A1 A2 ho2 ho1 ho A ng nm nd nmd ng2 ht1 ht;refine⟨p,_,Sum.inl k,.ref m,rfl,rfl,A4.pa,(by rw[cq];exact bq (by show(paD x.pa).length<=_;unfold paD;rw[Q0];lia)),λu hu=>?A,λhn=>?B⟩
 case' A=>
  have hu:aO (aJ (paD x.pa)) (Sum.inl k:Key)=some u:=hu;rw[liftK_val]at hu;obtain⟨e,he,ek,ev,em⟩:∃e∈x.pa,e.k=k/\aO (paD x.pa) k=some (.ref e.m)/\eO x.pa k=e.es:=by
   rcases BV x.pa k with⟨z,_⟩|z
   .rw[z]at hu;cases hu
   .exact z
  rw[ev]at hu;cases hu;obtain⟨pa5,A5,he,N,f5⟩:∃pa5,HoO t H4 a s l wr p h {x with now:=x.now+1,di:=x.di++ [(r,xs)],pa:=pa5}/\e∈pa5/\(∀y,vz x.pa (paN pa5 k y) k y)/\Fr (Ow a wr p h x.pa) (Ow a wr p h pa5) H H4:=
   ⟨x.pa,A4,he,λy=>⟨λj=>p8 (Qh.mpr ⟨e,he,ek⟩),by rw[xa λ_ _=>rfl,if_pos (Qh.mpr ⟨e,he,ek⟩)]⟩,λb o n e=>⟨(o5 b o n e).1,n⟩⟩
  have le:e.es.length<50000:=by rw[<-em];exact l3
  clear A4 em ev o5
 case' B=>
  have hn:aO (aJ (paD x.pa)) (Sum.inl k:Key)=none:=hn;rw[liftK_val]at hn;have nk:k∉x.pa.map (·.k):=by
   rcases BV x.pa k with⟨_,z⟩|⟨e,_,_,z,_⟩
   .exact z
   .rw[z]at hn;cases hn
  have ep:bv (aJ (paD x.pa)) (Sum.inl k:Key) (.ref m)=aJ (paD x.pa++ [(k,.ref m)]):=by
   rw[gQ];unfold bv;rw[cK,hn];rfl
  rw[ep];obtain⟨e,ee,ek,le⟩:∃e:Pk,e=⟨k,m,g,[]⟩/\e.k=k/\e.es.length<50000:=⟨_,rfl,rfl,by show 0<50000;decide⟩;obtain⟨pa5,A5,he,N,f5⟩:∃pa5,HoO t (upd H4 p (.dK (aJ (paD x.pa++ [(k,.ref m)])))) a s l wr p h {x with now:=x.now+1,di:=x.di++ [(r,xs)],pa:=pa5}/\e∈pa5/\(∀y,vz x.pa (paN pa5 k y) k y)/\Fr (Ow a wr p h x.pa) (Ow a wr p h pa5) H (upd H4 p (.dK (aJ (paD x.pa++ [(k,.ref m)])))):=by
   refine⟨x.pa++ [e],ee▸A4.newk nk M4 om og,Qv _ Q9,λy=>⟨λj=>?_,?_⟩,λb o n eb=>⟨?_,λz=>?_⟩⟩
   .have nk':e.k∉x.pa.map (·.k):=by rw[ek];exact nk
    rw[p8 (by rw[Qc];exact Qv _ (Q7.mpr ek.symm)),uQ nk',uQ nk',if_pos ek.symm,xj nk,ee];by_cases c:j=k
    .rw[if_pos c,if_pos c]
    .rw[if_neg c,if_neg c,if_neg c]
   .rw[xa λ_ _=>rfl,if_neg nk,Qc,<-ek];rfl
   .rw[af λz=>n (.inr (.inr (.inl z)))];exact(o5 b o n eb).1
   .rcases z with z|z|z|z|⟨e',he',z⟩
    .exact n (.inl z)
    .exact n (.inr (.inl z))
    .exact n (.inr (.inr (.inl z)))
    .exact n (.inr (.inr (.inr (.inl z))))
    .rcases Q5.mp he' with y|y
     .exact n (.inr (.inr (.inr (.inr ⟨e',y,z⟩))))
     .rw[Q7.mp y,ee]at z;exact z.elim (o5 b o n eb).2.1 (o5 b o n eb).2.2
  have em:V.ref m=V.ref e.m:=by rw[ee]
  clear A4 M4 o5 om og hn nk ep;generalize upd H4 p (.dK (aJ (paD x.pa++ [(k,.ref m)])))=H5 at A5 f5⊢;rw[em]
 all_goals
  have M5:=A5.mx e he;obtain⟨dy,hm⟩:=M5.ob;obtain⟨dx5,ho5⟩:=A5.ob;refine⟨e.m,dy,_,rfl,hm,bD (by decide+kernel),_,rfl,a,_,dx5,_,_,rfl,ho5,T.aN,T.ku,tL,_,rfl,e.m,e.l,e.es,_,v,rfl,M5,by lia,λH6 y M6 ny o6=>?_⟩;have A6:=A5.noted he ek M6 o6;obtain⟨dx6,ho6⟩:=A6.ob;refine⟨_,rfl,a,_,dx6,_,_,rfl,ho6,T.aN,T.ku,tL,q _ _ y A6 (N _) (f5.trans λb o n eb=>⟨o6 b o (λz=>n (.inr (.inr (.inr (.inr ⟨e,he,.inr z⟩))))) eb,λz=>n (Jf z)⟩)⟩
def HSt.new:HSt:=⟨0,0,0,SSt.new,[],[],[],[]⟩
theorem HSt.new_ok:HOk HSt.new:=⟨λz=>⟨(λy=>by cases y),(λy=>by cases y)⟩,by decide,by decide,rfl,by decide,λ_=>by show((0:Nat):Int)<=0;decide,by decide,Zj,(λ_ z=>by cases z),by decide,λ_=>⟨List.Pairwise.nil,(λy z=>by cases z)⟩⟩
def ud (K:PySem.W.Frag) (t:Adr):Sp:=λvs H Q _=>∃(a dx:Addr),vs=[.ref a]/\H a=some (.ins t.aK dx [])/\∀H' F,HoA K t H' a F HSt.new->Fr (λb=>b=a) F H H'->Q .non H'
theorem uN (T:Txt K mg t):FnOk P w K mg base CX0 4 t.oJ t.jz ["self"] (ud K t):=by
 refine T.GD.okl uv λ_ _ _ s H vs Q E hr h=>?_;obtain⟨a,dx,rfl,ha,q⟩:=h;refine⟨_,(ac (a9 (pv 0) ag rfl)
   (ac (a9 (pv 0) ag rfl)
   (ac (a9 (pv 0) (pV T.Ku (uI T) hr.mo (by rfl) T.Kx T.Gj .nil aA) rfl)
   (ac (a9 (pv 0) (pV T.JX (sY T) hr.mo (by rfl) T.JZ T.FP .nil aA) rfl)
   (ac (a9 (pv 0) (bR ah) rfl)
   (ac (a9 (pv 0) ag rfl)
   (ac (a9 (pv 0) eJ rfl)
   (ai (a9 (pv 0) eJ rfl)))))))))
  ,?_⟩
 refine⟨_,rfl,a,_,dx,[],rfl,ha,T.aN,T.ku,(by show 0<1000;decide),?_⟩;refine⟨_,rfl,a,_,dx,_,rfl,ae,T.aN,T.ER,(by show 1<1000;decide),?_⟩
 (try dsimp only)
 have e2:upd (upd H a (.ins t.aK dx (a8 ("now":Str) (.int 0) []))) a (.ins t.aK dx (a8 ("floor":Str) (.int 0) (a8 ("now":Str) (.int 0) []))) a=some (.ins t.aK dx [("now",.int 0),("floor",.int 0)]):=by
  rw[ae,br,ay (by decide+kernel),br]
 have k2:∀b o,b≠a->H b=some o->upd (upd H a (.ins t.aK dx (a8 ("now":Str) (.int 0) []))) a (.ins t.aK dx (a8 ("floor":Str) (.int 0) (a8 ("now":Str) (.int 0) []))) b=some o:=λb o n e=>by rw[af n,af n];exact e
 generalize upd (upd H a (.ins t.aK dx (a8 ("now":Str) (.int 0) []))) a (.ins t.aK dx (a8 ("floor":Str) (.int 0) (a8 ("now":Str) (.int 0) [])))=H2 at e2 k2⊢;refine λs ds ns nds nsd=>⟨s,ds,rfl,ae,by rw[af nsd];exact ae,λH3 Fs S3 f3=>⟨rfl,?_⟩⟩;have k3:∀b o,H2 b=some o->H3 b=some o/\¬Fs b:=λb o e=>f3 b o (λz=>z.elim (λz=>by rw[z,ns]at e;cases e) λz=>by rw[z,nds]at e;cases e) (bN (aj nds) ns _ _ e);refine⟨_,rfl,a,_,dx,_,rfl,(k3 _ _ e2).1,T.aN,T.cR,(by show 2<1000;decide),?_⟩
 (try dsimp only)
 have e4:upd H3 a (.ins t.aK dx (a8 ("slots":Str) (.ref s) [("now",.int 0),("floor",.int 0)])) a=some (.ins t.aK dx [("now",.int 0),("floor",.int 0),("slots",.ref s)]):=by
  rw[ae,ay (by decide+kernel),ay (by decide+kernel),br]
 have S4:=S3.upd (o:= .ins t.aK dx (a8 ("slots":Str) (.ref s) [("now",.int 0),("floor",.int 0)])) (k3 _ _ e2).2;have k4:∀b o,b≠a->H b=some o->upd H3 a (.ins t.aK dx (a8 ("slots":Str) (.ref s) [("now",.int 0),("floor",.int 0)])) b=some o/\¬Fs b:=λb o n e=>⟨by rw[af n];exact(k3 _ _ (k2 b o n e)).1,(k3 _ _ (k2 b o n e)).2⟩;have na:=(k3 _ _ e2).2;clear f3 k3;generalize upd H3 a (.ins t.aK dx (a8 ("slots":Str) (.ref s) [("now",.int 0),("floor",.int 0)]))=H4 at e4 S4 k4⊢;refine λl dl nl ndl nld=>⟨l,dl,rfl,ae,by rw[af nld];exact ae,λH5 Fl L5 f5=>⟨rfl,?_⟩⟩;have k5:∀b o,H4 b=some o->H5 b=some o/\¬Fl b:=λb o e=>f5 b o (λz=>z.elim (λz=>by rw[z,nl]at e;cases e) λz=>by rw[z,ndl]at e;cases e) (bN (aj ndl) nl _ _ e);refine⟨_,rfl,a,_,dx,_,rfl,(k5 _ _ e4).1,T.aN,T.gh,(by show 3<1000;decide),?_⟩
 (try dsimp only)
 have e6:upd H5 a (.ins t.aK dx (a8 ("leaves":Str) (.ref l) [("now",.int 0),("floor",.int 0),("slots",.ref s)])) a=some (.ins t.aK dx [("now",.int 0),("floor",.int 0),("slots",.ref s),("leaves",.ref l)]):=by
  rw[ae,ay (by decide+kernel),ay (by decide+kernel),ay (by decide+kernel),br]
 have nb:=(k5 _ _ e4).2;have L6:=L5.upd (o:= .ins t.aK dx (a8 ("leaves":Str) (.ref l) [("now",.int 0),("floor",.int 0),("slots",.ref s)])) nb;have S6:=(S4.same λb o e=>(k5 b o e).1).upd (o:= .ins t.aK dx (a8 ("leaves":Str) (.ref l) [("now",.int 0),("floor",.int 0),("slots",.ref s)])) na;have ap:∀b,Fs b->¬Fl b:=λb hb=>by
  obtain⟨o,e⟩:=S4.dom hb;exact(k5 b o e).2
 have k6:∀b o,b≠a->H b=some o->upd H5 a (.ins t.aK dx (a8 ("leaves":Str) (.ref l) [("now",.int 0),("floor",.int 0),("slots",.ref s)])) b=some o/\¬Fs b/\¬Fl b:=λb o n e=>⟨by rw[af n];exact(k5 _ _ (k4 b o n e).1).1,(k4 b o n e).2,(k5 _ _ (k4 b o n e).1).2⟩;clear f5 k5 k4 S4 L5 k2 e2 e4 S3 ns nds nsd nl ndl nld;generalize upd H5 a (.ins t.aK dx (a8 ("leaves":Str) (.ref l) [("now",.int 0),("floor",.int 0),("slots",.ref s)]))=H6 at e6 S6 L6 k6⊢;refine⟨Qj _,λwr nw=>⟨_,rfl,a,_,dx,_,rfl,aj nw _ _ e6,T.aN,T.fz,(by show 4<1000;decide),?_⟩⟩
 (try dsimp only)
 have aw:a≠wr:=al e6 nw;refine⟨_,rfl,a,_,dx,_,rfl,ae,T.aN,T.ip,(by rw[ay (by decide+kernel),ay (by decide+kernel),ay (by decide+kernel),ay (by decide+kernel),br];show 5<1000;decide),?_⟩
 (try dsimp only)
 rw[ay (f:="written") (by decide+kernel),ay (f:="written") (by decide+kernel),ay (f:="written") (by decide+kernel),ay (f:="written") (by decide+kernel),br,ay (f:="marks") (by decide+kernel),ay (f:="marks") (by decide+kernel),ay (f:="marks") (by decide+kernel),ay (f:="marks") (by decide+kernel),ay (f:="marks") (by decide+kernel),br,bE];have⟨H9,eH,e9,w9,k9⟩:∃H9,H9=upd (upd H6 wr (.lst [])) a (.ins t.aK dx [("now",.int 0),("floor",.int 0),("slots",.ref s),("leaves",.ref l),("written",.ref wr),("marks",.int 0)])/\H9 a=some (.ins t.aK dx [("now",.int 0),("floor",.int 0),("slots",.ref s),("leaves",.ref l),("written",.ref wr),("marks",.int 0)])/\H9 wr=some (.lst [])/\∀b o,b≠a->H6 b=some o->H9 b=some o:=
  ⟨_,rfl,ae,by rw[af aw.symm];exact ae,λb o n e=>by rw[af n];exact aj nw _ _ e⟩
 rw[<-eH];clear eH;refine λp np=>⟨_,rfl,a,_,dx,_,rfl,aj np _ _ e9,T.aN,T.wC,(by show 6<1000;decide),?_⟩
 (try dsimp only)
 rw[ay (by decide+kernel),ay (by decide+kernel),ay (by decide+kernel),ay (by decide+kernel),ay (by decide+kernel),ay (by decide+kernel),br];have⟨H11,eH,e11,w11,p11,k11⟩:∃H11,H11=upd (upd H9 p (.dK [])) a (.ins t.aK dx [("now",.int 0),("floor",.int 0),("slots",.ref s),("leaves",.ref l),("written",.ref wr),("marks",.int 0),("past",.ref p)])/\H11 a=some (.ins t.aK dx [("now",.int 0),("floor",.int 0),("slots",.ref s),("leaves",.ref l),("written",.ref wr),("marks",.int 0),("past",.ref p)])/\H11 wr=some (.lst [])/\H11 p=some (.dK [])/\∀b o,b≠a->H6 b=some o->H11 b=some o:=
  ⟨_,rfl,ae,by rw[af aw.symm];exact aj np _ _ w9,by rw[af (al e9 np).symm];exact ae,λb o n e=>by rw[af n];exact aj np _ _ (k9 _ _ n e)⟩
 rw[<-eH];clear eH;have pa':p≠a:=(al e9 np).symm;refine λh nh=>⟨_,rfl,a,_,dx,_,rfl,aj nh _ _ e11,T.aN,T.CZ,(by show 7<1000;decide),?_⟩
 (try dsimp only)
 rw[ay (by decide+kernel),ay (by decide+kernel),ay (by decide+kernel),ay (by decide+kernel),ay (by decide+kernel),ay (by decide+kernel),ay (by decide+kernel),br];have ha':h≠a:=(al e11 nh).symm;have k13:∀b o,b≠a->H11 b=some o->upd (upd H11 h (.dK [])) a (.ins t.aK dx (hoF 0 0 s l wr 0 p h)) b=some o:=λb o n e=>by rw[af n];exact aj nh _ _ e
 have g13:∀b o,b≠a->H6 b=some o->upd (upd H11 h (.dK [])) a (.ins t.aK dx (hoF 0 0 s l wr 0 p h)) b=some o:=λb o n e=>k13 b o n (k11 b o n e);have O:HoO t (upd (upd H11 h (.dK [])) a (.ins t.aK dx (hoF 0 0 s l wr 0 p h))) a s l wr p h HSt.new:=⟨⟨dx,ae⟩,k13 _ _ aw.symm w11,(λe he=>by cases he),k13 _ _ pa' p11,by rw[af ha'];exact ae,(λe he=>by cases he),al p11 nh,(λe he=>by cases he),Zj,Zj,Zj⟩;have fresh:∀b,(b=wr\/b=p\/b=h)->H6 b=none:=λb hb=>by
  cases e:H6 b with
  |none=>rfl
  |some o=>
   have na:b≠a:=by
    rcases hb with rfl|rfl|rfl
    .exact aw.symm
    .exact pa'
    .exact ha'
   rcases hb with rfl|rfl|rfl
   .rw[nw]at e;cases e
   .rw[k9 _ _ na e]at np;cases np
   .rw[k11 _ _ na e]at nh;cases nh
 have ow:∀b,Ow a wr p h [] b->b=a\/H6 b=none:=λb hb=>by
  rcases hb with z|z|z|z|⟨e,he,_⟩
  .exact .inl z
  .exact .inr (fresh b (.inl z))
  .exact .inr (fresh b (.inr (.inl z)))
  .exact .inr (fresh b (.inr (.inr z)))
  .cases he
 refine q _ (HoF a wr p h Fs Fl []) ⟨s,l,wr,p,h,Fs,Fl,⟨O,S6.frame λb hb=>?_,L6.frame λb hb=>?_,ap,λb hb z=>?_,λb hb z=>?_⟩,HSt.new_ok,λ_=>Iff.rfl⟩ λb o n e=>?_
 .obtain⟨o,e⟩:=S6.dom hb;rw[e];exact g13 b o (λz=>na (z▸hb)) e
 .obtain⟨o,e⟩:=L6.dom hb;rw[e];exact g13 b o (λz=>nb (z▸hb)) e
 .rcases ow b hb with y|y
  .exact na (y▸z)
  .exact S6.out y z
 .rcases ow b hb with y|y
  .exact nb (y▸z)
  .exact L6.out y z
 .obtain⟨c1,c2,c3⟩:=k6 b o n e;refine⟨g13 b o n c1,λz=>?_⟩;rcases z with z|z|z
  .exact c2 z
  .exact c3 z
  .rcases ow b z with y|y
   .exact n y
   .rw[c1]at y;cases y
def oT (K:PySem.W.Frag) (t:Adr):Sp:=λvs H Q _=>∃(a:Addr) (F:Addr->Prop) (x:HSt),vs=[.ref a]/\HoA K t H a F x/\x.now+x.ma<40000/\
 ∀(H':Hp) (F':Addr->Prop) (r:Addr),HoA K t H' a F' {x with ma:=x.ma+1,di:=x.di++ [(r,[.str "mark",.int (x.ma+1)])]}->Fr F F' H H'->Q (.int (x.ma+1)) H'
theorem ii (T:Txt K mg t):FnOk P w K mg base CX0 1 t.i5 t.eU ["self"] (oT K t):=by
 refine T.CA.okl oU λ_ _ _ s H vs Q E hr h=>?_;obtain⟨a,F,x,rfl,A,l1,q⟩:=h;refine⟨_,(ac (gO (pv 0) ag u7)
   (ac (aR (dG Qq QV QW dX (au (pv 0) rfl) (aa (bz (aa gb (aa (au (pv 0) rfl) ah))) ah)))
   (ai (aC (au (pv 0) rfl)))))
  ,?_⟩
 obtain⟨s,l,wr,p,h,Fs,Fl,B,O,g⟩:=A;obtain⟨dx,ho⟩:=B.o.ob;refine⟨_,rfl,a,_,dx,_,_,rfl,ho,T.aN,T.ip,Bu,_,_,rfl,rfl,dx,_,ho,Ce,?_⟩;rw[IZ];have A1:=B.o.set (now:=x.now) (mk:=x.ma+1) (fl:=x.fl) (dx:=dx);have f1:Fr (Ow a wr p h x.pa) (Ow a wr p h x.pa) H (upd H a (.ins t.aK dx (hoF x.now x.fl s l wr (x.ma+1) p h))):=λb o n e=>⟨by rw[af λz=>n (.inl z)];exact e,n⟩;generalize upd H a (.ins t.aK dx (hoF x.now x.fl s l wr (x.ma+1) p h))=H1 at A1 f1⊢;obtain⟨dx1,ho1⟩:=A1.ob;have dl:=O.dl;refine⟨_,rfl,a,_,dx1,_,_,rfl,ho1,T.aN,T.fz,Bt,.inl ⟨rfl,_,SqL.of A1.wr⟩,?_⟩;refine⟨_,rfl,a,_,dx1,_,_,rfl,ho1,T.aN,T.ip,Bu,(by show 2<=sizeLine;decide),λr nr=>?_⟩;have s2:=aj (o:= .tup [.str "mark",.int (x.ma+1)]) nr;have A2:=A1.same s2;have f2:=f1.trans (Fr.of_same s2);have ht:upd H1 r (.tup [.str "mark",.int (x.ma+1)]) r=some (.tup [.str "mark",.int (x.ma+1)]):=ae;generalize upd H1 r (.tup [.str "mark",.int (x.ma+1)])=H2 at A2 f2 ht⊢;refine⟨wr,_,_,rfl,rfl,A2.wr,bq (by rw[Q0];show x.di.length<=_;lia),?_⟩;have A3:=A2.row ht;have f3:Fr (Ow a wr p h x.pa) (Ow a wr p h x.pa) H (upd H2 wr (.lst (x.di.map (λe=>V.ref e.1)++ [.ref r]))):=λb o n e=>⟨by rw[af λz=>n (.inr (.inl z))];exact(f2 b o n e).1,n⟩;generalize upd H2 wr (.lst (x.di.map (λe=>V.ref e.1)++ [.ref r]))=H3 at A3 f3⊢;obtain⟨dx3,ho3⟩:=A3.ob;obtain⟨B3,f4⟩:=B.own A3 rfl rfl f3;refine⟨_,rfl,a,_,dx3,_,_,rfl,ho3,T.aN,T.ip,Bu,q H3 F r ⟨s,l,wr,p,h,Fs,Fl,B3,⟨O.ks,O.n0,?_,?_,O.pl,O.el,O.sl,O.hn,O.hv,O.fb,O.up⟩,g⟩ ?_⟩
 .have:=O.m0;show 0<=x.ma+1;lia
 .show((x.di++ [(r,_)]).length:Int)=x.now+(x.ma+1);rw[Qa,Z4];lia
 .exact λb o n e=>⟨(f4 b o (λz=>n ((g b).mpr z)) e).1,n⟩
theorem HoA.klen {x:HSt} (A:HoA K t H a F x):(x.ks.length:Int)<=x.now:=by
 obtain⟨s,l,w,p,h,Fs,Fl,B,O,_⟩:=A;obtain⟨L,A,ls,_,ok,e,_⟩:=B.lv;have nd:x.ks.Nodup:=by
  rw[<-e];exact List.Pairwise.imp (λh z=>by lia) ok.up
 have:=io (S:=x.st.kv.map (·.1)) nd λz hz=>mem_keys.mpr ((O.ks z).mp hz);rw[Q0]at this;have:=O.sl;lia
theorem HOk.noted {x:HSt} {y:Mk1} (O:HOk x) (N:vz x.pa pa' k y):(pa'.length:Int)<=x.now+1/\∀j,((eO pa' j).length:Int)<=x.now+1:=by
 constructor
 .have h1:=O.pl;have h2:=congrArg List.length N.ky;rw[Q0]at h2;split at h2
  .rw[Q0]at h2;lia
  .rw[Qa,Q0,Z4]at h2;lia
 .intro j;rw[N.of];split
  .have:=O.el k;rw[Qa,Z4];lia
  .have:=O.el j;lia
theorem HOk.hv1 {x:HSt} (O:HOk x):∀p∈x.ho,x.fl<=p.1/\p.1<=x.now+1/\∃n:Int,p.2= .int n/\0<n:=λp hp=>⟨(O.hv p hp).1,by have:=(O.hv p hp).2.1;lia,(O.hv p hp).2.2⟩
theorem HOk.fb1 {x:HSt} (O:HOk x):0<=x.fl/\x.fl<=x.now+1:=⟨O.fb.1,by have:=O.fb.2;lia⟩
theorem HOk.up1 {x:HSt} {y:Mk1} (O:HOk x) (N:vz x.pa pa' k y) (e:y.mo=x.now+1):∀j,(eO pa' j).Pairwise (λa b=>a.mo<b.mo)/\∀z∈eO pa' j,z.mo<=x.now+1:=λj=>by
 rw[N.of];obtain⟨u1,u2⟩:=O.up k;split
 .refine⟨Qk.mpr ⟨u1,Zb _ _,λa ha b hb=>?_⟩,λz hz=>?_⟩
  .rw[Q7.mp hb,e];have:=u2 a ha;lia
  .rcases Q5.mp hz with hz|hz
   .have:=u2 z hz;lia
   .rw[Q7.mp hz,e];exact Zu _
 .obtain⟨v1,v2⟩:=O.up j;exact⟨v1,λz hz=>by have:=v2 z hz;lia⟩
def vT (K:PySem.W.Frag) (t:Adr):Sp:=λvs H Q _=>∃(a:Addr) (k i:Int) (F:Addr->Prop) (x:HSt),vs=[.ref a,.int k,.int i]/\HoA K t H a F x/\0<=k/\x.now+x.ma<4000/\
 ∀(H':Hp) (F':Addr->Prop) (ks':List Int) (r q:Addr) (pa':List Pk),HoA K t H' a F' {x with now:=x.now+1,st:=x.st.put k (.int i),ks:=ks',di:=x.di++ [(r,[.str "put",.int k,.int i])],pa:=pa'}->vz x.pa pa' k ⟨q,x.now+1,.int i⟩->Fr F F' H H'->Q (.int (x.now+1)) H'
theorem wx (T:Txt K mg t):FnOk P w K mg base CX0 5 t.qC t.kN ["self","key","value"] (vT K t):=by
 refine T.HR.okl v9 λ_ _ _ s H vs Q E hr h=>?_;obtain⟨a,k,i,F,x,rfl,A,k0,l1,q⟩:=h;refine⟨_,(ac (aU (rc (eG (aQ (au (pv 0) rfl) T.aG T.yw (nW T) hr.mo T.yQ .nil aA (aa (pv 1) ah))))
   (ai (aR (aQ (au (pv 0) rfl) T.aL T.Ge (uM T) hr.mo T.Go .nil aA (aa (pv 1) ah))))
   aH)
   (ac (aR (aQ (au (pv 0) rfl) T.aG T.He (wt T) hr.mo T.HC .nil aA (aa (pv 1) (aa (pv 2) ah))))
   (ai (aC (aQ (pv 0) T.aN T.wG (mi T) hr.mo T.wM .nil aA (aa (bz (aa gb (aa (pv 1) (aa (pv 2) ah)))) (aa (pv 2) ah)))))))
  ,?_⟩
 have kl:=A.klen;obtain⟨s,l,wr,p,h,Fs,Fl,B,O,g⟩:=A;have n0:=O.n0;have m0:=O.m0;have sl:=O.sl;obtain⟨dx,ho⟩:=B.o.ob;obtain⟨ds,fs,hs,hm⟩:=B.sl.ins
 (try dsimp only)
 refine b3 (λσ H2=>∃(Fs2 Fl2:Addr->Prop) (ks2:List Int),σ=[some (.ref a),some (.int k),some (.int i)]/\HoB K t H2 a s l wr p h Fs2 Fl2 {x with ks:=ks2}/\(∀z,z∈ks2↔z=k\/z∈x.ks)/\Fr (HoF a wr p h Fs Fl x.pa) (HoF a wr p h Fs2 Fl2 x.pa) H H2) (λnx go=>?_) (λσ H2 w=>?_)
 .refine⟨_,rfl,a,_,dx,_,_,rfl,ho,T.aN,T.cR,u8,s,ds,fs,rfl,hs,hm _ (by decide+kernel),_,rfl,s,k,Fs,x.st,rfl,B.sl,k0,λH1 Fs1 S1 f1=>?_⟩;obtain⟨B1,g1⟩:=B.slots S1 f1;obtain⟨dx1,ho1⟩:=B1.o.ob;obtain⟨dl,fl,hl,hml⟩:=B1.lv.ins;cases ev:(aO x.st.kv k).isSome with
  |true=>
   refine⟨_,rfl,bJ (λc=>?_) (λ_=>?_)⟩
   .cases c
   .exact go _ _ ⟨Fs1,Fl,x.ks,rfl,B1,λz=>⟨.inr,λy=>y.elim (λy=>by rw[y];exact(O.ks k).mpr ev) id⟩,g1⟩
  |false=>
   have nk:k∉x.ks:=λz=>by have:=(O.ks k).mp z;rw[ev]at this;cases this
   refine⟨_,rfl,bJ (λ_=>?_) (λc=>?_)⟩
   .refine⟨_,rfl,a,_,dx1,_,_,rfl,ho1,T.aN,T.gh,Bv,l,dl,fl,rfl,hl,hml _ (by decide+kernel),_,rfl,l,k,Fl,x.ks,rfl,B1.lv,by lia,λ_ H2 Fl2 ks2 L2 mem f2=>?_,λz=>absurd z nk⟩;obtain⟨B2,g2⟩:=B1.leaves L2 f2;exact go _ _ ⟨Fs1,Fl2,ks2,rfl,B2,mem,g1.trans g2⟩
   .exact absurd rfl c
 .obtain⟨Fs2,Fl2,ks2,rfl,B2,mem,g2⟩:=w;obtain⟨dx2,ho2⟩:=B2.o.ob;obtain⟨ds2,fs2,hs2,hm2⟩:=B2.sl.ins;refine⟨_,rfl,a,_,dx2,_,_,rfl,ho2,T.aN,T.cR,u8,s,ds2,fs2,rfl,hs2,hm2 _ (by decide+kernel),_,rfl,_,rfl,s,k,i,Fs2,x.st,rfl,B2.sl,k0,by lia,λH3 Fs3 S3 f3=>?_⟩;obtain⟨B3,g3⟩:=B2.slots S3 f3;obtain⟨dx3,ho3⟩:=B3.o.ob;refine⟨_,rfl,a,dx3,_,rfl,ho3,Fh (by decide+kernel),_,rfl,_,rfl,(by show 3<=sizeLine;decide),λr nr=>?_⟩;have s4:=aj (o:= .tup [.str "put",.int k,.int i]) nr;have ht:upd H3 r (.tup [.str "put",.int k,.int i]) r=some (.tup [.str "put",.int k,.int i]):=ae;have B4:HoB K t (upd H3 r (.tup [.str "put",.int k,.int i])) a s l wr p h Fs3 Fl2 _:=B3.keep (λb hb=>by
   obtain⟨o,e,_⟩:=B3.dom hb;rw[e];exact s4 _ _ e) λb xs e=>s4 _ _ e
  have g4:=(g2.trans g3).trans (Fr.of_same s4);generalize upd H3 r (.tup [.str "put",.int k,.int i])=H4 at B4 ht g4⊢;have dl:=O.dl;have pl:=O.pl;have el:=O.el k;refine⟨_,rfl,a,s,l,wr,p,h,r,k,_,.int i,_,rfl,B4.o,ht,rfl,by show x.di.length<50000;lia,by show x.pa.length<50000;lia,by show(eO x.pa k).length<50000;lia,λH5 pa' y O5 N f5=>?_⟩;obtain⟨B5,g5⟩:=B4.own O5 rfl rfl f5;obtain⟨N1,N2⟩:=O.noted N;have ek:(x.st.put k (.int i)).kv=bv x.st.kv k (.int i):=SSt.three_kv;refine q H5 (HoF a wr p h Fs3 Fl2 pa') ks2 r y pa' ⟨s,l,wr,p,h,Fs3,Fl2,B5,⟨λz=>?_,by show 0<=x.now+1;lia,m0,?_,N1,N2,?_,O.hn,O.hv1,O.fb1,O.up1 N rfl⟩,λ_=>Iff.rfl⟩ N ?_
  .show z∈ks2↔(aO (x.st.put k (.int i)).kv z).isSome=true;rw[mem,ek,<-mem_keys,qb,O.ks];split
   .rename_i c
    rw[mem_keys];exact⟨λy=>y.elim (λy=>y▸c) id,.inr⟩
   .rw[Q5,Q7,mem_keys];exact⟨λy=>y.elim .inr .inl,λy=>y.elim .inr .inl⟩
  .show((x.di++ [(r,_)]).length:Int)=x.now+1+x.ma;rw[Qa,Z4];lia
  .show((x.st.put k (.int i)).kv.length:Int)<=x.now+1;rw[ek];have:=cc x.st.kv k (.int i);lia
  .exact λb o n e=>(g4.trans g5) b o (λz=>n ((g b).mpr z)) e
def uf (K:PySem.W.Frag) (t:Adr):Sp:=λvs H Q E=>∃(a:Addr) (k:Int) (F:Addr->Prop) (x:HSt),vs=[.ref a,.int k]/\HoA K t H a F x/\0<=k/\x.now+x.ma<4000/\
 ((aO x.st.kv k).isSome=true->∀(H':Hp) (F':Addr->Prop) (ks':List Int) (r q:Addr) (pa':List Pk),HoA K t H' a F' {x with now:=x.now+1,st:=x.st.drop k,ks:=ks',di:=x.di++ [(r,[.str "drop",.int k])],pa:=pa'}->vz x.pa pa' k ⟨q,x.now+1,.non⟩->Fr F F' H H'->Q (.int (x.now+1)) H')/\
 (aO x.st.kv k=none->False)
theorem uO (T:Txt K mg t):FnOk P w K mg base CX0 6 t.oK t.jA ["self","key"] (uf K t):=by
 refine T.GE.okl uw λ_ _ _ s H vs Q E hr h=>?_;obtain⟨a,k,F,x,rfl,A,k0,l1,q,qx⟩:=h;refine⟨_,(ac (aR (aQ (au (pv 0) rfl) T.aG T.Gc (uJ T) hr.mo T.Gk .nil aA (aa (pv 1) ah)))
   (ac (aR (aQ (au (pv 0) rfl) T.aL T.B6 (o8 T) hr.mo T.Cs .nil aA (aa (pv 1) ah)))
   (ai (aC (aQ (pv 0) T.aN T.wG (mi T) hr.mo T.wM .nil aA (aa (bz (aa gb (aa (pv 1) ah))) (aa bf ah)))))))
  ,?_⟩
 have kl:=A.klen;obtain⟨s,l,wr,p,h,Fs,Fl,B,O,g⟩:=A;have n0:=O.n0;have m0:=O.m0;have sl:=O.sl;obtain⟨dx,ho⟩:=B.o.ob;obtain⟨ds,fs,hs,hm⟩:=B.sl.ins
 (try dsimp only)
 refine⟨_,rfl,a,_,dx,_,_,rfl,ho,T.aN,T.cR,u8,s,ds,fs,rfl,hs,hm _ (by decide+kernel),_,rfl,s,k,Fs,x.st,rfl,B.sl,k0,λev=>⟨by lia,λH1 Fs1 S1 f1=>?_⟩,λhn=>(qx hn).elim⟩
 .obtain⟨B1,g1⟩:=B.slots S1 f1;obtain⟨dx1,ho1⟩:=B1.o.ob;obtain⟨dl,fl,hl,hml⟩:=B1.lv.ins;refine⟨_,rfl,a,_,dx1,_,_,rfl,ho1,T.aN,T.gh,Bv,l,dl,fl,rfl,hl,hml _ (by decide+kernel),_,rfl,l,k,Fl,x.ks,rfl,B1.lv,by lia,λ_ H2 Fl2 ks2 L2 mem f2=>?_,λz=>absurd ((O.ks k).mpr ev) z⟩;obtain⟨B3,g3⟩:=B1.leaves L2 f2;obtain⟨dx3,ho3⟩:=B3.o.ob;refine⟨_,rfl,a,dx3,_,rfl,ho3,Fh (by decide+kernel),_,rfl,(by show 2<=sizeLine;decide),λr nr=>?_⟩;have s4:=aj (o:= .tup [.str "drop",.int k]) nr;have ht:upd H2 r (.tup [.str "drop",.int k]) r=some (.tup [.str "drop",.int k]):=ae;have B4:HoB K t (upd H2 r (.tup [.str "drop",.int k])) a s l wr p h Fs1 Fl2 _:=B3.keep (λb hb=>by
   obtain⟨o,e,_⟩:=B3.dom hb;rw[e];exact s4 _ _ e) λb xs e=>s4 _ _ e
  have g4:=(g1.trans g3).trans (Fr.of_same s4);generalize upd H2 r (.tup [.str "drop",.int k])=H4 at B4 ht g4⊢;have dl:=O.dl;have pl:=O.pl;have el:=O.el k;refine⟨a,s,l,wr,p,h,r,k,_,.non,_,rfl,B4.o,ht,rfl,by show x.di.length<50000;lia,by show x.pa.length<50000;lia,by show(eO x.pa k).length<50000;lia,λH5 pa' y O5 N f5=>?_⟩;obtain⟨B5,g5⟩:=B4.own O5 rfl rfl f5;obtain⟨N1,N2⟩:=O.noted N;have ek:(x.st.drop k).kv=bT x.st.kv k:=SSt.three_kv;refine q ev H5 (HoF a wr p h Fs1 Fl2 pa') ks2 r y pa' ⟨s,l,wr,p,h,Fs1,Fl2,B5,⟨λz=>?_,by show 0<=x.now+1;lia,m0,?_,N1,N2,?_,O.hn,O.hv1,O.fb1,O.up1 N rfl⟩,λ_=>Iff.rfl⟩ N ?_
  .show z∈ks2↔(aO (x.st.drop k).kv z).isSome=true;rw[mem,ek,fh,O.ks];by_cases c:z=k
   .rw[if_pos c];exact⟨λy=>absurd c y.1,λy=>by cases y⟩
   .rw[if_neg c];exact⟨λy=>y.2,λy=>⟨c,y⟩⟩
  .show((x.di++ [(r,_)]).length:Int)=x.now+1+x.ma;rw[Qa,Z4];lia
  .show((x.st.drop k).kv.length:Int)<=x.now+1;rw[ek];have:(bT x.st.kv k).length<=x.st.kv.length:=Qo _ _;lia
  .exact λb o n e=>(g4.trans g5) b o (λz=>n ((g b).mpr z)) e
theorem FI {f:α->V} {ms:List α} {g:Int} (h:0<=g):nP (ms.map f) (some g) none=(ms.drop g.toNat).map f:=by
 unfold nP HT.sIx;dsimp only;rw[if_neg (by lia),ZJ];rcases Nat.le_total g.toNat (ms.map f).length with c|c
 .rw[X0 c];exact Qt (by rw[QA];lia)
 .rw[XQ c,List.drop_of_length_le c,List.drop_of_length_le (Q4 _),Xb]
def sH (K:PySem.W.Frag) (t:Adr):Sp:=λvs H Q _=>∃(a:Addr) (lo:Int) (F:Addr->Prop) (x:HSt),vs=[.ref a,.int lo]/\HoA K t H a F x/\0<=lo/\
 ∀(H':Hp) (r:Addr),Same H H'->H r=none->H' r=some (.lst ((x.di.drop lo.toNat).map λe=>V.ref e.1))->Q (.ref r) H'
theorem gf (T:Txt K mg t):FnOk P w K mg base CX0 1 t.mW t.eV ["self","low"] (sH K t):=by
 refine T.FZ.ok sP (λvs H Q E h=>?_) (λcdv A outer s H vs Q E hr h=>?_)
 .obtain⟨a,lo,F,x,rfl,_⟩:=h;rfl
 .obtain⟨a,lo,F,x,rfl,A,l0,q⟩:=h;refine⟨_,(ai (aC (eI gH (au (pv 0) rfl) (fL (aE (nJ rfl) (by rfl) T.D5 yK (aa (pv 1) (aa ag ah)))) iR)))
   ,?_⟩
  obtain⟨s,l,wr,p,h,Fs,Fl,B,O,g⟩:=A;obtain⟨dx,ho⟩:=B.o.ob;refine⟨_,rfl,a,_,dx,_,_,rfl,ho,T.aN,T.fz,Bt,?_⟩;have e0:(if(0:Int)>lo then(0:Int)else lo)=lo:=if_neg (by lia);refine⟨_,rfl,_,_,rfl,lo,by rw[e0],wr,_,rfl,SqL.of B.o.wr,λr nr=>q _ r (aj nr) nr ?_⟩;rw[ae,FI l0]
theorem HoA.di {x:HSt} (A:HoA K t H a F x):∀e∈x.di,H e.1=some (.tup e.2):=by
 obtain⟨s,l,wr,p,h,Fs,Fl,B,O,g⟩:=A;exact B.o.dr
def TkA (t:Adr) (H:Hp) (p:Addr) (up:Bool) (a e:V):Prop:=∃dx fs,H p=some (.ins (if up=true then t.c8 else t.bV) dx fs)/\wN (if up=true then "up" else "down") fs a e/\if up=true then okU a e else okD a e
def rY (up:Bool) (a:V) (ks:List Int):List Int:=match up,a with
 |true,.int i=>ks.filter λz=>decide (i<=z)
 |false,.int i=>ks.reverse.filter (dZ (some i))
 |_,_=>ks.reverse.filter (dZ none)
def xV (K:PySem.W.Frag) (t:Adr):Sp:=λvs H Q _=>∃(l p:Addr) (n:Int) (up:Bool) (a e:V) (F:Addr->Prop) (ks:List Int),vs=[.ref l,.ref p,.int n]/\LvA K t H l F ks/\TkA t H p up a e/\ks.length<4096/\0<=n/\
 ∀(H':Hp) (r:Addr),Same H H'->H r=none->H' r=some (.lst (((rY up a ks).take n.toNat).map V.int))->Q (.ref r) H'
theorem yp (T:Txt K mg t):FnOk P w K mg base CX0 3 t.sk t.mC ["leaves","token","most"] (xV K t):=by
 refine T.Ak.okl ya λ_ _ _ s H vs Q E hr h=>?_;obtain⟨l,p,n,up,a,e,F,ks,rfl,L,TK,l1,n0,q⟩:=h;refine⟨_,(ac (aU (eG (aE (kQ K rfl) (by rfl) T.gG dI (aa (pv 1) (aa (cy (v:= .ref t.c8) (by rfl) T.EU rfl) ah))))
   (ai (aC (aQ (pv 0) T.aL T.B0 (o7 T) hr.mo T.Cr .nil aA (aa (au (pv 1) rfl) (aa (pv 2) ah)))))
   aH)
   (ai (aC (aQ (pv 0) T.aL T.Aq (mh T) hr.mo T.Av .nil aA (aa (au (pv 1) rfl) (aa (pv 2) ah))))))
  ,?_⟩
 obtain⟨dx,fs,hp,tf,ok⟩:=TK;obtain⟨dl,fl,hl,hm⟩:=L.ins;cases up with
 |true=>
  have hp:H p=some (.ins t.c8 dx fs):=hp;obtain⟨i,rfl,i0,_⟩:=(show okU a e from ok);exact⟨_,rfl,_,_,_,_,rfl,TyOf.ins hp T.gw T.lu.1 T.lu.2 T.lu.3 T.lu.4,T.Fd,_,rfl,c6 ⟨_,rfl,l,dl,fl,rfl,hl,hm _ (by decide+kernel),_,rfl,p,_,dx,fs,_,rfl,hp,T.gw,T.p6,tf.at_,_,rfl,l,i,n,F,ks,rfl,L,l1,n0,q⟩⟩
 |false=>
  have hp:H p=some (.ins t.bV dx fs):=hp;obtain⟨j,rfl,j0,ha⟩:=(show okD a e from ok);refine⟨_,rfl,_,_,_,_,rfl,TyOf.ins hp T.b6 T.d7.1 T.d7.2 T.d7.3 T.d7.4,T.Br,_,rfl,cI ⟨_,rfl,l,dl,fl,rfl,hl,hm _ (by decide+kernel),_,rfl,p,_,dx,fs,_,rfl,hp,T.b6,T.iq,tf.at_,_,rfl,?_⟩⟩;rcases ha with rfl|⟨i,rfl,_⟩
  .exact⟨l,none,n,F,ks,rfl,L,l1,n0,q⟩
  .exact⟨l,some i,n,F,ks,rfl,L,l1,n0,q⟩
def sw (t:Adr):Sp:=λvs H Q _=>∃(p:Addr) (up:Bool) (a e:V) (k:Int),vs=[.ref p,.int k]/\TkA t H p up a e/\(if up=true then okU (.int (k+1)) e else okD (.int (k-1)) e)/\
 ∀(H':Hp) (r:Addr),Same H H'->H r=none->TkA t H' r up (.int (if up=true then k+1 else k-1)) e->Q (.ref r) H'
theorem sS (T:Txt K mg t):FnOk P w K mg base CX0 5 t.mQ t.iz ["token","key"] (sw t):=by
 refine T.vB.okl sL λ_ _ _ s H vs Q E hr h=>?_;obtain⟨p,up,a,e,k,rfl,TK,ok2,q⟩:=h;refine⟨_,(ac (aU (eG (aE (kQ K rfl) (by rfl) T.gG dI (aa (pv 0) (aa (cy (v:= .ref t.c8) (by rfl) T.EU rfl) ah))))
   (ai (aC (iS T.Kt (rX T) hr.mo (by rfl) T.EU T.BB .nil aA (aa (am bn (pv 1) ag) (aa (au (pv 0) rfl) ah)))))
   aH)
   (ai (aC (iS T.Ha (nY T) hr.mo (by rfl) T.Hb T.yR .nil aA (aa (am ie (pv 1) ag) (aa (au (pv 0) rfl) ah))))))
  ,?_⟩
 obtain⟨dx,fs,hp,tf,ok⟩:=TK;have kp:∀{H1 H':Hp} {r:Addr},Same H H1->H r=none->Keep r H1 H'->Same H H':=λs n k b o e=>k b o (s b o e) λz=>by rw[z,n]at e;cases e
 cases up with
 |true=>
  have hp:H p=some (.ins t.c8 dx fs):=hp;have ok2:okU (.int (k+1)) e:=ok2;have se:Sc e:=by
   obtain⟨_,_,_,he|⟨j,he,_⟩⟩:=ok2
   .rw[he];exact True.intro
   .rw[he];exact T0 _
  refine⟨_,rfl,_,_,_,_,rfl,TyOf.ins hp T.gw T.lu.1 T.lu.2 T.lu.3 T.lu.4,T.Fd,_,rfl,c6 ⟨_,rfl,_,_,rfl,rfl,_,rfl,p,_,dx,fs,_,rfl,hp,T.gw,T.jJ,tf.end_,λr dr nr nd nrd=>⟨r,dr,_,_,rfl,ae,T0 _,se,λ_ H' fs' kp' h' tf'=>⟨rfl,?_⟩,λz=>absurd ok2 z⟩⟩⟩;exact q H' r (kp (bN (aj nd) nr) nr kp') nr ⟨dr,fs',h',tf',ok2⟩
 |false=>
  have hp:H p=some (.ins t.bV dx fs):=hp;have ok2:okD (.int (k-1)) e:=ok2;have se:Sc e:=by
   obtain⟨_,he,_⟩:=ok2;rw[he];exact T0 _
  refine⟨_,rfl,_,_,_,_,rfl,TyOf.ins hp T.b6 T.d7.1 T.d7.2 T.d7.3 T.d7.4,T.Br,_,rfl,cI ⟨_,rfl,_,_,rfl,rfl,_,rfl,p,_,dx,fs,_,rfl,hp,T.b6,T.iU,tf.end_,λr dr nr nd nrd=>⟨r,dr,_,_,rfl,ae,T0 _,se,λ_ H' fs' kp' h' tf'=>⟨rfl,?_⟩,λz=>absurd ok2 z⟩⟩⟩;exact q H' r (kp (bN (aj nd) nr) nr kp') nr ⟨dr,fs',h',tf',ok2⟩
def hK (up:Bool):V->V->Int->Bool:=if up=true then hU else hD
def bX (up:Bool) (a e:V) (ks:List Int):List Int:=(if up=true then ks else ks.reverse).filter (hK up a e)
theorem iN {α:Type} {h:α->Bool}:∀{xs:List α} {n:Nat},xs.Pairwise (λx y=>h y=true->h x=true)->(xs.take n).filter h=(xs.filter h).take n
 | [],n,_=>by rw[Xb,List.filter_nil,Xb]
 |x::r,0,_=>rfl
 |x::r,n+1,w=>by
  obtain⟨w1,w2⟩:=Z5.mp w;rw[Xw];by_cases c:h x=true
  .rw[List.filter_cons_of_pos c,List.filter_cons_of_pos c,Xw,iN w2]
  .have z:r.filter h=[]:=ZR.mpr λy hy hh=>c (w1 y hy hh);rw[List.filter_cons_of_neg c,List.filter_cons_of_neg c,iN w2,z,Xb,Xb]
theorem CY {a e:V} {n:Nat} (ok:if up=true then okU a e else okD a e) (r:cJ ks):((rY up a ks).take n).filter (hK up a e)=(bX up a e ks).take n:=by
 cases up with
 |true=>
  obtain⟨i,rfl,i0,he⟩:=(show okU a e from ok);have q:∀z,hU (.int i) e z=true->decide (i<=z)=true:=λz hz=>by
   rcases he with rfl|⟨j,rfl,_⟩
   .exact hz
   .exact(QE.mp hz).1
  show((ks.filter λz=>decide (i<=z)).take n).filter (hU (.int i) e)=(ks.filter (hU (.int i) e)).take n;rw[iN,List.filter_filter]
  .congr 1;refine XI λz _=>?_;cases c:hU (.int i) e z with
   |true=>rw[q z c];rfl
   |false=>rfl
  .have r2:(ks.filter λz=>decide (i<=z)).Pairwise (· < ·):=List.Pairwise.filter _ r;refine List.Pairwise.imp_of_mem (λ{x y} hx hy lt hh=>?_) r2;have hx:=(QH.mp hx).2;rcases he with rfl|⟨j,rfl,_⟩
   .exact hx
   .refine QE.mpr ⟨hx,decide_eq_true ?_⟩;have:=of_decide_eq_true (QE.mp hh).2;lia
 |false=>
  obtain⟨j,rfl,j0,ha⟩:=(show okD a e from ok);have rr:ks.reverse.Pairwise (λx y=>y<x):=Xn.mpr r;obtain⟨k,ek,ea⟩:∃k,rY false a ks=ks.reverse.filter (dZ k)/\∀z,hD a (.int j) z=(decide (j<=z)&&dZ k z):=by
   rcases ha with rfl|⟨i,rfl,_⟩
   .exact⟨none,rfl,λz=>(Bool.and_true _).symm⟩
   .exact⟨some i,rfl,λz=>rfl⟩
  rw[ek];show((ks.reverse.filter (dZ k)).take n).filter (hD a (.int j))=(ks.reverse.filter (hD a (.int j))).take n;rw[iN,List.filter_filter]
  .congr 1;refine XI λz _=>?_;rw[ea];cases dZ k z<;>cases decide (j<=z)<;>rfl
  .have r2:(ks.reverse.filter (dZ k)).Pairwise (λx y=>y<x):=List.Pairwise.filter _ rr;refine List.Pairwise.imp_of_mem (λ{x y} hx hy lt hh=>?_) r2;have hx:=(QH.mp hx).2;rw[ea]at hh⊢;refine QE.mpr ⟨decide_eq_true ?_,hx⟩;have:=of_decide_eq_true (QE.mp hh).1;lia
theorem CT {a e:V} {k':Int} (ok:if up=true then okU a e else okD a e) (r:cJ ks) (h:(bX up a e ks)[i]?=some k) (h':(bX up a e ks)[i+1]?=some k'):if up=true then okU (.int (k+1)) e else okD (.int (k-1)) e:=by
 obtain⟨hi,ek⟩:=Q2.mp h;obtain⟨hi',ek'⟩:=Q2.mp h';have m:=(QH.mp (ek▸Zh hi:k∈bX up a e ks)).2;have m':=(QH.mp (ek'▸Zh hi':k'∈bX up a e ks)).2;cases up with
 |true=>
  obtain⟨i,rfl,i0,he⟩:=(show okU a e from ok);have lt:k<k':=by
   have:=(Z3.mp (List.Pairwise.filter (hU (.int i) e) r)) _ _ hi hi' (Zx _);rw[<-ek,<-ek'];exact this
  have m:hU (.int i) e k=true:=m;have m':hU (.int i) e k'=true:=m';rcases he with rfl|⟨j,rfl,_⟩
  .have:=of_decide_eq_true m;exact⟨k+1,rfl,by lia,.inl rfl⟩
  .have:=of_decide_eq_true (QE.mp m).1;have:=of_decide_eq_true (QE.mp m').2;exact⟨k+1,rfl,by lia,.inr ⟨j,rfl,by lia⟩⟩
 |false=>
  obtain⟨j,rfl,j0,ha⟩:=(show okD a e from ok);have rr:ks.reverse.Pairwise (λx y=>y<x):=Xn.mpr r;have lt:k'<k:=by
   have:=(Z3.mp (List.Pairwise.filter (hD a (.int j)) rr)) _ _ hi hi' (Zx _);rw[<-ek,<-ek'];exact this
  have m':hD a (.int j) k'=true:=m';have:j<=k':=by
   rcases ha with rfl|⟨i,rfl,_⟩
   .exact of_decide_eq_true m'
   .exact of_decide_eq_true (QE.mp m').1
  exact⟨j,rfl,j0,.inr ⟨k-1,rfl,by lia⟩⟩
def NxK (t:Adr) (H H':Hp) (p:Addr) (up:Bool) (e:V) (hs:List Int) (m:Nat) (v:V):Prop:=if hs.length<=m then v= .non else if m=0 then v= .ref p else ∃(q:Addr) (k:Int),hs[m-1]?=some k/\v= .ref q/\H q=none/\TkA t H' q up (.int (if up=true then k+1 else k-1)) e
theorem Cd {xs:List Int} {x:V} (h:(xs.map V.int)[i]?=some x):∃k:Int,x= .int k/\xs[i]?=some k:=by
 rw[Qn]at h;cases e:xs[i]? with
 |none=>rw[e]at h;cases h
 |some k=>rw[e]at h;cases h;exact⟨k,rfl,rfl⟩
theorem xt {P:Int->Bool} {xs:List Int} (e:xs[i]?=some k):(xs.take (i+1)).filter P=(xs.take i).filter P++(if P k=true then[k]else[]):=by
 rw[Qr,e,QB];by_cases c:P k=true
 .rw[if_pos c];simp[c]
 .rw[if_neg c];simp[c]
theorem Fw (P:Int->Bool) (xs:List Int) (i:Nat):((xs.take i).filter P).length<=xs.length:=by
 have h1:=Qo P (xs.take i);have h2:(xs.take i).length<=xs.length:=by rw[Q8];lia
 lia
theorem TkA.same {a e:V} (h:TkA t H p up a e) (s:Same H H'):TkA t H' p up a e:=by
 obtain⟨dx,fs,hp,r⟩:=h;exact⟨dx,fs,s _ _ hp,r⟩
theorem TkA.ok {a e:V} (h:TkA t H p up a e):if up=true then okU a e else okD a e:=by
 obtain⟨dx,fs,hp,tf,ok⟩:=h;exact ok
theorem EN {a:V} {z:Int} (h:z∈rY up a ks):z∈ks:=by
 unfold rY at h;split at h
 .exact(QH.mp h).1
 .exact ZG.mp (QH.mp h).1
 .exact ZG.mp (QH.mp h).1
theorem EO {a:V}:(rY up a ks).length<=ks.length:=by
 unfold rY;split
 .exact Qo _ _
 .exact QD (Qo _ _) (Zr Z1)
 .exact QD (Qo _ _) (Zr Z1)
theorem dHK:DOr (D1 t.c8 (cY t)) (D1 t.bV (b7 t)) (if up=true then t.c8 else t.bV) (if up=true then cY t else b7 t):=by
 cases up
 .exact .inr ⟨rfl,rfl⟩
 .exact .inl ⟨rfl,rfl⟩
theorem Hr {a e:V} {E:XK} (h:H p=some (.ins (if up=true then t.c8 else t.bV) dx fs)) (f:wN (if up=true then "up" else "down") fs a e) (ok:if up=true then okU a e else okD a e) (h0:0<=k)
  (q:∀H',Same H H'->Q (.bl (hK up a e k)) H'):(if up=true then cY t else b7 t) [.ref p,.int k] H Q E:=by
 cases up
 .exact⟨p,dx,fs,a,e,k,rfl,h,f,ok,h0,q⟩
 .exact⟨p,dx,fs,a,e,k,rfl,h,f,ok,h0,q⟩
def sC (K:PySem.W.Frag) (t:Adr):Sp:=λvs H Q _=>∃(l p:Addr) (n:Int) (up:Bool) (a e:V) (F:Addr->Prop) (ks:List Int),vs=[.ref l,.ref p,.int n]/\LvA K t H l F ks/\TkA t H p up a e/\ks.length<4096/\(∀k∈ks,0<=k)/\
 ∀(H':Hp) (r g:Addr) (v:V),Same H H'->H r=none->H g=none->H' r=some (.tup [.ref g,v])->H' g=some (.lst (((bX up a e ks).take n.toNat).map V.int))->NxK t H H' p up e (bX up a e ks) n.toNat v->Q (.ref r) H'
theorem sU (T:Txt K mg t):FnOk P w K mg base CX0 6 t.mS t.iB ["leaves","token","many"] (sC K t):=by
 refine T.vE.okl sc_keys_of_page λ_ _ _ s H vs Q E hr h=>?_;obtain⟨l,p,n,up,a,e,F,ks,rfl,L,TK,l1,k0,q⟩:=h;refine⟨_,(ac (az (i:=3) sc_keys_of_page.nd rfl (Or.inl rfl) (aE (nJ rfl) (by rfl) T.D5 yK (aa (pv 2) (aa ag ah))))
   (ac (EB (i:=4) rfl (CScope.of (M:=["key"]) (N:=["leaves","token","many","most","held","page"]) (N':=["leaves","token","many","most","held","page"]) (dsc:=ak eB) rfl rfl (by decide+kernel)) (cZ (aM (yp T) hr.mo (by rfl) T.Io T.Ak.kp T.Iy .nil aA (aa (pv 0) (aa (pv 1) (aa (am bn (pv 3) ag) ah))))) (λ_ _ _ _ _=>(eG (pU (kk:=1) (gK (bY T.gw T.mr (gI T) T.mL (by decide)) (bY T.b6 T.jn (eK T) T.jD (by decide))) hr.mo (pv 2) (aa (pv 0) ah)))) (λ_ _ _ _ _=>(pv 0)) sc_keys_of_page.nd rfl rfl)
   (ac (az (i:=5) sc_keys_of_page.nd rfl (Or.inl rfl) (eI gH (pv 4) iR (fL (pv 3))))
   (ac (aU (aq bL (aE aD (by rfl) T.bM bg (aa (pv 4) ah)) (aE aD (by rfl) T.bM bg (aa (pv 5) ah)) (ar _))
   (ai (aC (bz (aa (pv 5) (aa bf ah)))))
   aH)
   (ac (aU (aq bL (aE aD (by rfl) T.bM bg (aa (pv 5) ah)) ag (ar _))
   (ai (aC (bz (aa (pv 5) (aa (pv 1) ah)))))
   aH)
   (ai (aC (bz (aa (pv 5) (aa (aM (sS T) hr.mo (by rfl) T.E1 T.vB.kp T.FL .nil aA (aa (pv 1) (aa (aW aV (pv 5) (ED AG ag) (λ_ _=>rfl)) ah))) ah))))))))))
  ,?_⟩
 have RK:=L.rise;refine⟨_,rfl,n,0,rfl,?_⟩;obtain⟨m,em⟩:∃m:Nat,n.toNat=m:=⟨_,rfl⟩;have e0:(if(0:Int)>n then(0:Int)else n)=(m:Int):=by
  rw[<-em];split<;>lia
 rw[e0];rw[em]at q;have ok:=TK.ok;refine⟨_,rfl,_,rfl,_,rfl,_,_,rfl,rfl,l,p,(m:Int)+1,up,a,e,F,ks,rfl,L,TK,l1,by lia,λH1 g1 s1 ng1 h1=>?_⟩;rw[show((m:Int)+1).toNat=m+1 by lia]at h1;obtain⟨ns,ens⟩:∃ns,(rY up a ks).take (m+1)=ns:=⟨_,rfl⟩;have fl:=CY (n:=m+1) ok RK;rw[ens]at h1 fl;have nl:ns.length<=4096:=by
  rw[<-ens];have h1:=EO (up:=up) (a:=a) (ks:=ks);rw[Q8];lia
 have n0:∀z∈ns,0<=z:=λz hz=>k0 z (EN (QY (ens▸hz)));refine⟨g1,rfl,⟨_,SqL.of h1⟩,λD hD=>?_⟩;refine kP (K:=K) (a:=g1) (xs:=ns.map V.int) (λi ys H2=>Same H1 H2/\ys=((ns.take i).filter (hK up a e)).map V.int) ⟨aj hD,rfl⟩ (λi ys H2 _ w=>SqL.of (w.1 _ _ h1)) (λi x ys H2 hx w hDD=>?_) (λys H2 w hDD=>?_)
 .obtain⟨s2,ey⟩:=w;have hi:i<(ns.map V.int).length:=(Q2.mp hx).1;obtain⟨g,rfl,eg⟩:=Cd hx;obtain⟨dx,fs,hp,tf,_⟩:=TK.same (s1.trans s2);have fl2:=Fw (hK up a e) ns i;refine⟨_,rfl,p,_,dx,fs,_,rfl,hp,tf.ho,dHK,_,rfl,Hr hp tf ok (n0 g (Q1 eg)) λH3 s3=>⟨_,rfl,?_⟩⟩;by_cases c:hK up a e g=true
  .rw[c];refine c6 ⟨_,rfl,CNext.mk hi (s3 _ _ hDD) (bq (by rw[ey,Q0];lia)) ⟨bN (s2.trans s3) hD,?_⟩⟩;rw[ey,xt eg,if_pos c,Qc];rfl
  .rw[QP.mpr c];refine cI (CSkip.mk hi (s3 _ _ hDD) ⟨s2.trans s3,?_⟩);rw[ey,xt eg,if_neg c,ZL]
 obtain⟨s2,ey⟩:=w;rw[ey,Q0,QF,fl]at hDD;clear ey h1 ens fl nl n0;have s12:=s1.trans s2;obtain⟨hs,ehs⟩:∃hs,bX up a e ks=hs:=⟨_,rfl⟩;rw[ehs]at hDD q;refine⟨_,rfl,_,rfl,(m:Int),rfl,D,_,rfl,SqL.of hDD,λg ng=>?_⟩;rw[mK (Xx m),<-Z7,show((m:Int)).toNat=m by lia,List.take_take,X0 (Zy m)];have ng2:H g=none:=c7 s12 ng;have hg:upd H2 g (.lst ((hs.take m).map V.int)) g=some (.lst ((hs.take m).map V.int)):=ae;have hDg:upd H2 g (.lst ((hs.take m).map V.int)) D=some (.lst ((hs.take (m+1)).map V.int)):=by rw[af (al hDD ng)];exact hDD
 have s3:=s12.trans (aj (o:= .lst ((hs.take m).map V.int)) ng);generalize upd H2 g (.lst ((hs.take m).map V.int))=H3 at hg hDg s3⊢;clear hDD ng s2 s12 s1 hD;refine⟨_,rfl,D,_,rfl,.inl (SqL.of hDg),_,rfl,g,_,rfl,.inl (SqL.of hg),rfl,_,rfl,?_⟩;by_cases c:hs.length<=m
 .refine fS ?_ ⟨_,rfl,(by show 2<=sizeLine;decide),λr nr=>?_⟩
  .rw[Qt (by lia),Qt c]
  .refine q _ r g .non (s3.trans (aj nr)) (c7 s3 nr) ng2 ae (by rw[af (al hg nr)];exact hg) ?_;unfold NxK;rw[if_pos c]
 refine bc ?_ ?_
 .intro z;have z:=V.int.inj z;rw[Q0,Q0,Q8,Q8]at z;lia
 refine⟨_,rfl,g,_,rfl,.inl (SqL.of hg),rfl,_,rfl,?_⟩;by_cases d:m=0
 .refine fS ?_ ⟨_,rfl,_,rfl,(by show 2<=sizeLine;decide),λr nr=>?_⟩
  .rw[d];rfl
  .refine q _ r g (.ref p) (s3.trans (aj nr)) (c7 s3 nr) ng2 ae (by rw[af (al hg nr)];exact hg) ?_;unfold NxK;rw[if_neg c,if_pos d]
 refine bc ?_ ?_
 .intro z;have z:=V.int.inj z;rw[Q0,Q8]at z;lia
 obtain⟨k,ek⟩:∃k,hs[m-1]?=some k:=⟨_,Q3 (by lia)⟩;obtain⟨k',ek'⟩:∃k',hs[m-1+1]?=some k':=⟨_,Q3 (by lia)⟩;have ob:=CT ok RK (ehs▸ek) (ehs▸ek');refine⟨_,rfl,_,rfl,_,rfl,_,rfl,g,_,_,.int k,rfl,rfl,SqL.of hg,?_,p,up,a,e,k,rfl,TK.same s3,ob,λH4 b s4 nb TK4=>⟨(by show 2<=sizeLine;decide),λr nr=>?_⟩⟩
 .refine Ct (λz=>?_) ?_
  .have:=congrArg List.length z;rw[Q8]at this;have:([]:List Int).length=0:=rfl;lia
  .rw[Q8,X0 (by lia),X9 (by lia)];exact ek
 refine q _ r g (.ref b) ((s3.trans s4).trans (aj nr)) (c7 (s3.trans s4) nr) ng2 ae (by rw[af (al (s4 _ _ hg) nr)];exact s4 _ _ hg) ?_;unfold NxK;rw[if_neg c,if_neg d];exact⟨b,k,ek,rfl,c7 s3 nb,TK4.same (aj nr)⟩
def vU (K:PySem.W.Frag) (t:Adr):Sp:=λvs H Q _=>∃(a:Addr) (k:Int) (v:V) (F:Addr->Prop) (x:HSt),vs=[.ref a,.int k]/\HoA K t H a F x/\0<=k/\aO x.st.kv k=some v/\∀H' F',HoA K t H' a F' x->Fr F F' H H'->Q v H'
theorem wy (T:Txt K mg t):FnOk P w K mg base CX0 5 t.qD t.kO ["self","key"] (vU K t):=by
 refine T.HS.okl wc λ_ _ _ s H vs Q E hr h=>?_;obtain⟨a,k,v,F,x,rfl,A,k0,ev,q⟩:=h;refine⟨_,(ai (aC (aQ (au (pv 0) rfl) T.aG T.Hf (wu T) hr.mo T.HE .nil aA (aa (pv 1) ah))))
  ,?_⟩
 obtain⟨s,l,wr,p,h,Fs,Fl,B,O,g⟩:=A;obtain⟨dx,ho⟩:=B.o.ob;obtain⟨ds,fs,hs,hm⟩:=B.sl.ins;refine⟨_,rfl,a,_,dx,_,_,rfl,ho,T.aN,T.cR,u8,s,ds,fs,rfl,hs,hm _ (by decide+kernel),_,rfl,s,k,Fs,x.st,rfl,B.sl,k0,λv' ev' H1 Fs1 S1 f1=>?_,λz=>by rw[ev]at z;cases z⟩;rw[ev]at ev';cases ev';obtain⟨B1,g1⟩:=B.slots S1 f1;exact q H1 (HoF a wr p h Fs1 Fl x.pa) ⟨s,l,wr,p,h,Fs1,Fl,B1,O,λ_=>Iff.rfl⟩ λb o n e=>g1 b o (λz=>n ((g b).mpr z)) e
def NxH (t:Adr) (H H':Hp) (F':Addr->Prop) (p:Addr) (up:Bool) (e:V) (hs:List Int) (m:Nat) (v:V):Prop:=if hs.length<=m then v= .non else if m=0 then v= .ref p else ∃(q:Addr) (k:Int),hs[m-1]?=some k/\v= .ref q/\H q=none/\¬F' q/\TkA t H' q up (.int (if up=true then k+1 else k-1)) e
def IS (K:PySem.W.Frag) (t:Adr) (more:List V):Sp:=λvs H Q _=>∃(a p:Addr) (n:Int) (up:Bool) (av e:V) (F:Addr->Prop) (x:HSt),vs=[.ref a,.ref p,.int n]++more/\HoA K t H a F x/\TkA t H p up av e/\¬F p/\x.ks.length<4096/\(∀k∈x.ks,0<=k)/\
 ∀(H':Hp) (F':Addr->Prop) (r g:Addr) (v:V) (ts:List Tp),HoA K t H' a F' x->Fr F F' H H'->PgA H H' F F' r g v ts->ts.map (·.k)=(bX up av e x.ks).take n.toNat->(∀e∈ts,aO x.st.kv e.k=some e.v)->NxH t H H' F' p up e (bX up av e x.ks) n.toNat v->Q (.ref r) H'
def kS (K:PySem.W.Frag) (t:Adr):Sp:=IS K t []
theorem HoA.lvs {x:HSt} (A:HoA K t H a F x):∃(dx:Addr) (fs:List (Str×V)) (l:Addr) (Fl:Addr->Prop),H a=some (.ins t.aK dx fs)/\fs.lookup ("leaves":Str)=some (.ref l)/\LvA K t H l Fl x.ks:=by
 obtain⟨s,l,wr,p,h,Fs,Fl,B,O,g⟩:=A;obtain⟨dx,ho⟩:=B.o.ob;exact⟨dx,_,l,Fl,ho,Bv,B.lv⟩
theorem Fk {a e:V} {z:Int} (h:z∈bX up a e ks):z∈ks:=by
 have h:=(QH.mp h).1;cases up
 .exact ZG.mp h
 .exact h
theorem Fm {a e:V}:(bX up a e ks).length<=ks.length:=by
 refine QD (Qo _ _) ?_;cases up
 .exact Zr Z1
 .exact Q4 _
theorem sT (T:Txt K mg t):FnOk P w K mg base CX0 7 t.mR t.iA ["house","token","many"] (kS K t):=by
 refine T.vD.okl sc_page_by_keys λ_ _ _ s H vs Q E hr h=>?_;obtain⟨a,p,n,up,av,e,F,x,rfl,A,TK,np,l1,k0,q⟩:=h;refine⟨_,(ac (az (i:=3) sc_page_by_keys.nd rfl (Or.inl rfl) (aM (sU T) hr.mo (by rfl) T.E3 T.vE.kp T.FN .nil aA (aa (au (pv 0) rfl) (aa (pv 1) (aa (pv 2) ah)))))
   (ai (aC (bz (aa (iT rfl (CScope.of (M:=["key"]) (N:=["house","token","many","page"]) (N':=["house","token","many","page"]) (dsc:=ak eh) rfl rfl (by decide+kernel)) (cZ (aW bU (pv 3) ag (λ_ _=>rfl))) (λ_ _ _ _ _=>(bz (aa (pv 0) (aa (aQ (pv 1) T.aN T.Hj (wy T) hr.mo T.HI .nil aA (aa (pv 0) ah)) ah))))) (aa (aW bU (pv 3) ag (λ_ _=>rfl)) ah))))))
  ,?_⟩
 obtain⟨dx,fs,l,Fl,ho,hl,L⟩:=A.lvs;refine⟨_,rfl,a,_,dx,fs,_,rfl,ho,T.aN,T.gh,hl,_,rfl,_,rfl,l,p,n,up,av,e,Fl,x.ks,rfl,L,TK,l1,k0,λH1 r1 g1 v s1 nr1 ng1 hr1 hg1 nx=>?_⟩;have A1:=A.same s1;have f1:Fr F F H H1:=Fr.of_same s1;clear TK;obtain⟨pk,epk⟩:∃pk,(bX up av e x.ks).take n.toNat=pk:=⟨_,rfl⟩;have pm:∀z∈pk,z∈x.ks:=λz hz=>Fk (QY (epk▸hz));have pl:pk.length<=4096:=by
  have:=Fm (up:=up) (a:=av) (e:=e) (ks:=x.ks);rw[<-epk,Q8];lia
 rw[epk]at hg1 q;refine⟨_,rfl,r1,_,_,_,rfl,rfl,SqT.of hr1,rfl,g1,rfl,⟨_,SqL.of hg1⟩,λD hD=>?_⟩;refine jP (K:=K) (a:=g1) (xs:=pk.map V.int) (λi ys H2=>∃(F2:Addr->Prop) (ts:List Tp),HoA K t H2 a F2 x/\Fr F F2 H1 H2/\¬F2 D/\ys=ts.map (λe=>V.ref e.p)/\ts.map (·.k)=pk.take i/\∀e∈ts,H2 e.p=some (.tup [.int e.k,e.v])/\¬F2 e.p/\aO x.st.kv e.k=some e.v) ⟨F,[],A1.same (aj hD),Fr.of_same (aj hD),A1.out hD,rfl,rfl,λe he=>absurd he QT⟩ (λi ys H2 _ w=>?_) (λi y ys H2 hy w hDD=>?_) (λys H2 w hDD=>?_)
 .obtain⟨F2,ts,A2,f2,_⟩:=w;exact SqL.of (f2 _ _ (A.out ng1) hg1).1
 .obtain⟨F2,ts,A2,f2,nD,ey,ek,tu⟩:=w;have hi:i<(pk.map V.int).length:=(Q2.mp hy).1;obtain⟨k,rfl,hk⟩:=Cd hy;have km:=pm k (Q1 hk);obtain⟨v2,ev2⟩:=X8.mp ((A1.ok.ks k).mp km);obtain⟨d2,fs2,hi2,hm2,_⟩:=A2.ins;refine⟨_,rfl,_,rfl,a,d2,fs2,rfl,hi2,hm2 _ (by decide+kernel),_,rfl,a,k,v2,F2,x,rfl,A2,k0 k km,ev2,λH3 F3 A3 f3=>⟨(by show 2<=sizeLine;decide),λb nb=>?_⟩⟩;obtain⟨hD3,nD3⟩:=f3 _ _ nD hDD;have sb:Same H3 (upd H3 b (.tup [.int k,v2])):=aj nb;have hb:upd H3 b (.tup [.int k,v2]) b=some (.tup [.int k,v2]):=ae;generalize upd H3 b (.tup [.int k,v2])=H4 at sb hb⊢;have A4:=A3.same sb;have nF3:=A3.out nb;have f4:Fr F F3 H1 H4:=f2.trans (f3.trans (Fr.of_same sb));have hD4:=sb _ _ hD3;have tl:ts.length<=4096:=by
   have:=congrArg List.length ek;rw[Q0,Q8]at this;lia
  refine CNext.mk hi hD4 (bq (by rw[ey,Q0];lia)) ⟨F3,ts++ [⟨b,k,v2⟩],A4.upd nD3 (λxs z=>by rw[hD4]at z;cases z),λc o n e=>⟨by rw[af (al e hD)];exact(f4 c o n e).1,(f4 c o n e).2⟩,nD3,by rw[ey,Qc];rfl,by rw[Qc,ek,Qr,hk];rfl,λe he=>?_⟩;have key:H4 e.p=some (.tup [.int e.k,e.v])/\¬F3 e.p/\aO x.st.kv e.k=some e.v:=by
   rcases Q5.mp he with he|he
   .obtain⟨t1,t2,t3⟩:=tu e he;obtain⟨t4,t5⟩:=f3 _ _ t2 t1;exact⟨sb _ _ t4,t5,t3⟩
   .rw[Q7.mp he];exact⟨hb,nF3,ev2⟩
  refine⟨?_,key.2⟩;rw[af (λz=>by rw[z,hD4]at key;cases key.1)];exact key.1
 obtain⟨F2,ts,A2,f2,nD,ey,ek,tu⟩:=w;rw[ey]at hDD;rw[Q0,QF]at ek;have hr2:=f2 _ _ (A.out nr1) hr1;refine⟨_,rfl,r1,_,_,_,rfl,rfl,SqT.of hr2.1,rfl,(by show 2<=sizeLine;decide),λr nr=>?_⟩;have s3:Same H2 (upd H2 r (.tup [.ref D,v])):=aj nr;have hr:upd H2 r (.tup [.ref D,v]) r=some (.tup [.ref D,v]):=ae;have nF:=A2.out nr;generalize upd H2 r (.tup [.ref D,v])=H3 at s3 hr⊢;have f3:Fr F F2 H H3:=f1.trans (f2.trans (Fr.of_same s3));refine q H3 F2 r D v ts (A2.same s3) f3 ⟨hr,s3 _ _ hDD,λe he=>⟨s3 _ _ (tu e he).1,(tu e he).2.1⟩,⟨λz=>?_,nF⟩,⟨λ_=>c7 s1 hD,nD⟩⟩ ek (λe he=>(tu e he).2.2) ?_
 .cases eo:H r with
  |none=>rfl
  |some o=>rw[((f1.trans f2) _ _ z eo).1]at nr;cases nr
 .unfold NxK at nx;unfold NxH;by_cases c:(bX up av e x.ks).length<=n.toNat
  .rw[if_pos c]at nx⊢;exact nx
  .rw[if_neg c]at nx⊢;by_cases d:n.toNat=0
   .rw[if_pos d]at nx⊢;exact nx
   .rw[if_neg d]at nx⊢;obtain⟨b,k,ek,ev,nb,dy,fy,hy,ry⟩:=nx;obtain⟨h2,n2⟩:=f2 _ _ (A.out nb) hy;exact⟨b,k,ek,ev,nb,n2,dy,fy,s3 _ _ h2,ry⟩
def vG (W j r:Int):Int:=if j<(r/W+1)*W then j else(r/W+1)*W
def aZ (W j i:Int):Nat->Int
 |0=>i
 |n+1=>vG W j (aZ W j i n)
theorem Eo {j r:Int} (W0:0<W) (h:r<j):r<vG W j r/\vG W j r<=j:=by
 have:=X1 r W0;unfold vG;split<;>lia
theorem pS {W j i:Int} (W0:0<W) (h:i<=j):∀n:Nat,(∀x<n,aZ W j i x<j)->i<=aZ W j i n/\aZ W j i n<=j/\(0<n->vG W j i<=aZ W j i n)
 |0,_=>⟨Zu _,h,λz=>absurd z (by decide)⟩
 |n+1,w=>by
  obtain⟨a,b,c⟩:=pS W0 h n λx hx=>w x (by lia);obtain⟨d,e⟩:=Eo W0 (w n (by lia));refine⟨show i<=vG W j (aZ W j i n) by lia,e,λ_=>?_⟩;cases n with
  |zero=>exact Zu _
  |succ m=>exact Int.le_trans (c (by lia)) (XD d)
structure RwS (st:SSt) (lo hi:Int) (ps:List (Int×V)):Prop where
 so:ps.Pairwise rf
 me:∀k v,(k,v)∈ps↔(k,v)∈st.kv/\lo<=plc k/\plc k<hi
theorem RwS.app (h:RwS st lo m ps) (g:RwS st m hi qs) (l1:lo<=m) (l2:m<=hi):RwS st lo hi (ps++qs):=by
 refine⟨Qk.mpr ⟨h.so,g.so,λx hx y hy=> .inl ?_⟩,λk v=>?_⟩
 .have a:=((h.me x.1 x.2).mp hx).2;have b:=((g.me y.1 y.2).mp hy).2;lia
 .rw[Q5,h.me,g.me];constructor
  .rintro (⟨x,y,z⟩|⟨x,y,z⟩)
   .exact⟨x,y,by lia⟩
   .exact⟨x,by lia,z⟩
  .rintro ⟨x,y,z⟩;by_cases d:plc k<m
   .exact .inl ⟨x,y,d⟩
   .exact .inr ⟨x,by lia,z⟩
theorem RwS.uniq (h:RwS st lo hi ps) (g:RwS st lo hi qs):ps=qs:=by
 have nd:∀{l:List (Int×V)},l.Pairwise rf->l.Nodup:=λw=>w.imp λ{a b} z e=>by
  rw[e]at z;unfold rf at z;lia
 refine List.Perm.eq_of_pairwise (λx y _ _ h1 h2=>?_) h.so g.so ((List.perm_ext_iff_of_nodup (nd h.so) (nd g.so)).mpr λx=>(h.me x.1 x.2).trans (g.me x.1 x.2).symm);unfold rf at h1 h2;lia
theorem RwS.len (h:RwS st lo hi ps):ps.length<=st.kv.length:=by
 refine io (h.so.imp λ{a b} z e=>?_) λx hx=>((h.me x.1 x.2).mp hx).1;rw[e]at z;unfold rf at z;lia
structure PgS (st:SSt) (i j n:Int) (m:Nat) (ps:List (Int×V)):Prop where
 rw:RwS st i (aZ (65536/st.low) j i m) ps
 go:∀x<m,aZ (65536/st.low) j i x<j
 le:∀x,0<x->x<m->∀qs,RwS st i (aZ (65536/st.low) j i x) qs->(qs.length:Int)<n/\(x:Int)<4*n
 st:aZ (65536/st.low) j i m=j\/(0<m/\(n<=ps.length\/4*n<=m))
def TkS (t:Adr) (H:Hp) (p:Addr) (i j:Int):Prop:=∃(dx:Addr) (fs:List (Str×V)),H p=some (.ins t.aT dx fs)/\wN "slots" fs (.int i) (.int j)/\0<=i/\i<=j/\j<=65536
theorem TkS.fr {i j:Int} (h:TkS t H p i j) (n:¬F p) (f:Fr F F' H H'):TkS t H' p i j/\¬F' p:=by
 obtain⟨dx,fs,hp,r⟩:=h;exact⟨⟨dx,fs,(f _ _ n hp).1,r⟩,(f _ _ n hp).2⟩
def NxS (t:Adr) (H H':Hp) (F F':Addr->Prop) (r j:Int) (v:V):Prop:=if r=j then v= .non else ∃q:Addr,v= .ref q/\(¬F q->H q=none)/\¬F' q/\TkS t H' q r j
def qK (K:PySem.W.Frag) (t:Adr):Sp:=λvs H Q _=>∃(a p:Addr) (n i j:Int) (F:Addr->Prop) (st:SSt),vs=[.ref a,.ref p,.int n]/\SlA K t H a F st/\TkS t H p i j/\¬F p/\1<=n/\n<=1000/\st.kv.length<4096/\(∀p∈st.kv,∃i:Int,p.2= .int i)/\
 ∀(H':Hp) (F':Addr->Prop) (r g:Addr) (v:V) (ts:List Tp) (m:Nat),SlA K t H' a F' st->Fr F F' H H'->PgA H H' F F' r g v ts->PgS st i j n m (ts.map Tp.kv)->NxS t H H' F F' (aZ (65536/st.low) j i m) j v->Q (.ref r) H'
structure WkS (K:PySem.W.Frag) (t:Adr) (H H':Hp) (a p l:Addr) (F F':Addr->Prop) (st:SSt) (i j:Int) (m:Nat) (ts:List Tp):Prop where
 sl:SlA K t H' a F' st
 fr:Fr F F' H H'
 tk:TkS t H' p i j
 np:¬F' p
 ol:¬F' l
 li:H' l=some (.lst (ts.map λe=>V.ref e.p))
 tu:∀e∈ts,H' e.p=some (.tup [.int e.k,e.v])/\¬F' e.p
 rw:RwS st i (aZ (65536/st.low) j i m) (ts.map Tp.kv)
 go:∀x<m,aZ (65536/st.low) j i x<j
theorem WkS.move {H1:Hp} {l:Addr} {F1:Addr->Prop} {i j:Int} {m:Nat} (h:WkS K t H H' a p l F F' st i j m ts) (s1:SlA K t H1 a F1 st) (f1:Fr F' F1 H' H1):WkS K t H H1 a p l F F1 st i j m ts:=
 ⟨s1,h.fr.trans f1,(h.tk.fr h.np f1).1,(h.tk.fr h.np f1).2,(f1 _ _ h.ol h.li).2,(f1 _ _ h.ol h.li).1,λe he=>f1 _ _ (h.tu e he).2 (h.tu e he).1,h.rw,h.go⟩
theorem rj (T:Txt K mg t):FnOk P w K mg base CX0 5 t.kT t.gj ["slots","token","many"] (qK K t):=by
 obtain⟨tk_STRETCHES_A_KEY,hSTRETCHES_A_KEY⟩:=T.g_STRETCHES_A_KEY;refine T.tG.okl sc_page_by_slots λ_ _ _ s H vs Q E hr h=>?_;obtain⟨a,p,n,i,j,F,st,rfl,hA,TK,np,n1,n2,l4,iv,q⟩:=h;refine⟨_,(ac (az (i:=3) sc_page_by_slots.nd rfl (Or.inl rfl) (bR ah))
   (ac (az (i:=4) sc_page_by_slots.nd rfl (Or.inl rfl) (au (pv 1) rfl))
   (ac (az (i:=5) sc_page_by_slots.nd rfl (Or.inl rfl) ag)
   (ac (lV PassesOwn.never (aq dW (pv 4) (au (pv 1) rfl) (ar _))
   (ac (az (i:=6) sc_page_by_slots.nd rfl (Or.inl rfl) (aE (nI rfl) (by rfl) T.y7 rR (aa (aQ (pv 0) T.aG T.wD (lY T) hr.mo T.wJ .nil aA (aa (pv 4) ah)) (aa (au (pv 1) rfl) ah))))
   (ac (aR (dG Qq ZH ZI ni (pv 3) (aa (aQ (pv 0) T.aG T.Gb (uH T) hr.mo T.Gi .nil aA (aa (pv 4) (aa (pv 6) ah))) ah)))
   (ac (az (i:=4) sc_page_by_slots.nd rfl (Or.inl rfl) (pv 6))
   (ac (Ba (i:=5) sc_page_by_slots.nd rfl (Or.inl rfl) ag Ff)
   (ai (aU (PW.pt (hV (aq xf (aE aD (by rfl) T.bM bg (aa (pv 3) ah)) (pv 2) (ar _)) (fv (aq xf (pv 5) (am dn (cy (v:= .int 4) (by rfl) hSTRETCHES_A_KEY ⟨_,rfl⟩) (pv 2)) (ar _)))))
   (ai EC)
   aH)))))))
   (ac (aU (aq bL (pv 4) (au (pv 1) rfl) (ar _))
   (ai (aC (bz (aa (pv 3) (aa bf ah)))))
   aH)
   (ai (aC (bz (aa (pv 3) (aa (iS T.Bj (jI T) hr.mo (by rfl) T.uR T.tE .nil aA (aa (pv 4) (aa (au (pv 1) rfl) ah))) ah))))))))))
  ,?_⟩
 have z:SzOk st:=let⟨_,_,_,_,_,z⟩:=hA;z
 obtain⟨s4,s5⟩:=bQ (jo z);obtain⟨_,_,R⟩:=yg (jo z);have W0:=R.wpos';obtain⟨dx,fs,hp,tf,i0,ij,j1⟩:=id TK;refine⟨Qj _,λl nl=>?_⟩;have W1:WkS K t H (upd H l (.lst [])) a p l F F st i j 0 []:=⟨hA.new nl,Fr.of_same (aj nl),⟨dx,fs,by rw[af (al hp nl)];exact hp,tf,i0,ij,j1⟩,np,hA.out nl,ae,(λe he=>by cases he),⟨List.Pairwise.nil,λk v=>⟨λh=>by(cases h),λh=>by have:=h.2;simp only[aZ]at this;lia⟩⟩,λx hx=>absurd hx (XV x)⟩;refine⟨_,rfl,p,_,dx,fs,_,rfl,by rw[af (al hp nl)];exact hp,T.bC,T.jk,tf.at_,?_⟩
 (try dsimp only)
 generalize upd H l (.lst [])=H1 at W1⊢;clear hp tf dx fs;show Ej (Ei _ _) _ _ _ H1;refine b3 (λσ H'=>∃(F':Addr->Prop) (m:Nat) (ts:List Tp) (v6:Option V),σ=[some (.ref a),some (.ref p),some (.int n),some (.ref l),some (.int (aZ (65536/st.low) j i m)),some (.int m),v6]/\WkS K t H H' a p l F F' st i j m ts/\PgS st i j n m (ts.map Tp.kv)) (λnx go=>?_) (λσ H2 w=>?_)
 .refine⟨λmm σ H'=>∃(F':Addr->Prop) (m:Nat) (ts:List Tp) (v6:Option V),mm=(j-aZ (65536/st.low) j i m).toNat/\σ=[some (.ref a),some (.ref p),some (.int n),some (.ref l),some (.int (aZ (65536/st.low) j i m)),some (.int m),v6]/\WkS K t H H' a p l F F' st i j m ts/\(∀x,0<x->x<=m->∀qs,RwS st i (aZ (65536/st.low) j i x) qs->(qs.length:Int)<n/\(x:Int)<4*n),⟨_,F,0,[],none,rfl,rfl,W1,λx x0 xm=>absurd x0 (by lia)⟩,λmm σ H' w=>?_⟩;obtain⟨F',m,ts,v6,rfl,eσ,w,lt⟩:=w;subst eσ;obtain⟨dx,fs,hp,tf,_⟩:=id w.tk;obtain⟨r0,r1,_⟩:=pS W0 ij m w.go;refine⟨_,rfl,_,rfl,p,_,dx,fs,_,rfl,hp,T.bC,T.b9,tf.end_,_,_,rfl,rfl,_,rfl,bJ (λc=>?_) (λc=>?_)⟩
  .have c:=of_decide_eq_true c;obtain⟨r2,r3⟩:=Eo W0 c;refine⟨λσ' H2=>∃(F2:Addr->Prop) (ts2:List Tp) (v6:Option V),σ'=[some (.ref a),some (.ref p),some (.int n),some (.ref l),some (.int (aZ (65536/st.low) j i (m+1))),some (.int (m+1:Nat)),v6]/\WkS K t H H2 a p l F F2 st i j (m+1) ts2/\(ts2.length:Int)<n/\((m+1:Nat):Int)<4*n,λσ' H2 g=>?_,?_⟩
   .obtain⟨F2,ts2,v6,e,w2,b1,b2⟩:=g;refine⟨_,?_,F2,m+1,ts2,v6,rfl,e,w2,λx x0 xm qs hq=>?_⟩
    .show(j-vG (65536/st.low) j (aZ (65536/st.low) j i m)).toNat<_;lia
    .rcases Xy xm with xm|rfl
     .exact lt x x0 (by lia) qs hq
     .rw[hq.uniq w2.rw,Q0];exact⟨b1,b2⟩
   obtain⟨dx1,fs1,hi1,hm1⟩:=w.sl.ins;refine⟨_,rfl,a,dx1,fs1,rfl,hi1,hm1 _ (by decide+kernel),_,rfl,a,_,F',st,rfl,w.sl,by lia,by lia,λH2 F2 s2 f2=>?_⟩;have w2:=w.move s2 f2;obtain⟨dx2,fs2,hp2,tf2,_⟩:=id w2.tk;refine⟨_,rfl,p,_,dx2,fs2,_,rfl,hp2,T.bC,T.b9,tf2.end_,_,_,rfl,?_⟩
   (try dsimp only)
   change mB 6 (V.int (aZ (65536/st.low) j i (m+1))) _ _ _;obtain⟨dx3,fs3,hi3,hm3⟩:=w2.sl.ins;refine⟨_,rfl,.inl ⟨rfl,_,SqL.of w2.li⟩,_,rfl,a,dx3,fs3,rfl,hi3,hm3 _ (by decide+kernel),_,rfl,_,rfl,a,_,_,F2,st,rfl,w2.sl,l4,iv,λH3 F3 l1 ts1 s3 f3 o3 n3 e3 u3 so3 me3=>?_⟩;have w3:=w2.move s3 f3;have rw4:RwS st i (aZ (65536/st.low) j i (m+1)) ((ts++ts1).map Tp.kv):=by
    rw[Qc];exact w3.rw.app ⟨so3,me3⟩ r0 (XD r2)
   have ln:=rw4.len;rw[Q0,Qa]at ln;have nel:∀{p:Addr} {xs:List V},H3 p=some (.tup xs)->p≠l:=λ{p xs} e z=>by rw[z,w3.li]at e;cases e
   have w4:WkS K t H (upd H3 l (.lst (ts.map (λe=>V.ref e.p)++ts1.map (λe=>V.ref e.p)))) a p l F F3 st i j (m+1) (ts++ts1):=by
    refine⟨w3.sl.upd w3.ol,w3.fr.upd_new λ_=>nl,?_,w3.np,w3.ol,by rw[ae,Qc],λe he=>?_,rw4,λx hx=>?_⟩
    .obtain⟨dx,fs,hp,r⟩:=w3.tk;exact⟨dx,fs,by rw[af λz=>by rw[z,w3.li]at hp;cases hp];exact hp,r⟩
    .rcases Q5.mp he with he|he
     .exact⟨by rw[af (nel (w3.tu e he).1)];exact(w3.tu e he).1,(w3.tu e he).2⟩
     .exact⟨by rw[af (nel (u3 e he).1)];exact(u3 e he).1,(u3 e he).2⟩
    .rcases Xy (Nat.le_of_lt_succ hx)with hx|rfl
     .exact w.go x hx
     .exact c
   refine⟨l,l1,_,_,rfl,rfl,w3.li,e3,by rw[Q0,Q0];exact Zq (bq (by lia)),?_⟩
   (try dsimp only)
   generalize upd H3 l (.lst (ts.map (λe=>V.ref e.p)++ts1.map (λe=>V.ref e.p)))=H4 at w4⊢;have pg:(n<=((ts++ts1).length:Int)\/4*n<=((m+1:Nat):Int))->PgS st i j n (m+1) ((ts++ts1).map Tp.kv):=λo=>⟨rw4,w4.go,λx x0 xm=>lt x x0 (by lia),.inr ⟨Nat.succ_pos m,by rw[Q0];exact o⟩⟩;refine⟨_,rfl,_,rfl,_,_,rfl,rfl,?_⟩
   (try dsimp only)
   have em:((m:Int)+1)=((m+1:Nat):Int):=by lia
   rw[em];refine⟨_,rfl,l,_,rfl,.inl (SqL.of w4.li),_,rfl,_,_,rfl,rfl,_,rfl,bJ (λc1=>?_) (λc1=>?_)⟩
   .have c1:=of_decide_eq_true c1;rw[Q0]at c1;exact c6 (go _ _ ⟨F3,m+1,ts++ts1,_,rfl,w4,pg (.inl c1)⟩)
   refine⟨_,rfl,_,rfl,_,_,rfl,rfl,.inl ⟨by decide,by decide⟩,_,_,rfl,rfl,_,rfl,bJ (λc2=>?_) (λc2=>?_)⟩
   .exact go _ _ ⟨F3,m+1,ts++ts1,_,rfl,w4,pg (.inr (of_decide_eq_true c2))⟩
   .have c1:¬n<=(((ts++ts1).map λe=>V.ref e.p).length:Int):=λy=>c1 (decide_eq_true y);have c2:¬4*n<=((m+1:Nat):Int):=λy=>c2 (decide_eq_true y);rw[Q0]at c1;exact⟨F3,ts++ts1,_,rfl,w4,by lia,by lia⟩
  .have c:¬aZ (65536/st.low) j i m<j:=λy=>c (decide_eq_true y);exact go _ _ ⟨F',m,ts,v6,rfl,w,w.rw,w.go,λx x0 xm=>lt x x0 (by lia),.inl (by lia)⟩
 obtain⟨F2,m,ts,v6,rfl,w,pg⟩:=w;obtain⟨r0,r1,_⟩:=pS W0 ij m w.go;obtain⟨dx,fs,hp,tf,_⟩:=id w.tk;refine⟨_,rfl,_,rfl,p,_,dx,fs,_,rfl,hp,T.bC,T.b9,tf.end_,rfl,_,rfl,bJ (λc=>?_) (λc=>?_)⟩
 .have c:aZ (65536/st.low) j i m=j:=V.int.inj (of_decide_eq_true c);refine⟨_,rfl,(by show 2<=sizeLine;decide),λr nr=>?_⟩;have s5:=aj (o:= .tup [.ref l,.non]) nr;refine q _ F2 r l .non ts m (w.sl.new nr) (w.fr.trans (Fr.of_same s5)) ⟨ae,s5 _ _ w.li,λe he=>⟨s5 _ _ (w.tu e he).1,(w.tu e he).2⟩,⟨λnF=>qe w.fr nF nr,w.sl.out nr⟩,⟨λ_=>nl,w.ol⟩⟩ pg ?_;unfold NxS;rw[if_pos c]
 .have c:¬aZ (65536/st.low) j i m=j:=λz=>c (decide_eq_true (by rw[z]));have ok:okS (.int (aZ (65536/st.low) j i m)) (.int j):=⟨_,_,rfl,rfl,by lia,by lia,j1⟩;refine⟨_,rfl,_,rfl,_,rfl,p,_,dx,fs,_,rfl,hp,T.bC,T.b9,tf.end_,λx dr nx nd nxd=>?_⟩;refine⟨x,dr,_,_,rfl,ae,T0 _,T0 _,λ_ H' fs' kp' h' tf'=>⟨rfl,(by show 2<=sizeLine;decide),λr nr=>?_⟩,λz=>absurd ok z⟩;have s5:Same H2 (upd H' r (.tup [.ref l,.ref x])):=(qS nx nd kp').trans (aj nr);have nr2:H2 r=none:=c7 (qS nx nd kp') nr;have xr:x≠r:=λz=>by rw[z,nr]at h';cases h'
  refine q _ F2 r l (.ref x) ts m (w.sl.same s5) (w.fr.trans (Fr.of_same s5)) ⟨ae,s5 _ _ w.li,λe he=>⟨s5 _ _ (w.tu e he).1,(w.tu e he).2⟩,⟨λnF=>qe w.fr nF nr2,w.sl.out nr2⟩,⟨λ_=>nl,w.ol⟩⟩ pg ?_;unfold NxS;rw[if_neg c];exact⟨x,rfl,λnF=>qe w.fr nF nx,w.sl.out nx,dr,fs',by rw[af xr];exact h',tf',by lia,by lia,j1⟩
theorem HoB.newb {s l w h:Addr} {Fs Fs' Fl:Addr->Prop} {x:HSt} (B:HoB K t H a s l w p h Fs Fl x) (n:¬Fs b->H b=none) (n':¬Fs' b):¬HoF a w p h Fs' Fl x.pa b:=λz=>by
 rcases z with z|z|z
 .exact n' z
 .obtain⟨o,e⟩:=B.lv.dom z;rw[n λy=>B.a1 b y z]at e;cases e
 .obtain⟨o,e,_⟩:=B.o.dom z;rw[n (B.a2 b z)]at e;cases e
def inI:V->Int
 | .int i=>i|_=>0
def Tell (st:SSt) (ks:List Int) (kd n:Int) (av e:V) (ps:List (Int×V)) (r:Option V):Prop:=
 (kd=0/\∃m,PgS st (inI av) (inI e) n m ps/\r=if aZ (65536/st.low) (inI e) (inI av) m=inI e then none else some (.int (aZ (65536/st.low) (inI e) (inI av) m)))\/
 ∃up:Bool,kd=(if up=true then 1 else 2)/\ps.map (·.1)=(bX up av e ks).take n.toNat/\(∀p∈ps,aO st.kv p.1=some p.2)/\r=if(bX up av e ks).length<=n.toNat then none else((bX up av e ks)[n.toNat-1]?).map λk=> .int (if up=true then k+1 else k-1)
theorem Et {i r:Int} (h:RwS st i r ps) (h':RwS st i r qs):ps=qs:=by
 have as:∀a b,rf a b->¬rf b a:=λa b x y=>by
  unfold rf at x y;lia
 have sub:∀{l m:List (Int×V)},l.Pairwise rf->m.Pairwise rf->(∀x,x∈l↔x∈m)->l=m:=by
  intro l
  induction l with
  |nil=>
   intro m _ _ h;cases m with
   |nil=>rfl
   |cons b m=>exact absurd ((h b).mpr Q9) QT
  |cons a l ih=>
   intro m h1 h2 h;cases m with
   |nil=>exact absurd ((h a).mp Q9) QT
   |cons b m=>
    obtain⟨p1,q1⟩:=Z5.mp h1;obtain⟨p2,q2⟩:=Z5.mp h2;have e:a=b:=by
     rcases Qg.mp ((h a).mp Q9)with c|c
     .exact c
     .rcases Qg.mp ((h b).mpr Q9)with c2|c2
      .exact c2.symm
      .exact absurd (p1 b c2) (as _ _ (p2 a c))
    subst e;have ir:∀{x:Int×V},¬rf x x:=λ{x} y=>as x x y y;rw[ih q1 q2 λx=>⟨λhx=>((Qg.mp ((h x).mp (Qd _ hx))).resolve_left λz=>ir (z▸p1 x hx)),λhx=>((Qg.mp ((h x).mpr (Qd _ hx))).resolve_left λz=>ir (z▸p2 x hx))⟩]
 exact sub h.so h'.so λx=>(h.me x.1 x.2).trans (h'.me x.1 x.2).symm
theorem Tell.uniq {kd:Int} {e:V} {r r':Option V} (h:Tell st ks kd n av e ps r) (h':Tell st ks kd n av e qs r'):ps=qs/\r=r':=by
 rcases h with⟨k0,m,g,er⟩|⟨up,k1,e1,v1,er⟩<;>rcases h' with⟨k0',m',g',er'⟩|⟨up',k1',e1',v1',er'⟩
 .have lt:∀{m m':Nat} {ps qs:List (Int×V)},PgS st (inI av) (inI e) n m ps->PgS st (inI av) (inI e) n m' qs->¬m<m':=λ{m m' ps qs} g g' l=>by
   have h1:=g'.go m l;rcases g.st with z|⟨z,y⟩
   .lia
   .have:=g'.le m z l ps g.rw;lia
  have em:m=m':=by
   have h1:=lt g g';have h2:=lt g' g;lia
  subst em;exact⟨Et g.rw g'.rw,er.trans er'.symm⟩
 .rw[k0]at k1';cases up'<;>cases k1'
 .rw[k0']at k1;cases up<;>cases k1
 .have eu:up=up':=by
   rw[k1]at k1';cases up<;>cases up'<;>first|rfl|cases k1'
  subst eu;refine⟨?_,er.trans er'.symm⟩;have ek:=e1.trans e1'.symm;refine List.ext_getElem? λj=>?_;have kj:=congrArg (λl:List Int=>l[j]?) ek;rw[Qn,Qn]at kj;cases c1:ps[j]? with
  |none=>rw[c1]at kj;cases c2:qs[j]? with
   |none=>rfl
   |some y=>rw[c2]at kj;cases kj
  |some x=>
   rw[c1]at kj;cases c2:qs[j]? with
   |none=>rw[c2]at kj;cases kj
   |some y=>
    rw[c2]at kj;have kj:x.1=y.1:=Option.some.inj kj;have h1:=v1 x (Q1 c1);have h2:=v1' y (Q1 c2);rw[kj,h2]at h1;rw[show x=y from Prod.ext kj (Option.some.inj h1).symm]
structure AskU (t:Adr) (H':Hp) (F':Addr->Prop) (st:SSt) (kd n:Int) (av e v:V) (ts:List Tp) (a':V) (R:Int->Bool):Prop where
 rest:(v= .non/\R=λ_=>false)\/∃q:Addr,v= .ref q/\TkAt t H' q kd a' e/\okN kd a' e/\¬F' q/\R=hN kd a' e/\(kd=0->inI av<=inI a')
 less:∀k,0<=k->R k=true->hN kd av e k=true
 nd:(ts.map (·.k)).Nodup
 me:∀k v,(k,v)∈ts.map Tp.kv↔(k,v)∈st.kv/\hN kd av e k=true/\R k=false
 tell:∀ks,cJ ks->(∀z,z∈ks↔(aO st.kv z).isSome=true)->Tell st ks kd n av e (ts.map Tp.kv) (if v= .non then none else some a')
 far:v= .non\/n<=ts.length\/(kd=0/\inI av/(65536/st.low)+4*n<=inI a'/(65536/st.low))
theorem wZ {W j i:Int} (W0:0<W):∀m:Nat,(∀x≤m,aZ W j i x≠j)->aZ W j i m/W=i/W+m
 |0,_=>(Int.add_zero _).symm
 |m+1,h=>by
  have ih:=wZ W0 m λx hx=>h x (by lia);have e:aZ W j i (m+1)=(aZ W j i m/W+1)*W:=by
   have:=h (m+1) (Q4 _);show vG W j (aZ W j i m)=_;change vG W j (aZ W j i m)≠j at this;unfold vG at this⊢;split
   .rw[if_pos (by assumption)]at this;exact absurd rfl this
   .rfl
  rw[e,Int.mul_ediv_cancel _ (QR W0),ih];lia
theorem yD {i j:Int}:hN 0 (.int i) (.int j) k=true↔i<=plc k/\plc k<j:=by
 show(decide (i<=tz (k%65536))&&decide (tz (k%65536)<j))=true↔_;rw[QK,decide_eq_true_eq,decide_eq_true_eq];exact Iff.rfl
theorem BD {i j:Int} {m:Nat} (W0:0<65536/st.low) (i0:0<=i) (ij:i<=j) (g:PgS st i j n m (ts.map Tp.kv)) (x:NxS t H H' F F' (aZ (65536/st.low) j i m) j v):∃a' R,AskU t H' F' st 0 n (.int i) (.int j) v ts a' R:=by
 obtain⟨r1,r2,_⟩:=pS W0 ij m g.go;have nd:(ts.map (·.k)).Nodup:=by
  refine QO.mpr ((QO.mp g.rw.so).imp λ{a b} h e=>?_);have h:plc a.k<plc b.k\/(plc a.k=plc b.k/\a.k<b.k):=h;rw[e]at h;lia
 unfold NxS at x;by_cases ej:aZ (65536/st.low) j i m=j
 .rw[if_pos ej]at x;refine⟨.non,λ_=>false,.inl ⟨x,rfl⟩,λk _ h=>absurd h Qi,nd,λk v=>?_,(λks _ _=> .inl ⟨rfl,m,g,by rw[if_pos x];exact(if_pos ej).symm⟩),.inl x⟩;rw[g.rw.me,ej,yD];exact⟨λh=>⟨h.1,h.2,rfl⟩,λh=>⟨h.1,h.2.1⟩⟩
 .rw[if_neg ej]at x;obtain⟨q,ev,_,nq,dx,fs,hq,tf,q0,q1,q2⟩:=x;refine⟨_,hN 0 (.int (aZ (65536/st.low) j i m)) (.int j),.inr ⟨q,ev,⟨dx,fs,hq,tf⟩,.inl ⟨rfl,_,_,rfl,rfl,q0,q1,q2⟩,nq,rfl,λ_=>r1⟩,λk _ h=>?_,nd,λk v=>?_,(λks _ _=> .inl ⟨rfl,m,g,by rw[if_neg λz=>by rw[ev]at z;cases z];exact(if_neg ej).symm⟩),?_⟩
  .rw[yD]at h⊢;lia
  .rw[g.rw.me,yD,<-Bool.not_eq_true,yD];constructor
   .rintro ⟨h1,h2,h3⟩;exact⟨h1,⟨h2,by lia⟩,by lia⟩
   .rintro ⟨h1,⟨h2,h3⟩,h4⟩;exact⟨h1,h2,by lia⟩
  .rcases g.st with z|⟨_,z|z⟩
   .exact absurd z ej
   .rw[Q0]at z;exact .inr (.inl z)
   .refine .inr (.inr ⟨rfl,?_⟩);have ne:∀x≤m,aZ (65536/st.low) j i x≠j:=λx hx=>by
     rcases Xy hx with h|rfl
     .have:=g.go x h;lia
     .exact ej
    show i/(65536/st.low)+4*n<=aZ (65536/st.low) j i m/(65536/st.low);rw[wZ W0 m ne];lia
def wf (up:Bool) (x y:Int):Prop:=if up=true then x<y else y<x
theorem Fj {a e:V} (r:cJ ks):(bX up a e ks).Pairwise (wf up):=by
 unfold bX wf;cases up
 .exact List.Pairwise.filter _ (Xn.mpr r)
 .exact List.Pairwise.filter _ r
theorem held_iff {a e:V} {z:Int}:z∈bX up a e ks↔z∈ks/\hK up a e z=true:=by
 unfold bX;rw[QH];cases up
 .rw[if_neg Qi,ZG]
 .rw[if_pos rfl]
theorem Ef {m:Nat} {z:Int} (r:l.Pairwise (wf up)) (h:l[m-1]?=some k) (m1:1<=m):z∈l.take m↔z∈l/\(z=k\/wf up z k):=by
 have w:=Z3.mp r;obtain⟨hk,ek⟩:=Q2.mp h;have as:∀{x y:Int},wf up x y->¬(y=x\/wf up y x):=λ{x y} h1 h2=>by
  unfold wf at h1 h2;cases up
  .rw[if_neg Qi]at h1 h2;lia
  .rw[if_pos rfl]at h1 h2;lia
 constructor
 .intro hz;obtain⟨i,hi,e⟩:=Qz hz;rw[Q8]at hi;rw[Zt]at e;refine⟨QY hz,?_⟩;rcases Nat.lt_or_ge i (m-1)with c|c
  .have:=w i (m-1) (by lia) hk c;rw[e,ek]at this;exact .inr this
  .have:i=m-1:=by lia
   subst this;exact .inl (e.symm.trans ek)
 .rintro ⟨hz,o⟩;obtain⟨i,hi,rfl⟩:=Qz hz;rcases Nat.lt_or_ge i m with c|c
  .exact List.mem_take_iff_getElem.mpr ⟨i,by lia,rfl⟩
  .have:=w (m-1) i hk hi (by lia);rw[ek]at this;exact absurd o (as this)
theorem IM {a e:V} (h:TkA t H p up a e):TkAt t H p (if up=true then 1 else 2) a e/\okN (if up=true then 1 else 2) a e:=by
 obtain⟨dx,fs,hp,tf,ok⟩:=h;cases up
 .exact⟨⟨dx,fs,hp,tf⟩,.inr (.inr ⟨rfl,ok⟩)⟩
 .exact⟨⟨dx,fs,hp,tf⟩,.inr (.inl ⟨rfl,ok⟩)⟩
theorem JC:hN (if up=true then 1 else 2)=hK up:=by cases up<;>rfl
theorem vj {a e:V} {z:Int} (ok:if up=true then okU a e else okD a e) (hk:hK up a e k=true):hK up (.int (if up=true then k+1 else k-1)) e z=true↔hK up a e z=true/\¬(z=k\/wf up z k):=by
 unfold wf;cases up with
 |true=>
  rw[if_pos rfl,if_pos rfl];obtain⟨i,rfl,i0,he⟩:=(show okU a e from ok);rcases he with rfl|⟨j,rfl,_⟩
  .have h1:=of_decide_eq_true (show decide (i<=k)=true from hk);show decide (k+1<=z)=true↔decide (i<=z)=true/\_;rw[decide_eq_true_eq,decide_eq_true_eq];lia
  .have h1:=of_decide_eq_true (QE.mp (show(decide (i<=k)&&decide (k<j))=true from hk)).1;show(decide (k+1<=z)&&decide (z<j))=true↔(decide (i<=z)&&decide (z<j))=true/\_;rw[QK,QK,decide_eq_true_eq,decide_eq_true_eq,decide_eq_true_eq];lia
 |false=>
  rw[if_neg Qi,if_neg Qi];obtain⟨j,rfl,j0,ha⟩:=(show okD a e from ok);rcases ha with rfl|⟨i,rfl,_⟩
  .show(decide (j<=z)&&decide (z<=k-1))=true↔decide (j<=z)=true/\_;rw[QK,decide_eq_true_eq,decide_eq_true_eq];lia
  .have h1:=of_decide_eq_true (QE.mp (show(decide (j<=k)&&decide (k<=i))=true from hk)).2;show(decide (j<=z)&&decide (z<=k-1))=true↔(decide (j<=z)&&decide (z<=i))=true/\_;rw[QK,QK,decide_eq_true_eq,decide_eq_true_eq,decide_eq_true_eq];lia
theorem DF {e:V} (nd:(st.kv.map (·.1)).Nodup) (r:cJ ks) (mk:∀z,z∈ks↔(aO st.kv z).isSome=true) (n1:1<=n) (ok:if up=true then okU av e else okD av e)
  (ek:ts.map (·.k)=(bX up av e ks).take n.toNat) (ev:∀e∈ts,aO st.kv e.k=some e.v) (x:NxH t H H' F' p up e (bX up av e ks) n.toNat v):∃a' R,AskU t H' F' st (if up=true then 1 else 2) n av e v ts a' R:=by
 have ho:=Fj (up:=up) (a:=av) (e:=e) r;have ndt:(ts.map (·.k)).Nodup:=by
  rw[ek];refine(ho.sublist (X7 _ _)).imp λ{a b} h e=>?_;unfold wf at h;rw[e]at h;split at h<;>lia
 have me:∀(k:Int) (v:V),(k,v)∈ts.map Tp.kv↔(k,v)∈st.kv/\k∈(bX up av e ks).take n.toNat:=λk v=>by
  rw[<-ek,Qh,Qh];constructor
  .rintro ⟨d,hd,h1⟩;have h2:d.k=k:=congrArg Prod.fst h1;have h3:d.v=v:=congrArg Prod.snd h1;have:=iV (ev d hd);rw[h2,h3]at this;exact⟨this,d,hd,h2⟩
  .rintro ⟨h1,d,hd,rfl⟩;have:=ev d hd;rw[fR nd h1]at this;exact⟨d,hd,by unfold Tp.kv;rw[Option.some.inj this]⟩
 have ik:∀{k:Int} {v:V},(k,v)∈st.kv->k∈ks:=λh=>(mk _).mpr (by rw[fR nd h];rfl);have tl:∀{r:Option V},(r=if(bX up av e ks).length<=n.toNat then none else((bX up av e ks)[n.toNat-1]?).map λk=> .int (if up=true then k+1 else k-1))->∀ks',cJ ks'->(∀z,z∈ks'↔(aO st.kv z).isSome=true)->Tell st ks' (if up=true then 1 else 2) n av e (ts.map Tp.kv) r:=λ{q} hq ks' r' mk'=>by
  have e1:ks'=ks:=zr r' r λz=>(mk' z).trans (mk z).symm;subst e1;refine .inr ⟨up,rfl,by rw[Qu];exact ek,λp hp=>?_,hq⟩;obtain⟨d,hd,rfl⟩:=Qh.mp hp;exact ev d hd
 unfold NxH at x;split at x
 .refine⟨.non,λ_=>false,.inl ⟨x,rfl⟩,λk _ h=>absurd h Qi,ndt,λk v=>?_,tl (by rw[if_pos x,if_pos (by assumption)]),.inl x⟩;rw[me,Qt (by assumption),held_iff,JC];exact⟨λh=>⟨h.1,h.2.2,rfl⟩,λh=>⟨h.1,ik h.1,h.2.1⟩⟩
 .rw[if_neg (by lia)]at x;obtain⟨q,k0,h0,ev0,_,nq,TQ⟩:=x;have hk:=(held_iff.mp (Q1 h0)).2;obtain⟨t1,t2⟩:=IM TQ;refine⟨_,hN (if up=true then 1 else 2) (.int (if up=true then k0+1 else k0-1)) e,.inr ⟨q,ev0,t1,t2,nq,rfl,λz=>by cases up<;>cases z⟩,λk _ h=>?_,ndt,λk v=>?_,tl (by rw[if_neg (show ¬v= .non from λz=>by rw[ev0]at z;cases z),if_neg (show ¬(bX up av e ks).length<=n.toNat by assumption),h0];rfl),.inr (.inl ?_)⟩
  .rw[JC]at h⊢;exact((vj ok hk).mp h).1
  .rw[me,Ef ho h0 (by lia),held_iff,JC,<-Bool.not_eq_true,vj ok hk];constructor
   .rintro ⟨h1,⟨_,h2⟩,h3⟩;exact⟨h1,h2,λz=>z.2 h3⟩
   .rintro ⟨h1,h2,h3⟩;exact⟨h1,⟨ik h1,h2⟩,Classical.byContradiction λz=>h3 ⟨h2,z⟩⟩
  .have:=congrArg List.length ek;rw[Q0,Q8]at this;lia
def xX (K:PySem.W.Frag) (t:Adr):Sp:=λvs H Q _=>∃(a p:Addr) (n kd:Int) (av e:V) (F:Addr->Prop) (x:HSt),vs=[.ref a,.ref p,.int n,.non]/\HoA K t H a F x/\TkAt t H p kd av e/\okN kd av e/\¬F p/\1<=n/\n<=1000/\x.st.kv.length<4096/\x.ks.length<4096/\(∀k∈x.ks,0<=k)/\(∀p∈x.st.kv,∃i:Int,p.2= .int i)/\
 ∀(H':Hp) (F':Addr->Prop) (r g:Addr) (v:V) (ts:List Tp) (a':V) (R:Int->Bool),HoA K t H' a F' x->Fr F F' H H'->PgA H H' F F' r g v ts->AskU t H' F' x.st kd n av e v ts a' R->Q (.ref r) H'
theorem EL (T:Txt K mg t):FnOk P w K mg base CX0 8 t.IC t.z6 ["house","token","many","sieve"] (xX K t):=by
 refine T.FW.ok sc_ask (λvs H Q E h=>?_) (λcdv A outer s H vs Q E hr h=>?_)
 .obtain⟨a,p,n,kd,av,e,F,x,rfl,_⟩:=h;rfl
 .obtain⟨a,p,n,kd,av,e,F,x,rfl,A,TK,on,np,n1,n2,l4,lk,k0,iv,q⟩:=h;refine⟨_,(ac (aU (eG (aE (kQ K rfl) (by rfl) T.gG dI (aa (pv 1) (aa (cy (v:= .ref t.aT) (by rfl) T.uR rfl) ah))))
   (ai (az (i:=4) sc_ask.nd rfl (Or.inl rfl) (aM (rj T) hr.mo (by rfl) T.DR T.tG.kp T.DT .nil aA (aa (au (pv 0) rfl) (aa (pv 1) (aa (pv 2) ah))))))
   (ai (az (i:=4) sc_ask.nd rfl (Or.inl rfl) (aM (sT T) hr.mo (by rfl) T.E2 T.vD.kp T.FM .nil aA (aa (pv 0) (aa (pv 1) (aa (pv 2) ah)))))))
   (ac (aU (aq cQ (pv 3) bf (ar _))
   (ai (aC (pv 4)))
   aH)
   (ai cx)))
   ,?_⟩
  obtain⟨dx,fs,hp,tf⟩:=id TK;have nd:(x.st.kv.map (·.1)).Nodup:=by
   obtain⟨s,l,wr,p,h,Fs,Fl,B,O,g⟩:=A;obtain⟨_,_,_,_,nd,_⟩:=B.sl;exact nd
  have ri:cJ x.ks:=by
   obtain⟨_,_,_,_,_,_,L⟩:=A.lvs;exact L.rise
  have keys:∀(up:Bool) {Q':VK} {E':XK},kd=(if up=true then 1 else 2)->(∀v H',Q v H'->Q' v H')->kS K t [.ref a,.ref p,.int n] H Q' E':=λup Q' E' eu hQ=>by
   have ok:if up=true then okU av e else okD av e:=by
    subst eu;cases up
    .exact on.d
    .exact on.u
   refine⟨a,p,n,up,av,e,F,x,rfl,A,⟨dx,fs,?_,?_,ok⟩,np,lk,k0,λH' F' r g v ts A' f' pg ek ev nx=>?_⟩
   .subst eu;cases up<;>exact hp
   .subst eu;cases up<;>exact tf
   .obtain⟨a',R,U⟩:=DF nd ri A.ok.ks n1 ok ek ev nx;rw[<-eu]at U;exact hQ _ _ (q H' F' r g v ts a' R A' f' pg U)
  rcases on.kd with rfl|rfl|rfl
  .have hp:H p=some (.ins t.aT dx fs):=hp;obtain⟨i,j,rfl,rfl,i0,ij,j1⟩:=on.s;obtain⟨s,l,wr,pp,h,Fs,Fl,B,O,g⟩:=A;obtain⟨dxh,ho⟩:=B.o.ob;have W0:0<65536/x.st.low:=by
    have z:SzOk x.st:=let⟨_,_,_,_,_,z⟩:=B.sl;z
    obtain⟨_,_,R⟩:=yg (jo z);exact R.wpos'
   refine⟨_,rfl,_,_,_,_,rfl,TyOf.ins hp T.bC T.oO.1 T.oO.2 T.oO.3 T.oO.4,T.Bs,_,rfl,c6 ⟨_,rfl,a,_,dxh,_,_,rfl,ho,T.aN,T.cR,u8,_,rfl,_,rfl,s,p,n,i,j,Fs,x.st,rfl,B.sl,⟨dx,fs,hp,tf,i0,ij,j1⟩,λz=>np ((g p).mpr (.inl z)),n1,n2,l4,iv,λH' Fs' r gg v ts m S' f' pg ps nx=>⟨_,rfl,rfl,_,rfl,fS rfl ⟨_,rfl,?_⟩⟩⟩⟩;obtain⟨B1,g1⟩:=B.slots S' f';have up:∀{b:Addr},¬F b->¬Fs b:=λn z=>n ((g _).mpr (.inl z));have A':HoA K t H' a (HoF a wr pp h Fs' Fl x.pa) x:=⟨s,l,wr,pp,h,Fs',Fl,B1,O,λ_=>Iff.rfl⟩;have nx':NxS t H H' F (HoF a wr pp h Fs' Fl x.pa) (aZ (65536/x.st.low) j i m) j v:=by
    unfold NxS at nx⊢;split
    .rw[if_pos (by assumption)]at nx;exact nx
    .rw[if_neg (by assumption)]at nx;obtain⟨y,e1,e2,e3,e4⟩:=nx;exact⟨y,e1,λn=>e2 (up n),B.newb e2 e3,e4⟩
   obtain⟨a',R,U⟩:=BD W0 i0 ij ps nx';refine q H' _ r gg v ts a' R A' (λb o n e=>g1 b o (λz=>n ((g b).mpr z)) e) ⟨pg.tu,pg.li,λe he=>⟨(pg.rw e he).1,λz=>?_⟩,⟨λn=>pg.nr.1 (up n),B.newb pg.nr.1 pg.nr.2⟩,λn=>pg.ng.1 (up n),B.newb pg.ng.1 pg.ng.2⟩ U;obtain⟨o,e',n⟩:=A'.dom z;rw[(pg.rw e he).1]at e';exact n _ (Option.some.inj e').symm
  .have hp:H p=some (.ins t.c8 dx fs):=hp;refine⟨_,rfl,_,_,_,_,rfl,TyOf.ins hp T.gw T.lu.1 T.lu.2 T.lu.3 T.lu.4,T.Gh,_,rfl,cI ⟨_,rfl,_,rfl,_,rfl,keys true rfl λv H' h=>⟨_,rfl,rfl,_,rfl,fS rfl ⟨_,rfl,h⟩⟩⟩⟩
  .have hp:H p=some (.ins t.bV dx fs):=hp;refine⟨_,rfl,_,_,_,_,rfl,TyOf.ins hp T.b6 T.d7.1 T.d7.2 T.d7.3 T.d7.4,T.DS,_,rfl,cI ⟨_,rfl,_,rfl,_,rfl,keys false rfl λv H' h=>⟨_,rfl,rfl,_,rfl,fS rfl ⟨_,rfl,h⟩⟩⟩⟩
def sF (K:PySem.W.Frag):Sp:=λvs H Q _=>∃(a:Addr) (ns:List Int) (k:Int),vs=[.ref a,.int k]/\SqL K H a (ns.map V.int)/\0<=k/\Q (.int (ns.getD k.toNat 0)) H
theorem sW (T:Txt K mg t):FnOk P w K mg base CX0 1 t.mU t.iD ["_law_script","_law_k"] (sF K):=by
 refine T.m5.okl sM λ_ _ _ s H vs Q E hr h=>?_;obtain⟨a,ns,i,rfl,hS,h0,k⟩:=h;refine⟨_,(ac (aU (aq dW (pv 1) (aE aD (by rfl) T.bM bg (aa (pv 0) ah)) (ar _))
   (ai (aC (aW aV (pv 0) (pv 1) (λ_ _=>rfl))))
   aH)
   (ai (aC ag)))
  ,?_⟩
 refine⟨_,rfl,_,rfl,a,_,rfl,.inl hS,_,_,rfl,rfl,_,rfl,?_⟩;refine bJ (λc=>?_) (λc=>?_)
 .have c:=of_decide_eq_true c;rw[Q0]at c;exact⟨_,rfl,_,rfl,a,_,_,_,rfl,rfl,hS,vf h0 c,k⟩
 .have c:¬i<((ns.map V.int).length:Int):=λz=>c (decide_eq_true z);rw[Q0]at c;rw[FJ c]at k;exact k
def vK:Sp:=λvs H Q _=>∃k:Int,vs=[.int k]/\Q (.int (tz (k%65536))) H
theorem wm (T:Txt K mg t):FnOk P w K mg base CX0 1 t.qr t.kE ["_law_key"] vK:=by
 refine T.qG.okl sc__law_place λ_ _ _ s H vs Q E hr h=>?_;obtain⟨n,rfl,q⟩:=h;refine⟨_,(ac (az (i:=1) sc__law_place.nd rfl (Or.inl rfl) (am aP (pv 0) ag))
   (ac (az (i:=2) sc__law_place.nd rfl (Or.inl rfl) ag)
   (ac (hZ PassesOwn.never rfl (gP (by rfl) T.m6 (aa ag ah)) (bF (i:=3) sc__law_place.nd rfl (Or.inl rfl))
   (ac (az (i:=2) sc__law_place.nd rfl (Or.inl rfl) (am bn (am dn ag (pv 2)) (am aP (pv 1) ag)))
   (ai (az (i:=1) sc__law_place.nd rfl (Or.inl rfl) (am aS (pv 1) ag)))))
   (ai (aC (pv 2))))))
  ,?_⟩
 have m0:=Qe n (show(65536:Int)≠0 by decide);refine⟨_,rfl,_,_,rfl,rfl,(by show(0:Int)<65536;decide),?_⟩
 (try dsimp only)
 generalize n%65536=m at m0 q⊢;have en:((m.toNat/2^0:Nat):Int)=m:=by rw[Nat.pow_zero,Nat.div_one];lia
 refine⟨16,rfl,by decide,by decide,rH (n:=16) (λi σ H'=>∃v,H'=H/\σ=[some (.int n),some (.int ((m.toNat/2^i:Nat):Int)),some (.int ((rv i m.toNat:Nat):Int)),v]) ?_ ?_ ?_⟩
 .refine⟨none,rfl,?_⟩;rw[en];rfl
 .rintro i σ H' hi ⟨v,rfl,rfl⟩;refine⟨_,rfl,_,_,rfl,rfl,.inl ⟨by decide,by decide⟩,_,rfl,_,_,rfl,rfl,(by show(0:Int)<2;decide),_,_,rfl,rfl,_,rfl,_,_,rfl,rfl,⟨by decide,by decide⟩,?_⟩;refine⟨some (.int (0+(i:Int))),rfl,?_⟩;rw[<-wR i m.toNat,<-wS i m.toNat,Xh];rfl
 .rintro σ H' ⟨v,rfl,rfl⟩;unfold tz at q;exact⟨_,rfl,q⟩
def vL:Sp:=λvs H Q _=>∃c k:Int,vs=[.int c,.int k]/\∀z:Int,0<=z->z<2147483647->Q (.int z) H
theorem nV (T:Txt K mg t):FnOk P w K mg base CX0 1 t.qt t.kF ["_law_cell","_law_k"] vL:=by
 refine T.qH.okl sc__law_mixed λ_ _ _ s H vs Q E hr h=>?_;obtain⟨c,k,rfl,q⟩:=h;refine⟨_,(ac (az (i:=2) sc__law_mixed.nd rfl (Or.inl rfl) (am aP (am dn (am bn (am bn (pv 0) (am dn ag (pv 1))) ag) ag) ag))
   (ai (aC (am aP (am dn (pv 2) (am bn (am aS (pv 2) ag) ag)) ag))))
  ,?_⟩
 refine⟨_,rfl,_,rfl,_,_,rfl,rfl,.inl ⟨by decide,by decide⟩,_,_,rfl,rfl,_,_,rfl,rfl,_,_,rfl,rfl,.inr ⟨by decide,by decide⟩,_,_,rfl,rfl,(by show(0:Int)<2147483647;decide),?_⟩;have a:=Qe ((c+7919*k+1)*48271) (show(2147483647:Int)≠0 by decide);have b:=Qb ((c+7919*k+1)*48271) (show(0:Int)<2147483647 by decide)
 (try dsimp only)
 generalize (c+7919*k+1)*48271%2147483647=n at a b⊢;refine⟨_,rfl,_,rfl,_,_,rfl,rfl,⟨by decide,by decide⟩,_,_,rfl,rfl,_,_,rfl,rfl,.inl ⟨by lia,by lia⟩,_,_,rfl,rfl,(by show(0:Int)<2147483647;decide),?_⟩;exact q _ (Qe _ (by decide)) (Qb _ (by decide))
def Ib (kd:Int) (H:Hp) (Q:VK):Prop:=∀(H':Hp) (p:Addr) (a e:V),Same H H'->H' p=some (.tup [.int kd,a,e])->okN kd a e->bdV a->bdV e->Q (.ref p) H'
theorem dE {i:Int} (h:i<10^80):bdV (.int i):=h
theorem yM:bdV .non:=True.intro
def lF:Sp:=λvs H Q _=>∃kd c:Int,vs=[.int kd,.int c]/\0<=kd/\kd<3/\Ib kd H Q
theorem lX (T:Txt K mg t):FnOk P w K mg base CX0 1 t.gx t.dA ["_law_kind","_law_cell"] lF:=by
 refine T.nQ.okl sc__law_numbers_told λ_ _ _ s H vs Q E hr h=>?_;obtain⟨kd,c,rfl,d0,d3,q⟩:=h;refine⟨_,(ac (aU (aq bL (pv 0) ag (ar _))
   (ac (az (i:=2) sc__law_numbers_told.nd rfl (Or.inl rfl) (am aP (pv 1) ag))
   (ai (aC (bz (aa (pv 0) (aa (pv 2) (aa (am bn (pv 2) (am aP (am aS (pv 1) ag) (am ie ag (pv 2)))) ah)))))))
   aH)
   (ac (az (i:=2) sc__law_numbers_told.nd rfl (Or.inl rfl) (am aP (am aS (pv 1) ag) (am jj ag ag)))
   (ac (az (i:=3) sc__law_numbers_told.nd rfl (Or.inl rfl) (am bn (pv 2) (am aP (am zB (pv 1) (am dn ag (am jj ag ag))) (am jj ag ag))))
   (ac (aU (PW.pt (fw (aq bL (am aP (pv 1) ag) ag (ar _)) (dL (aq bL (pv 0) ag (ar _)))))
   (ai (aC (bz (aa (pv 0) (aa (pv 2) (aa bf ah))))))
   aH)
   (ac (aU (aq bL (am aP (pv 1) ag) ag (ar _))
   (ai (aC (bz (aa (pv 0) (aa bf (aa (pv 2) ah))))))
   aH)
   (ai (aC (bz (aa (pv 0) (aa (aW aV (bR (aa (pv 2) (aa (pv 3) ah))) (am ie (pv 0) ag) (λ_ _=>rfl)) (aa (aW aV (bR (aa (pv 3) (aa (pv 2) ah))) (am ie (pv 0) ag) (λ_ _=>rfl)) ah)))))))))))
  ,?_⟩
 refine⟨_,rfl,rfl,_,rfl,bJ (λz=>?_) (λz=>?_)⟩
 .obtain rfl:kd=0:=V.int.inj (of_decide_eq_true z);have a0:=Qe c (show(65537:Int)≠0 by decide);have a1:=Qb c (show(0:Int)<65537 by decide);refine⟨_,rfl,_,_,rfl,rfl,(by show(0:Int)<65537;decide),?_⟩
  (try dsimp only)
  generalize c%65537=lo at a0 a1⊢;refine⟨_,rfl,_,rfl,_,rfl,_,rfl,_,_,rfl,rfl,⟨by decide,by decide⟩,_,rfl,_,_,rfl,rfl,_,_,rfl,rfl,(by show(0:Int)<65537-lo;lia),_,_,rfl,rfl,(by show 3<=sizeLine;decide),λp hp=>?_⟩;have b0:=Qe (c/65537) (show(65537-lo:Int)≠0 by lia);have b1:=Qb (c/65537) (show(0:Int)<65537-lo by lia);exact q _ p (.int lo) (.int (lo+c/65537%(65537-lo))) (aj hp) ae (.inl ⟨rfl,lo,_,rfl,rfl,a0,by lia,by lia⟩) (dE (by lia)) (dE (by lia))
 .have dz:kd≠0:=λe=>z (decide_eq_true (by rw[e]));have a0:=Qe (c/2) (QR tT);have a1:=Qb (c/2) tT;have b0:=Qe (c/(2*10^(39:Int).toNat)) (QR tT);have b1:=Qb (c/(2*10^(39:Int).toNat)) tT;refine⟨_,rfl,_,_,rfl,rfl,⟨by decide,by decide⟩,_,_,rfl,rfl,⟨by decide,by decide,by decide⟩,_,_,rfl,rfl,tT,?_⟩
  (try dsimp only)
  generalize c/2%10^(39:Int).toNat=lo at a0 a1⊢;refine⟨_,rfl,_,rfl,_,_,rfl,rfl,⟨by decide,by decide,by decide⟩,_,_,rfl,rfl,.inl ⟨by decide,by decide⟩,_,_,rfl,rfl,⟨by decide,by decide⟩,_,_,rfl,rfl,⟨by decide,by decide,by decide⟩,_,_,rfl,rfl,tT,_,_,rfl,rfl,?_⟩
  (try dsimp only)
  generalize c/(2*10^(39:Int).toNat)%10^(39:Int).toNat=hi at b0 b1⊢;have t39:(10:Int)^(39:Int).toNat=10^39:=rfl;rw[t39]at a1 b1;have two:(0:Int)<2:=by decide
  have l3:3<=sizeLine:=by decide
  have l2:2<=sizeLine:=by decide
  rcases(show kd=1\/kd=2 by lia)with rfl|rfl
  .refine⟨_,rfl,_,_,rfl,rfl,two,rfl,_,rfl,bJ (λy=>?_) (λy=>?_)⟩
   .refine⟨_,rfl,rfl,_,rfl,fS rfl ⟨_,rfl,_,rfl,l3,λp hp=>?_⟩⟩;exact q _ p (.int lo) .non (aj hp) ae (.inr (.inl ⟨rfl,lo,rfl,a0,.inl rfl⟩)) (dE (by lia)) yM
   .refine⟨_,rfl,_,_,rfl,rfl,two,rfl,_,rfl,bJ (λy2=>absurd y2 y) (λ_=>?_)⟩;refine⟨_,rfl,_,rfl,_,rfl,l2,λp1 n1=>⟨_,rfl,_,_,rfl,rfl,p1,_,_,_,rfl,rfl,SqL.of ae,rfl,_,rfl,_,rfl,l2,λp2 n2=>⟨_,rfl,_,_,rfl,rfl,p2,_,_,_,rfl,rfl,SqL.of ae,rfl,l3,λp3 n3=>?_⟩⟩⟩;exact q _ p3 (.int lo) (.int (lo+hi)) (((aj n1).trans (aj n2)).trans (aj n3)) ae (.inr (.inl ⟨rfl,lo,rfl,a0,.inr ⟨_,rfl,by lia⟩⟩)) (dE (by lia)) (dE (by lia))
  .refine⟨_,rfl,_,_,rfl,rfl,two,rfl,_,rfl,bJ (λy=>?_) (λy=>?_)⟩
   .refine⟨_,rfl,rfl,_,rfl,bc (λe=>by cases e) ⟨_,rfl,_,_,rfl,rfl,two,rfl,_,rfl,bJ (λ_=>⟨_,rfl,_,rfl,l3,λp hp=>?_⟩) (λy2=>absurd y y2)⟩⟩;exact q _ p .non (.int lo) (aj hp) ae (.inr (.inr ⟨rfl,lo,rfl,a0,.inl rfl⟩)) yM (dE (by lia))
   .refine⟨_,rfl,_,_,rfl,rfl,two,rfl,_,rfl,bJ (λy2=>absurd y2 y) (λ_=>?_)⟩;refine⟨_,rfl,_,rfl,_,rfl,l2,λp1 n1=>⟨_,rfl,_,_,rfl,rfl,p1,_,_,_,rfl,rfl,SqL.of ae,rfl,_,rfl,_,rfl,l2,λp2 n2=>⟨_,rfl,_,_,rfl,rfl,p2,_,_,_,rfl,rfl,SqL.of ae,rfl,l3,λp3 n3=>?_⟩⟩⟩;exact q _ p3 (.int (lo+hi)) (.int lo) (((aj n1).trans (aj n2)).trans (aj n3)) ae (.inr (.inr ⟨rfl,lo,rfl,a0,.inr ⟨_,rfl,by lia⟩⟩)) (dE (by lia)) (dE (by lia))
theorem Fo (h:i<ks.length):ks.getD i 0∈ks:=by
 rw[Qm,Q3 h];exact Zh h
def sE (K:PySem.W.Frag):Sp:=λvs H Q _=>∃(c:Int) (l:Addr) (ks:List Int),vs=[.int c,.ref l]/\H l=some (.lst (ks.map V.int))/\(∀k∈ks,0<=k/\k<10^40)/\Ib (c%3) H Q
theorem sV (T:Txt K mg t):FnOk P w K mg base CX0 2 t.mT t.iC ["_law_cell","_law_keys"] (sE K):=by
 refine T.vF.okl sc__law_numbers λ_ _ _ s H vs Q E hr h=>?_;obtain⟨c,l,ks,rfl,hS,kb,q⟩:=h;refine⟨_,(ac (az (i:=2) sc__law_numbers.nd rfl (Or.inl rfl) (am aP (pv 0) ag))
   (ac (aU (aq bL (am aP (am aS (pv 0) ag) ag) ag (ar _))
   (ai (aC (aM (lX T) hr.mo (by rfl) T.As T.nQ.kp T.At .nil aA (aa (pv 2) (aa (am aS (pv 0) ag) ah)))))
   aH)
   (ac (az (i:=3) sc__law_numbers.nd rfl (Or.inl rfl) (aM (nV T) hr.mo (by rfl) T.yA T.qH.kp T.yP .nil aA (aa (am aS (pv 0) ag) (aa ag ah))))
   (ac (aU (aq bL (pv 2) ag (ar _))
   (ac (az (i:=4) sc__law_numbers.nd rfl (Or.inl rfl) (am aP (pv 3) ag))
   (ac (az (i:=5) sc__law_numbers.nd rfl (Or.inl rfl) (am bn (pv 4) (am aP (am aS (pv 3) ag) (am ie ag (pv 4)))))
   (ai (aC (bz (aa (pv 2) (aa (aW aV (bR (aa (pv 4) (aa ag ah))) (am aP (pv 3) ag) (λ_ _=>rfl)) (aa (aW aV (bR (aa (pv 5) (aa ag ah))) (am aP (am aS (pv 3) ag) ag) (λ_ _=>rfl)) ah))))))))
   aH)
   (ac (az (i:=4) sc__law_numbers.nd rfl (Or.inl rfl) (am aP (pv 3) ag))
   (ac (aU (PW.pt (fw (aq zA (aE aD (by rfl) T.bM bg (aa (pv 1) ah)) ag (ar _)) (dL (aq zA (am aP (am aS (pv 3) ag) ag) ag (ar _)))))
   (ai (az (i:=4) sc__law_numbers.nd rfl (Or.inl rfl) (am bn (aW aV (pv 1) (am aP (am aS (pv 3) ag) (aE aD (by rfl) T.bM bg (aa (pv 1) ah))) (λ_ _=>rfl)) (am aP (am aS (pv 3) ag) ag))))
   aH)
   (ac (az (i:=5) sc__law_numbers.nd rfl (Or.inl rfl) (am bn (pv 4) (aW aV (bR (aa (am aP (am aS (pv 3) ag) ag) (aa (am aP (am aS (pv 0) ag) (am jj ag ag)) (aa (am aP (am aS (pv 3) ag) ag) ah)))) (am aP (am aS (pv 3) ag) ag) (λ_ _=>rfl))))
   (ac (aU (PW.pt (fw (aq bL (am aP (am aS (pv 3) ag) ag) ag (ar _)) (dL (aq bL (pv 2) ag (ar _)))))
   (ai (aC (bz (aa (pv 2) (aa (pv 4) (aa bf ah))))))
   aH)
   (ac (aU (aq bL (am aP (am aS (pv 3) ag) ag) ag (ar _))
   (ai (aC (bz (aa (pv 2) (aa bf (aa (pv 4) ah))))))
   aH)
   (ai (aC (bz (aa (pv 2) (aa (aW aV (bR (aa (pv 4) (aa (pv 5) ah))) (am ie (pv 2) ag) (λ_ _=>rfl)) (aa (aW aV (bR (aa (pv 5) (aa (pv 4) ah))) (am ie (pv 2) ag) (λ_ _=>rfl)) ah)))))))))))))))
  ,?_⟩
 have d0:=Qe c (show(3:Int)≠0 by decide);have d3:=Qb c (show(0:Int)<3 by decide);have two:(0:Int)<2:=by decide
 have l3:3<=sizeLine:=by decide
 have l2:2<=sizeLine:=by decide
 refine⟨_,rfl,_,_,rfl,rfl,(by show(0:Int)<3;decide),?_⟩
 (try dsimp only)
 generalize c%3=kd at d0 d3 q⊢;refine⟨_,rfl,_,_,rfl,rfl,⟨by decide,by decide⟩,_,_,rfl,rfl,two,rfl,_,rfl,bJ (λ_=>?_) (λ_=>?_)⟩
 .exact⟨_,rfl,_,rfl,_,_,rfl,rfl,⟨by decide,by decide⟩,kd,_,rfl,d0,d3,q⟩
 refine⟨_,rfl,_,_,rfl,rfl,⟨by decide,by decide⟩,_,_,rfl,λn n0 n1=>?_⟩;refine⟨_,rfl,rfl,_,rfl,bJ (λz=>?_) (λz=>?_)⟩
 .obtain rfl:kd=0:=V.int.inj (of_decide_eq_true z);have a0:=Qe n (show(65537:Int)≠0 by decide);have a1:=Qb n (show(0:Int)<65537 by decide);refine⟨_,rfl,_,_,rfl,rfl,(by show(0:Int)<65537;decide),?_⟩
  (try dsimp only)
  generalize n%65537=lo at a0 a1⊢;have b0:=Qe (n/65537) (show(65537-lo:Int)≠0 by lia);have b1:=Qb (n/65537) (show(0:Int)<65537-lo by lia);refine⟨_,rfl,_,rfl,_,_,rfl,rfl,⟨by decide,by decide⟩,_,rfl,_,_,rfl,rfl,_,_,rfl,rfl,(by show(0:Int)<65537-lo;lia),_,_,rfl,rfl,?_⟩
  (try dsimp only)
  generalize n/65537%(65537-lo)=g at b0 b1⊢;obtain⟨x,hx,x0⟩:=w5 (c:=n) (n:=2) (L:=[.int lo,.int 0]) (P:=λm=>0<=m/\m<=lo) ⟨⟨a0,Zu _⟩,⟨Zu _,a0⟩,trivial⟩ rfl two;obtain⟨y,hy,y0⟩:=w5 (c:=n/2) (n:=2) (L:=[.int (lo+g),.int 65536]) (P:=λm=>lo<=m/\m<=65536) ⟨⟨by lia,by lia⟩,⟨by lia,by lia⟩,trivial⟩ rfl two;refine⟨_,rfl,_,rfl,l2,λp1 n1'=>⟨_,rfl,_,_,rfl,rfl,two,p1,_,_,_,rfl,rfl,SqL.of ae,hx,_,rfl,l2,λp2 n2=>⟨_,rfl,_,_,rfl,rfl,⟨by decide,by decide⟩,_,_,rfl,rfl,two,p2,_,_,_,rfl,rfl,SqL.of ae,hy,l3,λp3 n3=>?_⟩⟩⟩;exact q _ p3 (.int x) (.int y) (((aj n1').trans (aj n2)).trans (aj n3)) ae (.inl ⟨rfl,x,y,rfl,rfl,x0.1,by lia,y0.2⟩) (dE (by lia)) (dE (by lia))
 .have dz:kd≠0:=λe=>z (decide_eq_true (by rw[e]));have a0:=Qe n (show(60:Int)≠0 by decide);have a1:=Qb n (show(0:Int)<60 by decide);refine⟨_,rfl,_,_,rfl,rfl,(by show(0:Int)<60;decide),?_⟩
  (try dsimp only)
  generalize n%60=lo at a0 a1⊢;refine b3 (λσ H'=>H=H'/\∃lo:Int,σ=[some (.int c),some (.ref l),some (.int kd),some (.int n),some (.int lo),none]/\0<=lo/\lo<10^41) (λnx go=>?_) (λσ H' w=>?_)
  .refine⟨_,rfl,l,_,rfl,.inl (SqL.of hS),_,_,rfl,rfl,_,rfl,bJ (λz=>?_) (λz=>?_)⟩
   .have kl:0<ks.length:=by
     have:=of_decide_eq_true z;rw[Q0]at this;lia
    have kl:(0:Int)<(ks.length:Int):=by lia
    have z0:=Qe (n/180) (QR kl);have z1:=Qb (n/180) kl;have y0:=Qe (n/72000) (show(2:Int)≠0 by decide);have y1:=Qb (n/72000) (show(0:Int)<2 by decide);refine⟨_,rfl,_,_,rfl,rfl,⟨by decide,by decide⟩,_,_,rfl,rfl,(by show(0:Int)<3;decide),_,_,rfl,rfl,_,rfl,bJ (λ_=>?_) (λ_=>go _ _ ⟨rfl,lo,rfl,a0,by lia⟩)⟩;refine⟨_,rfl,_,rfl,_,_,rfl,rfl,⟨by decide,by decide⟩,_,rfl,l,_,rfl,.inl (SqL.of hS),_,_,rfl,rfl,(by rw[Q0];exact kl),l,_,_,_,rfl,rfl,SqL.of hS,(by rw[Q0];exact vf z0 z1),_,rfl,_,_,rfl,rfl,⟨by decide,by decide⟩,_,_,rfl,rfl,two,_,_,rfl,rfl,go _ _ ⟨rfl,_,rfl,?_⟩⟩;obtain⟨b0,b1⟩:=kb (ks.getD (n/180%ks.length).toNat 0) (Fo (by lia));constructor<;>lia
   .exact go _ _ ⟨rfl,lo,rfl,a0,by lia⟩
  clear a0 a1 lo;obtain⟨rfl,lo,rfl,a0,a1⟩:=w;have t38:(0:Int)<10^(38:Int).toNat:=by decide
  have c90:∀z:Int,0<=z%90/\z%90<10^38:=λz=>⟨Qe _ (by decide),Int.lt_trans (Qb _ (by decide)) (by decide)⟩;have c38:∀z:Int,0<=z%10^(38:Int).toNat/\z%10^(38:Int).toNat<10^38:=λz=>⟨Qe _ (by decide),Qb _ (by decide)⟩;have c70:∀z:Int,0<=z%70000/\z%70000<10^38:=λz=>⟨Qe _ (by decide),Int.lt_trans (Qb _ (by decide)) (by decide)⟩;obtain⟨hi,hh,b0,b1⟩:=w5 (c:=n/216000) (n:=3) (L:=[.int (n/7%90),.int (c/11%10^(38:Int).toNat),.int (n/7%70000)]) (P:=λm=>0<=m/\m<10^38) ⟨c90 _,c38 _,c70 _,trivial⟩ rfl (by decide);refine⟨_,rfl,_,rfl,_,_,rfl,rfl,⟨by decide,by decide⟩,_,_,rfl,rfl,(by show(0:Int)<90;decide),_,rfl,_,_,rfl,rfl,⟨by decide,by decide⟩,_,_,rfl,rfl,⟨by decide,by decide,by decide⟩,_,_,rfl,rfl,t38,_,rfl,_,_,rfl,rfl,⟨by decide,by decide⟩,_,_,rfl,rfl,(by show(0:Int)<70000;decide),l3,λp hp=>?_⟩;refine⟨_,rfl,_,_,rfl,rfl,⟨by decide,by decide⟩,_,_,rfl,rfl,(by show(0:Int)<3;decide),p,_,_,_,rfl,rfl,SqL.of ae,hh,_,_,rfl,rfl,?_⟩;have s0:Same H (upd H p (.lst [.int (n/7%90),.int (c/11%10^(38:Int).toNat),.int (n/7%70000)])):=aj hp
  (try dsimp only)
  generalize upd H p (.lst [.int (n/7%90),.int (c/11%10^(38:Int).toNat),.int (n/7%70000)])=H1 at s0⊢;have q:=λH' p' a e (s:Same H1 H')=>q H' p' a e (s0.trans s);have th:(0:Int)<3:=by decide
  have dv:CDiv n 648000:=⟨by decide,by decide⟩;rcases(show kd=1\/kd=2 by lia)with rfl|rfl
  .refine⟨_,rfl,_,_,rfl,rfl,dv,_,_,rfl,rfl,th,rfl,_,rfl,bJ (λy=>?_) (λy=>?_)⟩
   .refine⟨_,rfl,rfl,_,rfl,fS rfl ⟨_,rfl,_,rfl,l3,λp hp=>?_⟩⟩;exact q _ p (.int lo) .non (aj hp) ae (.inr (.inl ⟨rfl,lo,rfl,a0,.inl rfl⟩)) (dE (by lia)) yM
   .refine⟨_,rfl,_,_,rfl,rfl,dv,_,_,rfl,rfl,th,rfl,_,rfl,bJ (λy2=>absurd y2 y) (λ_=>?_)⟩;refine⟨_,rfl,_,rfl,_,rfl,l2,λp1 n1=>⟨_,rfl,_,_,rfl,rfl,p1,_,_,_,rfl,rfl,SqL.of ae,rfl,_,rfl,_,rfl,l2,λp2 n2=>⟨_,rfl,_,_,rfl,rfl,p2,_,_,_,rfl,rfl,SqL.of ae,rfl,l3,λp3 n3=>?_⟩⟩⟩;exact q _ p3 (.int lo) (.int (lo+hi)) (((aj n1).trans (aj n2)).trans (aj n3)) ae (.inr (.inl ⟨rfl,lo,rfl,a0,.inr ⟨_,rfl,by lia⟩⟩)) (dE (by lia)) (dE (by lia))
  .refine⟨_,rfl,_,_,rfl,rfl,dv,_,_,rfl,rfl,th,rfl,_,rfl,bJ (λy=>?_) (λy=>?_)⟩
   .refine⟨_,rfl,rfl,_,rfl,bc (λe=>by cases e) ⟨_,rfl,_,_,rfl,rfl,dv,_,_,rfl,rfl,th,rfl,_,rfl,bJ (λ_=>⟨_,rfl,_,rfl,l3,λp hp=>?_⟩) (λy2=>absurd y y2)⟩⟩;exact q _ p .non (.int lo) (aj hp) ae (.inr (.inr ⟨rfl,lo,rfl,a0,.inl rfl⟩)) yM (dE (by lia))
   .refine⟨_,rfl,_,_,rfl,rfl,dv,_,_,rfl,rfl,th,rfl,_,rfl,bJ (λy2=>absurd y2 y) (λ_=>?_)⟩;refine⟨_,rfl,_,rfl,_,rfl,l2,λp1 n1=>⟨_,rfl,_,_,rfl,rfl,p1,_,_,_,rfl,rfl,SqL.of ae,rfl,_,rfl,_,rfl,l2,λp2 n2=>⟨_,rfl,_,_,rfl,rfl,p2,_,_,_,rfl,rfl,SqL.of ae,rfl,l3,λp3 n3=>?_⟩⟩⟩;exact q _ p3 (.int (lo+hi)) (.int lo) (((aj n1).trans (aj n2)).trans (aj n3)) ae (.inr (.inr ⟨rfl,lo,rfl,a0,.inr ⟨_,rfl,by lia⟩⟩)) (dE (by lia)) (dE (by lia))
theorem Bi {C N:Addr} {kd:Str} {ok:V->V->Prop} {a e:V} {E:XK} (ho:ok a e) (sa:Sc a) (se:Sc e) (x dx:Addr) (nx:H x=none) (nd:H dx=none)
  (q:∀H' fs,Same H H'->H' x=some (.ins C dx fs)->wN kd fs a e->Q .non H'):BO C N kd ok [.ref x,a,e] (upd (upd H dx (.own x)) x (.ins C dx [])) Q E:=
 ⟨x,dx,a,e,rfl,ae,sa,se,λ_ H' fs k h f=>q H' fs (qS nx nd k) h f,λz=>absurd ho z⟩
def vJ (K:PySem.W.Frag) (t:Adr):Sp:=λvs H Q _=>∃(n:Addr) (kd:Int) (a e:V),vs=[.ref n]/\SqT K H n [.int kd,a,e]/\okN kd a e/\∀H' p,Same H H'->H p=none->TkAt t H' p kd a e->Q (.ref p) H'
theorem wk (T:Txt K mg t):FnOk P w K mg base CX0 5 t.qq t.kD ["_law_numbers_here"] (vJ K t):=by
 refine T.yW.okl vY λ_ _ _ s H vs Q E hr h=>?_;obtain⟨n,kd,a,e,rfl,hn,ho,q⟩:=h;refine⟨_,(ac (aU (aq bL (aW bU (pv 0) ag (λ_ _=>rfl)) ag (ar _))
   (ai (aC (iS T.Bj (jI T) hr.mo (by rfl) T.uR T.tE .nil aA (aa (aW bU (pv 0) ag (λ_ _=>rfl)) (aa (aW bU (pv 0) ag (λ_ _=>rfl)) ah)))))
   aH)
   (ac (aU (aq bL (aW bU (pv 0) ag (λ_ _=>rfl)) ag (ar _))
   (ai (aC (iS T.Kt (rX T) hr.mo (by rfl) T.EU T.BB .nil aA (aa (aW bU (pv 0) ag (λ_ _=>rfl)) (aa (aW bU (pv 0) ag (λ_ _=>rfl)) ah)))))
   aH)
   (ai (aC (iS T.Ha (nY T) hr.mo (by rfl) T.Hb T.yR .nil aA (aa (aW bU (pv 0) ag (λ_ _=>rfl)) (aa (aW bU (pv 0) ag (λ_ _=>rfl)) ah)))))))
  ,?_⟩
 obtain⟨sa,se⟩:=ho.sc;rcases ho.kd with rfl|rfl|rfl
 .refine⟨_,rfl,n,_,_,_,rfl,rfl,hn,rfl,rfl,_,rfl,fS rfl ⟨_,rfl,n,_,_,_,rfl,rfl,hn,rfl,_,rfl,n,_,_,_,rfl,rfl,hn,rfl,λx dx nx nd ne=>?_⟩⟩;exact Bi ho.s sa se x dx nx nd λH' fs s h f=>⟨rfl,q H' x s nx ⟨dx,fs,h,f⟩⟩
 .refine⟨_,rfl,n,_,_,_,rfl,rfl,hn,rfl,rfl,_,rfl,bc (λz=>by cases z) ⟨_,rfl,n,_,_,_,rfl,rfl,hn,rfl,rfl,_,rfl,fS rfl ⟨_,rfl,n,_,_,_,rfl,rfl,hn,rfl,_,rfl,n,_,_,_,rfl,rfl,hn,rfl,λx dx nx nd ne=>?_⟩⟩⟩;exact Bi ho.u sa se x dx nx nd λH' fs s h f=>⟨rfl,q H' x s nx ⟨dx,fs,h,f⟩⟩
 .refine⟨_,rfl,n,_,_,_,rfl,rfl,hn,rfl,rfl,_,rfl,bc (λz=>by cases z) ⟨_,rfl,n,_,_,_,rfl,rfl,hn,rfl,rfl,_,rfl,bc (λz=>by cases z) ⟨_,rfl,n,_,_,_,rfl,rfl,hn,rfl,_,rfl,n,_,_,_,rfl,rfl,hn,rfl,λx dx nx nd ne=>?_⟩⟩⟩;exact Bi ho.d sa se x dx nx nd λH' fs s h f=>⟨rfl,q H' x s nx ⟨dx,fs,h,f⟩⟩
def vN (K:PySem.W.Frag):Sp:=λvs H Q _=>∃(n:Addr) (kd k:Int) (a e:V),vs=[.ref n,.int k]/\SqT K H n [.int kd,a,e]/\okN kd a e/\Q (.bl (hN kd a e k)) H
theorem wq (T:Txt K mg t):FnOk P w K mg base CX0 2 t.qv t.kH ["_law_numbers_here","_law_key"] (vN K):=by
 refine T.yY.okl sc__law_holds λ_ _ _ s H vs Q E hr h=>?_;obtain⟨n,kd,k,a,e,rfl,hn,ho,q⟩:=h;refine⟨_,(ac (re (pv 0) (uB rfl (cO (bF (i:=2) sc__law_holds.nd rfl (Or.inl rfl)) (cO (bF (i:=3) sc__law_holds.nd rfl (Or.inl rfl)) (cO (bF (i:=4) sc__law_holds.nd rfl (Or.inl rfl)) pT)))))
   (ac (aU (aq bL (pv 2) ag (ar _))
   (ai (aC (gd (bG lW (pv 3) (aM (wm T) hr.mo (by rfl) T.yz T.qG.kp T.yO .nil aA (aa (pv 1) ah)) (ar _)) (cP (bG dW (aM (wm T) hr.mo (by rfl) T.yz T.qG.kp T.yO .nil aA (aa (pv 1) ah)) (pv 4) (ar _))))))
   aH)
   (ac (aU (aq bL (pv 2) ag (ar _))
   (ai (aC (gd (bG lW (pv 3) (pv 1) (ar _)) (cP (zx (bG cQ (pv 4) bf (ar _)) (cP (bG dW (pv 1) (pv 4) (ar _))))))))
   aH)
   (ai (aC (gd (bG lW (pv 4) (pv 1) (ar _)) (cP (zx (bG cQ (pv 3) bf (ar _)) (cP (bG lW (pv 1) (pv 3) (ar _)))))))))))
  ,?_⟩
 refine⟨_,rfl,n,_,rfl,hn,rfl,_,_,rfl,_,_,rfl,_,_,rfl,rfl,?_⟩;rcases ho.kd with rfl|rfl|rfl
 .obtain⟨i,j,rfl,rfl,_⟩:=ho.s;have q:Q (.bl (decide (i<=tz (k%65536))&&decide (tz (k%65536)<j))) H:=q;refine⟨_,rfl,rfl,_,rfl,fS rfl ⟨_,rfl,_,rfl,k,rfl,_,_,rfl,rfl,_,rfl,bJ (λc=>⟨_,rfl,k,rfl,_,rfl,_,_,rfl,rfl,?_⟩) (λc=>?_)⟩⟩
  .rw[c,ZV]at q;exact q
  .rw[QP.mpr c,ZC]at q;exact q
 .refine⟨_,rfl,rfl,_,rfl,bc (λz=>by cases z) ⟨_,rfl,rfl,_,rfl,fS rfl ?_⟩⟩;obtain⟨i,rfl,i0,rfl|⟨j,rfl,_⟩⟩:=ho.u
  .have q:Q (.bl (decide (i<=k))) H:=q;refine⟨_,rfl,_,rfl,_,_,rfl,rfl,_,rfl,bJ (λc=>⟨_,rfl,rfl,_,rfl,fS rfl ?_⟩) (λc=>?_)⟩
   .rw[c]at q;exact q
   .rw[QP.mpr c]at q;exact q
  .have q:Q (.bl (decide (i<=k)&&decide (k<j))) H:=q;refine⟨_,rfl,_,rfl,_,_,rfl,rfl,_,rfl,bJ (λc=>⟨_,rfl,rfl,_,rfl,bc (λz=>by cases z) ⟨_,rfl,_,rfl,_,_,rfl,rfl,?_⟩⟩) (λc=>?_)⟩
   .rw[c,ZV]at q;exact q
   .rw[QP.mpr c,ZC]at q;exact q
 .refine⟨_,rfl,rfl,_,rfl,bc (λz=>by cases z) ⟨_,rfl,rfl,_,rfl,bc (λz=>by cases z) ?_⟩⟩;obtain⟨j,rfl,j0,rfl|⟨i,rfl,_⟩⟩:=ho.d
  .have q:Q (.bl (decide (j<=k))) H:=q;refine⟨_,rfl,_,rfl,_,_,rfl,rfl,_,rfl,bJ (λc=>⟨_,rfl,rfl,_,rfl,fS rfl ?_⟩) (λc=>?_)⟩
   .rw[c]at q;exact q
   .rw[QP.mpr c]at q;exact q
  .have q:Q (.bl (decide (j<=k)&&decide (k<=i))) H:=q;refine⟨_,rfl,_,rfl,_,_,rfl,rfl,_,rfl,bJ (λc=>⟨_,rfl,rfl,_,rfl,bc (λz=>by cases z) ⟨_,rfl,_,rfl,_,_,rfl,rfl,?_⟩⟩) (λc=>?_)⟩
   .rw[c,ZV]at q;exact q
   .rw[QP.mpr c,ZC]at q;exact q
theorem wT:(0:Int)<10^(38:Int).toNat:=by decide
theorem Ik {i:Int} (h0:0<=i) (h1:i<=11) (m0:0<=m) (m1:m<=65536):0<=i*m/\i*m<=720896:=⟨X6 h0 m0,Int.le_trans (Int.mul_le_mul h1 m1 m0 (by decide)) (by decide)⟩
def GS (H:Hp) (c n way:Int):St->Hp->Prop:=λσ H'=>H=H'/\∃st:Int,σ=[some (.int c),some (.int st),some (.int n),some (.int way),none]/\0<=st/\st<=10^38
def zi:Sp:=λvs H Q _=>∃c:Int,vs=[.int c]/\∀(H':Hp) (r:Addr) (rs:List Int),Same H H'->H r=none->H' r=some (.lst (rs.map V.int))->rs.length<=12->(∀k∈rs,0<=k/\k<10^39)->Q (.ref r) H'
theorem zD (T:Txt K mg t):FnOk P w K mg base CX0 2 t.vq t.pA ["_law_cell"] zi:=by
 refine T.BH.okl sc__law_run λ_ _ _ s H vs Q E hr h=>?_;obtain⟨c,rfl,q⟩:=h;refine⟨_,(ac (aU (aq bL (am aP (pv 0) ag) ag (ar _))
   (ac (az (i:=1) sc__law_run.nd rfl (Or.inr rfl) (am aP (am aS (pv 0) ag) (am jj ag ag)))
   (ai (aC (iT rfl (CScope.of (M:=["_law_k"]) (N:=["_law_cell","_law_start","_law_number","_law_way","_law_step"]) (N':=["_law_cell","_law_start","_law_number","_law_way","_law_step"]) (dsc:=ak gW) rfl rfl (by decide+kernel)) (gP (by rfl) T.m6 (aa (am bn ag (am aP (am aS (pv 0) ag) ag)) ah)) (λ_ _ _ _ _=>(am bn (pv 2) (am dn (pv 0) (aW (Fe K rfl) (bR (aa ag (aa ag (aa ag (aa ag (aa ag ah)))))) (am aP (am aS (pv 1) ag) ag) (λ_ _=>rfl)))))))))
   aH)
   (ac (az (i:=2) sc__law_run.nd rfl (Or.inl rfl) (aM (nV T) hr.mo (by rfl) T.yA T.qH.kp T.yP .nil aA (aa (pv 0) (aa ag ah))))
   (ac (az (i:=3) sc__law_run.nd rfl (Or.inl rfl) (am aP (pv 2) ag))
   (ac (az (i:=1) sc__law_run.nd rfl (Or.inr rfl) (am aP (am aS (pv 2) ag) ag))
   (ac (aU (aq bL (pv 3) ag (ar _))
   (ai (az (i:=1) sc__law_run.nd rfl (Or.inr rfl) (am aP (am aS (pv 0) ag) (am jj ag ag))))
   aH)
   (ac (aU (aq bL (pv 3) ag (ar _))
   (ai (az (i:=1) sc__law_run.nd rfl (Or.inr rfl) (am dn ag (am aP (am aS (pv 2) ag) ag))))
   aH)
   (ac (aU (aq bL (pv 3) ag (ar _))
   (ai (az (i:=1) sc__law_run.nd rfl (Or.inr rfl) (am bn (am dn ag (am aP (am aS (pv 2) ag) ag)) (am aP (am aS (pv 2) ag) ag))))
   aH)
   (ac (aU (aq bL (pv 3) ag (ar _))
   (ai (az (i:=1) sc__law_run.nd rfl (Or.inr rfl) (am aP (am aS (pv 2) ag) ag)))
   aH)
   (ac (az (i:=4) sc__law_run.nd rfl (Or.inr rfl) (aW aV (bR (aa ag (aa ag (aa ag (aa ag (aa ag ah)))))) (am aP (am aS (pv 2) ag) ag) (λ_ _=>rfl)))
   (ai (aC (iT rfl (CScope.of (M:=["_law_k"]) (N:=["_law_cell","_law_start","_law_number","_law_way","_law_step"]) (N':=["_law_cell","_law_start","_law_number","_law_way","_law_step"]) (dsc:=ak gW) rfl rfl (by decide+kernel)) (gP (by rfl) T.m6 (aa (am bn ag (am aP (am aS (pv 2) ag) ag)) ah)) (λ_ _ _ _ _=>(am bn (pv 2) (am dn (pv 0) (pv 5))))))))))))))))
  ,?_⟩
 have two:(0:Int)<2:=by decide
 have t38:(10:Int)^(38:Int).toNat=10^38:=rfl;refine⟨_,rfl,_,_,rfl,rfl,two,rfl,_,rfl,bJ (λz=>?_) (λz=>?_)⟩
 .have s0:=Qe (c/120) (QR wT);have s1:=Qb (c/120) wT;refine⟨_,rfl,_,_,rfl,rfl,⟨by decide,by decide⟩,_,_,rfl,rfl,⟨by decide,by decide,by decide⟩,_,_,rfl,rfl,wT,?_⟩
  (try dsimp only)
  generalize c/120%10^(38:Int).toNat=st at s0 s1⊢;rw[t38]at s1;have b0:=Qe (c/2) (show(12:Int)≠0 by decide);have b1:=Qb (c/2) (show(0:Int)<12 by decide);refine⟨_,rfl,_,_,rfl,rfl,⟨by decide,by decide⟩,_,_,rfl,rfl,(by show(0:Int)<12;decide),_,_,rfl,rfl,?_⟩
  (try dsimp only)
  generalize c/2%12=m at b0 b1⊢;refine⟨1+m,rfl,by lia,by lia,λD hD=>pB (n:=(1+m).toNat) (lo:=0) (λi ys H2=>Same H H2/\∃rs:List Int,ys=rs.map V.int/\rs.length=i/\∀k∈rs,0<=k/\k<10^39) ⟨aj hD,[],rfl,rfl,λ_ z=>absurd z QT⟩ (λi ys H2 hi w hDD=>?_) (λys H2 w hDD=>?_)⟩
  .obtain⟨s2,rs,rfl,lr,hb⟩:=w;obtain⟨sp,hsp,p0,p1⟩:=w5 (c:=c/24) (n:=5) (L:=[.int 1,.int 3,.int 256,.int 65536,.int 5000]) (P:=λm=>0<=m/\m<=65536) ⟨⟨by decide,by decide⟩,⟨by decide,by decide⟩,⟨by decide,by decide⟩,⟨by decide,by decide⟩,⟨by decide,by decide⟩,trivial⟩ rfl (by decide);refine⟨_,rfl,_,rfl,(by show 5<=sizeLine;decide),λp np=>⟨_,rfl,_,_,rfl,rfl,⟨by decide,by decide⟩,_,_,rfl,rfl,(by show(0:Int)<5;decide),p,_,_,_,rfl,rfl,SqL.of ae,hsp,_,_,rfl,rfl,.inr ⟨by lia,by lia⟩,_,_,rfl,rfl,?_⟩⟩;have sp3:=aj (o:= .lst [.int 1,.int 3,.int 256,.int 65536,.int 5000]) np
   (try dsimp only)
   generalize upd H2 p (.lst [.int 1,.int 3,.int 256,.int 65536,.int 5000])=H3 at sp3⊢;obtain⟨x0,x1⟩:=Ik (i:=0+(i:Int)) (by lia) (by lia) p0 p1;generalize (0+(i:Int))*sp=x at x0 x1⊢;refine CNext.mk hi (sp3 _ _ hDD) (cp (by rw[Q0];lia)) ⟨bN (s2.trans sp3) hD,rs++ [st+x],by rw[Qc];rfl,by rw[Qa,lr];rfl,λk hk=>?_⟩;rcases Q5.mp hk with hk|hk
   .exact hb k hk
   .rw[Q7.mp hk];constructor<;>lia
  .obtain⟨s2,rs,rfl,lr,hb⟩:=w;exact q H2 D rs s2 hD hDD (by lia) hb
 clear z;refine⟨_,rfl,c,1,rfl,λn n0 n1=>?_⟩;refine⟨_,rfl,_,_,rfl,rfl,(by show(0:Int)<5;decide),?_⟩
 (try dsimp only)
 generalize n%5=way;have s0:=Qe (n/5) (show(50:Int)≠0 by decide);have s1:=Qb (n/5) (show(0:Int)<50 by decide);refine⟨_,rfl,_,_,rfl,rfl,⟨by decide,by decide⟩,_,_,rfl,rfl,(by show(0:Int)<50;decide),?_⟩
 (try dsimp only)
 generalize n/5%50=st at s0 s1⊢;refine b3 (GS H c n way) (λnx go=>?_) (λσ1 H1 w=>?_)
 .refine⟨_,rfl,rfl,_,rfl,bJ (λz=>?_) (λz=>go _ _ ⟨rfl,st,rfl,s0,by lia⟩)⟩;have a0:=Qe (c/5) (QR wT);have a1:=Qb (c/5) wT;refine⟨_,rfl,_,_,rfl,rfl,⟨by decide,by decide⟩,_,_,rfl,rfl,⟨by decide,by decide,by decide⟩,_,_,rfl,rfl,wT,go _ _ ⟨rfl,_,rfl,a0,?_⟩⟩;rw[t38]at a1⊢;lia
 clear s0 s1 st;obtain⟨rfl,st,rfl,s0,s1⟩:=w;refine b3 (GS H c n way) (λnx go=>?_) (λσ1 H1 w=>?_)
 .refine⟨_,rfl,rfl,_,rfl,bJ (λz=>?_) (λz=>go _ _ ⟨rfl,st,rfl,s0,s1⟩)⟩;have a0:=Qe (n/5) (show(40:Int)≠0 by decide);have a1:=Qb (n/5) (show(0:Int)<40 by decide);exact⟨_,rfl,_,_,rfl,rfl,⟨by decide,by decide⟩,_,_,rfl,rfl,(by show(0:Int)<40;decide),_,_,rfl,rfl,.inl ⟨by decide,by decide⟩,go _ _ ⟨rfl,_,rfl,by lia,by lia⟩⟩
 clear s0 s1 st;obtain⟨rfl,st,rfl,s0,s1⟩:=w;refine b3 (GS H c n way) (λnx go=>?_) (λσ1 H1 w=>?_)
 .refine⟨_,rfl,rfl,_,rfl,bJ (λz=>?_) (λz=>go _ _ ⟨rfl,st,rfl,s0,s1⟩)⟩;have a0:=Qe (n/5) (show(9:Int)≠0 by decide);have a1:=Qb (n/5) (show(0:Int)<9 by decide);have b0:=Qe (n/45) (show(7:Int)≠0 by decide);have b1:=Qb (n/45) (show(0:Int)<7 by decide);exact⟨_,rfl,_,_,rfl,rfl,⟨by decide,by decide⟩,_,_,rfl,rfl,(by show(0:Int)<9;decide),_,_,rfl,rfl,.inl ⟨by decide,by decide⟩,_,rfl,_,_,rfl,rfl,⟨by decide,by decide⟩,_,_,rfl,rfl,(by show(0:Int)<7;decide),_,_,rfl,rfl,go _ _ ⟨rfl,_,rfl,by lia,by lia⟩⟩
 clear s0 s1 st;obtain⟨rfl,st,rfl,s0,s1⟩:=w;refine b3 (GS H c n way) (λnx go=>?_) (λσ1 H1 w=>?_)
 .refine⟨_,rfl,rfl,_,rfl,bJ (λz=>?_) (λz=>go _ _ ⟨rfl,st,rfl,s0,s1⟩)⟩;have a0:=Qe (n/5) (show(3000:Int)≠0 by decide);have a1:=Qb (n/5) (show(0:Int)<3000 by decide);exact⟨_,rfl,_,_,rfl,rfl,⟨by decide,by decide⟩,_,_,rfl,rfl,(by show(0:Int)<3000;decide),go _ _ ⟨rfl,_,rfl,by lia,by lia⟩⟩
 clear s0 s1 st;obtain⟨rfl,st,rfl,s0,s1⟩:=w;obtain⟨sp,hsp,p0,p1⟩:=w5 (c:=n/20000) (n:=5) (L:=[.int 1,.int 3,.int 256,.int 65536,.int 5000]) (P:=λm=>0<=m/\m<=65536) ⟨⟨by decide,by decide⟩,⟨by decide,by decide⟩,⟨by decide,by decide⟩,⟨by decide,by decide⟩,⟨by decide,by decide⟩,trivial⟩ rfl (by decide);refine⟨(by show 5<=sizeLine;decide),λp np=>⟨_,rfl,_,_,rfl,rfl,⟨by decide,by decide⟩,_,_,rfl,rfl,(by show(0:Int)<5;decide),p,_,_,_,rfl,rfl,SqL.of ae,hsp,?_⟩⟩;have sp3:=aj (o:= .lst [.int 1,.int 3,.int 256,.int 65536,.int 5000]) np
 (try dsimp only)
 generalize upd H p (.lst [.int 1,.int 3,.int 256,.int 65536,.int 5000])=H3 at sp3⊢;have b0:=Qe (n/100000) (show(12:Int)≠0 by decide);have b1:=Qb (n/100000) (show(0:Int)<12 by decide);refine⟨_,rfl,_,_,rfl,rfl,⟨by decide,by decide⟩,_,_,rfl,rfl,(by show(0:Int)<12;decide),_,_,rfl,rfl,?_⟩
 (try dsimp only)
 generalize n/100000%12=m at b0 b1⊢;refine⟨1+m,rfl,by lia,by lia,λD hD=>pB (n:=(1+m).toNat) (lo:=0) (λi ys H2=>Same H3 H2/\∃rs:List Int,ys=rs.map V.int/\rs.length=i/\∀k∈rs,0<=k/\k<10^39) ⟨aj hD,[],rfl,rfl,λ_ z=>absurd z QT⟩ (λi ys H2 hi w hDD=>?_) (λys H2 w hDD=>?_)⟩
 .obtain⟨s2,rs,rfl,lr,hb⟩:=w;obtain⟨x0,x1⟩:=Ik (i:=0+(i:Int)) (by lia) (by lia) p0 p1;refine⟨_,rfl,_,rfl,_,rfl,_,_,rfl,rfl,.inr ⟨by lia,by lia⟩,_,_,rfl,rfl,?_⟩
  (try dsimp only)
  generalize (0+(i:Int))*sp=x at x0 x1⊢;refine CNext.mk hi hDD (cp (by rw[Q0];lia)) ⟨bN s2 hD,rs++ [st+x],by rw[Qc];rfl,by rw[Qa,lr];rfl,λk hk=>?_⟩;rcases Q5.mp hk with hk|hk
  .exact hb k hk
  .rw[Q7.mp hk];constructor<;>lia
 .obtain⟨s2,rs,rfl,lr,hb⟩:=w;exact q H2 D rs (sp3.trans s2) (c7 sp3 hD) hDD (by lia) hb
def Wh (F:Addr->Prop) (d:Addr):Addr->Prop:=λb=>F b\/b=d
theorem Fr.wh {d:Addr} (f:Fr F F' H H'):Fr (Wh F d) (Wh F' d) H H':=λb o n eb=>⟨(f b o (λz=>n (.inl z)) eb).1,λz=>z.elim (f b o (λz=>n (.inl z)) eb).2 λz=>n (.inr z)⟩
theorem Fr.wd {d:Addr}:Fr (Wh F d) (Wh F d) H (upd H d o):=λb o n eb=>⟨by rw[af λz=>n (.inr z)];exact eb,n⟩
structure Jh (K:PySem.W.Frag) (t:Adr) (H:Hp) (a d:Addr) (F:Addr->Prop) (x:HSt):Prop where
 A:HoA K t H a F x
 di:H d=some (.dK (aJ x.st.kv))
 nd:¬F d
 kb:∀k∈x.st.kv.map (·.1),0<=k/\k<10^40
 iv:∀p∈x.st.kv,∃i:Int,p.2= .int i
 le:x.st.kv.length<=301
 ma:x.ma=0
theorem Ja {kv:List (Int×V)} {i:Int} (h:∀p∈kv,∃i:Int,p.2= .int i):∀p∈bv kv k (.int i),∃i:Int,p.2= .int i:=λp hp=>by
 unfold bv at hp;split at hp
 .obtain⟨q,hq,rfl⟩:=Qh.mp hp;by_cases c:q.1=k
  .exact⟨i,by rw[if_pos c]⟩
  .rw[if_neg c];exact h q hq
 .rcases Q5.mp hp with y|y
  .exact h p y
  .rw[Q7.mp y];exact⟨i,rfl⟩
section
variable {d:Addr} {x:HSt} {i:Int}
theorem Jh.fr (J:Jh K t H a d F x) (A:HoA K t H' a F' x) (f:Fr F F' H H'):Jh K t H' a d F' x:=⟨A,(f _ _ J.nd J.di).1,(f _ _ J.nd J.di).2,J.kb,J.iv,J.le,J.ma⟩
theorem Jh.same (J:Jh K t H a d F x) (s:Same H H'):Jh K t H' a d F x:=J.fr (J.A.same s) (Fr.of_same s)
theorem Jh.put (J:Jh K t H a d F x) (A:HoA K t H' a F' x') (f:Fr F F' H H') (e:x'.st=x.st.put k (.int i)) (m:x'.ma=x.ma) (k0:0<=k/\k<10^40) (l:x.st.kv.length<=300):Jh K t (L2.upd H' d (.dK (aJ (bv x.st.kv k (.int i))))) a d F' x':=by
 obtain⟨d1,n1⟩:=f _ _ J.nd J.di;have ek:x'.st.kv=bv x.st.kv k (.int i):=by rw[e];exact SSt.three_kv
 refine⟨A.upd n1 (λxs z=>by rw[d1]at z;cases z),by rw[ek];exact ae,n1,λz hz=>?_,by rw[ek];exact Ja J.iv,?_,m.trans J.ma⟩
 .rw[ek,qb]at hz;split at hz
  .exact J.kb z hz
  .rcases Q5.mp hz with y|y
   .exact J.kb z y
   .rw[Q7.mp y];exact k0
 .rw[ek];have:=cc x.st.kv k (.int i);lia
theorem Jh.drop (J:Jh K t H a d F x) (A:HoA K t H' a F' x') (f:Fr F F' H H') (e:x'.st=x.st.drop k) (m:x'.ma=x.ma):Jh K t (L2.upd H' d (.dK (aJ (bT x.st.kv k)))) a d F' x':=by
 obtain⟨d1,n1⟩:=f _ _ J.nd J.di;have ek:x'.st.kv=bT x.st.kv k:=by rw[e];exact SSt.three_kv
 have sub:∀p∈bT x.st.kv k,p∈x.st.kv:=λp hp=>(QH.mp hp).1;refine⟨A.upd n1 (λxs z=>by rw[d1]at z;cases z),by rw[ek];exact ae,n1,λz hz=>?_,by rw[ek];exact λp hp=>J.iv p (sub p hp),?_,m.trans J.ma⟩
 .rw[ek]at hz;obtain⟨p,hp,rfl⟩:=Qh.mp hz;exact J.kb _ (Qh.mpr ⟨p,sub p hp,rfl⟩)
 .rw[ek];exact QD (Qo _ _) J.le
end
def xZ (K:PySem.W.Frag) (t:Adr):Sp:=λvs H Q _=>∃(a d:Addr) (c:Int) (F:Addr->Prop) (x:HSt),vs=[.ref a,.ref d,.int c]/\Jh K t H a d F x/\x.now<3900/\x.st.kv.length<=300/\
 ∀(H':Hp) (F':Addr->Prop) (x':HSt),Jh K t H' a d F' x'->x'.now<=x.now+12->x'.st.kv.length<=300->Fr (Wh F d) (Wh F' d) H H'->Q .non H'
theorem yr (T:Txt K mg t):FnOk P w K mg base CX0 7 t.su t.mF ["_law_house_here","_law_kept","_law_cell"] (xZ K t):=by
 refine T.Am.okl sc__law_deed λ_ _ _ s H vs Q E hr h=>?_;obtain⟨a,d,c,F,x,rfl,J,l1,l0,q⟩:=h;refine⟨_,(ac (az (i:=3) sc__law_deed.nd rfl (Or.inl rfl) (aM (zD T) hr.mo (by rfl) T.Jk T.BH.kp T.JL .nil aA (aa (am aS (pv 2) ag) ah)))
   (ai (hZ PassesOwn.never rfl (gP (by rfl) T.m6 (aa (aE aD (by rfl) T.bM bg (aa (pv 3) ah)) ah)) (bF (i:=4) sc__law_deed.nd rfl (Or.inl rfl))
   (ai (aU (aq bL (am aP (pv 2) ag) ag (ar _))
   (ai (aU (AZ (EG (sf hr) (aW aV (pv 3) (pv 4) (λ_ _=>rfl)) (pv 1)))
   (ac (aR (aQ (pv 0) T.aN T.Gf (uO T) hr.mo T.Gq .nil aA (aa (aW aV (pv 3) (pv 4) (λ_ _=>rfl)) ah)))
   (ai (aR (dG QQ Xk PySem.F.type_dict_pop BX (pv 1) (aa (aW aV (pv 3) (pv 4) (λ_ _=>rfl)) ah)))))
   aH))
   (ai (aU (aq dW (aE Dz (by rfl) T.bM bg (aa (pv 1) ah)) ag (ar _))
   (ac (az (i:=5) sc__law_deed.nd rfl (Or.inl rfl) (am dn (am aP (am bn (am aS (pv 2) ag) (pv 4)) (am jj ag ag)) (aW aV (bR (aa ag (aa (ED AG ag) ah))) (am aP (am aS (pv 2) ag) ag) (λ_ _=>rfl))))
   (ac (aU (aq bL (am aP (am aS (pv 2) ag) ag) ag (ar _))
   (ai (az (i:=5) sc__law_deed.nd rfl (Or.inl rfl) (am ie (am aP (am bn (am zB (pv 2) (am dn ag (am jj ag ag))) (pv 4)) (am dn ag (am jj ag ag))) (am jj ag ag))))
   aH)
   (ac (aR (aQ (pv 0) T.aN T.Hh (wx T) hr.mo T.HH .nil aA (aa (aW aV (pv 3) (pv 4) (λ_ _=>rfl)) (aa (pv 5) ah))))
   (ai (yi (sf hr) (pv 1) (aW aV (pv 3) (pv 4) (λ_ _=>rfl)) (pv 5) rfl)))))
   aH)))))))
  ,?_⟩
 refine⟨_,rfl,_,_,rfl,rfl,⟨by decide,by decide⟩,_,rfl,λH1 r rs s1 nr hr lr rb=>?_⟩;have J1:=J.same s1;have nF:¬F r:=J.A.out nr;have nrd:r≠d:=al J.di nr|>.symm;refine⟨_,rfl,r,_,rfl,.inl (SqL.of hr),?_⟩;rw[Q0];refine⟨(rs.length:Int),rfl,by lia,by lia,Bw (n:=(rs.length:Int).toNat) (λi σ H'=>∃(F':Addr->Prop) (x':HSt) (v4 v5:Option V),σ=[some (.ref a),some (.ref d),some (.int c),some (.ref r),v4,v5]/\Jh K t H' a d F' x'/\x'.now<=x.now+i/\x'.st.kv.length<=300/\Fr (Wh F d) (Wh F' d) H1 H') ⟨F,x,none,none,rfl,J1,by lia,l0,Fr.refl⟩ (λi σ H2 hi w=>?_) (λσ H2 w=>?_)⟩
 .obtain⟨F2,x2,v4,v5,rfl,J2,l2,e2,f2⟩:=w;obtain⟨hr2,nr2⟩:=f2 _ _ (λz=>z.elim nF nrd) hr;have hi':i<rs.length:=by lia
  obtain⟨k,ek⟩:∃k,rs[i]?=some k:=⟨_,Q3 hi'⟩;obtain⟨k0,k1⟩:=rb k (Q1 ek);have at1:atI (rs.map V.int) (0+(i:Int))=some (.int k):=by
   rw[Int.zero_add];refine tO ?_;rw[Qn,ek];rfl
  obtain⟨dx2,fs2,hi2,hm2,_⟩:=J2.A.ins;have m2:=J2.ma;refine⟨_,rfl,_,_,rfl,rfl,(by show(0:Int)<4;decide),rfl,_,rfl,bJ (λz=>?_) (λz=>?_)⟩
  .refine⟨_,rfl,_,rfl,r,_,_,_,rfl,rfl,SqL.of hr2,at1,_,rfl,d,_,rfl,DGet.k (k:=Sum.inl k) J2.di,_,rfl,?_⟩;rw[liftK_val];cases ev:aO x2.st.kv k with
   |none=>exact cI ⟨F2,x2,_,_,rfl,J2,by lia,e2,f2⟩
   |some v=>
    refine c6 ⟨_,rfl,a,dx2,fs2,rfl,hi2,hm2 _ (by decide+kernel),_,rfl,_,rfl,r,_,_,_,rfl,rfl,SqL.of hr2,at1,a,k,F2,x2,rfl,J2.A,k0,by lia,λ_ H3 F3 ks3 r3 q3 pa3 A3 N3 f3=>?_,λz=>by rw[ev]at z;cases z⟩;obtain⟨d3,n3⟩:=f3 _ _ J2.nd J2.di;obtain⟨hr3,nr3⟩:=f3 _ _ (λz=>nr2 (.inl z)) hr2;refine⟨_,rfl,.inr (.inr (.inl ⟨rfl,.inl ⟨_,d3⟩⟩)),_,rfl,_,rfl,r,_,_,_,rfl,rfl,SqL.of hr3,at1,d,_,Sum.inl k,v,rfl,rfl,d3,liftK_val.trans ev,?_⟩;rw[uX];exact⟨F3,_,_,_,rfl,J2.drop A3 f3 rfl rfl,by show x2.now+1<=_;lia,by rw[show(x2.st.drop k).kv=bT x2.st.kv k from SSt.three_kv];exact QD (Qo _ _) e2,(f2.trans f3.wh).trans Fr.wd⟩
  .refine⟨_,rfl,d,_,rfl,J2.di,_,_,rfl,rfl,_,rfl,bJ (λy=>?_) (λy=>⟨F2,x2,_,_,rfl,J2,by lia,e2,f2⟩)⟩;have y:=of_decide_eq_true y;rw[cq]at y;refine b3 (λσ H'=>∃v:Int,σ=[some (.ref a),some (.ref d),some (.int c),some (.ref r),some (.int (0+(i:Int))),some (.int v)]/\Same H2 H') (λnx go=>?_) (λσ H3 w=>?_)
   .obtain⟨sg,hsg,g0⟩:=w5 (c:=c/16) (n:=2) (L:=[.int 1,.int (-1)]) (P:=λm=> -2<m/\m<2) ⟨⟨by decide,by decide⟩,⟨by decide,by decide⟩,trivial⟩ rfl (by decide);exact⟨_,rfl,_,_,rfl,rfl,⟨by decide,by decide⟩,_,rfl,_,_,rfl,rfl,_,_,rfl,rfl,⟨by decide,by decide,by decide⟩,_,_,rfl,rfl,tT,_,rfl,(by show 2<=sizeLine;decide),λp np=>⟨_,rfl,_,_,rfl,rfl,⟨by decide,by decide⟩,_,_,rfl,rfl,(by show(0:Int)<2;decide),p,_,_,_,rfl,rfl,SqL.of ae,hsg,_,_,rfl,rfl,.inr ⟨by lia,by lia⟩,go _ _ ⟨_,rfl,aj np⟩⟩⟩
   obtain⟨v,rfl,s3⟩:=w;refine b3 (λσ H'=>∃v:Int,σ=[some (.ref a),some (.ref d),some (.int c),some (.ref r),some (.int (0+(i:Int))),some (.int v)]/\Same H2 H') (λnx go=>?_) (λσ H4 w=>?_)
   .refine⟨_,rfl,_,_,rfl,rfl,⟨by decide,by decide⟩,_,_,rfl,rfl,(by show(0:Int)<2;decide),rfl,_,rfl,bJ (λ_=>?_) (λ_=>go _ _ ⟨v,rfl,s3⟩)⟩;exact⟨_,rfl,_,_,rfl,rfl,⟨by decide,by decide,by decide⟩,_,_,rfl,rfl,.inl ⟨by decide,by decide⟩,_,_,rfl,rfl,⟨by decide,by decide⟩,_,rfl,_,_,rfl,rfl,_,_,rfl,rfl,⟨by decide,by decide,by decide⟩,_,_,rfl,rfl,.inl ⟨by decide,by decide⟩,_,_,rfl,rfl,(by show(0:Int)<2*10^(39:Int).toNat;decide),_,_,rfl,rfl,⟨by decide,by decide,by decide⟩,_,_,rfl,rfl,go _ _ ⟨_,rfl,s3⟩⟩
   clear s3 v;obtain⟨v,rfl,s4⟩:=w;have J4:=J2.same s4;obtain⟨dx4,fs4,hi4,hm4,_⟩:=J4.A.ins;have hr4:=s4 _ _ hr2;refine⟨_,rfl,a,dx4,fs4,rfl,hi4,hm4 _ (by decide+kernel),_,rfl,_,rfl,r,_,_,_,rfl,rfl,SqL.of hr4,at1,_,rfl,a,k,v,F2,x2,rfl,J4.A,k0,by lia,λH5 F5 ks5 r5 q5 pa5 A5 N5 f5=>?_⟩;obtain⟨d5,n5⟩:=f5 _ _ J4.nd J4.di;obtain⟨hr5,nr5⟩:=f5 _ _ (λz=>nr2 (.inl z)) hr4;refine⟨_,rfl,_,rfl,_,rfl,_,rfl,r,_,_,_,rfl,rfl,SqL.of hr5,at1,d,_,rfl,DPut.k (k:=Sum.inl k) d5 (by rw[cq];exact bq (by lia)),?_⟩;rw[gQ];exact⟨F5,_,_,_,rfl,J4.put A5 f5 rfl rfl ⟨k0,by lia⟩ (by lia),by show x2.now+1<=_;lia,by rw[show(x2.st.put k (.int v)).kv=bv x2.st.kv k (.int v) from SSt.three_kv];have:=cc x2.st.kv k (.int v);lia,(f2.trans ((Fr.of_same s4).trans f5.wh)).trans Fr.wd⟩
 .obtain⟨F2,x2,v4,v5,rfl,J2,l2,e2,f2⟩:=w;exact q H2 F2 x2 J2 (by lia) e2 ((Fr.of_same s1).trans f2)
def vM (K:PySem.W.Frag) (t:Adr):Sp:=λvs H Q _=>∃(l:Addr) (cs:List Int),vs=[.ref l]/\H l=some (.lst (cs.map V.int))/\cs.length<=63/\
 ∀(H':Hp) (r a d:Addr) (F:Addr->Prop) (x:HSt),H r=none->¬F r->H' r=some (.tup [.ref a,.ref d])->Jh K t H' a d F x->x.now<=12*cs.length->x.st.kv.length<=300->(∀b o,H b=some o->H' b=some o/\¬Wh F d b)->Q (.ref r) H'
theorem wn (T:Txt K mg t):FnOk P w K mg base CX0 8 t.qu t.kG ["_law_cells"] (vM K t):=by
 refine T.yX.okl sc__law_house λ_ _ _ s H vs Q E hr h=>?_;obtain⟨l,cs,rfl,hl,ll,q⟩:=h;refine⟨_,(ac (az (i:=1) sc__law_house.nd rfl (Or.inl rfl) (pV T.Kw (uN T) hr.mo (by rfl) T.Kz T.Gp .nil aA))
   (ac (az (i:=2) sc__law_house.nd rfl (Or.inl rfl) eJ)
   (ac (hZ PassesOwn.never rfl (cZ (pv 0)) (bF (i:=3) sc__law_house.nd rfl (Or.inl rfl))
   (ai (aR (aM (yr T) hr.mo (by rfl) T.Ir T.Am.kp T.IA .nil aA (aa (pv 1) (aa (pv 2) (aa (pv 3) ah)))))))
   (ai (aC (bz (aa (pv 1) (aa (pv 2) ah))))))))
  ,?_⟩
 refine λa dx na nd nad=>⟨a,dx,rfl,ae,λH1 F1 A1 f1=>⟨rfl,λd n1=>?_⟩⟩;have o1:∀b o,H b=some o->H1 b=some o/\¬F1 b:=λb o e=>f1 b o (al e na) (by rw[af (al e na),af (al e nd)];exact e);have J2:Jh K t (upd H1 d (.dK [])) a d F1 HSt.new:=⟨A1.same (aj n1),ae,A1.out n1,(λ_ z=>by cases z),(λ_ z=>by cases z),by decide,rfl⟩;have o2:∀b o,H b=some o->upd H1 d (.dK []) b=some o/\¬Wh F1 d b:=λb o e=>⟨by rw[af (al (o1 b o e).1 n1)];exact(o1 b o e).1,λz=>z.elim (o1 b o e).2 (al (o1 b o e).1 n1)⟩;show Ej _ _ _ _ (upd H1 d (.dK []));generalize upd H1 d (.dK [])=H2 at J2 o2⊢;refine⟨_,rfl,l,rfl,⟨_,SqL.of (o2 _ _ hl).1⟩,nC (K:=K) (a:=l) (xs:=cs.map V.int) (λi σ H'=>∃(F':Addr->Prop) (x':HSt) (v3:Option V),σ=[some (.ref l),some (.ref a),some (.ref d),v3]/\Jh K t H' a d F' x'/\x'.now<=12*i/\x'.st.kv.length<=300/\∀b o,H b=some o->H' b=some o/\¬Wh F' d b) ⟨F1,_,none,rfl,J2,by decide,by decide,o2⟩ (λi σ H' _ w=>?_) (λi z σ H' hz w=>?_) (λσ H' w=>?_)⟩
 .obtain⟨F',x',v3,rfl,J',l',e',o'⟩:=w;exact SqL.of (o' _ _ hl).1
 .obtain⟨F',x',v3,rfl,J',l',e',o'⟩:=w;have hi:=(Q2.mp hz).1;rw[Q0]at hi;obtain⟨c,hc,rfl⟩:=Qh.mp (Q1 hz);exact⟨_,rfl,_,rfl,_,rfl,a,d,c,F',x',rfl,J',by lia,e',λH3 F3 x3 J3 l3 e3 f3=>⟨F3,x3,_,rfl,J3,by lia,e3,λb o e=>f3 b o (o' b o e).2 (o' b o e).1⟩⟩
 .obtain⟨F',x',v3,rfl,J',l',e',o'⟩:=w;rw[Q0]at l';refine⟨_,rfl,_,rfl,(by show 2<=sizeLine;decide),λr nr=>?_⟩;refine q _ r a d F' x' ?_ (J'.A.out nr) ae (J'.same (aj nr)) (by lia) e' λb o e=>⟨by rw[af (al (o' b o e).1 nr)];exact(o' b o e).1,(o' b o e).2⟩;cases e:H r with
  |none=>rfl
  |some o=>rw[(o' _ _ e).1]at nr;cases nr
structure CoP (t:Adr) (H:Hp) (c a p dd:Addr) (rest:V) (n:Int) (page:V):Prop where
 ob:∃dx,H c=some (.ins t.a6 dx [("house",.ref a),("first",.ref p),("rest",rest),("followed",.int n),("copied",.ref dd),("page",page)])
structure PgO (t:Adr) (H:Hp) (g tk nd:Addr) (found ahead closing:V):Prop where
 ob:∃dx,H g=some (.ins t.cW dx [("asked",.ref tk),("found",found),("ahead",ahead),("noted",.ref nd),("closing",closing)])
 no:H nd=some (.dK [])
theorem CoP.same {dd:Addr} {rest page:V} (C:CoP t H c a p dd rest n page) (s:Same H H'):CoP t H' c a p dd rest n page:=by
 obtain⟨dx,ho⟩:=C.ob;exact⟨⟨dx,s _ _ ho⟩⟩
theorem iQ {x:V}:a8 f v ((f,x)::r)=(f,v)::r:=by rw[a8,if_pos rfl]
def vS (t:Adr):Sp:=λvs H Q _=>∃(g dx tk:Addr),vs=[.ref g,.ref tk]/\H g=some (.ins t.cW dx [])/\
 ∀H' nd,PgO t H' g tk nd .non .non .non->H nd=none->(∀b o,b≠g->H b=some o->H' b=some o)->Q .non H'
theorem ww (T:Txt K mg t):FnOk P w K mg base CX0 1 t.qB t.kM ["self","token"] (vS t):=by
 refine T.HQ.okl v8 λ_ _ _ s H vs Q E hr h=>?_;obtain⟨g,dx,tk,rfl,hg,q⟩:=h;refine⟨_,(ac (a9 (pv 0) (pv 1) rfl)
   (ac (a9 (pv 0) bf rfl)
   (ac (a9 (pv 0) bf rfl)
   (ac (a9 (pv 0) eJ rfl)
   (ai (a9 (pv 0) bf rfl))))))
  ,?_⟩
 refine⟨_,rfl,_,rfl,g,_,dx,[],rfl,hg,T.bO,T.wA,(by show 0<1000;decide),?_⟩;rw[br];refine⟨_,rfl,g,_,dx,_,rfl,ae,T.bO,T.dH,(by show 1<1000;decide),?_⟩;rw[bE,ay (by decide+kernel),br];refine⟨_,rfl,g,_,dx,_,rfl,ae,T.bO,T.n8,(by show 2<1000;decide),?_⟩;rw[bE,ay (by decide+kernel),ay (by decide+kernel),br];refine λnd hn=>?_;have nc:nd≠g:=λz=>by rw[z,ae]at hn;cases hn
 refine⟨_,rfl,g,_,dx,_,rfl,aj hn _ _ ae,T.bO,T.wz,(by show 3<1000;decide),?_⟩;rw[ay (by decide+kernel),ay (by decide+kernel),ay (by decide+kernel),br];refine⟨_,rfl,g,_,dx,_,rfl,ae,T.bO,T.dM,(by show 4<1000;decide),?_⟩;rw[bE,ay (by decide+kernel),ay (by decide+kernel),ay (by decide+kernel),ay (by decide+kernel),br];rw[af nc]at hn;refine q _ nd ⟨⟨dx,ae⟩,by rw[af nc,ae]⟩ hn λb o n e=>?_;rw[af n,af (al e hn),af n];exact e
def lJ (K:PySem.W.Frag) (t:Adr):Sp:=λvs H Q _=>∃(c a p dd:Addr) (n:Int) (F:Addr->Prop) (x:HSt),vs=[.ref c]/\CoP t H c a p dd (.ref p) n .non/\HoA K t H a F x/\¬F c/\x.now+x.ma<40000/\
 ∀(H':Hp) (F':Addr->Prop) (r g nd:Addr),HoA K t H' a F' {x with ma:=x.ma+1,di:=x.di++ [(r,[.str "mark",.int (x.ma+1)])]}->CoP t H' c a p dd (.ref p) n (.ref g)->PgO t H' g p nd .non .non .non->H g=none->H nd=none->¬F' c->¬F' g->¬F' nd->(∀b o,b≠c->¬F b->H b=some o->H' b=some o/\¬F' b)->Q (.int (x.ma+1)) H'
theorem mq (T:Txt K mg t):FnOk P w K mg base CX0 3 t.gF t.dD ["self"] (lJ K t):=by
 refine T.AB.okl lK λ_ _ _ s H vs Q E hr h=>?_;obtain⟨c,a,p,dd,n,F,x,rfl,C,A,nc,l,q⟩:=h;refine⟨_,(ac (aU (aq pX (au (pv 0) rfl) bf (ar _))
   (ai cx)
   aH)
   (ac (aU (aq cQ (au (pv 0) rfl) bf (ar _))
   (ai cx)
   aH)
   (ac (a9 (pv 0) (iS T.KO (ww T) hr.mo (by rfl) T.KP T.HG .nil aA (aa (au (pv 0) rfl) ah)) rfl)
   (ai (aC (bu (au (pv 0) rfl) T.aN T.p9 (ii T) hr.mo T.qm .nil aA))))))
  ,?_⟩
 obtain⟨dx,ho⟩:=C.ob;refine⟨_,rfl,c,_,dx,_,_,rfl,ho,T.aF,T.b8,rfl,rfl,_,rfl,oh rfl ?_⟩;unfold tU
 (try dsimp only)
 refine⟨_,rfl,c,_,dx,_,_,rfl,ho,T.aF,T.cT,rfl,rfl,_,rfl,bc (λz=>by cases z) ?_⟩
 (try dsimp only)
 refine⟨_,rfl,c,_,dx,_,_,rfl,ho,T.aF,T.cT,rfl,λg dg ng nd ngd=>?_⟩;have s1:=bN (aj (o:= .own g) nd) (o:= .ins t.cW dg []) ng;refine⟨g,dg,p,rfl,ae,λH2 no P2 nn kp=>⟨rfl,?_⟩⟩;have s2:Same H H2:=λb o e=>kp b o (al e ng) (s1 _ _ e);have gc:g≠c:=λz=>by rw[z,ho]at ng;cases ng
 have A2:=(A.same s2);refine⟨_,rfl,c,_,dx,_,rfl,s2 _ _ ho,T.aF,T.b8,(by show 6<1000;decide),?_⟩;rw[ay (by decide+kernel),ay (by decide+kernel),ay (by decide+kernel),ay (by decide+kernel),ay (by decide+kernel),iQ];have hc2:=s2 _ _ ho;obtain⟨o3,e3⟩:∃o,o=HO.ins t.a6 dx [("house",V.ref a),("first",.ref p),("rest",.ref p),("followed",.int n),("copied",.ref dd),("page",.ref g)]:=⟨_,rfl⟩;rw[<-e3];have A3:HoA K t (upd H2 c o3) a F x:=A2.upd nc λxs z=>by rw[hc2]at z;cases z
 have h3:upd H2 c o3 c=some o3:=ae;have k3:∀b o,b≠c->H2 b=some o->upd H2 c o3 b=some o:=λb o n e=>by rw[af n];exact e
 generalize upd H2 c o3=H3 at A3 h3 k3⊢;obtain⟨da,fa,ha,hm,_⟩:=A3.ins;subst e3;refine⟨_,rfl,c,_,dx,_,_,rfl,h3,T.aF,T.dN,rfl,a,da,fa,rfl,ha,hm _ (by decide+kernel),a,F,x,rfl,A3,l,λH4 F4 r A4 f4=>?_⟩;have nFg:¬F g:=A.out ng;have nFn:¬F no:=A.out (c7 s1 nn);obtain⟨dg2,hg2⟩:=P2.ob;have hg3:=k3 _ _ gc hg2;have hn3:=k3 no _ (λz=>by have h:=P2.no;rw[z,hc2]at h;cases h) P2.no;exact q H4 F4 r g no A4 ⟨⟨dx,(f4 _ _ nc h3).1⟩⟩ ⟨⟨dg2,(f4 _ _ nFg hg3).1⟩,(f4 _ _ nFn hn3).1⟩ ng (c7 s1 nn) (f4 _ _ nc h3).2 (f4 _ _ nFg hg3).2 (f4 _ _ nFn hn3).2 λb o n1 n2 e=>f4 b o n2 (k3 b o n1 (s2 _ _ e))
def vR (K:PySem.W.Frag) (t:Adr):Sp:=λvs H Q _=>∃(g a tk nd:Addr) (n kd:Int) (av e:V) (F:Addr->Prop) (x:HSt),vs=[.ref g,.ref a,.int n]/\PgO t H g tk nd .non .non .non/\¬F g/\¬F nd/\HoA K t H a F x/\TkAt t H tk kd av e/\okN kd av e/\¬F tk/\1<=n/\n<=1000/\x.st.kv.length<4096/\x.ks.length<4096/\(∀k∈x.ks,0<=k)/\(∀p∈x.st.kv,∃i:Int,p.2= .int i)/\
 ∀(H':Hp) (F':Addr->Prop) (r f:Addr) (v:V) (ts:List Tp) (a':V) (R:Int->Bool),HoA K t H' a F' x->(∀b o,b≠g->¬F b->H b=some o->H' b=some o/\¬F' b)->¬F' g->PgO t H' g tk nd (.ref f) v .non->¬F' nd->H' f=some (.lst (ts.map λe=>V.ref e.p))->¬F' f->(∀e∈ts,H' e.p=some (.tup [.int e.k,e.v])/\¬F' e.p)->(¬F f->H f=none)->AskU t H' F' x.st kd n av e v ts a' R->Q .non H'
theorem wv (T:Txt K mg t):FnOk P w K mg base CX0 9 t.qA t.kL ["self","house","many"] (vR K t):=by
 refine T.HP.okl sc_Page__read λ_ _ _ s H vs Q E hr h=>?_;obtain⟨g,a,tk,nd,n,kd,av,e,F,x,rfl,Pg,ng,nn,A,TK,on,nt,n1,n2,l4,lk,k0,iv,q⟩:=h;refine⟨_,(ac (az (i:=3) sc_Page__read.nd rfl (Or.inl rfl) (aM (EL T) hr.mo (by rfl) T.Ip T.FW.kp T.BC.choose_spec.1 T.BC.choose_spec.2 aA (aa (pv 1) (aa (au (pv 0) rfl) (aa (pv 2) ah)))))
   (ac (a9 (pv 0) (aW bU (pv 3) ag (λ_ _=>rfl)) rfl)
   (ai (a9 (pv 0) (aW bU (pv 3) ag (λ_ _=>rfl)) rfl))))
  ,?_⟩
 obtain⟨dx,ho⟩:=Pg.ob;refine⟨_,rfl,_,rfl,g,_,dx,_,_,rfl,ho,T.bO,T.wA,rfl,_,rfl,a,tk,n,kd,av,e,F,x,rfl,A,TK,on,nt,n1,n2,l4,lk,k0,iv,λH2 F2 r f v ts a' R A2 f2 pg U=>?_⟩;obtain⟨h2,ng2⟩:=f2 _ _ ng ho;obtain⟨hn2,nn2⟩:=f2 _ _ nn Pg.no;have rg:r≠g:=λz=>by have h:=pg.tu;rw[z,h2]at h;cases h
 have fg:f≠g:=λz=>by have h:=pg.li;rw[z,h2]at h;cases h
 have ndg:nd≠g:=λz=>by rw[z,h2]at hn2;cases hn2
 have tg:∀u∈ts,u.p≠g:=λu hu z=>by have h:=(pg.rw u hu).1;rw[z,h2]at h;cases h
 refine⟨_,rfl,r,_,_,_,rfl,rfl,SqT.of pg.tu,rfl,_,rfl,g,_,dx,_,rfl,h2,T.bO,T.dH,(by show 5<1000;decide),?_⟩;rw[ay (by decide+kernel),iQ];refine⟨_,rfl,r,_,_,_,rfl,rfl,SqT.of (by rw[af rg];exact pg.tu),rfl,_,rfl,g,_,dx,_,rfl,ae,T.bO,T.n8,(by show 5<1000;decide),?_⟩;rw[bE,ay (by decide+kernel),ay (by decide+kernel),iQ];have A3:=A2.upd (o:= .ins t.cW dx [("asked",.ref tk),("found",.ref f),("ahead",v),("noted",.ref nd),("closing",.non)]) ng2 λxs z=>by rw[h2]at z;cases z
 refine q _ F2 r f v ts a' R A3 (λb o n1 n2 e=>⟨by rw[af n1];exact(f2 b o n2 e).1,(f2 b o n2 e).2⟩) ng2 ⟨⟨dx,ae⟩,by rw[af ndg];exact hn2⟩ nn2 (by rw[af fg];exact pg.li) pg.ng.2 (λu hu=>⟨by rw[af (tg u hu)];exact(pg.rw u hu).1,(pg.rw u hu).2⟩) pg.ng.1 ?_;refine⟨U.rest.imp id λ⟨q',h1,h2',h3⟩=>⟨q',h1,?_,h3⟩,U.less,U.nd,U.me,U.tell,U.far⟩;obtain⟨dq,fq,hq,tq⟩:=h2';have qg:q'≠g:=λz=>by
  rw[z,h2]at hq;rw[<-(HO.ins.inj (Option.some.inj hq)).2.2]at tq;have h:(none:Option V)=some _:=tq.at_;cases h
 exact⟨dq,fq,by rw[af qg];exact hq,tq⟩
theorem AskU.same {kd:Int} {e a':V} (U:AskU t H F st kd n av e v ts a' R) (s:Same H H'):AskU t H' F st kd n av e v ts a' R:=
 ⟨U.rest.imp id λ⟨q,h1,h2,h3⟩=>⟨q,h1,h2.same s,h3⟩,U.less,U.nd,U.me,U.tell,U.far⟩
theorem PgO.same {g tk nd:Addr} {f a c:V} (P:PgO t H g tk nd f a c) (s:Same H H'):PgO t H' g tk nd f a c:=by
 obtain⟨dx,ho⟩:=P.ob;exact⟨⟨dx,s _ _ ho⟩,s _ _ P.no⟩
def lI (K:PySem.W.Frag) (t:Adr):Sp:=λvs H Q _=>∃(c a p dd g nd:Addr) (rest:V) (m n kd:Int) (av e:V) (F:Addr->Prop) (x:HSt),vs=[.ref c,.int n]/\CoP t H c a p dd rest m (.ref g)/\PgO t H g p nd .non .non .non/\¬F c/\¬F g/\¬F nd/\HoA K t H a F x/\TkAt t H p kd av e/\okN kd av e/\¬F p/\1<=n/\n<=1000/\x.st.kv.length<4096/\x.ks.length<4096/\(∀k∈x.ks,0<=k)/\(∀p∈x.st.kv,∃i:Int,p.2= .int i)/\
 ∀(H':Hp) (F':Addr->Prop) (f l:Addr) (v:V) (ts:List Tp) (a':V) (R:Int->Bool),HoA K t H' a F' x->(∀b o,b≠g->¬F b->H b=some o->H' b=some o/\¬F' b)->¬F' g->PgO t H' g p nd (.ref f) v .non->¬F' nd->H' f=some (.lst (ts.map λe=>V.ref e.p))->¬F' f->(∀e∈ts,H' e.p=some (.tup [.int e.k,e.v])/\¬F' e.p)->(¬F f->H f=none)->AskU t H' F' x.st kd n av e v ts a' R->H' l=some (.lst (ts.map λe=>V.ref e.p))->¬F' l->l≠f->(∀b o,b≠g->¬F b->H b=some o->b≠l)->Q (.ref l) H'
theorem mj (T:Txt K mg t):FnOk P w K mg base CX0 10 t.gE t.b5 ["self","many"] (lI K t):=by
 refine T.AA.ok sc_Copier__read_page (λvs H Q E h=>?_) (λcdv A outer s H vs Q E hr h=>?_)
 .obtain⟨c,a,p,dd,g,nd,rest,m,n,kd,av,e,F,x,rfl,_⟩:=h;rfl
 .obtain⟨c,a,p,dd,g,nd,rest,m,n,kd,av,e,F,x,rfl,C,Pg,nc,ng,nn,A,TK,on,nt,n1,n2,l4,lk,k0,iv,q⟩:=h;refine⟨_,(ac (az (i:=2) sc_Copier__read_page.nd rfl (Or.inl rfl) (au (pv 0) rfl))
   (ac (aU (PW.pt (hV (aq cQ (pv 2) bf (ar _)) (fv (aq pX (au (pv 2) rfl) bf (ar _)))))
   (ai cx)
   aH)
   (ac (aR (aQ (pv 2) T.bO T.Hg (wv T) hr.mo T.HF .nil aA (aa (au (pv 0) rfl) (aa (pv 1) ah))))
   (ai (aC (dU ql (by rfl) T.D6 yL (aa (au (pv 2) rfl) ah)))))))
   ,?_⟩
  obtain⟨dx,ho⟩:=C.ob;obtain⟨dg,hg⟩:=Pg.ob;have cg:c≠g:=λz=>by rw[z,hg]at ho;exact absurd (congrArg List.length (HO.ins.inj (Option.some.inj ho)).2.2) (by show ¬5=6;decide)
  refine⟨_,rfl,c,_,dx,_,_,rfl,ho,T.aF,T.b8,rfl,?_⟩;refine⟨_,rfl,rfl,_,rfl,bc (λz=>by cases z) ⟨_,rfl,g,_,dg,_,_,rfl,hg,T.bO,T.dH,rfl,rfl,_,rfl,oh rfl ?_⟩⟩;unfold tU
  (try dsimp only)
  refine⟨_,rfl,g,dg,_,rfl,hg,(by rfl),_,rfl,c,_,dx,_,_,rfl,ho,T.aF,T.dN,rfl,_,rfl,g,a,p,nd,n,kd,av,e,F,x,rfl,Pg,ng,nn,A,TK,on,nt,n1,n2,l4,lk,k0,iv,λH2 F2 r f v ts a' R A2 f2 ng2 P2 nn2 hf nf tu of U=>?_⟩;obtain⟨dg2,hg2⟩:=P2.ob;refine⟨_,rfl,g,_,dg2,_,_,rfl,hg2,T.bO,T.dH,rfl,f,_,rfl,.inl (SqL.of hf),λl nl=>?_⟩;have s3:=aj (o:= .lst (ts.map λe=>V.ref e.p)) nl;exact q _ F2 f l v ts a' R (A2.same s3) (λb o n1 n2 e=>⟨s3 _ _ (f2 b o n1 n2 e).1,(f2 b o n1 n2 e).2⟩) ng2 (P2.same s3) nn2 (s3 _ _ hf) nf (λu hu=>⟨s3 _ _ (tu u hu).1,(tu u hu).2⟩) of (U.same s3) ae (A2.out nl) (λz=>by rw[z,hf]at nl;cases nl) λb o n1 n2 e z=>by have h:=(f2 b o n1 n2 e).1;rw[z,nl]at h;cases h
def k7 (K:PySem.W.Frag) (t:Adr):Sp:=λvs H Q _=>∃(c a p dd g nd f:Addr) (rest v:V) (m:Int) (F:Addr->Prop) (x:HSt),vs=[.ref c]/\CoP t H c a p dd rest m (.ref g)/\PgO t H g p nd (.ref f) v .non/\¬F c/\¬F g/\¬F nd/\HoA K t H a F x/\x.now+x.ma<40000/\
 ∀(H':Hp) (F':Addr->Prop) (r:Addr),HoA K t H' a F' {x with ma:=x.ma+1,di:=x.di++ [(r,[.str "mark",.int (x.ma+1)])]}->PgO t H' g p nd (.ref f) v (.int (x.ma+1))->¬F' g->¬F' nd->(∀b o,b≠g->¬F b->H b=some o->H' b=some o/\¬F' b)->Q (.int (x.ma+1)) H'
theorem lh (T:Txt K mg t):FnOk P w K mg base CX0 2 t.fX t.cV ["self"] (k7 K t):=by
 refine T.Ao.okl sc_Copier__close_page λ_ _ _ s H vs Q E hr h=>?_;obtain⟨c,a,p,dd,g,nd,f,rest,v,m,F,x,rfl,C,Pg,nc,ng,nn,A,l,q⟩:=h;refine⟨_,(ac (az (i:=1) sc_Copier__close_page.nd rfl (Or.inl rfl) (au (pv 0) rfl))
   (ac (aU (PW.pt (hV (aq cQ (pv 1) bf (ar _)) (hV (aq cQ (au (pv 1) rfl) bf (ar _)) (fv (aq pX (au (pv 1) rfl) bf (ar _))))))
   (ai cx)
   aH)
   (ac (a9 (pv 1) (bu (au (pv 0) rfl) T.aN T.p9 (ii T) hr.mo T.qm .nil aA) rfl)
   (ai (aC (au (pv 1) rfl))))))
  ,?_⟩
 obtain⟨dx,ho⟩:=C.ob;obtain⟨dg,hg⟩:=Pg.ob;have cg:c≠g:=λz=>by rw[z,hg]at ho;exact absurd (congrArg List.length (HO.ins.inj (Option.some.inj ho)).2.2) (by show ¬5=6;decide)
 have ndg:nd≠g:=λz=>by have h:=Pg.no;rw[z,hg]at h;cases h
 refine⟨_,rfl,c,_,dx,_,_,rfl,ho,T.aF,T.b8,rfl,?_⟩;refine⟨_,rfl,rfl,_,rfl,bc (λz=>by cases z) ⟨_,rfl,g,_,dg,_,_,rfl,hg,T.bO,T.dH,rfl,rfl,_,rfl,bc (λz=>by cases z) ⟨_,rfl,g,_,dg,_,_,rfl,hg,T.bO,T.dM,rfl,rfl,_,rfl,oh rfl ?_⟩⟩⟩;unfold tU
 (try dsimp only)
 obtain⟨da,fa,ha,hm,_⟩:=A.ins;refine⟨_,rfl,c,_,dx,_,_,rfl,ho,T.aF,T.dN,rfl,a,da,fa,rfl,ha,hm _ (by decide+kernel),a,F,x,rfl,A,l,λH2 F2 r A2 f2=>?_⟩;obtain⟨hg2,ng2⟩:=f2 _ _ ng hg;refine⟨_,rfl,g,_,dg,_,rfl,hg2,T.bO,T.dM,(by show 5<1000;decide),?_⟩;rw[ay (by decide+kernel),ay (by decide+kernel),ay (by decide+kernel),ay (by decide+kernel),iQ];refine⟨_,rfl,g,_,dg,_,_,rfl,ae,T.bO,T.dM,rfl,?_⟩;exact q _ F2 r (A2.upd ng2 λxs z=>by rw[hg2]at z;cases z) ⟨⟨dg,ae⟩,by rw[af ndg];exact(f2 _ _ nn Pg.no).1⟩ ng2 (f2 _ _ nn Pg.no).2 λb o n1 n2 e=>⟨by rw[af n1];exact(f2 b o n2 e).1,(f2 b o n2 e).2⟩
theorem yu:∀{more acc:List (Int×V)},((acc++more).map (·.1)).Nodup->rB (aJ acc) (aJ more)=aJ (acc++more)
 | [],acc,_=>by rw[ZL];rfl
 |p::r,acc,h=>by
  have n:aO acc p.1=none:=by
   cases c:aO acc p.1 with
   |none=>rfl
   |some w=>
    rw[Qc,XJ]at h;exact absurd rfl (h.2.2 p.1 (Qh.mpr ⟨(p.1,w),iV c,rfl⟩) p.1 Q9)
  show rB (bv (aJ acc) (Sum.inl p.1) p.2) (aJ r)=_;rw[gQ,zu p.2 n,yu (by rw[Ql];exact h),Ql];rfl
def qL (K:PySem.W.Frag) (t:Adr):Sp:=λvs H Q _=>∃(g tk nd f:Addr) (v cl:V) (ts:List Tp),vs=[.ref g]/\PgO t H g tk nd (.ref f) v cl/\H f=some (.lst (ts.map λe=>V.ref e.p))/\(∀e∈ts,H e.p=some (.tup [.int e.k,e.v]))/\(ts.map (·.k)).Nodup/\
 ∀(H':Hp) (r:Addr),Same H H'->H r=none->H' r=some (.dK (aJ (ts.map Tp.kv)))->Q (.ref r) H'
theorem rn (T:Txt K mg t):FnOk P w K mg base CX0 1 t.kU t.gk ["self"] (qL K t):=by
 refine T.DY.okl sc_Page__outcome λ_ _ _ s H vs Q E hr h=>?_;obtain⟨g,tk,nd,f,v,cl,ts,rfl,Pg,hf,tu,nt,q⟩:=h;refine⟨_,(ac (az (i:=1) sc_Page__outcome.nd rfl (Or.inl rfl) (dU (vg hr.hd) (by rfl) T.AC tN (aa (au (pv 0) rfl) ah)))
   (ac (yh (hZ PassesOwn.never rfl (G2 (uC QQ Xa PySem.F.type_dict_values xh (au (pv 0) rfl))) (bF (i:=2) sc_Page__outcome.nd rfl (Or.inl rfl))
   (ai cx)))
   (ai (aC (pv 1)))))
  ,?_⟩
 obtain⟨dg,hg⟩:=Pg.ob;refine⟨_,rfl,g,_,dg,_,_,rfl,hg,T.bO,T.dH,rfl,f,ts.map λu=>(u.p,Sum.inl u.k,u.v),rfl,by rw[Qu];exact SqL.of hf,(λu' hu'=>by obtain⟨u,hu,rfl⟩:=Qh.mp hu';exact SqT.of (tu u hu)),λr nr=>?_⟩;rw[Qu];have el:ts.map ((λx:Addr×Key×V=>x.2)∘λu:Tp=>(u.p,(Sum.inl u.k:Key),u.v))=aJ (ts.map Tp.kv):=by unfold aJ;rw[Qu];rfl
 rw[el,show rB [] (aJ (ts.map Tp.kv))=_ from yu (acc:=[]) (by rw[ZN,Qu];exact nt),ZN];have s1:=aj (o:= .dK (aJ (ts.map Tp.kv))) nr;have h1:upd H r (.dK (aJ (ts.map Tp.kv))) r=some (.dK (aJ (ts.map Tp.kv))):=ae;generalize upd H r (.dK (aJ (ts.map Tp.kv)))=H1 at s1 h1⊢;have hn1:=s1 _ _ Pg.no;refine⟨nd,_,hn1,_,rfl,g,_,dg,_,_,rfl,s1 _ _ hg,T.bO,T.wz,rfl,.inr (.inr (.inl ⟨rfl,.inl ⟨_,hn1⟩⟩)),nd,_,rfl,rfl,hn1,λvw nv=>⟨vw,nd,_,rfl,ae,aj nv _ _ hn1,λob=>?_⟩⟩;have s2:=aj (o:=vwV vw nd) nv;generalize upd H1 vw (vwV vw nd)=H2 at s2⊢;refine Ft (g:=mB 2) (tb:=λ_ _ _=>False) (rt:=λ_ _=>True) (ob:=ob) (d:=nd) (kvs:=[]) (λi σ H'=>σ=[some (.ref g),some (.ref r),none]/\H'=upd H2 nd (.frz ob (.dK []))) ⟨rfl,rfl⟩ (λi σ H' _ w=>by rw[w.2];exact ae) (λi k v σ H' hk w=>by cases hk) (λσ H' w=>?_);obtain⟨rfl,rfl⟩:=w;refine⟨ob,ae,?_⟩;rw[bE,Ec (s2 _ _ hn1)];exact⟨_,rfl,q _ r (s1.trans s2) nr (s2 _ _ h1)⟩
def jW (K:PySem.W.Frag) (t:Adr):Sp:=λvs H Q _=>∃(c a p dd g tk nd f:Addr) (rest v cl:V) (m z:Int) (kv:List (Int×V)) (ts:List Tp),vs=[.ref c,.int z]/\CoP t H c a p dd rest m (.ref g)/\PgO t H g tk nd (.ref f) v cl/\(∃y:Int,cl= .int y)/\H dd=some (.dK (aJ kv))/\dd≠c/\H f=some (.lst (ts.map λe=>V.ref e.p))/\(∀e∈ts,H e.p=some (.tup [.int e.k,e.v]))/\(ts.map (·.k)).Nodup/\kv=[]/\ts.length<=400/\
 (cl≠ .int z->Q .non H)/\(cl= .int z->∀(H':Hp),CoP t H' c a p dd v m .non->H' dd=some (.dK (aJ (ts.map Tp.kv)))->(∀b o,b≠c->b≠dd->H b=some o->H' b=some o)->Q .non H')
theorem kr (T:Txt K mg t):FnOk P w K mg base CX0 2 t.fc t.cu ["self","number"] (jW K t):=by
 refine T.y6.okl sc_Copier__follow_mark λ_ _ _ s H vs Q E hr h=>?_;obtain⟨c,a,p,dd,g,tk,nd,f,rest,v,cl,m,z,kv,ts,rfl,C,Pg,⟨y,rfl⟩,hd,dc,hf,tu,nt,rfl,lt,q1,q2⟩:=h;refine⟨_,(ac (az (i:=2) sc_Copier__follow_mark.nd rfl (Or.inl rfl) (au (pv 0) rfl))
   (ac (aU (PW.pt (hV (aq cQ (pv 2) bf (ar _)) (fv (aq xb (au (pv 2) rfl) (pv 1) (ar _)))))
   (ai m8)
   aH)
   (ac (aR (dG QQ PySem.F.slot_dict_update PySem.F.type_dict_update C2 (au (pv 0) rfl) (aa (bu (pv 2) T.bO T.DO (rn T) hr.mo T.DU .nil aA) ah)))
   (ac (a9 (pv 0) (au (pv 2) rfl) rfl)
   (ai (a9 (pv 0) bf rfl))))))
  ,?_⟩
 obtain⟨dx,ho⟩:=C.ob;obtain⟨dg,hg⟩:=Pg.ob;refine⟨_,rfl,c,_,dx,_,_,rfl,ho,T.aF,T.b8,rfl,?_⟩;refine⟨_,rfl,rfl,_,rfl,bc (λz=>by cases z) ⟨_,rfl,g,_,dg,_,_,rfl,hg,T.bO,T.dM,rfl,_,rfl,rfl,_,rfl,?_⟩⟩;by_cases cz:y=z
 case neg=>
  rw[decide_eq_false λh=>cz (V.int.inj h)];exact c6 (q1 λh=>cz (V.int.inj h))
 subst cz;refine oh rfl ?_;unfold tU
 (try dsimp only)
 refine⟨_,rfl,c,_,dx,_,_,rfl,ho,T.aF,T.fA,rfl,.inr (.inr (.inl ⟨rfl,.inl ⟨_,hd⟩⟩)),_,rfl,g,dg,_,rfl,hg,(by rfl),g,tk,nd,f,v,.int y,ts,rfl,Pg,hf,tu,nt,λH2 o s2 no ho2=>?_⟩;have od:dd≠o:=al hd no;refine⟨dd,o,_,_,rfl,rfl,od,s2 _ _ hd,ho2,(by rw[cq,cq,Q0];have:1000<=sizeLine:=(by decide);simp only[ZZ];lia),?_⟩;rw[show rB (aJ []) (aJ (ts.map Tp.kv))=_ from yu (acc:=[]) (by rw[ZN,Qu];exact nt),ZN];have hc3:upd H2 dd (.dK (aJ (ts.map Tp.kv))) c=some (.ins t.a6 dx [("house",.ref a),("first",.ref p),("rest",rest),("followed",.int m),("copied",.ref dd),("page",.ref g)]):=by rw[af (Ne.symm dc)];exact s2 _ _ ho
 have hg3:upd H2 dd (.dK (aJ (ts.map Tp.kv))) g=some (.ins t.cW dg [("asked",.ref tk),("found",.ref f),("ahead",v),("noted",.ref nd),("closing",.int y)]):=by rw[af λz=>by rw[z,hd]at hg;cases hg];exact s2 _ _ hg
 have hd3:upd H2 dd (.dK (aJ (ts.map Tp.kv))) dd=some (.dK (aJ (ts.map Tp.kv))):=ae;have k3:∀b o,b≠dd->H b=some o->upd H2 dd (.dK (aJ (ts.map Tp.kv))) b=some o:=λb o n e=>by rw[af n];exact s2 _ _ e
 generalize upd H2 dd (.dK (aJ (ts.map Tp.kv)))=H3 at hc3 hg3 hd3 k3⊢
 (try dsimp only)
 refine⟨_,rfl,g,_,dg,_,_,rfl,hg3,T.bO,T.n8,rfl,_,rfl,c,_,dx,_,rfl,hc3,T.aF,T.cT,(by show 6<1000;decide),?_⟩;rw[ay (by decide+kernel),ay (by decide+kernel),iQ];refine⟨_,rfl,c,_,dx,_,rfl,ae,T.aF,T.b8,(by show 6<1000;decide),?_⟩;rw[bE,ay (by decide+kernel),ay (by decide+kernel),ay (by decide+kernel),ay (by decide+kernel),ay (by decide+kernel),iQ];exact q2 rfl _ ⟨⟨dx,ae⟩⟩ (by rw[af dc];exact hd3) λb o n1 n2 e=>by rw[af n1];exact k3 b o n2 e
structure CoF (t:Adr) (H:Hp) (c a p dd g tk nd f:Addr) (rest v:V) (n y:Int) (ts:List Tp):Prop where
 C:CoP t H c a p dd rest n (.ref g)
 P:PgO t H g tk nd (.ref f) v (.int y)
 cd:H dd=some (.dK [])
 hf:H f=some (.lst (ts.map λe=>V.ref e.p))
 tu:∀e∈ts,H e.p=some (.tup [.int e.k,e.v])
structure CoE (t:Adr) (H:Hp) (c a p dd:Addr) (v:V) (n:Int) (ts:List Tp):Prop where
 C:CoP t H c a p dd v n .non
 cd:H dd=some (.dK (aJ (ts.map Tp.kv)))
theorem CoF.same {dd g tk nd f:Addr} {rest:V} {y:Int} (S:CoF t H c a p dd g tk nd f rest v n y ts) (s:Same H H'):CoF t H' c a p dd g tk nd f rest v n y ts:=
 ⟨S.C.same s,S.P.same s,s _ _ S.cd,s _ _ S.hf,λe he=>s _ _ (S.tu e he)⟩
def pJ (K:PySem.W.Frag) (t:Adr):Sp:=λvs H Q _=>∃(c a p dd g tk nd f:Addr) (rest v:V) (n y z:Int) (ts:List Tp) (F:Addr->Prop) (x:HSt) (ms:List Int),vs=[.ref c,.int z]/\CoF t H c a p dd g tk nd f rest v n y ts/\(ts.map (·.k)).Nodup/\ts.length<=400/\HoA K t H a F x/\¬F c/\¬F dd/\0<=n/\0<=z/\((x.di.drop n.toNat).take z.toNat).map (·.2)=ms.map (λi=> [V.str "mark",V.int i])/\y∉ms.dropLast/\ms.length<=1000/\
 (ms.getLast?≠some y->∀H',(∀b o,b≠c->b≠dd->H b=some o->H' b=some o)->CoF t H' c a p dd g tk nd f rest v (n+ms.length) y ts->Q (.int (n+ms.length)) H')/\
 (ms.getLast?=some y->∀H',(∀b o,b≠c->b≠dd->H b=some o->H' b=some o)->CoE t H' c a p dd v (n+ms.length) ts->Q (.int (n+ms.length)) H')
theorem pZ (T:Txt K mg t):FnOk P w K mg base CX0 3 t.jT t.fF ["self","steps"] (pJ K t):=by
 refine T.DK.okl sc_Copier__follow λ_ _ _ s H vs Q E hr h=>?_;obtain⟨c,a,p,dd,g,tk,nd,f,rest,v,n,y,z,ts,F,x,ms,rfl,S,nt,lt,A,nc,nd',n0,z0,em,ny,lm,q1,q2⟩:=h;refine⟨_,(ac (az (i:=2) sc_Copier__follow.nd rfl (Or.inl rfl) (eI gH (aQ (au (pv 0) rfl) T.aN T.iw (gf T) hr.mo T.vm .nil aA (aa (au (pv 0) rfl) ah)) iR (fL (aE (nJ rfl) (by rfl) T.D5 yK (aa (pv 1) (aa ag ah))))))
   (ac (hZ PassesOwn.never rfl (cZ (pv 2)) (bF (i:=3) sc_Copier__follow.nd rfl (Or.inl rfl))
   (ac (aU (aq bL (aW bU (pv 3) ag (λ_ _=>rfl)) gb (ar _))
   (ai (aR (aQ (pv 0) T.aF T.y3 (kr T) hr.mo T.y4 .nil aA (aa (aW bU (pv 3) ag (λ_ _=>rfl)) ah))))
   (ai cx))
   (ai (gO (pv 0) ag u7))))
   (ai (aC (au (pv 0) rfl)))))
  ,?_⟩
 obtain⟨dx,ho⟩:=S.C.ob;obtain⟨da,fa,ha,hm,_⟩:=A.ins;refine⟨_,rfl,c,_,dx,_,_,rfl,ho,T.aF,T.dN,rfl,a,da,fa,rfl,ha,hm _ (by decide+kernel),_,rfl,c,_,dx,_,_,rfl,ho,T.aF,T.bB,rfl,a,_,F,x,rfl,A,n0,λH1 r s1 nr hr=>?_⟩;refine⟨_,rfl,_,_,rfl,_,rfl,r,_,rfl,SqL.of hr,λp1 np1=>?_⟩;have ez:(if(0:Int)>z then(0:Int)else z)=z:=by rw[if_neg (by lia)]
 rw[ez,mK z0,<-Z7];obtain⟨rs,ers⟩:∃rs,(x.di.drop n.toNat).take z.toNat=rs:=⟨_,rfl⟩;rw[ers]at em⊢;have rd:∀e∈rs,H1 e.1=some (.tup e.2):=λe he=>(A.same s1).di e (ZD (QY (ers▸he)));have lr:rs.length=ms.length:=by simpa using congrArg List.length em
 have s2:=s1.trans (aj (o:= .lst (rs.map λe=>V.ref e.1)) np1);have h2:upd H1 p1 (.lst (rs.map λe=>V.ref e.1)) p1=some (.lst (rs.map λe=>V.ref e.1)):=ae;have rd2:∀e∈rs,upd H1 p1 (.lst (rs.map λe=>V.ref e.1)) e.1=some (.tup e.2):=λe he=>aj np1 _ _ (rd e he);generalize upd H1 p1 (.lst (rs.map λe=>V.ref e.1))=H2 at s2 h2 rd2⊢;have pc:p1≠c:=λz=>by rw[z,s2 _ _ ho]at h2;cases h2
 have pd:p1≠dd:=λz=>by rw[z,s2 _ _ S.cd]at h2;cases h2
 refine⟨_,rfl,p1,rfl,⟨_,SqL.of h2⟩,nC (K:=K) (a:=p1) (xs:=rs.map λe=>V.ref e.1) (λi σ H'=>∃v3:Option V,σ=[some (.ref c),some (.int z),some (.ref p1),v3]/\(∀b o,b≠c->b≠dd->H2 b=some o->H' b=some o)/\(if(ms.take i).getLast?=some y then CoE t H' c a p dd v (n+i) ts else CoF t H' c a p dd g tk nd f rest v (n+i) y ts)) ?_ (λi σ H' _ w=>by obtain⟨_,_,k,_⟩:=w;exact SqL.of (k _ _ pc pd h2)) (λi u σ H' hu w'=>?_) (λσ H' w'=>?_)⟩
 .refine⟨none,rfl,λ_ _ _ _ h=>h,?_⟩;rw[List.take_zero,if_neg (by simp)];have:=S.same s2;simpa using this
 .obtain⟨v3,rfl,kp,w⟩:=w';obtain⟨e,rfl,ee⟩:∃e,u=V.ref e.1/\rs[i]?=some e:=by
   rw[Qn]at hu;cases c:rs[i]? with
   |none=>rw[c]at hu;cases hu
   |some e=>rw[c]at hu;cases hu;exact⟨e,rfl,rfl⟩
  obtain⟨k,ek,e2⟩:∃k,ms[i]?=some k/\e.2=[V.str "mark",V.int k]:=by
   have h:=congrArg (λl:List (List V)=>l[i]?) em;rw[Qn,Qn,ee]at h;cases c:ms[i]? with
   |none=>rw[c]at h;cases h
   |some k=>rw[c]at h;exact⟨k,rfl,Option.some.inj h⟩
  have hi:=(Q2.mp ek).1;have no:(ms.take i).getLast?≠some y:=λh=>ny (by
   have h1:=List.mem_of_getLast? h;obtain⟨j,hj,ej⟩:=Qz h1;rw[Q8]at hj;rw[Zt]at ej;rw[Zs];exact⟨j,by rw[List.length_dropLast];lia,by rw[List.getElem_dropLast];exact ej⟩)
  rw[if_neg no]at w;have gl:(ms.take (i+1)).getLast?=some k:=by rw[Qr,ek];simp
  rw[gl];have te:H' e.1=some (.tup [.str "mark",.int k]):=by
   have h:=rd2 e (Q1 ee);rw[e2]at h;exact kp _ _ (λz=>by rw[z,s2 _ _ ho]at h;cases h) (λz=>by rw[z,s2 _ _ S.cd]at h;cases h) h
  obtain⟨dx',ho'⟩:=w.C.ob;have dc:dd≠c:=λz=>by have h:=w.cd;rw[z,ho']at h;cases h
  unfold mB
  (try dsimp only)
  refine b3 (λσ H3=>σ=[some (.ref c),some (.int z),some (.ref p1),some (.ref e.1)]/\(∀b o,b≠c->b≠dd->H' b=some o->H3 b=some o)/\(if k=y then CoE t H3 c a p dd v (n+i) ts else CoF t H3 c a p dd g tk nd f rest v (n+i) y ts)) (λnx go=>?_) (λσ H3 w3=>?_)
  .refine⟨_,rfl,e.1,_,_,_,rfl,rfl,SqT.of te,rfl,rfl,_,rfl,fS rfl ⟨_,rfl,c,dx',_,rfl,ho',(by rfl),_,rfl,e.1,_,_,_,rfl,rfl,SqT.of te,rfl,c,a,p,dd,g,tk,nd,f,rest,v,.int y,_,k,[],ts,rfl,w.C,w.P,⟨y,rfl⟩,w.cd,dc,w.hf,w.tu,nt,rfl,lt,λh=>?_,λh H3 C3 d3 k3=>?_⟩⟩
   .exact go _ _ ⟨rfl,λ_ _ _ _ h=>h,by rw[if_neg λz=>h (by rw[z])];exact w⟩
   .exact go _ _ ⟨rfl,k3,by rw[if_pos (V.int.inj h).symm];exact⟨C3,d3⟩⟩
  obtain⟨rfl,k3,w3⟩:=w3;have en:(n+(i:Int))+1=n+((i+1:Nat):Int):=by lia
  have kp3:∀{o:HO} b u,b≠c->b≠dd->H2 b=some u->upd H3 c o b=some u:=λ{o} b u n1 n2 e=>by rw[af n1];exact k3 b u n1 n2 (kp b u n1 n2 e)
  by_cases hk:k=y
  .rw[if_pos hk]at w3;obtain⟨d3,h3⟩:=w3.C.ob;refine⟨_,rfl,c,_,d3,_,_,rfl,h3,T.aF,T.bB,rfl,_,_,rfl,rfl,d3,_,h3,(by show 6<1000;decide),?_⟩;rw[ay (by decide+kernel),ay (by decide+kernel),ay (by decide+kernel),iQ,en];exact⟨_,rfl,kp3,by rw[if_pos (by rw[hk])];exact⟨⟨⟨d3,ae⟩⟩,by rw[af dc];exact w3.cd⟩⟩
  .rw[if_neg hk]at w3;obtain⟨d3,h3⟩:=w3.C.ob;refine⟨_,rfl,c,_,d3,_,_,rfl,h3,T.aF,T.bB,rfl,_,_,rfl,rfl,d3,_,h3,(by show 6<1000;decide),?_⟩;rw[ay (by decide+kernel),ay (by decide+kernel),ay (by decide+kernel),iQ,en];have oth:∀{o:HO} b u,b≠c->H3 b=some u->upd H3 c o b=some u:=λ{o} b u n1 e=>by rw[af n1];exact e
   obtain⟨dg,hg⟩:=w3.P.ob;have gc:g≠c:=λz=>by rw[z,h3]at hg;exact absurd (congrArg List.length (HO.ins.inj (Option.some.inj hg)).2.2) (by show ¬6=5;decide)
   refine⟨_,rfl,kp3,?_⟩;rw[if_neg λh=>hk (Option.some.inj h)];exact⟨⟨⟨d3,ae⟩⟩,⟨⟨dg,oth _ _ gc hg⟩,oth _ _ (λz=>by have h:=w3.P.no;rw[z,h3]at h;cases h) w3.P.no⟩,oth _ _ dc w3.cd,oth _ _ (λz=>by have h:=w3.hf;rw[z,h3]at h;cases h) w3.hf,λe he=>oth _ _ (λz=>by have h:=w3.tu e he;rw[z,h3]at h;cases h) (w3.tu e he)⟩
 .obtain⟨v3,rfl,kp,w⟩:=w';rw[Q0,lr,QF]at w;have kp':∀b o,b≠c->b≠dd->H b=some o->H' b=some o:=λb o n1 n2 e=>kp b o n1 n2 (s2 _ _ e);by_cases gy:ms.getLast?=some y
  .rw[if_pos gy]at w;obtain⟨dx',ho'⟩:=w.C.ob;exact⟨_,rfl,c,_,dx',_,_,rfl,ho',T.aF,T.bB,rfl,q2 gy H' kp' w⟩
  .rw[if_neg gy]at w;obtain⟨dx',ho'⟩:=w.C.ob;exact⟨_,rfl,c,_,dx',_,_,rfl,ho',T.aF,T.bB,rfl,q1 gy H' kp' w⟩
def sJ (K:PySem.W.Frag) (t:Adr):Sp:=λvs H Q _=>∃(c dx a p:Addr) (F:Addr->Prop) (x:HSt),vs=[.ref c,.ref a,.ref p,.non]/\H c=some (.ins t.a6 dx [])/\HoA K t H a F x/\
 ∀H' dd,CoP t H' c a p dd (.ref p) x.di.length .non->H' dd=some (.dK [])->H dd=none->(∀b o,b≠c->H b=some o->H' b=some o)->Q .non H'
theorem tj (T:Txt K mg t):FnOk P w K mg base CX0 2 t.mY t.eY ["self","house","token","stopped"] (sJ K t):=by
 refine T.F7.ok sc_Copier__init (λvs H Q E h=>?_) (λcdv A outer s H vs Q E hr h=>?_)
 .obtain⟨c,dx,a,p,F,x,rfl,_⟩:=h;rfl
 .obtain⟨c,dx,a,p,F,x,rfl,hc,A,q⟩:=h;refine⟨_,(ac (aU (aq cQ (pv 3) bf (ar _))
   (ai (az (i:=3) sc_Copier__init.nd rfl (Or.inl rfl) (bz (aa (pv 2) (aa (aE aD (by rfl) T.bM bg (aa (bu (pv 1) T.aN T.iw (gf T) hr.mo T.gs.choose_spec.1 T.gs.choose_spec.2 aA) ah)) (aa eJ ah))))))
   aH)
   (ac (a9 (pv 0) (pv 1) rfl)
   (ac (a9 (pv 0) (pv 2) rfl)
   (ac (a9 (pv 0) (aW bU (pv 3) ag (λ_ _=>rfl)) rfl)
   (ac (a9 (pv 0) (aW bU (pv 3) ag (λ_ _=>rfl)) rfl)
   (ac (a9 (pv 0) (dU vh (by rfl) T.AC tN (aa (aW bU (pv 3) ag (λ_ _=>rfl)) ah)) rfl)
   (ai (a9 (pv 0) bf rfl))))))))
   ,?_⟩
  obtain⟨da,fa,hi,hm,_⟩:=A.ins;refine b3 (λσ H'=>∃tp d0:Addr,σ=[some (.ref c),some (.ref a),some (.ref p),some (.ref tp)]/\Same H H'/\H' tp=some (.tup [.ref p,.int x.di.length,.ref d0])/\H' d0=some (.dK [])) (λnx go=>?_) (λσ H2 w=>?_)
  .refine⟨_,rfl,rfl,_,rfl,fS rfl ⟨_,rfl,_,rfl,a,da,fa,rfl,hi,hm _ (by decide+kernel),a,0,F,x,rfl,A,Zu _,λH1 r s1 nr hr=>⟨r,_,rfl,.inl (SqL.of hr),λd0 nd0=>⟨(by show 3<=sizeLine;decide),λtp ntp=>?_⟩⟩⟩⟩;rw[Q0,show(0:Int).toNat=0 from rfl,Z9];exact go _ _ ⟨tp,d0,rfl,(s1.trans (aj nd0)).trans (aj ntp),ae,aj ntp _ _ ae⟩
  obtain⟨tp,d0,rfl,s2,htp,hd0⟩:=w;have hc2:=s2 _ _ hc;have n1:tp≠c:=λz=>by rw[z,hc2]at htp;cases htp
  have n2:d0≠c:=λz=>by rw[z,hc2]at hd0;cases hd0
  have hp:∀{o:HO},upd H2 c o tp=some (.tup [.ref p,.int x.di.length,.ref d0]):=λ{o}=>by rw[af n1];exact htp
  refine⟨_,rfl,_,rfl,c,_,dx,[],rfl,hc2,T.aF,T.dN,(by show 0<1000;decide),?_⟩;rw[br];refine⟨_,rfl,_,rfl,c,_,dx,_,rfl,ae,T.aF,T.tw,(by show 1<1000;decide),?_⟩;rw[bE,ay (by decide+kernel),br];refine⟨_,rfl,tp,_,_,_,rfl,rfl,SqT.of hp,rfl,_,rfl,c,_,dx,_,rfl,ae,T.aF,T.cT,(by show 2<1000;decide),?_⟩;rw[bE,ay (by decide+kernel),ay (by decide+kernel),br];refine⟨_,rfl,tp,_,_,_,rfl,rfl,SqT.of hp,rfl,_,rfl,c,_,dx,_,rfl,ae,T.aF,T.bB,(by show 3<1000;decide),?_⟩;rw[bE,ay (by decide+kernel),ay (by decide+kernel),ay (by decide+kernel),br];refine⟨_,rfl,tp,_,_,_,rfl,rfl,SqT.of hp,rfl,d0,_,rfl,by rw[af n2];exact hd0,λdd nd=>?_⟩;have nc:dd≠c:=λz=>by rw[z,ae]at nd;cases nd
  refine⟨_,rfl,c,_,dx,_,rfl,aj nd _ _ ae,T.aF,T.fA,(by show 4<1000;decide),?_⟩;rw[ay (by decide+kernel),ay (by decide+kernel),ay (by decide+kernel),ay (by decide+kernel),br];refine⟨_,rfl,c,_,dx,_,rfl,ae,T.aF,T.b8,(by show 5<1000;decide),?_⟩;rw[bE,ay (by decide+kernel),ay (by decide+kernel),ay (by decide+kernel),ay (by decide+kernel),ay (by decide+kernel),br];rw[af nc]at nd;refine q _ dd ⟨⟨dx,ae⟩⟩ (by rw[af nc,ae]) (c7 s2 nd) λb o n e=>?_;rw[af n,af (al (s2 _ _ e) nd),af n];exact s2 _ _ e
def qN (t:Adr):Sp:=λvs H Q _=>∃(c a p dd:Addr) (rest page:V) (n:Int),vs=[.ref c]/\CoP t H c a p dd rest n page/\Q (.int n) H
theorem rq (T:Txt K mg t):FnOk P w K mg base CX0 1 t.kX t.gr ["self"] (qN t):=by
 refine T.D0.okl qQ λ_ _ _ s H vs Q E hr h=>?_;obtain⟨c,a,p,dd,rest,page,n,rfl,C,q⟩:=h;refine⟨_,(ai (aC (au (pv 0) rfl)))
  ,?_⟩
 obtain⟨dx,ho⟩:=C.ob;exact⟨_,rfl,c,_,dx,_,_,rfl,ho,T.aF,T.bB,rfl,q⟩
def sI (t:Adr):Sp:=λvs H Q _=>∃(c a p dd:Addr) (rest page:V) (n:Int),vs=[.ref c]/\CoP t H c a p dd rest n page/\Q rest H
theorem sZ (T:Txt K mg t):FnOk P w K mg base CX0 1 t.mX t.iH ["self"] (sI t):=by
 refine T.F6.okl sQ λ_ _ _ s H vs Q E hr h=>?_;obtain⟨c,a,p,dd,rest,page,n,rfl,C,q⟩:=h;refine⟨_,(ai (aC (au (pv 0) rfl)))
  ,?_⟩
 obtain⟨dx,ho⟩:=C.ob;exact⟨_,rfl,c,_,dx,_,_,rfl,ho,T.aF,T.cT,rfl,q⟩
def sK (t:Adr):Sp:=λvs H Q _=>∃(c a p dd:Addr) (rest page:V) (n:Int) (kvs:List (Key×V)),vs=[.ref c]/\CoP t H c a p dd rest n page/\H dd=some (.dK kvs)/\∀r,H r=none->Q (.ref r) (upd H r (.dK kvs))
theorem tm (T:Txt K mg t):FnOk P w K mg base CX0 1 t.mZ t.iI ["self"] (sK t):=by
 refine T.Ga.okl sR λ_ _ _ s H vs Q E hr h=>?_;obtain⟨c,a,p,dd,rest,page,n,kvs,rfl,C,hd,q⟩:=h;refine⟨_,(ai (aC (dU vh (by rfl) T.AC tN (aa (au (pv 0) rfl) ah))))
  ,?_⟩
 obtain⟨dx,ho⟩:=C.ob;exact⟨_,rfl,c,_,dx,_,_,rfl,ho,T.aF,T.fA,rfl,dd,_,rfl,hd,q⟩
def qM (t:Adr):Sp:=λvs H Q _=>∃(c a p dd:Addr) (rest page:V) (n:Int) (kvs:List (Key×V)) (ns:List Int),vs=[.ref c]/\CoP t H c a p dd rest n page/\H dd=some (.dK kvs)/\kvs.map (·.2)=ns.map V.int/\∀H',Same H H'->Q (.int ns.sum) H'
theorem rp (T:Txt K mg t):FnOk P w K mg base CX0 1 t.kW t.gp ["self"] (qM t):=by
 refine T.DZ.okl qP λ_ _ _ s H vs Q E hr h=>?_;obtain⟨c,a,p,dd,rest,page,n,kvs,ns,rfl,C,hd,en,q⟩:=h;refine⟨_,(ai (aC (aE (Dx hr.hd) (by rfl) T.J8 FK (aa (uC QQ Xa PySem.F.type_dict_values xh (au (pv 0) rfl)) ah))))
  ,?_⟩
 obtain⟨dx,ho⟩:=C.ob;exact⟨_,rfl,c,_,dx,_,_,rfl,ho,T.aF,T.fA,rfl,.inr (.inr (.inl ⟨rfl,.inl ⟨_,hd⟩⟩)),dd,_,rfl,rfl,hd,λv nv=>⟨v,dd,_,ns,rfl,ae,aj nv _ _ hd,en,q _ (aj nv)⟩⟩
def TkO (t:Adr) (H:Hp) (v:V) (kd:Int) (a e:V) (R:Int->Bool):Prop:=(v= .non/\R=λ_=>false)\/∃q:Addr,v= .ref q/\TkAt t H q kd a e/\okN kd a e/\R=hN kd a e
def AO (t:Adr):Sp:=λvs H Q _=>∃(v av e:V) (kd k:Int) (R:Int->Bool),vs=[v,.int k]/\TkO t H v kd av e R/\0<=k/\∀H',Same H H'->Q (.bl (R k)) H'
theorem Be (T:Txt K mg t):FnOk P w K mg base CX0 4 t.xM t.rP ["token","key"] (AO t):=by
 refine T.DI.okl AX λ_ _ _ s H vs Q E hr h=>?_;obtain⟨v,av,e,kd,k,R,rfl,TK,k0,q⟩:=h;refine⟨_,(ai (aC (gd (bG pX (pv 0) bf (ar _)) (cP (pU (kk:=3) (gK (bY T.bC T.jK (eL T) T.jR (by decide)) (gK (bY T.gw T.mr (gI T) T.mL (by decide)) (bY T.b6 T.jn (eK T) T.jD (by decide)))) hr.mo (pv 0) (aa (pv 1) ah))))))
  ,?_⟩
 rcases TK with⟨rfl,rfl⟩|⟨p,rfl,⟨dr,fr,hr',tr⟩,on,rfl⟩
 .exact⟨_,rfl,rfl,_,rfl,cI (q H (Same.refl _))⟩
 refine⟨_,rfl,rfl,_,rfl,?_⟩;rw[show decide (V.ref p=V.non)=false from decide_eq_false λz=>by cases z];exact c6 ⟨_,rfl,p,_,dr,fr,_,rfl,hr',tr.ho,dHN on.kd,_,rfl,x5 on hr' tr k0 λH2 s2=>q H2 s2⟩
def pK (t:Adr):Sp:=λvs H Q _=>∃(c a p dd:Addr) (rest page av e a':V) (n kd k:Int) (R:Int->Bool),vs=[.ref c,.int k]/\CoP t H c a p dd rest n page/\TkAt t H p kd av e/\okN kd av e/\TkO t H rest kd a' e R/\0<=k/\∀H',Same H H'->Q (.bl (hN kd av e k&&!R k)) H'
theorem p4 (T:Txt K mg t):FnOk P w K mg base CX0 5 t.jU t.fG ["self","key"] (pK t):=by
 refine T.DL.okl pO λ_ _ _ s H vs Q E hr h=>?_;obtain⟨c,a,p,dd,rest,page,av,e,a',n,kd,k,R,rfl,C,TK,on,TR,k0,q⟩:=h;refine⟨_,(ai (aC (gd (pU (kk:=3) (gK (bY T.bC T.jK (eL T) T.jR (by decide)) (gK (bY T.gw T.mr (gI T) T.mL (by decide)) (bY T.b6 T.jn (eK T) T.jD (by decide)))) hr.mo (au (pv 0) rfl) (aa (pv 1) ah)) (cP (Bc (aM (Be T) hr.mo (by rfl) T.J6 T.DI.kp T.J7 .nil aA (aa (au (pv 0) rfl) (aa (pv 1) ah))))))))
  ,?_⟩
 obtain⟨dx,ho⟩:=C.ob;obtain⟨dr,fr,hr',tr⟩:=TK;refine⟨_,rfl,c,_,dx,_,_,rfl,ho,T.aF,T.tw,rfl,p,_,dr,fr,_,rfl,hr',tr.ho,dHN on.kd,_,rfl,x5 on hr' tr k0 λH2 s2=>⟨_,rfl,?_⟩⟩;cases hc:hN kd av e k with
 |false=>
  have:=q H2 s2;rw[hc]at this;exact cI this
 |true=>
  refine c6 ⟨_,rfl,c,_,dx,_,_,rfl,s2 _ _ ho,T.aF,T.cT,rfl,_,rfl,rest,a',e,kd,k,R,rfl,TR.imp id λ⟨q',h1,h2,h3⟩=>⟨q',h1,h2.same s2,h3⟩,k0,λH3 s3=>⟨_,rfl,?_⟩⟩;have:=q H3 (s2.trans s3);rw[hc]at this;exact this
def vI (t:Adr):Sp:=λvs H Q _=>∃(v av e:V) (kd:Int) (R:Int->Bool),vs=[v]/\TkO t H v kd av e R/\(v≠ .non->bdV av/\bdV e)/\∀H',Same H H'->Q (.str (if v= .non then "end" else xR (kdS kd) av e)) H'
theorem wj (T:Txt K mg t):FnOk P w K mg base CX0 3 t.qp t.kC ["_law_token_here"] (vI t):=by
 refine T.qF.okl vX λ_ _ _ s H vs Q E hr h=>?_;obtain⟨v,av,e,kd,R,rfl,TK,bd,q⟩:=h;refine⟨_,(ac (aU (aq cQ (pv 0) bf (ar _))
   (ai (aC gb))
   aH)
   (ai (aC (CQ (kk:=2) (gK (bY T.bC T.Db (sX T) T.mM (by decide)) (gK (bY T.gw T.Im (sX T) T.mM (by decide)) (bY T.b6 T.Gg (sX T) T.mM (by decide)))) hr.mo (pv 0)))))
  ,?_⟩
 rcases TK with⟨rfl,rfl⟩|⟨p,rfl,⟨dr,fr,hr',tr⟩,on,rfl⟩
 .exact⟨_,rfl,rfl,_,rfl,fS rfl (q H (Same.refl _))⟩
 obtain⟨ba,be⟩:=bd λz=>by cases z
 refine⟨_,rfl,rfl,_,rfl,bc (λz=>by cases z) ?_⟩;exact⟨_,rfl,p,_,dr,fr,_,rfl,hr',tr.wo,dWN on.kd,p,dr,kd,fr,av,e,rfl,hr',tr,on,ba,be,λH2 s2=>q H2 s2⟩
theorem HoA.nd {x:HSt} (A:HoA K t H a F x):(x.st.kv.map (·.1)).Nodup:=by
 obtain⟨s,l,wr,p,h,Fs,Fl,B,O,g⟩:=A;obtain⟨_,_,_,_,nd,_⟩:=B.sl;exact nd
theorem HoA.rise {x:HSt} (A:HoA K t H a F x):cJ x.ks:=by
 obtain⟨_,_,_,_,_,_,L⟩:=A.lvs;exact L.rise
theorem Jh.kl {d:Addr} {x:HSt} (J:Jh K t H a d F x):x.ks.length<=301:=by
 have nk:x.ks.Nodup:=J.A.rise.imp λh=>Int.ne_of_lt h;have:=io nk (S:=x.st.kv.map (·.1)) λz hz=>mem_keys.mpr ((J.A.ok.ks z).mp hz);rw[Q0]at this;exact QD this J.le
theorem Jh.k0 {d:Addr} {x:HSt} (J:Jh K t H a d F x):∀k∈x.ks,0<=k:=λk hk=>(J.kb k (mem_keys.mpr ((J.A.ok.ks k).mp hk))).1
theorem HoA.notup {x:HSt} (A:HoA K t H a F x) (e:H b=some (.tup xs)):¬F b:=λz=>by
 obtain⟨o,e',n⟩:=A.dom z;rw[e]at e';exact n _ (Option.some.inj e').symm
def FV (H7:Hp) (i:Nat) (ys:List V) (H':Hp):Prop:=Same H7 H'/\∃zs:List Int,ys=zs.map V.int/\zs.length=i/\∀z∈zs,0<=z
theorem CV {H7 H8:Hp} {D:Addr} {y:V} {ys:List V} {z:Int} (hy:xs[i]?=some y) (w:FV H7 i ys H8) (hD:H7 D=none) (hDD:H8 D=some (.lst ys)) (hn:xs.length<=4000) (z0:0<=z):CNext xs.length i ys D (FV H7) (.int z) H8:=by
 obtain⟨s8,zs,rfl,lz,h0⟩:=w;have hi:i<xs.length:=(Q2.mp hy).1;refine CNext.mk hi hDD (bq (by rw[Q0];lia)) ⟨bN s8 hD,zs++ [z],by rw[Qc];rfl,by rw[Qa,lz];rfl,λv hv=>?_⟩;rcases Q5.mp hv with hv|hv
 .exact h0 v hv
 .rw[Q7.mp hv];exact z0
theorem AskU.fr {kd:Int} {e a':V} (U:AskU t H F st kd n av e v ts a' R) (f:Fr F F' H H'):AskU t H' F' st kd n av e v ts a' R:=
 ⟨U.rest.imp id λ⟨q,h1,⟨dx,fs,hq,tq⟩,h3,h4,h5⟩=>⟨q,h1,⟨dx,fs,(f _ _ h4 hq).1,tq⟩,h3,(f _ _ h4 hq).2,h5⟩,U.less,U.nd,U.me,U.tell,U.far⟩
def xY (K:PySem.W.Frag) (t:Adr):Sp:=λvs H Q _=>∃(c a p dd g nd:Addr) (rest:V) (m z kd:Int) (av e:V) (F:Addr->Prop) (x:HSt),vs=[.ref c,.ref a,.ref p,.int z]/\CoP t H c a p dd rest m (.ref g)/\PgO t H g p nd .non .non .non/\¬F c/\¬F g/\¬F nd/\HoA K t H a F x/\TkAt t H p kd av e/\okN kd av e/\¬F p/\x.st.kv.length<4096/\x.ks.length<4096/\(∀k∈x.ks,0<=k)/\(∀p∈x.st.kv,∃i:Int,p.2= .int i)/\p≠g/\
 ∀(H':Hp) (F':Addr->Prop) (w r f l g2:Addr) (v v2:V) (ts ts2:List Tp) (a' a2:V) (R R2:Int->Bool) (n:Int),HoA K t H' a F' x->(∀b o,b≠g->¬F b->H b=some o->H' b=some o/\¬F' b)->PgO t H' g p nd (.ref f) v .non->¬F' g->¬F' nd->H' f=some (.lst (ts.map λe=>V.ref e.p))->¬F' f->(∀e∈ts,H' e.p=some (.tup [.int e.k,e.v])/\¬F' e.p)->(¬F f->H f=none)->AskU t H' F' x.st kd n av e v ts a' R->H' l=some (.lst (ts.map λe=>V.ref e.p))->¬F' l->l≠f->(∀b o,b≠g->¬F b->H b=some o->b≠l)->
  H' w=some (.tup [.ref l,.ref r])->H' r=some (.tup [.ref g2,v2])->H' g2=some (.lst (ts2.map λe=>V.ref e.p))->g2≠l->g2≠f->¬F' g2->(∀e∈ts2,H' e.p=some (.tup [.int e.k,e.v]))->AskU t H' F' x.st kd n av e v2 ts2 a2 R2->Q (.ref w) H'
theorem yq (T:Txt K mg t):FnOk P w K mg base CX0 11 t.ss t.mE ["_law_copier","_law_house_here","_law_token_here","_law_cell"] (xY K t):=by
 refine T.Al.okl sc__law_read λ_ _ _ s H vs Q E hr h=>?_;obtain⟨c,a,p,dd,g,nd,rest,m,z,kd,av,e,F,x,rfl,C,Pg,nc,ng,nn,A,TK,on,nt,l4,lk,k0,iv,pg',q⟩:=h;refine⟨_,(ac (aU (aq bL (am aP (pv 3) ag) ag (ar _))
   (ai (aC (bz (aa (bu (pv 0) T.aF T.nO (mj T) hr.mo T.mP.choose_spec.1 T.mP.choose_spec.2 aA) (aa (aM (EL T) hr.mo (by rfl) T.Ip T.FW.kp T.JM.choose_spec.1 T.JM.choose_spec.2 aA (aa (pv 1) (aa (pv 2) ah))) ah)))))
   aH)
   (ac (az (i:=4) sc__law_read.nd rfl (Or.inl rfl) (am bn ag (am aP (am aS (pv 3) ag) ag)))
   (ai (aC (bz (aa (aQ (pv 0) T.aF T.nO (mj T) hr.mo T.Aw .nil aA (aa (pv 4) ah)) (aa (aM (EL T) hr.mo (by rfl) T.Ip T.FW.kp T.BC.choose_spec.1 T.BC.choose_spec.2 aA (aa (pv 1) (aa (pv 2) (aa (pv 4) ah)))) ah)))))))
  ,?_⟩
 obtain⟨dx,ho⟩:=C.ob;obtain⟨dt,ft,hpt,tft⟩:=id TK;have fin:∀(n:Int),1<=n->n<=1000->∀(H2:Hp) (F2:Addr->Prop) (f l:Addr) (v:V) (ts:List Tp) (a':V) (R:Int->Bool),HoA K t H2 a F2 x->(∀b o,b≠g->¬F b->H b=some o->H2 b=some o/\¬F2 b)->¬F2 g->PgO t H2 g p nd (.ref f) v .non->¬F2 nd->H2 f=some (.lst (ts.map λe=>V.ref e.p))->¬F2 f->(∀e∈ts,H2 e.p=some (.tup [.int e.k,e.v])/\¬F2 e.p)->(¬F f->H f=none)->AskU t H2 F2 x.st kd n av e v ts a' R->H2 l=some (.lst (ts.map λe=>V.ref e.p))->¬F2 l->l≠f->(∀b o,b≠g->¬F b->H b=some o->b≠l)->
   ∀(Q':VK) (E':XK),(∀y H3,(∀w,H3 w=none->Q (.ref w) (upd H3 w (.tup [.ref l,y])))->Q' y H3)->xX K t [.ref a,.ref p,.int n,.non] H2 Q' E':=λn n1 n2 H2 F2 f l v ts a' R A2 f2 ng2 P2 nn2 hf nf tu of U hl nl lf lo Q' E' hQ=>by
  obtain⟨hp2,np2⟩:=f2 _ _ pg' nt hpt;refine⟨a,p,n,kd,av,e,F2,x,rfl,A2,⟨dt,ft,hp2,tft⟩,on,np2,n1,n2,l4,lk,k0,iv,λH3 F3 r g2 v2 ts2 a2 R2 A3 f3 pg3 U3=>hQ _ _ λw nw=>?_⟩;have s4:=aj (o:= .tup [.ref l,.ref r]) nw;obtain⟨dg2,hg2⟩:=P2.ob;have ol:∀{b:Addr} {o:HO},¬F2 b->H2 b=some o->g2≠b:=λ{b o} n1 e1 z=>by
   have:=pg3.ng.1 (z▸n1);rw[z,e1]at this;cases this
  exact q _ F3 w r f l g2 v v2 ts ts2 a' a2 R R2 n (A3.same s4) (λb o n1 n2 e1=>⟨s4 _ _ (f3 _ _ (f2 b o n1 n2 e1).2 (f2 b o n1 n2 e1).1).1,(f3 _ _ (f2 b o n1 n2 e1).2 (f2 b o n1 n2 e1).1).2⟩) ⟨⟨dg2,s4 _ _ (f3 _ _ ng2 hg2).1⟩,s4 _ _ (f3 _ _ nn2 P2.no).1⟩ (f3 _ _ ng2 hg2).2 (f3 _ _ nn2 P2.no).2 (s4 _ _ (f3 _ _ nf hf).1) (f3 _ _ nf hf).2 (λu hu=>⟨s4 _ _ (f3 _ _ (tu u hu).2 (tu u hu).1).1,(f3 _ _ (tu u hu).2 (tu u hu).1).2⟩) of ((U.fr f3).same s4) (s4 _ _ (f3 _ _ nl hl).1) (f3 _ _ nl hl).2 lf lo ae (s4 _ _ pg3.tu) (s4 _ _ pg3.li) (ol nl hl) (ol nf hf) pg3.ng.2 (λu hu=>s4 _ _ (pg3.rw u hu).1) (U3.same s4)
 refine⟨_,rfl,_,_,rfl,rfl,(by show(0:Int)<3;decide),rfl,_,rfl,bJ (λ_=>?_) (λ_=>?_)⟩
 .refine⟨_,rfl,c,dx,_,rfl,ho,(by rfl),c,a,p,dd,g,nd,rest,m,10,kd,av,e,F,x,rfl,C,Pg,nc,ng,nn,A,TK,on,nt,by decide,by decide,l4,lk,k0,iv,λH2 F2 f l v ts a' R A2 f2 ng2 P2 nn2 hf nf tu of U hl nl lf lo=>?_⟩;refine⟨_,rfl,_,rfl,?_⟩;show xX K t [.ref a,.ref p,.int 10,.non] H2 (λy H3=> [V.ref l,y].length<=sizeLine/\∀w,H3 w=none->Q (.ref w) (upd H3 w (.tup [.ref l,y]))) E0;exact fin 10 (by decide) (by decide) H2 F2 f l v ts a' R A2 f2 ng2 P2 nn2 hf nf tu of U hl nl lf lo _ _ λy H3 h=>⟨(by show 2<=sizeLine;decide),h⟩
 .have m0:=Qe (z/3) (show(100:Int)≠0 by decide);have m1:=Qb (z/3) (show(0:Int)<100 by decide);unfold tU
  (try dsimp only)
  refine⟨_,rfl,_,_,rfl,rfl,⟨by decide,by decide⟩,_,_,rfl,rfl,(by show(0:Int)<100;decide),_,_,rfl,rfl,?_⟩
  (try dsimp only)
  refine⟨_,rfl,c,dx,_,rfl,ho,(by rfl),_,rfl,c,a,p,dd,g,nd,rest,m,1+z/3%100,kd,av,e,F,x,rfl,C,Pg,nc,ng,nn,A,TK,on,nt,by lia,by lia,l4,lk,k0,iv,λH2 F2 f l v ts a' R A2 f2 ng2 P2 nn2 hf nf tu of U hl nl lf lo=>?_⟩;refine⟨_,rfl,_,rfl,_,rfl,?_⟩;show xX K t [.ref a,.ref p,.int (1+z/3%100),.non] H2 (λy H3=> [V.ref l,y].length<=sizeLine/\∀w,H3 w=none->Q (.ref w) (upd H3 w (.tup [.ref l,y]))) E0;exact fin (1+z/3%100) (by lia) (by lia) H2 F2 f l v ts a' R A2 f2 ng2 P2 nn2 hf nf tu of U hl nl lf lo _ _ λy H3 h=>⟨(by show 2<=sizeLine;decide),h⟩
structure O52 (K:PySem.W.Frag) (t:Adr) (H:Hp) (sc d p n:Addr) (F E:Addr->Prop) (kv:List (Int×V)) (ns:List Int) (kd:Int) (av e:V):Prop where
 di:H d=some (.dK (aJ kv))/\¬F d/\¬E d
 TK:TkAt t H p kd av e/\¬F p/\¬E p
 hn:H n=some (.tup [.int kd,av,e])/\¬F n/\¬E n
 cS:SqF K (λb=>F b\/E b) H sc (ns.map V.int)
theorem O52.go {sc d n:Addr} {E E':Addr->Prop} {kv:List (Int×V)} {ns:List Int} {kd:Int} {e:V} (O:O52 K t H sc d p n F E kv ns kd av e) (f:∀b o,¬F b->¬E b->H b=some o->H' b=some o/\¬F' b/\¬E' b):O52 K t H' sc d p n F' E' kv ns kd av e:=by
 obtain⟨dx,fs,hp,r⟩:=O.TK.1;obtain⟨p1,p2⟩:=f _ _ O.TK.2.1 O.TK.2.2 hp;exact⟨f _ _ O.di.2.1 O.di.2.2 O.di.1,⟨⟨dx,fs,p1,r⟩,p2⟩,f _ _ O.hn.2.1 O.hn.2.2 O.hn.1,O.cS.fr λb o n e=>⟨(f b o (λz=>n (.inl z)) (λz=>n (.inr z)) e).1,λz=>z.elim (f b o (λz=>n (.inl z)) (λz=>n (.inr z)) e).2.1 (f b o (λz=>n (.inl z)) (λz=>n (.inr z)) e).2.2⟩⟩
theorem Ew {kv:List (Int×V)} {ts2:List Tp} {A B:Int->Prop} (iv:∀p∈kv,∃i:Int,p.2= .int i) (me:∀k v,(k,v)∈ts.map Tp.kv↔(k,v)∈kv/\A k/\B k) (et:ts.map Tp.kv=ts2.map Tp.kv):(ts.map λe=>V.ref e.p).length=(ts2.map λe=>V.ref e.p).length/\∀{H:Hp},(∀e∈ts,H e.p=some (.tup [.int e.k,e.v]))->(∀e∈ts2,H e.p=some (.tup [.int e.k,e.v]))->∀(j:Nat) (u v:V),(ts.map λe=>V.ref e.p)[j]?=some u->(ts2.map λe=>V.ref e.p)[j]?=some v->Alk K H 4 u v:=by
 refine⟨by have:=congrArg List.length et;simpa using this,λ{H} h1 h2 j u v hu hv=>?_⟩;rw[Qn]at hu hv;cases c3:ts[j]? with
 |none=>rw[c3]at hu;cases hu
 |some x=>
  cases c4:ts2[j]? with
  |none=>rw[c4]at hv;cases hv
  |some y=>
   rw[c3]at hu;rw[c4]at hv;cases hu;cases hv;have ee:=congrArg (λl:List (Int×V)=>l[j]?) et;rw[Qn,Qn,c3,c4]at ee;have e3:x.kv=y.kv:=Option.some.inj ee;have e4:x.k=y.k:=congrArg Prod.fst e3;have e5:x.v=y.v:=congrArg Prod.snd e3;have hx:=Q1 c3;obtain⟨i,ei⟩:=iv _ ((me x.k x.v).mp (Z0 (f:=Tp.kv) hx)).1;have ei:x.v= .int i:=ei;have t1:=h1 x hx;have t2:=h2 y (Q1 c4);rw[<-e4,<-e5]at t2;rw[ei]at t1 t2;refine .inr ⟨_,_,_,_,rfl,rfl,.inr ⟨SqT.of t1,SqT.of t2⟩,rfl,λj u v hu hv=>?_⟩;rcases j with _|_|j
   .cases hu;cases hv;exact .inl ⟨True.intro,rfl⟩
   .cases hu;cases hv;exact .inl ⟨True.intro,rfl⟩
   .cases hu
theorem Tell.bd {kd:Int} {e a':V} (h:Tell st ks kd n av e ps (some a')) (hk:∀k∈ks,k<10^40) (on:okN kd a' e):bdV a':=by
 rcases h with⟨k0,m,g,er⟩|⟨up,k1,e1,v1,er⟩
 .rcases on with⟨_,i,j,rfl,rfl,h1,h2,h3⟩|⟨z,_⟩|⟨z,_⟩
  .show i<10^80;lia
  .lia
  .lia
 .split at er
  .cases er
  .cases c:(bX up av e ks)[n.toNat-1]? with
   |none=>rw[c]at er;cases er
   |some k=>
    rw[c]at er;cases er;have hm:=Q1 c;unfold bX at hm;have hm:=(QH.mp hm).1;have hk':k<10^40:=hk k (by split at hm;exact hm;exact ZG.mp hm);show(if up=true then k+1 else k-1)<10^80;split<;>lia
theorem Bl {di:List (Addr×List V)} {r:Addr} {i j:Int} (m z:Nat):(((di++ [(r,[V.str "mark",.int i])]++ [(q,[V.str "mark",.int j])]).drop ((di.length:Int)+m).toNat).take z).map (·.2)=(([i,j].drop m).take z).map λi=> [V.str "mark",V.int i]:=by
 rw[Ql,show((di.length:Int)+m).toNat=di.length+m by lia,<-Xo,List.drop_left,Z7,ZJ,Z7,ZJ];rfl
theorem HoA.but {dd:Addr} {x:HSt} (A:HoA K t H a F x) (nc:¬F c) (nd:¬F dd) (tc:∀xs,H c≠some (.tup xs)) (td:∀xs,H dd≠some (.tup xs)) (kp:∀b o,b≠c->b≠dd->H b=some o->H' b=some o):HoA K t H' a F x:=
 A.keep (λb hb=>by
  obtain⟨o,e,_⟩:=A.dom hb;rw[e];exact kp b o (λz=>nc (z▸hb)) (λz=>nd (z▸hb)) e) λb xs e=>kp b _ (λz=>tc xs (z▸e)) (λz=>td xs (z▸e)) e
def Er (K:PySem.W.Frag):Sp:=λvs H Q _=>∃(a:Addr) (ns:List Int),vs=[.ref a]/\SqL K H a (ns.map V.int)/\ns.length<=63/\∀H',Q (.bl true) H'
theorem Ji (T:Txt K mg t):FnOk P w K mg base CX0 12 t.IB t.Cn ["_law_script"] (Er K):=by
 refine T.KM.okl sc_law λ_ _ _ s H vs Q E hr h=>?_;obtain⟨sc,ns,rfl,hS,hlen,q⟩:=h;refine⟨_,(ac (re (aM (wn T) hr.mo (by rfl) T.Hm T.yX.kp T.HA .nil aA (aa (eI gH (pv 0) (fL ag) (fL ag)) ah)) (uB rfl (cO (bF (i:=1) sc_law.nd rfl (Or.inl rfl)) (cO (bF (i:=2) sc_law.nd rfl (Or.inl rfl)) pT))))
   (ac (az (i:=3) sc_law.nd rfl (Or.inl rfl) (aM (sV T) hr.mo (by rfl) T.E4 T.vF.kp T.FO .nil aA (aa (aM (sW T) hr.mo (by rfl) T.uV T.m5.kp T.vk .nil aA (aa (pv 0) (aa ag ah))) (aa (aE (yI hr.hd) (by rfl) T.D4 xC (aa (pv 2) ah)) ah))))
   (ac (az (i:=4) sc_law.nd rfl (Or.inl rfl) (aM (wk T) hr.mo (by rfl) T.Hl T.yW.kp T.Hz .nil aA (aa (pv 3) ah)))
   (ac (az (i:=5) sc_law.nd rfl (Or.inl rfl) (aM (sW T) hr.mo (by rfl) T.uV T.m5.kp T.vk .nil aA (aa (pv 0) (aa ag ah))))
   (ac (az (i:=6) sc_law.nd rfl (Or.inl rfl) (iS T.JY (tj T) hr.mo (by rfl) T.J0 T.tF.choose_spec.1 T.tF.choose_spec.2 aA (aa (pv 1) (aa (pv 4) ah))))
   (ac (az (i:=7) sc_law.nd rfl (Or.inl rfl) (aE aD (by rfl) T.bM bg (aa (bu (pv 1) T.aN T.iw (gf T) hr.mo T.gs.choose_spec.1 T.gs.choose_spec.2 aA) ah)))
   (ac (az (i:=8) sc_law.nd rfl (Or.inl rfl) (bu (pv 6) T.aF T.Ar (mq T) hr.mo T.Ax .nil aA))
   (ac (re (aM (yq T) hr.mo (by rfl) T.Iq T.Al.kp T.Iz .nil aA (aa (pv 6) (aa (pv 1) (aa (pv 4) (aa (am aS (pv 5) ag) ah))))) (uB rfl (cO (bF (i:=9) sc_law.nd rfl (Or.inl rfl)) (cO (bF (i:=10) sc_law.nd rfl (Or.inl rfl)) pT))))
   (ac (az (i:=11) sc_law.nd rfl (Or.inl rfl) (dU ql (by rfl) T.D6 yL (aa (pv 9) ah)))
   (ac (aR (uC Qq PySem.F.slot_list_clear PySem.F.type_list_clear ES (pv 9)))
   (ac (az (i:=12) sc_law.nd rfl (Or.inl rfl) (bu (pv 6) T.aF T.zN (lh T) hr.mo T.Ah .nil aA))
   (ac (aU (PW.pt (hV (aq (EI K rfl hr.u20) (pv 11) (aW bU (pv 10) ag (λ_ _=>rfl)) (ar _)) (fv (aq xb (pv 12) (am bn (pv 8) ag) (ar _)))))
   (ai (aC uD))
   aH)
   (ac (aU (PW.pt (hV (aq (EI K rfl hr.u20) (aQ (pv 1) T.aN T.iw (gf T) hr.mo T.vm .nil aA (aa (pv 7) ah)) (bR (aa (bz (aa gb (aa (pv 8) ah))) (aa (bz (aa gb (aa (pv 12) ah))) ah))) (ar _)) (fv (aq (EH hr.u20) (bu (pv 6) T.aF T.mw (tm T) hr.mo T.mO .nil aA) eJ (ar _)))))
   (ai (aC uD))
   aH)
   (ac (aU (PW.pt (fw (aq bL (am aP (pv 5) ag) ag (ar _)) (dL (PW.pt (hV (aq xb (aQ (pv 6) T.aF T.rD (pZ T) hr.mo T.rS .nil aA (aa ag ah)) (am bn (pv 7) ag) (ar _)) (fv (aq (EH hr.u20) (bu (pv 6) T.aF T.mw (tm T) hr.mo T.mO .nil aA) eJ (ar _))))))))
   (ai (aC uD))
   aH)
   (ac (aU (PW.pt (hV (aq xb (aQ (pv 6) T.aF T.rD (pZ T) hr.mo T.rS .nil aA (aa ag ah)) (am bn (pv 7) ag) (ar _)) (hV (aq xb (bu (pv 6) T.aF T.DQ (rq T) hr.mo T.DX .nil aA) (am bn (pv 7) ag) (ar _)) (fv (aq (G4 hr.u20) (bu (pv 6) T.aF T.mw (tm T) hr.mo T.mO .nil aA) (dU (vg hr.hd) (by rfl) T.AC tN (aa (pv 11) ah)) (ar _))))))
   (ai (aC uD))
   aH)
   (ac (az (i:=13) sc_law.nd rfl (Or.inl rfl) (aW bU (pv 10) ag (λ_ _=>rfl)))
   (ac (hZ PassesOwn.never rfl (cZ (am EJ (dU (By hr.hd) (by rfl) T.D6 yL (aa (pv 2) ah)) (iT rfl (CScope.of (M:=["_law_cell"]) (N:=["_law_script","_law_house_here","_law_kept","_law_numbers_here","_law_token_here","_law_cell","_law_copier","_law_before","_law_opening","_law_told","_law_found","_law_rows","_law_closing","_law_rest","_law_key","_law_due"]) (N':=["_law_script","_law_house_here","_law_kept","_law_numbers_here","_law_token_here","","_law_copier","_law_before","_law_opening","_law_told","_law_found","_law_rows","_law_closing","_law_rest","_law_key","_law_due"]) (dsc:=ak zp) rfl rfl (by decide+kernel)) (cZ (eI gH (pv 0) iR (fL ag))) (λ_ _ _ _ _=>(am aP (pv 0) ag))))) (bF (i:=14) sc_law.nd rfl (Or.inl rfl))
   (ac (az (i:=15) sc_law.nd rfl (Or.inl rfl) (gd (aM (wq T) hr.mo (by rfl) T.Hn T.yY.kp T.HB .nil aA (aa (pv 3) (aa (pv 14) ah))) (cP (zx (bG cQ (pv 13) bf (ar _)) (cP (Bc (pU (kk:=3) (gK (bY T.bC T.jK (eL T) T.jR (by decide)) (gK (bY T.gw T.mr (gI T) T.mL (by decide)) (bY T.b6 T.jn (eK T) T.jD (by decide)))) hr.mo (pv 13) (aa (pv 14) ah))))))))
   (ac (az (i:=9) sc_law.nd rfl (Or.inl rfl) (aQ (pv 6) T.aF T.Da (p4 T) hr.mo T.DE .nil aA (aa (pv 14) ah)))
   (ai (aU (PW.pt (hV (PW.pt (fw (aq xc (pv 9) uD (ar _)) (dL (aq xc (pv 9) uD (ar _))))) (fv (aq xb (pv 9) (pv 15) (ar _)))))
   (ai (aC uD))
   aH)))))
   (ai (aC (gd (bG bL (aM (wj T) hr.mo (by rfl) T.yx T.qF.kp T.yN .nil aA (aa (bu (pv 6) T.aF T.EY (sZ T) hr.mo T.FQ .nil aA) ah)) (aM (wj T) hr.mo (by rfl) T.yx T.qF.kp T.yN .nil aA (aa (pv 13) ah)) (ar _)) (cP (bG bL (bu (pv 6) T.aF T.DP (rp T) hr.mo T.DW .nil aA) (aE (Dy rfl) (by rfl) T.J8 FK (aa (iT rfl (CScope.of (M:=["_law_row"]) (N:=["_law_script","_law_house_here","_law_kept","_law_numbers_here","_law_token_here","_law_cell","_law_copier","_law_before","_law_opening","_law_told","_law_found","_law_rows","_law_closing","_law_rest","_law_key","_law_due"]) (N':=["_law_script","_law_house_here","_law_kept","_law_numbers_here","_law_token_here","_law_cell","_law_copier","_law_before","_law_opening","_law_told","_law_found","_law_rows","_law_closing","_law_rest","_law_key","_law_due"]) (dsc:=ak zp) rfl rfl (by decide+kernel)) (cZ (pv 11)) (λ_ _ _ _ _=>(aW (tK K rfl) (pv 0) ag (λ_ _=>rfl)))) ah)) (ar _)))))))))))))))))))))))
  ,?_⟩
 obtain⟨cs,ecs,sb⟩:=FH ns (some 3) (some 43);refine⟨_,rfl,_,rfl,_,rfl,sc,_,rfl,hS,λp1 np1=>?_⟩;rw[ecs];have lcs:cs.length<=63:=QD sb.length_le hlen;have cS:=(SqF.of (F:=λ_=>False) hS λ_ _ z=>z).new (o:= .lst (cs.map V.int)) np1;have h1:upd H p1 (.lst (cs.map V.int)) p1=some (.lst (cs.map V.int)):=ae
 (try dsimp only)
 generalize upd H p1 (.lst (cs.map V.int))=H1 at cS h1⊢;refine⟨p1,cs,rfl,h1,lcs,λH2 r2 a d F x nr2 nFr2 hr2 J l2 e2 o2=>?_⟩;have cS:=cS.fr (F':=Wh F d) (H':=H2) λb o _ e=>o2 b o e;refine⟨r2,_,rfl,SqT.of hr2,rfl,_,_,rfl,_,_,rfl,rfl,?_⟩;clear hS h1 o2 np1 ecs sb hr2 nr2 nFr2;obtain⟨c1,ec1⟩:∃c:Int,ns.getD (1:Int).toNat 0=c:=⟨_,rfl⟩;obtain⟨c2,ec2⟩:∃c:Int,ns.getD (2:Int).toNat 0=c:=⟨_,rfl⟩;refine⟨_,rfl,sc,ns,1,rfl,cS.sq,by decide,?_⟩;rw[ec1];refine⟨_,rfl,d,_,x.st.kv.map (·.1),rfl,.inl J.di,xn,λl ms nl pm pw=>?_⟩;have s3:=aj (o:= .lst (ms.map V.int)) nl;have h3:upd H2 l (.lst (ms.map V.int)) l=some (.lst (ms.map V.int)):=ae
 (try dsimp only)
 generalize upd H2 l (.lst (ms.map V.int))=H3 at s3 h3⊢;refine⟨_,l,ms,rfl,h3,λk hk=>J.kb k (pm.mem_iff.mp hk),?_⟩;intro H4 n av e s4 hn on ba be;obtain⟨kd,ekd⟩:∃kd:Int,c1%3=kd:=⟨_,rfl⟩;rw[ekd]at hn on;have s4':=s3.trans s4;have J4:=J.same s4';have cS4:=cS.fr (Fr.of_same s4');clear s3 s4 h3 nl pm pw cS J;refine⟨_,rfl,n,kd,av,e,rfl,SqT.of hn,on,λH5 p s5 np TK=>?_⟩;have J5:=J4.same s5;have nFp:¬F p:=J4.A.out np;have cS5:=cS4.fr (Fr.of_same s5);have hn5:=s5 _ _ hn;clear np s5 s4' hn cS4 J4;refine⟨_,rfl,sc,ns,2,rfl,cS5.sq,by decide,?_⟩;rw[ec2]
 (try dsimp only)
 refine⟨_,rfl,_,rfl,λc dx nc ndx ncd=>?_⟩;have s5':=bN (aj (o:= .own c) ndx) (o:= .ins t.a6 dx []) nc;refine⟨c,dx,a,p,F,x,rfl,ae,J5.A.same s5',λH6 dd C cd0 nd0 kp=>⟨rfl,?_⟩⟩;have s6:Same H5 H6:=λb o e=>kp b o (al e nc) (s5' _ _ e);have nd5:H5 dd=none:=c7 s5' nd0;have O6:O52 K t H6 sc d p n F (λb=>b=c\/b=dd) x.st.kv ns kd av e:=by
  have O5:O52 K t H5 sc d p n F (λ_=>False) x.st.kv ns kd av e:=⟨⟨J5.di,J5.nd,id⟩,⟨TK,nFp,id⟩,⟨hn5,J5.A.notup hn5,id⟩,cS5.fr λb o n e=>⟨e,λz=>z.elim (λz=>n (.inl z)) id⟩⟩;exact O5.go λb o n1 _ e=>⟨s6 _ _ e,n1,λz=>z.elim (λz=>by rw[z,nc]at e;cases e) λz=>by rw[z,nd5]at e;cases e⟩
 have A6:=J5.A.same s6;have nFc:¬F c:=J5.A.out nc;have nFd:¬F dd:=J5.A.out nd5;obtain⟨da,fa,ha,hm,_⟩:=A6.ins;refine⟨_,rfl,a,da,fa,rfl,ha,hm _ (by decide+kernel),a,0,F,x,rfl,A6,Zu _,λH7 r7 s7 nr7 hr7=>⟨r7,_,rfl,.inl (SqL.of hr7),?_⟩⟩;rw[Q0,show(0:Int).toNat=0 from rfl,Z9];have C7:=C.same s7;have A7:=A6.same s7;have ma:=J5.ma;obtain⟨dc,hc⟩:=C7.ob
 (try dsimp only)
 refine⟨_,rfl,c,dc,_,rfl,hc,(by rfl),c,a,p,dd,_,F,x,rfl,C7,A7,nFc,by lia,λH8 F8 r8 g nd A8 C8 P8 ng8 nn8 nc8 nFg8 nFn8 k8=>?_⟩;have O8:O52 K t H8 sc d p n F8 (λb=>b=c\/b=dd\/b=g\/b=nd) x.st.kv ns kd av e:=(O6.go (F':=F) (E':=λb=>b=c\/b=dd) λb o n1 n2 e=>⟨s7 _ _ e,n1,n2⟩).go λb o n1 n2 e=>⟨(k8 b o (λz=>n2 (.inl z)) n1 e).1,(k8 b o (λz=>n2 (.inl z)) n1 e).2,λz=>z.elim (λz=>n2 (.inl z)) λz=>z.elim (λz=>n2 (.inr z)) λz=>z.elim (λz=>by rw[z,ng8]at e;cases e) λz=>by rw[z,nn8]at e;cases e⟩;have ddc:dd≠c:=λz=>by rw[z]at cd0;obtain⟨_,h⟩:=C.ob;rw[cd0]at h;cases h
 obtain⟨cd8,nd8⟩:=k8 dd _ ddc nFd (s7 _ _ cd0);have kl:=J5.kl;have k00:=J5.k0;have iv0:=J5.iv;have kb:∀k∈x.st.kv.map (·.1),0<=k:=λk hk=>(J5.kb k hk).1;have kt:∀k∈x.ks,k<10^40:=λk hk=>(J5.kb k (mem_keys.mpr ((J5.A.ok.ks k).mp hk))).2;have ksr:=J5.A.rise;have ksm:=J5.A.ok.ks;have nkv:=J5.A.nd;have le0:=J5.le;clear O6 A6 A7 C7 hc ha hm hr7 s7 C kp s6 s5' J5 TK hn5 cS5 nFp;refine⟨_,rfl,_,rfl,_,rfl,_,rfl,_,_,rfl,rfl,⟨by decide,by decide⟩,c,a,p,dd,g,nd,.ref p,_,c2/2,kd,av,e,F8,_,rfl,C8,P8,nc8,nFg8,nFn8,A8,O8.TK.1,on,O8.TK.2.1,by show x.st.kv.length<4096;lia,by show x.ks.length<4096;lia,k00,iv0,(λz=>O8.TK.2.2 (.inr (.inr (.inl z)))),?_⟩;intro H9 F9 w r f l g2 v v2 ts ts2 a' a2 R R2 m9 A9 k9 P9 nFg9 nFn9 hf9 nFf9 tu9 of9 U9 hl9 nFl9 lf9 lo9 hw9 hr9 hg9 g2l g2f nFg2 tv9 V9;refine⟨w,_,rfl,SqT.of hw9,rfl,_,_,rfl,_,_,rfl,rfl,?_⟩;obtain⟨ets,eop⟩:=Tell.uniq (U9.tell x.ks ksr ksm) (V9.tell x.ks ksr ksm);have O9:O52 K t H9 sc d p n F9 (λb=>(b=c\/b=dd\/b=g\/b=nd)\/b=l) x.st.kv ns kd av e:=O8.go λb o n1 n2 e=>⟨(k9 b o (λz=>n2 (.inr (.inr (.inl z)))) n1 e).1,(k9 b o (λz=>n2 (.inr (.inr (.inl z)))) n1 e).2,λz=>z.elim n2 (lo9 b o (λz=>n2 (.inr (.inr (.inl z)))) n1 e)⟩;have cg:c≠g:=λz=>by obtain⟨_,h⟩:=C8.ob;obtain⟨_,h'⟩:=P8.ob;rw[z,h']at h;exact absurd (congrArg List.length (HO.ins.inj (Option.some.inj h)).2.2) (by show ¬5=6;decide)
 have dg:dd≠g:=λz=>by obtain⟨_,h'⟩:=P8.ob;rw[z,h']at cd8;cases cd8
 have C9:CoP t H9 c a p dd (.ref p) x.di.length (.ref g):=by
  obtain⟨d1,h1⟩:=C8.ob;exact⟨⟨d1,(k9 _ _ cg nc8 h1).1⟩⟩
 have nc9:¬F9 c:=by obtain⟨d1,h1⟩:=C8.ob;exact(k9 _ _ cg nc8 h1).2
 obtain⟨cd9,nd9⟩:=k9 _ _ dg nd8 cd8;clear O8 C8 P8 A8 k8 k9 cd8 nd8 nc8 nFg8 nFn8;refine⟨_,rfl,l,_,rfl,.inl (SqL.of hl9),λl2 nl2=>?_⟩;have s10:=aj (o:= .lst (ts.map λe=>V.ref e.p)) nl2;have h2l:upd H9 l2 (.lst (ts.map λe=>V.ref e.p)) l2=some (.lst (ts.map λe=>V.ref e.p)):=ae;have nF2:¬F9 l2:=A9.out nl2;have l2l:l2≠l:=λz=>by rw[z,hl9]at nl2;cases nl2
 (try dsimp only)
 generalize upd H9 l2 (.lst (ts.map λe=>V.ref e.p))=H10 at s10 h2l⊢;have hl10:=s10 _ _ hl9;refine⟨_,rfl,.inl ⟨rfl,_,SqL.of hl10⟩,l,_,rfl,rfl,hl10,?_⟩;have k11:∀b o,b≠l->H9 b=some o->upd H10 l (.lst []) b=some o:=λb o n e=>by rw[af n];exact s10 _ _ e
 have A11:HoA K t (upd H10 l (.lst [])) a F9 _:=(A9.same s10).upd nFl9 λxs z=>by rw[hl10]at z;cases z
 have h11:upd H10 l (.lst []) l2=some (.lst (ts.map λe=>V.ref e.p)):=by rw[af l2l];exact h2l
 have nl:∀{b:Addr} {o:HO},H9 b=some o->(∀xs,o≠ .lst xs)->b≠l:=λ{b o} e n z=>by rw[z,hl9]at e;exact n _ (Option.some.inj e).symm
 (try dsimp only)
 generalize upd H10 l (.lst [])=H11 at k11 A11 h11⊢;have C11:CoP t H11 c a p dd (.ref p) x.di.length (.ref g):=by
  obtain⟨d1,h1⟩:=C9.ob;exact⟨⟨d1,k11 _ _ (nl h1 λxs z=>by cases z) h1⟩⟩
 have P11:PgO t H11 g p nd (.ref f) v .non:=by
  obtain⟨d1,h1⟩:=P9.ob;exact⟨⟨d1,k11 _ _ (nl h1 λxs z=>by cases z) h1⟩,k11 _ _ (nl P9.no λxs z=>by cases z) P9.no⟩
 have hf11:=k11 _ _ (Ne.symm lf9) hf9;have tu11:∀e∈ts,H11 e.p=some (.tup [.int e.k,e.v])/\¬F9 e.p:=λe he=>⟨k11 _ _ (nl (tu9 e he).1 λxs z=>by cases z) (tu9 e he).1,(tu9 e he).2⟩;have cd11:=k11 _ _ (nl cd9 λxs z=>by cases z) cd9;have hr11:=k11 _ _ (nl hr9 λxs z=>by cases z) hr9;have hg11:=k11 _ _ g2l hg9;have tv11:∀e∈ts2,H11 e.p=some (.tup [.int e.k,e.v]):=λe he=>k11 _ _ (nl (tv9 e he) λxs z=>by cases z) (tv9 e he);have tok11:∀{q:Addr} {a3:V},TkAt t H9 q kd a3 e->TkAt t H11 q kd a3 e:=λ⟨d1,f1,h1,t1⟩=>⟨d1,f1,k11 _ _ (nl h1 λxs z=>by cases z) h1,t1⟩;obtain⟨dc,hc⟩:=C11.ob;refine⟨_,rfl,c,dc,_,rfl,hc,(by rfl),c,a,p,dd,g,nd,f,.ref p,v,_,F9,_,rfl,C11,P11,nc9,nFg9,nFn9,A11,by show x.now+(x.ma+1)<40000;lia,λH12 F12 r12 A12 P12 nFg12 nFn12 k12=>?_⟩;have go12:∀{b:Addr} {o:HO},¬F9 b->b≠g->H11 b=some o->H12 b=some o/\¬F12 b:=λn1 n2 e=>k12 _ _ n2 n1 e;obtain⟨dpg,hpg⟩:=P11.ob;have ng12:∀{b:Addr} {o:HO},H11 b=some o->(∀C d fs,o≠ .ins C d fs)->b≠g:=λ{b o} e n z=>by rw[z,hpg]at e;exact n _ _ _ (Option.some.inj e).symm
 have rows12:=go12 nF2 (ng12 h11 λ_ _ _ z=>by cases z) h11;have fnd12:=go12 (A11.notup hr11) (ng12 hr11 λ_ _ _ z=>by cases z) hr11;have g212:=go12 nFg2 (ng12 hg11 λ_ _ _ z=>by cases z) hg11;have tv12:∀e∈ts2,H12 e.p=some (.tup [.int e.k,e.v]):=λe he=>(go12 (A11.notup (tv11 e he)) (ng12 (tv11 e he) λ_ _ _ z=>by cases z) (tv11 e he)).1;have tu12:∀e∈ts,H12 e.p=some (.tup [.int e.k,e.v]):=λe he=>(go12 (tu11 e he).2 (ng12 (tu11 e he).1 λ_ _ _ z=>by cases z) (tu11 e he).1).1;have cd12:=go12 nd9 (ng12 cd11 λ_ _ _ z=>by cases z) cd11;have hf12:=go12 nFf9 (ng12 hf11 λ_ _ _ z=>by cases z) hf11;have C12:CoP t H12 c a p dd (.ref p) x.di.length (.ref g)/\¬F12 c:=by
  obtain⟨d1,h1⟩:=C11.ob;exact⟨⟨⟨d1,(go12 nc9 cg h1).1⟩⟩,(go12 nc9 cg h1).2⟩
 have tok12:∀{q:Addr} {a3:V},¬F9 q->TkAt t H9 q kd a3 e->TkAt t H12 q kd a3 e:=λ{q a3} n1 h=>by
  obtain⟨d1,f1,h1,t1⟩:=tok11 h;refine⟨d1,f1,(go12 n1 (λz=>?_) h1).1,t1⟩;rw[z,hpg]at h1;rw[<-(HO.ins.inj (Option.some.inj h1)).2.2]at t1;have h:(none:Option V)=some _:=t1.at_;cases h
 have O12:O52 K t H12 sc d p n F12 (λb=>(b=c\/b=dd\/b=g\/b=nd)\/b=l) x.st.kv ns kd av e:=O9.go λb o n1 n2 e=>⟨(go12 n1 (λz=>n2 (.inl (.inr (.inr (.inl z))))) (k11 b o (λz=>n2 (.inr z)) e)).1,(go12 n1 (λz=>n2 (.inl (.inr (.inr (.inl z))))) (k11 b o (λz=>n2 (.inr z)) e)).2,n2⟩;have alk:(ts.map λe=>V.ref e.p).length=(ts2.map λe=>V.ref e.p).length/\∀{H:Hp},(∀e∈ts,H e.p=some (.tup [.int e.k,e.v]))->(∀e∈ts2,H e.p=some (.tup [.int e.k,e.v]))->∀(j:Nat) (u v:V),(ts.map λe=>V.ref e.p)[j]?=some u->(ts2.map λe=>V.ref e.p)[j]?=some v->Alk K H 4 u v:=Ew iv0 U9.me ets;clear go12 k12 k11 nl
 (try dsimp only)
 show Ej (tIfS _ _ _) _ _ _ H12;refine b3 (λσ H'=>σ=[some (.ref sc),some (.ref a),some (.ref d),some (.ref n),some (.ref p),some (.int c2),some (.ref c),some (.int x.di.length),some (.int (x.ma+1)),some (.ref l),some (.ref r),some (.ref l2),some (.int (x.ma+1+1)),none,none,none]/\H'=H12) (λnx go=>?_) (λσ H13 w=>?_)
 .refine⟨_,rfl,_,rfl,r,_,_,_,rfl,rfl,SqT.of fnd12.1,rfl,l2,g2,_,_,rfl,rfl,.inl ⟨SqL.of rows12.1,SqL.of g212.1⟩,alk.1,alk.2 tu12 tv12,_,rfl,cI ⟨_,rfl,_,rfl,_,_,rfl,rfl,rfl,_,rfl,oh rfl (go _ _ ⟨rfl,rfl⟩)⟩⟩
 obtain⟨rfl,rfl⟩:=w;obtain⟨da,fa,ha,hm,_⟩:=A12.ins;refine b3 (λσ H'=>σ=[some (.ref sc),some (.ref a),some (.ref d),some (.ref n),some (.ref p),some (.int c2),some (.ref c),some (.int x.di.length),some (.int (x.ma+1)),some (.ref l),some (.ref r),some (.ref l2),some (.int (x.ma+1+1)),none,none,none]/\Same H13 H') (λnx go=>?_) (λσ H14 w=>?_)
 .refine⟨_,rfl,a,da,fa,rfl,ha,hm _ (by decide+kernel),_,rfl,a,_,F12,_,rfl,A12,by lia,λH14 r14 s14 nr14 hr14=>?_⟩;have di:=(A12.same s14).di;have e14:H14 r14=some (.lst [.ref r8,.ref r12]):=by
   rw[hr14,show(x.di.length:Int).toNat=x.di.length from rfl];show some (HO.lst (((x.di++ [(r8,_)]++ [(r12,_)]).drop x.di.length).map λe:Addr×List V=>V.ref e.1))=_;rw[Ql,List.drop_left];rfl
  have d8:=di (r8,[.str "mark",.int (x.ma+1)]) (by simp);have d12:=di (r12,[.str "mark",.int (x.ma+1+1)]) (by simp);refine⟨_,rfl,(by show 2<=sizeLine;decide),λt1 nt1=>⟨_,rfl,(by show 2<=sizeLine;decide),λt2 nt2=>⟨(by show 2<=sizeLine;decide),λtl ntl=>?_⟩⟩⟩;have q1:=aj (o:= .tup [.str "mark",.int (x.ma+1)]) nt1;have q2:=aj (o:= .tup [.str "mark",.int (x.ma+1+1)]) nt2;have q3:=aj (o:= .lst [.ref t1,.ref t2]) ntl;have q123:=(q1.trans q2).trans q3;have tup:∀{u v:Addr} {i:Int} {H:Hp},H u=some (.tup [.str "mark",.int i])->H v=some (.tup [.str "mark",.int i])->Alk K H 4 (.ref u) (.ref v):=λh1 h2=>by
   refine .inr ⟨_,_,_,_,rfl,rfl,.inr ⟨SqT.of h1,SqT.of h2⟩,rfl,λj u v hu hv=>?_⟩;rcases j with _|_|j
   .cases hu;cases hv;exact .inl ⟨True.intro,rfl⟩
   .cases hu;cases hv;exact .inl ⟨True.intro,rfl⟩
   .cases hu
  refine⟨r14,tl,_,_,rfl,rfl,.inl ⟨SqL.of (q123 _ _ e14),SqL.of ae⟩,rfl,λj u v hu hv=>?_,_,rfl,cI ?_⟩
  .rcases j with _|_|j
   .cases hu;cases hv;exact tup (q123 _ _ d8) (q3 _ _ (q2 _ _ ae))
   .cases hu;cases hv;exact tup (q123 _ _ d12) (q3 _ _ ae)
   .cases hu
  have s15:=s14.trans q123;have C15:=C12.1.same s15;obtain⟨d15,hc15⟩:=C15.ob;refine⟨_,rfl,c,d15,_,rfl,hc15,(by rfl),c,a,p,dd,_,_,_,[],rfl,C15,s15 _ _ cd12.1,λr15 n15=>λz nz=>⟨r15,z,[],rfl,rfl,.inl (aj nz _ _ ae),.inl ae,_,rfl,cI (go _ _ ⟨rfl,s15.trans ((aj n15).trans (aj nz))⟩)⟩⟩
 obtain⟨rfl,s14⟩:=w;have lt:ts.length<=301:=by
  have h:=io U9.nd (S:=x.st.kv.map (·.1)) λz hz=>by
   obtain⟨u,hu,rfl⟩:=Qh.mp hz;exact Z0 (f:=Prod.fst) ((U9.me u.k u.v).mp (Z0 (f:=Tp.kv) hu)).1
  rw[Q0,Q0]at h;exact QD h le0
 have S14:CoF t H14 c a p dd g p nd f (.ref p) v x.di.length (x.ma+1+1) ts:=⟨C12.1.same s14,P12.same s14,s14 _ _ cd12.1,s14 _ _ hf12.1,λe he=>s14 _ _ (tu12 e he)⟩;have A14:=A12.same s14;obtain⟨x',ex'⟩:∃x':HSt,x'={x with ma:=x.ma+1+1,di:=x.di++ [(r8,[.str "mark",.int (x.ma+1)])]++ [(r12,[.str "mark",.int (x.ma+1+1)])]}:=⟨_,rfl⟩;have A14:HoA K t H14 a F12 x':=by rw[ex'];exact A12.same s14
 have dr:∀m z:Nat,((x'.di.drop ((x.di.length:Int)+m).toNat).take z).map (·.2)=(([x.ma+1,x.ma+1+1].drop m).take z).map λi=> [V.str "mark",V.int i]:=λm z=>by rw[ex'];exact Bl m z
 refine b3 (λσ H'=>∃m:Nat,m<=1/\σ=[some (.ref sc),some (.ref a),some (.ref d),some (.ref n),some (.ref p),some (.int c2),some (.ref c),some (.int x.di.length),some (.int (x.ma+1)),some (.ref l),some (.ref r),some (.ref l2),some (.int (x.ma+1+1)),none,none,none]/\(∀b o,b≠c->b≠dd->H14 b=some o->H' b=some o)/\CoF t H' c a p dd g p nd f (.ref p) v (x.di.length+m) (x.ma+1+1) ts) (λnx go=>?_) (λσ H15 w=>?_)
 .refine⟨_,rfl,_,_,rfl,rfl,(by show(0:Int)<2;decide),rfl,_,rfl,bJ (λ_=>?_) (λ_=>?_)⟩
  .obtain⟨d4,h4⟩:=S14.C.ob;refine⟨_,rfl,c,d4,_,rfl,h4,(by rfl),c,a,p,dd,g,p,nd,f,.ref p,v,_,x.ma+1+1,1,ts,F12,x',[x.ma+1],rfl,S14,U9.nd,by lia,A14,C12.2,cd12.2,by lia,by decide,dr 0 1,(by simp),(by show 1<=1000;decide),λ_ H15 k15 S15=>?_,λz=>absurd (show x.ma+1=x.ma+1+1 from Option.some.inj z) (by lia)⟩;obtain⟨d5,h5⟩:=S15.C.ob;refine⟨_,rfl,_,_,rfl,rfl,rfl,_,rfl,oh rfl ⟨_,rfl,c,d5,_,rfl,h5,(by rfl),c,a,p,dd,_,_,_,[],rfl,S15.C,S15.cd,λr5 n5=>λz nz=>⟨r5,z,[],rfl,rfl,.inl (aj nz _ _ ae),.inl ae,_,rfl,cI (go _ _ ⟨1,Q4 _,rfl,λb o n1 n2 e=>aj nz _ _ (aj n5 _ _ (k15 b o n1 n2 e)),(S15.same (aj n5)).same (aj nz)⟩)⟩⟩⟩
  .exact go _ _ ⟨0,by decide,rfl,λb o _ _ e=>e,by simpa using S14⟩
 obtain⟨m,hm1,rfl,k15,S15⟩:=w;have A15:HoA K t H15 a F12 x':=A14.but C12.2 cd12.2 (λxs z=>by obtain⟨_,h⟩:=S14.C.ob;rw[h]at z;cases z) (λxs z=>by rw[S14.cd]at z;cases z) k15;have ml:([x.ma+1,x.ma+1+1].drop m).length=2-m:=by rw[QA];rfl
 have mg:([x.ma+1,x.ma+1+1].drop m).getLast?=some (x.ma+1+1):=by
  rcases m with _|_|m
  .rfl
  .rfl
  .lia
 have mn:x.ma+1+1∉([x.ma+1,x.ma+1+1].drop m).dropLast:=by
  rcases m with _|_|m
  .exact λz=>absurd (Q7.mp z) (by lia)
  .exact QT
  .lia
 obtain⟨d5,h5⟩:=S15.C.ob;have nl14:∀{b:Addr} {o:HO},H14 b=some o->(∀C d fs,o≠ .ins C d fs)->o≠ .dK []->H15 b=some o:=λ{b o} e n1 n2=>k15 b o (λz=>by obtain⟨_,h⟩:=S14.C.ob;rw[z,h]at e;exact n1 _ _ _ (Option.some.inj e).symm) (λz=>by rw[z,S14.cd]at e;exact n2 (Option.some.inj e).symm) e;have rows15:=nl14 (s14 _ _ rows12.1) (λ_ _ _ z=>by cases z) (λz=>by cases z);refine b3 (λσ H'=>σ=[some (.ref sc),some (.ref a),some (.ref d),some (.ref n),some (.ref p),some (.int c2),some (.ref c),some (.int x.di.length),some (.int (x.ma+1)),some (.ref l),some (.ref r),some (.ref l2),some (.int (x.ma+1+1)),none,none,none]/\(∀b o,b≠c->b≠dd->H15 b=some o->H' b=some o)/\CoE t H' c a p dd v (x.di.length+2) ts) (λnx go=>?_) (λσ H16 w=>?_)
 .refine⟨_,rfl,c,d5,_,rfl,h5,(by rfl),c,a,p,dd,g,p,nd,f,.ref p,v,_,x.ma+1+1,5,ts,F12,x',[x.ma+1,x.ma+1+1].drop m,rfl,S15,U9.nd,by lia,A15,C12.2,cd12.2,by lia,by decide,?_,mn,by lia,λz=>absurd mg z,λ_ H16 k16 S16=>?_⟩
  .rw[show Int.toNat 5=5 from rfl,dr m 5,Qt (by lia)]
  rw[ml,show(x.di.length:Int)+m+(2-m:Nat)=x.di.length+2 by lia]at S16⊢;obtain⟨d6,h6⟩:=S16.C.ob;have hl16:=k16 _ _ (λz=>by rw[z,h5]at rows15;cases rows15) (λz=>by rw[z,S15.cd]at rows15;cases rows15) rows15;have tu16:∀u∈ts,H16 u.p=some (.tup [.int u.k,u.v]):=λu hu=>k16 _ _ (λz=>by have h:=S15.tu u hu;rw[z,h5]at h;cases h) (λz=>by have h:=S15.tu u hu;rw[z,S15.cd]at h;cases h) (S15.tu u hu);refine⟨_,rfl,_,_,rfl,rfl,rfl,_,rfl,oh rfl ⟨_,rfl,c,d6,_,rfl,h6,(by rfl),c,a,p,dd,_,_,_,rfl,S16.C,_,rfl,_,_,rfl,rfl,rfl,_,rfl,oh rfl ⟨_,rfl,c,d6,_,rfl,h6,(by rfl),c,a,p,dd,_,_,_,_,rfl,S16.C,S16.cd,λr6 n6=>?_⟩⟩⟩;have s6:=aj (o:= .dK (aJ (ts.map Tp.kv))) n6;have hr6:upd H16 r6 (.dK (aJ (ts.map Tp.kv))) r6=some (.dK (aJ (ts.map Tp.kv))):=ae;generalize upd H16 r6 (.dK (aJ (ts.map Tp.kv)))=H17 at s6 hr6⊢;refine⟨_,rfl,l2,ts.map λu=>(u.p,Sum.inl u.k,u.v),rfl,(by rw[Qu];exact SqL.of (s6 _ _ hl16)),(λu' hu'=>by obtain⟨u,hu,rfl⟩:=Qh.mp hu';exact SqT.of (s6 _ _ (tu16 u hu))),λp2 np2=>?_⟩;rw[Qu];have el:ts.map ((λx:Addr×Key×V=>x.2)∘λu:Tp=>(u.p,(Sum.inl u.k:Key),u.v))=aJ (ts.map Tp.kv):=by unfold aJ;rw[Qu];rfl
  have nl:((ts.map Tp.kv).map (·.1)).Nodup:=by
   rw[Qu];exact U9.nd
  rw[el,show rB [] (aJ (ts.map Tp.kv))=_ from yu (acc:=[]) nl,ZN];refine⟨r6,p2,_,_,rfl,rfl,aj np2 _ _ hr6,ae,rfl,λz hz=>?_,_,rfl,cI (go _ _ ⟨rfl,λb o n1 n2 e=>aj np2 _ _ (s6 _ _ (k16 b o n1 n2 e)),⟨S16.C.same (s6.trans (aj np2)),aj np2 _ _ (s6 _ _ S16.cd)⟩⟩)⟩;unfold aJ at hz;obtain⟨w,hw,rfl⟩:=Qh.mp hz;obtain⟨i,ei⟩:=iv0 _ ((U9.me w.1 w.2).mp hw).1;have ei:w.2= .int i:=ei;exact⟨by show Fl w.2;rw[ei];exact True.intro,by show aO (aJ (ts.map Tp.kv)) (Sum.inl w.1)=_;rw[liftK_val];exact fR nl hw⟩
 obtain⟨rfl,k16,S16⟩:=w;have kk:∀{b:Addr} {o:HO},b≠c->b≠dd->H14 b=some o->H16 b=some o:=λn1 n2 e=>k16 _ _ n1 n2 (k15 _ _ n1 n2 e);have nc4:∀{b:Addr} {o:HO},H14 b=some o->(∀C d fs,o≠ .ins C d fs)->o≠ .dK []->H16 b=some o:=λ{b o} e n1 n2=>kk (λz=>by obtain⟨_,h⟩:=S14.C.ob;rw[z,h]at e;exact n1 _ _ _ (Option.some.inj e).symm) (λz=>by rw[z,S14.cd]at e;exact n2 (Option.some.inj e).symm) e;have O16:=O12.go (H':=H16) (F':=F12) (E':=λb=>(b=c\/b=dd\/b=g\/b=nd)\/b=l) λb o n1 n2 e=>⟨kk (λz=>n2 (.inl (.inl z))) (λz=>n2 (.inl (.inr (.inl z)))) (s14 _ _ e),n1,n2⟩;have fnd16:=nc4 (s14 _ _ fnd12.1) (λ_ _ _ z=>by cases z) (λz=>by cases z);have rows16:=nc4 (s14 _ _ rows12.1) (λ_ _ _ z=>by cases z) (λz=>by cases z);have tu16:∀u∈ts,H16 u.p=some (.tup [.int u.k,u.v]):=λu hu=>nc4 (s14 _ _ (tu12 u hu)) (λ_ _ _ z=>by cases z) (λz=>by cases z);have tok16:∀{q:Addr} {a3:V},¬F9 q->TkAt t H9 q kd a3 e->TkAt t H16 q kd a3 e:=λ{q a3} n1 h=>by
  obtain⟨d1,f1,h1,t1⟩:=tok12 n1 h;have h1':=s14 _ _ h1;refine⟨d1,f1,kk (λz=>?_) (λz=>by rw[z,S14.cd]at h1';cases h1') h1',t1⟩;obtain⟨_,h2⟩:=S14.C.ob;rw[z,h2]at h1';rw[<-(HO.ins.inj (Option.some.inj h1')).2.2]at t1;have h:(none:Option V)=some _:=t1.at_;cases h
 have T1:TkO t H16 v kd a' e R:=U9.rest.imp id λ⟨q,h1,h2,h3,h4,h5,_⟩=>⟨q,h1,tok16 h4 h2,h3,h5⟩;have T2:TkO t H16 v2 kd a2 e R2:=V9.rest.imp id λ⟨q,h1,h2,h3,h4,h5,_⟩=>⟨q,h1,tok16 h4 h2,h3,h5⟩;have ev:(v= .non/\v2= .non)\/(v≠ .non/\v2≠ .non/\a'=a2):=by
  by_cases h1:v= .non<;>by_cases h2:v2= .non
  .exact .inl ⟨h1,h2⟩
  .rw[if_pos h1,if_neg h2]at eop;cases eop
  .rw[if_neg h1,if_pos h2]at eop;cases eop
  .rw[if_neg h1,if_neg h2]at eop;exact .inr ⟨h1,h2,Option.some.inj eop⟩
 have eR:R2=R:=by
  rcases ev with⟨h1,h2⟩|⟨h1,h2,h3⟩
  .rw[(T1.resolve_right λ⟨q,z,_⟩=>by rw[h1]at z;cases z).2,(T2.resolve_right λ⟨q,z,_⟩=>by rw[h2]at z;cases z).2]
  .obtain⟨_,_,_,_,r1⟩:=T1.resolve_left λz=>h1 z.1;obtain⟨_,_,_,_,r2⟩:=T2.resolve_left λz=>h2 z.1;rw[r1,r2,h3]
 subst eR;have ba2:v≠ .non->bdV a':=λh=>by
  have h1:=U9.tell x.ks ksr ksm;rw[if_neg h]at h1;obtain⟨_,_,_,o,_⟩:=T1.resolve_left λz=>h z.1;exact h1.bd kt o
 have nt:=U9.nd;have me:=U9.me;clear tok16 tok12 kk nc4 eop alk U9 V9 O12 O9 C12 P12 A12 A14 A15 S14 S15 k15 k16 s14 dr ml mg mn nl14 rows15 h5 hpg P11 C11 A11 tu11 tv11 cd11 hf11 hr11 hg11 cd12 hf12 fnd12 rows12 g212 tu12 tv12;refine⟨_,rfl,r,_,_,_,rfl,rfl,SqT.of fnd16,rfl,?_⟩
 (try dsimp only)
 refine⟨_,rfl,d,_,rfl,.inl O16.di.1,λl6 nl6=>?_⟩;rw[show jM (aJ x.st.kv)=(x.st.kv.map (·.1)).map V.int from xn];have s6:=aj (o:= .lst ((x.st.kv.map (·.1)).map V.int)) nl6;have h6:upd H16 l6 (.lst ((x.st.kv.map (·.1)).map V.int)) l6=some (.lst ((x.st.kv.map (·.1)).map V.int)):=ae;generalize upd H16 l6 (.lst ((x.st.kv.map (·.1)).map V.int))=H17 at s6 h6⊢;refine⟨_,rfl,20,rfl,sc,_,rfl,(O16.cS.fr (Fr.of_same s6)).sq,λl7 nl7=>?_⟩;rw[mK (by decide),<-Z7];obtain⟨xs,exs⟩:∃xs,ns.take (20:Int).toNat=xs:=⟨_,rfl⟩;have lx:xs.length<=63:=by rw[<-exs,Q8];lia
 rw[exs];have s7:=s6.trans (aj (o:= .lst (xs.map V.int)) nl7);have h6:=aj (o:= .lst (xs.map V.int)) nl7 _ _ h6;have h7:upd H17 l7 (.lst (xs.map V.int)) l7=some (.lst (xs.map V.int)):=ae;generalize upd H17 l7 (.lst (xs.map V.int))=H7 at s7 h6 h7⊢;refine⟨l7,rfl,⟨_,SqL.of h7⟩,λD hD=>?_⟩;refine jP (K:=K) (a:=l7) (xs:=xs.map V.int) (FV H7) ⟨aj hD,[],rfl,rfl,λ_ z=>absurd z QT⟩ (λi ys H8 _ w=>SqL.of (w.1 _ _ h7)) (λi y ys H8 hy w hDD=>?_) (λys H8 w hDD=>?_)
 .obtain⟨z,_,rfl⟩:=Qh.mp (Q1 hy);exact⟨_,rfl,_,_,rfl,rfl,(by show(0:Int)<70000;decide),CV hy w hD hDD (by rw[Q0];lia) (Qe _ (by decide))⟩
 obtain⟨s8,zs,rfl,lz,z0⟩:=w;rw[Q0]at lz;refine⟨l6,D,_,_,rfl,rfl,s8 _ _ h6,hDD,(by simp only[Q0];have:1000<=sizeLine:=(by decide);lia),λl9 n9=>?_⟩;rw[<-Qc];obtain⟨ks,eks⟩:∃ks,x.st.kv.map (·.1)++zs=ks:=⟨_,rfl⟩;have k0:∀k∈ks,0<=k:=λk hk=>by
  rw[<-eks]at hk;exact(Q5.mp hk).elim (kb k) (z0 k)
 rw[eks];have s9:=(s7.trans s8).trans (aj (o:= .lst (ks.map V.int)) n9);have h9:upd H8 l9 (.lst (ks.map V.int)) l9=some (.lst (ks.map V.int)):=ae;generalize upd H8 l9 (.lst (ks.map V.int))=H19 at s9 h9⊢;have C19:=S16.C.same s9;have cd19:=s9 _ _ S16.cd;have T19:TkO t H19 v kd a' e R2:=T1.imp id λ⟨q,h1,h2,h3⟩=>⟨q,h1,h2.same s9,h3⟩;have V19:TkO t H19 v2 kd a2 e R2:=T2.imp id λ⟨q,h1,h2,h3⟩=>⟨q,h1,h2.same s9,h3⟩;have TK19:=O16.TK.1.same s9;have hn19:=s9 _ _ O16.hn.1;have rows19:=s9 _ _ rows16;have tu19:∀u∈ts,H19 u.p=some (.tup [.int u.k,u.v]):=λu hu=>s9 _ _ (tu16 u hu);clear O16 T1 T2 S16 rows16 tu16 fnd16 h6 h7 hD hDD s6 s7 s8 s9 n9 nl6 nl7 z0 lz eks;refine⟨l9,rfl,⟨_,SqL.of h9⟩,nC (K:=K) (a:=l9) (xs:=ks.map V.int) (λi σ H'=>∃u1 u2 u3:Option V,σ=[some (.ref sc),some (.ref a),some (.ref d),some (.ref n),some (.ref p),some (.int c2),some (.ref c),some (.int x.di.length),some (.int (x.ma+1)),u1,some (.ref r),some (.ref l2),some (.int (x.ma+1+1)),some v2,u2,u3]/\Same H19 H') ⟨_,_,_,rfl,Same.refl _⟩ (λi σ H' _ w=>by obtain⟨_,_,_,_,s⟩:=w;exact SqL.of (s _ _ h9)) (λi z σ H' hz w'=>?_) (λσ H' w'=>?_)⟩
 .obtain⟨u1,u2,u3,rfl,s⟩:=w';obtain⟨k,hk',rfl⟩:=Qh.mp (Q1 hz);unfold mB
  (try dsimp only)
  refine b3 (λσ H2=>σ=[some (.ref sc),some (.ref a),some (.ref d),some (.ref n),some (.ref p),some (.int c2),some (.ref c),some (.int x.di.length),some (.int (x.ma+1)),u1,some (.ref r),some (.ref l2),some (.int (x.ma+1+1)),some v2,some (.int k),some (.bl (hN kd av e k&&!R2 k))]/\Same H' H2) (λnx go=>?_) (λσ H2 w=>?_)
  .refine⟨_,rfl,_,rfl,n,kd,k,av,e,rfl,SqT.of (s _ _ hn19),on,_,rfl,?_⟩;cases hc:hN kd av e k with
   |false=>rw[hc]at go;exact cI (go _ _ ⟨rfl,Same.refl _⟩)
   |true=>
    rw[hc]at go;refine c6 ?_;rcases V19 with⟨rfl,rfl⟩|⟨q',rfl,TQ,oq,rfl⟩
    .exact⟨_,rfl,rfl,_,rfl,fS rfl (go _ _ ⟨rfl,Same.refl _⟩)⟩
    .obtain⟨dr,fr,hr',tr⟩:=TQ.same s;refine⟨_,rfl,rfl,_,rfl,bc (λz=>by cases z) ⟨_,rfl,q',_,dr,fr,_,rfl,hr',tr.ho,dHN oq.kd,_,rfl,x5 oq hr' tr (k0 k hk') λH2 s2=>⟨_,rfl,go _ _ ⟨rfl,s2⟩⟩⟩⟩
  obtain⟨rfl,s2⟩:=w;have s':=s.trans s2;have C':=C19.same s';obtain⟨d3,hc3⟩:=C'.ob;refine⟨_,rfl,c,d3,_,rfl,hc3,(by rfl),_,rfl,c,a,p,dd,v,_,av,e,a',_,kd,k,R2,rfl,C',TK19.same s',on,T19.imp id (λ⟨q,h1,h2,h3⟩=>⟨q,h1,h2.same s',h3⟩),k0 k hk',λH3 s3=>?_⟩;generalize (hN kd av e k&&!R2 k)=bb;have fin:Same H19 H3:=s'.trans s3;cases bb with
  |true=>exact⟨_,rfl,_,_,rfl,rfl,_,rfl,cI ⟨_,rfl,_,rfl,rfl,_,rfl,oh rfl ⟨_,_,_,rfl,fin⟩⟩⟩
  |false=>exact⟨_,rfl,_,_,rfl,rfl,_,rfl,c6 ⟨_,rfl,_,_,rfl,rfl,_,rfl,cI ⟨_,rfl,_,rfl,rfl,_,rfl,oh rfl ⟨_,_,_,rfl,fin⟩⟩⟩⟩
 obtain⟨u1,u2,u3,rfl,s⟩:=w';have C':=C19.same s;obtain⟨d3,hc3⟩:=C'.ob;have bd2:v≠ .non->bdV a'/\bdV e:=λh=>⟨ba2 h,be⟩;have bd3:v2≠ .non->bdV a2/\bdV e:=λh=>by
  rcases ev with⟨h1,h2⟩|⟨h1,h2,h3⟩
  .exact absurd h2 h
  .rw[<-h3];exact bd2 h1
 refine⟨_,rfl,c,d3,_,rfl,hc3,(by rfl),c,a,p,dd,v,.non,_,rfl,C',v,a',e,kd,R2,rfl,T19.imp id (λ⟨q,h1,h2,h3⟩=>⟨q,h1,h2.same s,h3⟩),bd2,λH2 s2=>?_⟩;refine⟨_,rfl,v2,a2,e,kd,R2,rfl,V19.imp id (λ⟨q,h1,h2,h3⟩=>⟨q,h1,(h2.same s).same s2,h3⟩),bd3,λH3 s3=>?_⟩;have ew:(if v2= .non then("end":Str)else xR (kdS kd) a2 e)=if v= .non then("end":Str)else xR (kdS kd) a' e:=by
  rcases ev with⟨h1,h2⟩|⟨h1,h2,h3⟩
  .rw[if_pos h1,if_pos h2]
  .rw[if_neg h1,if_neg h2,h3]
 rw[ew];have s5:=(s.trans s2).trans s3;have C5:=C19.same s5;obtain⟨d5,h5⟩:=C5.ob;have em:(aJ (ts.map Tp.kv)).map (·.2)=(ts.map λu=>inI u.v).map V.int:=by
  unfold aJ;rw[Qu,Qu,Qu];refine Zd λu hu=>?_;obtain⟨i,ei⟩:=iv0 _ ((me u.k u.v).mp (Z0 (f:=Tp.kv) hu)).1;have ei:u.v= .int i:=ei;show u.v=V.int (inI u.v);rw[ei];rfl
 refine⟨rfl,_,rfl,?_⟩;rw[decide_eq_true rfl];refine c6 ⟨_,rfl,c,d5,_,rfl,h5,(by rfl),c,a,p,dd,v,.non,_,_,_,rfl,C5,s5 _ _ cd19,em,λH6 s6=>?_⟩;have s6':=s5.trans s6;refine⟨_,rfl,l2,rfl,⟨_,SqL.of (s6' _ _ rows19)⟩,λD hD=>?_⟩;refine jP (K:=K) (a:=l2) (xs:=ts.map λe=>V.ref e.p) (λi ys H'=>Same H6 H'/\ys=(ts.take i).map λu=>V.int (inI u.v)) ⟨aj hD,by rw[List.take_zero];rfl⟩ (λi ys H8 _ w=>SqL.of (w.1 _ _ (s6' _ _ rows19))) (λi y ys H8 hy w hDD=>?_) (λys H8 w hDD=>?_)
 .obtain⟨s8,rfl⟩:=w;rw[Qn]at hy;cases c3:ts[i]? with
  |none=>rw[c3]at hy;cases hy
  |some u=>
   rw[c3]at hy;cases hy;have hu:=Q1 c3;obtain⟨j,ej⟩:=iv0 _ ((me u.k u.v).mp (Z0 (f:=Tp.kv) hu)).1;have ej:u.v= .int j:=ej;have hi:=(Q2.mp c3).1;refine⟨_,rfl,u.p,_,_,_,rfl,rfl,SqT.of (s8 _ _ (s6' _ _ (tu19 u hu))),rfl,?_⟩;refine CNext.mk (by rw[Q0];exact hi) hDD (bq (by rw[Q0,Q8];lia)) ⟨bN s8 hD,?_⟩;rw[Qr,c3,Qc];show _++ [u.v]=_++ [V.int (inI u.v)];rw[ej];rfl
 .obtain⟨s8,rfl⟩:=w;rw[Q0,QF]at hDD;refine⟨D,ts.map λu=>inI u.v,rfl,by rw[Qu];exact SqL.of hDD,rfl,?_⟩;rw[decide_eq_true rfl];exact q _
end
end SW
namespace ZK
open PySem PySem.W SW L2
theorem fM {P:Params} {x qual:Str} {st:Stmt} {a:Addr} {kV doc pm cdv ct:Value} {an:Option Addr} (l:(K P).lookup a=some (f (D x qual st N kV doc pm an cdv ct)):=by kernel_rfl) (c:codeIn (K P) cdv qual=true:=by kernel_rfl) (k:keepIn (K P) (.ref a)=true:=by kernel_rfl):Fun (K P) x qual st a (D x qual st N kV doc pm an cdv ct):=JD l c k
theorem nA {P:Params} {C:Addr} {x:Str} (h:findIn (K P) (.ref C) x=some none:=by kernel_rfl):NoAttr (K P) C x:=h
theorem fT {P:Params} {x qual:Str} {st:Stmt} {a b:Addr} {kV doc pm cdv ct:Value} {an:Option Addr} (l:(K P).lookup a=some (f (D x qual st (R b) kV doc pm an cdv ct)):=by kernel_rfl) (c:codeIn (K P) cdv qual=true:=by kernel_rfl) (k:keepIn (K P) (.ref a)=true:=by kernel_rfl):JU (K P) x qual st b a (D x qual st (R b) kV doc pm an cdv ct):=Cf l c k
theorem fU {P:Params} {x qual:Str} {st:Stmt} {a b:Addr} {kV doc pm cdv ct:Value} {an:Option Addr} (l:(K P).lookup a=some (f (D x qual st (R b) kV doc pm an cdv ct)):=by kernel_rfl) (c:codeIn (K P) cdv qual=true:=by kernel_rfl) (k:keepIn (K P) (.ref a)=true:=by kernel_rfl):FunD (K P) x qual st a (D x qual st (R b) kV doc pm an cdv ct):=(Cf l c k).1
theorem JR {P:Params}:(K P).lookup 233=some ⟨(T "tuple"),none,.seq #[(.int 0 479),(.int 65536 480)] 0, #[]⟩:=by kernel_rfl
theorem JQ {P:Params}:(K P).lookup 260=some ⟨(T "tuple"),none,.seq #[(.int 0 514),N] 0, #[]⟩:=by kernel_rfl
theorem JP {P:Params}:(K P).lookup 287=some ⟨(T "tuple"),none,.seq #[N,(.int 0 548)] 0, #[]⟩:=by kernel_rfl
theorem JO {P:Params}:(K P).lookup 307=some ⟨(T "tuple"),none,.seq #[(.int 10 574),N] 0, #[]⟩:=by kernel_rfl
theorem T407 {P:Params}:(K P).lookup 407=some ⟨(T "tuple"),none,.seq #[N] 0, #[]⟩:=by kernel_rfl
theorem T422 {P:Params}:(K P).lookup 422=some ⟨(T "tuple"),none,.seq #[(.int 10 730)] 0, #[]⟩:=by kernel_rfl
theorem T815 {P:Params}:(K P).lookup 815=some ⟨(T "tuple"),none,.seq #[(.int 0 1241)] 0, #[]⟩:=by kernel_rfl
end ZK
namespace SW
open PySem L2
set_option maxHeartbeats 0
variable {α:Type} {YP:World->Heap->Prop}
theorem us1 {us:List α} (hl:us.length=1):∃x0,us=[x0]:=by rcases us with _|⟨x0,_|⟨y,t⟩⟩<;>first|exact⟨_,rfl⟩|simp at hl
theorem us2 {us:List α} (hl:us.length=2):∃x0 x1,us=[x0,x1]:=by rcases us with _|⟨x0,_|⟨x1,_|⟨y,t⟩⟩⟩<;>first|exact⟨_,_,rfl⟩|simp at hl
theorem us3 {us:List α} (hl:us.length=3):∃x0 x1 x2,us=[x0,x1,x2]:=by rcases us with _|⟨x0,_|⟨x1,_|⟨x2,_|⟨y,t⟩⟩⟩⟩<;>first|exact⟨_,_,_,rfl⟩|simp at hl
theorem us4 {us:List α} (hl:us.length=4):∃x0 x1 x2 x3,us=[x0,x1,x2,x3]:=by rcases us with _|⟨x0,_|⟨x1,_|⟨x2,_|⟨x3,_|⟨y,t⟩⟩⟩⟩⟩<;>first|exact⟨_,_,_,_,rfl⟩|simp at hl
open ZK in
theorem txt {P:Params} {h:Heap} {mg:Str->Option Value} (X:(ZK.K P).In h) (G:h.Ns mainGlobals mg):Txt (ZK.K P) mg ZK.t:=by
 constructor
 case g_BITS=>exact⟨348,ZA X G (by kernel_rfl)⟩
 case g_PLACES=>exact⟨350,ZA X G (by kernel_rfl)⟩
 case g_STRETCHES_A_KEY=>exact⟨572,ZA X G (by kernel_rfl)⟩
 case g_MOST_IN_LEAF=>exact⟨836,ZA X G (by kernel_rfl)⟩
 case g_LEAST_IN_TWO=>exact⟨838,ZA X G (by kernel_rfl)⟩
 case g_LEAST_SIZE=>exact⟨1012,ZA X G (by kernel_rfl)⟩
 case g_GREATEST_SIZE=>exact⟨1014,ZA X G (by kernel_rfl)⟩
 all_goals first
  |exact ZK.fM
  |exact⟨(by kernel_rfl),(by kernel_rfl),(by kernel_rfl)⟩
  |exact ZA X G (by kernel_rfl)
  |exact ZK.nA
  |exact .all λus hl=>by obtain⟨_,_,rfl⟩:=us2 hl;rfl
  |exact .all λus hl=>by obtain⟨_,rfl⟩:=us1 hl;rfl
  |exact⟨(by kernel_rfl),(by kernel_rfl),(by kernel_rfl),(by kernel_rfl)⟩
  |exact Fc (by kernel_rfl) (by kernel_rfl) (by kernel_rfl) (λz=>absurd z (by decide))
  |exact .all λus hl=>by obtain⟨_,_,_,rfl⟩:=us3 hl;rfl
  |exact PySem.W.mg_none_of X G (by kernel_rfl)
  |exact ZK.fU
  |exact⟨⟨_,_,_,_,_,_,_,_,_,_,_,_,_,_,(by rfl)⟩,⟨[ZK.t.bZ],rfl⟩,(by kernel_rfl),(by kernel_rfl),(by kernel_rfl),(by kernel_rfl)⟩
  |exact .all λus hl=>by obtain⟨_,_,_,_,rfl⟩:=us4 hl;rfl
  |exact Fc (by kernel_rfl) (by kernel_rfl) (by kernel_rfl) (λ_=>rfl)
  |exact cv (ds:=[]) 2 rfl (fT (a:=429)) T422 λ_ _ _ _ _ _ us hl=>by obtain⟨_,_,rfl⟩:=us2 hl;exact⟨_,rfl,rfl⟩
  |exact cv (ds:=[]) 2 rfl (fT (a:=822)) T815 λ_ _ _ _ _ _ us hl=>by obtain⟨_,_,rfl⟩:=us2 hl;exact⟨_,rfl,rfl⟩
  |exact cv (ds:=[]) 3 rfl (fT (a:=240)) JR λ_ _ _ _ _ _ us hl=>by obtain⟨_,_,_,rfl⟩:=us3 hl;exact⟨_,rfl,rfl⟩
  |exact cv (ds:=[]) 3 rfl (fT (a:=267)) JQ λ_ _ _ _ _ _ us hl=>by obtain⟨_,_,_,rfl⟩:=us3 hl;exact⟨_,rfl,rfl⟩
  |exact cv (ds:=[]) 3 rfl (fT (a:=294)) JP λ_ _ _ _ _ _ us hl=>by obtain⟨_,_,_,rfl⟩:=us3 hl;exact⟨_,rfl,rfl⟩
  |exact cv (ds:=[]) 4 rfl (fT (a:=312)) JO λ_ _ _ _ _ _ us hl=>by obtain⟨_,_,_,_,rfl⟩:=us4 hl;exact⟨_,rfl,rfl⟩
  |exact cv (ds:=[]) 4 rfl (fT (a:=414)) T407 λ_ _ _ _ _ _ us hl=>by obtain⟨_,_,_,_,rfl⟩:=us4 hl;exact⟨_,rfl,rfl⟩
  |exact⟨_,cv (ds:=[(.int 0 1241)]) 1 rfl (fT (a:=822)) T815 λ_ _ _ _ _ _ us hl=>by obtain⟨_,rfl⟩:=us1 hl;exact⟨_,rfl,rfl⟩,(.cons ⟨_,rfl⟩ .nil)⟩
  |exact⟨_,cv (ds:=[(.int 0 479),(.int 65536 480)]) 1 rfl (fT (a:=240)) JR λ_ _ _ _ _ _ us hl=>by obtain⟨_,rfl⟩:=us1 hl;exact⟨_,rfl,rfl⟩,(.cons ⟨_,rfl⟩ (.cons ⟨_,rfl⟩ .nil))⟩
  |exact⟨_,cv (ds:=[(.int 0 514),N]) 1 rfl (fT (a:=267)) JQ λ_ _ _ _ _ _ us hl=>by obtain⟨_,rfl⟩:=us1 hl;exact⟨_,rfl,rfl⟩,(.cons ⟨_,rfl⟩ (.cons rfl .nil))⟩
  |exact⟨_,cv (ds:=[(.int 0 548)]) 2 rfl (fT (a:=294)) JP λ_ _ _ _ _ _ us hl=>by obtain⟨_,_,rfl⟩:=us2 hl;exact⟨_,rfl,rfl⟩,(.cons ⟨_,rfl⟩ .nil)⟩
  |exact⟨_,cv (ds:=[(.int 10 574),N]) 2 rfl (fT (a:=312)) JO λ_ _ _ _ _ _ us hl=>by obtain⟨_,_,rfl⟩:=us2 hl;exact⟨_,rfl,rfl⟩,(.cons ⟨_,rfl⟩ (.cons rfl .nil))⟩
  |exact⟨_,cv (ds:=[(.int 10 730)]) 1 rfl (fT (a:=429)) T422 λ_ _ _ _ _ _ us hl=>by obtain⟨_,rfl⟩:=us1 hl;exact⟨_,rfl,rfl⟩,(.cons ⟨_,rfl⟩ .nil)⟩
  |exact⟨_,cv (ds:=[(.int 65536 480)]) 2 rfl (fT (a:=240)) JR λ_ _ _ _ _ _ us hl=>by obtain⟨_,_,rfl⟩:=us2 hl;exact⟨_,rfl,rfl⟩,(.cons ⟨_,rfl⟩ .nil)⟩
  |exact⟨_,cv (ds:=[N,(.int 0 548)]) 1 rfl (fT (a:=294)) JP λ_ _ _ _ _ _ us hl=>by obtain⟨_,rfl⟩:=us1 hl;exact⟨_,rfl,rfl⟩,(.cons rfl (.cons ⟨_,rfl⟩ .nil))⟩
  |exact⟨_,cv (ds:=[N]) 2 rfl (fT (a:=267)) JQ λ_ _ _ _ _ _ us hl=>by obtain⟨_,_,rfl⟩:=us2 hl;exact⟨_,rfl,rfl⟩,(.cons rfl .nil)⟩
  |exact⟨_,cv (ds:=[N]) 3 rfl (fT (a:=312)) JO λ_ _ _ _ _ _ us hl=>by obtain⟨_,_,_,rfl⟩:=us3 hl;exact⟨_,rfl,rfl⟩,(.cons rfl .nil)⟩
  |exact⟨_,cv (ds:=[N]) 3 rfl (fT (a:=414)) T407 λ_ _ _ _ _ _ us hl=>by obtain⟨_,_,_,rfl⟩:=us3 hl;exact⟨_,rfl,rfl⟩,(.cons rfl .nil)⟩
  |exact⟨⟨_,_,_,_,_,_,_,_,_,_,_,_,_,_,(by rfl)⟩,⟨[],rfl⟩,(by kernel_rfl),(by kernel_rfl),(by kernel_rfl),(by kernel_rfl)⟩
theorem walk {l:PySem.W.OpenLaw} {q:Program} {loose:List Str} {XP:(Str->Option Value)->Heap->Prop} {d:DefRec} {K:Params->PySem.W.Frag} (hn:l.most=some 63) (hdf:d.params.defaults=[])
  (hY:∀(w:World) (h:Heap),YP w h->(K w.params).In h) (hd:d.name="law")
  (F:∀(w:World) (mg:Str->Option Value) (h:Heap),(K w.params).In h->h.Ns mainGlobals mg->∃t,Txt (K w.params) mg t):
  PySem.W.WalkO q loose XP YP l.row.toRowW d [] (λf vs=>PySem.call f vs):=by
 refine L2.walk_of (n:=63) (k:=12) (x:="_law_script") (CX:=λ_=>CX0) (sp:=λw=>Er (K w.params)) hn (by decide) hdf ⟨rfl,by decide,by decide⟩ hY (λw mg fa h KX G hfa=>?_) (λ_ _ a ns hl _ hS=>⟨a,ns,rfl,hS,hl,λ_=>rfl⟩) λ_ _ _ _ _ z=>z;obtain⟨t,T⟩:=F w mg h KX G;have e:=hfa.symm.trans ((congrArg mg hd).trans T.KU);cases e;obtain⟨oc,od,kV,doc,pm,an,cdv,ct,osl,e1,lk,hcd⟩:=T.KM.ex;refine⟨t.Cn,λs u=>?_,λbase _ _=>Ji T⟩;rw[e1];exact .of_eq rfl
end SW
open PySem PySem.W PyProof.Rows
set_option maxRecDepth 100000 in
set_option maxHeartbeats 0 in
theorem PySem.Challenge.cw_staywalk_k52_a_page_in_peace_holds : PySem.Challenge.rw_staywalk_k52_a_page_in_peace.Holds := by
 w_on
 refine holds_law ZK.said λsaid=>?_;refine holds_open (q:=ZK.q) (loose:=["BySlots","Up","Down","ask"]) (Xt:=λs=>xlAt ZK.q [] s&&recOk (RowW.records (OpenRow.toRowW (OpenLaw.row PySem.Challenge.rw_staywalk_k52_a_page_in_peace))) s) (XP:=XL ZK.q []) (Yf:=Hook.obs ZK.H) (Ya:=Hook.val ZK.H) (YP:=Hook.says ZK.H) ZK.left (Hook.of ZK.H) (Hook.keeps ZK.H) (λs e=>xl_of s (QE.mp e).1) XL.keeps (by rfl) (by rfl) (by rfl) (λs e=>recFacts_of (QE.mp e).2) (by rfl) (by first|assumption|decide+kernel) (by decide+kernel) ⟨rfl,rfl,rfl,rfl,rfl,by decide+kernel⟩ ?hw ?hc
 (case hw=>w_witness2)
 exact SW.walk (l:=PySem.Challenge.rw_staywalk_k52_a_page_in_peace) rfl rfl (λw h Y=>kIn_of Y) rfl λw mg h KX G=>⟨_,SW.txt KX G⟩
#print axioms PySem.Challenge.cw_staywalk_k52_a_page_in_peace_holds
