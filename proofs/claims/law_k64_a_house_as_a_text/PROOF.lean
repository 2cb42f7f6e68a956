import PyProof.Rows.All
import PySem.Challenge.RW_staywalk_k64_a_house_as_a_text
import KE.KFromBytes
import KE.KIntText
import KE.KItemsList
import KE.KPairComp
import KE.KSortTup
import KE.KIsAll
import KE.KRevIter
import KE.KRevSl
import KE.LcSums
import KE.KDictOf
set_option Elab.async false
set_option linter.all false
set_option maxRecDepth 100000
set_option maxHeartbeats 0
abbrev Q0:=@List.length_map
abbrev Q1:=@List.mem_of_getElem?
abbrev Q2:=@List.getElem?_eq_some_iff
abbrev Q3:=@List.getElem?_eq_getElem
abbrev Q4:=@Nat.le_refl
abbrev Q5:=@List.mem_append
abbrev Q6:=@List.mem_cons_self
abbrev Q7:=@List.mem_map
abbrev Q8:=@List.mem_cons_of_mem
abbrev Q9:=@List.map_append
abbrev Qa:=@List.mem_singleton
abbrev Qb:=@Array.length_toList
abbrev Qc:=@List.getElem?_map
abbrev Qd:=@List.length_append
abbrev Qe:=@List.length_take
abbrev Qf:=@List.length_cons
abbrev Qg:=@List.mem_cons
abbrev Qh:=@List.size_toArray
abbrev Qi:=@Nat.zero_le
abbrev Qj:=@Bool.false_ne_true
abbrev Qk:=@List.pairwise_append
abbrev Ql:=@List.getD_eq_getElem?_getD
abbrev Qm:=@List.append_assoc
abbrev Qn:=@List.take_add_one
abbrev Qo:=@List.map_cons
abbrev Qp:=@List.pairwise_map
abbrev Qq:=@List.map_map
abbrev Qr:=@List.take_of_length_le
abbrev Qs:=@Nat.lt_of_lt_of_le
abbrev Qt:=@Bool.and_eq_true
abbrev Qu:=@PySem.F.plainAttrs_list
abbrev Qv:=@List.mem_append_right
abbrev Qw:=@Option.map_eq_some_iff
abbrev Qx:=@Nat.ne_of_lt
abbrev Qy:=@List.getElem?_set
abbrev Qz:=@List.take_length
abbrev QA:=@Array.getElem?_toList
abbrev QB:=@List.all_eq_true
abbrev QC:=@Int.emod_nonneg
abbrev QD:=@List.length_drop
abbrev QE:=@Int.emod_lt_of_pos
abbrev QF:=@List.length_filter_le
abbrev QG:=@List.take_append_drop
abbrev QH:=@PySem.F.plainAttrs_dict
abbrev QI:=@Array.toList_append
abbrev QJ:=@List.getElem_of_mem
abbrev QK:=@List.length_set
abbrev QL:=@Nat.le_trans
abbrev QM:=@List.map_congr_left
abbrev QN:=@List.nodup_cons
abbrev QO:=@Nat.max_eq_right
abbrev QP:=@List.mem_of_mem_take
abbrev QQ:=@List.drop_eq_getElem_cons
abbrev QR:=@List.not_mem_nil
abbrev QS:=@List.mem_map_of_mem
abbrev QT:=@Int.toNat_natCast
abbrev QU:=@List.getElem?_append_right
abbrev QV:=@Nat.eq_zero_or_pos
abbrev QW:=@List.getElem?_append_left
abbrev QX:=@List.extract_eq_take_drop
abbrev QY:=@List.length_singleton
abbrev QZ:=@PySem.W.kia_one
abbrev Z0:=@Bool.false_eq_true
abbrev Z1:=@List.filter_append
abbrev Z2:=@Int.eq_ofNat_of_zero_le
abbrev Z3:=@List.pairwise_singleton
abbrev Z4:=@List.length_pos_iff
abbrev Z5:=@List.getElem?_eq_none_iff
abbrev Z6:=@List.mem_iff_getElem?
abbrev Z7:=@Int.ne_of_gt
abbrev Z8:=@List.mem_of_mem_eraseIdx
abbrev Z9:=@PySem.F.slot_list_append
abbrev Za:=@PySem.F.type_list_append
abbrev Zb:=@Array.toList_extract
abbrev Zc:=@List.flatten_append
abbrev Zd:=@Nat.le_of_lt
abbrev Ze:=@List.drop_eq_nil_of_le
abbrev Zf:=@PySem.F.plainAttrs_str
abbrev Zg:=@Nat.le_succ
abbrev Zh:=@List.map_take
abbrev Zi:=@List.nodup_nil
abbrev Zj:=@List.contains_cons
abbrev Zk:=@List.drop_zero
abbrev Zl:=@List.pairwise_cons
abbrev Zm:=@List.length_replicate
abbrev Zn:=@List.ne_nil_of_length_pos
abbrev Zo:=@List.flatten_cons
abbrev Zp:=@List.eq_of_mem_replicate
abbrev Zq:=@PySem.W.mg_of
abbrev Zr:=@List.getElem_mem
abbrev Zs:=@PySem.W.kat_cons
abbrev Zt:=@List.eq_nil_of_length_eq_zero
abbrev Zu:=@PySem.W.callWith_K
abbrev Zv:=@PySem.F.slot_dict_keys
abbrev Zw:=@Option.map_some
abbrev Zx:=@PySem.W.kat_yes
abbrev Zy:=@Nat.lt_irrefl
abbrev Zz:=@List.getElem_drop
abbrev ZA:=@List.getElem_take
abbrev ZB:=@Array.getElem?_eq_some_iff
abbrev ZC:=@List.mem_iff_getElem
abbrev ZD:=@Array.perm_iff_toList_perm
abbrev ZE:=@PySem.W.kat_go
abbrev ZF:=@PySem.W.kat_no
abbrev ZG:=@Nat.le_of_eq
abbrev ZH:=@Nat.pow_succ
abbrev ZI:=@List.lookup_cons
abbrev ZJ:=@List.mem_flatMap
abbrev ZL:=@List.pairwise_iff_getElem
abbrev ZM:=@List.find?_cons
abbrev ZN:=@PySem.F.slot_dict_items
abbrev ZO:=@List.getElem?_cons_succ
abbrev ZP:=@Nat.mul_comm
abbrev ZQ:=@Nat.add_zero
abbrev ZR:=@Int.ne_of_lt
abbrev ZS:=@PySem.F.type_dict_keys
abbrev ZT:=@PySem.W.methodCall_KW
abbrev ZU:=@List.perm_append_comm
abbrev ZV:=@List.filter_cons
abbrev ZW:=@List.any_cons
abbrev ZX:=@Array.toArray_toList
abbrev ZY:=@List.mem_append_left
abbrev ZZ:=@Array.push_eq_append
abbrev X0:=@List.mem_of_mem_drop
abbrev X1:=@List.mem_filter
abbrev X2:=@Bool.eq_iff_iff
abbrev X3:=@Nat.zero_add
abbrev X4:=@List.map_id'
abbrev X5:=@Nat.lt_of_le_of_lt
abbrev X6:=@PySem.F.excBase_ValueError
abbrev X7:=@List.getElem?_drop
abbrev X8:=@Int.le_refl
abbrev X9:=@Option.isSome_iff_exists
abbrev Xa:=@List.cons_append
abbrev Xb:=@PySem.F.type_dict_items
abbrev Xc:=@Nat.toDigits_of_lt_base
abbrev Xd:=@List.getElem?_set_self
abbrev Xe:=@Nat.div_div_eq_div_mul
abbrev Xf:=@List.length_pos_of_mem
abbrev Xg:=@List.append_nil
abbrev Xh:=@List.of_mem_zip
abbrev Xi:=@Nat.not_lt_zero
abbrev Xj:=@PySem.W.kat_one
abbrev Xk:=@PySem.F.slot_dict_pop
abbrev Xl:=@Int.mul_ediv_add_emod
abbrev Xm:=@Array.getElem_push_lt
abbrev Xn:=@List.getElem?_append
abbrev Xo:=@List.length_eraseIdx
abbrev Xp:=@Int.mul_nonneg
abbrev Xq:=@Nat.pow_le_pow_right
abbrev Xr:=@List.filterMap_cons
abbrev Xs:=@PySem.W.plainGet_of
abbrev Xu:=@Int.toNat_of_nonneg
abbrev Xv:=@List.map_eq_nil_iff
abbrev Xw:=@List.filter_eq_self
abbrev Xx:=@List.map_drop
abbrev Xy:=@Bool.true_and
abbrev Xz:=@Int.natCast_nonneg
abbrev XA:=@Nat.not_lt
abbrev XB:=@List.eraseIdx_append_of_length_le
abbrev XC:=@Nat.ne_of_gt
abbrev XD:=@List.take_sublist
abbrev XE:=@List.map_nil
abbrev XF:=@Option.isSome_map
abbrev XG:=@Int.mul_comm
abbrev XH:=@Bool.or_true
abbrev XI:=@Nat.lt_or_ge
abbrev XJ:=@Array.toList_push
abbrev XM:=@Nat.lt_succ_of_lt
abbrev XQ:=@List.foldl_append
abbrev XR:=@List.eraseIdxIfInBounds_toArray
abbrev XS:=@Nat.lt_succ_self
abbrev XT:=@Array.toList_map
abbrev XU:=@List.map_snd_zip
abbrev XV:=@PySem.W.kat_kind
abbrev XW:=@Option.getD_some
abbrev XX:=@List.mem_flatten
abbrev XY:=@Int.mul_le_mul_of_nonneg_right
abbrev XZ:=@Int.mul_le_mul_of_nonneg_left
abbrev K0:=@List.length_nil
abbrev K3:=@List.foldl_cons
abbrev K4:=@PySem.W.kat_nil
abbrev K5:=@PySem.F.slot_dict_setdefault
abbrev K7:=@Int.ediv_nonneg
abbrev K8:=@Int.lt_ediv_add_one_mul_self
abbrev K9:=@Nat.toDigits_append_toDigits
abbrev Kv:=@PySem.F.slot_str_startswith
abbrev Kw:=@PySem.F.type_str_startswith
abbrev Kx:=@List.mem_range
abbrev Ky:=@Bool.and_false
abbrev Kz:=@List.drop_drop
abbrev KA:=@Array.toList_setIfInBounds
abbrev KB:=@PySem.W.kat_lt
abbrev KC:=@List.perm_ext_iff_of_nodup
namespace L2
open PySem PySem.Spec PyProof.Rows
noncomputable def aM (s:Stmt) (j:Nat):Stmt:=match s with
 | .ClassDef _ _ _ body _ _ _ _ _ _ _=>body.getD j (.Pass ⟨0,0,0,0⟩)
 |_=> .Pass ⟨0,0,0,0⟩
noncomputable def fH (s:Stmt):Arguments:=match s with
 | .FunctionDef _ a _ _ _ _ _ _ _ _=>a
 |_=>{posonlyargs:=[],args:=[],vararg:=none,kwonlyargs:=[],kw_defaults:=[],kwarg:=none,defaults:=[]}
noncomputable def cp (s:Stmt):List Stmt:=match s with
 | .FunctionDef _ _ b _ _ _ _ _ _ _=>b
 |_=> []
noncomputable def ak (s:Stmt):Scope:=match s with
 | .FunctionDef _ _ _ _ _ _ sc _ _ _=>sc
 |_=>{kind:= .function,names:=[],isGenerator:=false,isCoroutine:=false}
end L2
namespace HD
open PySem PySem.W
noncomputable def Fh (p:Program) (w:World) (n₀:Nat) (ann:Option Value):Nat->SharedT->Thread->Option SharedT
 |0,_,_=>none
 |n+1,s,t=>match through t with
  |true=>some s
  |false=>match Fast.tw6613529449190102663 n₀ ann t with
   |false=>none
   |true=>match Fast.tw10156331382660048174 (Fast.tw11892475500146522536 Fast.tw14364793385576792824) p w s t with
    |some (s',t')=>Fh p w n₀ ann n s' t'
    |none=>none
theorem Aw {p:Program} {w:World} {z:Nat} {I:Option Value}:∀{n:Nat} {s s':SharedT} {t:Thread},Fh p w z I n s t=some s'->topRun treeTable p w z I n s.abs t=some s'.abs
 |0,_,_,_,h=>by cases h
 |n+1,s,s',t,h=>by
  unfold Fh at h;rw[<-Fast.te6613529449190102663,<-Fast.te10156331382660048174,<-Fast.te11892475500146522536,<-Fast.te14364793385576792824]at h;unfold topRun;cases U:through t with
  |true=>rw[U]at h;cases h;rfl
  |false=>
   rw[U]at h;cases hk:stepOk z I t with
   |false=>rw[hk]at h;cases h
   |true=>
    rw[hk]at h;cases O:stepT (denote treeTable) p w s t with
    |none=>rw[O]at h;cases h
    |some x=>
     obtain⟨Y,Z⟩:=x;rw[O]at h;show(match step (denote treeTable) p w s.abs t with| .go s' t'=>topRun treeTable p w z I n s' t'| .halt _ _=>none)=_;rw[stepT_spec O];exact Aw h
noncomputable def layT:List Obj->BT->Nat->Option (BT×Nat)
 | [],t,n=>some (t,n)
 |o::r,t,n=>match ((t.ins n o).get n).isSome with
  |true=>layT r (t.ins n o) (n+1)
  |false=>none
theorem AQ {z:Life}:∀{l:List Obj} {t t':BT} {n n':Nat},layT l t n=some (t',n')->absHeap t' n' z=⟨(absHeap t n z).objs++l.toArray,z⟩
 | [],t,t',n,n',h=>by
  cases h;rw[Array.append_empty];rfl
 |o::r,t,t',n,n',h=>by
  unfold layT at h;cases g:((t.ins n o).get n).isSome with
  |false=>rw[g]at h;cases h
  |true=>
   rw[g]at h;rw[AQ h,absHeap_ins g];show Heap.mk _ _=Heap.mk _ _;congr 1;show(absHeap t n z).objs.push o++r.toArray=_;rw[<-Array.append_singleton,Array.append_assoc];congr 1;simp
noncomputable def toT (s:Shared):Option SharedT:=match layT s.heap.objs.toList .nil 0 with
 |some (t,n)=>some ⟨t,n,s.heap.life,s.gens,s.drawn,s.toks,s.os⟩
 |none=>none
theorem GU {s:Shared} {S:SharedT} (h:toT s=some S):S.abs=s:=by
 unfold toT at h;cases e:layT s.heap.objs.toList .nil 0 with
 |none=>rw[e]at h;cases h
 |some x=>
  obtain⟨t,n⟩:=x;rw[e]at h;cases h;obtain⟨⟨I,z⟩,gens,drawn,toks,os⟩:=s;show Shared.mk (absHeap t n z) _ _ _ _=_;rw[AQ e];show Shared.mk (Heap.mk (#[]++I.toList.toArray) z) _ _ _ _=_;rw[ZX,Array.empty_append]
noncomputable def HW (p:Program) (w:World) (N:Nat) (s₀:Shared):Option Shared:=match toT s₀ with
 |some S=>(Fh p w S.n (s₀.heap.nsMap mainGlobals "__annotations__") N S (topStub p)).map SharedT.abs
 |none=>none
theorem FT {p:Program} {w:World} {N:Nat} {s₀ s₁:Shared} (h:HW p w N s₀=some s₁):topRun treeTable p w s₀.heap.objs.size (s₀.heap.nsMap mainGlobals "__annotations__") N s₀ (topStub p)=some s₁:=by
 unfold HW at h;cases e:toT s₀ with
 |none=>rw[e]at h;cases h
 |some S=>
  rw[e]at h;obtain⟨I,h1,rfl⟩:=Qw.mp h;have ea:=GU e;have z:S.n=s₀.heap.objs.size:=by
   rw[<-ea];exact(absHeap_size _ _ _).symm
  rw[z]at h1;have:=Aw h1;rw[ea]at this;exact this
noncomputable def endP (p:Program) (w:World) (N:Nat):Option Shared:=((Fast.tw10274390034422433532 Fast.tw14364793385576792824 (opening p) w N (start (opening p)).1 (start (opening p)).2).bind (Fast.tw14289696077712309145 p)).bind λs₀=>match s₀.heap.isNs mainGlobals&&s₀.gens.size==0 with
 |true=>(HW p w N s₀).bind λs₁=>match staticsOk (importedModules p.main.body) s₀.heap s₁.heap&&namesBound p s₁.heap&&gensDone s₁&&laidKept s₀.heap s₁.heap with
  |true=>some s₁
  |false=>none
 |false=>none
noncomputable def lA (p q:Program) (N:Nat) (w:World):=(endP p w N).map λs=>(Fast.tw5160383126252970620 (R.mapR (λx=>x.name) (Fast.tw3399658132070893891 q)) (Fast.tw5991557255702980513 q) [] {s with gens:= #[]},s.heap.bltView)
noncomputable def lB (p q:Program) (loose:List Str) (Xt:Shared->Bool) (N:Nat) (w:World):=(endP p w N).map λs=>(Fast.tw10880121769531294198 s.heap (Fast.tw821141287760084731 q loose) (R.mapR (λx=>x.name) (Fast.tw3399658132070893891 q)) (R.mapR (λx=>x.fst) (Fast.tw7409074990110511671 q)) (R.mapR (λx=>x.name) (Fast.tw13664370479719496447 q (Fast.tw821141287760084731 q loose)))&&Fast.tw14722251495701143533 s.heap (importedModules p.main.body)&&s.heap.isNs mainGlobals&&s.heap.isNs builtinsNs&&Fast.tw10994771534591457954 q s.heap&&Xt s&&(s.gens.size==0),Fast.tw479339242167458305 q s)
noncomputable def lC (p q:Program) (loose:List Str) (N:Nat) (w:World):=(endP p w N).map λs=>(Fast.tw16090120013241838585 q (Fast.tw3247288618530077131 q) s,Fast.tw2386780881361962483 q (Fast.tw821141287760084731 q loose) s,Fast.tw11698064438423848299 q loose s,Fast.tw7317090234206586261 q s,Fast.tw7369524293546568484 q loose s)
theorem left_of {p q:Program} {loose:List Str} {Xt:Shared->Bool} {α:Type} {Yf:Shared->α} {Ya:World->α} {N:Nat} (Y:∀w,lA p q N w=some ((openGood q loose).1,(openGood q loose).2.1)) (Z:∀w,lB p q loose Xt N w=some (true,true)) (hC:∀w,lC p q loose N w=some (openGood q loose).2.2.2.2) (hD:∀w,(endP p w N).map Yf=some (Ya w)):LeftO p q loose Xt Yf Ya N:=λw=>by
 obtain⟨s₁,e,a⟩:=Qw.mp (Y w);obtain⟨_,e2,b⟩:=Qw.mp (Z w);rw[e]at e2;cases e2;obtain⟨_,I,c⟩:=Qw.mp (hC w);rw[e]at I;cases I;obtain⟨_,O,d⟩:=Qw.mp (hD w);rw[e]at O;cases O;obtain⟨a1,a2⟩:=Prod.mk.inj a;obtain⟨b1,b2⟩:=Prod.mk.inj b;have g:Fast.tw4187177175401517315 q loose (importedModules p.main.body) Xt true s₁=openGood q loose:=by
  exact Prod.ext a1 (Prod.ext a2 (Prod.ext b1 (Prod.ext b2 c)))
 rw[<-Fast.te4187177175401517315]at g;unfold endP at e;rw[<-Fast.te10274390034422433532,<-Fast.te14364793385576792824,<-Fast.te14289696077712309145]at e;obtain⟨s₀,h0,e⟩:=Option.bind_eq_some_iff.mp e;unfold openEnds fencedOpening;rw[h0];show(topFrom treeTable p w N s₀).map _=_;unfold topFrom;cases U:(s₀.heap.isNs mainGlobals&&s₀.gens.size==0)with
 |false=>rw[U]at e;cases e
 |true=>
  rw[U]at e;obtain⟨s₂,h1,e⟩:=Option.bind_eq_some_iff.mp e;show Option.map _ ((topRun treeTable p w s₀.heap.objs.size (s₀.heap.nsMap mainGlobals "__annotations__") N s₀ (topStub p)).bind _)=_;rw[FT h1];cases z:(staticsOk (importedModules p.main.body) s₀.heap s₂.heap&&namesBound p s₂.heap&&gensDone s₂&&laidKept s₀.heap s₂.heap)with
  |false=>rw[z]at e;cases e
  |true=>
   rw[z]at e;cases e;show Option.map _ (match (staticsOk (importedModules p.main.body) s₀.heap s₁.heap&&namesBound p s₁.heap&&gensDone s₁&&laidKept s₀.heap s₁.heap)with|true=>some s₁|false=>none)=_;rw[z];show some (_,_)=some (_,_);rw[g,d]
end HD
namespace SW
open PySem L2
set_option maxHeartbeats 0
noncomputable def top (i:Nat):Stmt:=PySem.Challenge.pw_staywalk_k64_a_house_as_a_text.main.body.getD i (.Pass ⟨0,0,0,0⟩)
noncomputable abbrev lG:Stmt:=aM (top 5) 0
noncomputable abbrev lF:Stmt:=aM (top 6) 0
noncomputable abbrev fV:Stmt:=aM (top 7) 0
noncomputable abbrev dZ:Stmt:=aM (top 8) 0
noncomputable abbrev rV:Stmt:=top 12
noncomputable abbrev o9:Stmt:=top 13
noncomputable abbrev mG:Stmt:=top 14
noncomputable abbrev o3:Stmt:=top 15
noncomputable abbrev jh:Stmt:=top 16
noncomputable abbrev o7:Stmt:=top 17
noncomputable abbrev mH:Stmt:=top 19
noncomputable abbrev pc:Stmt:=top 21
noncomputable abbrev u9:Stmt:=top 22
noncomputable abbrev g8:Stmt:=aM (top 23) 0
noncomputable abbrev mJ:Stmt:=aM (top 24) 0
noncomputable abbrev jZ:Stmt:=aM (top 24) 1
noncomputable abbrev dz:Stmt:=top 27
noncomputable abbrev jX:Stmt:=top 28
noncomputable abbrev fS:Stmt:=top 29
noncomputable abbrev fX:Stmt:=aM (top 33) 0
noncomputable abbrev eQ:Stmt:=aM (top 33) 1
noncomputable abbrev dE:Stmt:=aM (top 33) 2
noncomputable abbrev ie:Stmt:=aM (top 33) 3
noncomputable abbrev j2:Stmt:=aM (top 33) 4
noncomputable abbrev cj:Stmt:=aM (top 33) 6
noncomputable abbrev dD:Stmt:=aM (top 33) 8
noncomputable abbrev cN:Stmt:=aM (top 33) 9
noncomputable abbrev cv:Stmt:=aM (top 33) 10
noncomputable abbrev hZ:Stmt:=aM (top 35) 0
noncomputable abbrev hX:Stmt:=aM (top 35) 1
noncomputable abbrev dC:Stmt:=aM (top 35) 2
noncomputable abbrev dB:Stmt:=aM (top 35) 3
noncomputable abbrev gK:Stmt:=top 39
noncomputable abbrev hU:Stmt:=aM (top 40) 0
noncomputable abbrev jp:Stmt:=aM (top 40) 1
noncomputable abbrev hV:Stmt:=aM (top 40) 2
noncomputable abbrev jr:Stmt:=aM (top 40) 3
noncomputable abbrev jq:Stmt:=aM (top 40) 4
noncomputable abbrev hJ:Stmt:=aM (top 40) 5
noncomputable abbrev eP:Stmt:=aM (top 40) 6
noncomputable abbrev fW:Stmt:=aM (top 40) 7
noncomputable abbrev cV:Stmt:=aM (top 40) 9
noncomputable abbrev hI:Stmt:=aM (top 40) 10
noncomputable abbrev dY:Stmt:=aM (top 40) 11
noncomputable abbrev dA:Stmt:=aM (top 40) 12
noncomputable abbrev c6:Stmt:=aM (top 40) 13
noncomputable abbrev c7:Stmt:=aM (top 40) 14
noncomputable abbrev ii:Stmt:=aM (top 42) 0
noncomputable abbrev jt:Stmt:=aM (top 42) 1
noncomputable abbrev ik:Stmt:=aM (top 42) 2
noncomputable abbrev ju:Stmt:=aM (top 42) 3
noncomputable abbrev ig:Stmt:=aM (top 42) 5
noncomputable abbrev fZ:Stmt:=aM (top 42) 7
noncomputable abbrev fY:Stmt:=aM (top 42) 8
noncomputable abbrev ij:Stmt:=aM (top 42) 11
noncomputable abbrev js:Stmt:=aM (top 42) 13
noncomputable abbrev cz:Stmt:=aM (top 42) 14
noncomputable abbrev im:Stmt:=aM (top 42) 15
noncomputable abbrev bQ:Stmt:=aM (top 42) 16
noncomputable abbrev cO:Stmt:=aM (top 42) 17
noncomputable abbrev eO:Stmt:=top 46
noncomputable abbrev ji:Stmt:=top 47
noncomputable abbrev rW:Stmt:=top 49
noncomputable abbrev kQ:Stmt:=top 50
noncomputable abbrev wy:Stmt:=top 51
noncomputable abbrev jj:Stmt:=top 52
noncomputable abbrev jo:Stmt:=top 54
noncomputable abbrev mI:Stmt:=top 55
noncomputable abbrev jk:Stmt:=top 56
noncomputable abbrev jY:Stmt:=top 57
noncomputable abbrev gL:Stmt:=top 58
noncomputable abbrev fw:Stmt:=top 59
noncomputable abbrev At:Stmt:=top 60
set_option genSizeOf false in
set_option genInjectivity false in
structure Adr where
 EQ:Addr
 lP:FuncData
 EO:Addr
 lO:FuncData
 gE:Addr
 gw:FuncData
 eK:Addr
 eF:FuncData
 y3:Addr
 tI:FuncData
 vW:Addr
 pP:FuncData
 tR:Addr
 mV:FuncData
 vT:Addr
 pL:FuncData
 oB:Addr
 jA:FuncData
 vU:Addr
 pN:FuncData
 tS:Addr
 mW:FuncData
 vX:Addr
 pQ:FuncData
 CF:Addr
 vJ:FuncData
 iR:Addr
 iz:FuncData
 tU:Addr
 gv:FuncData
 p9:Addr
 kF:FuncData
 kK:Addr
 gu:FuncData
 p5:Addr
 kB:FuncData
 kJ:Addr
 gs:FuncData
 kM:Addr
 gy:FuncData
 mf:Addr
 iJ:FuncData
 gY:Addr
 dS:FuncData
 l5:Addr
 iI:FuncData
 tV:Addr
 kG:FuncData
 gX:Addr
 dR:FuncData
 gW:Addr
 dQ:FuncData
 fu:Addr
 cR:FuncData
 e7:Addr
 cx:FuncData
 l4:Addr
 iH:FuncData
 lZ:Addr
 iG:FuncData
 gV:Addr
 dP:FuncData
 gU:Addr
 dO:FuncData
 p6:Addr
 kC:FuncData
 lX:Addr
 iE:FuncData
 oJ:Addr
 jG:FuncData
 lY:Addr
 iF:FuncData
 oM:Addr
 jI:FuncData
 oK:Addr
 jH:FuncData
 lW:Addr
 iD:FuncData
 lV:Addr
 iC:FuncData
 kL:Addr
 gx:FuncData
 lU:Addr
 iB:FuncData
 lT:Addr
 iA:FuncData
 jd:Addr
 eE:FuncData
 gT:Addr
 dN:FuncData
 gF:Addr
 da:FuncData
 gG:Addr
 de:FuncData
 mi:Addr
 iM:FuncData
 oO:Addr
 jK:FuncData
 mn:Addr
 iO:FuncData
 oP:Addr
 jL:FuncData
 mh:Addr
 iK:FuncData
 kO:Addr
 dU:FuncData
 kN:Addr
 gA:FuncData
 mj:Addr
 iN:FuncData
 oN:Addr
 jJ:FuncData
 je:Addr
 cH:FuncData
 mr:Addr
 iP:FuncData
 du:Addr
 bR:FuncData
 fv:Addr
 cS:FuncData
 lR:Addr
 iy:FuncData
 oC:Addr
 jB:FuncData
 y4:Addr
 tJ:FuncData
 vV:Addr
 pO:FuncData
 Bo:Addr
 xn:FuncData
 oE:Addr
 jC:FuncData
 oH:Addr
 jE:FuncData
 tT:Addr
 mX:FuncData
 oG:Addr
 jD:FuncData
 p8:Addr
 kE:FuncData
 p7:Addr
 kD:FuncData
 oI:Addr
 jF:FuncData
 GL:Addr
 Be:FuncData
 bH:Addr
 Cw:Addr
 gB:Addr
 Bg:Addr
 Bf:Addr
 i9:Addr
 eI:Addr
 fJ:Addr
 i8:Addr
 m4:Addr
 bn:Addr
 cZ:Addr
 aU:Addr
 az:Addr
end SW
namespace ZK
open PySem PySem.W SW L2
noncomputable abbrev N:Value:= .none
noncomputable abbrev B (b:Bool):Value:= .bool b
noncomputable abbrev I (i:Int):Value:= .int i 0
noncomputable abbrev S (x:Str) (t:Nat):Value:= .str x t
noncomputable abbrev F (t:Nat):Value:= .str "/claim/cut.py" t
noncomputable abbrev R (a:Addr):Value:= .ref a
noncomputable abbrev T (n:String):Value:= .type n
noncomputable abbrev E (P:Params) (x:Str) (t:Nat) (v:Value):DictEntry:=⟨PyData.keyHash P x,.str x t,v⟩
noncomputable abbrev c (vs:List Value):Obj:=⟨.type "code",none,.fields vs.toArray, #[]⟩
noncomputable abbrev o (n:Str) (a:Nat) (m:Str) (b d:Nat) (e g h i j:Int) (k:Addr) (l:Int) (r s t u:Addr) (v w:Int) (x:Nat):Obj:=c [S n a,S m b,F d,I e,I g,I h,I i,I j,R k,B true,I l,R r,N,R s,R t,R u,I v,I w,F x]
noncomputable abbrev D (nm qn:Str) (s:Stmt) (df kV dc pm:Value) (an:Option Addr) (cd ct:Value):FuncData:=fnOf nm qn (fH s) (cp s) (ak s) df kV dc pm an cd ct
noncomputable abbrev f (d:FuncData):Obj:=⟨.type "function",none,.func d, #[]⟩
noncomputable def t:Adr:=⟨72,D "__init__" "NoKey.__init__" lG N N N (S "staywalk.errors" 194) none (R 71) N,91,D "__init__" "Twice.__init__" lF N N N (S "staywalk.errors" 194) none (R 90) N,110,D "__init__" "TooOld.__init__" fV N N N (S "staywalk.errors" 194) none (R 109) N,129,D "__init__" "NoMoment.__init__" dZ N N N (S "staywalk.errors" 194) none (R 128) N,141,D "turned" "turned" rV N N N (S "staywalk.bits" 346) none (R 140) N,148,D "mark_of" "mark_of" o9 N N N (S "staywalk.bits" 346) none (R 147) N,155,D "place_of" "place_of" mG N N N (S "staywalk.bits" 346) none (R 154) N,162,D "slot_of" "slot_of" o3 N N N (S "staywalk.bits" 346) none (R 161) N,169,D "stretch_of" "stretch_of" jh N N N (S "staywalk.bits" 346) none (R 168) N,176,D "slot_at" "slot_at" o7 N N N (S "staywalk.bits" 346) none (R 175) N,183,D "is_whole" "is_whole" mH N N N (S "staywalk.wholes" 401) none (R 182) N,190,D "is_from" "is_from" pc N N N (S "staywalk.tokens" 410) none (R 189) N,197,D "word_of" "word_of" u9 N N N (S "staywalk.tokens" 410) none (R 196) N,211,D "__init__" "Token.__init__" g8 N N N (S "staywalk.tokens" 410) none (R 210) N,240,D "__init__" "Up.__init__" mJ (R 233) N N (S "staywalk.tokens" 410) none (R 239) N,247,D "holds" "Up.holds" jZ N N N (S "staywalk.tokens" 410) none (R 246) N,284,D "keys_of_page" "keys_of_page" dz N N N (S "staywalk.asks" 535) none (R 283) N,291,D "keys_near" "keys_near" jX N N N (S "staywalk.asks" 535) none (R 290) N,298,D "token_behind" "token_behind" fS N N N (S "staywalk.asks" 535) none (R 297) N,312,D "__init__" "Leaves.__init__" fX N N N (S "staywalk.leaves" 560) none (R 311) N,317,D "add" "Leaves.add" eQ N N N (S "staywalk.leaves" 560) none (R 316) N,324,D "discard" "Leaves.discard" dE N N N (S "staywalk.leaves" 560) none (R 323) N,331,D "has" "Leaves.has" ie N N N (S "staywalk.leaves" 560) none (R 330) N,336,D "many" "Leaves.many" j2 N N N (S "staywalk.leaves" 560) none (R 335) N,348,D "from_on" "Leaves.from_on" cj N N N (S "staywalk.leaves" 560) none (R 347) N,360,D "leaf_of" "Leaves.leaf_of" dD N N N (S "staywalk.leaves" 560) none (R 359) N,367,D "part_leaf" "Leaves.part_leaf" cN N N N (S "staywalk.leaves" 560) none (R 366) N,374,D "join_small" "Leaves.join_small" cv N N N (S "staywalk.leaves" 560) none (R 373) N,395,D "__init__" "Makes.__init__" hZ N N N (S "staywalk.makes" 673) none (R 394) N,402,D "note" "Makes.note" hX N N N (S "staywalk.makes" 673) none (R 401) N,409,D "all_told" "Makes.all_told" dC N N N (S "staywalk.makes" 673) none (R 408) N,416,D "value_at" "Makes.value_at" dB N N N (S "staywalk.makes" 673) none (R 415) N,435,D "empty_row" "empty_row" gK N N N (S "staywalk.slots" 736) none (R 434) N,449,D "__init__" "Slots.__init__" hU N N N (S "staywalk.slots" 736) none (R 448) N,456,D "put" "Slots.put" jp N N N (S "staywalk.slots" 736) none (R 455) N,463,D "drop" "Slots.drop" hV N N N (S "staywalk.slots" 736) none (R 462) N,470,D "get" "Slots.get" jr N N N (S "staywalk.slots" 736) none (R 469) N,477,D "has" "Slots.has" jq N N N (S "staywalk.slots" 736) none (R 476) N,484,D "many" "Slots.many" hJ N N N (S "staywalk.slots" 736) none (R 483) N,489,D "rows" "Slots.rows" eP N N N (S "staywalk.slots" 736) none (R 488) N,496,D "moved" "Slots.moved" fW N N N (S "staywalk.slots" 736) none (R 495) N,508,D "span" "Slots.span" cV N N N (S "staywalk.slots" 736) none (R 507) N,515,D "stop" "Slots.stop" hI N N N (S "staywalk.slots" 736) none (R 514) N,522,D "cell_of" "Slots.cell_of" dY N N N (S "staywalk.slots" 736) none (R 521) N,529,D "lying_at" "Slots.lying_at" dA N N N (S "staywalk.slots" 736) none (R 528) N,536,D "move_slot" "Slots.move_slot" c6 N N N (S "staywalk.slots" 736) none (R 535) N,543,D "begin_row" "Slots.begin_row" c7 N N N (S "staywalk.slots" 736) none (R 542) N,564,D "__init__" "House.__init__" ii N N N (S "staywalk.house" 899) none (R 563) N,571,D "put" "House.put" jt N N N (S "staywalk.house" 899) none (R 570) N,578,D "drop" "House.drop" ik N N N (S "staywalk.house" 899) none (R 577) N,585,D "get" "House.get" ju N N N (S "staywalk.house" 899) none (R 584) N,599,D "many" "House.many" ig N N N (S "staywalk.house" 899) none (R 598) N,614,D "diary" "House.diary" fZ (R 607) N N (S "staywalk.house" 899) none (R 613) N,621,D "makes" "House.makes" fY N N N (S "staywalk.house" 899) none (R 620) N,642,D "held" "House.held" ij N N N (S "staywalk.house" 899) none (R 641) N,656,D "was" "House.was" js N N N (S "staywalk.house" 899) none (R 655) N,662,D "page_at" "House.page_at" cz (R 657) N N (S "staywalk.house" 899) none (R 661) N,669,D "done" "House.done" im N N N (S "staywalk.house" 899) none (R 668) N,676,D "refuse_outside" "House.refuse_outside" bQ N N N (S "staywalk.house" 899) none (R 675) N,683,D "value_then" "House.value_then" cO N N N (S "staywalk.house" 899) none (R 682) N,695,D "are_figures" "are_figures" eO N N N (S "staywalk.words" 1072) none (R 694) N,702,D "read_whole" "read_whole" ji N N N (S "staywalk.words" 1072) none (R 701) N,709,D "row_of" "row_of" rW N N N (S "staywalk.kept" 1093) none (R 708) N,714,D "rows_of" "rows_of" kQ N N N (S "staywalk.kept" 1093) none (R 713) N,721,D "shown" "shown" wy N N N (S "staywalk.kept" 1093) none (R 720) N,728,D "read_house" "read_house" jj N N N (S "staywalk.kept" 1093) none (R 727) N,735,D "_law_drawn" "_law_drawn" jo N N N (S "law_staywalk_k64_a_house_as_a_text" 1128) none (R 734) N,742,D "_law_key" "_law_key" mI N N N (S "law_staywalk_k64_a_house_as_a_text" 1128) none (R 741) N,749,D "_law_value" "_law_value" jk N N N (S "law_staywalk_k64_a_house_as_a_text" 1128) none (R 748) N,756,D "_law_deed" "_law_deed" jY N N N (S "law_staywalk_k64_a_house_as_a_text" 1128) none (R 755) N,761,D "_law_past" "_law_past" gL N N N (S "law_staywalk_k64_a_house_as_a_text" 1128) none (R 760) N,766,D "_law_alike" "_law_alike" fw N N N (S "law_staywalk_k64_a_house_as_a_text" 1128) none (R 765) N,771,D "law" "law" At N N N (S "law_staywalk_k64_a_house_as_a_text" 1128) none (R 770) N,31,44,56,75,94,113,132,221,250,277,377,426,546,686⟩
noncomputable def K:Params->Frag:=λP=>(nat_lit 2,⟨N,none,.dict #[] 0, #[]⟩)::
(nat_lit 3,⟨(T "dict"),none,.dict #[E P "__name__" 165 (S "law_staywalk_k64_a_house_as_a_text" 1128),E P "__doc__" 166 N,E P "__package__" 167 N,E P "__loader__" 168 (.builtin "__main__.__loader__#opaque"),E P "__spec__" 169 N,E P "__annotations__" 170 (R 6),E P "__builtins__" 171 (R 4),E P "__file__" 173 (S "/claim/cut.py" 172),E P "__cached__" 174 N,E P "_wall" 193 (R 21),E P "WalkError" 213 (R 31),E P "NoToken" 229 (R 44),E P "NoText" 245 (R 56),E P "NoKey" 270 (R 75),E P "Twice" 295 (R 94),E P "TooOld" 320 (R 113),E P "NoMoment" 345 (R 132),E P "BITS" 349 (.int 16 348),E P "PLACES" 351 (.int 65536 350),E P "turned" 361 (R 141),E P "mark_of" 368 (R 148),E P "place_of" 375 (R 155),E P "slot_of" 383 (R 162),E P "stretch_of" 392 (R 169),E P "slot_at" 400 (R 176),E P "is_whole" 409 (R 183),E P "is_from" 419 (R 190),E P "word_of" 426 (R 197),E P "Token" 466 (R 221),E P "Up" 500 (R 250),E P "Down" 534 (R 277),E P "keys_of_page" 542 (R 284),E P "keys_near" 551 (R 291),E P "token_behind" 559 (R 298),E P "MOST_IN_LEAF" 563 (.int 8 562),E P "LEAST_IN_TWO" 565 (.int 5 564),E P "Leaves" 672 (R 377),E P "Makes" 735 (R 426),E P "LEAST_SIZE" 739 (.int 4 738),E P "GREATEST_SIZE" 741 (.int 256 740),E P "empty_row" 747 (R 435),E P "Slots" 898 (R 546),E P "House" 1071 (R 686),E P "FIGURES" 1075 (S "0123456789" 1074),E P "MOST_FIGURES" 1077 (.int 60 1076),E P "are_figures" 1083 (R 695),E P "read_whole" 1092 (R 702),E P "row_of" 1102 (R 709),E P "rows_of" 1108 (R 714),E P "shown" 1115 (R 721),E P "read_house" 1127 (R 728),E P "_law_drawn" 1138 (R 735),E P "_law_key" 1147 (R 742),E P "_law_value" 1154 (R 749),E P "_law_deed" 1168 (R 756),E P "_law_past" 1174 (R 761),E P "_law_alike" 1180 (R 766),E P "law" 1186 (R 771)] 58, #[]⟩)::
(nat_lit 30,⟨(T "dict"),none,.dict #[E P "__module__" 203 (S "staywalk.errors" 194),E P "__firstlineno__" 207 (.int 5 206),E P "__static_attributes__" 208 (R 29),E P "__weakref__" 210 (R 32),E P "__doc__" 211 N] 3, #[]⟩)::
(nat_lit 31,⟨(T "type"),none,.cls ⟨"WalkError",[(T "ValueError")],[(R 31),(T "ValueError"),(T "Exception"),(T "BaseException"),(T "object")],30,"WalkError",true,[],[(R 44),(R 56),(R 75),(R 94),(R 113),(R 132)],false,none,false⟩, #[some (R 22),none,some (S "WalkError" 196),some (S "WalkError" 204),some (.builtin "ValueError.__new__"),some (B true)]⟩)::
(nat_lit 43,⟨(T "dict"),none,.dict #[E P "__module__" 221 (S "staywalk.errors" 194),E P "__firstlineno__" 225 (.int 7 224),E P "__static_attributes__" 226 (R 42),E P "__doc__" 227 N] 2, #[]⟩)::
(nat_lit 44,⟨(T "type"),none,.cls ⟨"NoToken",[(R 31)],[(R 44),(R 31),(T "ValueError"),(T "Exception"),(T "BaseException"),(T "object")],43,"NoToken",true,[],[],false,none,false⟩, #[some (R 35),none,some (S "NoToken" 214),some (S "NoToken" 222),some (.builtin "ValueError.__new__"),some (B true)]⟩)::
(nat_lit 55,⟨(T "dict"),none,.dict #[E P "__module__" 237 (S "staywalk.errors" 194),E P "__firstlineno__" 241 (.int 9 240),E P "__static_attributes__" 242 (R 54),E P "__doc__" 243 N] 2, #[]⟩)::
(nat_lit 56,⟨(T "type"),none,.cls ⟨"NoText",[(R 31)],[(R 56),(R 31),(T "ValueError"),(T "Exception"),(T "BaseException"),(T "object")],55,"NoText",true,[],[],false,none,false⟩, #[some (R 47),none,some (S "NoText" 230),some (S "NoText" 238),some (.builtin "ValueError.__new__"),some (B true)]⟩)::
(nat_lit 71,o "__init__" 258 "NoKey.__init__" 259 260 13 2 0 0 3 66 181 67 68 69 70 263 13 264)::
(nat_lit 72,f t.lP)::
(nat_lit 74,⟨(T "dict"),none,.dict #[E P "__module__" 253 (S "staywalk.errors" 194),E P "__firstlineno__" 257 (.int 11 256),E P "__init__" 265 (R 72),E P "__static_attributes__" 267 (R 73),E P "__doc__" 268 N] 2, #[]⟩)::
(nat_lit 75,⟨(T "type"),none,.cls ⟨"NoKey",[(R 31)],[(R 75),(R 31),(T "ValueError"),(T "Exception"),(T "BaseException"),(T "object")],74,"NoKey",true,[],[],false,none,false⟩, #[some (R 59),none,some (S "NoKey" 246),some (S "NoKey" 254),some (.builtin "ValueError.__new__"),some (B true)]⟩)::
(nat_lit 90,o "__init__" 283 "Twice.__init__" 284 285 18 2 0 0 3 85 181 86 87 88 89 288 18 289)::
(nat_lit 91,f t.lO)::
(nat_lit 93,⟨(T "dict"),none,.dict #[E P "__module__" 278 (S "staywalk.errors" 194),E P "__firstlineno__" 282 (.int 16 281),E P "__init__" 290 (R 91),E P "__static_attributes__" 292 (R 92),E P "__doc__" 293 N] 2, #[]⟩)::
(nat_lit 94,⟨(T "type"),none,.cls ⟨"Twice",[(R 31)],[(R 94),(R 31),(T "ValueError"),(T "Exception"),(T "BaseException"),(T "object")],93,"Twice",true,[],[],false,none,false⟩, #[some (R 78),none,some (S "Twice" 271),some (S "Twice" 279),some (.builtin "ValueError.__new__"),some (B true)]⟩)::
(nat_lit 109,o "__init__" 308 "TooOld.__init__" 309 310 23 2 0 0 3 104 181 105 106 107 108 313 23 314)::
(nat_lit 110,f t.gw)::
(nat_lit 112,⟨(T "dict"),none,.dict #[E P "__module__" 303 (S "staywalk.errors" 194),E P "__firstlineno__" 307 (.int 21 306),E P "__init__" 315 (R 110),E P "__static_attributes__" 317 (R 111),E P "__doc__" 318 N] 2, #[]⟩)::
(nat_lit 113,⟨(T "type"),none,.cls ⟨"TooOld",[(R 31)],[(R 113),(R 31),(T "ValueError"),(T "Exception"),(T "BaseException"),(T "object")],112,"TooOld",true,[],[],false,none,false⟩, #[some (R 97),none,some (S "TooOld" 296),some (S "TooOld" 304),some (.builtin "ValueError.__new__"),some (B true)]⟩)::
(nat_lit 128,o "__init__" 333 "NoMoment.__init__" 334 335 28 2 0 0 3 123 181 124 125 126 127 338 28 339)::
(nat_lit 129,f t.eF)::
(nat_lit 131,⟨(T "dict"),none,.dict #[E P "__module__" 328 (S "staywalk.errors" 194),E P "__firstlineno__" 332 (.int 26 331),E P "__init__" 340 (R 129),E P "__static_attributes__" 342 (R 130),E P "__doc__" 343 N] 2, #[]⟩)::
(nat_lit 132,⟨(T "type"),none,.cls ⟨"NoMoment",[(R 31)],[(R 132),(R 31),(T "ValueError"),(T "Exception"),(T "BaseException"),(T "object")],131,"NoMoment",true,[],[],false,none,false⟩, #[some (R 116),none,some (S "NoMoment" 321),some (S "NoMoment" 329),some (.builtin "ValueError.__new__"),some (B true)]⟩)::
(nat_lit 140,o "turned" 352 "turned" 353 354 34 1 0 0 3 135 181 136 137 138 139 359 34 360)::
(nat_lit 141,f t.tI)::
(nat_lit 147,o "mark_of" 362 "mark_of" 363 364 41 1 0 0 3 142 181 143 144 145 146 366 41 367)::
(nat_lit 148,f t.pP)::
(nat_lit 154,o "place_of" 369 "place_of" 370 371 43 1 0 0 3 149 181 150 151 152 153 373 43 374)::
(nat_lit 155,f t.mV)::
(nat_lit 161,o "slot_of" 376 "slot_of" 377 378 45 2 0 0 3 156 181 157 158 159 160 381 45 382)::
(nat_lit 162,f t.pL)::
(nat_lit 168,o "stretch_of" 384 "stretch_of" 385 386 47 2 0 0 3 163 181 164 165 166 167 390 47 391)::
(nat_lit 169,f t.jA)::
(nat_lit 175,o "slot_at" 393 "slot_at" 394 395 50 2 0 0 3 170 181 171 172 173 174 398 50 399)::
(nat_lit 176,f t.pN)::
(nat_lit 182,o "is_whole" 403 "is_whole" 404 405 53 1 0 0 3 177 181 178 179 180 181 407 53 408)::
(nat_lit 183,f t.mW)::
(nat_lit 189,o "is_from" 412 "is_from" 413 414 56 2 0 0 3 184 181 185 186 187 188 417 56 418)::
(nat_lit 190,f t.pQ)::
(nat_lit 196,o "word_of" 420 "word_of" 421 422 58 1 0 0 3 191 181 192 193 194 195 424 58 425)::
(nat_lit 197,f t.vJ)::
(nat_lit 210,o "__init__" 439 "Token.__init__" 440 441 62 4 0 0 3 205 181 206 207 208 209 446 62 447)::
(nat_lit 211,f t.iz)::
(nat_lit 220,⟨(T "dict"),none,.dict #[E P "__module__" 434 (S "staywalk.tokens" 410),E P "__firstlineno__" 438 (.int 60 437),E P "__init__" 448 (R 211),E P "words" 455 (R 218),E P "__static_attributes__" 459 (R 219),E P "__dict__" 461 (R 222),E P "__weakref__" 463 (R 223),E P "__doc__" 464 N] 4, #[]⟩)::
(nat_lit 221,⟨(T "type"),none,.cls ⟨"Token",[(T "object")],[(R 221),(T "object")],220,"Token",true,[],[(R 250),(R 277)],false,none,false⟩, #[none,none,some (S "Token" 427),some (S "Token" 435),some (.builtin "object.__new__"),some (B true)]⟩)::
(nat_lit 233,⟨(T "tuple"),none,.seq #[(.int 0 479),N] 0, #[]⟩)::
(nat_lit 239,o "__init__" 480 "Up.__init__" 481 482 71 3 0 0 3 234 181 235 236 237 238 486 71 487)::
(nat_lit 240,f t.gv)::
(nat_lit 246,o "holds" 489 "Up.holds" 490 491 76 2 0 0 3 241 181 242 243 244 245 494 76 495)::
(nat_lit 247,f t.kF)::
(nat_lit 249,⟨(T "dict"),none,.dict #[E P "__module__" 474 (S "staywalk.tokens" 410),E P "__firstlineno__" 478 (.int 69 477),E P "__init__" 488 (R 240),E P "holds" 496 (R 247),E P "__static_attributes__" 497 (R 248),E P "__doc__" 498 N] 2, #[]⟩)::
(nat_lit 250,⟨(T "type"),none,.cls ⟨"Up",[(R 221)],[(R 250),(R 221),(T "object")],249,"Up",true,[],[],false,none,false⟩, #[some (R 226),none,some (S "Up" 467),some (S "Up" 475),some (.builtin "object.__new__"),some (B true)]⟩)::
(nat_lit 276,⟨(T "dict"),none,.dict #[E P "__module__" 508 (S "staywalk.tokens" 410),E P "__firstlineno__" 512 (.int 78 511),E P "__init__" 522 (R 267),E P "holds" 530 (R 274),E P "__static_attributes__" 531 (R 275),E P "__doc__" 532 N] 2, #[]⟩)::
(nat_lit 277,⟨(T "type"),none,.cls ⟨"Down",[(R 221)],[(R 277),(R 221),(T "object")],276,"Down",true,[],[],false,none,false⟩, #[some (R 253),none,some (S "Down" 501),some (S "Down" 509),some (.builtin "object.__new__"),some (B true)]⟩)::
(nat_lit 283,c [(S "keys_of_page" 537),(S "keys_of_page" 538),(F 539),(I 88),(I 3),(I 0),(I 0),(I 3),(R 280),(B true),(I 181),(R 281),N,N,N,(R 282),(I 540),(I 88),(F 541)])::
(nat_lit 284,f t.gu)::
(nat_lit 290,o "keys_near" 543 "keys_near" 544 545 97 3 0 0 3 285 181 286 287 288 289 549 97 550)::
(nat_lit 291,f t.kB)::
(nat_lit 297,o "token_behind" 552 "token_behind" 553 554 101 2 0 0 3 292 181 293 294 295 296 557 101 558)::
(nat_lit 298,f t.gs)::
(nat_lit 311,o "__init__" 578 "Leaves.__init__" 579 580 110 1 0 0 3 306 181 307 308 309 310 582 110 583)::
(nat_lit 312,f t.gy)::
(nat_lit 316,c [(S "add" 585),(S "Leaves.add" 586),(F 587),(I 113),(I 2),(I 0),(I 0),(I 3),(R 313),(B true),(I 181),(R 314),N,N,N,(R 315),(I 588),(I 113),(F 589)])::
(nat_lit 317,f t.iJ)::
(nat_lit 323,o "discard" 591 "Leaves.discard" 592 593 125 2 0 0 3 318 181 319 320 321 322 597 125 598)::
(nat_lit 324,f t.dS)::
(nat_lit 330,o "has" 600 "Leaves.has" 601 602 136 2 0 0 3 325 181 326 327 328 329 606 136 607)::
(nat_lit 331,f t.iI)::
(nat_lit 335,c [(S "many" 609),(S "Leaves.many" 610),(F 611),(I 140),(I 1),(I 0),(I 0),(I 3),(R 332),(B true),(I 181),(R 333),N,N,N,(R 334),(I 612),(I 140),(F 613)])::
(nat_lit 336,f t.kG)::
(nat_lit 347,c [(S "from_on" 622),(S "Leaves.from_on" 623),(F 624),(I 146),(I 3),(I 0),(I 0),(I 3),(R 344),(B true),(I 181),(R 345),N,N,N,(R 346),(I 625),(I 146),(F 626)])::
(nat_lit 348,f t.dR)::
(nat_lit 359,o "leaf_of" 634 "Leaves.leaf_of" 635 636 164 2 0 0 3 354 181 355 356 357 358 642 164 643)::
(nat_lit 360,f t.dQ)::
(nat_lit 366,o "part_leaf" 645 "Leaves.part_leaf" 646 647 175 2 0 0 3 361 181 362 363 364 365 652 175 653)::
(nat_lit 367,f t.cR)::
(nat_lit 373,o "join_small" 655 "Leaves.join_small" 656 657 181 2 0 0 3 368 181 369 370 371 372 661 181 662)::
(nat_lit 374,f t.cx)::
(nat_lit 376,⟨(T "dict"),none,.dict #[E P "__module__" 573 (S "staywalk.leaves" 560),E P "__firstlineno__" 577 (.int 108 576),E P "__init__" 584 (R 312),E P "add" 590 (R 317),E P "discard" 599 (R 324),E P "has" 608 (R 331),E P "many" 614 (R 336),E P "all_of" 621 (R 343),E P "from_on" 627 (R 348),E P "down_from" 633 (R 353),E P "leaf_of" 644 (R 360),E P "part_leaf" 654 (R 367),E P "join_small" 663 (R 374),E P "__static_attributes__" 665 (R 375),E P "__dict__" 667 (R 378),E P "__weakref__" 669 (R 379),E P "__doc__" 670 N] 4, #[]⟩)::
(nat_lit 377,⟨(T "type"),none,.cls ⟨"Leaves",[(T "object")],[(R 377),(T "object")],376,"Leaves",true,[],[],false,none,false⟩, #[none,none,some (S "Leaves" 566),some (S "Leaves" 574),some (.builtin "object.__new__"),some (B true)]⟩)::
(nat_lit 394,o "__init__" 687 "Makes.__init__" 688 689 191 1 0 0 3 389 181 390 391 392 393 691 191 692)::
(nat_lit 395,f t.iH)::
(nat_lit 401,o "note" 694 "Makes.note" 695 696 194 3 0 0 3 396 181 397 398 399 400 700 194 701)::
(nat_lit 402,f t.iG)::
(nat_lit 408,o "all_told" 703 "Makes.all_told" 704 705 197 1 0 0 3 403 181 404 405 406 407 707 197 708)::
(nat_lit 409,f t.dP)::
(nat_lit 415,o "value_at" 710 "Makes.value_at" 711 712 200 2 0 0 3 410 181 411 412 413 414 716 200 717)::
(nat_lit 416,f t.dO)::
(nat_lit 425,⟨(T "dict"),none,.dict #[E P "__module__" 682 (S "staywalk.makes" 673),E P "__firstlineno__" 686 (.int 189 685),E P "__init__" 693 (R 395),E P "note" 702 (R 402),E P "all_told" 709 (R 409),E P "value_at" 718 (R 416),E P "sweep" 726 (R 423),E P "__static_attributes__" 728 (R 424),E P "__dict__" 730 (R 427),E P "__weakref__" 732 (R 428),E P "__doc__" 733 N] 4, #[]⟩)::
(nat_lit 426,⟨(T "type"),none,.cls ⟨"Makes",[(T "object")],[(R 426),(T "object")],425,"Makes",true,[],[],false,none,false⟩, #[none,none,some (S "Makes" 675),some (S "Makes" 683),some (.builtin "object.__new__"),some (B true)]⟩)::
(nat_lit 434,c [(S "empty_row" 742),(S "empty_row" 743),(F 744),(I 211),(I 1),(I 0),(I 0),(I 3),(R 431),(B true),(I 181),(R 432),N,N,N,(R 433),(I 745),(I 211),(F 746)])::
(nat_lit 435,f t.kC)::
(nat_lit 448,o "__init__" 760 "Slots.__init__" 761 762 215 1 0 0 3 443 181 444 445 446 447 764 215 765)::
(nat_lit 449,f t.iE)::
(nat_lit 455,o "put" 767 "Slots.put" 768 769 220 3 0 0 3 450 181 451 452 453 454 774 220 775)::
(nat_lit 456,f t.jG)::
(nat_lit 462,o "drop" 777 "Slots.drop" 778 779 228 2 0 0 3 457 181 458 459 460 461 782 228 783)::
(nat_lit 463,f t.iF)::
(nat_lit 469,o "get" 785 "Slots.get" 786 787 236 2 0 0 3 464 181 465 466 467 468 791 236 792)::
(nat_lit 470,f t.jI)::
(nat_lit 476,o "has" 794 "Slots.has" 795 796 242 2 0 0 3 471 181 472 473 474 475 799 242 800)::
(nat_lit 477,f t.jH)::
(nat_lit 483,o "many" 802 "Slots.many" 803 804 245 1 0 0 3 478 181 479 480 481 482 806 245 807)::
(nat_lit 484,f t.iD)::
(nat_lit 488,c [(S "rows" 809),(S "Slots.rows" 810),(F 811),(I 248),(I 1),(I 0),(I 0),(I 3),(R 485),(B true),(I 181),(R 486),N,N,N,(R 487),(I 812),(I 248),(F 813)])::
(nat_lit 489,f t.iC)::
(nat_lit 495,o "moved" 815 "Slots.moved" 816 817 251 1 0 0 3 490 181 491 492 493 494 819 251 820)::
(nat_lit 496,f t.gx)::
(nat_lit 507,c [(S "span" 829),(S "Slots.span" 830),(F 831),(I 257),(I 3),(I 0),(I 0),(I 3),(R 504),(B true),(I 181),(R 505),N,N,N,(R 506),(I 832),(I 257),(F 833)])::
(nat_lit 508,f t.iB)::
(nat_lit 514,o "stop" 835 "Slots.stop" 836 837 267 2 0 0 3 509 181 510 511 512 513 841 267 842)::
(nat_lit 515,f t.iA)::
(nat_lit 521,o "cell_of" 844 "Slots.cell_of" 845 846 271 2 0 0 3 516 181 517 518 519 520 852 271 853)::
(nat_lit 522,f t.eE)::
(nat_lit 528,o "lying_at" 855 "Slots.lying_at" 856 857 279 2 0 0 3 523 181 524 525 526 527 866 279 867)::
(nat_lit 529,f t.dN)::
(nat_lit 535,o "move_slot" 869 "Slots.move_slot" 870 871 288 1 0 0 3 530 181 531 532 533 534 877 288 878)::
(nat_lit 536,f t.da)::
(nat_lit 542,o "begin_row" 880 "Slots.begin_row" 881 882 301 1 0 0 3 537 181 538 539 540 541 885 301 886)::
(nat_lit 543,f t.de)::
(nat_lit 545,⟨(T "dict"),none,.dict #[E P "__module__" 755 (S "staywalk.slots" 736),E P "__firstlineno__" 759 (.int 213 758),E P "__init__" 766 (R 449),E P "put" 776 (R 456),E P "drop" 784 (R 463),E P "get" 793 (R 470),E P "has" 801 (R 477),E P "many" 808 (R 484),E P "rows" 814 (R 489),E P "moved" 821 (R 496),E P "cells" 828 (R 503),E P "span" 834 (R 508),E P "stop" 843 (R 515),E P "cell_of" 854 (R 522),E P "lying_at" 868 (R 529),E P "move_slot" 879 (R 536),E P "begin_row" 887 (R 543),E P "__static_attributes__" 891 (R 544),E P "__dict__" 893 (R 547),E P "__weakref__" 895 (R 548),E P "__doc__" 896 N] 4, #[]⟩)::
(nat_lit 546,⟨(T "type"),none,.cls ⟨"Slots",[(T "object")],[(R 546),(T "object")],545,"Slots",true,[],[],false,none,false⟩, #[none,none,some (S "Slots" 748),some (S "Slots" 756),some (.builtin "object.__new__"),some (B true)]⟩)::
(nat_lit 563,o "__init__" 913 "House.__init__" 914 915 312 1 0 0 3 558 181 559 560 561 562 917 312 918)::
(nat_lit 564,f t.iM)::
(nat_lit 570,o "put" 920 "House.put" 921 922 322 3 0 0 3 565 181 566 567 568 569 926 322 927)::
(nat_lit 571,f t.jK)::
(nat_lit 577,o "drop" 929 "House.drop" 930 931 328 2 0 0 3 572 181 573 574 575 576 934 328 935)::
(nat_lit 578,f t.iO)::
(nat_lit 584,o "get" 937 "House.get" 938 939 333 2 0 0 3 579 181 580 581 582 583 942 333 943)::
(nat_lit 585,f t.jL)::
(nat_lit 598,o "many" 953 "House.many" 954 955 339 1 0 0 3 593 181 594 595 596 597 957 339 958)::
(nat_lit 599,f t.iK)::
(nat_lit 607,⟨(T "tuple"),none,.seq #[(.int 0 967)] 0, #[]⟩)::
(nat_lit 613,o "diary" 968 "House.diary" 969 970 345 2 0 0 3 608 181 609 610 611 612 973 345 974)::
(nat_lit 614,f t.dU)::
(nat_lit 620,o "makes" 976 "House.makes" 977 978 348 2 0 0 3 615 181 616 617 618 619 981 348 982)::
(nat_lit 621,f t.gA)::
(nat_lit 641,o "held" 999 "House.held" 1000 1001 357 1 0 0 3 636 181 637 638 639 640 1003 357 1004)::
(nat_lit 642,f t.iN)::
(nat_lit 655,o "was" 1013 "House.was" 1014 1015 363 3 0 0 3 650 181 651 652 653 654 1019 363 1020)::
(nat_lit 656,f t.jJ)::
(nat_lit 657,⟨(T "tuple"),none,.seq #[(.int 10 1022)] 0, #[]⟩)::
(nat_lit 661,c [(S "page_at" 1023),(S "House.page_at" 1024),(F 1025),(I 367),(I 4),(I 0),(I 0),(I 3),(R 658),(B true),(I 181),(R 659),N,N,N,(R 660),(I 1026),(I 367),(F 1027)])::
(nat_lit 662,f t.cH)::
(nat_lit 668,o "done" 1029 "House.done" 1030 1031 376 3 0 0 3 663 181 664 665 666 667 1036 376 1037)::
(nat_lit 669,f t.iP)::
(nat_lit 675,o "refuse_outside" 1039 "House.refuse_outside" 1040 1041 383 2 0 0 3 670 181 671 672 673 674 1044 383 1045)::
(nat_lit 676,f t.bR)::
(nat_lit 682,o "value_then" 1047 "House.value_then" 1048 1049 389 3 0 0 3 677 181 678 679 680 681 1053 389 1054)::
(nat_lit 683,f t.cS)::
(nat_lit 685,⟨(T "dict"),none,.dict #[E P "__module__" 908 (S "staywalk.house" 899),E P "__firstlineno__" 912 (.int 310 911),E P "__init__" 919 (R 564),E P "put" 928 (R 571),E P "drop" 936 (R 578),E P "get" 944 (R 585),E P "has" 952 (R 592),E P "many" 959 (R 599),E P "lay_mark" 966 (R 606),E P "diary" 975 (R 614),E P "makes" 983 (R 621),E P "hold" 990 (R 628),E P "let_go" 998 (R 635),E P "held" 1005 (R 642),E P "sweep" 1012 (R 649),E P "was" 1021 (R 656),E P "page_at" 1028 (R 662),E P "done" 1038 (R 669),E P "refuse_outside" 1046 (R 676),E P "value_then" 1055 (R 683),E P "__static_attributes__" 1064 (R 684),E P "__dict__" 1066 (R 687),E P "__weakref__" 1068 (R 688),E P "__doc__" 1069 N] 4, #[]⟩)::
(nat_lit 686,⟨(T "type"),none,.cls ⟨"House",[(T "object")],[(R 686),(T "object")],685,"House",true,[],[],false,none,false⟩, #[none,none,some (S "House" 901),some (S "House" 909),some (.builtin "object.__new__"),some (B true)]⟩)::
(nat_lit 694,c [(S "are_figures" 1078),(S "are_figures" 1079),(F 1080),(I 394),(I 1),(I 0),(I 0),(I 3),(R 691),(B true),(I 181),(R 692),N,N,N,(R 693),(I 1081),(I 394),(F 1082)])::
(nat_lit 695,f t.iy)::
(nat_lit 701,o "read_whole" 1084 "read_whole" 1085 1086 400 1 0 0 3 696 181 697 698 699 700 1090 400 1091)::
(nat_lit 702,f t.jB)::
(nat_lit 708,o "row_of" 1095 "row_of" 1096 1097 409 2 0 0 3 703 181 704 705 706 707 1100 409 1101)::
(nat_lit 709,f t.tJ)::
(nat_lit 713,c [(S "rows_of" 1103),(S "rows_of" 1104),(F 1105),(I 411),(I 1),(I 0),(I 0),(I 3),(R 710),(B true),(I 181),(R 711),N,N,N,(R 712),(I 1106),(I 411),(F 1107)])::
(nat_lit 714,f t.pO)::
(nat_lit 720,o "shown" 1109 "shown" 1110 1111 414 1 0 0 3 715 181 716 717 718 719 1113 414 1114)::
(nat_lit 721,f t.xn)::
(nat_lit 727,o "read_house" 1116 "read_house" 1117 1118 416 1 0 0 3 722 181 723 724 725 726 1125 416 1126)::
(nat_lit 728,f t.jC)::
(nat_lit 734,o "_law_drawn" 1130 "_law_drawn" 1131 1132 434 2 0 0 3 729 181 730 731 732 733 1136 434 1137)::
(nat_lit 735,f t.jE)::
(nat_lit 741,o "_law_key" 1139 "_law_key" 1140 1141 437 1 0 0 3 736 181 737 738 739 740 1145 437 1146)::
(nat_lit 742,f t.mX)::
(nat_lit 748,o "_law_value" 1148 "_law_value" 1149 1150 441 1 0 0 3 743 181 744 745 746 747 1152 441 1153)::
(nat_lit 749,f t.jD)::
(nat_lit 755,o "_law_deed" 1155 "_law_deed" 1156 1157 445 3 0 0 3 750 181 751 752 753 754 1166 445 1167)::
(nat_lit 756,f t.kE)::
(nat_lit 760,c [(S "_law_past" 1169),(S "_law_past" 1170),(F 1171),(I 460),(I 3),(I 0),(I 0),(I 3),(R 757),(B true),(I 181),(R 758),N,N,N,(R 759),(I 1172),(I 460),(F 1173)])::
(nat_lit 761,f t.kD)::
(nat_lit 765,c [(S "_law_alike" 1175),(S "_law_alike" 1176),(F 1177),(I 472),(I 2),(I 0),(I 0),(I 3),(R 762),(B true),(I 181),(R 763),N,N,N,(R 764),(I 1178),(I 472),(F 1179)])::
(nat_lit 766,f t.jF)::
(nat_lit 770,c [(S "law" 1181),(S "law" 1182),(F 1183),(I 484),(I 1),(I 0),(I 0),(I 3),(R 767),(B true),(I 181),(R 768),N,N,N,(R 769),(I 1184),(I 484),(F 1185)])::
(nat_lit 771,f t.Be)::[]
noncomputable abbrev as:List Addr:=[2,3,30,31,43,44,55,56,71,72,74,75,90,91,93,94,109,110,112,113,128,129,131,132,140,141,147,148,154,155,161,162,168,169,175,176,182,183,189,190,196,197,210,211,220,221,233,239,240,246,247,249,250,276,277,283,284,290,291,297,298,311,312,316,317,323,324,330,331,335,336,347,348,359,360,366,367,373,374,376,377,394,395,401,402,408,409,415,416,425,426,434,435,448,449,455,456,462,463,469,470,476,477,483,484,488,489,495,496,507,508,514,515,521,522,528,529,535,536,542,543,545,546,563,564,570,571,577,578,584,585,598,599,607,613,614,620,621,641,642,655,656,657,661,662,668,669,675,676,682,683,685,686,694,695,701,702,708,709,713,714,720,721,727,728,734,735,741,742,748,749,755,756,760,761,765,766,770,771]
noncomputable abbrev p:Program:=PySem.Challenge.pw_staywalk_k64_a_house_as_a_text
noncomputable abbrev q:Program:=view p [0,2,3,4,5,6,7,8,10,11,12,13,14,15,16,17,19,21,22,23,24,25,27,28,29,31,32,33,35,37,38,39,40,42,44,45,46,47,49,50,51,52,54,55,56,57,58,59,60]
noncomputable abbrev H:Hook:=kHook K as λ_=>rfl
theorem said:OpenLaw.wellSaid PySem.Challenge.rw_staywalk_k64_a_house_as_a_text=true:=by
 rw[Fast.te9446332074065402090]
 kernel_rfl
noncomputable abbrev M:Nat:=11544
noncomputable abbrev L:List Str:=["Up","Down"]
noncomputable abbrev X:Shared->Bool:=λs=>xlAt q [] s&&recOk [] s
theorem lA:∀w,HD.lA p q M w=some ((openGood q L).1,(openGood q L).2.1):=λw=>by kernel_rfl
theorem lB:∀w,HD.lB p q L X M w=some (true,true):=λw=>by kernel_rfl
theorem lC:∀w,HD.lC p q L M w=some (openGood q L).2.2.2.2:=λw=>by kernel_rfl
theorem lD:∀w,(HD.endP p w M).map (Hook.obs H)=some (Hook.val H w):=λw=>by kernel_rfl
theorem left:LeftO p q L X (Hook.obs H) (Hook.val H) M:=HD.left_of lA lB lC lD
end ZK
namespace L2
open PySem PySem.Spec PyProof.Rows
abbrev Key:=Sum Int Str
def kx:Key->Value->Bool
 | .inl k,v=>Value.isInt k v
 | .inr x,v=>Value.isStrOf x v
def keyH (w:World):Key->Int
 | .inl k=>hashInt k
 | .inr x=>hashStr w x
theorem bG:∀{k:Key} {v:Value},kx k v=true->(∃i t,k=Sum.inl i/\v=Value.int i t)\/(∃x t,k=Sum.inr x/\v=Value.str x t)
 | .inl i,v,h=>by
  obtain⟨t,e⟩:=Value.isInt_shape (k:=i) (v:=v) h;exact .inl ⟨i,t,rfl,e⟩
 | .inr x,v,h=>by
  obtain⟨t,e⟩:=Value.isStrOf_shape (x:=x) (v:=v) h;exact .inr ⟨x,t,rfl,e⟩
theorem Cj (i:Int) (t:Tok):kx (.inl i) (.int i t)=true:=by simp[kx,Value.isInt]
theorem Ci (x:Str) (t:Tok):kx (.inr x) (.str x t)=true:=by simp[kx,Value.isStrOf]
theorem HE (a b:Int):decide ((Sum.inl a:Key)=Sum.inl b)=(a==b):=by
 by_cases e:a=b
 .subst e;simp
 .have h:¬(Sum.inl a:Key)=Sum.inl b:=λq=>e (Sum.inl.inj q);rw[decide_eq_false h];exact(beq_eq_false_iff_ne.mpr e).symm
theorem HA (a b:Str):decide ((Sum.inr a:Key)=Sum.inr b)=decide (a=b):=by
 by_cases e:a=b
 .subst e;simp
 .have h:¬(Sum.inr a:Key)=Sum.inr b:=λq=>e (Sum.inr.inj q);rw[decide_eq_false h,decide_eq_false e]
theorem HC (a:Int) (b:Str):decide ((Sum.inl a:Key)=Sum.inr b)=false:=decide_eq_false (λq=>nomatch q)
theorem HB (a:Str) (b:Int):decide ((Sum.inr a:Key)=Sum.inl b)=false:=decide_eq_false (λq=>nomatch q)
def a6 (prog:Program) (w:World):PySem.KeyKind prog w Key where
 is:=kx
 hash:=keyH w
 inj:=λv a b ha hb=>by
  rcases bG ha with⟨i,t,rfl,rfl⟩|⟨x,t,rfl,rfl⟩
  .rcases bG hb with⟨j,u,rfl,e⟩|⟨y,u,rfl,e⟩
   .injection e with e1 _;rw[e1]
   .exact nomatch e
  .rcases bG hb with⟨j,u,rfl,e⟩|⟨y,u,rfl,e⟩
   .exact nomatch e
   .injection e with e1 _;rw[e1]
 byValue:=λk v h=>by
  rcases bG h with⟨i,t,rfl,rfl⟩|⟨x,t,rfl,rfl⟩<;>rfl
 pyHash:=λhv h=>by
  rcases bG hv with⟨i,t,rfl,rfl⟩|⟨x,t,rfl,rfl⟩
  .exact wpAny_pyHash_int h
  .exact wpAny_pyHash_str h
 eqBool:=λhu hv h=>by
  rcases bG hu with⟨i,t,rfl,rfl⟩|⟨x,t,rfl,rfl⟩
  .rcases bG hv with⟨j,u,rfl,rfl⟩|⟨y,u,rfl,rfl⟩
   .rw[HE]at h;exact wpAny_eqBool_int h
   .rw[HC]at h;exact SeqAt.EqAt.int_str i t y u _ _ _ _ h
  .rcases bG hv with⟨j,u,rfl,rfl⟩|⟨y,u,rfl,rfl⟩
   .rw[HB]at h;exact SeqAt.EqAt.str_int x t j u _ _ _ _ h
   .rw[HA]at h;exact wpAny_eqBool_str h
 «strs»:=λk x t v h=>by
  rcases bG h with⟨i,u,rfl,e⟩|⟨y,u,rfl,e⟩
  .exact nomatch e
  .injection e with e1 _;subst e1;cases v<;>rfl
theorem zW (prog:Program) (w:World) (k:Key) (v:Value):(a6 prog w).is k v=kx k v:=rfl
theorem yz (prog:Program) (w:World) (i:Int) (t:Tok):(a6 prog w).is (.inl i) (.int i t)=true:=Cj i t
theorem yx (prog:Program) (w:World) (x:Str) (t:Tok):(a6 prog w).is (.inr x) (.str x t)=true:=Ci x t
end L2
namespace L2
open PySem PySem.Spec PyProof.Rows
inductive V where
 |non|bl (b:Bool)|int (i:Int)|str (x:Str)|byt (b:Array UInt8)|flt (b:UInt64)|ref (a:Addr)|ty (n:String)
 deriving DecidableEq
variable {a b:Addr} {o u:HO} {h h':Heap} {H:Hp} {P:Program} {w:World}
def RelV:V->Value->Prop
 | .non,u=>u=Value.none
 | .bl b,u=>u=Value.bool b
 | .int i,u=>∃t,u=Value.int i t
 | .str x,u=>∃t,u=Value.str x t
 | .byt b,u=>∃t,u=Value.bytes b t
 | .flt b,u=>∃t,u=Value.float b t
 | .ref a,u=>u=Value.ref a
 | .ty n,u=>u=Value.type n
abbrev Vals:List V->List Value->Prop:=Paired RelV
theorem Vals.length {xs:List V} {us:List Value} (r:Vals xs us):xs.length=us.length:=Paired.length r
theorem Vals.get:∀{xs:List V} {us:List Value} {i:Nat} {x:V},Vals xs us->xs[i]?=some x->∃u,us[i]?=some u/\RelV x u
 |_,_,_,_,.nil,e=>by simp at e
 |_,_,0,_,.cons r _,e=>by simp at e;subst e;exact⟨_,rfl,r⟩
 |_,_,i+1,x,.cons _ t,e=>by
  obtain⟨u,h1,h2⟩:=Vals.get (i:=i) (x:=x) t (by simpa using e);exact⟨u,by simpa using h1,h2⟩
theorem Vals.set {x:V} {u:Value} (r:RelV x u):∀{xs:List V} {us:List Value} (i:Nat),Vals xs us->Vals (xs.set i x) (us.set i u)
 |_,_,_,.nil=> .nil
 |_,_,0,.cons _ t=> .cons r t
 |_,_,i+1,.cons q t=> .cons q (Vals.set r i t)
theorem Vals.append:∀{xs ys:List V} {us ws:List Value},Vals xs us->Vals ys ws->Vals (xs++ys) (us++ws)
 |_,_,_,_,.nil,s=>s
 |_,_,_,_,.cons r t,s=> .cons r (Vals.append t s)
theorem Vals.take:∀{xs:List V} {us:List Value} (n:Nat),Vals xs us->Vals (xs.take n) (us.take n)
 |_,_,0,_=> .nil
 |_,_,_+1,.nil=> .nil
 |_,_,n+1,.cons r t=> .cons r (Vals.take n t)
theorem Vals.drop:∀{xs:List V} {us:List Value} (n:Nat),Vals xs us->Vals (xs.drop n) (us.drop n)
 |_,_,0,r=>r
 |_,_,_+1,.nil=> .nil
 |_,_,n+1,.cons _ t=>Vals.drop n t
def RelO:Option V->Option Value->Prop
 |some v,some u=>RelV v u
 |none,none=>True
 |_,_=>False
def KV {κ:Type}:List (κ×V)->List (κ×Value)->Prop:=Paired λ(p:κ×V) (q:κ×Value)=>p.1=q.1/\RelV p.2 q.2
def kV:Key->V
 | .inl i=> .int i
 | .inr x=> .str x
inductive HO where
 |lst (xs:List V)
 |tup (xs:List V)
 |dK (kvs:List (Key×V))|dT (kvs:List (List Key×V))
 |set (S:Int->Bool) (n:Nat)
 |ins (C dx:Addr) (fs:List (Str×V))
 |own (x:Addr)
 |xd (fs:List (Str×V))
 |met (f x:Addr)
 |rng (lo hi:Int)
 |frz (o:Obj) (u:HO)
 |tbl (ps:Array Value)
 |ext (φ:Heap->Prop)
abbrev Hp:=Addr->Option HO
def upd (H:Hp) (a:Addr) (o:HO):Hp:=λb=>if b=a then some o else H b
theorem ai:upd H a o a=some o:=by unfold upd;rw[if_pos rfl]
theorem ag (h:b≠a):upd H a o b=H b:=by unfold upd;rw[if_neg h]
theorem bM:upd (upd H a o) a u=upd H a u:=by
 funext b;unfold upd;split<;>rfl
theorem bZ (h:H a=some o) (h':H b=some u) (d:o≠u):a≠b:=by
 intro e;subst e;rw[h]at h';exact d (Option.some.inj h')
theorem ao (h:H a=some o) (h':H b=none):a≠b:=by
 intro e;subst e;rw[h]at h';cases h'
section
variable (P:Program) (w:World)
def ObjOk (H:Hp) (h:Heap) (a:Addr):HO->Prop
 | .lst xs=>xs.length<=sizeLine/\∃(its:List Value) (n:Nat),Vals xs its/\h.get? a=some {cls:= .type "list",data:= .seq its.toArray n}
 | .tup xs=>xs.length<=sizeLine/\∃its:List Value,Vals xs its/\IsTup h a its.toArray
 | .dK kvs=>kvs.length<=sizeLine/\(a==sysModules)=false/\∃vs,KV kvs vs/\h.DictOf (a6 P w) a vs
 | .dT kvs=>kvs.length<=sizeLine/\(a==sysModules)=false/\∃xs:List (List Key×Addr×Value),
   Paired (λ(p:List Key×V) (q:List Key×Addr×Value)=>p.1=q.1/\H q.2.1=some (.tup (p.1.map kV))/\RelV p.2 q.2.2) kvs xs/\
   ∃o es ep,h.get? a=some o/\o.ExactDict/\o.data= .dict es ep/\es.toList=xs.map (entryOfKey (tupleKind (a6 P w)))/\(xs.map (·.1)).Nodup
 | .set S n=>h.SetOf (intKind P w) a S n
 | .ins C dx fs=>H dx=some (.own a)/\fs.length<=1000/\dx≠a/\h.get? a=some (PySem.W.instObj C dx)/\
   ∃mA,h.Ns1 dx mA/\(∀f,RelO (fs.lookup f) (mA f))/\PySem.Within mA (fs.map (·.1))
 | .own _=>∃o,h.get? a=some o
 | .xd fs=>∃mA,h.Ns1 a mA/\∀f,RelO (fs.lookup f) (mA f)
 | .rng lo hi=>∃t u v,h.get? a=some {cls:= .type "range",data:= .fields #[.int lo t,.int hi u,.int 1 v]}
 | .frz o u=>h.get? a=some o/\ObjOk H h a u
 | .tbl ps=>h.get? a=some {cls:= .none,data:= .fields ps}
 | .met f x=>h.get? a=some (PySem.W.methodObj (.ref f) (.ref x))
 | .ext φ=>φ h/\(∃o,h.get? a=some o)/\∀h1 h2:Heap,φ h1->(∀o,h1.get? a=some o->h2.get? a=some o)->φ h2
def HOk (H:Hp) (h:Heap):Prop:=∀a o,H a=some o->ObjOk P w H h a o
end
section
variable {H':Hp}
theorem ObjOk.lt (x:ObjOk P w H h a o):a<h.objs.size:=by
 cases o with
 |lst xs=>obtain⟨_,_,_,_,e⟩:=x;exact Heap.lt_size e
 |tup xs=>obtain⟨_,_,_,p⟩:=x;exact p.lt
 |dK kvs=>obtain⟨_,_,_,_,o,_,_,e,_⟩:=x;exact Heap.lt_size e
 |dT kvs=>obtain⟨_,_,_,_,o,_,_,e,_⟩:=x;exact Heap.lt_size e
 |set S n=>obtain⟨o,_,_,_,e,_⟩:=x;exact Heap.lt_size e
 |ins C dx fs=>obtain⟨_,_,_,e,_⟩:=x;exact Heap.lt_size e
 |own y=>obtain⟨_,e⟩:=x;exact Heap.lt_size e
 |xd fs=>obtain⟨_,⟨_,_,_,e,_⟩,_⟩:=x;exact Heap.lt_size e
 |rng lo hi=>obtain⟨_,_,_,e⟩:=x;exact Heap.lt_size e
 |frz ob u=>obtain⟨e,_⟩:=x;exact Heap.lt_size e
 |tbl ps=>exact Heap.lt_size (show h.get? a=some _ from x)
 |met f y=>exact Heap.lt_size (show h.get? a=some _ from x)
 |ext φ=>obtain⟨_,⟨_,e⟩,_⟩:=x;exact Heap.lt_size e
theorem Paired.mapP {α β:Type} {F G:α->β->Prop}:∀{z:List α} {I:List β},Paired F z I->(∀a b,F a b->G a b)->Paired G z I
 |_,_,.nil,_=> .nil
 |_,_,.cons r t,f=> .cons (f _ _ r) (Paired.mapP t f)
theorem ObjOk.stay (x:ObjOk P w H h a o) (k:∀b u,(b=a\/H b=some (.own a))->h.get? b=some u->h'.get? b=some u)
  (I:∀b,H b=some (.own a)->H' b=some (.own a)) (O:∀b xs,H b=some (.tup xs)->H' b=some (.tup xs)):ObjOk P w H' h' a o:=by
 induction o with
 |lst xs=>obtain⟨z,its,n,r,e⟩:=x;exact⟨z,its,n,r,k _ _ (.inl rfl) e⟩
 |tup xs=>obtain⟨z,its,r,ob,e,c⟩:=x;exact⟨z,its,r,ob,k _ _ (.inl rfl) e,c⟩
 |dK kvs=>obtain⟨z,y,vs,r,ob,es,ep,e,c⟩:=x;exact⟨z,y,vs,r,ob,es,ep,k _ _ (.inl rfl) e,c⟩
 |dT kvs=>
  obtain⟨z,y,xs,r,ob,es,ep,e,c⟩:=x;exact⟨z,y,xs,Paired.mapP r λp q z=>⟨z.1,O _ _ z.2.1,z.2.2⟩,ob,es,ep,k _ _ (.inl rfl) e,c⟩
 |set S n=>obtain⟨ob,es,ep,t,e,c⟩:=x;exact⟨ob,es,ep,t,k _ _ (.inl rfl) e,c⟩
 |ins C dx fs=>
  obtain⟨d,z,U,e,mA,⟨od,es,ep,e2,c⟩,r⟩:=x;exact⟨I _ d,z,U,k _ _ (.inl rfl) e,mA,⟨od,es,ep,k _ _ (.inr d) e2,c⟩,r⟩
 |own y=>obtain⟨ob,e⟩:=x;exact⟨ob,k _ _ (.inl rfl) e⟩
 |xd fs=>obtain⟨mA,⟨od,es,ep,e,c⟩,r⟩:=x;exact⟨mA,⟨od,es,ep,k _ _ (.inl rfl) e,c⟩,r⟩
 |rng lo hi=>obtain⟨t,u,v,e⟩:=x;exact⟨t,u,v,k _ _ (.inl rfl) e⟩
 |frz ob u Y=>obtain⟨e,q⟩:=x;exact⟨k _ _ (.inl rfl) e,Y q⟩
 |tbl ps=>
  have e:h.get? a=some {cls:= .none,data:= .fields ps}:=x;show h'.get? a=some {cls:= .none,data:= .fields ps};exact k a _ (.inl rfl) e
 |met f y=>
  have e:h.get? a=some (PySem.W.methodObj (.ref f) (.ref y)):=x;show h'.get? a=some (PySem.W.methodObj (.ref f) (.ref y));exact k a _ (.inl rfl) e
 |ext φ=>obtain⟨p,⟨o,e⟩,st⟩:=x;exact⟨st _ _ p λo q=>k _ _ (.inl rfl) q,⟨o,k _ _ (.inl rfl) e⟩,st⟩
theorem HOk.lt (x:HOk P w H h) (e:H a=some o):a<h.objs.size:=(x a o e).lt
theorem HOk.fresh (x:HOk P w H h) (e:h.objs.size<=a):H a=none:=by
 cases q:H a with
 |none=>rfl
 |some u=>exact absurd (Qs (x.lt q) e) (Zy _)
theorem HOk.kept (x:HOk P w H h) (k:∀b u,h.get? b=some u->h'.get? b=some u):HOk P w H h':=λa o e=>
 (x a o e).stay (λb u _ q=>k b u q) (λ_ q=>q) λ_ _ q=>q
theorem HOk.laid (x:HOk P w H h) (k:∀b u,h.get? b=some u->h'.get? b=some u) (hp:h.objs.size<=a) (new:ObjOk P w (upd H a o) h' a o):HOk P w (upd H a o) h':=λb u e=>by
 have z:=x.fresh hp;by_cases hb:b=a
 .subst hb;rw[ai]at e;cases e;exact new
 .rw[ag hb]at e;exact(x b u e).stay (λc v _ q=>k c v q) (λc q=>by rw[ag (ao q z)];exact q) λc xs q=>by rw[ag (ao q z)];exact q
end
def Rd (H:Hp) (a:Addr) (u:HO):Prop:=H a=some u\/∃o,H a=some (.frz o u)
theorem Rd.ok (r:Rd H a u) (x:HOk P w H h):ObjOk P w H h a u:=by
 rcases r with r|⟨o,r⟩
 .exact x a u r
 .obtain⟨_,q⟩:=x a _ r;exact q
def Mut:Option HO->Prop
 |some (.lst _)=>True
 |some (.dK _)=>True
 |some (.dT _)=>True
 |some (.set _ _)=>True
 |some (.ins _ _ _)=>True
 |some (.ext _)=>True
 |_=>False
section
variable {x e:Addr} {o':HO}
theorem HOk.write (ok:HOk P w H h) (Y:Mut (H x)) (he:e=x\/H e=some (.own x)) (k:∀b u,b≠e->h.get? b=some u->h'.get? b=some u) (Z:∃u,h'.get? e=some u)
  (new:ObjOk P w (upd H x o') h' x o'):HOk P w (upd H x o') h':=λb u q=>by
 have O:∀c y,H c=some (.own y)->c≠x:=λc y r z=>by subst z;rw[r]at Y;exact Y
 have U:∀c xs,H c=some (.tup xs)->c≠x:=λc xs r z=>by subst z;rw[r]at Y;exact Y
 by_cases hb:b=x
 .subst hb;rw[ai]at q;cases q;exact new
 .rw[ag hb]at q;by_cases I:b=e
  .have q':H b=some (.own x):=by
    rcases he with z|z
    .exact absurd (I.trans z) hb
    .rw[I];exact z
   rw[q]at q';cases q';obtain⟨v,hv⟩:=Z;exact⟨v,by rw[I];exact hv⟩
  .refine(ok b u q).stay (λc v hc r=>k c v ?_ r) (λc r=>by rw[ag (O c b r)];exact r) λc xs r=>by rw[ag (U c xs r)];exact r
   rcases hc with rfl|hc
   .exact I
   .rintro rfl;rcases he with z|z
    .exact O c b hc z
    .rw[hc]at z;cases z;exact hb rfl
end
structure Un (fs ex:List Addr) (H H':Hp) (h h':Heap):Prop where
 keep:∀b o,h.get? b=some o->H b=none->b∉fs->b∉ex->h'.get? b=some o
 slot:∀b o,h.get? b=some o->H b=none->b∈fs->b∉ex->∃sl,h'.get? b=some {o with slots:=sl}
 free:∀b o,h.get? b=some o->H b=none->b∉ex->H' b=none
 there:∀b o,h.get? b=some o->b∉ex->∃o',h'.get? b=some o'
 tups:∀b xs,H b=some (.tup xs)->H' b=some (.tup xs)
 frzs:∀b o u,H b=some (.frz o u)->H' b=some (.frz o u)
 tbls:∀b ps,H b=some (.tbl ps)->∃more,H' b=some (.tbl (ps++more))
section
variable {fs fs' ex ex':List Addr} {H1 H2:Hp} {h1 h2:Heap} {x e:Addr}
theorem Un.any (u:Un fs ex H H1 h h1) {ob:Obj} (q:h.get? b=some ob) (n:H b=none) (hx:b∉ex):∃sl,h1.get? b=some {ob with slots:=sl}:=by
 by_cases hb:b∈fs
 .exact u.slot b ob q n hb hx
 .exact⟨ob.slots,u.keep b ob q n hb hx⟩
theorem Un.kept (k:∀b u,h.get? b=some u->h'.get? b=some u):Un fs ex H H h h':=
 ⟨λb ob q _ _ _=>k b ob q,λb ob q _ _ _=>⟨ob.slots,k b ob q⟩,λ_ _ _ n _=>n,λb ob q _=>⟨ob,k b ob q⟩,λ_ _ q=>q,λ_ _ _ q=>q,λ_ ps q=>⟨#[],by rw[q];simp⟩⟩
theorem Un.refl:Un fs ex H H h h:=Un.kept λ_ _ q=>q
theorem Un.laid (k:∀b u,h.get? b=some u->h'.get? b=some u) (hp:h.objs.size<=a) (z:H a=none):Un fs ex H (upd H a o) h h' where
 keep:=λb u q _ _ _=>k b u q
 slot:=λb u q _ _ _=>⟨u.slots,k b u q⟩
 free:=λb u q n _=>by rw[ag (Qx (Qs (Heap.lt_size q) hp))];exact n
 there:=λb u q _=>⟨u,k b u q⟩
 tups:=λb xs q=>by rw[ag (ao q z)];exact q
 frzs:=λb u xs q=>by rw[ag (ao q z)];exact q
 tbls:=λb ps q=>⟨#[],by rw[ag (ao q z),q];simp⟩
theorem Un.write (O:Mut (H x)) (he:e=x\/H e=some (.own x)) (k:∀b u,b≠e->h.get? b=some u->h'.get? b=some u) (U:∃u,h'.get? e=some u):Un fs ex H (upd H x o) h h':=by
 have hx:∀b,H b=none->b≠x:=λb n z=>by subst z;rw[n]at O;exact O
 have hb:∀b,H b=none->b≠e:=λb n z=>by
  subst z;rcases he with r|r
  .exact hx b n r
  .rw[n]at r;cases r
 have Y:∀b u,H b=some u->¬Mut (some u)->b≠x:=λb u q nm z=>by subst z;rw[q]at O;exact nm O
 refine⟨λb u q n _ _=>k b u (hb b n) q,λb u q n _ _=>⟨u.slots,k b u (hb b n) q⟩,λb u q n _=>by rw[ag (hx b n)];exact n,λb u q _=>?_,
  λb xs q=>by rw[ag (Y b _ q λz=>z)];exact q,λb u xs q=>by rw[ag (Y b _ q λz=>z)];exact q,λb ps q=>⟨#[],by rw[ag (Y b _ q λz=>z),q];simp⟩⟩
 by_cases I:b=e
 .subst I;exact U
 .exact⟨u,k b u I q⟩
end
def trk (h:Heap) (H:Hp):List Addr:=(List.range h.objs.size).filter λa=>(H a).isSome
def xf (h:Heap) (H:Hp):Heap:=PySem.W.hideAll h (trk h H)
theorem Co (h:Heap) (H:Hp):(xf h H).objs.size=h.objs.size:=PySem.W.hideAll_size _ _
theorem D0 {o:Obj} (e:h.get? b=some o) (n:H b=none):(xf h H).get? b=some o:=
 PySem.W.hideAll_get _ e λz=>by
  have q:(H b).isSome=true:=(X1.mp z).2;rw[n]at q;simp at q
theorem FB {o:Obj} (e:(xf h H).get? b=some o):h.get? b=some o/\H b=none:=by
 have I:h.get? b=some o:=PySem.W.of_hideAll (trk h H) e;refine⟨I,?_⟩;cases q:H b with
 |none=>rfl
 |some x=>
  have O:b∈trk h H:=X1.mpr ⟨Kx.mpr (Heap.lt_size I),by simp[q]⟩;have z:(xf h H).get? b=none:=PySem.W.hideAll_none (trk h H) O;rw[z]at e;cases e
end L2
namespace L2
open PySem PySem.Spec PyProof.Rows
variable {C a b dx it:Addr} {A:Around} {g':Array GenState} {CX:CXT} {op:CmpOp} {X:Cx} {d':Drawn} {c e tg:Expr} {fd:FuncData} {base h h':Heap} {H H':Hp} {lo:Int} {g:Int->Int->Int} {pins:List (Addr×Obj)} {kw:List (Str×Value)} {ch fp:List Addr} {outer:List Env} {es:List Expr} {body:List Stmt} {N ps:List Str} {vs xs:List V} {us:List Value} {M:Model} {i n t':Nat} {o:Option Value} {p pos pos':Pos} {P prog:Program} {K:PySem.W.Frag} {r:R2} {R:Result->Shared->Prop} {scope:Scope} {s s':Shared} {sp:Sp} {σ:St} {f m name qual x:Str} {t ta te:TE} {tb:TS} {tc:TT} {v y:V} {u:Value} {E Q:Value->Shared->Prop} {rd:V->V->Hp->VK->Prop} {w:World}
section
structure Mod (K:PySem.W.Frag) (mg:Str->Option Value) (base:Heap):Prop where
 kin:K.In base
 glob:base.Ns mainGlobals mg
 blt:∃mb,base.Ns builtinsNs mb/\∀x:Str,x≠"__name__"->mb x=bootBuiltins x
 nolimit:base.NoLimit
/-- the context: a def's body (or a comprehension's block) running. base: fixed through the whole law; s₀, H₀: the entry; outer: the frames whose slots others may change (a def's callers); stack: all frames that run;
  ex:iterators that were made ahead of the entry and are walked here (a comprehension's);fn:the names whose cells were made at the entry (a def:all;a comprehension's block:its own);calm:not within an except suite;pn:pins that every state bears;xe:what is wanted of an exception that leaves the code-/
structure Cx where
 prog:Program
 w:World
 K:PySem.W.Frag
 mg:Str->Option Value
 base:Heap
 A:Around
 N:List Str
 s₀:Shared
 H₀:Hp
 env:Env
 outer:List Env
 stack:List Env
 ex:List Addr
 fn:Str->Bool
 calm:Bool
 pn:List (Addr×Obj)
 xe:Value->Shared->Prop
def frs (l:List Env):List Addr:=l.filterMap (·.frame)
abbrev Cx.fs (X:Cx):List Addr:=frs X.outer
def Vis (sc:Scope) (x:Str):Prop:=sc.names.lookup x=some .local\/sc.names.lookup x=some .cell\/sc.names.lookup x=some .free
def Loc (sc:Scope) (x:Str):Prop:=sc.names.lookup x=some .local\/sc.names.lookup x=some .cell
def Look (env:Env) (h:Heap) (m:Str->Option Value) (x:Str) (u:Value):Prop:=
 (env.kindOf x=some .local/\m x=some u)\/((env.kindOf x=some .cell\/env.kindOf x=some .free)/\∃c,env.cells.lookup x=some c/\h.IsCell c (some u))
structure Cx.Ok (X:Cx):Prop where
 mod:Mod X.K X.mg X.base
 kind:X.env.scope.kind= .function
 glob:X.env.globals=mainGlobals
 blt:X.env.builtins=builtinsNs
 above:X.s₀.heap.objs.size<=X.env.locals
 inj:∀x y c,X.env.cells.lookup x=some c->X.env.cells.lookup y=some c->x=y
 has:∀x,(X.env.kindOf x=some .cell\/X.env.kindOf x=some .free)->∃c,X.env.cells.lookup x=some c
 cab:∀x c,X.fn x=true->X.env.cells.lookup x=some c->X.s₀.heap.objs.size<=c
 hd:X.calm=true->X.A.handled=none
 frames:X.A.frames=some X.stack
 stk:X.stack=X.outer\/(X.stack=X.env::X.outer/\X.env.frame=some X.env.locals)
 exf:∀b∈X.ex,b≠X.env.locals/\∀x c,X.env.cells.lookup x=some c->c≠b
 bs:∀b o,X.base.get? b=some o->X.s₀.heap.get? b=some o/\X.H₀ b=none
 bsz:X.base.objs.size<=X.s₀.heap.objs.size
 noex:∀b o,X.base.get? b=some o->b∉X.ex
 exfs:∀b∈X.ex,b∉X.fs
 funs:X.s₀.heap.FunFrames X.base X.outer
 frf:∀b∈X.fs,X.H₀ b=none
structure Inv (X:Cx) (pins:List (Addr×Obj)) (σ:List (Option V)) (H:Hp) (s:Shared):Prop where
 ok:X.Ok
 os:s.os=X.s₀.os
 bare:AllBare s.gens
 base:Un X.fs X.ex X.H₀ H X.s₀.heap s.heap
 loc:∃m,s.heap.Ns X.env.locals m/\∀(i:Nat) (x:Str) (v:V),X.N[i]?=some x->σ[i]?=some (some v)->Vis X.env.scope x->∃u,RelV v u/\Look X.env s.heap m x u
 cell:∀x c,X.env.cells.lookup x=some c->∃v,s.heap.IsCell c v
 free:H X.env.locals=none
 freeC:∀x c,X.env.cells.lookup x=some c->H c=none
 pin:∀p∈X.pn++pins,s.heap.get? p.1=some p.2/\H p.1=none/\p.1≠X.env.locals/\p.1∉X.fs/\∀v,p.2.data≠ .cell v
 hok:HOk X.prog X.w H s.heap
 len:σ.length=X.N.length
section
variable {σ:List (Option V)}
theorem Cx.Ok.nofr (ok:X.Ok) {o:Obj} (e:X.base.get? b=some o):b∉X.fs:=λhb=>by
 have:=(ok.funs.mem hb).1;rw[e]at this;cases this
theorem Inv.bs (I:Inv X pins σ H s):∀b o,X.base.get? b=some o->s.heap.get? b=some o/\H b=none:=λb o e=>
 ⟨I.base.keep b o (I.ok.bs b o e).1 (I.ok.bs b o e).2 (I.ok.nofr e) (I.ok.noex b o e),I.base.free b o (I.ok.bs b o e).1 (I.ok.bs b o e).2 (I.ok.noex b o e)⟩
theorem Inv.bk (I:Inv X pins σ H s):∀b o,X.base.get? b=some o->s.heap.get? b=some o:=λb o e=>(I.bs b o e).1
theorem Inv.mod (I:Inv X pins σ H s):Mod X.K X.mg X.base:=I.ok.mod
theorem Inv.kIn (I:Inv X pins σ H s):X.K.In s.heap:=I.ok.mod.kin.keeps I.bk
theorem Inv.lt (I:Inv X pins σ H s):X.env.locals<s.heap.objs.size:=let⟨_,hn,_⟩:=I.loc;hn.lt
theorem Inv.sz (I:Inv X pins σ H s):X.s₀.heap.objs.size<=s.heap.objs.size:=QL I.ok.above (Zd I.lt)
theorem Inv.nofs (I:Inv X pins σ H s) (h:s.heap.objs.size<=a):a∉X.fs:=λhb=>by
 obtain⟨_,o,z,_⟩:=I.ok.funs.mem hb;exact absurd (Qs (Heap.lt_size z) (QL I.sz h)) (Zy _)
theorem Inv.cne (I:Inv X pins σ H s):∀x c,X.env.cells.lookup x=some c->c≠X.env.locals:=λx c e z=>by
 obtain⟨v,o,Y,hd⟩:=I.cell x c e;obtain⟨m,⟨o',es,ep,O,U,_⟩,_⟩:=I.loc;rw[z,O]at Y;cases Y;rw[U]at hd;cases hd
theorem Inv.funs (I:Inv X pins σ H s):s.heap.FunFrames X.base X.outer:=by
 have all:∀(l:List Env),(∀b∈frs l,b∈X.fs)->X.s₀.heap.FunFrames X.base l->s.heap.FunFrames X.base l:=by
  intro l
  induction l with
  |nil=>intro _ _;trivial
  |cons env r Y=>
   intro U hl;obtain⟨hk,⟨L,o,hf,Z,ho,hd⟩,hr⟩:=hl;have O:L∈X.fs:=U L (by unfold frs;rw[Xr,hf];exact Q6);obtain⟨sl,e⟩:=I.base.slot L o ho (I.ok.frf L O) O λz=>I.ok.exfs L z O;exact⟨hk,⟨L,_,hf,Z,e,hd⟩,Y (λb hb=>U b (by unfold frs;rw[Xr,hf];exact Q8 _ hb)) hr⟩
 exact all X.outer (λ_ hb=>hb) I.ok.funs
theorem Inv.stack (I:Inv X pins σ H s):s.heap.FunFrames X.base X.stack:=by
 rcases I.ok.stk with e|⟨e,hf⟩
 .rw[e];exact I.funs
 .rw[e];obtain⟨m,z,_⟩:=I.loc;refine .cons (by rw[I.ok.kind];decide) hf z ?_ I.funs;exact Heap.get?_none_of_le (QL I.ok.bsz I.ok.above)
theorem Inv.stkSub (I:Inv X pins σ H s):∀b∈frs X.stack,b∈X.env.locals::X.fs:=λb hb=>by
 rcases I.ok.stk with e|⟨e,hf⟩
 .rw[e]at hb;exact Q8 _ hb
 .rw[e]at hb;unfold frs at hb;rw[Xr,hf]at hb;exact hb
theorem Inv.stkFree (I:Inv X pins σ H s):∀b∈frs X.stack,H b=none:=λb hb=>by
 rcases Qg.mp (I.stkSub b hb)with e|hb
 .rw[e];exact I.free
 .obtain⟨_,o,O,_⟩:=I.ok.funs.mem hb;exact I.base.free b o O (I.ok.frf b hb) λz=>I.ok.exfs b z hb
theorem Inv.step (I:Inv X pins σ H s)
  (O:∀b∈ch,(b∈X.ex\/X.s₀.heap.objs.size<=b)/\b≠X.env.locals/\(∀x c,X.env.cells.lookup x=some c->c≠b)/\∀p∈X.pn++pins,p.1≠b)
  (keep:∀b o,b≠X.env.locals->b∉X.fs->b∉ch->s.heap.get? b=some o->H b=none->h'.get? b=some o)
  (slot:∀b o,b≠X.env.locals->b∈X.fs->b∉ch->s.heap.get? b=some o->H b=none->∃sl,h'.get? b=some {o with slots:=sl}) (free:∀b o,b∉ch->s.heap.get? b=some o->H b=none->H' b=none)
  (there:∀b o,b∉ch->s.heap.get? b=some o->∃o',h'.get? b=some o')
  (tups:∀b xs,H b=some (.tup xs)->H' b=some (.tup xs)) (frzs:∀b o u,H b=some (.frz o u)->H' b=some (.frz o u)) (tbls:∀b ps,H b=some (.tbl ps)->∃a0,H' b=some (.tbl (ps++a0)))
  (ns:∀m,s.heap.Ns X.env.locals m->h'.Ns X.env.locals m) (hok:HOk X.prog X.w H' h') (hg:AllBare g'):
  Inv X pins σ H' {s with heap:=h',gens:=g',drawn:=d',toks:=t'}:=by
 have a1:∀b o,X.s₀.heap.get? b=some o->b≠X.env.locals:=λb o e=>Qx (Qs (Heap.lt_size e) I.ok.above);have Z:∀b o,X.s₀.heap.get? b=some o->b∉X.ex->b∉ch:=λb o e hx hb=>by
  rcases(O b hb).1 with z|z
  .exact hx z
  .exact absurd (Qs (Heap.lt_size e) z) (Zy _)
 have U:∀x c,X.env.cells.lookup x=some c->∀v,s.heap.IsCell c v->h'.IsCell c v:=λx c e v ⟨o,ho,hd⟩=>by
  have Y:c∉ch:=λz=>(O c z).2.2.1 x c e rfl;by_cases hc:c∈X.fs
  .obtain⟨sl,q⟩:=slot c o (I.cne x c e) hc Y ho (I.freeC x c e);exact⟨_,q,hd⟩
  .exact⟨o,keep c o (I.cne x c e) hc Y ho (I.freeC x c e),hd⟩
 refine⟨I.ok,I.os,hg,⟨λb o e n hb hx=>?_,λb o e n hb hx=>?_,λb o e n hx=>?_,λb o e hx=>?_,λb xs e=>tups b xs (I.base.tups b xs e),λb o xs e=>frzs b o xs (I.base.frzs b o xs e),λb ps e=>?_⟩,?_,λx c e=>?_,?_,λx c e=>?_,λp hp=>?_,hok,I.len⟩
 .exact keep b o (a1 b o e) hb (Z b o e hx) (I.base.keep b o e n hb hx) (I.base.free b o e n hx)
 .obtain⟨sl,e1⟩:=I.base.slot b o e n hb hx;obtain⟨a2,e2⟩:=slot b _ (a1 b o e) hb (Z b o e hx) e1 (I.base.free b o e n hx);exact⟨a2,e2⟩
 .obtain⟨o',e1⟩:=I.base.there b o e hx;exact free b o' (Z b o e hx) e1 (I.base.free b o e n hx)
 .obtain⟨o',e1⟩:=I.base.there b o e hx;exact there b o' (Z b o e hx) e1
 .obtain⟨m1,e1⟩:=I.base.tbls b ps e;obtain⟨m2,e2⟩:=tbls b _ e1;exact⟨m1++m2,by rw[e2,Array.append_assoc]⟩
 .obtain⟨m,hn,hl⟩:=I.loc;refine⟨m,ns m hn,λi x v e1 e2 e3=>?_⟩;obtain⟨u,r,l⟩:=hl i x v e1 e2 e3;refine⟨u,r,?_⟩;rcases l with l|⟨k,c,e,z⟩
  .exact .inl l
  .exact .inr ⟨k,c,e,U x c e _ z⟩
 .obtain⟨v,z⟩:=I.cell x c e;exact⟨v,U x c e v z⟩
 .obtain⟨m,⟨o,_,_,ho,_⟩,_⟩:=I.loc;exact free _ o (λz=>(O _ z).2.1 rfl) ho I.free
 .obtain⟨v,o,ho,hd⟩:=I.cell x c e;exact free c o (λz=>(O c z).2.2.1 x c e rfl) ho (I.freeC x c e)
 .obtain⟨e,n,ne,nf,d⟩:=I.pin p hp;have Y:p.1∉ch:=λz=>(O p.1 z).2.2.2 p hp rfl;exact⟨keep p.1 p.2 ne nf Y e n,free p.1 p.2 Y e n,ne,nf,d⟩
theorem Inv.un (I:Inv X pins σ H s) (u:Un X.fs [] H H' s.heap h') (hok:HOk X.prog X.w H' h'):Inv X pins σ H' {s with heap:=h',toks:=t'}:=by
 obtain⟨m,⟨o,es,ep,Z,r⟩,_⟩:=id I.loc;obtain⟨sl,hL⟩:=u.any Z I.free (by simp);exact I.step (g':=s.gens) (d':=s.drawn) (ch:=[]) (λ_ z=>nomatch z) (λb o _ hb _ e n=>u.keep b o e n hb (by simp)) (λb o _ hb _ e n=>u.slot b o e n hb (by simp)) (λb o _ e n=>u.free b o e n (by simp)) (λb o _ e=>u.there b o e (by simp)) u.tups u.frzs u.tbls (λm' hm=>by
  obtain⟨o',U,Y,O,r'⟩:=hm;rw[Z]at O;cases O;exact⟨_,U,Y,hL,r'⟩) hok I.bare
theorem Inv.call (I:Inv X pins σ H s) (u:Un (frs X.stack) ch H H' s.heap h') (hok:HOk X.prog X.w H' h') (hg:AllBare g')
  (O:∀b∈ch,(b∈X.ex\/X.s₀.heap.objs.size<=b)/\b≠X.env.locals/\(∀x c,X.env.cells.lookup x=some c->c≠b)/\∀p∈X.pn++pins,p.1≠b):
  Inv X pins σ H' {s with heap:=h',gens:=g',drawn:=d',toks:=t'}:=by
 obtain⟨m,⟨o,es,ep,ho,r⟩,_⟩:=id I.loc;obtain⟨sl,Y⟩:=u.any ho I.free λz=>(O _ z).2.1 rfl;exact I.step (ch:=ch) O (λb o Y hb hc e n=>u.keep b o e n (λz=>(Qg.mp (I.stkSub b z)).elim Y hb) hc) (λb o _ _ hc e n=>u.any e n hc) (λb o hc e n=>u.free b o e n hc) (λb o hc e=>u.there b o e hc) u.tups u.frzs u.tbls (λm' hm=>by
  obtain⟨o',Z,a0,U,r'⟩:=hm;rw[ho]at U;cases U;exact⟨_,Z,a0,Y,r'⟩) hok hg
theorem Inv.turned (I:Inv X pins σ H s) (k:∀b o,b≠it->s.heap.get? b=some o->h'.get? b=some o) (Y:H it=none) (U:it≠X.env.locals)
  (h1:it∈X.ex\/X.s₀.heap.objs.size<=it) (h2:∀x c,X.env.cells.lookup x=some c->c≠it) (Z:∀p∈X.pn++pins,p.1≠it):Inv X pins σ H {s with heap:=h',toks:=t'}:=by
 have O:∀b u,H b=some u->b≠it:=λb u e z=>by rw[z,Y]at e;cases e
 refine I.step (g':=s.gens) (d':=s.drawn) (ch:=[it]) (λb hb=>?_) (λb o _ _ hc e _=>k b o (λz=>hc (by simp[z])) e) (λb o _ _ hc e _=>⟨o.slots,k b o (λz=>hc (by simp[z])) e⟩) (λ_ _ _ _ n=>n)
  (λb o hc e=>⟨o,k b o (λz=>hc (by simp[z])) e⟩) (λ_ _ e=>e) (λ_ _ _ e=>e) (λb ps e=>⟨#[],by rw[e];simp⟩) (λm hm=>?_) (λb u e=>?_) I.bare
 .have e:b=it:=by simpa using hb
  subst e;exact⟨h1,U,h2,Z⟩
 .obtain⟨o,es,ep,ho,r⟩:=hm;exact⟨o,es,ep,k _ o (Ne.symm U) ho,r⟩
 .refine(I.hok b u e).stay (λc v hc q=>k c v ?_ q) (λ_ q=>q) λ_ _ q=>q;rcases hc with z|z
  .rw[z];exact O b u e
  .exact O c _ z
theorem Inv.tok (I:Inv X pins σ H s) (t:Nat):Inv X pins σ H {s with toks:=t}:=I.un (h':=s.heap) (t':=t) Un.refl I.hok
theorem Inv.kept (I:Inv X pins σ H s) (k:∀b u,s.heap.get? b=some u->h'.get? b=some u):Inv X pins σ H {s with heap:=h',toks:=t'}:=I.un (Un.kept k) (I.hok.kept k)
theorem Inv.laid {o:HO} (I:Inv X pins σ H s) (k:∀b u,s.heap.get? b=some u->h'.get? b=some u) (hp:s.heap.objs.size<=a) (new:ObjOk X.prog X.w (upd H a o) h' a o):
  Inv X pins σ (upd H a o) {s with heap:=h',toks:=t'}:=I.un (Un.laid k hp (I.hok.fresh hp)) (I.hok.laid k hp new)
theorem Inv.write {x e:Addr} {o:HO} (I:Inv X pins σ H s) (O:Mut (H x)) (he:e=x\/H e=some (.own x)) (k:∀b u,b≠e->s.heap.get? b=some u->h'.get? b=some u) (z:∃u,h'.get? e=some u)
  (new:ObjOk X.prog X.w (upd H x o) h' x o):Inv X pins σ (upd H x o) {s with heap:=h',toks:=t'}:=I.un (Un.write O he k z) (I.hok.write O he k z new)
theorem Inv.pins_of {O:List (Addr×Obj)} (I:Inv X pins σ H s) (h:∀p∈O,s.heap.get? p.1=some p.2/\H p.1=none/\p.1≠X.env.locals/\p.1∉X.fs/\∀v,p.2.data≠ .cell v):Inv X O σ H s:=
 ⟨I.ok,I.os,I.bare,I.base,I.loc,I.cell,I.free,I.freeC,λp hp=>(Q5.mp hp).elim (λz=>I.pin p (ZY _ z)) (h p),I.hok,I.len⟩
theorem yp (z:N.Nodup) {j:Nat} (a:N[i]?=some x) (b:N[j]?=some x):i=j:=by
 obtain⟨h1,I⟩:=Q2.mp a;obtain⟨h2,e2⟩:=Q2.mp b;exact(List.getElem_inj z).mp (I.trans e2.symm)
theorem u0 {Q:Unit->Shared->Prop} (I:Inv X pins σ H s) (hN:X.N.Nodup) (hi:X.N[i]?=some x) (hx:Loc X.env.scope x) (r:RelV v u)
  (h:∀s',Inv X pins (σ.set i (some v)) H s'->(∃a,Heap.SameBut a s.heap s'.heap/\(a=X.env.locals\/X.env.cells.lookup x=some a))->Q () s') (hf:X.fn x=true\/X.env.scope.names.lookup x=some .local:=by first|exact .inl rfl|exact .inr rfl|assumption):wpAny M A (storeName X.env x u) Q E s:=by
 obtain⟨m,hn,hl⟩:=id I.loc;have a2:(X.env.scope.kind== .class||(X.env.scope.kind== .module&&X.env.locals !=X.env.globals))=false:=by rw[I.ok.kind];rfl
 have a0:i<σ.length:=by rw[I.len];exact(Q2.mp hi).1
 have cne:=I.cne;have U:∀{a:Addr} {h':Heap},(∃o,s.heap.get? a=some o/\H a=none)->Heap.SameBut a s.heap h'->HOk X.prog X.w H h':=λ{a h'} ha O b ob e=>by
  obtain⟨_,_,Z⟩:=ha;refine(I.hok b ob e).stay (λc w' hc q=>(O.2 c ?_).trans q) (λ_ q=>q) λ_ _ q=>q;rintro rfl;rcases hc with rfl|hc
  .rw[Z]at e;cases e
  .rw[Z]at hc;cases hc
 rcases hx with hk|hk
 .refine wpAny_storeName_local hk hn (λh' ac O=>?_) a2;obtain⟨oL,_,_,af,_⟩:=id hn;refine h _ ⟨I.ok,I.os,I.bare,⟨λb o e n hb hx=>?_,λb o e n hb hx=>?_,I.base.free,λb o e hx=>?_,I.base.tups,I.base.frzs,I.base.tbls⟩,⟨_,ac,λj y v' Y e2 e3=>?_⟩,λy c e=>?_,I.free,I.freeC,λp hp=>?_,U ⟨oL,af,I.free⟩ O,by simpa using I.len⟩ ⟨_,O,.inl rfl⟩
  .exact(O.2 b (Qx (Qs (Heap.lt_size e) I.ok.above))).trans (I.base.keep b o e n hb hx)
  .obtain⟨sl,Y⟩:=I.base.slot b o e n hb hx;exact⟨sl,(O.2 b (Qx (Qs (Heap.lt_size e) I.ok.above))).trans Y⟩
  .obtain⟨o',Y⟩:=I.base.there b o e hx;exact⟨o',(O.2 b (Qx (Qs (Heap.lt_size e) I.ok.above))).trans Y⟩
  .by_cases hj:j=i
   .subst hj;rw[hi]at Y;cases Y;rw[Xd a0]at e2;cases e2;exact⟨u,r,.inl ⟨hk,by simp⟩⟩
   .rw[List.getElem?_set_ne (Ne.symm hj)]at e2;obtain⟨u',r',q⟩:=hl j y v' Y e2 e3;refine⟨u',r',?_⟩;rcases q with⟨k,e⟩|⟨k,c,e,z⟩
    .refine .inl ⟨k,?_⟩;have:y≠x:=λe=>hj (yp hN Y (e▸hi));simp[this,e]
    .exact .inr ⟨k,c,e,z.sameBut O (cne y c e)⟩
  .obtain⟨w',z⟩:=I.cell y c e;exact⟨w',z.sameBut O (cne y c e)⟩
  .obtain⟨e,n,ne,nf,d⟩:=I.pin p hp;exact⟨(O.2 p.1 ne).trans e,n,ne,nf,d⟩
 .have a1:X.fn x=true:=by
   rcases hf with z|z
   .exact z
   .rw[z]at hk;cases hk
  obtain⟨c,hc⟩:=I.ok.has x (.inl hk);obtain⟨w',z⟩:=I.cell x c hc;refine wpAny_storeName_cell I.ok.kind hk hc z (λh' a3 O=>?_);obtain⟨oc,a4,a5⟩:=id z;refine h {s with heap:=h'} ⟨I.ok,I.os,I.bare,⟨λb o e n hb hx=>?_,λb o e n hb hx=>?_,I.base.free,λb o e hx=>?_,I.base.tups,I.base.frzs,I.base.tbls⟩,⟨m,hn.sameBut O (Ne.symm (cne x c hc)),λj y v' Y e2 e3=>?_⟩,λy c' e=>?_,I.free,I.freeC,λp hp=>?_,U ⟨oc,a4,I.freeC x c hc⟩ O,by simpa using I.len⟩ ⟨c,O,.inr hc⟩
  .exact(O.2 b (Qx (Qs (Heap.lt_size e) (I.ok.cab x c a1 hc)))).trans (I.base.keep b o e n hb hx)
  .obtain⟨sl,Y⟩:=I.base.slot b o e n hb hx;exact⟨sl,(O.2 b (Qx (Qs (Heap.lt_size e) (I.ok.cab x c a1 hc)))).trans Y⟩
  .obtain⟨o',Y⟩:=I.base.there b o e hx;exact⟨o',(O.2 b (Qx (Qs (Heap.lt_size e) (I.ok.cab x c a1 hc)))).trans Y⟩
  .by_cases hj:j=i
   .subst hj;rw[hi]at Y;cases Y;rw[Xd a0]at e2;cases e2;exact⟨u,r,.inr ⟨.inl hk,c,hc,a3⟩⟩
   .rw[List.getElem?_set_ne (Ne.symm hj)]at e2;obtain⟨u',r',q⟩:=hl j y v' Y e2 e3;refine⟨u',r',?_⟩;rcases q with q|⟨k,c',e,z'⟩
    .exact .inl q
    .refine .inr ⟨k,c',e,z'.sameBut O ?_⟩;rintro rfl;exact hj (yp hN Y (I.ok.inj _ _ _ e hc▸hi))
  .by_cases aa:c'=c
   .subst aa;exact⟨_,a3⟩
   .obtain⟨w2,z2⟩:=I.cell y c' e;exact⟨w2,z2.sameBut O aa⟩
  .obtain⟨e,n,ne,nf,d⟩:=I.pin p hp;refine⟨(O.2 p.1 ?_).trans e,n,ne,nf,d⟩;intro q;rw[q,a4]at e;have q':oc=p.2:=Option.some.inj e;exact d w' (by rw[<-q'];exact a5)
theorem qS {Q:Unit->Shared->Prop} (I:Inv X pins σ H s) (z:X.N.Nodup) (hi:X.N[i]?=some x) (hx:Loc X.env.scope x) (r:RelV v u)
  (h:∀s',Inv X pins (σ.set i (some v)) H s'->Q () s') (hf:X.fn x=true\/X.env.scope.names.lookup x=some .local:=by first|exact .inl rfl|exact .inr rfl|assumption):wpAny M A (storeName X.env x u) Q E s:=
 u0 I z hi hx r (λs' O _=>h s' O) hf
theorem Inv.call' (I:Inv X pins σ H s) (O:s'.os=s.os) (u:Un (frs X.stack) ch H H' s.heap s'.heap) (hok:HOk X.prog X.w H' s'.heap) (U:AllBare s'.gens)
  (z:∀b∈ch,(b∈X.ex\/X.s₀.heap.objs.size<=b)/\b≠X.env.locals/\(∀x c,X.env.cells.lookup x=some c->c≠b)/\∀p∈X.pn++pins,p.1≠b):Inv X pins σ H' s':=by
 obtain⟨h',g',d',t',o'⟩:=s';have e:o'=s.os:=O;subst e;exact I.call (g':=g') (t':=t') (d':=d') u hok U z
end
abbrev XK:=Value->Option Addr->Hp->Prop
abbrev St:=List (Option V)
abbrev VK:=V->Hp->Prop
abbrev TE:=St->Hp->VK->Prop
abbrev TT:=St->Hp->(Bool->Hp->Prop)->Prop
abbrev TA:=St->Hp->(List V->Hp->Prop)->Prop
structure lq where
 nx:St->Hp->Prop
 rt:VK
 bk:St->Hp->Prop:=λ_ _=>False
 ct:St->Hp->Prop:=λ_ _=>False
abbrev TS:=lq->St->Hp->Prop
def EP (X:Cx) (pins:List (Addr×Obj)) (σ:St) (Q:VK) (u:Value) (s':Shared):Prop:=∃v H',Inv X pins σ H' s'/\RelV v u/\Q v H'
def TP (X:Cx) (pins:List (Addr×Obj)) (σ:St) (Q:Bool->Hp->Prop) (b:Bool) (s':Shared):Prop:=∃H',Inv X pins σ H' s'/\Q b H'
def AP (X:Cx) (pins:List (Addr×Obj)) (σ:St) (Q:List V->Hp->Prop) (us:List Value) (s':Shared):Prop:=∃vs H',Inv X pins σ H' s'/\Vals vs us/\Q vs H'
def SP (X:Cx) (pins:List (Addr×Obj)) (D:lq) (f:Flow) (s':Shared):Prop:=
 match f with
 | .next=>∃σ' H',Inv X pins σ' H' s'/\D.nx σ' H'
 | .brk=>∃σ' H',Inv X pins σ' H' s'/\D.bk σ' H'
 | .cont=>∃σ' H',Inv X pins σ' H' s'/\D.ct σ' H'
 | .ret u=>∃v σ' H',Inv X pins σ' H' s'/\RelV v u/\D.rt v H'
def PE (X:Cx) (e:Expr) (t:TE):Prop:=
 ∀(pins:List (Addr×Obj)) (s:Shared) (σ:St) (H:Hp) (Q:VK),Inv X pins σ H s->t σ H Q->wpAny (model X.prog X.w) X.A (eval e X.env) (EP X pins σ Q) X.xe s
def PT (X:Cx) (e:Expr) (t:TT):Prop:=
 ∀(pins:List (Addr×Obj)) (s:Shared) (σ:St) (H:Hp) (Q:Bool->Hp->Prop),Inv X pins σ H s->t σ H Q->wpAny (model X.prog X.w) X.A (isTrue e X.env (eval e X.env)) (TP X pins σ Q) X.xe s
def PW (X:Cx) (e:Expr) (t:TT):Prop:=
 ∀(whole:Sem Value) (pins:List (Addr×Obj)) (s:Shared) (σ:St) (H:Hp) (Q:Bool->Hp->Prop),Inv X pins σ H s->t σ H Q->wpAny (model X.prog X.w) X.A (isTrue e X.env whole) (TP X pins σ Q) X.xe s
theorem PW.pt {t:TT} (h:PW X e t):PT X e t:=h _
def PA (X:Cx) (es:List Expr) (t:TA):Prop:=
 ∀(pos:Pos) (pins:List (Addr×Obj)) (s:Shared) (σ:St) (H:Hp) (Q:List V->Hp->Prop),Inv X pins σ H s->t σ H Q->wpAny (model X.prog X.w) X.A (spliced (backTo pos (starEach es X.env))) (AP X pins σ Q) X.xe s
def PS (X:Cx) (st:Stmt) (t:TS):Prop:=
 ∀(pins:List (Addr×Obj)) (s:Shared) (σ:St) (H:Hp) (D:lq),Inv X pins σ H s->t D σ H->wpAny (model X.prog X.w) X.A (exec st X.env) (SP X pins D) X.xe s
def PSs (X:Cx) (st:List Stmt) (t:TS):Prop:=
 ∀(pins:List (Addr×Obj)) (s:Shared) (σ:St) (H:Hp) (D:lq),Inv X pins σ H s->t D σ H->wpAny (model X.prog X.w) X.A (execs st X.env) (SP X pins D) X.xe s
theorem thn {α:Type} {t:Sem α} {Q Q':α->Shared->Prop} (h:wpAny M A t Q E s) (z:∀a s,Q a s->Q' a s):wpAny M A t Q' E s:=wpAny_mono h z λ_ _ x=>x
end
section
section
inductive C2 (i:Nat) (σ:St) (H:Hp) (Q:VK):Prop
 |mk (v:_) (_:σ[i]?=some (some v)) (_:Q v H)
def tC (v:V):TE:=λ_ H Q=>Q v H
theorem Hj {i:Nat} (U:X.N[i]?=some x) (Y:Vis X.env.scope x) (hd:(x==("__debug__":Str))=false:=by decide) (O:(x==("__classdict__":Str))=false:=by decide):PE X (.Name x pos) (C2 i):=by
 intro pins s σ H Q I h;obtain⟨v,e,h⟩:=h;obtain⟨m,Z,hl⟩:=I.loc;obtain⟨u,r,l⟩:=hl i x v U e Y;have fin:EP X pins σ Q u s:=⟨v,H,I,r,h⟩;rcases l with⟨hk,hm⟩|⟨hk,c,hc,z⟩
 .exact wpAny_Name (wpAny_loadName_local I.ok.kind hk Z hm fin) hd
 .rcases hk with hk|hk
  .exact wpAny_Name (wpAny_loadName_cell I.ok.kind hk hc z fin) hd
  .exact wpAny_Name (wpAny_loadName_free I.ok.kind hk hc z fin O) hd
theorem aq {i j pos}:PE X (.Constant (.int i) j pos) (tC (.int i)):=λ_ _ _ H _ I h=>wpAny_Constant_int ⟨.int i,H,I.tok _,⟨_,rfl⟩,h⟩
theorem j9 {b j pos}:PE X (.Constant (.bool b) j pos) (tC (.bl b)):=λ_ _ _ H _ I h=>Constant_bool ⟨.bl b,H,I,rfl,h⟩
theorem j7 {j pos}:PE X (.Constant .none j pos) (tC .non):=λ_ _ _ H _ I h=>Constant_none ⟨.non,H,I,rfl,h⟩
theorem bI {x j pos}:PE X (.Constant (.str x) j pos) (tC (.str x)):=λ_ _ _ H _ I h=>Calls.Constant_str ⟨.str x,H,I.tok _,⟨_,rfl⟩,h⟩
def Gl (X:Cx) (x:Str):Prop:=X.env.kindOf x=some .globalImplicit
theorem gR {σ:St} {H:Hp} {Q:Value->Shared->Prop} (I:Inv X pins σ H s) (z:Gl X x) (O:X.mg x=some u) (h:Q u s)
  (hd:(x==("__debug__":Str))=false:=by decide):wpAny (model X.prog X.w) X.A (eval (.Name x pos) X.env) Q E s:=
 Calls.Name_function_global I.ok.kind z (Calls.loadGlobal_global (by rw[I.ok.glob];exact I.mod.glob.keeps I.bk) O h) hd
theorem pH {σ:St} {H:Hp} {Q:Value->Shared->Prop} (I:Inv X pins σ H s) (z:Gl X x) (O:X.mg x=none) (U:bootBuiltins x=some u) (h:Q u s)
  (Y:x≠"__name__":=by decide) (hd:(x==("__debug__":Str))=false:=by decide):wpAny (model X.prog X.w) X.A (eval (.Name x pos) X.env) Q E s:=by
 obtain⟨Z,h1,h2⟩:=I.mod.blt;exact Calls.Name_function_global I.ok.kind z (Calls.loadGlobal_builtin (by rw[I.ok.glob];exact I.mod.glob.keeps I.bk) O (by rw[I.ok.blt];exact h1.keeps I.bk) ((h2 x Y).trans U) h) hd
theorem cm {v:V} (z:Gl X x) (O:X.mg x=some u) (r:RelV v u) (hd:(x==("__debug__":Str))=false:=by decide):PE X (.Name x pos) (tC v):=
 λ_ _ _ H _ I h=>gR I z O ⟨v,H,I,r,h⟩ hd
theorem nM {v:V} (z:Gl X x) (O:X.mg x=none) (U:bootBuiltins x=some u) (r:RelV v u) (Y:x≠"__name__":=by decide) (hd:(x==("__debug__":Str))=false:=by decide):PE X (.Name x pos) (tC v):=
 λ_ _ _ H _ I h=>pH I z O U ⟨v,H,I,r,h⟩ Y hd
variable {a b:Expr} {tb:TE}
def PC (X:Cx) (op:CmpOp) (a b:Expr) (t:TE):Prop:=
 ∀(pins:List (Addr×Obj)) (s:Shared) (σ:St) (H:Hp) (Q:VK),Inv X pins σ H s->t σ H Q->
  wpAny (model X.prog X.w) X.A (eval a X.env) (λv s₁=>wpAny (model X.prog X.w) X.A (eval b X.env) (λu s₂=>wpAny (model X.prog X.w) X.A (compareOp op v u) (EP X pins σ Q) X.xe s₂) X.xe s₁) X.xe s
inductive tBR (Q:Bool->Hp->Prop) (x:V) (H1:Hp):Prop
 |mk (c:_) (_:x= .bl c) (_:Q c H1)
def tB (t:TE):TT:=λσ H Q=>t σ H λx H1=>tBR Q x H1
theorem Hm (h:PC X op a b t) (h1:behindInMarks op b=false:=by first|exact nobehind _ (by decide) (by decide)|rfl):PE X (.Compare a [op] [b] pos) t:=λpins s σ H Q I hw=>wpAny_Compare1 (h pins s σ H Q I hw) h1
theorem wD (h:PC X op a b t) (h1:behindInMarks op b=false:=by first|exact nobehind _ (by decide) (by decide)|rfl):PT X (.Compare a [op] [b] pos) (tB t):=by
 intro pins s σ H Q I hw;refine wpAny_isTrue_Compare1 (thn (h pins s σ H _ I hw) λv s1 h1=>thn h1 λu Y h2=>thn h2 λc s3 z=>?_) h1;obtain⟨x,H1,O,r1,U⟩:=z;obtain⟨d,rfl,q⟩:=U;cases r1;exact wpAny_truthy_bool ⟨H1,O,q⟩
theorem b9 (h:PE X e t) (he:∀z,isTrue e X.env z=(do let v<-z;standAt e.pos;holding [v] (truthy v)):=by intro _;rfl):PT X e (tB t):=by
 intro pins s σ H Q I hw;refine isTrue_plain (thn (h pins s σ H _ I hw) λv s1 O=>?_) (he _);obtain⟨x,H1,U,r1,Y⟩:=O;obtain⟨d,rfl,q⟩:=Y;cases r1;exact wpAny_truthy_bool ⟨H1,U,q⟩
variable {tA tB':TT} {rest:List Expr}
def tAnd (t u:TT):TT:=λσ H Q=>t σ H λc H1=>if c=true then u σ H1 Q else Q false H1
def tOr (t u:TT):TT:=λσ H Q=>t σ H λc H1=>if c=true then Q true H1 else u σ H1 Q
def tNot (t:TT):TT:=λσ H Q=>t σ H λc H1=>Q (!c) H1
theorem gM (ha:PT X a tA):PW X (.BoolOp .And [a] pos) tA:=by
 intro wh pins s σ H Q I h;refine isTrue_and (thn (ha pins s σ H Q I h) λc s1 e=>?_);cases c with
 |true=>exact isTrue_and_nil e
 |false=>exact e
theorem io (ha:PT X a tA):PW X (.BoolOp .Or [a] pos) tA:=by
 intro wh pins s σ H Q I h;refine isTrue_or (thn (ha pins s σ H Q I h) λc s1 e=>?_);cases c with
 |false=>exact isTrue_or_nil e
 |true=>exact e
theorem j5 (ha:PT X a tA) (hb:PW X (.BoolOp .And (b::rest) pos) tB'):PW X (.BoolOp .And (a::b::rest) pos) (tAnd tA tB'):=by
 intro wh pins s σ H Q I h;refine isTrue_and (thn (ha pins s σ H _ I h) λc s1 ⟨H1,z,O⟩=>?_);cases c with
 |true=>exact hb wh pins s1 σ H1 Q z O
 |false=>exact⟨H1,z,O⟩
theorem iU (ha:PT X a tA) (hb:PW X (.BoolOp .Or (b::rest) pos) tB'):PW X (.BoolOp .Or (a::b::rest) pos) (tOr tA tB'):=by
 intro wh pins s σ H Q I h;refine isTrue_or (thn (ha pins s σ H _ I h) λc s1 ⟨H1,z,O⟩=>?_);cases c with
 |true=>exact⟨H1,z,O⟩
 |false=>exact hb wh pins s1 σ H1 Q z O
theorem gc (ha:PT X a tA):PT X (.UnaryOp .Not a pos) (tNot tA):=by
 intro pins s σ H Q I h;exact isTrue_not (ha pins s σ H (λc H1=>Q (!c) H1) I h)
def IF (ta tb:TE):TE:=λσ H Q=>ta σ H λx H1=>∃c,x= .bl c/\if c=true then tb σ H1 Q else Q (.bl false) H1
def tOrV (ta tb:TE):TE:=λσ H Q=>ta σ H λx H1=>∃c,x= .bl c/\if c=true then Q (.bl true) H1 else tb σ H1 Q
def Iy (ta:TE):TE:=λσ H Q=>ta σ H λx H1=>∃c,x= .bl c/\Q (.bl (!c)) H1
theorem pq {op} (h:PE X a t):PE X (.BoolOp op [a] pos) t:=λpins s σ H Q I hw=>BoolOp_one (h pins s σ H Q I hw)
theorem pz (ha:PE X a ta) (hb:PE X (.BoolOp .And (b::rest) pos) tb):PE X (.BoolOp .And (a::b::rest) pos) (IF ta tb):=by
 intro pins s σ H Q I h;refine BoolOp_and (thn (ha pins s σ H _ I h) λv s1 O=>?_);obtain⟨x,H1,U,r1,z⟩:=O;obtain⟨c,rfl,z⟩:=z;cases r1;refine wpAny_truthy_bool ?_;cases c with
 |true=>exact hb pins s1 σ H1 Q U z
 |false=>exact⟨.bl false,H1,U,rfl,z⟩
theorem IV (ha:PE X a ta) (hb:PE X (.BoolOp .Or (b::rest) pos) tb):PE X (.BoolOp .Or (a::b::rest) pos) (tOrV ta tb):=by
 intro pins s σ H Q I h;refine BoolOp_or (thn (ha pins s σ H _ I h) λv s1 O=>?_);obtain⟨x,H1,U,r1,z⟩:=O;obtain⟨c,rfl,z⟩:=z;cases r1;refine wpAny_truthy_bool ?_;cases c with
 |false=>exact hb pins s1 σ H1 Q U z
 |true=>exact⟨.bl true,H1,U,rfl,z⟩
theorem Hk (ha:PE X a ta):PE X (.UnaryOp .Not a pos) (Iy ta):=by
 intro pins s σ H Q I h;refine UnaryOp_ (thn (ha pins s σ H _ I h) λv s1 z=>?_);obtain⟨x,H1,U,r1,O⟩:=z;obtain⟨c,rfl,O⟩:=O;cases r1;exact not_of (wpAny_truthy_bool ⟨.bl (!c),H1,U,rfl,O⟩)
def tIf (t:TT) (ta tb:TE):TE:=λσ H Q=>t σ H λc H1=>if c=true then ta σ H1 Q else tb σ H1 Q
theorem si (hc:PT X c tA) (ha:PE X a ta) (hb:PE X b tb):PE X (.IfExp c a b pos) (tIf tA ta tb):=by
 intro pins s σ H Q I h;refine wpAny_IfExp (thn (hc pins s σ H _ I h) λd s1 ⟨H1,z,O⟩=>?_);cases d with
 |true=>exact ha pins s1 σ H1 Q z O
 |false=>exact hb pins s1 σ H1 Q z O
end
end
section
def SqL (K:PySem.W.Frag) (H:Hp) (a:Addr) (xs:List V):Prop:=
 Rd H a (.lst xs)\/
  ∃(o:Obj) (its:Array Value) (n:Nat),K.lookup a=some o/\o.cls= .type "list"/\o.dict=none/\o.data= .seq its n/\its.size<=sizeLine/\Vals xs its.toList
def SqT (K:PySem.W.Frag) (H:Hp) (a:Addr) (xs:List V):Prop:=
 Rd H a (.tup xs)\/
  ∃(o:Obj) (its:Array Value) (n:Nat),K.lookup a=some o/\o.cls= .type "tuple"/\o.data= .seq its n/\its.size<=sizeLine/\Vals xs its.toList
def absV:Value->Option V
 | .none=>some .non
 | .bool b=>some (.bl b)
 | .int i _=>some (.int i)
 | .str x _=>some (.str x)
 | .bytes b _=>some (.byt b)
 | .float b _=>some (.flt b)
 | .ref a=>some (.ref a)
 | .type n=>some (.ty n)
 |_=>none
theorem RelV.abs {x:V} (r:RelV x u):absV u=some x:=by
 cases x with
 |non=>cases r;rfl
 |bl _=>cases r;rfl
 |int _=>obtain⟨t,rfl⟩:=r;rfl
 |str _=>obtain⟨t,rfl⟩:=r;rfl
 |byt _=>obtain⟨t,rfl⟩:=r;rfl
 |flt _=>obtain⟨t,rfl⟩:=r;rfl
 |ref _=>cases r;rfl
 |ty _=>cases r;rfl
theorem RelV.inj {x:V} (r:RelV x u) (q:RelV y u):x=y:=Option.some.inj (r.abs.symm.trans q.abs)
theorem Vals.inj:∀{xs ys:List V} {us:List Value},Vals xs us->Vals ys us->xs=ys
 |_,_,_,.nil,.nil=>rfl
 |_,_,_,.cons r t,.cons r' t'=>by rw[r.inj r',Vals.inj t t']
section
variable {ys:List V}
theorem SqL.of (h:H a=some (.lst xs)):SqL K H a xs:= .inl (.inl h)
theorem SqT.of (h:H a=some (.tup xs)):SqT K H a xs:= .inl (.inl h)
theorem Inv.list (I:Inv X pins σ H s) (h:SqL X.K H a xs):∃its:List Value,Vals xs its/\PlainL s.heap a its.toArray/\xs.length<=sizeLine:=by
 rcases h with h|⟨o,its,n,hk,hc,hd,O,hz,r⟩
 .obtain⟨z,its,n,r,e⟩:=h.ok I.hok;exact⟨its,r,⟨_,n,e,rfl,rfl,rfl⟩,z⟩
 .refine⟨its.toList,r,⟨o,n,I.kIn a o hk,hc,hd,by simpa using O⟩,?_⟩;have e:=r.length;simp only[Qb]at e;lia
theorem Inv.tuple (I:Inv X pins σ H s) (h:SqT X.K H a xs):∃its:List Value,Vals xs its/\IsTup s.heap a its.toArray/\xs.length<=sizeLine:=by
 rcases h with h|⟨o,its,n,hk,hc,O,hz,r⟩
 .obtain⟨z,its,r,p⟩:=h.ok I.hok;exact⟨its,r,p,z⟩
 .refine⟨its.toList,r,⟨o,I.kIn a o hk,hc,n,by simpa using O⟩,?_⟩;have e:=r.length;simp only[Qb]at e;lia
theorem Inv.list_inj (I:Inv X pins σ H s) (h:SqL X.K H a xs) (h':SqL X.K H a ys):xs=ys:=by
 obtain⟨its,r,⟨o,n,e,_,_,d⟩,_⟩:=I.list h;obtain⟨its',O,⟨o',n',z,_,_,d'⟩,_⟩:=I.list h';rw[e]at z;cases z;rw[d]at d';injection d' with d1 _;have:its=its':=by simpa using congrArg Array.toList d1
 subst this;exact r.inj O
end
abbrev Cx.wish (X:Cx) (E:Value->Shared->Prop):Cx:={X with xe:=E}
abbrev Cx.nox (X:Cx):Cx:=X.wish λ_ _=>False
theorem Cx.Ok.wish (ok:X.Ok) (E:Value->Shared->Prop):(X.wish E).Ok:=
 ⟨ok.mod,ok.kind,ok.glob,ok.blt,ok.above,ok.inj,ok.has,ok.cab,ok.hd,ok.frames,ok.stk,ok.exf,ok.bs,ok.bsz,ok.noex,ok.exfs,ok.funs,ok.frf⟩
theorem Cx.Ok.unwish (ok:(X.wish E).Ok):X.Ok:=
 ⟨ok.mod,ok.kind,ok.glob,ok.blt,ok.above,ok.inj,ok.has,ok.cab,ok.hd,ok.frames,ok.stk,ok.exf,ok.bs,ok.bsz,ok.noex,ok.exfs,ok.funs,ok.frf⟩
section
theorem Inv.wish (I:Inv X pins σ H s) (E:Value->Shared->Prop):Inv (X.wish E) pins σ H s:=⟨I.ok.wish E,I.os,I.bare,I.base,I.loc,I.cell,I.free,I.freeC,I.pin,I.hok,I.len⟩
theorem Inv.unwish (I:Inv (X.wish E) pins σ H s):Inv X pins σ H s:=⟨I.ok.unwish,I.os,I.bare,I.base,I.loc,I.cell,I.free,I.freeC,I.pin,I.hok,I.len⟩
theorem SP.unwish {D:lq} {f:Flow} (h:SP (X.wish E) pins D f s'):SP X pins D f s':=by
 cases f with
 |next=>obtain⟨z,H',I,q⟩:=h;exact⟨z,H',I.unwish,q⟩
 |brk=>obtain⟨z,H',I,q⟩:=h;exact⟨z,H',I.unwish,q⟩
 |cont=>obtain⟨z,H',I,q⟩:=h;exact⟨z,H',I.unwish,q⟩
 |ret u=>obtain⟨v,z,H',I,r,q⟩:=h;exact⟨v,z,H',I.unwish,r,q⟩
theorem PSs.nox {st:List Stmt} {t:TS} (h:PSs X.nox st t):PSs X st t:=λpins s σ H D I hw=>
 wpAny_mono (h pins s σ H D (I.wish _) hw) (λ_ _ q=>q.unwish) λ_ _ z=>False.elim z
end
section
variable {st:Stmt} {rest:List Stmt} {t u:TS}
def gH:TS:=λD σ H=>D.nx σ H
def C3 (t u:TS):TS:=λD σ H=>t {D with nx:=u D} σ H
theorem aP:PSs X [] gH:=λ_ _ σ H _ I h=>wpAny_execs_nil ⟨σ,H,I,h⟩
theorem r9 (h1:PS X st t) (h2:PSs X rest u):PSs X (st::rest) (C3 t u):=by
 intro pins s σ H D I h;refine wpAny_execs_cons (thn (h1 pins s σ H {D with nx:=u D} I h) λf s1 q=>?_);cases f with
 |next=>
  obtain⟨z,H',O,q⟩:=q;exact h2 pins s1 z H' D O q
 |ret v=>exact q
 |brk=>exact q
 |cont=>exact q
theorem aA (h1:PS X st t):PSs X [st] t:=by
 intro pins s σ H D I h;refine wpAny_execs_cons (thn (h1 pins s σ H D I h) λf s1 q=>?_);cases f with
 |next=>exact wpAny_execs_nil q
 |ret v=>exact q
 |brk=>exact q
 |cont=>exact q
theorem Inv.quiet (I:Inv X pins σ H s):interactive X.env=false:=by simp[interactive,I.ok.kind]
def IA (te:TE):TS:=λD σ H=>te σ H λ_ H1=>D.nx σ H1
theorem aS (he:PE X e te) (z:swapsWith e none pos.line X.env=pure false:=by rfl):PS X (.Expr e pos) (IA te):=by
 intro pins s σ H D I h;exact wpAny_Expr_any (thn (he pins s σ H _ I h) λv s1 ⟨x,H1,O,r1,U⟩=>⟨σ,H1,O,U⟩) I.quiet z
def tRet (te:TE):TS:=λD σ H=>te σ H D.rt
theorem aG (he:PE X e te):PS X (.Return (some e) pos) (tRet te):=by
 intro pins s σ H D I h;exact wpAny_Return_some (thn (he pins s σ H _ I h) λv s1 ⟨x,H1,z,r1,O⟩=>⟨x,σ,H1,z,r1,O⟩)
def Iw:TS:=λD _ H=>D.rt .non H
theorem kS:PS X (.Return none pos) Iw:=λ_ _ σ H _ I h=>wpAny_Return_none ⟨.non,σ,H,I,rfl,h⟩
def tIfS (c:TT) (t u:TS):TS:=λD σ H=>c σ H λb H1=>if b=true then t D σ H1 else u D σ H1
theorem aZ {a b:List Stmt} (hc:PT X c tc) (ha:PSs X a t) (hb:PSs X b u):PS X (.If c a b pos) (tIfS tc t u):=by
 intro pins s σ H D I h;refine wpAny_If (thn (hc pins s σ H _ I h) λd s1 ⟨H1,z,O⟩=>?_);cases d with
 |true=>exact ha pins s1 σ H1 D z O
 |false=>exact hb pins s1 σ H1 D z O
end
abbrev TG:=V->St->Hp->(St->Hp->Prop)->Prop
abbrev TGs:=List V->St->Hp->(St->Hp->Prop)->Prop
def PG (X:Cx) (target:Expr) (t:TG):Prop:=
 ∀(pins:List (Addr×Obj)) (s:Shared) (σ:St) (H:Hp) (v:V) (u:Value) (Q:St->Hp->Prop),Inv X pins σ H s->RelV v u->t v σ H Q->
  wpAny (model X.prog X.w) X.A (assign target X.env u) (λ_ s'=>∃σ' H',Inv X pins σ' H' s'/\Q σ' H') X.xe s
def PGs (X:Cx) (ts:List Expr) (t:TGs):Prop:=
 ∀(pins:List (Addr×Obj)) (s:Shared) (σ:St) (H:Hp) (vs:List V) (us:List Value) (Q:St->Hp->Prop),Inv X pins σ H s->Vals vs us->t vs σ H Q->
  wpAny (model X.prog X.w) X.A (assignInOrder ((assignEach ts X.env).map (·.2)) us) (λ_ s'=>∃σ' H',Inv X pins σ' H' s'/\Q σ' H') X.xe s
abbrev Ii:=V->V->V->Hp->(Hp->Prop)->Prop
def PSet (X:Cx) (t:Ii):Prop:=
 ∀(pins:List (Addr×Obj)) (s:Shared) (σ:St) (H:Hp) (o i v:V) (ov iv u:Value) (Q:Hp->Prop),Inv X pins σ H s->RelV o ov->RelV i iv->RelV v u->t o i v H Q->
  wpAny (model X.prog X.w) X.A (setItem ov iv u) (λ_ s'=>∃H',Inv X pins σ H' s'/\Q H') X.xe s
abbrev TIp:=V->V->Hp->VK->Prop
def PIp (X:Cx) (op:Operator) (t:TIp):Prop:=
 ∀(pins:List (Addr×Obj)) (s:Shared) (σ:St) (H:Hp) (x y:V) (v u:Value) (Q:VK),Inv X pins σ H s->RelV x v->RelV y u->t x y H Q->
  wpAny (model X.prog X.w) X.A (inplaceOp op v u) (EP X pins σ Q) X.xe s
section
abbrev pZ (i:Nat):TG:=λv σ H Q=>Q (σ.set i (some v)) H
theorem bO (z:X.N.Nodup) (hi:X.N[i]?=some x) (hx:Loc X.env.scope x) (hf:X.fn x=true\/X.env.scope.names.lookup x=some .local:=by first|exact .inl rfl|exact .inr rfl|assumption):PG X (.Name x pos) (pZ i):=by
 intro pins s σ H v u Q I r h;exact wpAny_assign_Name (qS I z hi hx r (λs' O=>⟨_,H,O,h⟩) hf)
def gNil:TGs:=λvs σ H Q=>vs=[]/\Q σ H
inductive Jk (t:TG) (u:TGs) (vs:List V) (σ:St) (H:Hp) (Q:St->Hp->Prop):Prop
 |mk (v r:_) (_:vs=v::r) (_:t v σ H λσ' H'=>u r σ' H' Q)
theorem Az:PGs X [] gNil:=by
 intro pins s σ H vs us Q I r h;obtain⟨e,h⟩:=h;subst e;cases r;exact assignInOrder_nil ⟨σ,H,I,h⟩
theorem nK {t:TG} {u:TGs} (h1:PG X e t) (h2:PGs X es u)
  (U:(assignEach (e::es) X.env).map (·.2)=assign e X.env::(assignEach es X.env).map (·.2):=by rfl):PGs X (e::es) (Jk t u):=by
 intro pins s σ H vs us Q I r h;obtain⟨v,vr,Y,h⟩:=h;subst Y;cases r with
 |cons r Z=>
  rw[U];refine assignInOrder_cons (thn (h1 pins s σ H _ _ _ I r h) λ_ s1 z=>?_);obtain⟨O,H1,I1,q1⟩:=z;exact h2 pins s1 O H1 _ _ Q I1 Z q1
inductive gTup (K:PySem.W.Frag) (n:Nat) (t:TGs) (v:V) (σ:St) (H:Hp) (Q:St->Hp->Prop):Prop
 |mk (a xs:_) (_:v= .ref a) (_:SqT K H a xs) (_:xs.length=n) (_:t xs σ H Q)
theorem Dm {k:Nat} {t:TGs} (hc:X.calm=true) (h:PGs X es t)
  (O:(assignEach es X.env).length=n:=by rfl) (z:(assignEach es X.env).findIdx? (·.1)=none:=by rfl):PG X (.Tuple es k pos) (gTup X.K n t):=by
 intro pins s σ H v u Q I r hw;obtain⟨a,xs,U,hq,hl,hw⟩:=hw;subst U;cases r;obtain⟨its,rv,Y,hz⟩:=I.tuple hq;refine assign_Tuple_tuple (I.ok.hd hc) Y (by simp[O,<-hl,rv.length]) z λh' hx=>?_;have Z:Inv X pins σ H {s with heap:=h'}:=I.kept (t':=s.toks) λb o e=>hx b o (Qx (Heap.lt_size e)) e;exact h pins _ σ H xs _ Q Z (by simpa using rv) hw
def gSub (to ti:TE) (t:Ii):TG:=λv σ H Q=>to σ H λo H1=>ti σ H1 λi H2=>t o i v H2 λH3=>Q σ H3
theorem zL {o i:Expr} {to Y:TE} {t:Ii} (Z:PE X o to) (hi:PE X i Y) (hs:PSet X t)
  (ha:∀v,assign (.Subscript o i pos) X.env v=(do
   let O<-holding [v] (eval o X.env)
   let U<-holding [v,O] (eval i X.env)
   standAt pos
   holding [v,O,U] (setItem O U v)
   release [v,O,U] []):=by intro _;rfl):PG X (.Subscript o i pos) (gSub to Y t):=by
 intro pins s σ H v u Q I r h;rw[ha];refine wpAny_bind (wpAny_holding (thn (Z pins s σ H _ I h) λO s1 z=>?_));obtain⟨x,H1,I1,r1,q1⟩:=z;refine wpAny_bind (wpAny_holding (thn (hi pins s1 σ H1 _ I1 q1) λU s2 z=>?_));obtain⟨y,H2,I2,r2,q2⟩:=z;refine wpAny_bind (wpAny_standAt (wpAny_bind (wpAny_holding (thn (hs pins s2 σ H2 x y v O U u _ I2 r1 r2 r q2) λ_ s3 z=>?_))));obtain⟨H3,I3,q3⟩:=z;exact wpAny_release ⟨σ,H3,I3,q3⟩
def Fb (te:TE) (g:TG):TS:=λD σ H=>te σ H λx H1=>g x σ H1 D.nx
theorem zJ {g:TG} (he:PE X e te) (O:PG X tg g) (U:swapsWithSole [tg] e pos.line X.env=pure false:=by rfl) (hw:swappedStores [tg] e X.env=pure none:=by rfl)
  (h1:(assignEach [tg] X.env).map (·.2)=[assign tg X.env]:=by rfl):PS X (.Assign [tg] e pos) (Fb te g):=by
 intro pins s σ H D I h;refine wpAny_Assign_stores (thn (he pins s σ H _ I h) λv s1 z=>?_) U hw;obtain⟨x,H1,Y,r1,Z⟩:=z;rw[h1];exact thn (O pins s1 σ H1 x v _ Y r1 Z) λ_ s2 q=>q
theorem aJ (O:X.N.Nodup) (hi:X.N[i]?=some x) (hx:Loc X.env.scope x) (he:PE X e te) (U:swapsWith e (some (.Name x pos')) pos.line X.env=pure false:=by rfl) (hf:X.fn x=true\/X.env.scope.names.lookup x=some .local:=by first|exact .inl rfl|exact .inr rfl|assumption):
  PS X (.Assign [.Name x pos'] e pos) (Fb te (pZ i)):=by
 intro pins s σ H D I h;refine wpAny_Assign_Name (thn (he pins s σ H _ I h) λv s1 z=>?_) U;obtain⟨y,H1,Y,r1,Z⟩:=z;exact qS Y O hi hx r1 (λs2 I2=>⟨_,H1,I2,Z⟩) hf
inductive tAug (i:Nat) (te:TE) (ti:TIp) (D:lq) (σ:St) (H:Hp):Prop
 |mk (x:_) (_:σ[i]?=some (some x)) (_:te σ H λy H1=>ti x y H1 λz H2=>D.nx (σ.set i (some z)) H2)
theorem Hf {op:Operator} {ti:TIp} (hN:X.N.Nodup) (hi:X.N[i]?=some x) (hx:Loc X.env.scope x) (he:PE X e te) (ho:PIp X op ti) (hf:X.fn x=true\/X.env.scope.names.lookup x=some .local:=by first|exact .inl rfl|exact .inr rfl|assumption):
  PS X (.AugAssign (.Name x pos') op e pos) (tAug i te ti):=by
 intro pins s σ H D I h;obtain⟨v,e1,h⟩:=h;obtain⟨m,hn,hl⟩:=I.loc;have Z:Vis X.env.scope x:=by rcases hx with k|k;exact .inl k;exact .inr (.inl k)
 obtain⟨u,r,l⟩:=hl i x v hi e1 Z;refine wpAny_AugAssign_Name ?_;have go:wpAny (model X.prog X.w) X.A (eval e X.env) (λw s₂=>wpAny (model X.prog X.w) X.A (inplaceOp op u w) (λr Y=>wpAny (model X.prog X.w) X.A (storeName X.env x r) (λ_=>SP X pins D .next) X.xe Y) X.xe s₂) X.xe s:=by
  refine thn (he pins s σ H _ I h) λw s1 O=>?_;obtain⟨y,H1,I1,r1,q1⟩:=O;refine thn (ho pins s1 σ H1 v y u w _ I1 r r1 q1) λz s2 O=>?_;obtain⟨zv,H2,I2,r2,q2⟩:=O;exact qS I2 hN hi hx r2 (λs3 I3=>⟨_,H2,I3,q2⟩) hf
 rcases l with⟨hk,hm⟩|⟨hk,c,hc,U⟩
 .exact wpAny_loadName_local I.ok.kind hk hn hm go
 .rcases hk with hk|hk
  .exact wpAny_loadName_cell I.ok.kind hk hc U go
  .rcases hx with k|k
   .have:X.env.scope.names.lookup x=some .free:=hk;rw[k]at this;cases this
   .have:X.env.scope.names.lookup x=some .free:=hk;rw[k]at this;cases this
inductive ipI (f:Int->Int->Int) (x y:V) (H:Hp) (Q:VK):Prop
 |mk (i j:_) (_:x= .int i) (_:y= .int j) (_:Q (.int (f i j)) H)
theorem HH:PIp X .Add (ipI λi j=>i+j):=by
 intro pins s σ H x y v u Q I r1 z h;obtain⟨i,j,O,e2,q⟩:=h;subst O;subst e2;obtain⟨t,rfl⟩:=r1;obtain⟨t',rfl⟩:=z;exact iadd_int ⟨.int _,H,I.tok _,⟨_,rfl⟩,q⟩
end
section
def GW (c:TT) (tb:TS):TS:=λD σ H=>∃W:Nat->St->Hp->Prop,(∃m,W m σ H)/\∀m σ H,W m σ H->
 c σ H λb H1=>if b=true then ∃N:St->Hp->Prop,(∀σ' H',N σ' H'->∃m',m'<m/\W m' σ' H')/\tb {D with nx:=N,ct:=N,bk:=D.nx} σ H1 else D.nx σ H1
theorem se (hp:PassesOwn (model X.prog X.w) X.A X.env X.xe) (hc:PT X c tc) (hb:PSs X body tb):PS X (.While c body [] pos) (GW tc tb):=by
 intro pins s σ H D I h;obtain⟨W,⟨m0,w0⟩,U⟩:=h;refine wpAny_While (codeAny_whileLoop (λn s'=>∃Y H',Inv X pins Y H' s'/\W n Y H') ?_ m0 ⟨σ,H,I,w0⟩);rintro n s1 ⟨O,H1,I1,w1⟩;refine wpAny_passesOwn hp (thn (hc pins s1 O H1 _ I1 (U n O H1 w1)) λb s2 ⟨H2,I2,Z⟩=>?_);cases b with
 |true=>
  obtain⟨N,hN,Z⟩:=Z;rw[if_pos rfl];refine wpAny_passesOwn hp (thn (hb pins s2 O H2 _ I2 Z) λf s3 q3=>?_);cases f with
  |next=>
   obtain⟨z,H3,I3,n3⟩:=q3;obtain⟨m',hm,w3⟩:=hN z H3 n3;exact⟨m',hm,z,H3,I3,w3⟩
  |cont=>
   obtain⟨z,H3,I3,n3⟩:=q3;obtain⟨m',hm,w3⟩:=hN z H3 n3;exact⟨m',hm,z,H3,I3,w3⟩
  |brk=>exact q3
  |ret v=>exact q3
 |false=>
  rw[if_neg Qj];exact wpAny_execs_nil ⟨O,H2,I2,Z⟩
end
structure It where
 go:Nat->Hp->Prop
 yld:Nat->Hp->V->Hp->Prop
 stop:Nat->Hp->Prop
def lh (X:Cx) (pins:List (Addr×Obj)) (H:Hp) (b:Addr):Prop:=
 H b=none/\b≠X.env.locals/\b∉X.fs/\(b∈X.ex\/X.s₀.heap.objs.size<=b)/\(∀x c,X.env.cells.lookup x=some c->c≠b)/\∀p∈X.pn++pins,p.1≠b
theorem Inv.fpOk (I:Inv X pins σ H s) (hb:s.heap.objs.size<=b) (O:H' b=none):lh X pins H' b:=by
 refine⟨O,XC (Qs I.lt hb),I.nofs hb,.inr (QL I.sz hb),λx c e z=>?_,λp hp z=>?_⟩
 .obtain⟨v,q⟩:=I.cell x c e;exact absurd (Qs q.lt (by rw[z];exact hb)) (Zy _)
 .exact absurd (Qs (Heap.lt_size (I.pin p hp).1) (by rw[z];exact hb)) (Zy _)
structure xH (P:Program) (w:World) (K:PySem.W.Frag) (tg:Expr) (J:It) (fp:List Addr) (it:Addr) (tn:Nat->Heap->Prop):Prop where
 mem:it∈fp
 obj:∀i h,tn i h->∀b∈fp,∃o,h.get? b=some o/\∀v,o.data≠ .cell v
 keep:∀i h h',tn i h->(∀b∈fp,∀o,h.get? b=some o->h'.get? b=some o)->tn i h'
 item:∀(X:Cx),X.prog=P->X.w=w->X.K=K->X.calm=true->∀(i:Nat) (pins:List (Addr×Obj)) (s:Shared) (σ:St) (H:Hp) (E:Value->Shared->Prop),Inv X pins σ H s->(∀b∈fp,lh X pins H b)->tn i s.heap->J.go i H->
  wpAny (model P w) X.A (pyNext (.ref it)) (λr s1=>∃u,r=some u/\
   wpAny (model P w) X.A (letOwnedTupleGo tg (.ref it) u) (λ_ s2=>∃x H',Inv X pins σ H' s2/\RelV x u/\J.yld i H x H'/\tn (i+1) s2.heap/\∀b∈fp,H' b=none) E s1) E s
 done:∀(X:Cx),X.prog=P->X.w=w->X.K=K->X.calm=true->∀(i:Nat) (pins:List (Addr×Obj)) (s:Shared) (σ:St) (H:Hp) (E:Value->Shared->Prop),Inv X pins σ H s->(∀b∈fp,lh X pins H b)->tn i s.heap->J.stop i H->
  wpAny (model P w) X.A (pyNext (.ref it)) (λr s1=>r=none/\Inv X pins σ H s1) E s
 self:∀(A:Around) (i:Nat) (s:Shared) (Q:Value->Shared->Prop) (E:Value->Shared->Prop),tn i s.heap->Q (.ref it) s->wpAny (model P w) A (pyIter (.ref it)) Q E s
abbrev TI:=St->Hp->(It->Hp->Prop)->Prop
def PIE (X:Cx) (pins:List (Addr×Obj)) (σ:St) (tg:Expr) (R:It->Hp->Prop) (itv:Value) (s2:Shared):Prop:=
 ∃(it:Addr) (fp:List Addr) (tn:Nat->Heap->Prop) (J:It) (H':Hp),itv= .ref it/\Inv X pins σ H' s2/\xH X.prog X.w X.K tg J fp it tn/\tn 0 s2.heap/\(∀b∈fp,lh X pins H' b)/\R J H'
def PI (X:Cx) (tg iter:Expr) (wi:TI):Prop:=
 ∀(pins:List (Addr×Obj)) (s:Shared) (σ:St) (H:Hp) (R:It->Hp->Prop),Inv X pins σ H s->wi σ H R->
  wpAny (model X.prog X.w) X.A (eval iter X.env) (λv s1=>wpAny (model X.prog X.w) X.A (pyIter v) (PIE X pins σ tg R) X.xe s1) X.xe s
theorem tq {o:Obj} {n:String} {vs:Array Value} {Q:Unit->Shared->Prop} (I:s.heap.get? it=some o) (hc:o.cls= .type n) (hd:o.data= .fields vs)
  (O:["enumerate","zip","dict_itemiterator","dict_reverseitemiterator","odict_iterator","itertools.zip_longest","itertools.pairwise"].contains n=false) (z:Q () s):wpAny M A (letOwnedTupleGo tg (.ref it) u) Q E s:=by
 unfold letOwnedTupleGo;cases tg<;>first
  |exact wpAny_pure z
  |(cases u<;>first
    |exact wpAny_pure z
    |(refine wpAny_bind (wpAny_load I ?_)
      rw[hc,hd];show wpAny M A (if(["enumerate","zip","dict_itemiterator","dict_reverseitemiterator","odict_iterator","itertools.zip_longest","itertools.pairwise"].contains n&&vs[0]?==some (rawInt _))=true then _ else _) Q E s;rw[if_neg (by intro h;rw[O,Bool.false_and]at h;cases h)];exact wpAny_pure z))
def Itl (K:PySem.W.Frag) (a:Addr):It:=
 ⟨λi H=>∃xs x,SqL K H a xs/\xs[i]?=some x,λi H x H'=>H'=H/\∀xs,SqL K H a xs->xs[i]?=some x,λi H=>∃xs,SqL K H a xs/\xs.length<=i⟩
def Itr (lo:Int) (n:Nat):It:=⟨λi _=>i<n,λi H x H'=>H'=H/\x= .int (lo+i),λi _=>n<=i⟩
theorem BB (a it:Addr):xH P w K tg (Itl K a) [it] it (λi h=>h.IsListIter it a i) where
 mem:=by simp
 obj:=λi h st b hb=>by
  have e:b=it:=by simpa using hb
  subst e;obtain⟨o,e,c,d⟩:=st;exact⟨o,e,λv z=>by rw[d]at z;cases z⟩
 keep:=λi h h' st k=>st.at λo e=>k it (by simp) o e
 item:=by
  intro X O hw hK hc i pins s σ H E I hf st U;subst O hw hK;obtain⟨xs,x,hq,hx⟩:=U;obtain⟨its,rv,p,hz⟩:=I.list hq;obtain⟨u,hu,ru⟩:=rv.get hx;obtain⟨Y,Z,f2,f3,f4,f5⟩:=hf it (by simp);refine wpAny_pyNext_list_item st p.isList (x:=u) (by simpa using hu) λh' st' sb=>?_;have I1:Inv X pins σ H {s with heap:=h'}:=I.turned (t':=s.toks) (λb o hb e=>(sb.2 b hb).trans e) Y Z f3 f4 f5;obtain⟨o,e,c,d⟩:=id st';exact⟨u,rfl,tq (s:={s with heap:=h'}) e c d (by decide) ⟨x,H,I1,ru,⟨rfl,λys hy=>by rw[I.list_inj hy hq];exact hx⟩,st',λb hb=>(hf b hb).1⟩⟩
 done:=by
  intro X O hw hK hc i pins s σ H E I hf st U;subst O hw hK;obtain⟨xs,hq,hx⟩:=U;obtain⟨its,rv,p,hz⟩:=I.list hq;obtain⟨Y,Z,f2,f3,f4,f5⟩:=hf it (by simp);have hl:=rv.length;exact wpAny_pyNext_list_end (I.ok.hd hc) st p.isList (by simp;lia) λh' eb=>⟨rfl,I.turned (t':=s.toks) (λb o hb e=>eb b o hb e) Y Z f3 f4 f5⟩
 self:=λ_ _ _ _ _ st h=>wpAny_pyIter_listiter st h
theorem zo (it:Addr) (lo:Int) (n:Nat):xH P w K tg (Itr lo n) [it] it (λi h=>IsRangeIter h it (lo+(i:Nat)*1) ((n:Int)-(i:Nat)) 1) where
 mem:=by simp
 obj:=λi h st b hb=>by
  have e:b=it:=by simpa using hb
  subst e;exact⟨_,st,λv z=>by
   have z':Data.fields _=Data.cell v:=z;cases z'⟩
 keep:=λi h h' st k=>k it (by simp) _ st
 item:=by
  intro X O hw hK hc i pins s σ H E I hf st U;subst O hw hK;obtain⟨Y,Z,f2,f3,f4,f5⟩:=hf it (by simp);have W:=Walks.range (prog:=X.prog) (w:=X.w) (I.ok.hd hc) it lo 1 n;refine W.item i s _ _ U st λv h' tk hv st' kk=>?_;obtain⟨t,rfl⟩:=hv;have I1:Inv X pins σ H {s with heap:=h',toks:=tk}:=I.turned (λb o hb e=>kk b o (by simpa using hb) e) Y Z f3 f4 f5;refine⟨_,rfl,tq (s:={s with heap:=h',toks:=tk}) (n:="range_iterator") st' rfl rfl (by decide) ⟨.int (lo+i),H,I1,⟨t,?_⟩,⟨rfl,rfl⟩,st',λb hb=>(hf b hb).1⟩⟩;rw[Int.mul_one]
 done:=by
  intro X O hw hK hc i pins s σ H E I hf st U;subst O hw hK;obtain⟨Y,Z,f2,f3,f4,f5⟩:=hf it (by simp);exact wpAny_pyNext_range_end (I.ok.hd hc) st (by have:n<=i:=U;lia) λh' eb=>⟨rfl,I.turned (t':=s.toks) (λb o hb e=>eb b o hb e) Y Z f3 f4 f5⟩
 self:=λ_ _ _ _ _ st h=>wpAny_pyIter_rangeiter st h
end
section
section
inductive HM (K:PySem.W.Frag) (R:It->Hp->Prop) (x:V) (H1:Hp):Prop
 |mk (a:_) (_:x= .ref a) (_:(∃xs,SqL K H1 a xs)) (_:R (Itl K a) H1)
def Jh (K:PySem.W.Frag) (tl:TE):TI:=λσ H R=>tl σ H λx H1=>HM K R x H1
theorem bN {l:Expr} {tl:TE} (hl:PE X l tl):PI X tg l (Jh X.K tl):=by
 intro pins s σ H R I h;refine thn (hl pins s σ H _ I h) λv s1 O=>?_;obtain⟨x,H1,z,r1,U⟩:=O;obtain⟨a,e,⟨xs,hq⟩,q⟩:=U;subst e;cases r1;obtain⟨its,rv,p,hz⟩:=z.list hq;refine wpAny_pyIter_list p.isList ?_;refine⟨s1.heap.objs.size,[s1.heap.objs.size],_,_,H1,rfl,z.kept (t':=s1.toks) λb o e=>Heap.get?_push_of_some _ e,BB a _,⟨_,Heap.get?_push_size _ rfl,rfl,rfl⟩,λb hb=>?_,q⟩;have e:b=s1.heap.objs.size:=by simpa using hb
 subst e;exact z.fpOk (Q4 _) (z.hok.fresh (Q4 _))
theorem Di {R:It->Hp->Prop} {hi:Int} {t u v:Tok} {tk:Nat} (I:Inv X pins σ H s) (h1: -(2^62)<=lo) (h2:lo<2^62) (O: -(2^62)<=hi) (U:hi<2^62)
  (q:R (Itr lo (hi-lo).toNat) H):wpAny (model X.prog X.w) X.A (pyIter (.ref s.heap.objs.size)) (PIE X pins σ tg R) E {s with heap:=s.heap.push {cls:= .type "range",data:= .fields #[.int lo t,.int hi u,.int 1 v]},toks:=tk}:=by
 refine wpAny_pyIter_range (IsRange.new ..) (small_one h1 h2 O U) ?_;have z:Inv X pins σ H {s with heap:=s.heap.push {cls:= .type "range",data:= .fields #[.int lo t,.int hi u,.int 1 v]},toks:=tk}:=I.kept λb o e=>Heap.get?_push_of_some _ e;refine⟨(s.heap.push {cls:= .type "range",data:= .fields #[.int lo t,.int hi u,.int 1 v]}).objs.size,[(s.heap.push {cls:= .type "range",data:= .fields #[.int lo t,.int hi u,.int 1 v]}).objs.size],_,_,H,rfl,
  z.kept (t':=tk) λb o e=>Heap.get?_push_of_some _ e,zo _ lo (hi-lo).toNat,?_,λb hb=>?_,q⟩
 .have Y:lo+((0:Nat):Int)*1=lo:=by simp
  have e2:(((hi-lo).toNat:Nat):Int)-((0:Nat):Int)=Builtin.Range.rangeSize lo hi 1:=by rw[rangeSize_one];split<;>lia
  show IsRangeIter _ _ (lo+((0:Nat):Int)*1) ((((hi-lo).toNat:Nat):Int)-((0:Nat):Int)) 1;rw[Y,e2];exact Heap.get?_push_size _ rfl
 .have e:b=(s.heap.push {cls:= .type "range",data:= .fields #[.int lo t,.int hi u,.int 1 v]}).objs.size:=by simpa using hb
  subst e;exact z.fpOk (Q4 _) (z.hok.fresh (Q4 _))
inductive HL (R:It->Hp->Prop) (vs:List V) (H1:Hp):Prop
 |mk (j:Int) (_:vs=[.int j]) (_: -(2^62)<=j) (_:j<2^62) (_:R (Itr 0 j.toNat) H1)
def Jg (ta:TA):TI:=λσ H R=>ta σ H λvs H1=>HL R vs H1
theorem kU {a:Expr} {ta:TA} (U:Gl X "range") (Y:X.mg "range"=none) (ha:PA X [a] ta) (Z:starEach [a] X.env=[(false,eval a X.env)]:=by rfl):PI X tg (.Call (.Name "range" p) [a] [] pos) (Jg ta):=by
 intro pins s σ H R I h;refine Call_ (pH I U Y boot_range (PyProof.Rows.callWith_type1 (thn (ha pos pins s σ H _ I h) λus s1 z=>?_) Z rfl));obtain⟨vs,H1,I1,r1,O⟩:=z;obtain⟨j,e,O,q2,q⟩:=O;subst e;cases r1 with
 |cons r rr=>
  cases rr;obtain⟨t,rfl⟩:=r;exact call_range_1 (Di I1 (by lia) (by lia) O q2 (by simpa using q))
def tFor (wi:TI) (g:TG) (tb:TS):TS:=λD σ H=>wi σ H λJ H1=>∃W:Nat->Nat->St->Hp->Prop,(∃m,W 0 m σ H1)/\∀i m σ H,W i m σ H->
 (J.stop i H/\D.nx σ H)\/(J.go i H/\∃N:St->Hp->Prop,(∀σ' H',N σ' H'->∃m',m'<m/\W (i+1) m' σ' H')/\∀x H',J.yld i H x H'->g x σ H' λσ2 H2=>tb {D with nx:=N,ct:=N,bk:=D.nx} σ2 H2)
def sf (fp:List Addr) (h:Heap):List (Addr×Obj):=fp.filterMap λb=>(h.get? b).map λo=>(b,o)
theorem jx {o:Obj} (hb:b∈fp) (e:h.get? b=some o):(b,o)∈sf fp h:=List.mem_filterMap.mpr ⟨b,hb,by rw[e];rfl⟩
theorem BX {p:Addr×Obj} (hp:p∈sf fp h):p.1∈fp/\h.get? p.1=some p.2:=by
 obtain⟨b,hb,e⟩:=List.mem_filterMap.mp hp;cases q:h.get? b with
 |none=>rw[q]at e;cases e
 |some o=>
  rw[q]at e;have z:(b,o)=p:=Option.some.inj e;subst z;exact⟨hb,q⟩
theorem Inv.pinned (I:Inv X pins σ H s) (hf:∀b∈fp,lh X pins H b) (U:∀b∈fp,∃o,s.heap.get? b=some o/\∀v,o.data≠ .cell v):Inv X (pins++sf fp s.heap) σ H s:=
 I.pins_of λp hp=>(Q5.mp hp).elim (λz=>I.pin p (Qv _ z)) λz=>by
  obtain⟨hb,e⟩:=BX z;obtain⟨Y,Z,f2,_⟩:=hf p.1 hb;obtain⟨o,O,d⟩:=U p.1 hb;rw[e]at O;cases O;exact⟨e,Y,Z,f2,d⟩
theorem Inv.unpinned {pl:List (Addr×Obj)} (I:Inv X (pins++pl) σ H s):Inv X pins σ H s:=I.pins_of λp hp=>I.pin p (Qv _ (ZY _ hp))
theorem eh {iter:Expr} {wi:TI} {g:TG} (hp:PassesOwn (model X.prog X.w) X.A X.env X.xe) (hc:X.calm=true) (hi:PI X tg iter wi) (hg:PG X tg g) (hb:PSs X body tb)
  (hs:∀x,foldedSetIterable iter X.env x=pure x:=by intro _;rfl):PS X (.For tg iter body [] pos) (tFor wi g tb):=by
 intro pins s σ H D I h;refine wpAny_For (thn (hi pins s σ H _ I h) λv s1 h1=>thn h1 λal s2 h2=>?_) hs;obtain⟨it,fp,tn,J,H2,e,I2,T,st2,f2,W,⟨m0,w0⟩,a2⟩:=h2;subst e;have O:∀{H':Hp},(∀b∈fp,H' b=none)->∀b∈fp,lh X pins H' b:=λhn b hb=>⟨hn b hb,(f2 b hb).2⟩;refine codeAny_forLoop_any (λn s'=>∃i U H',Inv X pins U H' s'/\tn i s'.heap/\(∀b∈fp,H' b=none)/\W i n U H') ?_ m0 ⟨0,σ,H2,I2,st2,λb hb=>(f2 b hb).1,w0⟩;rintro n s3 ⟨i,Y,H3,I3,a3,a4,w3⟩;rcases a2 i n Y H3 w3 with⟨a5,qn⟩|⟨go,N,hN,step⟩
 .refine wpAny_passesOwn hp (thn (T.done X rfl rfl rfl hc i pins s3 Y H3 X.xe I3 (O a4) a3 a5) λr s4 ⟨hr,I4⟩=>?_);subst hr;exact wpAny_execs_nil ⟨Y,H3,I4,qn⟩
 .refine wpAny_passesOwn hp (thn (T.item X rfl rfl rfl hc i pins s3 Y H3 X.xe I3 (O a4) a3 go) λr s4 ⟨u,hr,h4⟩=>?_);subst hr;refine wpAny_passesOwn hp (thn h4 λ_ s5 a0=>?_);obtain⟨x,H5,I5,r5,y5,a1,aa⟩:=a0;have ac:=I5.pinned (O aa) (T.obj _ _ a1);refine wpAny_passesOwn hp (thn (hg _ s5 Y H5 x u _ ac r5 (step x H5 y5)) λ_ s6 a0=>?_);obtain⟨af,H6,I6,q6⟩:=a0;refine wpAny_passesOwn hp (thn (hb _ s6 af H6 _ I6 q6) λf s7 q7=>?_);have again:∀{z:St} {Z:Hp},Inv X (pins++sf fp s5.heap) z Z s7->N z Z->∃m,m<n/\∃i U H',Inv X pins U H' s7/\tn i s7.heap/\(∀b∈fp,H' b=none)/\W i m U H':=λ{z Z} I7 n7=>by
   obtain⟨m',hm,w7⟩:=hN z Z n7;refine⟨m',hm,i+1,z,Z,I7.unpinned,T.keep _ _ _ a1 λb hb o e=>(I7.pin (b,o) (Qv _ (Qv _ (jx hb e)))).1,λb hb=>?_,w7⟩;obtain⟨o,e,d⟩:=T.obj _ _ a1 b hb;exact(I7.pin (b,o) (Qv _ (Qv _ (jx hb e)))).2.1
  cases f with
  |next=>obtain⟨z,Z,I7,n7⟩:=q7;exact again I7 n7
  |cont=>obtain⟨z,Z,I7,n7⟩:=q7;exact again I7 n7
  |brk=>obtain⟨z,Z,I7,q7⟩:=q7;exact⟨z,Z,I7.unpinned,q7⟩
  |ret v=>obtain⟨x7,z,Z,I7,r7,q7⟩:=q7;exact⟨x7,z,Z,I7.unpinned,r7,q7⟩
end
theorem D6 {g:TG} {D:lq} (Pv:Nat->St->Hp->Prop) (U:Pv 0 σ H) (hl:∀i σ H,i<=xs.length->Pv i σ H->SqL K H a xs)
  (Y:∀i x σ H,xs[i]?=some x->Pv i σ H->g x σ H λz H2=>tb {D with nx:=Pv (i+1),ct:=Pv (i+1),bk:=D.nx} z H2) (hd:∀σ H,Pv xs.length σ H->D.nx σ H):
  ∃W:Nat->Nat->St->Hp->Prop,(∃m,W 0 m σ H)/\∀i m σ H,W i m σ H->
   ((Itl K a).stop i H/\D.nx σ H)\/((Itl K a).go i H/\∃N:St->Hp->Prop,(∀I H',N I H'->∃m',m'<m/\W (i+1) m' I H')/\∀x H',(Itl K a).yld i H x H'->g x σ H' λz H2=>tb {D with nx:=N,ct:=N,bk:=D.nx} z H2):=by
 refine⟨λi m σ H=>m=xs.length-i/\i<=xs.length/\Pv i σ H,⟨xs.length,by simp,Qi _,U⟩,?_⟩;rintro i m σ H ⟨rfl,hi,p⟩;have q:=hl i σ H hi p;by_cases O:i<xs.length
 .refine .inr ⟨⟨xs,xs[i],q,by simp[O]⟩,Pv (i+1),λI H' Z=>⟨xs.length-(i+1),by lia,rfl,O,Z⟩,λx H' y=>?_⟩;obtain⟨e,y⟩:=y;subst e;exact Y i x σ _ (y xs q) p
 .have e:i=xs.length:=by lia
  subst e;exact .inl ⟨⟨xs,q,Q4 _⟩,hd σ H p⟩
theorem vC {g:TG} {D:lq} (Pv:Nat->St->Hp->Prop) (U:Pv 0 σ H)
  (Y:∀i σ H,i<n->Pv i σ H->g (.int (lo+i)) σ H λz H2=>tb {D with nx:=Pv (i+1),ct:=Pv (i+1),bk:=D.nx} z H2) (hd:∀σ H,Pv n σ H->D.nx σ H):
  ∃W:Nat->Nat->St->Hp->Prop,(∃m,W 0 m σ H)/\∀i m σ H,W i m σ H->
   ((Itr lo n).stop i H/\D.nx σ H)\/((Itr lo n).go i H/\∃N:St->Hp->Prop,(∀I H',N I H'->∃m',m'<m/\W (i+1) m' I H')/\∀x H',(Itr lo n).yld i H x H'->g x σ H' λz H2=>tb {D with nx:=N,ct:=N,bk:=D.nx} z H2):=by
 refine⟨λi m σ H=>m=n-i/\i<=n/\Pv i σ H,⟨n,by simp,Qi _,U⟩,?_⟩;rintro i m σ H ⟨rfl,hi,p⟩;by_cases O:i<n
 .refine .inr ⟨O,Pv (i+1),λI H' Z=>⟨n-(i+1),by lia,rfl,O,Z⟩,λx H' y=>?_⟩;obtain⟨e,y⟩:=y;subst e y;exact Y i σ _ O p
 .have e:i=n:=by lia
  subst e;exact .inl ⟨Q4 _,hd σ H p⟩
end
section
abbrev R2:=V->V->Hp->VK->Prop
def OpR (X:Cx) (f:Value->Value->Sem Value) (r:R2):Prop:=
 ∀(pins:List (Addr×Obj)) (s:Shared) (σ:St) (H:Hp) (x y:V) (v u:Value) (Q:VK),Inv X pins σ H s->RelV x v->RelV y u->r x y H Q->
  wpAny (model X.prog X.w) X.A (f v u) (EP X pins σ Q) X.xe s
def UnR (X:Cx) (f:Value->Sem Value) (r:V->Hp->VK->Prop):Prop:=
 ∀(pins:List (Addr×Obj)) (s:Shared) (σ:St) (H:Hp) (x:V) (v:Value) (Q:VK),Inv X pins σ H s->RelV x v->r x H Q->
  wpAny (model X.prog X.w) X.A (f v) (EP X pins σ Q) X.xe s
def dw (X:Cx) (f:Value) (r:List V->Hp->VK->Prop):Prop:=
 ∀(pins:List (Addr×Obj)) (s:Shared) (σ:St) (H:Hp) (xs:List V) (us:List Value) (Q:VK),Inv X pins σ H s->Vals xs us->r xs H Q->
  wpAny (model X.prog X.w) X.A (call f us) (EP X pins σ Q) X.xe s
def tOp (r:R2) (ta tb:TE):TE:=λσ H Q=>ta σ H λx H1=>tb σ H1 λy H2=>r x y H2 Q
def tUn (r:V->Hp->VK->Prop) (ta:TE):TE:=λσ H Q=>ta σ H λx H1=>r x H1 Q
inductive rI (C:Int->Int->Prop) (g:Int->Int->V) (x y:V) (H:Hp) (Q:VK):Prop
 |mk (i j:_) (_:x= .int i) (_:y= .int j) (_:C i j) (_:Q (g i j) H)
inductive rI0 (g:Int->Int->V) (x y:V) (H:Hp) (Q:VK):Prop
 |mk (i j:_) (_:x= .int i) (_:y= .int j) (_:Q (g i j) H)
inductive rU (g:Int->V) (x:V) (H:Hp) (Q:VK):Prop
 |mk (i:_) (_:x= .int i) (_:Q (g i) H)
section
variable {a b:Expr} {tb tc:TE}
theorem Ia (ha:PE X a ta) (hb:PE X b tb) {R:V->V->Hp->Prop} (I:Inv X pins σ H s)
  (h:ta σ H λx H1=>tb σ H1 λy H2=>R x y H2) {f:Value->Value->Sem Value}
  (hf:∀v u O x y H2,Inv X pins σ H2 O->RelV x v->RelV y u->R x y H2->wpAny (model X.prog X.w) X.A (f v u) Q X.xe O):
  wpAny (model X.prog X.w) X.A (eval a X.env) (λv s₁=>wpAny (model X.prog X.w) X.A (eval b X.env) (λu s₂=>wpAny (model X.prog X.w) X.A (f v u) Q X.xe s₂) X.xe s₁) X.xe s:=by
 refine thn (ha pins s σ H _ I h) λv s1 z=>?_;obtain⟨x,H1,U,r1,Y⟩:=z;refine thn (hb pins s1 σ H1 _ U Y) λu O z=>?_;obtain⟨y,H2,Z,r2,q2⟩:=z;exact hf v u O x y H2 Z r1 r2 q2
theorem aR {op:Operator} (z:OpR X (binaryOp op) r) (ha:PE X a ta) (hb:PE X b tb):PE X (.BinOp a op b pos) (tOp r ta tb):=by
 intro pins s σ H Q I h;exact wpAny_BinOp (Ia ha hb I h λv u O x y H2 U Y Z q=>z pins O σ H2 x y v u Q U Y Z q)
theorem Dn {op:UnaryOp} {r:V->Hp->VK->Prop} (z:UnR X (unaryOp op) r) (ha:PE X a ta):PE X (.UnaryOp op a pos) (tUn r ta):=by
 intro pins s σ H Q I h;exact UnaryOp_ (thn (ha pins s σ H _ I h) λv s1 ⟨x,H1,O,r1,U⟩=>z pins s1 σ H1 x v Q O r1 U)
theorem opI {f:Value->Value->Sem Value} {C:Int->Int->Prop} 
  (rule:∀(i j:Int) (t u:Tok) (s:Shared) (Q:Value->Shared->Prop) (E:Value->Shared->Prop),C i j->Q (.int (g i j) s.toks) {s with toks:=s.toks+1}->wpAny (model X.prog X.w) X.A (f (.int i t) (.int j u)) Q E s):
  OpR X f (rI C λi j=> .int (g i j)):=by
 intro pins s σ H x y v u Q I z O h;obtain⟨i,j,rfl,rfl,hc,q⟩:=h;obtain⟨t,rfl⟩:=z;obtain⟨t',rfl⟩:=O;exact rule i j t t' s _ _ hc ⟨.int (g i j),H,I.tok _,⟨_,rfl⟩,q⟩
theorem opI0 {f:Value->Value->Sem Value} 
  (rule:∀(i j:Int) (t u:Tok) (s:Shared) (Q:Value->Shared->Prop) (E:Value->Shared->Prop),Q (.int (g i j) s.toks) {s with toks:=s.toks+1}->wpAny (model X.prog X.w) X.A (f (.int i t) (.int j u)) Q E s):
  OpR X f (rI0 λi j=> .int (g i j)):=by
 intro pins s σ H x y v u Q I z O h;obtain⟨i,j,rfl,rfl,q⟩:=h;obtain⟨t,rfl⟩:=z;obtain⟨t',rfl⟩:=O;exact rule i j t t' s _ _ ⟨.int (g i j),H,I.tok _,⟨_,rfl⟩,q⟩
theorem Fz {f:Value->Value->Sem Value} {g:Int->Int->Bool}
  (rule:∀(i j:Int) (t u:Tok) (s:Shared) (Q:Value->Shared->Prop) (E:Value->Shared->Prop),Q (.bool (g i j)) s->wpAny (model X.prog X.w) X.A (f (.int i t) (.int j u)) Q E s):
  OpR X f (rI0 λi j=> .bl (g i j)):=by
 intro pins s σ H x y v u Q I z O h;obtain⟨i,j,rfl,rfl,q⟩:=h;obtain⟨t,rfl⟩:=z;obtain⟨t',rfl⟩:=O;exact rule i j t t' s _ _ ⟨.bl (g i j),H,I,rfl,q⟩
def CDiv (i j:Int):Prop:=0<j/\j<1073741824
def CPow (i j:Int):Prop:=0<=j/\j<=1000000/\i.natAbs<2^64
def CMul (i j:Int):Prop:=(-(2^64)<i/\i<2^64)\/(-(2^64)<j/\j<2^64)
theorem CMul.ok {i j:Int} (h:CMul i j):IntMulOk i j:=by
 rcases h with⟨h1,h2⟩|⟨h1,h2⟩
 .exact .of_left (intBits_le_64 h1 h2)
 .exact .of_right (intBits_le_64 h1 h2)
theorem bJ:OpR X (binaryOp .Add) (rI0 λi j=> .int (i+j)):=opI0 λ_ _ _ _ _ _ _ q=>add_int q
theorem mM:OpR X (binaryOp .Sub) (rI0 λi j=> .int (i-j)):=opI0 λ_ _ _ _ _ _ _ q=>sub_int q
theorem gg:OpR X (binaryOp .Mult) (rI CMul λi j=> .int (i*j)):=opI λ_ _ _ _ _ _ _ hc q=>mul_int q hc.ok
theorem jw:OpR X (binaryOp .FloorDiv) (rI CDiv λi j=> .int (i/j)):=opI λi j _ _ _ _ _ hc q=>by
 have h1:(0:Int)<j:=hc.1;have h2:j<1073741824:=hc.2;exact floordiv_int (by lia) (by rw[Int.fdiv_eq_ediv_of_nonneg i (by lia)];exact q) (.inl (PyProof.noPylong_small (by lia)))
theorem cf:OpR X (binaryOp .Mod) (rI (λ_ j=>0<j) λi j=> .int (i%j)):=opI λi j _ _ _ _ _ hc q=>by
 have h1:(0:Int)<j:=hc;exact mod_int' (by lia) (by rw[Int.fmod_eq_emod_of_nonneg i (by lia)];exact q)
theorem zN:OpR X (binaryOp .Pow) (rI CPow λi j=> .int (i^j.toNat)):=opI λ_ _ _ _ _ _ _ hc q=>pow_int_small hc.1 hc.2.1 hc.2.2 q
theorem unI {f:Value->Sem Value} {g:Int->Int}
  (rule:∀(i:Int) (t:Tok) (s:Shared) (Q:Value->Shared->Prop) (E:Value->Shared->Prop),Q (.int (g i) s.toks) {s with toks:=s.toks+1}->wpAny (model X.prog X.w) X.A (f (.int i t)) Q E s):
  UnR X f (rU λi=> .int (g i)):=by
 intro pins s σ H x v Q I z h;obtain⟨i,rfl,q⟩:=h;obtain⟨t,rfl⟩:=z;exact rule i t s _ _ ⟨.int (g i),H,I.tok _,⟨_,rfl⟩,q⟩
theorem zk:UnR X (unaryOp .USub) (rU λi=> .int (-i)):=unI λ_ _ _ _ _ q=>neg_int q
end
def scal:V->V->Bool
 | .non,.non=>true| .non,.int _=>true| .int _,.non=>true| .non,.bl _=>true| .bl _,.non=>true| .non,.str _=>true| .str _,.non=>true
 | .int _,.int _=>true| .bl _,.bl _=>true| .str _,.str _=>true| .byt _,.byt _=>true
 | .int _,.str _=>true| .str _,.int _=>true| .bl _,.str _=>true| .str _,.bl _=>true
 |_,_=>false
def rEq:R2:=λx y H Q=>scal x y=true/\Q (.bl (decide (x=y))) H
def rNe:R2:=λx y H Q=>scal x y=true/\Q (.bl (!decide (x=y))) H
theorem Bc {i j:Int}:decide (V.int i=V.int j)=(i==j):=by
 rw[X2];simp
theorem Ec {i j:Bool}:decide (V.bl i=V.bl j)=(i==j):=by
 rw[X2];simp
theorem Bb {i j:Str}:decide (V.str i=V.str j)=(i==j):=by
 rw[X2];simp
theorem Bd {i j:Array UInt8}:decide (V.byt i=V.byt j)=(i.toList==j.toList):=by
 rw[X2];cases i;cases j;simp
section
variable {a b:Expr} {tb tc:TE}
theorem a8 {Q:VK} {k z:Bool} (I:Inv X pins σ H s) (q:Q (.bl k) H) (e:k=z):EP X pins σ Q (.bool z) s:=by
 subst e;exact⟨.bl k,H,I,rfl,q⟩
theorem gP:OpR X (compareOp .Eq) rEq:=by
 intro pins s σ H x y v u Q I U z h;obtain⟨O,q⟩:=h;cases x with
 |non=>
  cases U;cases y with
  |non=>cases z;exact PySem.EqNone.eq_none_none (a8 I q (by simp))
  |bl j=>cases z;exact PySem.EqNone.eq_none_bool (a8 I q (by simp))
  |int j=>obtain⟨t',rfl⟩:=z;exact PySem.EqNone.eq_none_int (a8 I q (by simp))
  |str j=>obtain⟨t',rfl⟩:=z;exact PySem.EqNone.eq_none_str (a8 I q (by simp))
  |_=>exact absurd (show false=true from O) Qj
 |bl i=>
  cases U;cases y with
  |non=>cases z;exact PySem.EqNone.eq_bool_none (a8 I q (by simp))
  |bl j=>cases z;exact eq_bool (a8 I q Ec)
  |str j=>obtain⟨t',rfl⟩:=z;exact PySem.EqMixed.eq_bool_str (a8 I q (by simp))
  |_=>exact absurd (show false=true from O) Qj
 |int i=>
  obtain⟨t,rfl⟩:=U;cases y with
  |non=>cases z;exact PySem.EqNone.eq_int_none (a8 I q (by simp))
  |int j=>obtain⟨t',rfl⟩:=z;exact eq_int (a8 I q Bc)
  |str j=>obtain⟨t',rfl⟩:=z;exact PySem.EqMixed.eq_int_str (a8 I q (by simp))
  |_=>exact absurd (show false=true from O) Qj
 |str i=>
  obtain⟨t,rfl⟩:=U;cases y with
  |non=>cases z;exact PySem.EqNone.eq_str_none (a8 I q (by simp))
  |bl j=>cases z;exact PySem.EqMixed.eq_str_bool (a8 I q (by simp))
  |int j=>obtain⟨t',rfl⟩:=z;exact PySem.EqMixed.eq_str_int (a8 I q (by simp))
  |str j=>obtain⟨t',rfl⟩:=z;exact eq_str (a8 I q Bb)
  |_=>exact absurd (show false=true from O) Qj
 |byt i=>
  obtain⟨t,rfl⟩:=U;cases y with
  |byt j=>obtain⟨t',rfl⟩:=z;exact PySem.W.eq_bytes (a8 I q Bd)
  |_=>exact absurd (show false=true from O) Qj
 |_=>cases y<;>exact absurd (show false=true from O) Qj
theorem kf:OpR X (compareOp .NotEq) rNe:=by
 intro pins s σ H x y v u Q I U z h;obtain⟨O,q⟩:=h;cases x with
 |non=>
  cases U;cases y with
  |non=>cases z;exact PySem.EqNone.ne_none_none (a8 I q (by simp))
  |bl j=>cases z;exact PySem.EqNone.ne_none_bool (a8 I q (by simp))
  |int j=>obtain⟨t',rfl⟩:=z;exact PySem.EqNone.ne_none_int (a8 I q (by simp))
  |str j=>obtain⟨t',rfl⟩:=z;exact PySem.EqNone.ne_none_str (a8 I q (by simp))
  |_=>exact absurd (show false=true from O) Qj
 |bl i=>
  cases U;cases y with
  |non=>cases z;exact PySem.EqNone.ne_bool_none (a8 I q (by simp))
  |bl j=>cases z;exact ne_bool (a8 I q (congrArg not Ec))
  |str j=>obtain⟨t',rfl⟩:=z;exact PySem.EqMixed.ne_bool_str (a8 I q (by simp))
  |_=>exact absurd (show false=true from O) Qj
 |int i=>
  obtain⟨t,rfl⟩:=U;cases y with
  |non=>cases z;exact PySem.EqNone.ne_int_none (a8 I q (by simp))
  |int j=>obtain⟨t',rfl⟩:=z;exact ne_int (a8 I q (congrArg not Bc))
  |str j=>obtain⟨t',rfl⟩:=z;exact PySem.EqMixed.ne_int_str (a8 I q (by simp))
  |_=>exact absurd (show false=true from O) Qj
 |str i=>
  obtain⟨t,rfl⟩:=U;cases y with
  |non=>cases z;exact PySem.EqNone.ne_str_none (a8 I q (by simp))
  |bl j=>cases z;exact PySem.EqMixed.ne_str_bool (a8 I q (by simp))
  |int j=>obtain⟨t',rfl⟩:=z;exact PySem.EqMixed.ne_str_int (a8 I q (by simp))
  |str j=>obtain⟨t',rfl⟩:=z;exact ne_str (a8 I q (congrArg not Bb))
  |_=>exact absurd (show false=true from O) Qj
 |byt i=>
  obtain⟨t,rfl⟩:=U;cases y with
  |byt j=>obtain⟨t',rfl⟩:=z;exact PySem.W.ne_bytes (a8 I q (congrArg not Bd))
  |_=>exact absurd (show false=true from O) Qj
 |_=>cases y<;>exact absurd (show false=true from O) Qj
theorem fg:OpR X (compareOp .Lt) (rI0 λi j=> .bl (decide (i<j))):=Fz λ_ _ _ _ _ _ _ q=>lt_int q
theorem vh:OpR X (compareOp .LtE) (rI0 λi j=> .bl (decide (i<=j))):=Fz λ_ _ _ _ _ _ _ q=>le_int q
theorem AD:OpR X (compareOp .Gt) (rI0 λi j=> .bl (decide (j<i))):=Fz λ_ _ _ _ _ _ _ q=>gt_int q
theorem Dr:OpR X (compareOp .GtE) (rI0 λi j=> .bl (decide (j<=i))):=Fz λ_ _ _ _ _ _ _ q=>ge_int q
theorem BU:OpR X (compareOp .In) (λx y H Q=>∃i j,x= .str i/\y= .str j/\Q (.bl (!(Builtin.Str.occurrences j i 0 j.length 1).isEmpty)) H):=by
 intro pins s σ H x y v u Q I z O h;obtain⟨i,j,rfl,rfl,q⟩:=h;obtain⟨t,rfl⟩:=z;obtain⟨t',rfl⟩:=O;exact in_str (a8 I q rfl)
theorem Dq:OpR X (compareOp .Is) (λx y H Q=>y= .non/\Q (.bl (decide (x= .non))) H):=by
 intro pins s σ H x y v u Q I z O h;obtain⟨rfl,q⟩:=h;cases O;refine is_none_gen (a8 I q ?_);cases x<;>first
  |(cases z;rfl)
  |(obtain⟨t,rfl⟩:=z;rfl)
theorem AC:OpR X (compareOp .IsNot) (λx y H Q=>y= .non/\Q (.bl (!decide (x= .non))) H):=by
 intro pins s σ H x y v u Q I z O h;obtain⟨rfl,q⟩:=h;cases O;refine isnot_none_gen (a8 I q ?_);cases x<;>first
  |(cases z;rfl)
  |(obtain⟨t,rfl⟩:=z;rfl)
theorem aL (b:Expr) (h:op≠ .In:=by decide) (h2:op≠ .NotIn:=by decide):behindInMarks op b=false:=by
 have z:(op==CmpOp.In)=false:=by cases op<;>first|rfl|exact absurd rfl h
 have e2:(op==CmpOp.NotIn)=false:=by cases op<;>first|rfl|exact absurd rfl h2
 cases b<;>simp[behindInMarks,z,e2]
theorem eS (z:OpR X (compareOp op) r) (ha:PE X a ta) (hb:PE X b tb) (O:behindInMarks op b=false):PE X (.Compare a [op] [b] pos) (tOp r ta tb):=by
 intro pins s σ H Q I h;exact wpAny_Compare1 (Ia ha hb I h λv u U x y H2 Y Z ry q=>z pins U σ H2 x y v u Q Y Z ry q) O
inductive GX (Q:Bool->Hp->Prop) (x:V) (H':Hp):Prop
 |mk (k:_) (_:x= .bl k) (_:Q k H')
def Gn (t:TE):TT:=λσ H Q=>t σ H λx H'=>GX Q x H'
theorem aE (O:OpR X (compareOp op) r) (ha:PE X a ta) (hb:PE X b tb) (U:behindInMarks op b=false):PT X (.Compare a [op] [b] pos) (Gn (tOp r ta tb)):=by
 intro pins s σ H Q I h;refine wpAny_isTrue_Compare1 (thn (ha pins s σ H _ I h) λv s1 ⟨x,H1,Y,r1,Z⟩=>thn (hb pins s1 σ H1 _ Y Z) λu s2 ⟨y,H2,I2,r2,q2⟩=>
  thn (O pins s2 σ H2 x y v u _ I2 r1 r2 q2) λc s3 ⟨z,H3,I3,r3,k,e,q3⟩=>?_) U
 subst e;cases r3;exact wpAny_truthy_bool ⟨H3,I3,q3⟩
def G3 (r r':R2) (ta tb tc:TE):TE:=λσ H Q=>ta σ H λx H1=>tb σ H1 λy H2=>r x y H2 λz H3=>∃k,z= .bl k/\
 (if k=true then tc σ H3 λw' H4=>r' y w' H4 Q else Q (.bl false) H3)
theorem ye {O:CmpOp} {Z:R2} (ho:OpR X (compareOp op) r) (U:OpR X (compareOp O) Z) (ha:PE X a ta) (hb:PE X b tb) (hc:PE X c tc)
  (hm:lastMarks [op,O] [b,c]=false:=by with_unfolding_all rfl):PT X (.Compare a [op,O] [b,c] pos) (Gn (G3 r Z ta tb tc)):=by
 intro pins s σ H Q I h;refine isTrue_chain (thn (ha pins s σ H _ I h) λv s1 ⟨x,H1,I1,r1,q1⟩=>test_link (thn (hb pins s1 σ H1 _ I1 q1) λu s2 ⟨y,H2,I2,r2,q2⟩=>
  thn (ho pins s2 σ H2 x y v u _ I2 r1 r2 q2) λd s3 ⟨z,H3,I3,r3,k,e,q3⟩=>?_)) hm
 subst e;cases r3;refine wpAny_truthy_bool ?_;cases k with
 |false=>
  obtain⟨k',e',q'⟩:=q3;cases e';exact ite_ff ⟨H3,I3,q'⟩
 |true=>
  refine ite_tt (test_last (thn (hc pins s3 σ H3 _ I3 q3) λw' s4 ⟨z',H4,I4,r4,q4⟩=>thn (U pins s4 σ H4 y z' u w' _ I4 r2 r4 q4) λd' s5 Y=>?_));obtain⟨z2,H5,I5,r5,k2,e2,q5⟩:=Y;subst e2;cases r5;exact wpAny_truthy_bool ⟨H5,I5,q5⟩
theorem pF:(sizeLine:Nat)<2^63:=by rw[sizeLine_eq];decide
theorem sk:OpR X (binaryOp .Add) (λx y H Q=>∃i j,x= .str i/\y= .str j/\i.length+j.length<=sizeLine/\Q (.str (i++j)) H):=by
 intro pins s σ H x y v u Q I z O h;obtain⟨i,j,rfl,rfl,hz,q⟩:=h;obtain⟨t,rfl⟩:=z;obtain⟨t',rfl⟩:=O;exact add_str (λt' tk=>⟨.str (i++j),H,I.tok _,⟨_,rfl⟩,q⟩) hz
theorem iS {x:V} (r:Vals [x] us):∃u,us=[u]/\RelV x u:=by
 cases r with
 |cons r1 z=>cases z;exact⟨_,rfl,r1⟩
theorem qP {x:V} (r:Vals [x,y] us):∃u w',us=[u,w']/\RelV x u/\RelV y w':=by
 cases r with
 |cons r1 z=>
  cases z with
  |cons I O=>cases O;exact⟨_,_,rfl,r1,I⟩
theorem pR (hc:X.calm=true):dw X (.builtin "max") (λxs H Q=>∃i j,xs=[.int i,.int j]/\Q (.int (if j>i then j else i)) H):=by
 intro pins s σ H xs us Q I r h;obtain⟨i,j,rfl,q⟩:=h;obtain⟨u,w',rfl,⟨t,rfl⟩,⟨t',rfl⟩⟩:=qP r;refine max_two_ints (I.ok.hd hc) λh' tk k=>⟨_,H,I.kept k,?_,q⟩;by_cases z:j>i
 .rw[if_pos z,if_pos z];exact⟨_,rfl⟩
 .rw[if_neg z,if_neg z];exact⟨_,rfl⟩
theorem vL (hc:X.calm=true):dw X (.builtin "min") (λxs H Q=>∃i j,xs=[.int i,.int j]/\Q (.int (if j<i then j else i)) H):=by
 intro pins s σ H xs us Q I r h;obtain⟨i,j,rfl,q⟩:=h;obtain⟨u,w',rfl,⟨t,rfl⟩,⟨t',rfl⟩⟩:=qP r;refine min_two_ints (I.ok.hd hc) λh' tk k=>⟨_,H,I.kept k,?_,q⟩;by_cases z:j<i
 .rw[if_pos z,if_pos z];exact⟨_,rfl⟩
 .rw[if_neg z,if_neg z];exact⟨_,rfl⟩
theorem oy:dw X (.type "str") (λxs H Q=>∃i,xs=[.int i]/\i.natAbs.log2<1920/\Q (.str (toString i)) H):=by
 intro pins s σ H xs us Q I r h;obtain⟨i,rfl,hz,q⟩:=h;obtain⟨u,rfl,t,rfl⟩:=iS r;exact PySem.P.str_of_int hz ⟨.str _,H,I.tok _,⟨_,rfl⟩,q⟩
end
end
section
structure ObjM (h:Heap) (x dx C:Addr) (mA:Str->Option Value):Prop where
 obj:h.get? x=some (PySem.W.instObj C dx)
 ns:h.Ns1 dx mA
 ne:dx≠x
theorem Cg {mA:Str->Option Value} (n:h.Ns1 dx mA):∃od,h.get? dx=some od/\∀name,PySem.W.lookIn name od=some (mA name):=by
 obtain⟨o,es,ep,O,hd,hk,_,U⟩:=n;refine⟨o,O,λname=>?_⟩;have e:=U name;unfold nsFind findBy at e;rw[<-Array.find?_toList]at e;unfold PySem.W.lookIn;rw[hd];dsimp only;split
 .rename_i y q
  rw[q]at e;exact congrArg some e
 .rename_i q
  rw[q]at e;have a:es.toList.any (·.refKey)=false:=by
   rw[List.any_eq_false];intro y hy;obtain⟨z,t,I⟩:=hk y (Array.mem_toList_iff.mp hy);simp[DictEntry.refKey,I]
  have Y:¬es.toList.any (·.refKey)=true:=by rw[a];exact Qj
  rw[if_neg Y];exact congrArg some e
theorem ObjM.look {x:Addr} {mA:Str->Option Value} (I:ObjM h x dx C mA):∃od,PySem.W.InstAt h x (PySem.W.instObj C dx) C (some od)/\∀name,PySem.W.lookIn name od=some (mA name):=
 let⟨od,ho,hl⟩:=Cg I.ns
 ⟨od,⟨I.obj,rfl,rfl,ho⟩,hl⟩
section
variable {x f:Addr} {mA:Str->Option Value} {v:Value}
theorem FN {z:Bool} (X:K.In s.heap) (I:ObjM s.heap x dx C mA) (U:PySem.W.plainGet K C name=true) (Y:PySem.W.hasDictIn K C=true)
  (ha:PySem.W.findIn K (.ref C) name=some none) (Z:mA name=some v) (O:PySem.W.handedIn v=true) (h:Q v {s with toks:=s.toks+1}):
  wpAny (model prog w) A (getAttr (.ref x) name z) Q E s:=by
 obtain⟨od,J,hl⟩:=I.look;exact PySem.W.get_value X J (Xs U).1 (PySem.W.findObj_own Y ha rfl (by rw[hl,Z])) O h
theorem D1 {pl:Sem Bool} {Q:Value×List Value->Shared->Prop} (X:K.In s.heap) (I:ObjM s.heap x dx C mA) (z:PySem.W.plainGet K C name=true)
  (hf:PySem.W.findIn K (.ref C) name=some (some (.ref f))) (O:PySem.W.isFn K (.ref f)=true) (U:mA name=none) (h:Q (.ref f,[.ref x]) s):
  wpAny (model prog w) A (getMethod (.ref x) name pl) Q E s:=by
 obtain⟨od,J,hl⟩:=I.look;exact PySem.W.method_fn X J (Xs z).1 (Xs z).2 hf (beq_iff_eq.mp O) (by show(PySem.W.lookIn name od).map (·.isSome)=some false;rw[hl,U];rfl) h
theorem Fd {ns:List Str} {Q:Unit->Shared->Prop} (X:K.In s.heap) (I:ObjM s.heap x dx C mA)
  (hs:PySem.W.findIn K (.ref C) "__setattr__"=some (some (.builtin "object.__setattr__"))) (hp:PySem.W.plainOver K C=true) (ht:PySem.W.takerIn K C name=some none) (hh:PySem.W.hasDictIn K C=true)
  (hw:PySem.Within mA ns) (hsz:ns.length<=sizeLine)
  (h:∀h',ObjM h' x dx C (λy=>if y=name then some v else mA y)->Heap.SameBut dx s.heap h'->Q () {s with heap:=h',toks:=s.toks+2}):
  wpAny (model prog w) A (setAttr (.ref x) name v) Q E s:=by
 obtain⟨od,J,hl⟩:=I.look;refine PySem.W.set_plain X J hs (PySem.W.osa_open (s:={s with toks:=s.toks+1}) (r:=none) X J hp ht λb=>?_);obtain⟨cd,hc,U⟩:=PySem.W.any_some hh;have hx:s.heap.get? x=some ⟨.ref C,some dx,.plain, #[]⟩:=I.obj;refine wpAny_bind (wpAny_pure (wpAny_bind (wpAny_bind (wpAny_loadPart hx (wpAny_bind (PySem.W.Looks.here (s:={s with toks:=s.toks+1}) (PySem.W.looks_clsIn X hc) ?_))))));rw[U];refine wpAny_pure (a:=some dx) (wpAny_bind (wpAny_pure (wpAny_bind ?_)));refine wpAny_nsSet1 (s:={s with toks:=s.toks+1}) I.ns λh' z O=>?_;obtain⟨oD,a1,a2,Y,Z,a0⟩:=z.count (PySem.Within.cons name v hw);refine wpAny_bind (wpAny_lookBehind Y (by rw[Z];exact pastItsLine_dict (QL a0 (by rw[Qf];lia))) ?_);exact wpAny_pure (h _ ⟨(O.2 _ (Ne.symm I.ne)).trans I.obj,z,I.ne⟩ O)
theorem DK {vs:List Value} (X:K.In s.heap) (z:PySem.W.makesIn K C=true)
  (hi:PySem.W.findIn K (.ref C) "__init__"=some (some (.ref f))) (hf:PySem.W.typeIn K (.ref f)=some (.type "function"))
  (h:codeAny (model prog w) (A.under (.builtin "type.__call__" ⟨.ref C::vs,kw⟩)) (.call (.ref f) ⟨.ref (s.heap.objs.size+1)::vs,kw⟩) (PySem.W.InitBack (s.heap.objs.size+1) R)
   {s with heap:=(s.heap.push PySem.W.emptyDict).push (PySem.W.instObj C s.heap.objs.size)}):
  codeAny (model prog w) A (.call (.ref C) ⟨vs,kw⟩) R s:=by
 obtain⟨I,g,d,t,os⟩:=s;exact PySem.W.make_core (PySem.W.makes_of X z) (PySem.W.looks_findIn X hi) (λself=>PySem.W.bind_fn X self hf) (.inl rfl) h
end
def a9 (f:Str) (v:V):List (Str×V)->List (Str×V)
 | []=> [(f,v)]
 |(g,x)::r=>if g=f then(g,v)::r else(g,x)::a9 f v r
theorem bU (f g:Str) (v:V):∀fs:List (Str×V),(a9 f v fs).lookup g=if g=f then some v else fs.lookup g
 | []=>by
  show List.lookup g [(f,v)]=_;by_cases h:g=f
  .have hb:(g==f)=true:=beq_iff_eq.mpr h;simp only[List.lookup,hb,if_pos h]
  .have hb:(g==f)=false:=beq_eq_false_iff_ne.mpr h;simp only[List.lookup,hb,if_neg h]
 |(k,x)::r=>by
  have z:=bU f g v r;rw[show a9 f v ((k,x)::r)=(if k=f then(k,v)::r else(k,x)::a9 f v r) from rfl];by_cases hk:k=f
  .rw[if_pos hk];by_cases h:g=k
   .have hb:(g==k)=true:=beq_iff_eq.mpr h;simp only[List.lookup,hb,if_pos (h.trans hk)]
   .have hb:(g==k)=false:=beq_eq_false_iff_ne.mpr h;simp only[List.lookup,hb,if_neg (λe:g=f=>h (e.trans hk.symm))]
  .rw[if_neg hk];by_cases h:g=k
   .have hb:(g==k)=true:=beq_iff_eq.mpr h;simp only[List.lookup,hb,if_neg (λe:g=f=>hk (h.symm.trans e))]
   .have hb:(g==k)=false:=beq_eq_false_iff_ne.mpr h;simp only[List.lookup,hb];exact z
theorem pI (f:Str) (v:V):∀fs:List (Str×V),f∈(a9 f v fs).map (·.1)/\∀g,g∈fs.map (·.1)->g∈(a9 f v fs).map (·.1)
 | []=>⟨by simp[a9],λg h=>by simp at h⟩
 |(k,x)::r=>by
  obtain⟨z,I⟩:=pI f v r;rw[show a9 f v ((k,x)::r)=(if k=f then(k,v)::r else(k,x)::a9 f v r) from rfl];by_cases hk:k=f
  .rw[if_pos hk];subst hk;exact⟨by simp,λg h=>by simpa using h⟩
  .rw[if_neg hk];refine⟨?_,λg h=>?_⟩
   .rw[Qo];exact Q8 _ z
   .rw[Qo]at h⊢;rcases Qg.mp h with e|e
    .exact Qg.mpr (.inl e)
    .exact Q8 _ (I g e)
theorem pY (f:Str) (v:V):∀fs:List (Str×V),(a9 f v fs).length<=fs.length+1
 | []=>by simp[a9]
 |(k,x)::r=>by
  have z:=pY f v r;rw[show a9 f v ((k,x)::r)=(if k=f then(k,v)::r else(k,x)::a9 f v r) from rfl];by_cases hk:k=f
  .rw[if_pos hk,Qf,Qf];lia
  .rw[if_neg hk,Qf,Qf];lia
theorem RelO.some_of (r:RelO (some v) o):∃u,o=some u/\RelV v u:=by
 cases o with
 |none=>exact(show False from r).elim
 |some u=>exact⟨u,rfl,r⟩
theorem RelO.none_of (r:RelO none o):o=none:=by
 cases o with
 |none=>rfl
 |some u=>exact(show False from r).elim
theorem Cp (r:RelV v u):PySem.W.handedIn u=true:=by
 cases v with
 |non=>cases (show u=Value.none from r);rfl
 |bl b=>cases (show u=Value.bool b from r);rfl
 |int i=>obtain⟨t,e⟩:=(show ∃t,u=Value.int i t from r);cases e;rfl
 |str x=>obtain⟨t,e⟩:=(show ∃t,u=Value.str x t from r);cases e;rfl
 |byt b=>obtain⟨t,e⟩:=(show ∃t,u=Value.bytes b t from r);cases e;rfl
 |flt b=>obtain⟨t,e⟩:=(show ∃t,u=Value.float b t from r);cases e;rfl
 |ref a=>cases (show u=Value.ref a from r);rfl
 |ty n=>cases (show u=Value.type n from r);rfl
section
variable {fs fs':List (Str×V)}
theorem ins_get (hok:HOk P w H h) (e:H a=some (.ins C dx fs)):∃mA,ObjM h a dx C mA/\(∀f,RelO (fs.lookup f) (mA f))/\PySem.Within mA (fs.map (·.1))/\fs.length<=1000/\H dx=some (.own a):=by
 obtain⟨d,z,I,ob,mA,n,r,q⟩:=(show ObjOk P w H h a (.ins C dx fs) from hok a _ e);exact⟨mA,⟨ob,n,I⟩,r,q,z,d⟩
end
structure Cls (K:PySem.W.Frag) (C:Addr):Prop where
 pg:PySem.W.plainGet K C Str.empty=true
 hd:PySem.W.hasDictIn K C=true
 po:PySem.W.plainOver K C=true
 sa:PySem.W.findIn K (.ref C) "__setattr__"=some (some (.builtin "object.__setattr__"))
theorem Cls.get (c:Cls K C) (f:Str):PySem.W.plainGet K C f=true:=c.pg
def NoAttr (K:PySem.W.Frag) (C:Addr) (f:Str):Prop:=PySem.W.findIn K (.ref C) f=some none
theorem NoAttr.taker (n:NoAttr K C f):PySem.W.takerIn K C f=some none:=by
 unfold PySem.W.takerIn;rw[show PySem.W.findIn K (.ref C) f=some none from n];rfl
structure bS (K:PySem.W.Frag) (C:Addr) (m:Str) (f:Addr):Prop where
 at_:PySem.W.findIn K (.ref C) m=some (some (.ref f))
 fn:PySem.W.isFn K (.ref f)=true
 kp:PySem.W.keepIn K (.ref f)=true
section
variable {fs:List (Str×V)}
theorem tx {b:Bool} (I:Inv X pins σ H s) (e:H a=some (.ins C dx fs)) (c:Cls X.K C) (n:NoAttr X.K C f) (l:fs.lookup f=some v)
  (h:∀u s',Inv X pins σ H s'->RelV v u->Q u s'):wpAny (model X.prog X.w) A (getAttr (.ref a) f b) Q E s:=by
 obtain⟨mA,O,r,_,_,_⟩:=ins_get I.hok e;obtain⟨u,hu,z⟩:=RelO.some_of (v:=v) (o:=mA f) (by rw[<-l];exact r f);exact FN I.kIn O (c.get f) c.hd n hu (Cp z) (h u _ (I.tok _) z)
theorem tw {g:Addr} {pl:Sem Bool} {Q:Value×List Value->Shared->Prop} (I:Inv X pins σ H s) (e:H a=some (.ins C dx fs)) (c:Cls X.K C) (k:bS X.K C m g) (l:fs.lookup m=none)
  (h:Q (.ref g,[.ref a]) s):wpAny (model X.prog X.w) A (getMethod (.ref a) m pl) Q E s:=by
 obtain⟨mA,O,r,_,_,_⟩:=ins_get I.hok e;have z:mA m=none:=RelO.none_of (by rw[<-l];exact r m);exact D1 I.kIn O (c.get m) k.at_ k.fn z h
theorem rF {Q:Unit->Shared->Prop} (I:Inv X pins σ H s) (e:H a=some (.ins C dx fs)) (c:Cls X.K C) (n:NoAttr X.K C f) (hl:fs.length<1000) (Z:RelV y u)
  (h:∀s',Inv X pins σ (upd H a (.ins C dx (a9 f y fs))) s'->Q () s'):wpAny (model X.prog X.w) A (setAttr (.ref a) f u) Q E s:=by
 obtain⟨mA,O,r,wi,_,Y⟩:=ins_get I.hok e;have hz:(fs.map (·.1)).length<=sizeLine:=by rw[Q0,sizeLine_eq];lia
 refine Fd I.kIn O c.sa c.po n.taker c.hd wi hz λh' U sb=>h _ ?_;have hd:∃o,h'.get? dx=some o:=let⟨o,_,_,e',_⟩:=U.ns;⟨o,e'⟩
 refine I.write (x:=a) (e:=dx) (by rw[e];exact True.intro) (.inr Y) (λb q hb z=>(sb.2 b hb).trans z) hd ?_;refine⟨by rw[ag O.ne];exact Y,?_,O.ne,U.obj,_,U.ns,λg=>?_,λg hg=>?_⟩
 .have:=pY f y fs;lia
 .show RelO ((a9 f y fs).lookup g) (if g=f then some u else mA g);rw[bU];by_cases q:g=f
  .rw[if_pos q,if_pos q];exact Z
  .rw[if_neg q,if_neg q];exact r g
 .by_cases q:g=f
  .rw[q];exact(pI f y fs).1
  .refine(pI f y fs).2 g (wi g λz=>hg ?_);show(if g=f then some u else mA g)=none;rw[if_neg q];exact z
theorem Inv.made (I:Inv X pins σ H s):Inv X pins σ (upd (upd H s.heap.objs.size (.own (s.heap.objs.size+1))) (s.heap.objs.size+1) (.ins C s.heap.objs.size []))
  {s with heap:=(s.heap.push PySem.W.emptyDict).push (PySem.W.instObj C s.heap.objs.size)}:=by
 have z:(s.heap.push PySem.W.emptyDict).get? s.heap.objs.size=some PySem.W.emptyDict:=Heap.get?_push_size s.heap rfl;have e2:((s.heap.push PySem.W.emptyDict).push (PySem.W.instObj C s.heap.objs.size)).get? (s.heap.objs.size+1)=some (PySem.W.instObj C s.heap.objs.size):=by
  have:=Heap.get?_push_size (s.heap.push PySem.W.emptyDict) (o:=PySem.W.instObj C s.heap.objs.size) rfl;rwa [Heap.size_push]at this
 have U:(s.heap.push PySem.W.emptyDict).Ns s.heap.objs.size (λ_=>none):=⟨PySem.W.emptyDict, #[],_,z,rfl,(λe he=>absurd he (by simp)),λ_=>rfl⟩;have Y:=I.laid (a:=s.heap.objs.size) (o:= .own (s.heap.objs.size+1)) (h':=s.heap.push PySem.W.emptyDict) (t':=s.toks) (λb u q=>Heap.get?_push_of_some _ q) (Q4 _) ⟨_,z⟩;refine Y.laid (a:=s.heap.objs.size+1) (o:= .ins C s.heap.objs.size []) (t':=s.toks) (λb u q=>Heap.get?_push_of_some _ q) (ZG (Heap.size_push _ _)) ?_;have O:s.heap.objs.size≠s.heap.objs.size+1:=Qx (XS _);refine⟨by rw[ag O,ai],Qi _,O,e2,λ_=>none,(Heap.Ns1.of_empty U).at λo q=>Heap.get?_push_of_some _ q,λ_=>True.intro,λy hy=>absurd rfl hy⟩
theorem F5 {env:Env} (hb:attributeBase e f env (eval e env)=eval e env)
  (h:wpAny (model prog w) A (eval e env) (λo s₁=>wpAny (model prog w) A (getAttr o f true) Q E s₁) E s):wpAny (model prog w) A (eval (.Attribute e f pos) env) Q E s:=
 Attribute_any_ h (by rw[arm_eval_Attribute,hb])
end
inductive Iz (K:PySem.W.Frag) (f:Str) (Q:VK) (x:V) (H1:Hp):Prop
 |mk (a C dx fs v:_) (_:x= .ref a) (_:H1 a=some (.ins C dx fs)) (_:Cls K C) (_:NoAttr K C f) (_:fs.lookup f=some v) (_:Q v H1)
def tFld (K:PySem.W.Frag) (ta:TE) (f:Str):TE:=λσ H Q=>ta σ H λx H1=>Iz K f Q x H1
inductive IJ (K:PySem.W.Frag) (f:Str) (D:lq) (σ:St) (y x:V) (H2:Hp):Prop
 |mk (a C dx fs:_) (_:x= .ref a) (_:H2 a=some (.ins C dx fs)) (_:Cls K C) (_:NoAttr K C f) (_:fs.length<1000) (_:D.nx σ (upd H2 a (.ins C dx (a9 f y fs))))
def sFld (K:PySem.W.Frag) (ta tv:TE) (f:Str):TS:=λD σ H=>tv σ H λy H1=>ta σ H1 λx H2=>IJ K f D σ y x H2
def Il (X:Cx) (op:Operator) (rd:V->V->Hp->VK->Prop):Prop:=
 ∀(pins:List (Addr×Obj)) (s:Shared) (σ:St) (H:Hp) (x y:V) (u v:Value) (Q:VK),Inv X pins σ H s->RelV x u->RelV y v->rd x y H Q->wpAny (model X.prog X.w) X.A (inplaceOp op u v) (EP X pins σ Q) X.xe s
inductive Dc (K:PySem.W.Frag) (tv:TE) (rd:V->V->Hp->VK->Prop) (f:Str) (D:lq) (σ:St) (x:V) (H1:Hp):Prop
 |mk (a C dx fs v:_) (_:x= .ref a) (_:H1 a=some (.ins C dx fs)) (_:Cls K C) (_:NoAttr K C f) (_:fs.lookup f=some v) (_:tv σ H1 λy H2=>rd v y H2 λz H3=>∃dx' fs',H3 a=some (.ins C dx' fs')/\fs'.length<1000/\D.nx σ (upd H3 a (.ins C dx' (a9 f z fs'))))
def Ff (K:PySem.W.Frag) (ta tv:TE) (rd:V->V->Hp->VK->Prop) (f:Str):TS:=λD σ H=>ta σ H λx H1=>Dc K tv rd f D σ x H1
section
variable {o value:Expr} {tpos:Pos} {tv:TE}
theorem aD (he:PE X e ta) (hb:attributeBase e f X.env (eval e X.env)=eval e X.env):PE X (.Attribute e f pos) (tFld X.K ta f):=by
 intro pins s σ H Q I h;refine F5 hb (thn (he pins s σ H _ I h) λu s1 z=>?_);obtain⟨x,H1,O,U,a,C,dx,fs,v,ex,ea,c,n,l,q⟩:=z;subst ex;obtain rfl:u=Value.ref a:=U;exact tx O ea c n l λu' s2 Y Z=>⟨v,H1,Y,Z,q⟩
theorem cc (ha:PE X o ta) (O:PE X value tv) (U:swapsWith value (some (.Attribute o f pos')) pos.line X.env=pure false):PS X (.Assign [.Attribute o f pos'] value pos) (sFld X.K ta tv f):=by
 intro pins s σ H D I h;refine plainObj_wpAny_Assign_Attribute (thn (O pins s σ H _ I h) λu s1 ⟨y,H1,Y,Z,q⟩=>thn (ha pins s1 σ H1 _ Y q) λov s2 z=>?_) U;obtain⟨x,H2,I2,rx,a,C,dx,fs,ex,ea,c,n,l,q2⟩:=z;subst ex;obtain rfl:ov=Value.ref a:=rx;exact rF I2 ea c n l Z λs3 I3=>⟨σ,_,I3,q2⟩
theorem kT {op:Operator} (ha:PE X o ta) (Z:PE X value tv) (U:Il X op rd):PS X (.AugAssign (.Attribute o f tpos) op value pos) (Ff X.K ta tv rd f):=by
 intro pins s σ H D I h;refine wpAny_AugAssign_AttributeAny (thn (ha pins s σ H _ I h) λov s1 O=>?_);obtain⟨x,H1,I1,rx,a,C,dx,fs,v,ex,ea,c,n,l,q⟩:=O;subst ex;obtain rfl:ov=Value.ref a:=rx;refine tx I1 ea c n l λu s2 I2 ru=>thn (Z pins s2 σ H1 _ I2 q) λw3 s3 ⟨y,H2,I3,ry,q3⟩=>thn (U pins s3 σ H2 v y u w3 _ I3 ru ry q3) λw4 s4 O=>?_;obtain⟨z,H3,I4,rz,a0,fs',Y,l',q4⟩:=O;exact rF I4 Y c n l' rz λs5 I5=>⟨σ,_,I5,q4⟩
inductive rAdd (x y:V) (H:Hp) (Q:VK):Prop
 |mk (i j:_) (_:x= .int i) (_:y= .int j) (_:Q (.int (i+j)) H)
inductive rSub (x y:V) (H:Hp) (Q:VK):Prop
 |mk (i j:_) (_:x= .int i) (_:y= .int j) (_:Q (.int (i-j)) H)
theorem Ab:Il X .Add rAdd:=by
 rintro pins s σ H x y u v Q I z O ⟨i,j,rfl,rfl,q⟩;obtain⟨t,rfl⟩:=(show ∃t,u=Value.int i t from z);obtain⟨t',rfl⟩:=(show ∃t',v=Value.int j t' from O);exact PyProof.Rows.iadd_int ⟨.int (i+j),H,I.tok _,⟨_,rfl⟩,q⟩
theorem HK:Il X .Sub rSub:=by
 rintro pins s σ H x y u v Q I z O ⟨i,j,rfl,rfl,q⟩;obtain⟨t,rfl⟩:=(show ∃t,u=Value.int i t from z);obtain⟨t',rfl⟩:=(show ∃t',v=Value.int j t' from O);exact PyProof.Rows.isub_int ⟨.int (i-j),H,I.tok _,⟨_,rfl⟩,q⟩
end
section
variable {c:Value} {b:Bool}
inductive TyOf (K:PySem.W.Frag) (H:Hp):V->Value->Prop where
 |non:TyOf K H .non (.type "NoneType")
 |bl (x:Bool):TyOf K H (.bl x) (.type "bool")
 |int (i:Int):TyOf K H (.int i) (.type "int")
 |str (x:Str):TyOf K H (.str x) (.type "str")
 |flt (x:UInt64):TyOf K H (.flt x) (.type "float")
 |lst {a:Addr} {xs:List V} (e:H a=some (.lst xs)):TyOf K H (.ref a) (.type "list")
 |frz {a:Addr} {o:Obj} {xs:List V} (e:H a=some (.frz o (.lst xs))):TyOf K H (.ref a) (.type "list")
 |tup {a:Addr} {xs:List V} (e:H a=some (.tup xs)):TyOf K H (.ref a) (.type "tuple")
 |dK {a:Addr} {kvs:List (Key×V)} (e:H a=some (.dK kvs)):TyOf K H (.ref a) (.type "dict")
 |dT {a:Addr} {kvs:List (List Key×V)} (e:H a=some (.dT kvs)):TyOf K H (.ref a) (.type "dict")
 |ins {a C dx:Addr} {fs:List (Str×V)} (e:H a=some (.ins C dx fs)) (cl:Cls K C) (ha:PySem.W.findIn K (.ref C) "__class__"=some (some (.builtin "object.__class__")))
   (hn:PySem.W.specialIn K (.builtin "object.__class__") "__get__"=some (some (.builtin "getset_descriptor.__get__"))) (htk:PySem.W.takesIn K (.builtin "object.__class__")=some true)
   (hm:PySem.W.mroIn K C (.type "object")=some true):TyOf K H (.ref a) (.ref C)
theorem vA {x:V} {t:Value} (I:Inv X pins σ H s) (U:RelV x u) (ty:TyOf X.K H x t) (e:PySem.W.kitOne X.K t c=some b) (h:∀tk,Q (.bool b) {s with toks:=tk}):
  wpAny (model X.prog X.w) A (call (.builtin "isinstance") [u,c]) Q E s:=by
 cases ty with
 |non=>cases (show u=Value.none from U);exact QZ PySem.W.kitx_none I.kIn True.intro e (λz=>nomatch z) h
 |bl y=>cases (show u=Value.bool y from U);exact QZ PySem.W.kitx_bool I.kIn True.intro e (λz=>nomatch z) h
 |int i=>obtain⟨t,q⟩:=(show ∃t,u=Value.int i t from U);cases q;exact QZ PySem.W.kitx_int I.kIn True.intro e (λz=>nomatch z) h
 |str y=>obtain⟨t,q⟩:=(show ∃t,u=Value.str y t from U);cases q;exact QZ PySem.W.kitx_str I.kIn True.intro e (λz=>nomatch z) h
 |flt y=>obtain⟨t,q⟩:=(show ∃t,u=Value.float y t from U);cases q;exact QZ PySem.W.kitx_float I.kIn True.intro e (λz=>nomatch z) h
 | @lst a xs ea=>
  cases (show u=Value.ref a from U);obtain⟨_,_,n,_,h1⟩:=(show ObjOk X.prog X.w H s.heap a (.lst xs) from I.hok a _ ea);exact QZ PySem.W.kitx_list I.kIn ⟨_,h1,rfl⟩ e (λz=>nomatch z) h
 | @frz a ob xs ea=>
  cases (show u=Value.ref a from U);obtain⟨_,_,_,n,_,h1⟩:=(show ObjOk X.prog X.w H s.heap a (.frz ob (.lst xs)) from I.hok a _ ea);exact QZ PySem.W.kitx_list I.kIn ⟨_,h1,rfl⟩ e (λz=>nomatch z) h
 | @tup a xs ea=>
  cases (show u=Value.ref a from U);obtain⟨_,_,_,p⟩:=(show ObjOk X.prog X.w H s.heap a (.tup xs) from I.hok a _ ea);obtain⟨o,h1,h2,_⟩:=p;exact QZ PySem.W.kitx_tuple I.kIn ⟨o,h1,h2⟩ e (λz=>nomatch z) h
 | @dK a kvs ea=>
  cases (show u=Value.ref a from U);obtain⟨_,_,vs,_,p⟩:=(show ObjOk X.prog X.w H s.heap a (.dK kvs) from I.hok a _ ea);obtain⟨o,es,ep,h1,h2,_⟩:=p;exact QZ PySem.W.kitx_dict I.kIn ⟨o,h1,h2.1⟩ e (λz=>nomatch z) h
 | @dT a kvs ea=>
  cases (show u=Value.ref a from U);obtain⟨_,_,xs,_,o,es,ep,h1,h2,_⟩:=(show ObjOk X.prog X.w H s.heap a (.dT kvs) from I.hok a _ ea);exact QZ PySem.W.kitx_dict I.kIn ⟨o,h1,h2.1⟩ e (λz=>nomatch z) h
 | @ins a C dx fs ea cl ha Z Y hm=>
  cases (show u=Value.ref a from U);obtain⟨mA,O,_⟩:=ins_get I.hok ea;obtain⟨od,J,_⟩:=O.look;exact QZ (PySem.W.kitx_own (cl.get _) cl.hd ha Z Y hm) I.kIn J e (λz=>nomatch z) h
end
end
section
structure Room (k:Nat) (A:Around):Prop where
 hd:A.handled=none
 dp:A.depth+3*k+5<recursionLimit
 un:A.units+16*k+200<cLine
theorem Room.mono {j k:Nat} (r:Room k A) (h:j<=k):Room j A:=⟨r.hd,by have:=r.dp;lia,by have:=r.un;lia⟩
theorem Room.deeper {k:Nat} (r:Room (k+1) A) (env:Env):Room k (A.deeper env):=
 ⟨r.hd,by have:=r.dp;show A.depth+1+3*k+5<_;lia,by have:=r.un;show A.units+3+16*k+200<_;lia⟩
theorem zZ:(A.under (.builtin "type.__call__" ⟨.ref C::us,kw⟩)).depth=A.depth+1:=by
 first|rfl|simp[Around.under,Code.weight,Code.isCreation,Code.isGuard,Code.isCaller,Code.frames,Code.isFrame,guardIds]
theorem zY:(A.under (.builtin "type.__call__" ⟨.ref C::us,kw⟩)).units=A.units+1:=by
 first|rfl|simp[Around.under,Code.cUnits,Code.frames,Code.isFrame]
theorem Room.make {k:Nat} (r:Room (k+1) A) (C:Addr) (us:List Value) (kw:List (Str×Value)):Room k (A.under (.builtin "type.__call__" ⟨.ref C::us,kw⟩)):=
 ⟨r.hd,by have:=r.dp;rw[zZ];lia,by have:=r.un;rw[zY];lia⟩
theorem Room.depth {k:Nat} (r:Room k A):A.depth<recursionLimit:=by have:=r.dp;lia
theorem Room.units {k:Nat} (r:Room k A):A.units+64<cLine:=by have:=r.un;lia
def C4:TA:=λ_ H Q=>Q [] H
def C6 (ta:TE) (tr:TA):TA:=λσ H Q=>ta σ H λx H1=>tr σ H1 λxs H2=>Q (x::xs) H2
section
variable {t:TA}
theorem ah:PA X [] C4:=λ_ _ _ _ H Q I h=>Calls.spliced_nil ⟨[],H,I,.nil,h⟩
theorem ae (ha:PE X e te) (O:PA X es t) (U:starEach (e::es) X.env=(false,eval e X.env)::starEach es X.env:=by rfl):PA X (e::es) (C6 te t):=by
 intro pos pins s σ H Q I h;rw[U];show wpAny _ _ (spliced ((false,eval e X.env)::backTo pos (starEach es X.env))) _ _ s;refine Calls.spliced_cons (thn (ha pins s σ H _ I h) λu s1 z=>?_);obtain⟨x,H1,Y,r1,Z⟩:=z;exact thn (O pos pins s1 σ H1 _ Y Z) λus s2 ⟨xs,H2,I2,r2,q2⟩=>⟨x::xs,H2,I2,.cons r1 r2,q2⟩
def tTup (t:TA):TE:=λσ H Q=>t σ H λxs H1=>xs.length<=sizeLine/\∀p,H1 p=none->Q (.ref p) (upd H1 p (.tup xs))
def tLst (t:TA):TE:=λσ H Q=>t σ H λxs H1=>xs.length<=sizeLine/\∀p,H1 p=none->Q (.ref p) (upd H1 p (.lst xs))
theorem eB {x1} (h:PA X es t):PE X (.Tuple es x1 pos) (tTup t):=by
 intro pins s σ H Q I hq;refine wpAny_Tuple_spliced (thn (h pos pins s σ H _ I hq) λus s1 ⟨xs,H1,O,r,z,q⟩=>⟨by rw[<-r.length];exact z,?_⟩);have hf:H1 s1.heap.objs.size=none:=O.hok.fresh (Q4 _);refine⟨.ref s1.heap.objs.size,upd H1 s1.heap.objs.size (.tup xs),O.laid (t':=s1.toks) (λb u e=>Heap.get?_push_of_some _ e) (Q4 _) ?_,rfl,q _ hf⟩;exact⟨z,us,r,⟨_,Heap.get?_push_size _ rfl,rfl,_,rfl⟩⟩
theorem dH (h:PA X es t):PE X (.List es pos) (tLst t):=by
 intro pins s σ H Q I hq;refine wpAny_List_spliced (thn (h pos pins s σ H _ I hq) λus s1 ⟨xs,H1,O,r,z,q⟩=>⟨by rw[<-r.length];exact z,?_⟩);have hf:H1 s1.heap.objs.size=none:=O.hok.fresh (Q4 _);refine⟨.ref s1.heap.objs.size,upd H1 s1.heap.objs.size (.lst xs),O.laid (t':=s1.toks) (λb u e=>Heap.get?_push_of_some _ e) (Q4 _) ?_,rfl,q _ hf⟩;exact⟨z,us,0,r,Heap.get?_push_size _ rfl⟩
end
abbrev Sp:=List V->Hp->VK->XK->Prop
abbrev CXT:=List Env->Hp->Shared->XK->Value->Shared->Prop
structure Env0 (P:Program) (w:World) (K:PySem.W.Frag) (mg:Str->Option Value) (base:Heap) (A:Around) (outer:List Env) (s:Shared) (H:Hp):Prop where
 frames:A.frames=some outer
 mod:Mod K mg base
 bs:∀b o,base.get? b=some o->s.heap.get? b=some o/\H b=none
 bsz:base.objs.size<=s.heap.objs.size
 funs:s.heap.FunFrames base outer
 frf:∀b∈frs outer,H b=none
 hok:HOk P w H s.heap
 bare:AllBare s.gens
def CE (outer:List Env) (P:Program) (w:World) (H:Hp) (s:Shared) (Q:VK) (u:Value) (s':Shared):Prop:=
 ∃v H',s'.os=s.os/\AllBare s'.gens/\Un (frs outer) [] H H' s.heap s'.heap/\HOk P w H' s'.heap/\RelV v u/\Q v H'
def CR (CX:CXT) (outer:List Env) (P:Program) (w:World) (H:Hp) (s:Shared) (Q:VK) (E:XK) (r:Result) (s':Shared):Prop:=
 match r with
 | .ok (.ret u)=>CE outer P w H s Q u s'
 | .ok _=>False
 | .error e=>CX outer H s E e s'
structure aV (P:Program) (w:World) (K:PySem.W.Frag) (mg:Str->Option Value) (base:Heap) (CX:CXT) (k:Nat) (f:Addr) (fd:FuncData) (ps:List Str) (sp:Sp):Prop where
 len:∀vs H Q E,sp vs H Q E->vs.length=ps.length
 run:∀(A:Around) (outer:List Env) (s:Shared) (H:Hp) (args:Args) (us:List Value) (vs:List V) (Q:VK) (E:XK),Room k A->Env0 P w K mg base A outer s H->BindsTo s fd args (ps.zip us)->Vals vs us->sp vs H Q E->
  codeAny (model P w) A (.call (.ref f) args) (CR CX outer P w H s Q E) s
theorem Env0.make {mg:Str->Option Value} (e:Env0 P w K mg base A outer s H) (C:Addr) (us:List Value) (kw:List (Str×Value)):
  Env0 P w K mg base (A.under (.builtin "type.__call__" ⟨.ref C::us,kw⟩)) outer s H:=⟨by first|exact e.frames|(simpa[Around.under,Code.envs,Code.isFrame,pushEnvs]using e.frames),e.mod,e.bs,e.bsz,e.funs,e.frf,e.hok,e.bare⟩
section
theorem Inv.env0 (I:Inv X pins σ H s):Env0 X.prog X.w X.K X.mg X.base X.A X.stack s H:=
 ⟨I.ok.frames,I.ok.mod,I.bs,QL I.ok.bsz I.sz,I.stack,I.stkFree,I.hok,I.bare⟩
theorem Inv.after {Q:VK} (I:Inv X pins σ H s) (h:CE X.stack X.prog X.w H s Q u s'):EP X pins σ Q u s':=by
 obtain⟨v,H',os,bare,un,hok,r,q⟩:=h;obtain⟨U,g,d,t,O⟩:=s';obtain rfl:O=s.os:=os;exact⟨v,H',I.call (h':=U) (g':=g) (d':=d) (t':=t) (ch:=[]) un hok bare (λb z=>absurd z (by simp)),r,q⟩
end
def Gq (sp:Sp) (dvs:List V) (E:XK) (t:TA):TE:=λσ H Q=>t σ H λvs H1=>sp (vs++dvs) H1 Q E
inductive GZ (C:Addr) (m:Str) (sp:Sp) (dvs:List V) (E:XK) (t:TA) (σ:St) (Q:VK) (x:V) (H1:Hp):Prop
 |mk (a dx fs:_) (_:x= .ref a) (_:H1 a=some (.ins C dx fs)) (_:fs.lookup m=none) (_:t σ H1 λvs H2=>sp (x::(vs++dvs)) H2 Q E)
def Go (C:Addr) (m:Str) (sp:Sp) (dvs:List V) (E:XK) (ta:TE) (t:TA):TE:=λσ H Q=>ta σ H λx H1=>GZ C m sp dvs E t σ Q x H1
def Gp (C:Addr) (sp:Sp) (dvs:List V) (E:XK) (t:TA):TE:=λσ H Q=>t σ H λvs H1=>∀x dx,H1 x=none->H1 dx=none->dx≠x->
 sp (.ref x::(vs++dvs)) (upd (upd H1 dx (.own x)) x (.ins C dx [])) (λv H2=>v= .non/\Q (.ref x) H2) E
def Binds (K:PySem.W.Frag) (fd:FuncData) (ps:List Str) (ds:List Value):Prop:=
 ∀(s:Shared) (us:List Value),K.In s.heap->(us++ds).length=ps.length->BindsTo s fd ⟨us,[]⟩ (ps.zip (us++ds))
theorem Binds.all (h:∀us:List Value,us.length=ps.length->bindArgs fd ⟨us,[]⟩=pure (ps.zip us)):Binds K fd ps []:=λs us _ hl=>by
 rw[Xg]at hl⊢;exact .of_eq (h us hl)
def eL (CX:CXT) (X:Cx) (E:XK):Prop:=∀(pins:List (Addr×Obj)) (σ:St) (H:Hp) (s:Shared) (e:Value) (s':Shared),Inv X pins σ H s->CX X.stack H s E e s'->X.xe e s'
section
variable {k:Nat} {f:Addr} {dvs:List V} {ds:List Value} {E:XK} {apos:Pos} {o:Expr} {t:TA}
theorem wB {Q:VK} (F:aV X.prog X.w X.K X.mg X.base CX k f fd ps sp) (O:Room k X.A) (hb:Binds X.K fd ps ds) (hd:Vals dvs ds) (hx:eL CX X E)
  (I:Inv X pins σ H s) (r:Vals vs us) (h:sp (vs++dvs) H Q E):wpAny (model X.prog X.w) X.A (call (.ref f) us) (EP X pins σ Q) X.xe s:=by
 have z:Vals (vs++dvs) (us++ds):=r.append hd;have hl:(us++ds).length=ps.length:=by rw[<-z.length];exact F.len _ _ _ _ h
 refine wpAny_call (codeAny_mono (F.run X.A X.stack s H ⟨us,[]⟩ (us++ds) (vs++dvs) Q E O I.env0 (hb s us I.kIn hl) z h) λr s' hq=>?_);cases r with
 |error e=>exact hx pins σ H s e s' I hq
 |ok fl=>
  cases fl with
  |ret u=>exact I.after hq
  |next=>exact False.elim hq
  |brk=>exact False.elim hq
  |cont=>exact False.elim hq
theorem aQ (F:aV X.prog X.w X.K X.mg X.base CX k f fd ps sp) (Y:Room k X.A) (Z:Gl X x) (hm:X.mg x=some (.ref f)) (hk:PySem.W.keepIn X.K (.ref f)=true) (hb:Binds X.K fd ps ds) (hd:Vals dvs ds) (hx:eL CX X E)
  (ha:PA X (e::es) t) (z:(x==("__debug__":Str))=false:=by decide) (he:starEach (e::es) X.env=(false,eval e X.env)::starEach es X.env:=by rfl) (O:(backTo pos (starEach es X.env)).any (·.1)=false:=by rfl):
  PE X (.Call (.Name x p) (e::es) [] pos) (Gq sp dvs E t):=by
 intro pins s σ H Q I h;refine wpAny_Call_Name_kw (gR I Z hm ?_ z);refine Zu (h₀:=X.base) I.ok.mod.kin hk (thn (ha pos pins s σ H _ I h) λus s1 ⟨vs,H1,U,r,q⟩=>⟨U.kIn,?_⟩) he O;exact wB F Y hb hd hx U r q
theorem aK {pl:Sem Bool} (he:PE X o ta) (c:Cls X.K C) (Y:bS X.K C m f) (F:aV X.prog X.w X.K X.mg X.base CX k f fd ps sp) (hr:Room k X.A) (hb:Binds X.K fd ps ds) (hd:Vals dvs ds) (hx:eL CX X E) (ha:PA X (e::es) t)
  (z:starEach (e::es) X.env=(false,eval e X.env)::starEach es X.env:=by rfl) (O:(backTo pos (starEach es X.env)).any (·.1)=false:=by rfl)
  (ht:eval (.Call (.Attribute o m apos) (e::es) [] pos) X.env=(do
   let ov<-eval o X.env
   standAt apos.atName
   let(f,first)<-holding [ov] (getMethod ov m pl)
   callWith pos f first (backTo pos (starEach (e::es) X.env)) (backToKw pos (keywordEach [] X.env))):=by rfl):
  PE X (.Call (.Attribute o m apos) (e::es) [] pos) (Go C m sp dvs E ta t):=by
 intro pins s σ H Q I h;refine ZT (pl:=pl) (thn (he pins s σ H _ I h) λu s1 U=>?_) ht;obtain⟨x,H1,Z,rx,a,dx,fs,ex,ea,l,q⟩:=U;subst ex;obtain rfl:u=Value.ref a:=rx;refine tw Z ea c Y l ?_;refine Zu (first:=[.ref a]) (h₀:=X.base) I.ok.mod.kin Y.kp (thn (ha pos pins s1 σ H1 _ Z q) λus s2 ⟨vs,H2,I2,r,q2⟩=>⟨I2.kIn,?_⟩) z O;exact wB (us:= .ref a::us) (vs:= .ref a::vs) F hr hb hd hx I2 (.cons rfl r) q2
theorem bq {pl:Sem Bool} (he:PE X o ta) (c:Cls X.K C) (U:bS X.K C m f) (F:aV X.prog X.w X.K X.mg X.base CX k f fd ps sp) (Y:Room k X.A) (hb:Binds X.K fd ps ds) (hd:Vals dvs ds) (hx:eL CX X E)
  (Z:eval (.Call (.Attribute o m apos) [] [] pos) X.env=(do
   let ov<-eval o X.env
   standAt apos.atName
   let(f,first)<-holding [ov] (getMethod ov m pl)
   callWith pos f first (backTo pos (starEach [] X.env)) (backToKw pos (keywordEach [] X.env))):=by rfl):
  PE X (.Call (.Attribute o m apos) [] [] pos) (Go C m sp dvs E ta C4):=by
 intro pins s σ H Q I h;refine ZT (pl:=pl) (thn (he pins s σ H _ I h) λu s1 z=>?_) Z;obtain⟨x,H1,O,rx,a,dx,fs,ex,ea,l,q⟩:=z;subst ex;obtain rfl:u=Value.ref a:=rx;refine tw O ea c U l ?_;exact PySem.W.callWith_K0 (first:=[.ref a]) O.kIn U.kp (wB (us:=[.ref a]) (vs:=[.ref a]) F Y hb hd hx O (.cons rfl .nil) q)
structure Mk (K:PySem.W.Frag) (C f:Addr):Prop where
 makes:PySem.W.makesIn K C=true
 init:PySem.W.findIn K (.ref C) "__init__"=some (some (.ref f))
 fn:PySem.W.isFn K (.ref f)=true
 kp:PySem.W.keepIn K (.ref C)=true
theorem yb {Q:VK} (M:Mk X.K C f) (F:aV X.prog X.w X.K X.mg X.base CX k f fd ps sp) (Y:Room (k+1) X.A) (hb:Binds X.K fd ps ds) (hd:Vals dvs ds)
  (hx:eL CX X E) (I:Inv X pins σ H s) (r:Vals vs us)
  (h:∀x dx,H x=none->H dx=none->dx≠x->sp (.ref x::(vs++dvs)) (upd (upd H dx (.own x)) x (.ins C dx [])) (λv H2=>v= .non/\Q (.ref x) H2) E):
  wpAny (model X.prog X.w) X.A (call (.ref C) us) (EP X pins σ Q) X.xe s:=by
 have hq:=h (s.heap.objs.size+1) s.heap.objs.size (I.hok.fresh (Zg _)) (I.hok.fresh (Q4 _)) (Qx (XS _));have O:=Inv.made (C:=C) I;have U:Vals (V.ref (s.heap.objs.size+1)::(vs++dvs)) (Value.ref (s.heap.objs.size+1)::(us++ds)):= .cons rfl (r.append hd);have hl:(Value.ref (s.heap.objs.size+1)::us++ds).length=ps.length:=by
  have e:=U.length;rw[F.len _ _ _ _ hq]at e;exact e.symm
 refine wpAny_call (DK (f:=f) I.kIn M.makes M.init (beq_iff_eq.mp M.fn) (codeAny_mono (F.run _ X.stack _ _ ⟨Value.ref (s.heap.objs.size+1)::us,[]⟩ (Value.ref (s.heap.objs.size+1)::(us++ds)) _ _ E (Y.make C us [])
  (O.env0.make C us []) (hb _ (Value.ref (s.heap.objs.size+1)::us) O.kIn hl) U hq) λr s' z=>?_))
 cases r with
 |error e=>exact hx pins σ _ _ e s' O z
 |ok fl=>
  cases fl with
  |ret u=>
   obtain⟨v,H',Z,rv,ev,q3⟩:=O.after z;subst ev;exact⟨rv,⟨V.ref (s.heap.objs.size+1),H',Z,rfl,q3⟩⟩
  |next=>exact False.elim z
  |brk=>exact False.elim z
  |cont=>exact False.elim z
theorem Fx (M:Mk X.K C f) (F:aV X.prog X.w X.K X.mg X.base CX k f fd ps sp) (Y:Room (k+1) X.A) (Z:Gl X x) (hm:X.mg x=some (.ref C)) (hb:Binds X.K fd ps ds) (hd:Vals dvs ds) (hx:eL CX X E)
  (ha:PA X (e::es) t) (z:(x==("__debug__":Str))=false:=by decide) (he:starEach (e::es) X.env=(false,eval e X.env)::starEach es X.env:=by rfl) (O:(backTo pos (starEach es X.env)).any (·.1)=false:=by rfl):
  PE X (.Call (.Name x p) (e::es) [] pos) (Gp C sp dvs E t):=by
 intro pins s σ H Q I h;refine wpAny_Call_Name_kw (gR I Z hm ?_ z);refine Zu (h₀:=X.base) I.ok.mod.kin M.kp (thn (ha pos pins s σ H _ I h) λus s1 ⟨vs,H1,U,r,q⟩=>⟨U.kIn,?_⟩) he O;exact yb M F Y hb hd hx U r q
theorem eU (M:Mk X.K C f) (F:aV X.prog X.w X.K X.mg X.base CX k f fd ps sp) (O:Room (k+1) X.A) (U:Gl X x) (Y:X.mg x=some (.ref C)) (hb:Binds X.K fd ps ds) (hd:Vals dvs ds) (hx:eL CX X E)
  (z:(x==("__debug__":Str))=false:=by decide):PE X (.Call (.Name x p) [] [] pos) (Gp C sp dvs E C4):=by
 intro pins s σ H Q I h;refine wpAny_Call_Name_kw (gR I U Y ?_ z);exact PySem.W.callWith_K0 I.kIn M.kp (yb (us:=[]) M F O hb hd hx I .nil h)
end
structure ar (N P:List Str) (sc:Scope):Prop where
 kind:sc.kind= .function
 co:sc.isCoroutine=false
 gen:sc.isGenerator=false
 nd:N.Nodup
 pre:N.take P.length=P
 par:∀x∈P,sc.names.lookup x=some .local\/sc.names.lookup x=some .cell
 nofree:∀y∈sc.names,y.2≠ .free
theorem vO {kindOf:Str->Option NameKind} {x:Str}:∀{z:List (Str×Value)} {m:Str->Option Value},(∀v,(x,v)∉z)->bindL kindOf z m x=m x
 | [],_,_=>rfl
 |(n,v)::r,m,h=>by
  unfold bindL;rw[vO λw hw=>h w (Q8 _ hw)];split
  .have:x≠n:=by rintro rfl;exact h v Q6
   simp[this]
  .rfl
theorem vQ {kindOf:Str->Option NameKind} {x:Str}:∀{z:List (Str×Value)} {m:Str->Option Value},(∀v,(x,v)∉z)->bindC kindOf z m x=m x
 | [],_,_=>rfl
 |(n,v)::r,m,h=>by
  unfold bindC;rw[vQ λw hw=>h w (Q8 _ hw)];split
  .rfl
  .have:x≠n:=by rintro rfl;exact h v Q6
   simp[this]
theorem vP {kindOf:Str->Option NameKind} {x:Str} {v:Value}:∀{P:List Str} {vs:List Value} {i:Nat} {m:Str->Option Value},P.Nodup->P[i]?=some x->vs[i]?=some v->kindOf x=some .local->
  bindL kindOf (P.zip vs) m x=some v
 | [],_,_,_,_,h,_,_=>by simp at h
 |_::_,[],_,_,_,_,h,_=>by simp at h
 |p::P,w::vs,0,m,nd,h1,h2,hk=>by
  simp at h1 h2;subst h1;subst h2;show bindL kindOf ((p,w)::P.zip vs) m p=_;unfold bindL;rw[vO λv z=>(QN.mp nd).1 (Xh z).1,if_pos hk];simp
 |p::P,w::vs,i+1,m,nd,h1,h2,hk=>by
  show bindL kindOf ((p,w)::P.zip vs) m x=_;unfold bindL;exact vP (i:=i) (QN.mp nd).2 (by simpa using h1) (by simpa using h2) hk
theorem vR {kindOf:Str->Option NameKind} {x:Str} {v:Value}:∀{P:List Str} {vs:List Value} {i:Nat} {m:Str->Option Value},P.Nodup->P[i]?=some x->vs[i]?=some v->kindOf x≠some .local->
  bindC kindOf (P.zip vs) m x=some v
 | [],_,_,_,_,h,_,_=>by simp at h
 |_::_,[],_,_,_,_,h,_=>by simp at h
 |p::P,w::vs,0,m,nd,h1,h2,hk=>by
  simp at h1 h2;subst h1;subst h2;show bindC kindOf ((p,w)::P.zip vs) m p=_;unfold bindC;rw[vQ λv z=>(QN.mp nd).1 (Xh z).1,if_neg hk];simp
 |p::P,w::vs,i+1,m,nd,h1,h2,hk=>by
  show bindC kindOf ((p,w)::P.zip vs) m x=_;unfold bindC;exact vR (i:=i) (QN.mp nd).2 (by simpa using h1) (by simpa using h2) hk
def start (N:List Str) (vs:List V):St:=vs.map some++List.replicate (N.length-vs.length) none
def ot (CX:CXT) (P:Program) (w:World) (K:PySem.W.Frag) (mg:Str->Option Value) (base:Heap) (N:List Str) (qual:Str) (scope:Scope) (f:Addr) (cd:Value) (A:Around) (outer:List Env) (s:Shared) (H:Hp) (E:XK):Cx where
 prog:=P
 w:=w
 K:=K
 mg:=mg
 base:=base
 A:=A.deeper (envOfC qual scope s.heap.objs.size f cd)
 N:=N
 s₀:=s
 H₀:=H
 env:=envOfC qual scope s.heap.objs.size f cd
 outer:=outer
 stack:=envOfC qual scope s.heap.objs.size f cd::outer
 ex:=[]
 calm:=true
 fn:=λ_=>true
 pn:=[]
 xe:=λe s'=>wpAny (model P w) (A.deeper (envOfC qual scope s.heap.objs.size f cd)) (leaving (envOfC qual scope s.heap.objs.size f cd) e) (λ_ s''=>CX outer H s E e s'') (λe' s''=>CX outer H s E e' s'') s'
theorem yW {sc:Scope} (h:sc.names.lookup x=some .cell):∃c,(cellsFrom n sc.names []).lookup x=some c:=by
 have q:=PySem.W.cellsFrom_some sc.names n [] (.inl h);exact X9.mp q
theorem Cm {mg:Str->Option Value} {f:Addr} {cd:Value} {s1:Shared} {E:XK} 
  (S:ar N ps scope) (hd:A.handled=none) (e0:Env0 P w K mg base A outer s H) (hl:vs.length=ps.length) (r:Vals vs us)
  (x:InCallC s s.heap.objs.size (bindL (envOfC qual scope s.heap.objs.size f cd).kindOf (ps.zip us) λ_=>none) (cellsFrom (s.heap.objs.size+1) scope.names []) (bindC (envOfC qual scope s.heap.objs.size f cd).kindOf (ps.zip us) λ_=>none) s1):
  Inv (ot CX P w K mg base N qual scope f cd A outer s H E) [] (start N vs) H s1:=by
 have U:ps.length<=N.length:=by have:=congrArg List.length S.pre;rw[Qe]at this;lia
 obtain⟨h1,tk,rfl,hk⟩:=x.done;have I:∀b:Addr,b∉(ot CX P w K mg base N qual scope f cd A outer s H E).ex:=λb z=>absurd (show b∈([]:List Addr) from z) (by simp);refine⟨⟨e0.mod,S.kind,rfl,rfl,Q4 _,λy z c h1 h2=>?_,λy hy=>?_,λy c _ h=>?_,λ_=>hd,Around.frames_deeper e0.frames,.inr ⟨rfl,rfl⟩,λb z=>absurd z (I b),e0.bs,e0.bsz,λb _ _=>I b,λb z=>absurd z (I b),e0.funs,e0.frf⟩,
  rfl,e0.bare,Un.kept hk,⟨_,x.toInCall.ns,λi y v h1 h2 Y=>?_⟩,λy c h=>⟨_,x.cell y c h⟩,e0.hok.fresh (Q4 _),λy c h=>?_,λp hp=>absurd (show p∈([]:List (Addr×Obj)) from hp) (by simp),e0.hok.kept hk,?_⟩
 .exact name_of_addr x.apart (PySem.mem_of_lookup h1) (PySem.mem_of_lookup h2)
 .have hy:scope.names.lookup y=some .cell\/scope.names.lookup y=some .free:=hy;rcases hy with hy|hy
  .exact yW hy
  .exact absurd rfl (S.nofree _ (PySem.mem_of_lookup hy))
 .exact Zd (x.above y c (PySem.mem_of_lookup h))
 .have hi:i<vs.length:=by
   unfold start at h2;by_cases hi:i<vs.length
   .exact hi
   .rw[QU (by simpa using hi)]at h2;rw[List.getElem?_replicate]at h2;split at h2<;>cases h2
  have ha:vs[i]?=some v:=by
   unfold start at h2;rw[QW (by simpa using hi),Qc]at h2;cases e:vs[i]? with
   |none=>rw[e]at h2;cases h2
   |some a=>rw[e]at h2;cases h2;rfl
  obtain⟨u,hu,rv⟩:=r.get ha;have hp:ps[i]?=some y:=by
   rw[<-S.pre,List.getElem?_take_of_lt (by lia)];exact h1
  have O:ps.Nodup:=by rw[<-S.pre];exact S.nd.sublist (XD _ _)
  refine⟨u,rv,?_⟩;rcases S.par y (Q1 hp)with k|k
  .exact .inl ⟨k,vP O hp hu k⟩
  .obtain⟨c,e⟩:=yW (n:=s.heap.objs.size+1) k;refine .inr ⟨.inl k,c,e,?_⟩;have q:=x.cell y c e;rw[vR O hp hu (by show scope.names.lookup y≠_;rw[k];decide)]at q;exact q
 .exact e0.hok.fresh (Zd (x.above y c (PySem.mem_of_lookup h)))
 .unfold start;show _=N.length;rw[Qd,Q0,Zm];lia
theorem AY {mg:Str->Option Value} {k:Nat} {f:Addr} {O:Arguments} {dV kV a0 pm z ct oc:Value} {an od:Option Addr}
  {a2:Array (Option Value)} (lk:K.lookup f=some ⟨oc,od,.func (PySem.W.fnOf name qual O body scope dV kV a0 pm an z ct),a2⟩) (a3:PySem.W.codeIn K z qual=true) (S:ar N ps scope)
  (len:∀vs H Q E,sp vs H Q E->vs.length=ps.length)
  (Y:∀(A:Around) (outer:List Env) (s:Shared) (H:Hp) (vs:List V) (Q:VK) (E:XK),Room k (A.deeper (envOfC qual scope s.heap.objs.size f z))->sp vs H Q E->
   ∃t,PSs (ot CX P w K mg base N qual scope f z A outer s H E) body t/\t {nx:=λ_ H'=>Q .non H',rt:=Q} (start N vs) H):
  aV P w K mg base CX (k+1) f (PySem.W.fnOf name qual O body scope dV kV a0 pm an z ct) ps sp:=by
 refine⟨len,λA outer s H args us vs Q E hr e0 hb r a1=>?_⟩;have hl:=len _ _ _ _ a1;have KX:K.In s.heap:=e0.mod.kin.keeps λb o e=>(e0.bs b o e).1;have a4:s.heap.NoLimit:=e0.mod.nolimit.keeps λb o e=>(e0.bs b o e).1;have Z:∀y∈ps.zip us,scope.names.lookup y.1=some .local\/(scope.names.lookup y.1=some .cell/\((cellsFrom (s.heap.objs.size+1) scope.names []).lookup y.1).isSome=true):=λ⟨n,v⟩ hy=>by
  rcases S.par n (Xh hy).1 with q|q
  .exact .inl q
  .exact .inr ⟨q,PySem.W.cellsFrom_some _ _ _ (.inl q)⟩
 refine codeAny_call_function hr.depth (KX _ _ lk) rfl S.co S.gen rfl (PySem.W.codeRec_of KX a3) (hb _ _ _ _ ?_);refine wpAny_newFunctionEnv_cells S.kind Z λenv he s1 x=>?_;subst he;refine⟨a4.keeps x.toInCall.keep,codeAny_func ?_⟩;obtain⟨t,ht,hq⟩:=Y A outer s H vs Q E (hr.deeper _) a1;have I:Inv (ot CX P w K mg base N qual scope f z A outer s H E) [] (start N vs) H s1:=Cm S hr.hd e0 hl r x;refine wpAny_mono (ht [] s1 (start N vs) H _ I hq) (λfl s' hs=>?_) λe s' hs=>hs;have fin:∀{U:St} {H':Hp} {v:V} {u:Value},Inv (ot CX P w K mg base N qual scope f z A outer s H E) [] U H' s'->RelV v u->Q v H'->CE outer P w H s Q u s':=
  λ{U H' v u} J rv q=>⟨v,H',J.os,J.bare,J.base,J.hok,rv,q⟩
 cases fl with
 |ret u=>
  obtain⟨v,U,H',J,rv,q⟩:=hs;exact fin J rv q
 |next=>
  obtain⟨U,H',J,q⟩:=hs;exact fin (v:=V.non) (u:=Value.none) J rfl q
 |brk=>
  obtain⟨_,_,_,q⟩:=hs;exact False.elim q
 |cont=>
  obtain⟨_,_,_,q⟩:=hs;exact False.elim q
end
section
section
variable {t:TA} {id T:String} {r:List V->Hp->VK->Prop}
def tCB (r:List V->Hp->VK->Prop) (t:TA):TE:=λσ H Q=>t σ H λvs H1=>r vs H1 Q
theorem av (hc:dw X (.builtin id) r) (U:Gl X x) (Y:X.mg x=none) (Z:bootBuiltins x=some (.builtin id)) (ha:PA X (e::es) t) (hn:x≠"__name__":=by decide) (z:(x==("__debug__":Str))=false:=by decide)
  (he:starEach (e::es) X.env=(false,eval e X.env)::starEach es X.env:=by rfl) (O:(backTo pos (starEach es X.env)).any (·.1)=false:=by rfl):PE X (.Call (.Name x p) (e::es) [] pos) (tCB r t):=by
 intro pins s σ H Q I h;refine wpAny_Call_Name_kw (pH I U Y Z ?_ hn z);exact PyProof.Rows.callWith_builtin1 (thn (ha pos pins s σ H _ I h) λus s1 ⟨vs,H1,I1,r1,q1⟩=>hc pins s1 σ H1 vs us Q I1 r1 q1) he O
theorem kW (hc:dw X (.type T) r) (U:Gl X x) (Y:X.mg x=none) (Z:bootBuiltins x=some (.type T)) (ha:PA X (e::es) t) (hn:x≠"__name__":=by decide) (z:(x==("__debug__":Str))=false:=by decide)
  (he:starEach (e::es) X.env=(false,eval e X.env)::starEach es X.env:=by rfl) (O:(backTo pos (starEach es X.env)).any (·.1)=false:=by rfl):PE X (.Call (.Name x p) (e::es) [] pos) (tCB r t):=by
 intro pins s σ H Q I h;refine wpAny_Call_Name_kw (pH I U Y Z ?_ hn z);exact PyProof.Rows.callWith_type1 (thn (ha pos pins s σ H _ I h) λus s1 ⟨vs,H1,I1,r1,q1⟩=>hc pins s1 σ H1 vs us Q I1 r1 q1) he O
end
end
end L2
namespace HT
open PySem PyProof.Rows
variable {E:Value->Shared->Prop}
def lexLt:List Int->List Int->Bool
 | [],[]=>false
 | [],_::_=>true
 |_::_,[]=>false
 |x::xs,y::ys=>if x=y then lexLt xs ys else decide (x<y)
theorem lexLt_cons (x y:Int) (xs ys:List Int):lexLt (x::xs) (y::ys)=if x=y then lexLt xs ys else decide (x<y):=rfl
theorem lexLt_nil_nil:lexLt [] []=false:=rfl
theorem lexLt_nil_cons (y:Int) (ys:List Int):lexLt [] (y::ys)=true:=rfl
theorem lexLt_cons_nil (x:Int) (xs:List Int):lexLt (x::xs) []=false:=rfl
section
variable {prog:Program} {w:World} {A:Around} {s:Shared}
def sIx (n d:Nat):Option Int->Nat
 |none=>d
 |some v=>if v<0 then(v+(n:Int)).toNat else min v.toNat n
end
end HT
namespace L2
open PySem PySem.Spec PyProof.Rows
variable {a b:Addr} {A:Around} {X:Cx} {e:Expr} {h':Heap} {H H':Hp} {i:Int} {pins:List (Addr×Obj)} {kvs:List (Key×V)} {vs:List (Key×Value)} {its its':List Value} {j n t':Nat} {o:Option V} {pos:Pos} {P:Program} {s:Shared} {σ:St} {T:String} {α:Type} {v x y:V} {u:Value} {E Q:Value->Shared->Prop} {w:World}
section
abbrev TO:=St->Hp->(Option Int->Hp->Prop)->Prop
def PO (X:Cx) (e:Option Expr) (t:TO):Prop:=
 ∀(pins:List (Addr×Obj)) (s:Shared) (σ:St) (H:Hp) (Q:Option Int->Hp->Prop),Inv X pins σ H s->t σ H Q->
  wpAny (model X.prog X.w) X.A (evalPart e X.env) (λu s'=>∃o H',Inv X pins σ H' s'/\IsPart u o/\Q o H') X.xe s
def E9:TO:=λ_ H Q=>Q none H
inductive GY (Q:Option Int->Hp->Prop) (x:V) (H1:Hp):Prop
 |mk (i:_) (_:x= .int i) (_:Q (some i) H1)
def Ix (t:TE):TO:=λσ H Q=>t σ H λx H1=>GY Q x H1
theorem sZ {ns:List Int}:∀{us:List Value},Vals (ns.map V.int) us->IntsAre us ns:=by
 induction ns with
 |nil=>intro us r;rw[XE]at r;cases r;exact .nil
 |cons n ns z=>
  intro us r;rw[Qo]at r;cases r with
  |cons r1 I=>
   obtain⟨t,e⟩:=r1;subst e;exact .cons n t (z I)
section
variable {te:TE} {lo hi:Option Expr} {tl th:TO} {p2:Pos}
theorem fB:PO X none E9:=by
 intro pins s σ H Q I h;rw[evalPart_none];exact wpAny_pure ⟨none,H,I,.none,h⟩
theorem fA (h:PE X e te):PO X (some e) (Ix te):=by
 intro pins s σ H Q I hw;rw[evalPart_some];refine thn (h pins s σ H _ I hw) λu s1 z=>?_;obtain⟨x,H1,O,r1,U⟩:=z;obtain⟨i,rfl,q⟩:=U;obtain⟨t,rfl⟩:=r1;exact⟨some i,H1,O,.int i t,q⟩
def SlR (X:Cx) (r:V->Option Int->Option Int->Hp->VK->Prop):Prop:=
 ∀(pins:List (Addr×Obj)) (s:Shared) (σ:St) (H:Hp) (x:V) (v vl vu:Value) (lo hi:Option Int) (sl:Addr) (Q:VK),Inv X pins σ H s->RelV x v->s.heap.IsSliceOf sl vl vu .none->IsPart vl lo->IsPart vu hi->r x lo hi H Q->
  ∃T id,typeLookup (.type T) "__getitem__"=pure (some (.builtin id))/\s.TypeIs v T/\wpAny (model X.prog X.w) X.A (getItem v (.ref sl)) (EP X pins σ Q) X.xe s
def tSl (r:V->Option Int->Option Int->Hp->VK->Prop) (te:TE) (tl th:TO):TE:=λσ H Q=>te σ H λx H1=>tl σ H1 λl H2=>th σ H2 λu H3=>r x l u H3 Q
theorem dG {r:V->Option Int->Option Int->Hp->VK->Prop} (Y:SlR X r) (he:PE X e te) (hl:PO X lo tl) (hu:PO X hi th):PE X (.Subscript e (.Slice lo hi none p2) pos) (tSl r te tl th):=by
 intro pins s σ H Q I h;refine Subscript_ (thn (he pins s σ H _ I h) λv s1 z=>?_);obtain⟨x,H1,Z,r1,q1⟩:=z;refine wpAny_Slice (thn (hl pins s1 σ H1 _ Z q1) λO s2 ⟨l,H2,I2,pl,q2⟩=>thn (hu pins s2 σ H2 _ I2 q2) λU s3 z=>?_);obtain⟨u,H3,I3,pu,q3⟩:=z;rw[evalPart_none];refine wpAny_pure ?_;have I4:Inv X pins σ H3 {s3 with heap:=s3.heap.push {cls:= .type "slice",data:= .fields #[O,U,.none]}}:=I3.kept (t':=s3.toks) λb ob q=>Heap.get?_push_of_some _ q;obtain⟨T,id,hT,ht,hg⟩:=Y pins {s3 with heap:=s3.heap.push {cls:= .type "slice",data:= .fields #[O,U,.none]}} σ H3 x v O U l u s3.heap.objs.size Q I4 r1 (Heap.IsSliceOf.new ..) pl pu q3;show wpAny (model X.prog X.w) X.A (subscriptTail e (.Slice lo hi none p2) v (.ref s3.heap.objs.size)) (EP X pins σ Q) X.xe {s3 with heap:=s3.heap.push {cls:= .type "slice",data:= .fields #[O,U,.none]}};exact tail_any (ops:=[.ref s3.heap.objs.size,v]) ht hT hg (by with_unfolding_all rfl)
def ox (xs:List V) (lo hi:Option Int):List V:=(xs.drop (HT.sIx xs.length 0 lo)).take (HT.sIx xs.length xs.length hi-HT.sIx xs.length 0 lo)
theorem yV (xs:List V) (lo hi:Option Int):(ox xs lo hi).length<=xs.length:=by
 unfold ox;rw[Qe,QD];lia
end
end
section
def ixN (n:Nat) (i:Int):Option Nat:=if 0<=i then(if i<n then some i.toNat else none)else if-(n:Int)<=i then some (i+n).toNat else none
def atI {α:Type} (xs:List α) (i:Int):Option α:=(ixN xs.length i).bind λj=>xs[j]?
theorem AT (h:ixN n i=some j):seqIndex? i n=some j/\j<n/\-(n:Int)<=i/\i<n:=by
 unfold ixN at h;by_cases z:0<=i
 .rw[if_pos z]at h;by_cases h1:i<n
  .rw[if_pos h1]at h;have e:i.toNat=j:=Option.some.inj h;exact⟨by rw[seqIndex_of z h1,e],by lia,by lia,h1⟩
  .rw[if_neg h1]at h;cases h
 .rw[if_neg z]at h;by_cases h1: -(n:Int)<=i
  .rw[if_pos h1]at h;have e:(i+n).toNat=j:=Option.some.inj h;exact⟨by rw[seqIndex_neg (by lia) h1,e],by lia,h1,by lia⟩
  .rw[if_neg h1]at h;cases h
theorem Bn {xs:List α} {v:α} (h:atI xs i=some v):∃j,seqIndex? i xs.length=some j/\xs[j]?=some v/\j<xs.length/\-(xs.length:Int)<=i/\i<xs.length:=by
 unfold atI at h;cases e:ixN xs.length i with
 |none=>rw[e]at h;cases h
 |some j=>
  rw[e]at h;obtain⟨h1,h2,z,I⟩:=AT e;exact⟨j,h1,h,h2,z,I⟩
theorem xD {xs:List α} {v:α} (h:xs[j]?=some v):atI xs (j:Int)=some v:=by
 have z:j<xs.length:=(Q2.mp h).1;have e:ixN xs.length (j:Int)=some j:=by
  unfold ixN;rw[if_pos (by lia),if_pos (by lia)];simp
 unfold atI;rw[e];exact h
def Ga (b:Expr):Prop:=∀o i,subscripted b false o i=operate [o,i] (getItem o i)
def IxR (X:Cx) (r:R2):Prop:=
 ∀(value slice:Expr) (pins:List (Addr×Obj)) (s:Shared) (σ:St) (H:Hp) (x y:V) (v u:Value) (Q:VK),Inv X pins σ H s->RelV x v->RelV y u->r x y H Q->
  subscripted slice false v u=operate [v,u] (getItem v u)->wpAny (model X.prog X.w) X.A (subscriptTail value slice v u) (EP X pins σ Q) X.xe s
def MtR (X:Cx) (id:String) (r:V->List V->Hp->VK->Prop):Prop:=
 ∀(pins:List (Addr×Obj)) (s:Shared) (σ:St) (H:Hp) (x:V) (xs:List V) (v:Value) (us:List Value) (Q:VK),Inv X pins σ H s->RelV x v->Vals xs us->r x xs H Q->
  wpAny (model X.prog X.w) X.A (call (.builtin id) (v::us)) (EP X pins σ Q) X.xe s
section
variable {a b:Expr} {ta tb:TE}
theorem bf {r:R2} (z:IxR X r) (ha:PE X a ta) (hb:PE X b tb) (O:Ga b):PE X (.Subscript a b pos) (tOp r ta tb):=by
 intro pins s σ H Q I h;exact Subscript_ (Ia ha hb I h λv u U x y H2 Y Z ry q=>z a b pins U σ H2 x y v u Q Y Z ry q (O _ _))
inductive rIxL (K:PySem.W.Frag) (x y:V) (H:Hp) (Q:VK):Prop
 |mk (p xs i v:_) (_:x= .ref p) (_:y= .int i) (_:SqL K H p xs) (_:atI xs i=some v) (_:Q v H)
inductive rIxT (K:PySem.W.Frag) (x y:V) (H:Hp) (Q:VK):Prop
 |mk (p xs i v:_) (_:x= .ref p) (_:y= .int i) (_:SqT K H p xs) (_:atI xs i=some v) (_:Q v H)
theorem aX:IxR X (rIxL X.K):=by
 intro value O pins s σ H x y v u Q I rx ry h Z;obtain⟨p,xs,i,z,rfl,rfl,hq,he,q⟩:=h;cases rx;obtain⟨t,rfl⟩:=ry;obtain⟨its,r,pl,hz⟩:=I.list hq;obtain⟨j,h1,h2,h3,h4,h5⟩:=Bn he;obtain⟨w,ew,U⟩:=r.get h2;have hl:=r.length;have hn:=pF;have fin:EP X pins σ Q w s:=⟨z,H,I,U,q⟩;by_cases h0:0<=i
 .have Y:i.toNat=j:=by
   rw[seqIndex_of h0 h5]at h1;exact Option.some.inj h1
  exact item_listR pl.isList h0 (by lia) (by rw[Y];simpa using ew) fin Z
 .have Y:(i+(its.toArray.size:Int)).toNat=j:=by
   rw[seqIndex_neg (by lia) h4]at h1;rw[Qh,<-hl];exact Option.some.inj h1
  exact subscriptTail_builtinR (x:=w) pl.isList.typeIs slot_list_getitem.lookup
   (wpAny_getItem_list_neg (Q:=λr s'=>r=w/\EP X pins σ Q r s') pl.isList (by lia) (by rw[Qh]<;>lia) (by lia) (by rw[Y];simpa using ew) ⟨rfl,fin⟩) Z
theorem kA:IxR X (rIxT X.K):=by
 intro value O pins s σ H x y v u Q I Y Z h hs;obtain⟨p,xs,i,z,rfl,rfl,hq,he,q⟩:=h;cases Y;obtain⟨t,rfl⟩:=Z;obtain⟨its,r,pl,hz⟩:=I.tuple hq;obtain⟨j,h1,h2,h3,h4,h5⟩:=Bn he;obtain⟨w,ew,U⟩:=r.get h2;have hl:=r.length;have hn:=pF;have fin:EP X pins σ Q w s:=⟨z,H,I,U,q⟩;exact subscriptTail_builtinR (x:=w) pl.typeIs slot_tuple_getitem.lookup
  (getItem_tuple (j:=j) (Q:=λr s'=>r=w/\EP X pins σ Q r s') pl (by lia) (by lia) (by rw[Qh,<-hl];exact h1) (by simpa using ew) ⟨rfl,fin⟩) hs
theorem zX (its:List Value) (n j:Nat) (u:Value):Obj.mapSeq (·.setIfInBounds j u) {cls:= .type "list",data:= .seq its.toArray n}={cls:= .type "list",data:= .seq (its.set j u).toArray n}:=by
 simp[Obj.mapSeq]
theorem Inv.lst {pins:List (Addr×Obj)} {σ:St} {H:Hp} {s:Shared} {p:Addr} {xs:List V} (I:Inv X pins σ H s) (h:H p=some (.lst xs)):
  ∃(its:List Value) (n:Nat),Vals xs its/\s.heap.get? p=some {cls:= .type "list",data:= .seq its.toArray n}/\xs.length<=sizeLine:=by
 obtain⟨z,its,n,r,e⟩:=I.hok p _ h;exact⟨its,n,r,e,z⟩
theorem Inv.lstUpd {p:Addr} {xs ys:List V} {n':Nat} {f:Obj->Obj} (I:Inv X pins σ H s) (h:H p=some (.lst xs))
  (z:s.heap.get? p=some {cls:= .type "list",data:= .seq its.toArray n}) (hf:f {cls:= .type "list",data:= .seq its.toArray n}={cls:= .type "list",data:= .seq its'.toArray n'}) (r:Vals ys its') (hz:ys.length<=sizeLine) (t:Nat):
  Inv X pins σ (upd H p (.lst ys)) {s with heap:=s.heap.update p f,toks:=t}:=by
 have e:(s.heap.update p f).get? p=some {cls:= .type "list",data:= .seq its'.toArray n'}:=by
  rw[Heap.get?_update_self f z (by rw[hf]<;>rfl),hf]
 refine I.write (x:=p) (e:=p) (by rw[h];trivial) (.inl rfl) (λb u hb q=>(Heap.get?_update_other _ _ (Ne.symm hb)).trans q) ⟨_,e⟩ ?_;exact⟨hz,its',n',r,e⟩
inductive IN (o i v:V) (H:Hp) (Q:Hp->Prop):Prop
 |mk (p xs k j:_) (_:o= .ref p) (_:i= .int k) (_:H p=some (.lst xs)) (_:ixN xs.length k=some j) (_:Q (upd H p (.lst (xs.set j v))))
theorem rG:PSet X IN:=by
 intro pins s σ H o i v ov iv u Q I ro ri rv h;obtain⟨p,xs,k,j,rfl,rfl,hp,hj,q⟩:=h;cases ro;obtain⟨t,rfl⟩:=ri;obtain⟨its,n,r,z,hz⟩:=I.lst hp;obtain⟨h1,h2,O,U⟩:=AT hj;have hl:=r.length;have hn:=pF;have Y:Inv X pins σ (upd H p (.lst (xs.set j v))) {s with heap:=s.heap.update p (Obj.mapSeq (·.setIfInBounds j u))}:=
  I.lstUpd hp z (zX its n j u) (r.set rv j) (by rw[QK];exact hz) s.toks
 by_cases Z:0<=k
 .have hk:k.toNat=j:=by
   rw[seqIndex_of Z U]at h1;exact Option.some.inj h1
  exact PySem.W.ki_setAt z Z (by lia) (by rw[Qh,<-hl];exact U) (by rw[hk];exact⟨_,Y,q⟩)
 .have hk:(k+(its.toArray.size:Int)).toNat=j:=by
   rw[seqIndex_neg (by lia) O]at h1;rw[Qh,<-hl];exact Option.some.inj h1
  exact PySem.W.ki_setBack z (by lia) (by rw[Qh,<-hl];exact O) (by lia) (by rw[hk];exact⟨_,Y,q⟩)
theorem wn (lo hi:Option Int) (n:Nat):(sliceBounds lo hi none n).1=((HT.sIx n 0 lo:Nat):Int)/\(sliceBounds lo hi none n).2.1=((HT.sIx n n hi:Nat):Int)/\(sliceBounds lo hi none n).2.2=1:=by
 refine⟨?_,?_,rfl⟩
 .cases lo with
  |none=>simp[sliceBounds,HT.sIx]
  |some i=>
   simp only[sliceBounds,HT.sIx,Option.getD_none,show(1:Int)>0 by decide,if_true];by_cases h:i<0
   .simp only[h,if_true]<;>lia
   .simp only[h,if_false]<;>lia
 .cases hi with
  |none=>simp[sliceBounds,HT.sIx]
  |some i=>
   simp only[sliceBounds,HT.sIx,Option.getD_none,show(1:Int)>0 by decide,if_true];by_cases h:i<0
   .simp only[h,if_true]<;>lia
   .simp only[h,if_false]<;>lia
theorem uo (its:List Value) (lo hi:Option Int):slicePick its.toArray lo hi none=((its.drop (HT.sIx its.length 0 lo)).take (HT.sIx its.length its.length hi-HT.sIx its.length 0 lo)).toArray:=by
 obtain⟨h1,h2,z⟩:=wn lo hi its.toArray.size;unfold slicePick;rw[h1,h2,z];simp only[sliceRange_one,pick_run,Qh]<;>rfl
inductive rSlL (K:PySem.W.Frag) (x:V) (lo hi:Option Int) (H:Hp) (Q:VK):Prop
 |mk (a xs:_) (_:x= .ref a) (_:SqL K H a xs) (_:∀p,H p=none->Q (.ref p) (upd H p (.lst (ox xs lo hi))))
theorem gI:SlR X (rSlL X.K):=by
 intro pins s σ H x v vl vu lo hi sl Q I U Y pl Z h;obtain⟨a,xs,rfl,hx,q⟩:=h;cases U;obtain⟨its,r,O,hz⟩:=I.list hx;have z:=r.length;refine⟨"list",_,slot_list_getitem.lookup,O.isList.typeIs,?_⟩;refine wpAny_getItem_list_slice O.isList Y pl Z .none (by simp) ?_ (by rw[Qh]<;>lia);rw[uo,<-z];refine⟨.ref s.heap.objs.size,_,I.laid (t':=s.toks) (o:= .lst (ox xs lo hi)) (λb ob q=>Heap.get?_push_of_some _ q) (Q4 _) ?_,rfl,q _ (I.hok.fresh (Q4 _))⟩;exact⟨QL (yV xs lo hi) hz,_,0,(r.drop (HT.sIx xs.length 0 lo)).take (HT.sIx xs.length xs.length hi-HT.sIx xs.length 0 lo),Heap.get?_push_size _ rfl⟩
def oo:V->Bool
 | .non=>true
 | .bl _=>true
 | .int _=>true
 | .str _=>true
 |_=>false
def eqV:V->V->Bool
 | .non,.non=>true
 | .bl a,.bl b=>a==b
 | .bl a,.int b=>(if a then 1 else 0)==b
 | .int a,.bl b=>a==(if b then 1 else 0)
 | .int a,.int b=>a==b
 | .str a,.str b=>a==b
 |_,_=>false
theorem HV {v:Value} (I:RelV y u) (z:RelV x v) (U:oo y=true) (O:oo x=true):SeqAt.EqAt A s u v (eqV y x):=by
 cases y with
 |non=>
  cases I;cases x with
  |non=>cases z;exact SeqAt.EqAt.same _
  |bl b=>cases z;exact SeqAt.EqAt.none_bool b
  |int b=>obtain⟨t,rfl⟩:=z;exact SeqAt.EqAt.none_int b t
  |str b=>obtain⟨t,rfl⟩:=z;exact SeqAt.EqAt.none_str b t
  |_=>exact absurd (show false=true from O) Qj
 |bl a=>
  cases I;cases x with
  |non=>cases z;exact SeqAt.EqAt.bool_none a
  |bl b=>cases z;exact SeqAt.EqAt.bool_bool a b
  |int b=>obtain⟨t,rfl⟩:=z;exact SeqAt.EqAt.bool_int a b t
  |str b=>obtain⟨t,rfl⟩:=z;exact SeqAt.EqAt.bool_str a b t
  |_=>exact absurd (show false=true from O) Qj
 |int a=>
  obtain⟨t',rfl⟩:=I;cases x with
  |non=>cases z;exact SeqAt.EqAt.int_none a t'
  |bl b=>cases z;exact SeqAt.EqAt.int_bool a t' b
  |int b=>obtain⟨t,rfl⟩:=z;exact SeqAt.EqAt.int_int a t' b t
  |str b=>obtain⟨t,rfl⟩:=z;exact SeqAt.EqAt.int_str a t' b t
  |_=>exact absurd (show false=true from O) Qj
 |str a=>
  obtain⟨t',rfl⟩:=I;cases x with
  |non=>cases z;exact SeqAt.EqAt.str_none a t'
  |bl b=>cases z;exact SeqAt.EqAt.str_bool a t' b
  |int b=>obtain⟨t,rfl⟩:=z;exact SeqAt.EqAt.str_int a t' b t
  |str b=>obtain⟨t,rfl⟩:=z;exact SeqAt.EqAt.str_str a t' b t
  |_=>exact absurd (show false=true from O) Qj
 |_=>exact absurd (show false=true from U) Qj
def eqU (x:V) (u:Value):Bool:=match u with
 | .none=>eqV .non x
 | .bool b=>eqV (.bl b) x
 | .int i _=>eqV (.int i) x
 | .str z _=>eqV (.str z) x
 |_=>false
theorem D9 (r:RelV y u) (f:oo y=true):eqU x u=eqV y x:=by
 cases y with
 |non=>cases r;rfl
 |bl b=>cases r;rfl
 |int i=>obtain⟨t,rfl⟩:=r;rfl
 |str z=>obtain⟨t,rfl⟩:=r;rfl
 |_=>exact absurd (show false=true from f) Qj
theorem xF {x:V}:∀{xs:List V} {us:List Value},Vals xs us->xs.all oo=true->us.any (eqU x)=xs.any λy=>eqV y x
 |_,_,.nil,_=>rfl
 |y::xs,u::us,.cons r t,f=>by
  rw[List.all_cons,Qt]at f;rw[ZW,ZW,D9 r f.1,xF t f.2]
theorem sP {A:Around} {s:Shared} {x:V} {v:Value} (z:RelV x v) (I:oo x=true):∀{xs:List V} {us:List Value},Vals xs us->xs.all oo=true->∀u∈us,SeqAt.EqAt A s u v (eqU x u)
 |_,_,.nil,_=>λu hu=>by cases hu
 |y::xs,u::us,.cons r t,f=>λO hu=>by
  rw[List.all_cons,Qt]at f;rcases Qg.mp hu with rfl|hu
  .rw[D9 r f.1];exact HV r z f.1 I
  .exact sP z I t f.2 O hu
def inV (x:V) (xs:List V):Bool:=xs.any λy=>eqV y x
inductive rIn (K:PySem.W.Frag) (neg:Bool) (x y:V) (H:Hp) (Q:VK):Prop
 |mk (p xs:_) (_:y= .ref p) (_:(SqL K H p xs\/SqT K H p xs)) (_:oo x=true) (_:xs.all oo=true) (_:Q (.bl (if neg then !inV x xs else inV x xs)) H)
theorem BV:OpR X (compareOp .In) (rIn X.K false):=by
 intro pins s σ H x y v u Q I z U h;obtain⟨p,xs,rfl,hq,O,fs,q⟩:=h;cases U;rcases hq with hq|hq
 .obtain⟨its,r,pl,hz⟩:=I.list hq;refine SeqAt.in_listAt (eqU x) pl.isList (λw hw=>sP z O r fs w (by simpa using hw)) ⟨.bl _,H,I,rfl,?_⟩;rw[show its.toArray.any (eqU x)=its.any (eqU x) by simp,xF r fs];exact q
 .obtain⟨its,r,pl,hz⟩:=I.tuple hq;refine SeqAt.in_tupleAt (eqU x) pl (λw hw=>sP z O r fs w (by simpa using hw)) ⟨.bl _,H,I,rfl,?_⟩;rw[show its.toArray.any (eqU x)=its.any (eqU x) by simp,xF r fs];exact q
theorem aC:dw X (.builtin "len") (λxs H Q=>∃p ys,xs=[.ref p]/\(SqL X.K H p ys\/SqT X.K H p ys)/\Q (.int ys.length) H):=by
 intro pins s σ H xs us Q I r h;obtain⟨p,ys,rfl,hq,q⟩:=h;obtain⟨u,rfl,U⟩:=iS r;cases U;have Y:=pF;rcases hq with hq|hq
 .obtain⟨its,O,pl,hz⟩:=I.list hq;have z:=O.length;exact Calls.call_len_list pl.isList (by simp only[Qh]<;>lia) ⟨.int ys.length,H,I.tok _,⟨s.toks+1,by rw[Qh,z]⟩,q⟩
 .obtain⟨its,O,pl,hz⟩:=I.tuple hq;have z:=O.length;exact len_tuple pl (by simp only[Qh]<;>lia) ⟨.int ys.length,H,I.tok _,⟨s.toks+1,by rw[Qh,z]⟩,q⟩
theorem xr:dw X (.builtin "len") (λxs H Q=>∃z,xs=[.str z]/\z.length<=sizeLine/\Q (.int z.length) H):=by
 intro pins s σ H xs us Q I r h;obtain⟨z,rfl,hz,q⟩:=h;obtain⟨u,rfl,t,rfl⟩:=iS r;have O:=pF;exact len_str (by lia) ⟨.int z.length,H,I.tok _,⟨_,rfl⟩,q⟩
theorem xq:dw X (.type "list") (λxs H Q=>∃p ys,xs=[.ref p]/\(SqL X.K H p ys\/SqT X.K H p ys)/\∀l,H l=none->Q (.ref l) (upd H l (.lst ys))):=by
 intro pins s σ H xs us Q I r h;obtain⟨p,ys,rfl,hq,q⟩:=h;obtain⟨u,rfl,rx⟩:=iS r;cases rx;have fin:∀(its:List Value),Vals ys its->ys.length<=sizeLine->∀(h':Heap) (z:Nat),(∀b o',s.heap.get? b=some o'->h'.get? b=some o')->
   h'.get? s.heap.objs.size=some {cls:= .type "list",dict:=none,data:= .seq its.toArray z,slots:= #[]}->EP X pins σ Q (.ref s.heap.objs.size) {s with heap:=h'}:=λits O hz h' z U e=>
  ⟨.ref s.heap.objs.size,_,I.laid (t':=s.toks) U (Q4 _) (show ObjOk X.prog X.w _ h' _ (.lst ys) from⟨hz,its,z,O,e⟩),rfl,q _ (I.hok.fresh (Q4 _))⟩
 rcases hq with hq|hq
 .obtain⟨its,O,pl,hz⟩:=I.list hq;have Y:=O.length;obtain⟨o,Z,hc,n,hd⟩:=pl.isList;exact call_list_seq p (.inl rfl) Z hc hd (λh' z U e=>fin its O hz h' z U e) (by simp only[Qh]<;>lia)
 .obtain⟨its,O,pl,hz⟩:=I.tuple hq;have Y:=O.length;obtain⟨o,Z,hc,n,hd⟩:=pl;exact call_list_seq p (.inr rfl) Z hc hd (λh' z U e=>fin its O hz h' z U e) (by simp only[Qh]<;>lia)
def tyV (K:PySem.W.Frag) (T:String) (x:V) (H:Hp):Prop:=match x with
 | .str _=>T="str"
 | .int _=>T="int"
 | .ref p=>(T="list"/\∃xs,SqL K H p xs)\/(T="tuple"/\∃o,K.lookup p=some o/\o.cls= .type "tuple"/\o.dict=none)\/
   (T="dict"/\((∃kvs,H p=some (.dK kvs))\/∃kvs,H p=some (.dT kvs)))\/(T="set"/\∃S n,H p=some (.set S n))
 |_=>False
theorem CV {v:Value} (I:Inv X pins σ H s) (r:RelV x v) (ty:tyV X.K T x H):
  s.TypeIs v T/\∀a,v= .ref a->∃ob,s.heap.get? a=some ob/\ob.dict=none:=by
 cases x with
 |str z=>
  obtain⟨t,rfl⟩:=r;cases (show T="str" from ty);exact⟨typeIs_str s z t,λ_ e=>nomatch e⟩
 |int i=>
  obtain⟨t,rfl⟩:=r;cases (show T="int" from ty);exact⟨typeIs_int s i t,λ_ e=>nomatch e⟩
 |ref p=>
  cases r;rcases ty with⟨rfl,xs,hq⟩|⟨rfl,o,hk,hc,hd⟩|⟨rfl,hk⟩|⟨rfl,S,n,hk⟩
  .obtain⟨its,_,pl,_⟩:=I.list hq;refine⟨pl.isList.typeIs,λa e=>?_⟩;cases e;obtain⟨o,n,e,c,hd,_⟩:=pl;exact⟨o,e,hd⟩
  .refine⟨⟨o,I.kIn p o hk,hc⟩,λa e=>?_⟩;cases e;exact⟨o,I.kIn _ o hk,hd⟩
  .have z:∃o,s.heap.get? p=some o/\o.ExactDict:=by
    rcases hk with⟨kvs,hk⟩|⟨kvs,hk⟩
    .obtain⟨_,_,_,_,o,_,_,e,ex,_⟩:=I.hok p _ hk;exact⟨o,e,ex⟩
    .obtain⟨_,_,_,_,o,_,_,e,ex,_⟩:=I.hok p _ hk;exact⟨o,e,ex⟩
   obtain⟨o,e,ex⟩:=z;refine⟨⟨o,e,ex.1⟩,λa e2=>?_⟩;cases e2;exact⟨o,e,ex.2.1⟩
  .obtain⟨o,_,_,_,e,ex,_⟩:=I.hok p _ hk;refine⟨⟨o,e,ex.1⟩,λa e2=>?_⟩;cases e2;exact⟨o,e,ex.2.1⟩
 |_=>exact False.elim ty
def tBM0 (K:PySem.W.Frag) (T:String) (r:V->List V->Hp->VK->Prop) (to:TE):TE:=λσ H Q=>to σ H λx H1=>tyV K T x H1/\r x [] H1 Q
def tBM (K:PySem.W.Frag) (T:String) (r:V->List V->Hp->VK->Prop) (to:TE) (t:TA):TE:=λσ H Q=>to σ H λx H1=>tyV K T x H1/\t σ H1 λxs H2=>r x xs H2 Q
variable {o:Expr} {es:List Expr} {to:TE} {t:TA} {name:Str} {apos cpos:Pos} {id:String} {r:V->List V->Hp->VK->Prop}
theorem mL (pa:PlainAttrs T) (slot:Slot T name id) (U:typeOf (.builtin id)=pure (.type "method_descriptor")) (hm:MtR X id r) (ho:PE X o to)
  (z:attributeBase o name X.env (eval o X.env)=eval o X.env:=by rfl) (O:(apos.endLine==cpos.line)=true:=by rfl):PE X (.Call (.Attribute o name apos) [] [] cpos) (tBM0 X.K T r to):=by
 intro pins s σ H Q I h;refine wpAny_Call_method0_late z O (thn (ho pins s σ H _ I h) λv s1 Y=>?_);obtain⟨x,H1,Z,r1,ty,q1⟩:=Y;obtain⟨h1,h2⟩:=CV Z r1 ty;exact⟨T,id,pa,slot,U,h1,h2,Calls.callWith_builtin rfl (PySem.evalArgs_none (hm pins s1 σ H1 x [] v [] Q Z r1 .nil q1))⟩
theorem cJ (pa:PlainAttrs T) (slot:Slot T name id) (Z:typeOf (.builtin id)=pure (.type "method_descriptor")) (hm:MtR X id r) (ho:PE X o to) (ha:PA X (e::es) t)
  (O:attributeBase o name X.env (eval o X.env)=eval o X.env:=by rfl)
  (Y:((backTo cpos (starEach (e::es) X.env)).all (λx=>!x.1)&&(backToKw cpos (keywordEach [] X.env)).all (λx=>x.1.isSome)
   &&decide ((e::es).length+([]:List Keyword).length+(if([]:List Keyword).isEmpty then 0 else 1)<30))=true:=by rfl)
  (U:(apos.endLine==cpos.line)=true:=by rfl) (hs:starEach (e::es) X.env=(false,eval e X.env)::starEach es X.env:=by rfl) (z:(backTo cpos (starEach es X.env)).any (·.1)=false:=by rfl):
  PE X (.Call (.Attribute o name apos) (e::es) [] cpos) (tBM X.K T r to t):=by
 intro pins s σ H Q I h;refine wpAny_Call_method_late O Y U rfl (thn (ho pins s σ H _ I h) λv s1 a0=>?_);obtain⟨x,H1,I1,r1,ty,q1⟩:=a0;obtain⟨h1,h2⟩:=CV I1 r1 ty;refine⟨T,id,pa,slot,Z,h1,h2,?_⟩;have hA:=ha cpos pins s1 σ H1 _ I1 q1;rw[hs]at hA⊢;refine Calls.callWith_builtin (by show(false||(backTo cpos (starEach es X.env)).any (·.1))=false;rw[z]<;>rfl) (Calls.evalArgs_plain ?_);exact thn hA λus s2 ⟨vs,H2,I2,r2,q2⟩=>hm pins s2 σ H2 x vs v us Q I2 r1 r2 q2
end
end
section
def MtM (X:Cx) (id:String) (r:V->List V->Hp->VK->Prop):Prop:=
 ∀(pins:List (Addr×Obj)) (s:Shared) (σ:St) (H:Hp) (x:V) (xs:List V) (v:Value) (us:List Value) (Q:VK),Inv X pins σ H s->RelV x v->Vals xs us->r x xs H Q->
  wpAny (model X.prog X.w) X.A (call (.builtin id) (v::us)) (EP X pins σ Q) X.xe s
theorem Vals.one:∀{x:V} {us:List Value},Vals [x] us->∃u,us=[u]/\RelV x u
 |_,_,.cons r .nil=>⟨_,rfl,r⟩
theorem Vals.two:∀{x y:V} {us:List Value},Vals [x,y] us->∃u v,us=[u,v]/\RelV x u/\RelV y v
 |_,_,_,.cons r (.cons q .nil)=>⟨_,_,rfl,r,q⟩
theorem Vals.eraseIdx:∀{xs:List V} {us:List Value} (i:Nat),Vals xs us->Vals (xs.eraseIdx i) (us.eraseIdx i)
 |_,_,_,.nil=> .nil
 |_,_,0,.cons _ t=>t
 |_,_,i+1,.cons r t=> .cons r (Vals.eraseIdx i t)
theorem pG {α:Type}:∀(l:List α) (i:Nat),(l.eraseIdx i).length<=l.length
 | [],_=>Q4 _
 |_::_,0=>Zg _
 |_::r,i+1=>Nat.succ_le_succ (pG r i)
section
variable {l:Addr} {xs ys zs:List V}
theorem Inv.lset {f:Array Value->Array Value} (I:Inv X pins σ H s) (z:H l=some (.lst xs))
  (e:s.heap.get? l=some {cls:= .type "list",data:= .seq its.toArray n}) (hf:f its.toArray=its'.toArray) (O:Vals ys its') (hz:ys.length<=sizeLine):
  Inv X pins σ (upd H l (.lst ys)) {s with heap:=s.heap.update l (Obj.mapSeq f),toks:=t'}:=by
 have q:=PySem.IsL.update e f;rw[hf]at q;refine I.write (x:=l) (e:=l) (by rw[z];exact trivial) (.inl rfl) (λb' u hb hu=>(Heap.get?_update_other s.heap (Obj.mapSeq f) (Ne.symm hb)).trans hu) ⟨_,q⟩ ?_;exact⟨hz,its',_,O,q⟩
theorem Inv.lnew (I:Inv X pins σ H s) (z:Vals ys its) (hz:ys.length<=sizeLine):
  Inv X pins σ (upd H s.heap.objs.size (.lst ys)) {s with heap:=s.heap.push {cls:= .type "list",data:= .seq its.toArray},toks:=t'}:=
 I.laid (λ_ _ q=>Heap.get?_push_of_some _ q) (Q4 _) ⟨hz,its,0,z,Heap.get?_push_size _ rfl⟩
theorem Inv.fresh (I:Inv X pins σ H s):H s.heap.objs.size=none:=I.hok.fresh (Q4 _)
theorem Inv.lstM (I:Inv X pins σ H s) (O:H l=some (.lst xs)):xs.length<=sizeLine/\∃(its:List Value) (n:Nat),Vals xs its/\xs.length=its.length/\s.heap.get? l=some {cls:= .type "list",data:= .seq its.toArray n}:=by
 obtain⟨z,its,n,r,e⟩:=I.hok l _ O;exact⟨z,its,n,r,r.length,e⟩
theorem Dv (h:n<=sizeLine):Builtin.List.listTooLong n=false:=by
 unfold Builtin.List.listTooLong;exact decide_eq_false (by lia)
end
section
inductive Ft (x:V) (vs:List V) (H:Hp) (Q:VK):Prop
 |mk (l xs y:_) (_:x= .ref l) (_:vs=[y]) (_:H l=some (.lst xs)) (_:xs.length<sizeLine) (_:Q .non (upd H l (.lst (xs++ [y]))))
theorem eC:MtM X "list.append" Ft:=by
 intro pins s σ H x vs v us Q I U rv h;obtain⟨l,xs,y,rfl,rfl,O,hz,q⟩:=h;cases U;obtain⟨u,rfl,Y⟩:=rv.one;obtain⟨z,its,n,r,hl,e⟩:=I.lstM O;refine call_meets F.slot_list_append ⟨_,e,rfl⟩ F.entry_list_append (F.args_list_append_2 _ _) (PySem.list_append l its.toArray n u (by rw[Qh];lia)) ⟨e,?_⟩;refine⟨.non,_,I.lset (its':=its++ [u]) O e (by simp) (r.append (.cons Y .nil)) ?_,rfl,q⟩;rw[Qd,QY];lia
inductive Fq (x:V) (vs:List V) (H:Hp) (Q:VK):Prop
 |mk (l b xs zs:_) (_:x= .ref l) (_:vs=[.ref b]) (_:H l=some (.lst xs)) (_:H b=some (.lst zs)) (_:xs.length+zs.length<=sizeLine) (_:Q .non (upd H l (.lst (xs++zs))))
theorem vp:MtM X "list.extend" Fq:=by
 intro pins s σ H x vs v us Q I Z rv h;obtain⟨l,b,xs,zs,rfl,rfl,Y,hB,hz,q⟩:=h;cases Z;obtain⟨u,rfl,ru⟩:=rv.one;cases ru;obtain⟨z,its,n,r,hl,e⟩:=I.lstM Y;obtain⟨z2,O,n2,r2,a0,e2⟩:=I.lstM hB;have hsz:its.toArray.size+O.toArray.size<=sizeLine:=by rw[Qh,Qh];lia
 have U:¬(!its.toArray.isEmpty&&Builtin.List.listTooLong (its.toArray.size+O.toArray.size))=true:=by
  rw[Dv hsz,Ky];exact Qj
 refine call_meets F.slot_list_extend ⟨_,e,rfl⟩ F.entry_list_extend (F.args_list_extend_2 _ _)
  (AutoSeq1.list_extend_list_list_0 l its.toArray n b O.toArray n2 U (by rw[Qh];lia) (by lia)) ⟨e,e2,?_⟩
 refine⟨.non,_,I.lset (its':=its++O) Y e (by simp) (r.append r2) ?_,rfl,q⟩;rw[Qd];lia
inductive Hd (x:V) (vs:List V) (H:Hp) (Q:VK):Prop
 |mk (l xs i k y:_) (_:x= .ref l) (_:vs=[.int i]) (_:H l=some (.lst xs)) (_: -(2^63)<=i) (_:i<2^63) (_:seqIndex? i xs.length=some k) (_:xs[k]?=some y) (_:Q y (upd H l (.lst (xs.eraseIdx k))))
theorem yt:MtM X "list.pop" Hd:=by
 intro pins s σ H x vs v us Q I Y rv h;obtain⟨l,xs,i,k,y,rfl,rfl,U,h1,h2,hk,hy,q⟩:=h;cases Y;obtain⟨u,rfl,Z⟩:=rv.one;obtain⟨t,rfl⟩:=Z;obtain⟨z,its,n,r,hl,e⟩:=I.lstM U;obtain⟨w,hw,O⟩:=r.get hy;refine call_meets F.slot_list_pop ⟨_,e,rfl⟩ F.entry_list_pop (F.args_list_pop_2 _ _)
  (MeetsSeq.list_pop_at l its.toArray n i t k w (fitsIndex_both h1 h2) (by rw[Qh,<-hl];exact hk) (by rw[<-QA];exact hw) (by rw[Qh];lia)) ⟨e,?_⟩
 refine⟨y,_,I.lset (its':=its.eraseIdx k) U e ?_ (r.eraseIdx k) ?_,O,q⟩
 .show its.toArray.eraseIdxIfInBounds k=(its.eraseIdx k).toArray;rw[XR]
 .have:=pG xs k;lia
inductive rCat (x y:V) (H:Hp) (Q:VK):Prop
 |mk (l b xs zs:_) (_:x= .ref l) (_:y= .ref b) (_:H l=some (.lst xs)) (_:H b=some (.lst zs)) (_:xs.length+zs.length<=sizeLine) (_:∀p,H p=none->Q (.ref p) (upd H p (.lst (xs++zs))))
theorem Hq:OpR X (binaryOp .Add) rCat:=by
 intro pins s σ H x y v u Q I U Y h;obtain⟨l,b,xs,zs,rfl,rfl,Z,hB,hz,q⟩:=h;cases U;cases Y;obtain⟨z,its,n,r,hl,e⟩:=I.lstM Z;obtain⟨z2,O,n2,r2,a0,e2⟩:=I.lstM hB;refine PySem.P.add_list e e2 ?_ (by rw[Qh,Qh];lia);have ea:its.toArray++O.toArray=(its++O).toArray:=by simp
 rw[ea];exact⟨.ref _,_,I.lnew (t':=s.toks) (r.append r2) (by rw[Qd];lia),rfl,q _ I.fresh⟩
end
end
section
section
variable {κ:Type} [DecidableEq κ]
def aO (kvs:List (κ×V)) (k:κ):Option V:=(kvs.find? λkv=>decide (kv.1=k)).map (·.2)
def bj (kvs:List (κ×V)) (k:κ) (v:V):List (κ×V):=
 if(kvs.any λkv=>decide (kv.1=k))=true then kvs.map (λkv=>if kv.1=k then(kv.1,v)else kv)else kvs++ [(k,v)]
def bE (kvs:List (κ×V)) (k:κ):List (κ×V):=kvs.filter λkv=>decide (kv.1≠k)
theorem jS {k:κ}:aO ([]:List (κ×V)) k=none:=rfl
theorem bc {p:κ×V} {r:List (κ×V)} {k:κ} (e:p.1=k):aO (p::r) k=some p.2:=by simp[aO,ZM,e]
theorem ba {p:κ×V} {r:List (κ×V)} {k:κ} (e:¬p.1=k):aO (p::r) k=aO r k:=by simp[aO,ZM,e]
theorem cr (k:κ):∀kvs:List (κ×V),(kvs.any λkv=>decide (kv.1=k))=(aO kvs k).isSome
 | []=>rfl
 |p::r=>by
  rw[ZW];by_cases e:p.1=k
  .simp only[bc e,decide_eq_true e,Bool.true_or,Option.isSome_some]
  .rw[ba e,decide_eq_false e,Bool.false_or];exact cr k r
theorem xP (k j:κ) (y:V):∀kvs:List (κ×V),aO (kvs.map λkv=>if kv.1=k then(kv.1,y)else kv) j=(aO kvs j).map λx=>if j=k then y else x
 | []=>rfl
 |p::r=>by
  have I:=xP k j y r;rw[Qo];by_cases h:p.1=k
  .rw[if_pos h];by_cases e:p.1=j
   .rw[bc (p:=(p.1,y)) e,bc e,Zw,if_pos (e.symm.trans h)]
   .rw[ba (p:=(p.1,y)) e,ba e,I]
  .rw[if_neg h];by_cases e:p.1=j
   .rw[bc (p:=p) e,bc e,Zw,if_neg (λz=>h (e.trans z))]
   .rw[ba (p:=p) e,ba e,I]
theorem uY (k j:κ) (y:V):∀kvs:List (κ×V),aO kvs k=none->aO (kvs++ [(k,y)]) j=if j=k then some y else aO kvs j
 | [],_=>by
  by_cases e:k=j
  .rw[if_pos e.symm];exact bc (p:=(k,y)) e
  .rw[if_neg (λz=>e z.symm)];exact ba (p:=(k,y)) e
 |p::r,hn=>by
  rw[Xa];have hk:¬p.1=k:=λz=>by rw[bc z]at hn;cases hn
  rw[ba hk]at hn;have I:=uY k j y r hn;by_cases e:p.1=j
  .rw[bc e,bc e,if_neg (λz=>hk (e.trans z))]
  .rw[ba e,ba e,I]
theorem cT (kvs:List (κ×V)) (k j:κ) (y:V):aO (bj kvs k y) j=if j=k then some y else aO kvs j:=by
 unfold bj;by_cases a:(kvs.any λkv=>decide (kv.1=k))=true
 .rw[if_pos a,xP];rw[cr]at a;by_cases e:j=k
  .obtain⟨x,hx⟩:=X9.mp a;rw[if_pos e,e,hx,Zw,if_pos rfl]
  .rw[if_neg e];cases aO kvs j with
   |none=>rfl
   |some x=>rw[Zw,if_neg e]
 .rw[if_neg a];refine uY k j y kvs ?_;rw[cr]at a;cases q:aO kvs k with
  |none=>rfl
  |some x=>rw[q]at a;exact(a rfl).elim
theorem cw (kvs:List (κ×V)) (k:κ) (v:V):(bj kvs k v).length<=kvs.length+1:=by
 unfold bj;split
 .rw[Q0];lia
 .rw[Qd,Qf,K0];lia
theorem yd {kvs:List (κ×V)} {k:κ} (v:V) (h:aO kvs k=none):bj kvs k v=kvs++ [(k,v)]:=by
 unfold bj;rw[cr,h];exact if_neg (by decide)
theorem RelO.isSome_eq {u:Option Value} (r:RelO o u):o.isSome=u.isSome:=by
 cases o with
 |none=>cases u with
  |none=>rfl
  |some _=>exact(show False from r).elim
 |some _=>cases u with
  |none=>exact(show False from r).elim
  |some _=>rfl
theorem KV.val {kvs:List (κ×V)} {vs:List (κ×Value)} (r:KV kvs vs) (k:κ):RelO (aO kvs k) (valueAt vs k):=by
 unfold KV at r
 induction r with
 |nil=>exact True.intro
 | @cons p q ps I h t U=>
  obtain⟨h1,h2⟩:=h;by_cases e:p.1=k
  .have O:q.1=k:=h1.symm.trans e;have b:valueAt (q::I) k=some q.2:=by simp[valueAt,ZM,O]
   rw[bc e,b];exact h2
  .have O:¬q.1=k:=λz=>e (h1.trans z);have b:valueAt (q::I) k=valueAt I k:=by simp[valueAt,ZM,O]
   rw[ba e,b];exact U
theorem KV.any {kvs:List (κ×V)} {vs:List (κ×Value)} (r:KV kvs vs) (k:κ):(kvs.any λkv=>decide (kv.1=k))=vs.any λkv=>decide (kv.1=k):=by
 unfold KV at r
 induction r with
 |nil=>rfl
 |cons h t z=>rw[ZW,ZW,z,h.1]
theorem KV.repl {kvs:List (κ×V)} {vs:List (κ×Value)} (r:KV kvs vs) (k:κ) (I:RelV y u):
  KV (kvs.map λkv=>if kv.1=k then(kv.1,y)else kv) (vs.map λkv=>if kv.1=k then(kv.1,u)else kv):=by
 unfold KV at r⊢
 induction r with
 |nil=>exact .nil
 | @cons p q ps U h t O=>
  rw[Qo,Qo];refine .cons ?_ O;obtain⟨h1,h2⟩:=h;by_cases e:p.1=k
  .rw[if_pos e,if_pos (h1.symm.trans e)];exact⟨h1,I⟩
  .rw[if_neg e,if_neg (λz=>e (h1.trans z))];exact⟨h1,h2⟩
theorem KV.put {kvs:List (κ×V)} {vs:List (κ×Value)} (r:KV kvs vs) (k:κ) (z:RelV y u):KV (bj kvs k y) (stored vs k u):=by
 unfold bj stored;rw[r.any k];by_cases e:(vs.any λkv=>decide (kv.1=k))=true
 .rw[if_pos e,if_pos e];exact r.repl k z
 .rw[if_neg e,if_neg e];exact Paired.snoc r ⟨rfl,z⟩
theorem KV.drop {kvs:List (κ×V)} {vs:List (κ×Value)} (r:KV kvs vs) (k:κ):KV (bE kvs k) (without vs k):=by
 unfold KV at r⊢;unfold bE without
 induction r with
 |nil=>exact .nil
 | @cons p q ps U h t I=>
  obtain⟨h1,h2⟩:=h;rw[ZV,ZV];by_cases e:p.1=k
  .have a:¬decide (p.1≠k)=true:=by simp[e]
   have b:¬decide (q.1≠k)=true:=by simp[h1.symm.trans e]
   rw[if_neg a,if_neg b];exact I
  .have O:¬q.1=k:=λz=>e (h1.trans z);have a:decide (p.1≠k)=true:=by simp[e]
   have b:decide (q.1≠k)=true:=by simp[O]
   rw[if_pos a,if_pos b];exact .cons ⟨h1,h2⟩ I
theorem KV.length {kvs:List (κ×V)} {vs:List (κ×Value)} (r:KV kvs vs):kvs.length=vs.length:=Paired.length r
theorem Ea (kvs:List (κ×V)) (k:κ):(bE kvs k).length<=kvs.length:=QF _ _
end
theorem sV {k:Key} (r:RelV (kV k) u):(a6 P w).is k u=true:=by
 cases k with
 |inl i=>obtain⟨t,e⟩:=(show ∃t,u=Value.int i t from r);subst e;exact yz P w i t
 |inr x=>obtain⟨t,e⟩:=(show ∃t,u=Value.str x t from r);subst e;exact yx P w x t
theorem vz {P:Program} {w:World}:∀{ks:List Key} {us:List Value},Vals (ks.map kV) us->ItemsAre (a6 P w) ks us
 | [],_,r=>by rw[XE]at r;cases r;exact .nil
 |k::ks,_,r=>by
  rw[Qo]at r;cases r with
  |cons h t=>exact .cons (sV h) (vz t)
abbrev KT (H:Hp):List (List Key×V)->List (List Key×Addr×Value)->Prop:=Paired λp q=>p.1=q.1/\H q.2.1=some (.tup (p.1.map kV))/\RelV p.2 q.2.2
theorem KT.val {kvs:List (List Key×V)} {xs:List (List Key×Addr×Value)} (r:KT H kvs xs) (k:List Key):RelO (aO kvs k) ((atKey xs k).map (·.2)):=by
 induction r with
 |nil=>exact True.intro
 | @cons p q ps I h t U=>
  obtain⟨h1,_,h2⟩:=h;by_cases e:p.1=k
  .have O:q.1=k:=h1.symm.trans e;have b:atKey (q::I) k=some q.2:=by simp[atKey,ZM,O]
   rw[bc e,b];exact h2
  .have O:¬q.1=k:=λz=>e (h1.trans z);have b:atKey (q::I) k=atKey I k:=by simp[atKey,ZM,O]
   rw[ba e,b];exact U
theorem KT.repl {kvs:List (List Key×V)} {xs:List (List Key×Addr×Value)} (r:KT H kvs xs) (k:List Key) (I:RelV y u):
  KT H (kvs.map λkv=>if kv.1=k then(kv.1,y)else kv) (xs.map (putAt k u)):=by
 induction r with
 |nil=>exact .nil
 | @cons p q ps Y h t O=>
  rw[Qo,Qo];refine .cons ?_ O;obtain⟨h1,h2,U⟩:=h;unfold putAt;by_cases e:p.1=k
  .rw[if_pos e,if_pos (h1.symm.trans e)];exact⟨h1,h2,I⟩
  .rw[if_neg e,if_neg (λz=>e (h1.trans z))];exact⟨h1,h2,U⟩
theorem KT.put {kvs:List (List Key×V)} {xs:List (List Key×Addr×Value)} (r:KT H kvs xs) (k:List Key) (hb:H b=some (.tup (k.map kV))) (z:RelV y u):
  KT H (bj kvs k y) (storedH xs k b u):=by
 have e:(kvs.any λkv=>decide (kv.1=k))=(atKey xs k).isSome:=by
  rw[cr,(r.val k).isSome_eq,XF]
 unfold bj storedH;rw[e];by_cases q:(atKey xs k).isSome=true
 .rw[if_pos q,if_pos q];exact r.repl k z
 .rw[if_neg q,if_neg q];exact Paired.snoc r ⟨rfl,hb,z⟩
theorem KT.keeps {kvs:List (List Key×V)} {xs:List (List Key×Addr×Value)} (r:KT H kvs xs) (I:∀b ys,H b=some (.tup ys)->H' b=some (.tup ys)):KT H' kvs xs:=
 Paired.mapP r λ_ _ z=>⟨z.1,I _ _ z.2.1,z.2.2⟩
section
variable {h:Heap}
theorem Gs {u:HO} (ok:HOk P w H h) (e:Rd H a u):ObjOk P w H h a u:=e.ok ok
theorem tH (ok:HOk P w H h) (e:Rd H a (.dK kvs)):kvs.length<=sizeLine/\(a==sysModules)=false/\∃vs,KV kvs vs/\h.DictOf (a6 P w) a vs:=
 show ObjOk P w H h a (.dK kvs) from Gs ok e
theorem oq (ok:HOk P w H h) (e:H a=some (.dK kvs)):kvs.length<=sizeLine/\(a==sysModules)=false/\∃vs,KV kvs vs/\h.DictOf (a6 P w) a vs:=tH ok (.inl e)
theorem sU {ks:List Key} (ok:HOk P w H h) (e:H a=some (.tup (ks.map kV))):(tupleKind (a6 P w)).is h ks a:=by
 obtain⟨_,its,r,o,h1,h2,n,z⟩:=(show ObjOk P w H h a (.tup (ks.map kV)) from ok a _ e);exact⟨o,its.toArray,n,h1,h2,z,by simpa using vz r⟩
theorem yO {kvs:List (List Key×V)} (ok:HOk P w H h) (e:Rd H a (.dT kvs)):kvs.length<=sizeLine/\(a==sysModules)=false/\
  ∃xs,KT H kvs xs/\h.DictOfH (tupleKind (a6 P w)) a xs:=by
 obtain⟨z,y,xs,r,o,es,ep,h1,h2,I,O,U⟩:=(show ObjOk P w H h a (.dT kvs) from Gs ok e);refine⟨z,y,xs,r,o,es,ep,h1,h2,I,O,λx hx=>?_,U⟩;have all:∀{l:List (List Key×V)} {m:List (List Key×Addr×Value)},KT H l m->∀x∈m,(tupleKind (a6 P w)).is h x.1 x.2.1:=by
  intro l m q
  induction q with
  |nil=>intro x hx;exact nomatch hx
  | @cons p q ps Z hq t Y=>
   intro x hx;rcases Qg.mp hx with e|hx
   .subst e;exact sU ok (by rw[<-hq.1];exact hq.2.1)
   .exact Y x hx
 exact all r x hx
theorem Jl {kvs:List (List Key×V)} (ok:HOk P w H h) (e:H a=some (.dT kvs)):kvs.length<=sizeLine/\(a==sysModules)=false/\
  ∃xs,KT H kvs xs/\h.DictOfH (tupleKind (a6 P w)) a xs:=yO ok (.inl e)
end
def DGet (H:Hp) (a:Addr) (y:V) (r:Option V):Prop:=
 (∃kvs k,Rd H a (.dK kvs)/\y=kV k/\r=aO kvs k)\/∃kvs k b,Rd H a (.dT kvs)/\y= .ref b/\H b=some (.tup (k.map kV))/\r=aO kvs k
def DPut (H:Hp) (a:Addr) (y v:V) (H':Hp):Prop:=
 (∃kvs k,H a=some (.dK kvs)/\y=kV k/\kvs.length<sizeLine/\H'=upd H a (.dK (bj kvs k v)))\/
 ∃kvs k b,H a=some (.dT kvs)/\y= .ref b/\H b=some (.tup (k.map kV))/\kvs.length<sizeLine/\H'=upd H a (.dT (bj kvs k v))
theorem DGet.k {k:Key} (e:H a=some (.dK kvs)):DGet H a (kV k) (aO kvs k):= .inl ⟨kvs,k,.inl e,rfl,rfl⟩
theorem DPut.k {k:Key} (e:H a=some (.dK kvs)) (hl:kvs.length<sizeLine):DPut H a (kV k) v (upd H a (.dK (bj kvs k v))):= .inl ⟨kvs,k,e,rfl,hl,rfl⟩
section
variable {r:Value}
theorem Inv.big (I:Inv X pins σ H s):sysModules<s.heap.objs.size:=by
 have h:mainGlobals<s.heap.objs.size:=(I.mod.glob.keeps I.bk).lt;exact Nat.lt_trans (by decide) h
theorem Cu (hu:A.units+1<cLine) (I:Inv X pins σ H s) (g:DGet H a y (some v)) (ry:RelV y u) (h:∀w' s',Inv X pins σ H s'->RelV v w'->Q w' s'):
  wpAny (model X.prog X.w) A (getItem (.ref a) u) Q E s:=by
 rcases g with⟨kvs,k,e,Y,l⟩|⟨kvs,k,b,e,Y,eb,l⟩
 .subst Y;obtain⟨z,hd,vs,O,dd⟩:=tH I.hok e;obtain⟨w',hw,U⟩:=RelO.some_of (v:=v) (o:=valueAt vs k) (by rw[l];exact O.val k);exact wpAny_getItem_of (sV ry) dd.mapOf hw (h w' _ (I.tok _) U)
 .subst Y;cases (show u=Value.ref b from ry);obtain⟨z,hd,xs,O,dd⟩:=yO I.hok e;obtain⟨w',hw,U⟩:=RelO.some_of (v:=v) (o:=(atKey xs k).map (·.2)) (by rw[l];exact O.val k);obtain⟨p,hp,Z⟩:=Qw.mp hw;refine wpAny_getItem_heap (tupleKind_room_in1 hu) (sU I.hok eb) dd hp ?_;rw[Z];exact h w' _ (I.tok _) U
theorem d_in (hu:A.units+1<cLine) (I:Inv X pins σ H s) (g:DGet H a y o) (Y:RelV y u) (h:∀s',Inv X pins σ H s'->Q (.bool o.isSome) s'):
  wpAny (model X.prog X.w) A (compareOp .In u (.ref a)) Q E s:=by
 rcases g with⟨kvs,k,e,U,l⟩|⟨kvs,k,b,e,U,Z,l⟩
 .subst U;obtain⟨z,hd,vs,O,dd⟩:=tH I.hok e;refine wpAny_in_of (sV Y) hd dd.mapOf ?_;rw[<-(O.val k).isSome_eq,<-l];exact h _ (I.tok _)
 .subst U;cases (show u=Value.ref b from Y);obtain⟨z,hd,xs,O,dd⟩:=yO I.hok e;refine wpAny_in_heap (tupleKind_room_in1 hu) (sU I.hok Z) hd dd ?_;have q:=(O.val k).isSome_eq;rw[XF]at q;rw[<-q,<-l];exact h _ (I.tok _)
theorem FU (hu:A.units+1<cLine) (I:Inv X pins σ H s) (g:DGet H a y o) (Y:RelV y u) (h:∀s',Inv X pins σ H s'->Q (.bool (!o.isSome)) s'):
  wpAny (model X.prog X.w) A (compareOp .NotIn u (.ref a)) Q E s:=by
 rcases g with⟨kvs,k,e,U,l⟩|⟨kvs,k,b,e,U,Z,l⟩
 .subst U;obtain⟨z,hd,vs,O,dd⟩:=tH I.hok e;refine wpAny_notIn_of (sV Y) hd dd.mapOf ?_;rw[<-(O.val k).isSome_eq,<-l];exact h _ (I.tok _)
 .subst U;cases (show u=Value.ref b from Y);obtain⟨z,hd,xs,O,dd⟩:=yO I.hok e;refine wpAny_notIn_heap (tupleKind_room_in1 hu) (sU I.hok Z) hd dd ?_;have q:=(O.val k).isSome_eq;rw[XF]at q;rw[<-q,<-l];exact h _ (I.tok _)
theorem qK {ob:HO} (I:Inv X pins σ H s) (O:Mut (H a)) (U:Heap.SameBut a s.heap h') (he:∃q,h'.get? a=some q) (new:ObjOk X.prog X.w (upd H a ob) h' a ob):
  Inv X pins σ (upd H a ob) {s with heap:=h',toks:=t'}:=
 I.write (x:=a) (e:=a) O (.inl rfl) (λb q hb z=>(U.2 b hb).trans z) he new
theorem Ad (z:kvs.length<=sizeLine) (hd:(a==sysModules)=false) (I:KV kvs vs) (dd:h'.DictOf (a6 P w) a vs):
  ObjOk P w H' h' a (.dK kvs):=⟨z,hd,vs,I,dd⟩
theorem Ct {Q:Unit->Shared->Prop} (hu:A.units+1<cLine) (I:Inv X pins σ H s) (g:DPut H a y v H') (ry:RelV y u) (rv:RelV v r) (h:∀s',Inv X pins σ H' s'->Q () s'):
  wpAny (model X.prog X.w) A (setItem (.ref a) u r) Q E s:=by
 rcases g with⟨kvs,k,e,Y,l,Z⟩|⟨kvs,k,b,e,Y,eb,l,Z⟩
 .subst Y Z;obtain⟨z,hd,vs,O,dd⟩:=oq I.hok e;have hz:vs.length<=sizeLine:=by rw[<-O.length];exact z
  have hl:(bj kvs k v).length<=sizeLine:=by have:=cw kvs k v;lia
  refine wpAny_setItem_pairs (hsz:=hz) (sV ry) dd λh' U hs=>h _ ?_;have he:∃q,h'.get? a=some q:=let⟨q,_,_,hq,_⟩:=U;⟨q,hq⟩
  exact qK I (by rw[e];exact True.intro) hs he (Ad hl hd (O.put k rv) U)
 .subst Y Z;cases (show u=Value.ref b from ry);obtain⟨z,hd,xs,O,dd⟩:=Jl I.hok e;have hz:xs.length<=sizeLine:=by rw[<-Paired.length O];exact z
  have hl:(bj kvs k v).length<=sizeLine:=by have:=cw kvs k v;lia
  refine wpAny_setItem_heap (hsz:=hz) (tupleKind_room_in1 hu) (sU I.hok eb) dd λh' U hs=>h _ ?_;obtain⟨q,es,ep,hq,h2,h3,h4,_,h5⟩:=U;refine qK I (by rw[e];exact True.intro) hs ⟨q,hq⟩ ⟨hl,hd,_,(O.put k eb rv).keeps λc ys ec=>?_,q,es,ep,hq,h2,h3,h4,h5⟩;rw[ag (bZ ec e (λz=>nomatch z))];exact ec
end
section
variable {k:Key}
theorem Jm {O:List Value} (I:Inv X pins σ H s) (e:H a=some (.dK kvs)) (Z:RelV (kV k) u) (l:aO kvs k=some v) (hm:O=[]\/∃x,O=[x])
  (h:∀w' s',Inv X pins σ (upd H a (.dK (bE kvs k))) s'->RelV v w'->Q w' s'):wpAny (model X.prog X.w) A (call (.builtin "dict.pop") (.ref a::u::O)) Q E s:=by
 obtain⟨z,hd,vs,U,dd⟩:=oq I.hok e;obtain⟨w',hw,a0⟩:=RelO.some_of (v:=v) (o:=valueAt vs k) (by rw[<-l];exact U.val k);have hp:(keyPart u).isSome=true:=by
  cases k with
  |inl i=>obtain⟨t,q⟩:=(show ∃t,u=Value.int i t from Z);subst q;rfl
  |inr x=>obtain⟨t,q⟩:=(show ∃t,u=Value.str x t from Z);subst q;rfl
 have ha:argsOk "dict.pop" ⟨.ref a::u::O,[]⟩:=by
  rcases hm with q|⟨x,q⟩
  .subst q;exact PySem.F.args_dict_pop_2 _ _
  .subst q;exact PySem.F.args_dict_pop_3 _ _ _
 refine call_meetsIn Xk dd.typeIs PySem.F.entry_dict_pop ha (meets_dict_pop_there (a6 X.prog X.w) a (sV Z) O hm hp)
  ⟨vs,w',dd,by rw[<-U.length];exact z,hw,λh' Y hs=>h w' _ ?_ a0⟩
 have he:∃q,h'.get? a=some q:=let⟨q,_,_,hq,_⟩:=Y;⟨q,hq⟩
 exact qK I (by rw[e];exact True.intro) hs he (Ad (QL (Ea kvs k) z) hd (U.drop k) Y)
theorem Jn (I:Inv X pins σ H s) (e:Rd H a (.dK kvs)) (h:∀t s',Inv X pins σ H s'->Q (.int kvs.length t) s'):wpAny (model X.prog X.w) A (call (.builtin "len") [.ref a]) Q E s:=by
 obtain⟨z,hd,vs,O,dd⟩:=tH I.hok e;refine call_len_dict hd dd (by rw[<-O.length];rw[sizeLine_eq]at z;lia) ?_;rw[<-O.length];exact h _ _ (I.tok _)
end
def NoSl (i:Expr):Prop:=∀ov iv,subscripted i false ov iv=operate [ov,iv] (getItem ov iv)
theorem Fc {prog:Program} {env:Env} {value z:Expr} {id:String} 
  (hl:typeLookup (.type T) "__getitem__"=pure (some (.builtin id))) (Z:NoSl z)
  (h:wpAny (model prog w) A (eval value env) (λo s₁=>wpAny (model prog w) A (eval z env) (λi s₂=>s₂.TypeIs o T/\wpAny (model prog w) A (getItem o i) Q E s₂) E s₁) E s):
  wpAny (model prog w) A (eval (.Subscript value z pos) env) Q E s:=by
 refine Subscript_ (wpAny_mono h (λo s₁ h₁=>wpAny_mono h₁ (λi s₂ I=>?_) λ_ _ x=>x) λ_ _ x=>x);obtain⟨Y,I⟩:=I;unfold subscriptTail;refine wpAny_bind ?_;rw[getitemInPython_of_ne Y.not_modules];refine wpAny_bind (wpAny_specialOf Y hl ?_);have fin:wpAny (model prog w) A (subscripted z false o i) (λr O=>wpAny (model prog w) A (letTemporaryGo value o r>>=λ_=>pure r) Q E O) E s₂:=by
  rw[Z o i];exact wpAny_operating (wpAny_mono I (λr O U=>wpAny_bind (wpAny_letTemporaryGo (wpAny_pure U))) λ_ _ x=>x)
 first
  |exact wpAny_pure (wpAny_bind fin)
  |exact wpAny_bind (wpAny_pure (wpAny_bind fin))
  |exact wpAny_bind fin
theorem yT (I:Inv X pins σ H s) (g:DGet H a y o):s.TypeIs (.ref a) "dict":=by
 rcases g with⟨kvs,k,e,_,_⟩|⟨kvs,k,b,e,_,_,_⟩
 .obtain⟨_,_,vs,_,dd⟩:=tH I.hok e;exact dd.typeIs
 .obtain⟨_,_,xs,_,dd⟩:=yO I.hok e;exact dd.typeIs
inductive G1 (Q:VK) (x y:V) (H2:Hp):Prop
 |mk (a v:_) (_:x= .ref a) (_:DGet H2 a y (some v)) (_:Q v H2)
def IC (td ty:TE):TE:=λσ H Q=>td σ H λx H1=>ty σ H1 λy H2=>G1 Q x y H2
inductive IB (Q:VK) (y x:V) (H2:Hp):Prop
 |mk (a o:_) (_:x= .ref a) (_:DGet H2 a y o) (_:Q (.bl o.isSome) H2)
def tDIn (ty td:TE):TE:=λσ H Q=>ty σ H λy H1=>td σ H1 λx H2=>IB Q y x H2
def Fa (ty td:TE):TE:=λσ H Q=>ty σ H λy H1=>td σ H1 λx H2=>∃a o,x= .ref a/\DGet H2 a y o/\Q (.bl (!o.isSome)) H2
inductive G6 (D:lq) (σ:St) (v x y:V) (H3:Hp):Prop
 |mk (a H4:_) (_:x= .ref a) (_:DPut H3 a y v H4) (_:D.nx σ H4)
def IK (td ty tv:TE):TS:=λD σ H=>tv σ H λv H1=>td σ H1 λx H2=>ty σ H2 λy H3=>G6 D σ v x y H3
section
variable {o i value:Expr} {pos' tpos:Pos} {td ty tv:TE}
theorem gO (hu:X.A.units+1<cLine) (Y:PE X o td) (hi:PE X i ty) (Z:NoSl i):PE X (.Subscript o i pos) (IC td ty):=by
 intro pins s σ H Q I h;refine Fc PySem.F.slot_dict_getitem.lookup Z (thn (Y pins s σ H _ I h) λu s1 ⟨x,H1,I1,rx,q1⟩=>thn (hi pins s1 σ H1 _ I1 q1) λiv s2 z=>?_);obtain⟨y,H2,U,ry,a,v,ex,g,q2⟩:=z;subst ex;obtain rfl:u=Value.ref a:=rx;exact⟨yT U g,Cu hu U g ry λw' s3 I3 O=>⟨v,H2,I3,O,q2⟩⟩
theorem zM (hu:X.A.units+1<cLine) (hi:PE X i ty) (O:PE X o td):PC X .In i o (tDIn ty td):=by
 intro pins s σ H Q I h;refine thn (hi pins s σ H _ I h) λiv s1 ⟨y,H1,U,Y,Z⟩=>thn (O pins s1 σ H1 _ U Z) λu s2 z=>?_;obtain⟨x,H2,I2,rx,a,ov,ex,g,q2⟩:=z;subst ex;obtain rfl:u=Value.ref a:=rx;exact d_in hu I2 g Y λs3 I3=>⟨.bl ov.isSome,H2,I3,rfl,q2⟩
theorem vf (hu:X.A.units+1<cLine) (hi:PE X i ty) (O:PE X o td):PC X .NotIn i o (Fa ty td):=by
 intro pins s σ H Q I h;refine thn (hi pins s σ H _ I h) λiv s1 ⟨y,H1,U,Y,Z⟩=>thn (O pins s1 σ H1 _ U Z) λu s2 z=>?_;obtain⟨x,H2,I2,rx,a,ov,ex,g,q2⟩:=z;subst ex;obtain rfl:u=Value.ref a:=rx;exact FU hu I2 g Y λs3 I3=>⟨.bl (!ov.isSome),H2,I3,rfl,q2⟩
theorem wF (hu:X.A.units+1<cLine) (O:PE X o td) (hi:PE X i ty) (U:PE X value tv) (Y:swapsWith value (some (.Subscript o i pos')) pos.line X.env=pure false):
  PS X (.Assign [.Subscript o i pos'] value pos) (IK td ty tv):=by
 intro pins s σ H D I h;refine wpAny_Assign_Subscript (thn (U pins s σ H _ I h) λr s1 ⟨v,H1,Z,rv,q1⟩=>thn (O pins s1 σ H1 _ Z q1) λu s2 ⟨x,H2,I2,rx,q2⟩=>thn (hi pins s2 σ H2 _ I2 q2) λiv s3 z=>?_) Y;obtain⟨y,H3,I3,ry,a,H4,ex,g,q3⟩:=z;subst ex;obtain rfl:u=Value.ref a:=rx;exact Ct hu I3 g ry rv λs4 I4=>⟨σ,H4,I4,q3⟩
end
theorem Eb (h:Heap) (hb:sysModules<h.objs.size):ObjOk P w H (h.push {cls:= .type "dict",data:= .dict #[]}) h.objs.size (.dK []):=
 ⟨Qi _,beq_eq_false_iff_ne.mpr (Ne.symm (Qx hb)),[],.nil,Heap.DictOf.new h⟩
def G0:TE:=λ_ H Q=>∀p,H p=none->Q (.ref p) (upd H p (.dK []))
section
theorem j8:PE X (.Dict [] [] pos) G0:=λpins s σ H Q I h=>
 wpAny_Dict_empty ⟨.ref s.heap.objs.size,_,I.laid (a:=s.heap.objs.size) (o:= .dK []) (t':=s.toks) (λ_ _ q=>Heap.get?_push_of_some _ q) (Q4 _) (Eb s.heap I.big),rfl,h _ (I.hok.fresh (Q4 _))⟩
end
end
end L2
namespace Att
open PySem PySem.W PySem.Calls PyProof.Rows
variable {h:Heap} {n:Nat} {l:OpenLaw} {P:Params} {YP:World->Heap->Prop}
theorem qw:∀(ns:List Int) (vs:List Value),WellAll P h vs (ns.map WData.int)->IntsAre vs ns:=by
 intro ns
 induction ns with
 |nil=>
  intro vs w;rw[XE]at w;cases w;exact .nil
 |cons n ns z=>
  intro vs w;rw[Qo]at w;cases w with
  |cons a b=>
   cases a;exact .cons _ _ (z _ b)
theorem BI (hn:l.most=some n) {args:List WData} {z:List Value}
  (I:l.row.toRowW.claim.pre args=true) (a0:WellAll P h z args):
  ∃a vs ns,z=[Value.ref a]/\args=[WData.list (ns.map WData.int)]/\h.get? a=some {cls:= .type "list",data:= .seq vs.toArray}/\IntsAre vs ns/\ns.length<=n:=by
 have a1:WShape.hasAll [] args [.list .int]=true:=(pre_splitW I).1;have hc:l.pre.holds [] {args:=args}=true:=(pre_splitW I).2;obtain⟨d,r,rfl,h1,h2⟩:=hasAllW_cons a1;obtain rfl:=hasAllW_nil h2;obtain⟨xs,rfl,h3⟩:=hasW_list h1;obtain⟨ns,rfl⟩:=items_int h3;have O:ns.length<=n:=by
  unfold OpenLaw.pre at hc;have Y:(WTm.not (.lt (.lit (.int (n:Int))) (.len (.arg 0)))).holds [] {args:=[.list (ns.map .int)]}=true:=by
   have Y:=(holds_andW hc).1;rw[hn]at Y;exact Y
  have Z:=condW_of Y (w_not (w_lt w_lit (w_len_list (w_arg rfl))));rw[Q0]at Z;refine Nat.le_of_not_lt λq=>?_;have q':(n:Int)<((ns.length:Nat):Int):=by lia
  first
   |(rw[decide_eq_true q']at Z;exact absurd Z (by decide))
   |(simp at Z;lia)
 cases a0 with
 |cons w1 w2=>
  cases w2;cases w1 with
  |list ho U=>exact⟨_,_,ns,rfl,rfl,ho,qw ns _ U,O⟩
theorem BQ (l:OpenLaw) (args:List WData):l.row.toRowW.claim.post args (.bool true) args=true:=
 postW_of (r:=l.row.toRowW) (X:=(true==true))
  (show WShape.has [] (.bool true) .bool=true by first|rfl|decide|simp[WShape.has,WShape.arms,WShape.armsAll])
  (show(WTm.eq .res (.lit (.bool true))).value [] {args:=args,res:=some (.bool true),after:=args}=some (.bool (true==true)) from w_eq_bool (w_res rfl) w_lit) rfl
theorem attach_call {q:Program} {loose:List Str} {XP:(Str->Option Value)->Heap->Prop} {d:DefRec}
  (hn:l.most=some n) (a1:d.params.defaults=[])
  (call:∀(w:World) (s₀ s₁:Shared) (mg mb:Str->Option Value) (O:Addr) (o:Obj) (pm cd z:Value) (a:Addr) (vs:List Value) (ns:List Int),
   Ground q loose [] XP w s₀ mg mb s₁.heap->YP w s₁.heap->
   s₁.heap.get? O=some o->o.data= .func (docDef d.name d.params d.body d.scope pm cd z)->s₁.heap.CodeRec cd d.name->mg d.name=some (.ref O)->
   s₁.heap.get? a=some {cls:= .type "list",data:= .seq vs.toArray}->IntsAre vs ns->ns.length<=n->s₁.gens= #[]->
   codeAny (model l.prog w) callerA (.call (.ref O) ⟨[.ref a],[]⟩) (λr s'=>r= .ok (.ret (.bool true))/\OldK s₁.heap s'.heap/\s'.os=s₁.os/\AllBare s'.gens) s₁):
  WalkO q loose XP YP l.row.toRowW d [] (λf vs=>PySem.call f vs):=by
 intro w s₀ s₁ mg mb G Y O o pm cd z dV kV ho hd a2 hD a3 hg args a5 as U aa ac a4 af;obtain rfl:dV= .none:=Dflts.none hD a1;obtain rfl:kV= .none:=Dflts.noKw hD;obtain⟨a,vs,ns,rfl,rfl,Z,I,a0⟩:=BI hn U a4;refine enter_call (codeAny_mono (call w s₀ s₁ mg mb O o pm cd z a vs ns G Y ho (fd_plain hd) a2 a3 Z I a0 hg) λr s' hq=>?_);obtain⟨rfl,h2,h3,h4⟩:=hq;exact⟨.inl ⟨.bool true,.bool true,[],rfl,λ_=>rfl,.bool true,BQ l _,λ_=>⟨List.Pairwise.nil,λ_ hm=>(nomatch hm)⟩⟩,h2,h3,h4⟩
end Att
namespace L2
open PySem PySem.Spec PyProof.Rows
variable {a f:Addr} {X:Cx} {fd:FuncData} {base:Heap} {H:Hp} {ns:List Int} {N:List Str} {n:Nat} {P:Program} {A B c:Prop} {K:PySem.W.Frag} {sp:Sp} {σ:St} {st:Stmt} {qual x:Str} {nx:St->Hp->Prop} {g:TG} {tb:TS} {Φ:TS->Prop} {F:TS->TS} {rt:VK} {w:World} {YP:World->Heap->Prop}
section
theorem uX:∀{vs:List Value} {ns:List Int},IntsAre vs ns->Vals (ns.map V.int) vs
 |_,_,.nil=> .nil
 |_,_,.cons n t h=> .cons ⟨t,rfl⟩ (uX h)
def Ik (H:Hp):Prop:=∀b,H b=none\/∃o xs,H b=some (.frz o (.lst xs))
theorem DS {mg mb:Str->Option Value} {CX:CXT} {k:Nat} {fa:Addr} {s₁:Shared} {vs:List Value} 
  (KX:K.In s₁.heap) (Z:s₁.heap.Ns mainGlobals mg) (hb:s₁.heap.Ns builtinsNs mb) (a4:∀x:Str,x≠"__name__"->mb x=bootBuiltins x) (a0:s₁.heap.NoLimit) (hg:s₁.gens= #[])
  (ha:s₁.heap.get? a=some {cls:= .type "list",data:= .seq vs.toArray}) (hi:IntsAre vs ns) (hl:ns.length<=sizeLine) (hr:Room k callerA)
  (F:∀base:Heap,K.In base->base.Ns mainGlobals mg->aV P w K mg base CX k fa fd [x] sp) (Y:∀(s:Shared) (u:Value),BindsTo s fd ⟨[u],[]⟩ [(x,u)])
  (a5:∀H:Hp,Ik H->SqL K H a (ns.map V.int)->sp [.ref a] H (λv _=>v= .bl true) λ_ _ _=>False)
  (aa:∀H e s',CX [] H s₁ (λ_ _ _=>False) e s'->False):
  codeAny (model P w) callerA (.call (.ref fa) ⟨[.ref a],[]⟩) (λr s'=>r= .ok (.ret (.bool true))/\OldK s₁.heap s'.heap/\s'.os=s₁.os/\AllBare s'.gens) s₁:=by
 have rv:=uX hi;have a1:=hi.length;have U:∀H:Hp,Ik H->SqL K H a (ns.map V.int)->HOk P w H s₁.heap->(∀b,H b≠none->b=a)->(H a≠none->K.lookup a=none)->
   codeAny (model P w) callerA (.call (.ref fa) ⟨[.ref a],[]⟩) (λr s'=>r= .ok (.ret (.bool true))/\OldK s₁.heap s'.heap/\s'.os=s₁.os/\AllBare s'.gens) s₁:=by
  intro H hO hS hok hA hK;have I:∀{b:Addr} {o:Obj},s₁.heap.get? b=some o->H b=none->(xf s₁.heap H).get? b=some o:=λe n=>D0 e n;have ac:∀{b:Addr} {o:Obj} {es:Array DictEntry} {ep:Nat},s₁.heap.get? b=some o->o.data= .dict es ep->H b=none:=λ{b o es ep} e d=>by
   cases q:H b with
   |none=>rfl
   |some u=>
    have e':b=a:=hA b (by rw[q];simp);subst e';rw[ha]at e;cases e;have d':Data.seq vs.toArray _=Data.dict es ep:=d;cases d'
  have O:∀{b:Addr} {m:Str->Option Value},s₁.heap.Ns b m->(xf s₁.heap H).Ns b m:=λ{b m} ⟨o,es,ep,e,d,r⟩=>⟨o,es,ep,I e (ac e d),d,r⟩;have a2:K.In (xf s₁.heap H):=λb o e=>I (KX b o e) (by
   cases q:H b with
   |none=>rfl
   |some u=>
    have e':b=a:=hA b (by rw[q];simp);subst e';rw[hK (by rw[q];simp)]at e;cases e)
  have hM:Mod K mg (xf s₁.heap H):=⟨a2,O Z,⟨mb,O hb,a4⟩,let⟨mc,h1,h2⟩:=a0;⟨mc,O h1,h2⟩⟩;have e0:Env0 P w K mg (xf s₁.heap H) callerA [] s₁ H:=⟨rfl,hM,λb o e=>FB e,ZG (Co _ _),trivial,λb hb=>absurd (show b∈([]:List Addr) from hb) (by simp),hok,.of_eq hg⟩;refine codeAny_mono ((F _ a2 (O Z)).run callerA [] s₁ H ⟨[.ref a],[]⟩ [.ref a] [.ref a] _ _ hr e0 (Y s₁ (.ref a)) (.cons rfl .nil) (a5 H hO hS)) λr s' h=>?_;cases r with
  |error e=>exact(aa H e s' h).elim
  |ok fl=>
   cases fl with
   |next=>exact False.elim h
   |brk=>exact False.elim h
   |cont=>exact False.elim h
   |ret u=>
    obtain⟨v,H',os,bare,un,a3,r',q⟩:=h;have q':v= .bl true:=q;subst q';obtain rfl:u=Value.bool true:=r';refine⟨rfl,OldK.of_keep λb o e=>?_,os,bare⟩;cases q:H b with
    |none=>exact un.keep b o e q (by intro z;exact absurd (show b∈([]:List Addr) from z) (by simp)) (by simp)
    |some u=>
     rcases hO b with z|⟨ob,xs,z⟩
     .rw[q]at z;cases z
     .have z2:=un.frzs b ob _ z;obtain⟨e1,_⟩:=hok b _ z;obtain⟨e2,_⟩:=a3 b _ z2;rw[e]at e1;cases e1;exact e2
 cases hk:K.lookup a with
 |some o=>
  have e:=KX a o hk;rw[ha]at e;cases e;refine U (λ_=>none) (λ_=> .inl rfl) (.inr ⟨_,vs.toArray,_,hk,rfl,rfl,rfl,by rw[Qh,a1];exact hl,by simpa using rv⟩) (λb u z=>by have z':(none:Option HO)=some u:=z;cases z') (λb z=>absurd rfl z) λz=>absurd rfl z
 |none=>
  refine U (λb=>if b=a then some (.frz {cls:= .type "list",data:= .seq vs.toArray} (.lst (ns.map V.int)))else none) (λb=>?_) (.inl (.inr ⟨{cls:= .type "list",data:= .seq vs.toArray},if_pos rfl⟩)) (λb u z=>?_) (λb z=>?_) λ_=>hk
  .by_cases hb:b=a
   .exact .inr ⟨_,_,if_pos hb⟩
   .exact .inl (if_neg hb)
  .by_cases hb:b=a
   .have z':=(if_pos hb).symm.trans z;cases z';subst hb;exact⟨ha,by rw[Q0];exact hl,vs,_,rv,ha⟩
   .have z':=(if_neg hb).symm.trans z;cases z'
  .by_cases hb:b=a
   .exact hb
   .exact absurd (if_neg hb) z
end
section
theorem walk_of {l:PySem.W.OpenLaw} {k:Nat} {q:Program} {loose:List Str} {XP:(Str->Option Value)->Heap->Prop} {d:DefRec} {K:Params->PySem.W.Frag} {CX:World->CXT} {sp:World->Sp} 
  (hn:l.most=some n) (Z:n<=sizeLine) (a0:d.params.defaults=[]) (hr:Room k callerA)
  (hY:∀(w:World) (h:Heap),YP w h->(K w.params).In h)
  (F:∀(w:World) (mg:Str->Option Value) (U:Addr) (h:Heap),(K w.params).In h->h.Ns mainGlobals mg->mg d.name=some (.ref U)->
   ∃fd:FuncData,(∀(s:Shared) (u:Value),BindsTo s fd ⟨[u],[]⟩ [(x,u)])/\
    ∀base:Heap,(K w.params).In base->base.Ns mainGlobals mg->aV l.prog w (K w.params) mg base (CX w) k U fd [x] (sp w))
  (a1:∀(w:World) (H:Hp) (a:Addr) (ns:List Int),ns.length<=n->Ik H->SqL (K w.params) H a (ns.map V.int)->sp w [.ref a] H (λv _=>v= .bl true) λ_ _ _=>False)
  (a2:∀(w:World) (H:Hp) (s:Shared) (e:Value) (s':Shared),CX w [] H s (λ_ _ _=>False) e s'->False):
  PySem.W.WalkO q loose XP YP l.row.toRowW d [] (λf vs=>PySem.call f vs):=by
 refine Att.attach_call hn a0 λw s₀ s₁ mg mb U o pm cd a4 a vs ns G Y ho hd a5 a3 O I z hg=>?_;have KX:=hY w _ Y;obtain⟨fd,hb,hF⟩:=F w mg U _ KX G.T.g a3;exact DS KX G.T.g G.T.b G.T.builtins G.T.nolimit hg O I (QL z Z) hr hF hb (λH hO hS=>a1 w H a ns z hO hS) λH e s'=>a2 w H s₁ e s'
end
section
abbrev CX0:CXT:=λ_ _ _ _ _ _=>False
abbrev E0:XK:=λ_ _ _=>False
theorem ay:eL CX0 X E0:=λ_ _ _ _ _ _ _ h=>h.elim
structure Fun (K:PySem.W.Frag) (x qual:Str) (st:Stmt) (f:Addr) (fd:FuncData):Prop where
 ex:∃(oc:Value) (od:Option Addr) (kV doc pm:Value) (an:Option Addr) (cdv ct:Value) (osl:Array (Option Value)),
  fd=PySem.W.fnOf x qual (fH st) (cp st) (ak st) .none kV doc pm an cdv ct/\K.lookup f=some ⟨oc,od,.func fd,osl⟩/\PySem.W.codeIn K cdv qual=true
 kp:PySem.W.keepIn K (.ref f)=true
section
variable {mg:Str->Option Value}
theorem Fun.ok {ps:List Str} {k:Nat} (F:Fun K x qual st f fd) (S:ar N ps (ak st)) (len:∀vs H Q E,sp vs H Q E->vs.length=ps.length)
  (I:∀(z:Value) (A:Around) (outer:List Env) (s:Shared) (H:Hp) (vs:List V) (Q:VK) (E:XK),Room k (A.deeper (envOfC qual (ak st) s.heap.objs.size f z))->sp vs H Q E->
   ∃t,PSs (ot CX0 P w K mg base N qual (ak st) f z A outer s H E).nox (cp st) t/\t {nx:=λ_ H'=>Q .non H',rt:=Q} (start N vs) H):aV P w K mg base CX0 (k+1) f fd ps sp:=by
 obtain⟨oc,od,kV,Y,pm,an,z,ct,Z,rfl,lk,O⟩:=F.ex;refine AY lk O S len λA outer s H vs Q E hr U=>?_;obtain⟨t,h,q⟩:=I z A outer s H vs Q E hr U;exact⟨t,h.nox,q⟩
theorem HR {Z:Value} {od U:Option Addr} {O:Array (Option Value)} {kV I Y z ct:Value} (l:K.lookup f=some ⟨Z,od,.func (PySem.W.fnOf x qual (fH st) (cp st) (ak st) .none kV I Y U z ct),O⟩)
  (c:PySem.W.codeIn K z qual=true) (k:PySem.W.keepIn K (.ref f)=true):Fun K x qual st f (PySem.W.fnOf x qual (fH st) (cp st) (ak st) .none kV I Y U z ct):=⟨⟨Z,od,kV,I,Y,U,z,ct,O,rfl,l,c⟩,k⟩
end
theorem fq {A:Around} {k:Nat} (z:Room k A):A.units+1<cLine:=X5 (Nat.add_le_add_left (by decide:1<=64) _) z.units
theorem bP (h:n<=1000):n<sizeLine:=X5 h (by decide)
section
theorem pv (i:Nat) {pos:Pos} (I:X.N[i]?=some x:=by rfl) (O:Vis X.env.scope x:=by first|exact Or.inl rfl|exact Or.inr (Or.inl rfl)|exact Or.inr (Or.inr rfl)) (hd:(x==("__debug__":Str))=false:=by decide)
  (z:(x==("__classdict__":Str))=false:=by decide):PE X (.Name x pos) (C2 i):=Hj I O hd z
end
theorem cq (h:B):if false=true then A else B:=by
 rw[if_neg Qj];exact h
theorem dM (h:A):if true=true then A else B:=by
 rw[if_pos rfl];exact h
theorem oh [Decidable c] (h1:c->A) (h2:¬c->B):if c then A else B:=by
 by_cases h:c
 .rw[if_pos h];exact h1 h
 .rw[if_neg h];exact h2 h
theorem Je [Decidable c] (hc:c) (h:B):if(!decide c)=true then A else B:=by
 rw[decide_eq_true hc];exact cq h
def Same (H H':Hp):Prop:=∀b o,H b=some o->H' b=some o
theorem Same.refl (H:Hp):Same H H:=λ_ _ h=>h
theorem Same.trans {H1 H2:Hp} (a:Same H H1) (b:Same H1 H2):Same H H2:=λc o h=>b c o (a c o h)
end
section
section
theorem vN:dw X (.builtin "len") (λxs H Q=>∃a kvs,xs=[V.ref a]/\H a=some (.dK kvs)/\Q (.int kvs.length) H):=by
 intro pins s σ H xs us Q I r h;obtain⟨a,kvs,rfl,ha,q⟩:=h;obtain⟨u,rfl,z⟩:=iS r;cases z;exact Jn I (.inl ha) λt s' O=>⟨.int kvs.length,H,O,⟨t,rfl⟩,q⟩
end
section
variable {κ:Type} [DecidableEq κ]
theorem CU {kvs:List (κ×V)} {k:κ} (h:aO kvs k=none):¬k∈kvs.map (·.1):=by
 intro m;obtain⟨p,hp,e⟩:=Q7.mp m;have q:(kvs.any λkv=>decide (kv.1=k))=true:=List.any_eq_true.mpr ⟨p,hp,decide_eq_true e⟩;rw[cr,h]at q;exact absurd q (by simp)
theorem qA {kvs:List (κ×V)} {k:κ} {v:V} (h:aO kvs k=some v):k∈kvs.map (·.1):=by
 have q:(kvs.any λkv=>decide (kv.1=k))=true:=by
  rw[cr,h]
  all_goals rfl
 obtain⟨p,hp,e⟩:=List.any_eq_true.mp q;exact Q7.mpr ⟨p,hp,of_decide_eq_true e⟩
theorem AE:∀{l:List κ} {k:κ},l.Nodup->¬k∈l->(l++ [k]).Nodup
 | [],k,_,_=>by simp
 |a::r,k,h,hk=>by
  obtain⟨h1,h2⟩:=QN.mp h;show(a::(r++ [k])).Nodup;refine QN.mpr ⟨λm=>?_,AE h2 λm=>hk (Qg.mpr (Or.inr m))⟩;rcases Q5.mp m with q|q
  .exact h1 q
  .exact hk (Qg.mpr (Or.inl (Qa.mp q).symm))
theorem FC {kvs:List (κ×V)} {k:κ} (v:V) (z:(kvs.map (·.1)).Nodup) (h:aO kvs k=none):((bj kvs k v).map (·.1)).Nodup:=by
 rw[yd v h,Q9];exact AE z (CU h)
theorem pK {p:κ×V} {r:List (κ×V)} {k:κ} (e:p.1=k):bE (p::r) k=bE r k:=by
 unfold bE;rw[ZV,if_neg (by simp[e])]
theorem k7 {p:κ×V} {r:List (κ×V)} {k:κ} (e:¬p.1=k):bE (p::r) k=p::bE r k:=by
 unfold bE;rw[ZV,if_pos (by simp[e])]
theorem yQ:∀{kvs:List (κ×V)} {k:κ},¬k∈kvs.map (·.1)->bE kvs k=kvs
 | [],_,_=>rfl
 |p::r,k,h=>by
  have h':¬k∈r.map (·.1):=λm=>by
   obtain⟨q,hq,e⟩:=Q7.mp m;exact h (Q7.mpr ⟨q,Qg.mpr (Or.inr hq),e⟩)
  rw[k7 λe=>h (Q7.mpr ⟨p,Qg.mpr (Or.inl rfl),e⟩),yQ h']
theorem vG {kvs:List (κ×V)} {k:κ} {p:κ×V} (h:p∈bE kvs k):p∈kvs:=(X1.mp h).1
theorem nS:∀{kvs:List (κ×V)} {k:κ},(kvs.map (·.1)).Nodup->((bE kvs k).map (·.1)).Nodup
 | [],_,_=>Zi
 |p::r,k,h=>by
  have h:(p.1::r.map (·.1)).Nodup:=h;obtain⟨h1,h2⟩:=QN.mp h;by_cases e:p.1=k
  .rw[pK e];exact nS h2
  .rw[k7 e];show(p.1::(bE r k).map (·.1)).Nodup;refine QN.mpr ⟨λm=>h1 ?_,nS h2⟩;obtain⟨q,hq,z⟩:=Q7.mp m;exact Q7.mpr ⟨q,vG hq,z⟩
theorem vH:∀{kvs:List (κ×V)} {k:κ},(kvs.map (·.1)).Nodup->k∈kvs.map (·.1)->(bE kvs k).length+1=kvs.length
 | [],_,_,m=>by simp at m
 |p::r,k,h,m=>by
  have h:(p.1::r.map (·.1)).Nodup:=h;have m:k=p.1\/k∈r.map (·.1):=Qg.mp m;obtain⟨h1,h2⟩:=QN.mp h;by_cases e:p.1=k
  .subst e;rw[pK rfl,yQ h1]
   all_goals rfl
  .have m':k∈r.map (·.1):=m.resolve_left λz=>e z.symm;have q:=vH h2 m';rw[k7 e,Qf,Qf];lia
end
end
section
theorem a7:bootBuiltins "len"=some (.builtin "len"):=by decide+kernel
theorem bC:bootBuiltins "isinstance"=some (.builtin "isinstance"):=by decide+kernel
theorem xu:bootBuiltins "min"=some (.builtin "min"):=by decide+kernel
theorem dt:bootBuiltins "sorted"=some (.builtin "sorted"):=by decide+kernel
theorem Ef:bootBuiltins "int"=some (.type "int"):=by decide+kernel
theorem FX:bootBuiltins "bool"=some (.type "bool"):=by decide+kernel
theorem tN:bootBuiltins "str"=some (.type "str"):=by decide+kernel
theorem Ag:bootBuiltins "max"=some (.builtin "max"):=by decide+kernel
theorem FW:bootBuiltins "list"=some (.type "list"):=by decide+kernel
theorem Hy:PySem.W.kitOne K (.type "int") (.type "int")=some true:=by kernel_rfl
theorem Hz:PySem.W.kitOne K (.type "int") (.type "bool")=some false:=by kernel_rfl
theorem i5 [Decidable c] (hc:c) (h:A):if decide c=true then A else B:=by
 rw[decide_eq_true hc];exact dM h
theorem bL [Decidable c] (hc:¬c) (h:B):if decide c=true then A else B:=by
 rw[decide_eq_false hc];exact cq h
theorem HG [Decidable c] (hc:¬c) (h:A):if(!decide c)=true then A else B:=by
 rw[decide_eq_false hc];exact dM h
theorem i6 {xs:List V} (Pv:Nat->St->Hp->Prop) (O:Pv 0 σ H) (hl:∀i σ H,i<=xs.length->Pv i σ H->SqL K H a xs)
  (U:∀i x σ H,xs[i]?=some x->Pv i σ H->g x σ H λz H2=>tb ⟨Pv (i+1),rt,nx,Pv (i+1)⟩ z H2) (hd:∀σ H,Pv xs.length σ H->nx σ H):
  ∃W:Nat->Nat->St->Hp->Prop,(∃m,W 0 m σ H)/\∀i m σ H,W i m σ H->
   ((Itl K a).stop i H/\nx σ H)\/((Itl K a).go i H/\∃N:St->Hp->Prop,(∀I H',N I H'->∃m',m'<m/\W (i+1) m' I H')/\∀x H',(Itl K a).yld i H x H'->g x σ H' λz H2=>tb ⟨N,rt,nx,N⟩ z H2):=
 D6 (D:=⟨nx,rt,λ_ _=>False,λ_ _=>False⟩) Pv O hl U hd
theorem tD {lo:Int} (Pv:Nat->St->Hp->Prop) (O:Pv 0 σ H)
  (U:∀i σ H,i<n->Pv i σ H->g (.int (lo+i)) σ H λz H2=>tb ⟨Pv (i+1),rt,nx,Pv (i+1)⟩ z H2) (hd:∀σ H,Pv n σ H->nx σ H):
  ∃W:Nat->Nat->St->Hp->Prop,(∃m,W 0 m σ H)/\∀i m σ H,W i m σ H->
   ((Itr lo n).stop i H/\nx σ H)\/((Itr lo n).go i H/\∃N:St->Hp->Prop,(∀I H',N I H'->∃m',m'<m/\W (i+1) m' I H')/\∀x H',(Itr lo n).yld i H x H'->g x σ H' λz H2=>tb ⟨N,rt,nx,N⟩ z H2):=
 vC (D:=⟨nx,rt,λ_ _=>False,λ_ _=>False⟩) Pv O U hd
theorem tM {k:Int} (I:0<=k) (h:k<(ns.length:Int)):atI (ns.map V.int) k=some (.int (ns.getD k.toNat 0)):=by
 obtain⟨j,rfl⟩:=Z2 I;refine xD ?_;have z:j<ns.length:=by lia
 rw[Qc,Q3 z,QT,Ql,Q3 z];rfl
section
theorem eZ:dw X (.builtin "isinstance") (λxs H Q=>∃x n t b,xs=[x,.ty n]/\TyOf X.K H x t/\PySem.W.kitOne X.K t (.type n)=some b/\Q (.bl b) H):=by
 intro pins s σ H xs us Q I r h;obtain⟨x,n,t,b,rfl,ty,e,q⟩:=h;obtain⟨u,w',rfl,O,z⟩:=qP r;cases (show w'=Value.type n from z);exact vA I O ty e λtk=>⟨.bl b,H,I.tok _,rfl,q⟩
end
theorem fsc {P:List Str} {sc:Scope} (a:sc.kind= .function:=by rfl) (b:sc.isCoroutine=false:=by rfl) (c:sc.isGenerator=false:=by rfl) (d:N.Nodup:=by decide+kernel) (e:N.take P.length=P:=by rfl) (f:∀x∈P,sc.names.lookup x=some .local\/sc.names.lookup x=some .cell:=by decide+kernel) (g:∀y∈sc.names,y.2≠ .free:=by decide+kernel):ar N P sc:=⟨a,b,c,d,e,f,g⟩
theorem Room.mo {j k:Nat} {A:Around} (r:Room k A) (h:j<=k:=by decide):Room j A:=r.mono h
theorem Fun.okl {mg:Str->Option Value} {ps:List Str} {k:Nat} (F:Fun K x qual st f fd) (S:ar N ps (ak st))
  (z:∀(I:Value) (A:Around) (outer:List Env) (s:Shared) (H:Hp) (vs:List V) (Q:VK) (E:XK),Room k (A.deeper (envOfC qual (ak st) s.heap.objs.size f I))->sp vs H Q E->
   let X:=(ot CX0 P w K mg base N qual (ak st) f I A outer s H E).nox
   ∃t,PSs X (cp st) t/\t {nx:=λ_ H'=>Q .non H',rt:=Q} (start N vs) H)
  (len:∀vs H Q E,sp vs H Q E->vs.length=ps.length:=by intro _ _ _ _ h;repeat (first|(obtain⟨rfl,_⟩:=h;exact rfl)|obtain⟨_,h⟩:=h)):aV P w K mg base CX0 (k+1) f fd ps sp:=F.ok S len z
section
variable {rest A B:List Stmt} {t:TS}
theorem aH (h:PS X st t) (k:Φ t):∃v,PSs X [st] v/\Φ v:=⟨_,aA h,k⟩
theorem aj (h:PS X st t) (k:∃u,PSs X rest u/\(let B:=u;Φ (C3 t B))):∃v,PSs X (st::rest) v/\Φ v:=by
 obtain⟨u,hu,k⟩:=k;exact⟨_,r9 h hu,k⟩
theorem vj (z:∀{x},PSs X A x->PS X st (F x)) (k:∃a,PSs X A a/\(let b:=a;Φ (F b))):∃v,PSs X [st] v/\Φ v:=by
 obtain⟨a,ha,k⟩:=k;exact⟨_,aA (z ha),k⟩
theorem dn (z:∀{x},PSs X A x->PS X st (F x)) (k:∃a,PSs X A a/\(let b:=a;∃u,PSs X rest u/\(let B:=u;Φ (C3 (F b) B)))):∃v,PSs X (st::rest) v/\Φ v:=by
 obtain⟨a,ha,u,hu,k⟩:=k;exact⟨_,r9 (z ha) hu,k⟩
theorem IW {F:TS->TS->TS} (z:∀{x y},PSs X A x->PSs X B y->PS X st (F x y)) (k:∃a,PSs X A a/\(let b:=a;∃c,PSs X B c/\(let d:=c;Φ (F b d)))):∃v,PSs X [st] v/\Φ v:=by
 obtain⟨a,ha,c,hc,k⟩:=k;exact⟨_,aA (z ha hc),k⟩
end
end
end L2
namespace SW
variable {m n s:Int} {a b:Nat}
def rv:Nat->Nat->Nat
 |0,_=>0
 |k+1,n=>(n%2)*2^k+rv k (n/2)
theorem Av:∀(k n:Nat),rv k n<2^k
 |0,_=>by simp[rv]
 |k+1,n=>by
  have h:=Av k (n/2);have m:n%2<2:=Nat.mod_lt _ (by decide);have e:rv (k+1) n=(n%2)*2^k+rv k (n/2):=rfl;have p:2^(k+1)=2*2^k:=by rw[ZH,ZP]
  rw[e,p];rcases Nat.mod_two_eq_zero_or_one n with z|z<;>rw[z]<;>lia
theorem wA:∀(k n:Nat),rv (k+1) n=rv k n*2+(n/2^k)%2
 |0,n=>by simp[rv]
 |k+1,n=>by
  have h:=wA k (n/2);have z:rv (k+2) n=(n%2)*2^(k+1)+rv (k+1) (n/2):=rfl;have e2:rv (k+1) n=(n%2)*2^k+rv k (n/2):=rfl;have d:n/2/2^k=n/2^(k+1):=by
   rw[Xe,ZH,ZP]
  rw[z,e2,h,d,ZH];rw[Nat.add_mul,Nat.mul_assoc];lia
theorem De:∀(k n:Nat),rv k (n%2^k)=rv k n
 |0,_=>rfl
 |k+1,n=>by
  have p:2^(k+1)=2*2^k:=by rw[ZH,ZP]
  have z:n%2^(k+1)%2=n%2:=by
   rw[p];exact Nat.mod_mul_right_mod n 2 (2^k)
  have e2:n%2^(k+1)/2=n/2%2^k:=by
   rw[p];exact Nat.mod_mul_right_div_self n 2 (2^k)
  show(n%2^(k+1)%2)*2^k+rv k (n%2^(k+1)/2)=(n%2)*2^k+rv k (n/2);rw[z,e2,De k (n/2)]
theorem Au:∀k,rv k 0=0
 |0=>rfl
 |k+1=>by show(0%2)*2^k+rv k (0/2)=0;rw[Nat.zero_div,Au k];simp
theorem rX:∀(a b n:Nat),rv (a+b) n=rv a n*2^b+rv b (n/2^a)
 |0,b,n=>by simp[rv]
 |a+1,b,n=>by
  have h:=rX a b (n/2);have e:a+1+b=(a+b)+1:=by lia
  have d:n/2/2^a=n/2^(a+1):=by
   rw[Xe,ZH,ZP]
  rw[e];show(n%2)*2^(a+b)+rv (a+b) (n/2)=((n%2)*2^a+rv a (n/2))*2^b+_;rw[h,d,Nat.add_mul,Nat.mul_assoc,<-Nat.pow_add];lia
theorem Dd:∀(k n:Nat),rv k (rv k n)=n%2^k
 |0,n=>by simp[rv,Nat.mod_one]
 |k+1,n=>by
  have e:rv (k+1) n=rv k n*2+(n/2^k)%2:=wA k n;have z:(rv k n*2+(n/2^k)%2)%2=(n/2^k)%2:=by lia
  have e2:(rv k n*2+(n/2^k)%2)/2=rv k n:=by lia
  rw[e];show(rv k n*2+(n/2^k)%2)%2*2^k+rv k ((rv k n*2+(n/2^k)%2)/2)=n%2^(k+1);rw[z,e2,Dd k n,ZH,Nat.mod_mul,ZP (2^k)];lia
theorem Ha {n:Nat}:rv (a+b) n/2^b=rv a n:=by
 have l:=Av b (n/2^a);rw[rX a b n,ZP,Nat.mul_add_div (Nat.two_pow_pos b),Nat.div_eq_of_lt l,ZQ]
theorem Fg {s:Nat} (h:s<2^a):rv (a+b) s=rv a s*2^b:=by
 rw[rX a b s,Nat.div_eq_of_lt h,Au,ZQ]
@[irreducible] def tz (n:Int):Int:=((rv 16 n.toNat:Nat):Int)
@[irreducible] def rz (a:Nat) (n:Int):Int:=((rv a n.toNat:Nat):Int)
theorem oW (n:Int):0<=tz n:=by unfold tz;exact Xz _
theorem Gk (n:Int):tz n<65536:=by
 have h:=Av 16 n.toNat;have e:(2:Nat)^16=65536:=by decide
 unfold tz;lia
theorem Ar (z:0<=n) (h1:n<65536):tz (tz n)=n:=by
 have h:=Dd 16 n.toNat;have e:(2:Nat)^16=65536:=by decide
 unfold tz;rw[QT,h,e];lia
theorem GT (z:0<=n) (h1:n<65536) (k0:0<=m) (k1:m<65536) (e:tz n=tz m):n=m:=by
 rw[<-Ar z h1,<-Ar k0 k1,e]
theorem Bz (i:Nat) (m:Nat):((rv i m:Nat):Int)*2+((m/2^i:Nat):Int)%2=((rv (i+1) m:Nat):Int):=by
 rw[wA];lia
theorem BA (i:Nat) (m:Nat):((m/2^i:Nat):Int)/2=((m/2^(i+1):Nat):Int):=by
 have d:m/2^i/2=m/2^(i+1):=by rw[Xe,ZH]
 rw[<-d];lia
theorem BK (a:Nat) (n:Int):0<=rz a n:=by unfold rz;exact Xz _
theorem IM (a:Nat) (n:Int):rz a n<2^a:=by
 have h:=Av a n.toNat;unfold rz;have c:((rv a n.toNat:Nat):Int)<((2^a:Nat):Int):=by exact_mod_cast h
 simpa using c
theorem IL (a:Nat) (I:0<=n) (h1:n<2^a):rz a (rz a n)=n:=by
 obtain⟨m,rfl⟩:=Z2 I;have h:=Dd a m;have z:m<2^a:=by exact_mod_cast h1
 unfold rz;rw[QT,QT,h,Nat.mod_eq_of_lt z]
theorem E8 (z:a+b=16) (O:0<=s) (h1:s<2^a):tz s=rz a s*2^b:=by
 obtain⟨m,rfl⟩:=Z2 O;have I:m<2^a:=by exact_mod_cast h1
 have h:=Fg (b:=b) I;rw[z]at h;unfold tz rz;rw[QT,h];simp
theorem GS (z:a+b=16) (I:0<=m):tz m/2^b=rz a (m%2^a):=by
 obtain⟨n,rfl⟩:=Z2 I;have h:=Ha (a:=a) (b:=b) (n:=n);rw[z]at h;have e:((n:Int)%2^a).toNat=n%2^a:=by
  have c:((n:Int)%2^a)=((n%2^a:Nat):Int):=by simp
  rw[c,QT]
 unfold tz rz;rw[QT,e,De,<-h];simp
structure Row (S:Int) (a b:Nat):Prop where
 ab:a+b=16
 lo:2<=a
 hi:a<=9
 eq:S=2^a
section
variable {S:Int} (R:Row S a b)
include R
theorem Row.mul:S*2^b=65536:=by
 rw[R.eq,<-Int.pow_add,R.ab];decide
theorem Row.wpos:(0:Int)<2^b:=Int.pow_pos (by decide)
theorem Row.pos:0<S:=by rw[R.eq];exact Int.pow_pos (by decide)
theorem Row.width:65536/S=2^b:=by
 rw[<-R.mul,Int.mul_ediv_cancel_left _ (Z7 R.pos)]
theorem Row.wpos':0<65536/S:=by rw[R.width];exact R.wpos
theorem Row.slot (I:0<=s) (h1:s<S):tz s=2^b*rz a s/\0<=rz a s/\rz a s<S/\rz a (rz a s)=s:=by
 have z:s<2^a:=by rw[<-R.eq];exact h1
 refine⟨by rw[E8 R.ab I z,XG],BK _ _,by rw[R.eq];exact IM _ _,IL _ I z⟩
theorem Row.top (z:0<=m):2^b*rz a (m%S)<=tz m/\tz m<2^b*rz a (m%S)+2^b:=by
 have d:=GS R.ab z;rw[<-R.eq]at d;have e:=Xl (tz m) (2^b);have p:=QC (tz m) (Z7 R.wpos);have q:=QE (tz m) R.wpos;rw[d]at e;lia
theorem Row.mod0 (m:Int):0<=m%S:=QC _ (Z7 R.pos)
theorem Row.mod1 (m:Int):m%S<S:=QE _ R.pos
theorem Row.between {W x y p:Int} (z:0<W) (I:W*x<=p) (h1:p<W*x+W) (k0:W*y<=p) (k1:p<W*y+W):x=y:=by
 rcases Int.lt_trichotomy x y with h|h|h
 .have:W*(x+1)<=W*y:=XZ (by lia) (Int.le_of_lt z);rw[Int.mul_add]at this;lia
 .exact h
 .have:W*(y+1)<=W*x:=XZ (by lia) (Int.le_of_lt z);rw[Int.mul_add]at this;lia
theorem Row.st_has (z:0<=m):tz (m%S)<=tz m/\tz m<tz (m%S)+65536/S:=by
 obtain⟨e,_⟩:=R.slot (R.mod0 m) (R.mod1 m);have t:=R.top z;rw[R.width,e];exact t
end
theorem mK {k:Nat} (h:k<=6):Row (4*2^k) (k+2) (14-k):=by
 refine⟨by lia,by lia,by lia,?_⟩;rw[Int.pow_add];lia
end SW
namespace L2
open PySem PySem.Spec PyProof.Rows
variable {C T f:Addr} {old:Addr->Prop} {A:Around} {g:Array GenState} {vs:Array Value} {ab:Bool} {d:Drawn} {base h:Heap} {φ:Heap->Prop} {H:Hp} {l:List Addr} {outer:List Env} {N sn:List Str} {bm sub us:List Value} {M:Model} {t:Nat} {dd od:Option Addr} {col:Option Bool} {os:OsState} {P prog:Program} {K:PySem.W.Frag} {R:Result->Shared->Prop} {s s':Shared} {qual:Str} {Q:Unit->Shared->Prop} {e:Value} {E W:Value->Shared->Prop} {w:World}
section
abbrev aY (C:Addr) (od:Option Addr) (vs:Array Value):Obj:={cls:= .ref C,dict:=od,data:= .fields vs}
def Trc (h:Heap) (e:Addr) (vs:Array Value) (T:Addr) (fl:Value):Prop:=
 vs[1]?=some (.ref T)/\T≠e/\∃oT ts,h.get? T=some oT/\oT.data= .fields ts/\ts[3]?=some fl
structure Noted (l:List Addr) (e:Addr) (old:Addr->Prop) (h h':Heap):Prop where
 keep:∀b o,h.get? b=some o->b∉l->b≠e->¬old b->h'.get? b=some o
 slot:∀b o,h.get? b=some o->b∈l->b≠e->¬old b->∃sl,h'.get? b=some {o with slots:=sl}
 there:∀b o,h.get? b=some o->∃o',h'.get? b=some o'
section
variable {env:Env} {L e:Addr}
theorem HS (hl:s.heap.FunFrames base (env::outer)) (he:s.heap.get? e=some (aY C od vs)):e∉frs (env::outer):=λz=>by
 obtain⟨_,o,I,O⟩:=hl.mem z;cases he.symm.trans I;exact O vs rfl
theorem sL {I:Value} {a0:Bool} (a1:A.frames=some (env::outer)) (hl:s.heap.FunFrames base (env::outer)) (hf:env.frame=some L) (he:s.heap.get? e=some (aY C od vs)) (hsz:1<vs.size)
  (q:∀h' T O,Noted (frs (env::outer)) e (λ_=>False) s.heap h'->h'.get? e=some (aY C od O)->(O.size=vs.size/\O[2]?=vs[2]?)->s.heap.objs.size<=T->Trc h' e O T (rawInt L)->Q () {s with heap:=h'}):
  wpAny M A (do let a<-frameOf env;let pl<-entryPlaceOf L a0;let b<-EntryCells.newEntry I a .none (rawInt L) .none pl;setField (.ref e) 1 b) Q E s:=by
 have nf:e∉(env::outer).filterMap (·.frame):=HS hl he;refine wpAny_bind (wpAny_frameOf_fun a1 hl hf λh1 U=>?_);refine wpAny_bind (wpAny_entryPlaceOf λpl ip=>?_);unfold EntryCells.newEntry newFields;refine wpAny_bind (wpAny_newObj_type ?_ (ip.sizeOk5 _ _ _ _ _));have e1:h1.get? e=some (aY C od vs):=(U.2.1 e nf).trans he;have big:3<([I,Value.ref L,.none,rawInt L,.none]++(if pl.isEmpty then List.replicate 6 Value.none else pl)).toArray.size:=by
  simp only[Qh,Qd,Qf,K0];lia
 have Y:([I,Value.ref L,.none,rawInt L,.none]++(if pl.isEmpty then List.replicate 6 Value.none else pl)).toArray[3]?=some (rawInt L):=by simp
 generalize ([I,Value.ref L,.none,rawInt L,.none]++(if pl.isEmpty then List.replicate 6 Value.none else pl)).toArray=ts at big Y;generalize eo:({cls:= .type "traceback",dict:=none,data:= .fields ts}:Obj)=oT;have e2:(h1.push oT).get? e=some (aY C od vs):=Heap.get?_push_of_some _ e1;have ne:h1.objs.size≠e:=XC (Heap.lt_size e1);refine wpAny_setField e2 rfl hsz (q _ h1.objs.size (vs.setIfInBounds 1 (.ref h1.objs.size)) ⟨λb o Z g2 g3 _=>?_,λb o Z _ g3 _=>?_,λb o Z=>?_⟩ ?_ ⟨Array.size_setIfInBounds,by simp⟩ (ZG U.1.symm) ⟨by simp[hsz],ne,oT,ts,?_,by rw[<-eo],Y⟩)
 .rw[Heap.get?_update_other _ _ (Ne.symm g3)];exact Heap.get?_push_of_some _ ((U.2.1 b g2).trans Z)
 .obtain⟨sl,r⟩:=U.2.2 b o Z;exact⟨sl,(Heap.get?_update_other _ _ (Ne.symm g3)).trans (Heap.get?_push_of_some _ r)⟩
 .by_cases z:b=e
  .subst z;exact⟨_,Heap.get?_update_self _ e2 rfl⟩
  .obtain⟨sl,r⟩:=U.2.2 b o Z;exact⟨_,(Heap.get?_update_other _ _ (Ne.symm z)).trans (Heap.get?_push_of_some _ r)⟩
 .exact Heap.get?_update_self _ e2 rfl
 .rw[Heap.get?_update_other _ _ (Ne.symm ne),<-eo];exact Heap.get?_push_size h1 rfl
theorem zS (I:A.frames=some (env::outer)) (hl:s.heap.FunFrames base (env::outer)) (hf:env.frame=some L) (he:s.heap.get? e=some (aY C od vs)) (h1:vs[1]?=some .none)
  (q:∀h' T z,Noted (frs (env::outer)) e (λ_=>False) s.heap h'->h'.get? e=some (aY C od z)->(z.size=vs.size/\z[2]?=vs[2]?)->s.heap.objs.size<=T->Trc h' e z T (rawInt L)->Q () {s with heap:=h'}):
  wpAny M A (noteFrame (.ref e) env) Q E s:=by
 unfold noteFrame;simp only[hf];refine wpAny_bind (wpAny_field he rfl h1 ?_);rw[if_neg (by decide)];exact sL I hl hf he (ZB.mp h1).1 q
theorem BY (a0:A.frames=some (env::outer)) (hl:s.heap.FunFrames base (env::outer)) (hf:env.frame=some L) (he:s.heap.get? e=some (aY C od vs)) (tr:Trc s.heap e vs T .none)
  (q:∀h' T' I,Noted (frs (env::outer)) e (· =T) s.heap h'->h'.get? e=some (aY C od I)->(I.size=vs.size/\I[2]?=vs[2]?)->s.heap.objs.size<=T'->Trc h' e I T' (rawInt L)->Q () {s with heap:=h'}):
  wpAny M A (noteFrame (.ref e) env) Q E s:=by
 obtain⟨h1,ne,oT,ts,Z,hd,h3⟩:=tr;unfold noteFrame;simp only[hf];refine wpAny_bind (wpAny_field he rfl h1 ?_);rw[if_pos (show(Value.ref T !=Value.none)=true by simp)];refine wpAny_bind (wpAny_field Z hd h3 ?_);rw[if_neg (show ¬(Value.none==rawInt L)=true by simp[rawInt])];have O:∀b,b≠T->(s.heap.update T (Obj.mapFields (·.setIfInBounds 3 Value.none))).get? b=s.heap.get? b:=λb z=>Heap.get?_update_other _ _ (Ne.symm z);have nofr:∀b o,s.heap.get? b=some o->(∀ws,o.data≠ .fields ws)->b≠T:=λb o U Y z=>by
  subst z;cases Z.symm.trans U;exact Y ts hd
 refine wpAny_bind (wpAny_setField Z hd (ZB.mp h3).1 ?_);refine sL a0 (hl.of_keeps λb o U Y=>⟨o,(O b (nofr b o U Y)).trans U,rfl⟩) hf ((O e (Ne.symm ne)).trans he) (ZB.mp h1).1 λh' T' I n U Y g3 g4=>?_;refine q h' T' I ⟨λb o k1 k2 k3 k4=>n.keep b o ((O b k4).trans k1) k2 k3 id,λb o k1 k2 k3 k4=>n.slot b o ((O b k4).trans k1) k2 k3 id,λb o k1=>?_⟩ U Y (by rw[Heap.size_after_update]at g3;exact g3) g4;by_cases z:b=T
 .subst z;exact n.there b _ (Heap.get?_update_self _ Z (Obj.isFreed_of_fields (Obj.data_mapFields hd _)))
 .exact n.there b o ((O b z).trans k1)
theorem tF {l:List Addr} {fl:Value} (he:s.heap.get? e=some (aY C od vs)) (Y:Trc s.heap e vs T fl)
  (q:∀h',(∀b o,b≠T->s.heap.get? b=some o->h'.get? b=some o)->h'.get? e=some (aY C od vs)->(∃o,h'.get? T=some o)->h'.objs.size=s.heap.objs.size->Trc h' e vs T .none->Q () {s with heap:=h'}):
  wpAny M A (setFlight (.ref e) none) Q E s:=by
 obtain⟨h1,O,oT,ts,U,hd,Z⟩:=Y;have big:3<ts.size:=(ZB.mp Z).1;unfold setFlight;refine wpAny_bind (wpAny_field he rfl h1 ?_);rw[if_pos (show(Value.ref T !=Value.none)=true by simp)];have I:∀b,b≠T->(s.heap.update T (Obj.mapFields (·.setIfInBounds 3 ((none:Option Addr).elim Value.none λf=>rawInt f)))).get? b=s.heap.get? b:=λb z=>Heap.get?_update_other _ _ (Ne.symm z);have new:=Heap.get?_update_self (Obj.mapFields (·.setIfInBounds 3 ((none:Option Addr).elim Value.none λf=>rawInt f))) U (Obj.isFreed_of_fields (Obj.data_mapFields hd _));exact wpAny_setField U hd big (q _ (λb o z g=>(I b z).trans g) ((I e (Ne.symm O)).trans he) ⟨_,new⟩ (Heap.size_after_update ..) ⟨h1,O,_,_,new,Obj.data_mapFields hd _,by simp[big]⟩)
end
end
section
def XN (e C:Addr) (od:Option Addr):HO:= .ext λh=>∃t,h.get? e=some (aY C od #[.ref t,.none,.none,.none,.bool false,.none])
def XO (e C:Addr) (od:Option Addr):HO:= .ext λh=>∃vs,h.get? e=some (aY C od vs)/\1<vs.size
section
variable {h':Heap} {e:Addr}
theorem CN {t:Addr} (k:h.get? e=some (aY C od #[.ref t,.none,.none,.none,.bool false,.none])):ObjOk P w H h e (XN e C od):=
 ⟨⟨t,k⟩,⟨_,k⟩,λ_ _ ⟨t,k⟩ st=>⟨t,st _ k⟩⟩
theorem Gj (k:h.get? e=some (aY C od vs)) (z:1<vs.size):ObjOk P w H h e (XO e C od):=
 ⟨⟨vs,k,z⟩,⟨_,k⟩,λ_ _ ⟨vs,k,z⟩ st=>⟨vs,st _ k,z⟩⟩
theorem CO (ok:HOk P w H h) (q:H e=some (XN e C od)):∃t,h.get? e=some (aY C od #[.ref t,.none,.none,.none,.bool false,.none]):=(ok e _ q).1
theorem Noted.hok (n:Noted l e old h h') (ok:HOk P w H h) (hl:∀b∈l,H b=none) (O:∀b,old b->H b=none) (he:H e=some (.ext φ))
  (new:h'.get? e=some (aY C od vs)) (z:1<vs.size):HOk P w (upd H e (XO e C od)) h':=λb u q=>by
 by_cases hb:b=e
 .subst hb;rw[ai]at q;cases q;exact Gj new z
 .rw[ag hb]at q;have I:∀c v,H c=some v->c≠e->∀o,h.get? c=some o->h'.get? c=some o:=λc v r U o g=>
   n.keep c o g (λm=>by rw[hl c m]at r;cases r) U λm=>by rw[O c m]at r;cases r
  refine(ok b u q).stay (λc v hc r=>?_) (λc r=>?_) λc xs r=>?_
  .rcases hc with rfl|hc
   .exact I _ _ q hb v r
   .exact I _ _ hc (λm=>by rw[m,he]at hc;cases hc) v r
  .rw[ag (λm=>by rw[m,he]at r;cases r)];exact r
  .rw[ag (λm=>by rw[m,he]at r;cases r)];exact r
theorem Noted.un {ch:List Addr} {o':HO} (n:Noted l e old h h') (hc:∀b,old b->b∈ch) (he:H e=some (.ext φ)):Un l ch H (upd H e o') h h':=by
 have I:∀b,H b=none->b≠e:=λb r z=>by rw[z,he]at r;cases r
 refine⟨λb o g r m k=>n.keep b o g m (I b r) λz=>k (hc b z),λb o g r m k=>n.slot b o g m (I b r) λz=>k (hc b z),λb o _ r _=>by rw[ag (I b r)];exact r,λb o g _=>n.there b o g,λb xs r=>?_,λb o u r=>?_,λb ps r=>⟨#[],?_⟩⟩
 .rw[ag (λm=>by rw[m,he]at r;cases r)];exact r
 .rw[ag (λm=>by rw[m,he]at r;cases r)];exact r
 .rw[ag (λm=>by rw[m,he]at r;cases r),r];simp
end
def CX1 (P:Program) (w:World):CXT:=λouter H s E e s'=>∃(ea C:Addr) (od:Option Addr) (vs:Array Value) (T:Addr) (H':Hp),
 e= .ref ea/\s'.os=s.os/\AllBare s'.gens/\Un (frs outer) [] H H' s.heap s'.heap/\HOk P w H' s'.heap/\H' ea=some (XO ea C od)/\s'.heap.get? ea=some (aY C od vs)/\1<vs.size/\
 Trc s'.heap ea vs T .none/\H' T=none/\s.heap.objs.size<=T/\E (.ref ea) od H'
end
section
theorem xQ {a:Addr} {o:HO} (h:H a=some o):upd H a o=H:=by
 funext b;by_cases z:b=a
 .subst z;rw[ai,h]
 .rw[ag z]
def Eo (X:Cx) (E:St->XK) (e:Value) (s:Shared):Prop:=∃(pins:List (Addr×Obj)) (σ:St) (H:Hp) (ea C:Addr) (od:Option Addr) (vs:Array Value) (φ:Heap->Prop),
 e= .ref ea/\Inv X pins σ H s/\H ea=some (.ext φ)/\s.heap.get? ea=some (aY C od vs)/\1<vs.size/\(vs[1]?=some .none\/∃T,Trc s.heap ea vs T .none/\lh X pins H T)/\E σ (.ref ea) od (upd H ea (XO ea C od))
section
variable {X:Cx} {pins:List (Addr×Obj)} {σ:St}
theorem zR {ea:Addr} (I:Inv X pins σ H s) (U:X.stack=X.env::X.outer) (hf:X.env.frame=some X.env.locals) (hA:A.frames=some X.stack)
  (hx:H ea=some (.ext φ)) (hr:s.heap.get? ea=some (aY C od vs)) (hz:1<vs.size) (ht:vs[1]?=some .none\/(∃T,Trc s.heap ea vs T .none/\lh X pins H T)\/∃T,Trc s.heap ea vs T (rawInt X.env.locals)/\lh X pins H T)
  (q:∀s' O T,Inv X pins σ (upd H ea (XO ea C od)) s'->s'.heap.get? ea=some (aY C od O)->1<O.size->Trc s'.heap ea O T .none->lh X pins (upd H ea (XO ea C od)) T->O[2]?=vs[2]?->Q () s'):
  wpAny M A (noteFrame (.ref ea) X.env) (λ_ s1=>wpAny M A (setFlight (.ref ea) none) Q W s1) W s:=by
 rw[U]at hA;have hl:s.heap.FunFrames X.base (X.env::X.outer):=U▸I.stack;have Y:∀b∈frs (X.env::X.outer),H b=none:=U▸I.stkFree;have fin:∀(old:Addr->Prop) (ch:List Addr) (h1:Heap) (T':Addr) (O:Array Value),(∀b,old b↔b∈ch)->(∀b∈ch,lh X pins H b)->Noted (frs (X.env::X.outer)) ea old s.heap h1->h1.get? ea=some (aY C od O)->(O.size=vs.size/\O[2]?=vs[2]?)->
   s.heap.objs.size<=T'->Trc h1 ea O T' (rawInt X.env.locals)->wpAny M A (setFlight (.ref ea) none) Q W {s with heap:=h1}:=by
  intro old ch h1 T' O a0 a1 n g1 Z g3 g4;refine tF (l:=[]) (s:={s with heap:=h1}) g1 g4 λh2 k1 k2 k3 k4 k5=>?_;have nT:∀b o,s.heap.get? b=some o->b≠T':=λb o g z=>absurd (Heap.lt_size g) (XA.mpr (z▸g3));have n2:Noted (frs (X.env::X.outer)) ea old s.heap h2:=⟨λb o r1 r2 r3 r4=>k1 b o (nT b o r1) (n.keep b o r1 r2 r3 r4),λb o r1 r2 r3 r4=>by
    obtain⟨sl,r⟩:=n.slot b o r1 r2 r3 r4;exact⟨sl,k1 b _ (nT b o r1) r⟩,λb o r1=>by
    obtain⟨o',r⟩:=n.there b o r1;exact⟨o',k1 b _ (nT b o r1) r⟩⟩
  have a2:HOk X.prog X.w (upd H ea (XO ea C od)) h2:=n2.hok I.hok Y (λb z=>(a1 b ((a0 b).mp z)).1) hx k2 (Z.1▸hz);have a3:Un (frs X.stack) ch H (upd H ea (XO ea C od)) s.heap h2:=by
   rw[U];exact n2.un (λb z=>(a0 b).mp z) hx
  have I2:Inv X pins σ (upd H ea (XO ea C od)) {s with heap:=h2}:=I.call' (s':={s with heap:=h2}) rfl a3 a2 I.bare λb hb=>by
   obtain⟨z1,z2,z3,z4,z5,z6⟩:=a1 b hb;exact⟨z4,z2,z5,z6⟩
  refine q _ O T' I2 k2 (Z.1▸hz) k5 (I.fpOk g3 ?_) Z.2;have neT:T'≠ea:=Ne.symm (nT ea _ hr);rw[ag neT];exact I.hok.fresh g3
 rcases ht with h1|⟨T,tr,fp⟩|⟨T,tr,fp⟩
 .exact zS hA hl hf hr h1 λh1 T' O n g1 Z g3 g4=>fin (λ_=>False) [] h1 T' O (λb=>by simp) (λb z=>nomatch z) n g1 Z g3 g4
 .exact BY hA hl hf hr tr λh1 T' O n g1 Z g3 g4=>fin (· =T) [T] h1 T' O (λb=>by simp) (λb z=>by rw[Qa.mp z];exact fp) n g1 Z g3 g4
 .obtain⟨h1,ne,oT,ts,hT,hd,h3⟩:=id tr;refine wpAny_noteFrame_inFlight hf hr rfl h1 hT hd h3 ?_;refine tF (l:=[]) hr tr λh' k1 k2 k3 k4 k5=>?_;have I1:Inv X pins σ H {s with heap:=h'}:=I.turned (t':=s.toks) (it:=T) k1 fp.1 fp.2.1 fp.2.2.2.1 fp.2.2.2.2.1 fp.2.2.2.2.2;have I2:Inv X pins σ (upd H ea (XO ea C od)) {s with heap:=h'}:=I1.write (x:=ea) (e:=ea) (t':=s.toks) (by rw[hx];exact True.intro) (.inl rfl) (λ_ _ _ e=>e) ⟨_,k2⟩ (Gj k2 hz);exact q _ vs T I2 k2 hz k5 ⟨by rw[ag ne];exact fp.1,fp.2.1,fp.2.2.1,fp.2.2.2.1,fp.2.2.2.2.1,fp.2.2.2.2.2⟩ rfl
theorem BZ {ea:Addr} (I:Inv X pins σ H s) (U:X.stack=X.env::X.outer) (hf:X.env.frame=some X.env.locals) (Y:A.frames=some X.stack)
  (hx:H ea=some (.ext φ)) (Z:s.heap.get? ea=some (aY C od vs)) (hz:1<vs.size) (ht:vs[1]?=some .none\/∃T,Trc s.heap ea vs T .none/\lh X pins H T)
  (q:∀s' O T,Inv X pins σ (upd H ea (XO ea C od)) s'->s'.heap.get? ea=some (aY C od O)->1<O.size->Trc s'.heap ea O T .none->lh X pins (upd H ea (XO ea C od)) T->Q () s'):
  wpAny M A (noteFrame (.ref ea) X.env) (λ_ s1=>wpAny M A (setFlight (.ref ea) none) Q W s1) W s:=
 zR I U hf Y hx Z hz (ht.imp id .inl) λs' O T I' r z t f _=>q s' O T I' r z t f
theorem Inv.thrown {E:XK} (I:Inv X pins σ H s) (h:CX1 X.prog X.w X.stack H s E e s'):∃(ea C:Addr) (od:Option Addr) (vs:Array Value) (H':Hp),e= .ref ea/\Inv X pins σ H' s'/\H' ea=some (XO ea C od)/\
  s'.heap.get? ea=some (aY C od vs)/\1<vs.size/\(∃T,Trc s'.heap ea vs T .none/\lh X pins H' T)/\E (.ref ea) od H':=by
 obtain⟨ea,C,od,vs,T,H',rfl,os,bare,un,hok,hx,O,hz,U,Y,Z,q⟩:=h;exact⟨ea,C,od,vs,H',rfl,I.call' os un hok bare λb z=>absurd z (by simp),hx,O,hz,⟨T,U,I.fpOk Z Y⟩,q⟩
theorem Inv.flies {E:XK} {F:St->XK} (I:Inv X pins σ H s) (h:CX1 X.prog X.w X.stack H s E e s') (k:∀v od H',E v od H'->F σ v od H'):Eo X F e s':=by
 obtain⟨ea,C,od,vs,H',rfl,z,hx,O,hz,U,q⟩:=I.thrown h;exact⟨pins,σ,H',ea,C,od,vs,_,rfl,z,hx,O,hz,.inr U,by rw[xQ hx];exact k _ _ _ q⟩
end
section
variable {mg:Str->Option Value} {scope:Scope} {cd:Value} {E:XK}
theorem yD (h:Eo (ot (CX1 P w) P w K mg base N qual scope f cd A outer s H E) (λ_=>E) e s'):(ot (CX1 P w) P w K mg base N qual scope f cd A outer s H E).xe e s':=by
 obtain⟨pins,σ,H1,ea,C,od,vs,φ,rfl,I,hx,Z,hz,ht,q⟩:=h;show wpAny _ _ (leaving _ (.ref ea)) _ _ s';unfold leaving;refine wpAny_bind (BZ I rfl rfl I.ok.frames hx Z hz ht λs2 U T O r2 z2 t2 Y=>?_);refine⟨ea,C,od,U,T,_,rfl,O.os,O.bare,O.base,O.hok,ai,r2,z2,t2,Y.1,?_,q⟩;rcases Y.2.2.2.1 with z|z
 .exact absurd (show T∈([]:List Addr) from z) (by simp)
 .exact z
theorem AB:eL (CX1 P w) (ot (CX1 P w) P w K mg base N qual scope f cd A outer s H E) E:=
 λ_ _ _ _ _ _ I h=>yD (I.flies h λ_ _ _ q=>q)
theorem Fun.okX {x:Str} {st:Stmt} {fd:FuncData} {ps:List Str} {k:Nat} {sp:Sp} (F:Fun K x qual st f fd) (S:ar N ps (ak st)) (len:∀vs H Q E,sp vs H Q E->vs.length=ps.length)
  (I:∀(z:Value) (A:Around) (outer:List Env) (s:Shared) (H:Hp) (vs:List V) (Q:VK) (E:XK),Room k (A.deeper (envOfC qual (ak st) s.heap.objs.size f z))->sp vs H Q E->
   ∃t,PSs (ot (CX1 P w) P w K mg base N qual (ak st) f z A outer s H E) (cp st) t/\t {nx:=λ_ H'=>Q .non H',rt:=Q} (start N vs) H):aV P w K mg base (CX1 P w) (k+1) f fd ps sp:=by
 obtain⟨oc,od,kV,Y,pm,an,z,ct,Z,rfl,lk,O⟩:=F.ex;exact AY lk O S len λA outer s H vs Q E hr U=>I z A outer s H vs Q E hr U
end
end
section
abbrev vBase:List Value:=[.type "ValueError",.type "Exception",.type "BaseException",.type "object"]
def ExcMro (bm:List Value):Prop:=∃ups:List Addr,bm=ups.map Value.ref++vBase
theorem ExcMro.typ (B:ExcMro bm) (T:String):bm.contains (.type T)=vBase.contains (.type T):=by
 obtain⟨z,rfl⟩:=B
 induction z with
 |nil=>rfl
 |cons a r I=>rw[Qo,Xa,Zj,I];rfl
theorem ExcMro.val (B:ExcMro bm):bm.contains (.type "ValueError")=true:=(B.typ _).trans (by decide+kernel)
theorem ExcMro.bas (B:ExcMro bm):bm.contains (.type "BaseException")=true:=(B.typ _).trans (by decide+kernel)
theorem ExcMro.att (B:ExcMro bm):bm.contains (.type "AttributeError")=false:=(B.typ _).trans (by decide+kernel)
theorem ExcMro.nam (B:ExcMro bm):bm.contains (.type "NameError")=false:=(B.typ _).trans (by decide+kernel)
theorem ExcMro.obj (B:ExcMro bm):bm.contains (.type "object")=true:=(B.typ _).trans (by decide+kernel)
theorem ExcMro.pass (B:ExcMro bm) (self:Value):refuseLoop self "__setattr__" bm=pure ():=by
 obtain⟨z,rfl⟩:=B
 induction z with
 |nil=>exact PySem.F.store_ValueError.passes self
 |cons a r I=>rw[Qo,Xa,refuseLoop_ref];exact I
structure XCls (K:PySem.W.Frag) (C:Addr) (bm:List Value):Prop where
 ob:∃nm q N bs sn sub ab col dd k0 k1 k2 k3 k5,K.lookup C=some (excClassObj nm q C N bs bm true sn sub ab col dd k0 k1 k2 k3 k5 "ValueError.__new__")
 mro:ExcMro bm
 kp:PySem.W.keepIn K (.ref C)=true
 ga:PySem.W.findIn K (.ref C) "__getattribute__"=some (some (.builtin "BaseException.__getattribute__"))
 gn:PySem.W.findIn K (.ref C) "__getattr__"=some none
 sa:PySem.W.findIn K (.ref C) "__setattr__"=some (some (.builtin "object.__setattr__"))
section
variable {nm q:Str} {N:Addr} {bs:List Value} {k0 k1 k2 k3 k5:Option Value}
abbrev cE (C t:Addr):Obj:=aY C none #[.ref t,.none,.none,.none,.bool false,.none]
abbrev jf (us:List Value):Obj:={cls:= .type "tuple",data:= .seq us.toArray}
theorem FS {rest:List Value} (B:ExcMro bm) (z:h.get? C=some (excClassObj nm q C N bs bm true sn sub ab col dd k0 k1 k2 k3 k5 "ValueError.__new__")) (hz:rest.length<=sizeLine)
  (hq:R (.ok (.ret (.ref (h.objs.size+1)))) ⟨(h.push (jf rest)).push (cE C h.objs.size),g,d,t,os⟩):
  codeAny (model prog w) A (.call (.builtin "ValueError.__new__") ⟨.ref C::rest,[]⟩) R ⟨h,g,d,t,os⟩:=by
 have F:=X6;have O:(Value.ref C::bm).contains (.type "ValueError")=true:=by rw[Zj,B.val,XH]
 have U:(Value.ref C::bm).contains (.type "AttributeError")=false:=by rw[Zj,B.att];rfl
 have Y:(Value.ref C::bm).contains (.type "NameError")=false:=by rw[Zj,B.nam];rfl
 have st:=F.noStar;have Z:=F.ends;refine codeAny_call_builtin_code (Code.quiet_builtin _ F.quiet) ?_;simp only[checkBuiltinCall,F.newKind,F.newSplit,F.newRow]
 repeat (first|refine wpAny_loadPart_at z ?_|(refine wpAny_isSubtype_exc z ?_;rw[O])|refine wpAny_staticBase_exc z ?_|refine wpAny_madeBy_exc z ?_|simp only[bne_self_eq_false,Z0,if_false]|wp_step)
 refine codeAny_builtinAt F.entry ?_;unfold Builtin.«BaseException.__new__»;refine PySem.wpAt_bind ?_;show PySem.wpAt _ _ _ (stack>>=_) _ _ _;refine PySem.wpAt_bind (PySem.wpAt_stack λp I=>PySem.wpAt_of_wpAny ?_)
 wp_walk
 refine PySem.wpAt_of_wpAny ?_;rw[F.owner]
 repeat (first|with_reducible refine wpAny_madeHere_exc F.canon z ?_|with_reducible refine wpAny_loadPart_at z ?_|(with_reducible refine wpAny_isSubtype_exc z ?_;first|rw[O]|rw[U]|rw[Y])|wp_step)
 show R _ _;rw[Heap.size_push];exact hq
open PySem.W in
theorem yM {O:Value} (X:K.In h) (Y:XCls K C bm) (hz:us.length<=sizeLine) (hi:findIn K (.ref C) "__init__"=some (some O)) (hf:∀self,Looks (model prog w) h (bindSpecial O self) (O,[self]))
  (hq:codeAny (model prog w) (A.under (.builtin "type.__call__" ⟨.ref C::us,[]⟩)) (.call O ⟨.ref (h.objs.size+1)::us,[]⟩) (InitBack (h.objs.size+1) R) ⟨(h.push (jf us)).push (cE C h.objs.size),g,d,t,os⟩):
  codeAny (model prog w) A (.call (.ref C) ⟨us,[]⟩) R ⟨h,g,d,t,os⟩:=by
 obtain⟨nm,q,N,bs,sn,sub,ab,col,dd,k0,k1,k2,k3,k5,hK⟩:=Y.ob;have I:=X _ _ hK;have B:=Y.mro;have Z:(Value.ref C::bm).contains (.ref C)=true:=by simp
 have hl:=looks_findIn (M:=model prog w) X hi;have f1:=tc_lookup;have f2:=tc_bind (.ref C);have hT:(⟨h,g,d,t,os⟩:Shared).TypeIs (.ref C) "type":=⟨_,I,rfl⟩;refine codeAny_of_tree ?_;show wpAny _ _ (callAny (.ref C) _) _ _ _
 repeat (any_goals (first|assumption|with_reducible refine wpAny_loadPart_at I ?_|wp_step))
 refine⟨rfl,?_⟩;refine codeAny_call_builtin_at (Code.quiet_builtin _ (by decide+kernel)) entry_typeCall (wpAny_check_type_call_sub I ?_)
 repeat (first|with_reducible refine wpAny_loadPart_at I ?_|with_reducible refine wpAny_madeBy_exc I ?_|wp_step)
 refine FS B I hz ?_;show wpAny _ (A.under (.builtin "type.__call__" ⟨.ref C::us,[]⟩)) _ _ _ ⟨(h.push (jf us)).push (cE C h.objs.size),g,d,t,os⟩;have k:∀b o,h.get? b=some o->((h.push (jf us)).push (cE C h.objs.size)).get? b=some o:=λb o e=>Heap.get?_push_of_some _ (Heap.get?_push_of_some _ e);have he:((h.push (jf us)).push (cE C h.objs.size)).get? (h.objs.size+1)=some (cE C h.objs.size):=by heap_get
 have U:=k _ _ I;have a0:=hl.keeps k;have fb:=(hf (.ref (h.objs.size+1))).keeps k;have t1:Looks (model prog w) ((h.push (jf us)).push (cE C h.objs.size)) (typeOf (.ref (h.objs.size+1))) (.ref C):=(Looks.ld he).andThen .now;have s1:Looks (model prog w) ((h.push (jf us)).push (cE C h.objs.size)) (isSubtype (.ref C) (.ref C)) true:=λA' Q' E' s' kk z=>by
  obtain⟨hp,g',d',t',a1⟩:=s';exact wpAny_isSubtype_exc (kk _ _ U) (by rw[Z];exact z)
 unfold isInstance callSpecial? specialOf
 repeat (first|simp only[Z,Bool.not_true,Z0,if_false]|with_reducible refine wpAny_call ?_|lk)
 refine codeAny_mono hq λr s' z=>?_;rcases r with e|(v|_|_|_)<;>first|exact z|exact z.elim|skip
 obtain⟨rfl,z⟩:=z;exact wpAny_pure (wpAny_pure z)
end
end
section
section
variable {nm q:Str} {N:Addr} {bs:List Value} {k0 k1 k2 k3 k5:Option Value}
theorem yN {e:Addr} {t0:Addr} (B:ExcMro bm) (O:h.get? C=some (excClassObj nm q C N bs bm true sn sub ab col dd k0 k1 k2 k3 k5 "ValueError.__new__"))
  (he:h.get? e=some (aY C od #[.ref t0,.none,.none,.none,.bool false,.none])) (hz:us.length<=sizeLine)
  (hq:∀h',(∀b o,b≠e->h.get? b=some o->h'.get? b=some o)->h'.get? e=some (aY C od #[.ref h.objs.size,.none,.none,.none,.bool false,.none])->R (.ok (.ret .none)) ⟨h',g,d,t,os⟩):
  codeAny (model prog w) A (.call (.builtin "ValueError.__init__") ⟨.ref e::us,[]⟩) R ⟨h,g,d,t,os⟩:=by
 have F:=X6;have U:(Value.ref C::bm).contains (.type "ValueError")=true:=by rw[Zj,B.val,XH]
 have st:=F.noStar;refine codeAny_call_builtin F.init.plain F.initEntry ?_;simp only[checkBuiltinCall,F.initKind,F.initSplit,F.initRow]
 repeat (first|with_reducible refine wpAny_loadPart_at he ?_|with_reducible refine wpAny_loadPart_at O ?_|(with_reducible refine wpAny_isSubtype_exc O ?_;rw[U])|wp_step)
 refine wpAny_onRaise ?_;rw[show ∀(a b:String) (n:Nat),Bind.check ⟨.positional,"*","ValueError",.self,[⟨"args",.varPos,false⟩]⟩ a b n (List.map (λx=>x.fst) ({pos:=Value.ref e::us}:Args).kw)=pure () from λa b n=>check_star_args _ _ _ _ _ _];refine wpAny_pure ?_
 wp_walk
 have I:(h.push (jf us)).get? e=some (aY C od #[.ref t0,.none,.none,.none,.bool false,.none]):=Heap.get?_push_of_some _ he;refine hq _ (λb o z k=>?_) ?_
 .rw[Heap.get?_update_other _ _ (Ne.symm z)];exact Heap.get?_push_of_some _ k
 .exact Heap.get?_update_self _ I rfl
end
end
end L2
namespace L2
open PySem PySem.Spec PyProof.Rows PySem.W
variable {vs:Array Value} {Q:Unit->Shared->Prop} {E:Value->Shared->Prop}
section
variable {prog:Program} {w:World} {A:Around} {s:Shared} {K:PySem.W.Frag} {e C:Addr} {bm:List Value}
theorem XCls.cd (Y:XCls K C bm):∃cd,clsIn K C=some cd/\cd.mro= .ref C::bm/\cd.hasDict=true:=by
 obtain⟨nm,q,N,bs,sn,sub,ab,col,dd,k0,k1,k2,k3,k5,hK⟩:=Y.ob;exact⟨_,by unfold clsIn;rw[hK],rfl,rfl⟩
theorem XCls.inst (Y:XCls K C bm) (X:K.In s.heap) {od:Option Addr} (he:s.heap.get? e=some (aY C od vs)) (T:String) (I:bm.contains (.type T)=true):Looks (model prog w) s.heap (isInstance (.ref e) (.type T)) true:=by
 obtain⟨cd,hc,z,_⟩:=Y.cd;refine((Looks.ld he).andThen .now:Looks (model prog w) s.heap (typeOf (.ref e)) (.ref C)).andThen (looks_mroIn X ?_);unfold mroIn;rw[hc,Option.bind_some,if_neg (by rw[z];exact Qj),z,Zj,I,XH]
theorem FR {name:Str} {v:Value} (X:K.In s.heap) (Y:XCls K C bm) (hn:findIn K (.ref C) name=some none) (he:s.heap.get? e=some (aY C none vs))
  (hq:∀h' tk,(∀b o,b≠e->s.heap.get? b=some o->h'.get? b=some o)->h'.get? e=some (aY C (some s.heap.objs.size) vs)->h'.Ns1 s.heap.objs.size (λy=>if y=name then some v else none)->Q () {s with heap:=h',toks:=tk}):
  wpAny (model prog w) A (setAttr (.ref e) name v) Q E s:=by
 have O:=PySem.F.store_object;obtain⟨cd,hc,hm,hd⟩:=Y.cd;have I:InstAt s.heap e (aY C none vs) C none:=⟨he,rfl,rfl,True.intro⟩;have ty:Looks (model prog w) s.heap (typeOf (.ref e)) (.ref C):=I.type;have mo:Looks (model prog w) s.heap (mroOf (.ref C)) (.ref C::bm):=hm▸(looks_clsIn X hc).andThen .now;refine set_plain X I Y.sa (codeAny_call_builtin O.slot.plain O.entry (@check_slot (model prog w) _ _ {s with toks:=s.toks+1} "object.__setattr__" "object" "__setattr__" (.ref e) [.str name s.toks,v] [] _ O.kind O.split (Y.inst X he "object" Y.mro.obj) (O.args (.ref e) (.str name s.toks) v) ?_));obtain⟨h,g,d,t,os⟩:=s;rw[osa_eq,refuse_eq];refine wpAny_bind (wpAny_bind (ty.at (wpAny_bind (mo.at ?_))));rw[refuseLoop_ref,Y.mro.pass];have U:=looks_findIn (M:=model prog w) (h:=h) X hn;refine wpAny_pure (wpAny_bind (ty.at (wpAny_bind (U.at (wpAny_bind (wpAny_pure ?_))))));have e1:(h.push {cls:= .type "dict",data:= .dict #[]}).get? e=some (aY C none vs):=Heap.get?_push_of_some _ he;have ne:e≠h.objs.size:=Qx (Heap.lt_size he);have C1:=looks_clsIn (M:=model prog w) (h:=h) X hc;show wpAny _ _ (Builtin.ObjectAttr.storeInOwnDict _ _ _ _ _ _) _ _ _;unfold Builtin.ObjectAttr.storeInOwnDict Builtin.ObjectAttr.ownDictForStores
 repeat (first|with_reducible refine wpAny_loadPart_at he ?_|lk|wp_step)
 have eg:((h.push {cls:= .type "dict",data:= .dict #[]}).update e λo=>{cls:=o.cls,dict:=some h.objs.size,data:=o.data,slots:=o.slots}).get? h.objs.size=some {cls:= .type "dict",data:= .dict #[]}:=
  (Heap.get?_update_ne _ _ _ _ ne.symm).trans (Heap.get?_push_at rfl rfl)
 have en:((h.push {cls:= .type "dict",data:= .dict #[]}).update e λo=>{cls:=o.cls,dict:=some h.objs.size,data:=o.data,slots:=o.slots}).Ns h.objs.size (λ_=>none):=
  ⟨_, #[],_,eg,rfl,λx hx=>absurd hx (by simp),λ_=>rfl⟩
 have ee:((h.push {cls:= .type "dict",data:= .dict #[]}).update e λo=>{cls:=o.cls,dict:=some h.objs.size,data:=o.data,slots:=o.slots}).get? e=some (aY C (some h.objs.size) vs):=Heap.get?_update_self _ e1 rfl;refine wpAny_update' e1 ?_;refine wpAny_pure ?_;show wpAny _ _ (Builtin.ObjectAttr.storeInDict h.objs.size (.str name t) name v) _ _ _;unfold Builtin.ObjectAttr.storeInDict Builtin.ObjectAttr.newKeyGuard;refine wpAny_bind (wpAny_pure (wpAny_bind (wpAny_nsSet1 (Heap.Ns1.of_empty en) λh2 n2 sb=>?_)));obtain⟨oD,a2,a3,Z,a0,a1⟩:=n2.count (Within.cons name v Within.nil);refine wpAny_bind (wpAny_lookBehind Z (by rw[a0];exact pastItsLine_dict (QL a1 (by rw[Qf,K0,sizeLine_eq];lia))) (wpAny_pure ?_));exact hq h2 _ (λb o z k=>(sb.2 b (Qx (Heap.lt_size k))).trans ((Heap.get?_update_ne _ _ _ _ z).trans (Heap.get?_push_of_some _ k))) ((sb.2 e ne).trans ee) n2
end
end L2
namespace L2
open PySem PySem.Spec PyProof.Rows PySem.W
variable {E:Value->Shared->Prop}
section
variable {prog:Program} {w:World} {A:Around} {s:Shared} {K:PySem.W.Frag} {e C:Addr} {bm:List Value}
structure XIs (K:PySem.W.Frag) (C:Addr):Prop where
 ha:findIn K (.ref C) "__class__"=some (some (.builtin "object.__class__"))
 hn:specialIn K (.builtin "object.__class__") "__get__"=some (some (.builtin "getset_descriptor.__get__"))
 tk:takesIn K (.builtin "object.__class__")=some true
 hm:mroIn K C (.type "object")=some true
end
end L2
namespace L2
open PySem PySem.Spec PyProof.Rows PySem.W
def Ew (H:Hp) (e:Addr) (od:Option Addr) (C:Addr) (fs:List (Str×V)):Prop:=H e=some (XO e C od)/\((fs=[]/\od=none)\/∃dx,od=some dx/\H dx=some (.xd fs))
section
variable {X:Cx} {pins:List (Addr×Obj)} {σ:St} {H:Hp} {s:Shared}
theorem jN (K:PySem.W.Frag) (hK:X.K=K):dw X (.builtin "isinstance") (λxs H Q=>∃x D t b,xs=[x,.ref D]/\TyOf K H x t/\kitOne K t (.ref D)=some b/\Q (.bl b) H):=by
 subst hK;intro pins s σ H xs us Q I r h;obtain⟨x,D,t,b,rfl,ty,e,q⟩:=h;obtain⟨u,w',rfl,O,z⟩:=qP r;cases (show w'=Value.ref D from z);exact vA I O ty e λtk=>⟨.bl b,H,I.tok _,rfl,q⟩
end
end L2
namespace L2
open PySem PySem.Spec PyProof.Rows PySem.W
variable {C:Addr} {φ:Heap->Prop} {us:List Value}
section
variable {X:Cx} {pins:List (Addr×Obj)} {σ:St} {H:Hp} {s:Shared}
theorem Inv.madeX (I:Inv X pins σ H s):Inv X pins σ (upd H (s.heap.objs.size+1) (XN (s.heap.objs.size+1) C none)) {s with heap:=(s.heap.push (jf us)).push (cE C s.heap.objs.size)}:=
 I.laid (t':=s.toks) (λb o e=>Heap.get?_push_of_some _ (Heap.get?_push_of_some _ e)) (Zg _) (CN (t:=s.heap.objs.size) (by heap_get))
def C5 (C:Addr) (sp:Sp) (dvs:List V) (E:XK) (t:TA):TE:=λσ H Q=>t σ H λvs H1=>vs.length<=1000/\∀e,H1 e=none->sp (.ref e::(vs++dvs)) (upd H1 e (XN e C none)) (λv H2=>v= .non/\Q (.ref e) H2) E
def As (C:Addr) (t:TA):TE:=λσ H Q=>t σ H λvs H1=>vs.length<=1000/\∀e,H1 e=none->Q (.ref e) (upd H1 e (XN e C none))
variable {CX:CXT} {k:Nat} {f:Addr} {fd:FuncData} {ps:List Str} {sp:Sp} {dvs:List V} {ds:List Value} {E:XK} {x m:Str} {p pos apos:Pos} {e o:Expr} {es:List Expr} {ta:TE} {t:TA} {bm:List Value}
theorem BL {Q:VK} {vs:List V} (Y:XCls X.K C bm) (hi:findIn X.K (.ref C) "__init__"=some (some (.ref f))) (hf:isFn X.K (.ref f)=true) (F:aV X.prog X.w X.K X.mg X.base CX k f fd ps sp) (hr:Room (k+1) X.A) (hb:Binds X.K fd ps ds) (hd:Vals dvs ds)
  (hx:eL CX X E) (I:Inv X pins σ H s) (r:Vals vs us) (hz:vs.length<=1000)
  (h:∀e,H e=none->sp (.ref e::(vs++dvs)) (upd H e (XN e C none)) (λv H2=>v= .non/\Q (.ref e) H2) E):wpAny (model X.prog X.w) X.A (call (.ref C) us) (EP X pins σ Q) X.xe s:=by
 have hq:=h (s.heap.objs.size+1) (I.hok.fresh (Zg _));have U:=Inv.madeX (C:=C) (us:=us) I;have r2:Vals (V.ref (s.heap.objs.size+1)::(vs++dvs)) (Value.ref (s.heap.objs.size+1)::(us++ds)):= .cons rfl (r.append hd);have hl:(Value.ref (s.heap.objs.size+1)::us++ds).length=ps.length:=by
  have z:=r2.length;rw[F.len _ _ _ _ hq]at z;exact z.symm
 have a0:us.length<=sizeLine:=by rw[<-r.length];exact Zd (bP hz)
 obtain⟨Z,g0,d0,t0,o0⟩:=s;refine wpAny_call (yM I.kIn Y a0 hi (λself=>bind_fn I.kIn self (beq_iff_eq.mp hf)) (codeAny_mono (F.run _ X.stack _ _ ⟨Value.ref (Z.objs.size+1)::us,[]⟩ (Value.ref (Z.objs.size+1)::(us++ds)) _ _ E (hr.make C us [])
  (U.env0.make C us []) (hb _ (Value.ref (Z.objs.size+1)::us) U.kIn hl) r2 hq) λr s' O=>?_))
 cases r with
 |error e=>exact hx pins σ _ _ e s' U O
 |ok fl=>
  cases fl with
  |ret u=>
   obtain⟨v,H',I3,rv,ev,q3⟩:=U.after O;subst ev;exact⟨rv,⟨V.ref (Z.objs.size+1),H',I3,rfl,q3⟩⟩
  |next=>exact False.elim O
  |brk=>exact False.elim O
  |cont=>exact False.elim O
theorem yg (Y:XCls X.K C bm) (hi:findIn X.K (.ref C) "__init__"=some (some (.ref f))) (hf:isFn X.K (.ref f)=true) (F:aV X.prog X.w X.K X.mg X.base CX k f fd ps sp) (Z:Room (k+1) X.A) (hg:Gl X x) (hm:X.mg x=some (.ref C)) (hb:Binds X.K fd ps ds) (hd:Vals dvs ds) (hx:eL CX X E)
  (ha:PA X (e::es) t) (z:(x==("__debug__":Str))=false:=by decide) (he:starEach (e::es) X.env=(false,eval e X.env)::starEach es X.env:=by rfl) (O:(backTo pos (starEach es X.env)).any (·.1)=false:=by rfl):
  PE X (.Call (.Name x p) (e::es) [] pos) (C5 C sp dvs E t):=by
 intro pins s σ H Q I h;refine wpAny_Call_Name_kw (gR I hg hm ?_ z);refine Zu (h₀:=X.base) I.ok.mod.kin Y.kp (thn (ha pos pins s σ H _ I h) λus s1 ⟨vs,H1,U,r,hz,q⟩=>⟨U.kIn,?_⟩) he O;exact BL Y hi hf F Z hb hd hx U r hz q
theorem Inv.rewrite {ea:Addr} {od:Option Addr} {z:Addr} {h':Heap} {tk:Nat} (I:Inv X pins σ H s) (hx:H ea=some (.ext φ)) (k:∀b o,b≠ea->s.heap.get? b=some o->h'.get? b=some o)
  (new:h'.get? ea=some (aY C od #[.ref z,.none,.none,.none,.bool false,.none])):Inv X pins σ (upd H ea (XN ea C od)) {s with heap:=h',toks:=tk}:=
 I.write (x:=ea) (e:=ea) (by rw[hx];exact True.intro) (.inl rfl) k ⟨_,new⟩ (CN new)
theorem iV (Y:XCls X.K C bm) (hi:findIn X.K (.ref C) "__init__"=some (some (.builtin "ValueError.__init__"))) (hg:Gl X x) (hm:X.mg x=some (.ref C))
  (ha:PA X (e::es) t) (U:(x==("__debug__":Str))=false:=by decide) (he:starEach (e::es) X.env=(false,eval e X.env)::starEach es X.env:=by rfl) (Z:(backTo pos (starEach es X.env)).any (·.1)=false:=by rfl):
  PE X (.Call (.Name x p) (e::es) [] pos) (As C t):=by
 intro pins s σ H Q I h;refine wpAny_Call_Name_kw (gR I hg hm ?_ U);refine Zu (h₀:=X.base) I.ok.mod.kin Y.kp (thn (ha pos pins s σ H _ I h) λus s1 ⟨vs,H1,O,r,hz,q⟩=>⟨O.kIn,?_⟩) he Z;have z:us.length<=sizeLine:=by rw[<-r.length];exact Zd (bP hz)
 have I2:=Inv.madeX (C:=C) (us:=us) O;have q2:=q (s1.heap.objs.size+1) (O.hok.fresh (Zg _));obtain⟨nm,q',N,bs,sn,sub,ab,col,dd,k0,k1,k2,k3,k5,hK⟩:=Y.ob;have hC:=I2.kIn _ _ hK;obtain⟨h0,g0,d0,t0,o0⟩:=s1;refine wpAny_call (yM O.kIn Y z hi (λself=>Looks.of_pure (X6.init.bind self)) ?_);refine yN Y.mro hC (t0:=h0.objs.size) (by heap_get) z λh' k' n'=>⟨rfl,?_⟩;have I3:=I2.rewrite (C:=C) (od:=none) (tk:=t0) ai k' n';rw[bM]at I3;exact⟨V.ref (h0.objs.size+1),_,I3,rfl,q2⟩
end
end L2
namespace L2
open PySem PySem.Spec PyProof.Rows PySem.W
variable {f:Addr} {A:Around} {Q:Flow->Shared->Prop} {H:Hp} {pos:Pos} {s:Shared} {ta:TE} {W:Value->Shared->Prop} {E:XK}
structure Bp (K:PySem.W.Frag) (C:Addr) (m:Str) (v:Value):Prop where
 sp:specialIn K (.ref C) "__getattribute__"=some (some (.builtin "type.__getattribute__"))
 rd:readsIn K C (.type "type")=true
 at_:findCls K (.ref C) (.type "type") m=some (.val v)
section
variable {X:Cx} {pins:List (Addr×Obj)} {σ:St}
variable {CX:CXT} {k:Nat} {C:Addr} {fd:FuncData} {ps:List Str} {sp:Sp} {dvs:List V} {ds:List Value} {x m:Str} {p apos:Pos} {e o:Expr} {es:List Expr} {t:TA} {bm:List Value}
theorem Fy {pl:Sem Bool} (Z:Gl X x) (hm:X.mg x=some (.ref C)) (hc:Bp X.K C m (.ref f)) (hk:PySem.W.keepIn X.K (.ref f)=true) (F:aV X.prog X.w X.K X.mg X.base CX k f fd ps sp) (hr:Room k X.A) (hb:Binds X.K fd ps ds) (hd:Vals dvs ds) (hx:eL CX X E) (ha:PA X (e::es) t)
  (z:(x==("__debug__":Str))=false:=by decide)
  (O:starEach (e::es) X.env=(false,eval e X.env)::starEach es X.env:=by rfl) (U:(backTo pos (starEach es X.env)).any (·.1)=false:=by rfl)
  (ht:eval (.Call (.Attribute (.Name x p) m apos) (e::es) [] pos) X.env=(do
   let ov<-eval (.Name x p) X.env
   standAt apos.atName
   let(f,first)<-holding [ov] (getMethod ov m pl)
   callWith pos f first (backTo pos (starEach (e::es) X.env)) (backToKw pos (keywordEach [] X.env))):=by rfl):
  PE X (.Call (.Attribute (.Name x p) m apos) (e::es) [] pos) (Gq sp dvs E t):=by
 intro pins s σ H Q I h;refine ZT (pl:=pl) (gR I Z hm ?_ z) ht;refine method_cls I.kIn hc.sp (cls_value I.kIn hc.rd hc.at_ rfl ?_);refine Zu (first:=[]) (h₀:=X.base) I.ok.mod.kin hk (thn (ha pos pins _ σ H _ (I.tok _) h) λus s2 ⟨vs,H2,Y,r,q2⟩=>⟨Y.kIn,?_⟩) O U;exact wB F hr hb hd hx Y r q2
def IE (K:PySem.W.Frag) (t:TA):TE:=λσ H Q=>t σ H λvs H1=>∃ea C od r bm,vs= .ref ea::r/\r.length<=1000/\H1 ea=some (XN ea C od)/\XCls K C bm/\Q .non H1
theorem AA {pl:Sem Bool} (hg:Gl X x) (hm:X.mg x=some (.ref C)) (hc:Bp X.K C m (.builtin "ValueError.__init__")) (ha:PA X (e::es) t)
  (z:(x==("__debug__":Str))=false:=by decide)
  (O:starEach (e::es) X.env=(false,eval e X.env)::starEach es X.env:=by rfl) (U:(backTo pos (starEach es X.env)).any (·.1)=false:=by rfl)
  (ht:eval (.Call (.Attribute (.Name x p) m apos) (e::es) [] pos) X.env=(do
   let ov<-eval (.Name x p) X.env
   standAt apos.atName
   let(f,first)<-holding [ov] (getMethod ov m pl)
   callWith pos f first (backTo pos (starEach (e::es) X.env)) (backToKw pos (keywordEach [] X.env))):=by rfl):
  PE X (.Call (.Attribute (.Name x p) m apos) (e::es) [] pos) (IE X.K t):=by
 intro pins s σ H Q I h;refine ZT (pl:=pl) (gR I hg hm ?_ z) ht;refine method_cls I.kIn hc.sp (cls_value I.kIn hc.rd hc.at_ (by decide+kernel) ?_);have hA:=ha pos pins _ σ H _ (I.tok (s.toks+1)) h;show wpAny _ _ (callWith pos (.builtin "ValueError.__init__") [] (backTo pos (starEach (e::es) X.env)) []) _ _ _;rw[O]at hA⊢;refine Calls.callWith_builtin (by show(false||(backTo pos (starEach es X.env)).any (·.1))=false;rw[U]<;>rfl) (Calls.evalArgs_plain ?_);refine thn hA λus s2 Z=>?_;obtain⟨vs,H2,I2,r2,ea,C',od,r,bm,ev,hz,hx,Y,q2⟩:=Z;subst ev;obtain⟨nm,q',N,bs,sn,sub,ab,col,dd,k0,k1,k2,k3,k5,hK⟩:=Y.ob;have hC:=I2.kIn _ _ hK;cases r2 with
 | @cons _ u _ a0 r0 r1=>
  cases (show u=Value.ref ea from r0);obtain⟨t0,he⟩:=CO I2.hok hx;obtain⟨h0,g0,d0,a1,o0⟩:=s2;refine wpAny_call (yN (us:=a0) Y.mro hC he (by rw[<-r1.length];exact Zd (bP hz)) λh' k' n'=>?_);have I3:=I2.rewrite (C:=C') (od:=od) (tk:=a1) hx k' n';rw[xQ hx]at I3;exact⟨V.non,H2,I3,rfl,q2⟩
theorem Inv.newfld {ea:Addr} {t1:Addr} {fn:Str} {y:V} {u:Value} {h':Heap} {tk:Nat} (I:Inv X pins σ H s) (hx:H ea=some (XN ea C none)) (k:∀b o,b≠ea->s.heap.get? b=some o->h'.get? b=some o)
  (new:h'.get? ea=some (aY C (some s.heap.objs.size) #[.ref t1,.none,.none,.none,.bool false,.none])) (hn:h'.Ns1 s.heap.objs.size (λz=>if z=fn then some u else none)) (ry:RelV y u):
  Inv X pins σ (upd (upd H s.heap.objs.size (.xd [(fn,y)])) ea (XN ea C (some s.heap.objs.size))) {s with heap:=h',toks:=tk}:=by
 have nd:H s.heap.objs.size=none:=I.hok.fresh (Q4 _);have ne:ea≠s.heap.objs.size:=λz=>by rw[z,nd]at hx;cases hx
 have U:∀b v,H b=some v->b≠ea->upd (upd H s.heap.objs.size (.xd [(fn,y)])) ea (XN ea C (some s.heap.objs.size)) b=some v:=λb v q z=>by
  rw[ag z,ag (ao q nd)];exact q
 have un:∀b,H b=none->b≠s.heap.objs.size->upd (upd H s.heap.objs.size (.xd [(fn,y)])) ea (XN ea C (some s.heap.objs.size)) b=none:=λb q z=>by
  rw[ag (λw=>by rw[w,hx]at q;cases q),ag z];exact q
 have Y:∀b,H b=none->b≠ea:=λb q z=>by rw[z,hx]at q;cases q
 have lt:∀b o,s.heap.get? b=some o->b≠s.heap.objs.size:=λb o q=>Qx (Heap.lt_size q);refine I.un (t':=tk) ⟨λb o O Z _ _=>k b o (Y b Z) O,λb o O Z _ _=>⟨o.slots,k b o (Y b Z) O⟩,λb o O Z _=>un b Z (lt b o O),λb o O _=>?_,λb xs O=>U b _ O λz=>(by rw[z,hx]at O;cases O),λb o v O=>U b _ O λz=>(by rw[z,hx]at O;cases O),λb ps O=>⟨#[],?_⟩⟩ λb v q=>?_
 .by_cases z:b=ea
  .exact⟨_,z▸new⟩
  .exact⟨o,k b o z O⟩
 .rw[U b _ O λz=>(by rw[z,hx]at O;cases O)];simp
 .by_cases z:b=ea
  .subst z;rw[ai]at q;cases q;exact CN new
  .rw[ag z]at q;by_cases z2:b=s.heap.objs.size
   .subst z2;rw[ai]at q;cases q;refine⟨_,hn,λg=>?_⟩;show RelO (List.lookup g [(fn,y)]) (if g=fn then some u else none);by_cases z3:g=fn
    .subst z3;rw[if_pos rfl];show RelO (match g==g with|true=>some y|false=>none) (some u);rw[beq_self_eq_true];exact ry
    .rw[if_neg z3];show RelO (match g==fn with|true=>some y|false=>none) none;rw[beq_eq_false_iff_ne.mpr z3];exact True.intro
   .rw[ag z2]at q;refine(I.hok b v q).stay (λc w hc r=>k c w ?_ r) (λc r=>U c _ r λz=>(by rw[z,hx]at r;cases r)) λc xs r=>U c _ r λz=>(by rw[z,hx]at r;cases r);rcases hc with rfl|hc
    .exact z
    .exact λz=>by rw[z,hx]at hc;cases hc
def II (K:PySem.W.Frag) (ta tv:TE) (f:Str):TS:=λD σ H=>tv σ H λy H1=>ta σ H1 λx H2=>∃ea C bm,x= .ref ea/\H2 ea=some (XN ea C none)/\XCls K C bm/\NoAttr K C f/\∀dx,H2 dx=none->D.nx σ (upd (upd H2 dx (.xd [(f,y)])) ea (XN ea C (some dx)))
theorem Ay {o value:Expr} {tv:TE} {f:Str} {pos':Pos} (ha:PE X o ta) (U:PE X value tv) (Z:swapsWith value (some (.Attribute o f pos')) pos.line X.env=pure false):PS X (.Assign [.Attribute o f pos'] value pos) (II X.K ta tv f):=by
 intro pins s σ H D I h;refine plainObj_wpAny_Assign_Attribute (thn (U pins s σ H _ I h) λu s1 ⟨y,H1,I1,ry,q⟩=>thn (ha pins s1 σ H1 _ I1 q) λov s2 O=>?_) Z;obtain⟨x,H2,z,rx,ea,C,bm,ex,hx,Y,n,q2⟩:=O;subst ex;obtain rfl:ov=Value.ref ea:=rx;obtain⟨t1,he⟩:=CO z.hok hx;refine FR z.kIn Y n he λh' tk k1 k2 k3=>⟨σ,_,z.newfld hx k1 k2 k3 ry,q2 _ (z.hok.fresh (Q4 _))⟩
theorem BO {env:Env} {y:Sem Value} {M:Model} (O:A.handled=none)
  (h:wpAny M A y (λv s1=>∃ea C od t nm q N bs bm sn sub ab col dd k0 k1 k2 k3 k5,v= .ref ea/\s1.heap.get? C=some (excClassObj nm q C N bs bm true sn sub ab col dd k0 k1 k2 k3 k5 "ValueError.__new__")/\ExcMro bm/\
   s1.heap.get? ea=some (aY C od #[.ref t,.none,.none,.none,.bool false,.none])/\W (.ref ea) s1) W s):wpAny M A (raiseStmt env (some y) none) Q W s:=by
 unfold raiseStmt;refine wpAny_bind (wpAny_mono h (λv s1 z=>?_) λ_ _ z=>z);obtain⟨ea,C,od,t,nm,q,N,bs,bm,sn,sub,ab,col,dd,k0,k1,k2,k3,k5,rfl,I,B,he,U⟩:=z;have Y:(Value.ref C::bm).contains (.type "BaseException")=true:=by rw[Zj,B.bas,XH]
 obtain⟨hp,g,d,tk,os⟩:=s1
 repeat (first|with_reducible refine wpAny_loadPart_at he ?_|with_reducible refine wpAny_loadPart_at I ?_|(with_reducible refine wpAny_isSubtype_exc I ?_;rw[Y])|wp_step)
 exact wpAny_raiseNew_none O U
def En (X:Cx) (E:XK):Prop:=∀e s,Eo X (λ_=>E) e s->X.xe e s
def zH (K:PySem.W.Frag) (te:TE) (E:XK):TS:=λ_ σ H=>te σ H λv H1=>∃ea C od bm,v= .ref ea/\H1 ea=some (XN ea C od)/\XCls K C bm/\E (.ref ea) od (upd H1 ea (XO ea C od))
theorem gf {ex:Expr} {te:TE} (hc:X.calm=true) (hx:En X E) (he:PE X ex te):PS X (.Raise (some ex) none pos) (zH X.K te E):=by
 intro pins s σ H D I h;rw[arm_exec_Raise];simp only[evalOpt,Option.map];refine wpAny_bind (wpAny_standAt (BO (I.ok.hd hc) (wpAny_bind (thn (he pins s σ H _ I h) λv s1 ⟨y,H1,O,Z,ea,C,od,bm,ev,U,Y,q⟩=>wpAny_bind (wpAny_standAt (wpAny_pure ?_))))));subst ev;cases (show v=Value.ref ea from Z);obtain⟨nm,q',N,bs,sn,sub,ab,col,dd,k0,k1,k2,k3,k5,hK⟩:=Y.ob;obtain⟨t,z⟩:=CO O.hok U;exact⟨ea,C,od,t,nm,q',N,bs,bm,sn,sub,ab,col,dd,k0,k1,k2,k3,k5,rfl,O.kIn _ _ hK,Y.mro,z,hx _ _ ⟨pins,σ,H1,ea,C,od,_,_,rfl,O,U,z,(by show 1<6;decide),.inl rfl,q⟩⟩
end
theorem jg {P:Program} {w:World} {K:PySem.W.Frag} {mg:Str->Option Value} {base:Heap} {N:List Str} {qual:Str} {scope:Scope} {cd:Value} {outer:List Env}:
  En (ot (CX1 P w) P w K mg base N qual scope f cd A outer s H E) E:=λ_ _ h=>yD h
end L2
namespace L2
open PySem PySem.Spec PyProof.Rows PySem.W
end L2
namespace L2
open PySem PySem.Spec PyProof.Rows PySem.W
end L2
namespace L2
open PySem PySem.Spec PyProof.Rows PySem.W
end L2
namespace L2
open PySem PySem.Spec PyProof.Rows PySem.W
variable {T:Addr} {P:Program} {w:World}
theorem pA {X:Cx}:eL (CX1 P w) X E0:=λ_ _ _ _ _ _ _ ⟨_,_,_,_,_,_,_,_,_,_,_,_,_,_,_,_,_,z⟩=>z.elim
def xK (K:PySem.W.Frag) (fd:FuncData) (ps:List Str) (dvs:List V):Prop:=∃ds,Binds K fd ps ds/\Vals dvs ds
structure FunD (K:PySem.W.Frag) (x qual:Str) (st:Stmt) (f:Addr) (fd:FuncData):Prop where
 ex:∃(oc:Value) (od:Option Addr) (dV kV doc pm:Value) (an:Option Addr) (cdv ct:Value) (osl:Array (Option Value)),
  fd=fnOf x qual (fH st) (cp st) (ak st) dV kV doc pm an cdv ct/\K.lookup f=some ⟨oc,od,.func fd,osl⟩/\codeIn K cdv qual=true
 kp:keepIn K (.ref f)=true
section
variable {K:PySem.W.Frag} {mg:Str->Option Value} {base:Heap} {x qual:Str} {st:Stmt} {f:Addr} {fd:FuncData} {N ps:List Str} {k:Nat} {sp:Sp}
theorem FunD.ok (F:FunD K x qual st f fd) (S:ar N ps (ak st)) (len:∀vs H Q E,sp vs H Q E->vs.length=ps.length)
  (I:∀(z:Value) (A:Around) (outer:List Env) (s:Shared) (H:Hp) (vs:List V) (Q:VK) (E:XK),Room k (A.deeper (envOfC qual (ak st) s.heap.objs.size f z))->sp vs H Q E->
   ∃t,PSs (ot CX0 P w K mg base N qual (ak st) f z A outer s H E).nox (cp st) t/\t {nx:=λ_ H'=>Q .non H',rt:=Q} (start N vs) H):aV P w K mg base CX0 (k+1) f fd ps sp:=by
 obtain⟨oc,od,dV,kV,Y,pm,an,z,ct,Z,rfl,lk,O⟩:=F.ex;refine AY lk O S len λA outer s H vs Q E hr U=>?_;obtain⟨t,h,q⟩:=I z A outer s H vs Q E hr U;exact⟨t,h.nox,q⟩
theorem FunD.okX (F:FunD K x qual st f fd) (S:ar N ps (ak st)) (len:∀vs H Q E,sp vs H Q E->vs.length=ps.length)
  (I:∀(z:Value) (A:Around) (outer:List Env) (s:Shared) (H:Hp) (vs:List V) (Q:VK) (E:XK),Room k (A.deeper (envOfC qual (ak st) s.heap.objs.size f z))->sp vs H Q E->
   ∃t,PSs (ot (CX1 P w) P w K mg base N qual (ak st) f z A outer s H E) (cp st) t/\t {nx:=λ_ H'=>Q .non H',rt:=Q} (start N vs) H):aV P w K mg base (CX1 P w) (k+1) f fd ps sp:=by
 obtain⟨oc,od,dV,kV,Y,pm,an,z,ct,Z,rfl,lk,O⟩:=F.ex;exact AY lk O S len λA outer s H vs Q E hr U=>I z A outer s H vs Q E hr U
structure Im (K:PySem.W.Frag) (x qual:Str) (st:Stmt) (T f:Addr) (fd:FuncData):Prop where
 toD:FunD K x qual st f fd
 ex:∃(kV doc pm:Value) (an:Option Addr) (cdv ct:Value),fd=fnOf x qual (fH st) (cp st) (ak st) (.ref T) kV doc pm an cdv ct
theorem AW {Z:Value} {od U:Option Addr} {O:Array (Option Value)} {kV I Y z ct:Value} (l:K.lookup f=some ⟨Z,od,.func (fnOf x qual (fH st) (cp st) (ak st) (.ref T) kV I Y U z ct),O⟩)
  (c:codeIn K z qual=true) (k:keepIn K (.ref f)=true):Im K x qual st T f (fnOf x qual (fH st) (cp st) (ak st) (.ref T) kV I Y U z ct):=⟨⟨⟨Z,od,_,kV,I,Y,U,z,ct,O,rfl,l,c⟩,k⟩,⟨kV,I,Y,U,z,ct,rfl⟩⟩
theorem m5 {dd:Option Addr} {z:Array Value} {n:Nat} {sl:Array (Option Value)} {ds:List Value} (g:Nat) (hg:g+ds.length=ps.length) (F:Im K x qual st T f fd) (Z:K.lookup T=some ⟨.type "tuple",dd,.seq z n,sl⟩)
  (h:∀(kV I U:Value) (Y:Option Addr) (O ct:Value) (us:List Value),us.length=g->∃k,bindArgs (fnOf x qual (fH st) (cp st) (ak st) (.ref T) kV I U Y O ct) ⟨us,[]⟩=seqItems? (.ref T)>>=k/\k (some z)=pure (ps.zip (us++ds))):
  Binds K fd ps ds:=by
 obtain⟨kV,I,U,Y,O,ct,rfl⟩:=F.ex;intro s us X hl;obtain⟨k,h1,h2⟩:=h kV I U Y O ct us (by rw[Qd]at hl;lia);exact BindsTo.of_defaults rfl (X _ _ Z) rfl h1 h2
end
end L2
namespace L2
open PySem PySem.Spec PyProof.Rows PySem.W
end L2
namespace L2
open PySem PySem.Spec PyProof.Rows
section
end
section
end
end L2
namespace L2
open PySem PySem.Spec PyProof.Rows SeqAt
section
variable {X:Cx}
theorem gN {st:Stmt}:PS X st (λ_ _ _=>False):=λ_ _ _ _ _ _ h=>h.elim
theorem PlainL.isL {h:Heap} {a:Addr} {xs:Array Value} (p:PlainL h a xs):h.IsList a xs:=by
 obtain⟨o,n,e,c,_,d⟩:=p;exact⟨o,e,c,n,d⟩
inductive rEqN (K:PySem.W.Frag) (f:Bool) (x y:V) (H:Hp) (Q:VK):Prop
 |mk (a b xs:_) (_:x= .ref a) (_:y= .ref b) (_:SqL K H a xs) (_:SqL K H b []) (_:Q (.bl (xs.isEmpty !=f)) H)
theorem Do (K:PySem.W.Frag) (hK:X.K=K) (hu:X.A.units+20<cLine):OpR X (compareOp .NotEq) (rEqN K true):=by
 subst hK;intro pins s σ H x y v u Q I O U h;obtain⟨a,b,xs,rfl,rfl,h1,h2,q⟩:=h;cases O;cases U;obtain⟨Z,r1,p1,z1⟩:=I.list h1;obtain⟨i2,Y,p2,z2⟩:=I.list h2;have z:X.A.units<cLine:=by lia
 cases Y;cases r1 with
 |nil=>exact RcNeAt.lists (A:=X.A) (e:=λ_=>true) (PlainL.isL p1) (PlainL.isL p2) rfl z (λj h1=>absurd h1 (Xi _)) _ _ _ _ ⟨.bl _,H,I,rfl,q⟩
 |cons r t=>exact RcNeAt.lists_lengths (PlainL.isL p1) (PlainL.isL p2) (by simp) z _ _ _ _ ⟨.bl _,H,I,rfl,q⟩
end
end L2
namespace L2
open PySem PySem.Spec PyProof.Rows SeqAt
def Fl:V->Prop
 | .int _=>True| .str _=>True| .non=>True|_=>False
section
variable {X:Cx} {pins:List (Addr×Obj)} {σ:St} {H:Hp} {s:Shared}
theorem xi {A:Around} {x:V} {u v:Value} (h:Fl x) (r1:RelV x u) (z:RelV x v):EqAt A s u v true:=by
 cases x with
 |int n=>
  obtain⟨I,rfl⟩:=r1;obtain⟨O,rfl⟩:=z;have:=EqAt.int_int (A:=A) (s:=s) n I n O;rwa [beq_self_eq_true]at this
 |str n=>
  obtain⟨I,rfl⟩:=r1;obtain⟨O,rfl⟩:=z;have:=EqAt.str_str (A:=A) (s:=s) n I n O;rwa [beq_self_eq_true]at this
 |non=>
  cases (show u=Value.none from r1);cases (show v=Value.none from z);exact EqAt.same _
 |_=>exact h.elim
theorem yK {A:Around}:∀{xs:List V} {us vs:List Value},Vals xs us->Vals xs vs->(∀x∈xs,Fl x)->us.length=vs.length/\∀(j:Nat) (h1:j<us.length) (h2:j<vs.length),EqAt A s us[j] vs[j] true
 | [],_,_,.nil,.nil,_=>⟨rfl,λj h=>absurd h (Xi _)⟩
 |x::xs,_,_,.cons r1 t1,.cons r2 t2,h=>by
  obtain⟨l,g⟩:=yK (A:=A) t1 t2 λy hy=>h y (Q8 _ hy);refine⟨by rw[Qf,Qf,l],λj h1 h2=>?_⟩;cases j with
  |zero=>exact xi (h x Q6) r1 r2
  |succ j=>exact g j (by simpa using h1) (by simpa using h2)
inductive rEqF (K:PySem.W.Frag) (f:Bool) (x y:V) (H:Hp) (Q:VK):Prop
 |mk (a b xs:_) (_:x= .ref a) (_:y= .ref b) (_:SqL K H a xs) (_:SqL K H b xs) (_:(∀v∈xs,Fl v)) (_:Q (.bl (!f)) H)
theorem Dp (K:PySem.W.Frag) (hK:X.K=K) (hu:X.A.units+20<cLine):OpR X (compareOp .NotEq) (rEqF K true):=by
 subst hK;intro pins s σ H x y v u Q I z O h;obtain⟨a,b,xs,rfl,rfl,h1,h2,fl,q⟩:=h;cases z;cases O;obtain⟨Y,r1,p1,Z⟩:=I.list h1;obtain⟨i2,U,p2,z2⟩:=I.list h2;obtain⟨l,g⟩:=yK (A:=X.A.in1) (s:=s) r1 U fl;exact RcNeAt.lists (A:=X.A) (e:=λ_=>true) (PlainL.isL p1) (PlainL.isL p2) (by simpa using l) (by lia) (λj a b=>by simpa using g j (by simpa using a) (by simpa using b)) _ _ _ _ ⟨.bl _,H,I,rfl,by rw[QB.mpr λ_ _=>rfl];exact q⟩
end
end L2
namespace L2
open PySem PySem.Spec PyProof.Rows SeqAt
def Alk (K:PySem.W.Frag) (H:Hp):Nat->V->V->Prop
 |0,x,y=>Fl x/\x=y
 |n+1,x,y=>(Fl x/\x=y)\/∃a b xs ys,x= .ref a/\y= .ref b/\(SqL K H a xs/\SqL K H b ys\/SqT K H a xs/\SqT K H b ys)/\xs.length=ys.length/\∀(j:Nat) (u v:V),xs[j]?=some u->ys[j]?=some v->Alk K H n u v
theorem m8:∀{xs:List V} {us:List Value},Vals xs us->∀(j:Nat) (h:j<us.length),∃x,xs[j]?=some x/\RelV x us[j]
 |_,_,.nil,_,h=>absurd h (Xi _)
 |_,_,.cons r _,0,_=>⟨_,rfl,r⟩
 |_,_,.cons _ r,j+1,h=>m8 r j (Nat.lt_of_succ_lt_succ h)
section
variable {X:Cx} {pins:List (Addr×Obj)} {σ:St} {H:Hp} {s:Shared}
theorem Ai (I:Inv X pins σ H s):∀(n:Nat) {A:Around} {x y:V} {u v:Value},A.units+n<cLine->Alk X.K H n x y->RelV x u->RelV y v->EqAt A s u v true
 |0,_,_,_,_,_,_,⟨f,e⟩,r1,r2=>xi f r1 (e▸r2)
 |n+1,A,x,y,u,v,hu,h,r1,r2=>by
  rcases h with⟨f,e⟩|⟨a,b,xs,ys,rfl,rfl,o,l,g⟩
  .exact xi f r1 (e▸r2)
  cases r1;cases r2;by_cases e:a=b
  .subst e;exact EqAt.same _
  have it:∀{us vs:List Value},Vals xs us->Vals ys vs->∀(j:Nat) (h1:j<us.length) (h2:j<vs.length),EqAt A.in1 s us[j] vs[j] true:=λz O j h1 h2=>by
   obtain⟨x,U,Y⟩:=m8 z j h1;obtain⟨y,e2,Z⟩:=m8 O j h2;exact Ai I n (by show A.units+1+n<cLine;lia) (g j x y U e2) Y Z
  refine EqAt.of_refs e ?_;rcases o with⟨h1,h2⟩|⟨h1,h2⟩
  .obtain⟨i1,z,p1,_⟩:=I.list h1;obtain⟨i2,O,p2,_⟩:=I.list h2;have:=RcAt.lists (A:=A) (e:=λ_=>true) (PlainL.isL p1) (PlainL.isL p2) (by simpa[<-z.length,<-O.length]using l) (by lia) (λj a b=>by simpa using it z O j (by simpa using a) (by simpa using b));rw[QB.mpr λ_ _=>rfl]at this;exact this
  .obtain⟨i1,z,p1,_⟩:=I.tuple h1;obtain⟨i2,O,p2,_⟩:=I.tuple h2;have:=RcAt.tuples (A:=A) (e:=λ_=>true) p1 p2 (by lia) (λj a b=>by simpa using it z O j (by simpa using a) (by simpa using b));rw[QB.mpr λ_ _=>rfl]at this;simpa[<-z.length,<-O.length,l]using this
inductive rAlk (K:PySem.W.Frag) (f:Bool) (x y:V) (H:Hp) (Q:VK):Prop
 |mk (a b:Addr) (xs ys:List V) (_:x= .ref a) (_:y= .ref b) (_:(SqL K H a xs/\SqL K H b ys\/SqT K H a xs/\SqT K H b ys)) (_:xs.length=ys.length) (_:(∀(j:Nat) (u v:V),xs[j]?=some u->ys[j]?=some v->Alk K H 4 u v)) (_:Q (.bl (!f)) H)
theorem Ho (K:PySem.W.Frag) (hK:X.K=K) (hu:X.A.units+20<cLine):OpR X (compareOp .Eq) (rAlk K false):=by
 subst hK;intro pins s σ H x y v u Q I Z ry h;obtain⟨a,b,xs,ys,rfl,rfl,o,l,g,q⟩:=h;cases Z;cases ry;have it:∀{us vs:List Value},Vals xs us->Vals ys vs->∀(j:Nat) (h1:j<us.length) (h2:j<vs.length),EqAt X.A.in1 s us[j] vs[j] true:=λz O j h1 h2=>by
  obtain⟨x,e1,q1⟩:=m8 z j h1;obtain⟨y,e2,q2⟩:=m8 O j h2;exact Ai I 4 (by show X.A.units+1+4<cLine;lia) (g j x y e1 e2) q1 q2
 rcases o with⟨h1,h2⟩|⟨h1,h2⟩
 .obtain⟨U,z,p1,_⟩:=I.list h1;obtain⟨Y,O,p2,_⟩:=I.list h2;have:=RcAt.lists (A:=X.A) (e:=λ_=>true) (PlainL.isL p1) (PlainL.isL p2) (by simpa[<-z.length,<-O.length]using l) (by lia) (λj a b=>by simpa using it z O j (by simpa using a) (by simpa using b));rw[QB.mpr λ_ _=>rfl]at this;exact this _ _ _ _ ⟨.bl _,H,I,rfl,q⟩
 .obtain⟨U,z,p1,_⟩:=I.tuple h1;obtain⟨Y,O,p2,_⟩:=I.tuple h2;have:=RcAt.tuples (A:=X.A) (e:=λ_=>true) p1 p2 (by lia) (λj a b=>by simpa using it z O j (by simpa using a) (by simpa using b));rw[QB.mpr λ_ _=>rfl,show(true&&U.toArray.size==Y.toArray.size)=true by simp[<-z.length,<-O.length,l]]at this;exact this _ _ _ _ ⟨.bl _,H,I,rfl,q⟩
theorem zO (K:PySem.W.Frag) (hK:X.K=K) (hu:X.A.units+20<cLine):OpR X (compareOp .NotEq) (rAlk K true):=by
 subst hK;intro pins s σ H x y v u Q I Z ry h;obtain⟨a,b,xs,ys,rfl,rfl,o,l,g,q⟩:=h;cases Z;cases ry;have it:∀{us vs:List Value},Vals xs us->Vals ys vs->∀(j:Nat) (h1:j<us.length) (h2:j<vs.length),EqAt X.A.in1 s us[j] vs[j] true:=λz O j h1 h2=>by
  obtain⟨x,e1,q1⟩:=m8 z j h1;obtain⟨y,e2,q2⟩:=m8 O j h2;exact Ai I 4 (by show X.A.units+1+4<cLine;lia) (g j x y e1 e2) q1 q2
 rcases o with⟨h1,h2⟩|⟨h1,h2⟩
 .obtain⟨U,z,p1,_⟩:=I.list h1;obtain⟨Y,O,p2,_⟩:=I.list h2;have:=RcNeAt.lists (A:=X.A) (e:=λ_=>true) (PlainL.isL p1) (PlainL.isL p2) (by simpa[<-z.length,<-O.length]using l) (by lia) (λj a b=>by simpa using it z O j (by simpa using a) (by simpa using b));rw[QB.mpr λ_ _=>rfl]at this;exact this _ _ _ _ ⟨.bl _,H,I,rfl,q⟩
 .obtain⟨U,z,p1,_⟩:=I.tuple h1;obtain⟨Y,O,p2,_⟩:=I.tuple h2;have:=RcNeAt.tuples (A:=X.A) (e:=λ_=>true) p1 p2 (by lia) (λj a b=>by simpa using it z O j (by simpa using a) (by simpa using b));rw[QB.mpr λ_ _=>rfl,show(true&&U.toArray.size==Y.toArray.size)=true by simp[<-z.length,<-O.length,l]]at this;exact this _ _ _ _ ⟨.bl _,H,I,rfl,q⟩
end
end L2
namespace L2
open PySem PySem.Spec PyProof.Rows
variable {o:HO} {H:Hp} {A B:Prop} {x y:V}
theorem sY (e:x=y) (h:B):if(!decide (x=y))=true then A else B:=by
 rw[decide_eq_true e];exact cq h
theorem Jd (e:¬x=y) (h:A):if(!decide (x=y))=true then A else B:=by
 rw[decide_eq_false e];exact dM h
theorem qv (e:x=y) (h:A):if decide (x=y)=true then A else B:=by
 rw[decide_eq_true e];exact dM h
theorem am {p:Addr} (h:H p=none):Same H (upd H p o):=λb u e=>by
 rw[ag (ao e h)];exact e
def AllI (P:Int->Prop):List V->Prop
 | []=>True
 | .int m::r=>P m/\AllI P r
 |_::_=>False
theorem AllI.ints {P:Int->Prop}:∀{L:List V},AllI P L->∃ns:List Int,L=ns.map V.int/\∀m∈ns,P m
 | [],_=>⟨[],rfl,λ_ z=>nomatch z⟩
 | .int m::r,h=>by
  obtain⟨ns,e,q⟩:=AllI.ints h.2;refine⟨m::ns,by rw[e];rfl,λx hx=>?_⟩;rcases Qg.mp hx with rfl|hx
  .exact h.1
  .exact q x hx
theorem IU {P:Int->Prop} {L:List V} {c n:Int} (h:AllI P L) (I:(L.length:Int)=n) (hp:0<n):∃m,atI L (c%n)=some (.int m)/\P m:=by
 obtain⟨ns,e,q⟩:=h.ints;subst e;have a:=QC c (Z7 hp);have b:=QE c hp;rw[Q0]at I;have z:(c%n).toNat<ns.length:=by lia
 refine⟨_,tM a (by lia),q _ ?_⟩;rw[Ql,Q3 z];exact Zr z
theorem cU {H':Hp} {l:Addr} (s:Same H H') (n:H l=none):Same H (upd H' l o):=λb u e=>by
 rw[ag (ao e n)];exact s b u e
theorem DU {K:PySem.W.Frag} {C D:Addr} {b:Bool} (h1:PySem.W.typeIn K (.ref D)=some (.type "type")) (h2:PySem.W.isClsIn K D=true) (O:PySem.W.subIn K (.ref C) (.ref D)=some b) (I:C=D->b=true):
  PySem.W.kitOne K (.ref C) (.ref D)=some b:=by
 unfold PySem.W.kitOne;by_cases z:((Value.ref C:Value)== .ref D)=true
 .rw[if_pos z,I (Value.ref.inj (beq_iff_eq.mp z))]
 .rw[if_neg z];show(if((PySem.W.clsIn K D).isSome&&PySem.W.typeIn K (.ref D)==some (.type "type"))=true then PySem.W.subIn K (.ref C) (.ref D)else none)=some b;have:(PySem.W.clsIn K D).isSome=true:=h2;rw[if_pos (by rw[this,h1];simp),O]
theorem Room.u20 {k:Nat} {A:Around} (r:Room k A):A.units+20<cLine:=by have:=r.un;lia
end L2
namespace Srt
open PySem PyProof.Rows
variable {xs ys:Array Keyed} {blt:Keyed->Keyed->Bool} {e hi i j lo n nrem:Nat} {st:SortSt} {γ:Type} {Q:Unit->SortSt->Prop} {E:Value->Shared->Prop}
abbrev dk:Keyed:=(Value.none,Value.none)
def g (xs:Array Keyed) (i:Nat):Keyed:=xs[i]?.getD dk
theorem cQ (h:i<xs.size):xs[i]?=some (g xs i):=by
 unfold g;rw[getElem?_pos xs i h];rfl
theorem oj (h:xs[i]?=ys[j]?):g xs i=g ys j:=by unfold g;rw[h]
theorem vB (h:i<xs.size):g xs i∈xs:=by
 have e:=cQ h;exact Array.mem_of_getElem? e
structure Cmp (blt:Keyed->Keyed->Bool):Prop where
 asym:∀x y,blt x y=true->blt y x=false
 tr:∀x y z,blt y x=false->blt z y=false->blt z x=false
section
variable (C:Cmp blt)
abbrev le (blt:Keyed->Keyed->Bool) (x y:Keyed):Prop:=blt y x=false
include C
theorem Cmp.trans {x y z:Keyed} (h1:le blt x y) (h2:le blt y z):le blt x z:=C.tr x y z h1 h2
theorem Cmp.of_lt {x y:Keyed} (h:blt x y=true):le blt x y:=C.asym _ _ h
end
def On (blt:Keyed->Keyed->Bool) (xs:Array Keyed) (lo hi:Nat):Prop:=∀i j,lo<=i->i<j->j<hi->le blt (g xs i) (g xs j)
def Off (blt:Keyed->Keyed->Bool) (xs:Array Keyed) (lo hi:Nat):Prop:=∀i j,lo<=i->i<j->j<hi->le blt (g xs j) (g xs i)
theorem On.one:On blt xs lo (lo+1):=λi j h1 h2 z=>by lia
theorem Off.one:Off blt xs lo (lo+1):=λi j h1 h2 z=>by lia
theorem On.congr (h:On blt xs lo hi) (e:∀k,lo<=k->k<hi->g ys k=g xs k):On blt ys lo hi:=λi j h1 h2 z=>by
 rw[e i h1 (by lia),e j (by lia) z];exact h i j h1 h2 z
theorem On.sub {z hi':Nat} (h:On blt xs lo hi) (h1:lo<=z) (h2:hi'<=hi):On blt xs z hi':=λi j a b c=>h i j (by lia) b (by lia)
section
variable (C:Cmp blt)
include C
theorem On.snoc (h:On blt xs lo (lo+n)) (O:1<=n) (e:le blt (g xs (lo+n-1)) (g xs (lo+n))):On blt xs lo (lo+(n+1)):=λi j h1 h2 U=>by
 by_cases z:j<lo+n
 .exact h i j h1 h2 z
 .have I:j=lo+n:=by lia
  subst I;by_cases y:i=lo+n-1
  .subst y;exact e
  .exact C.trans (h i (lo+n-1) h1 (by lia) (by lia)) e
theorem Off.snoc (h:Off blt xs lo (lo+n)) (O:1<=n) (e:le blt (g xs (lo+n)) (g xs (lo+n-1))):Off blt xs lo (lo+(n+1)):=λi j h1 h2 U=>by
 by_cases z:j<lo+n
 .exact h i j h1 h2 z
 .have I:j=lo+n:=by lia
  subst I;by_cases y:i=lo+n-1
  .subst y;exact e
  .exact C.trans e (h i (lo+n-1) h1 (by lia) (by lia))
end
theorem D3 (z:j<=xs.size) (k:Nat):g (mirror xs i j ((j-i)/2)) k=if i<=k/\k<j then g xs (i+j-1-k)else g xs k:=by
 have e:=getElem?_mirror_all (i:=i) z k;by_cases h1:i<=k/\k<j
 .rw[if_pos h1]at e⊢;exact oj e
 .rw[if_neg h1]at e⊢;exact oj e
theorem D4 {src d:Nat} (z:src<xs.size) (hd:d<=src) (k:Nat):g (bubble xs src d) k=if k=src-d then g xs src else if src-d<k/\k<=src then g xs (k-1)else g xs k:=by
 have e:=getElem?_bubble z d hd k;by_cases h1:k=src-d
 .rw[if_pos h1]at e⊢;exact oj e
 .rw[if_neg h1]at e⊢;by_cases h2:src-d<k/\k<=src
  .rw[if_pos h2]at e⊢;exact oj e
  .rw[if_neg h2]at e⊢;exact oj e
section
variable {prog:Program} {w:World} {A:Around} {s:Shared} {a₀:Array Keyed} {κ:SortKind}
def uS (prog:Program) (w:World) (A:Around) (E:Value->Shared->Prop) (s:Shared) (a₀:Array Keyed) (κ:SortKind) (blt:Keyed->Keyed->Bool):Prop:=
 ∀(x y:Keyed) (st:SortSt) (Q:Option Bool->SortSt->Prop),x∈a₀->y∈a₀->kindOf st=κ->Q (some (blt x y)) st->wpS (model prog w) A E s (lt' x y) Q st
structure Base (a₀:Array Keyed) (κ:SortKind) (st:SortSt):Prop where
 kind:kindOf st=κ
 fine:failedOf st=none
 perm:(arrOf st).Perm a₀
theorem Base.size (B:Base a₀ κ st):(arrOf st).size=a₀.size:=B.perm.size_eq
theorem Base.mem (B:Base a₀ κ st) (h:i<a₀.size):g (arrOf st) i∈a₀:=(B.perm.mem_iff).mp (vB (by rw[B.size];exact h))
variable (L:uS prog w A E s a₀ κ blt)
include L
theorem ni {Q:Option Bool->SortSt->Prop} (B:Base a₀ κ st) (hi:i<a₀.size) (z:j<a₀.size) (h:Q (some (blt (g (arrOf st) i) (g (arrOf st) j))) st):
  wpS (model prog w) A E s (ltAt' i j) Q st:=by
 rw[ltAt'_eq];refine wpS_bind (wpS_get ?_);show wpS _ _ _ _ (do let x<-elem' (arrOf st) i;let y<-elem' (arrOf st) j;lt' x y) Q st;rw[elem'_eq,elem'_eq,cQ (by rw[B.size];exact hi),cQ (by rw[B.size];exact z)];refine wpS_bind (wpS_pure (wpS_bind (wpS_pure ?_)));exact L _ _ st Q (B.mem hi) (B.mem z) B.kind h
omit L in
theorem CT {α:Type} {m m':StateT SortSt Sem α} {Q:α->SortSt->Prop} (e:m=m') (h:wpS (model prog w) A E s m' Q st):wpS (model prog w) A E s m Q st:=by rw[e];exact h
abbrev CG (lo:Nat) (xs ys:Array Keyed):Prop:=∀k,k<lo->g ys k=g xs k
theorem fR (B:Base a₀ κ st) (z:j<=a₀.size)
  (h:∀st',Base a₀ κ st'->pendingOf st'=pendingOf st->(∀k,g (arrOf st') k=if i<=k/\k<j then g (arrOf st) (i+j-1-k)else g (arrOf st) k)->Q () st'):
  wpS (model prog w) A E s (reverseSlice' i j) Q st:=by
 rw[reverseSlice'_eq];refine wpS_modify (h _ ⟨B.kind,B.fine,(mirror_perm _ _ _ _).trans B.perm⟩ rfl λk=>?_);exact D3 (by rw[B.size];exact z) k
theorem CS {a:Nat} {f:Nat->Option γ×Nat->StateT SortSt Sem (ForInStep (Option γ×Nat))} {Q:Option γ×Nat->SortSt->Prop} (C:Cmp blt) (B:Base a₀ κ st) (ha:1<=a) (O:a<=nrem) (hz:lo+nrem<=a₀.size) (hs:On blt (arrOf st) lo (lo+a))
  (hf:∀(i n:Nat) (R:ForInStep (Option γ×Nat)->SortSt->Prop),n<nrem->1<=n->(blt (g (arrOf st) (lo+n)) (g (arrOf st) (lo+n-1))=true->R (.done (none,n)) st)->(blt (g (arrOf st) (lo+n)) (g (arrOf st) (lo+n-1))=false->R (.yield (none,n+1)) st)->wpS (model prog w) A E s (f i (none,n)) R st)
  (h:∀n,a<=n->n<=nrem->On blt (arrOf st) lo (lo+n)->(n<nrem->blt (g (arrOf st) (lo+n)) (g (arrOf st) (lo+n-1))=true)->Q (none,n) st):
  wpS (model prog w) A E s (forIn [a:nrem] (none,a) f) Q st:=by
 refine wpS_forRange (I:=λi c st'=>st'=st/\c=(none,i)/\a<=i/\i<=nrem/\On blt (arrOf st) lo (lo+i)) ?_ ?_ ⟨rfl,rfl,Q4 _,O,hs⟩
 .rintro i c st' h1 h2 ⟨rfl,rfl,Y,Z,U⟩;refine hf i i _ h2 (by lia) (λe=>?_) (λe=>?_)
  .exact h i Y Z U λ_=>e
  .exact⟨rfl,rfl,by lia,by lia,U.snoc C (by lia) e⟩
 .rintro c st' ⟨rfl,rfl,Y,Z,U⟩;have e:max a nrem=nrem:=QO O;rw[e]at U⊢;exact h nrem O (Q4 _) U λz=>absurd z (Zy _)
omit L in
theorem pC {b:Nat} (hb:lo<=b) (h:Off blt xs lo e) (o:On blt xs b e) (hy:∀k,g ys k=if b<=k/\k<e then g xs (b+e-1-k)else g xs k):Off blt ys lo e:=λi j h1 h2 z=>by
 rw[hy i,hy j];by_cases I:b<=j
 .rw[if_pos ⟨I,z⟩];by_cases O:b<=i
  .rw[if_pos ⟨O,by lia⟩];exact o _ _ (by lia) (by lia) (by lia)
  .rw[if_neg (by lia)];exact h _ _ h1 (by lia) (by lia)
 .rw[if_neg (by lia),if_neg (by lia)];exact h i j h1 h2 z
omit L in
theorem Hr (h:Off blt xs lo e) (hy:∀k,g ys k=if lo<=k/\k<e then g xs (lo+e-1-k)else g xs k):On blt ys lo e:=λi j h1 h2 z=>by
 rw[hy i,hy j,if_pos ⟨h1,by lia⟩,if_pos ⟨by lia,z⟩];exact h _ _ (by lia) (by lia) (by lia)
omit L in
theorem FA (h:On blt xs lo e) (hy:∀k,g ys k=if lo<=k/\k<e then g xs (lo+e-1-k)else g xs k):Off blt ys lo e:=λi j h1 h2 z=>by
 rw[hy i,hy j,if_pos (show lo<=j/\j<e by lia),if_pos (show lo<=i/\i<e by lia)];exact h _ _ (by lia) (by lia) (by lia)
def El (lo:Nat):Nat->Option (Option Nat)×Nat->StateT SortSt Sem (ForInStep (Option (Option Nat)×Nat)):=λ_ __s=>do
 let __x<-ltAt' (lo+__s.snd) (lo+__s.snd-1)
 match __x with
 |some smaller=>if smaller=true then pure (ForInStep.done (none,__s.snd))else pure (ForInStep.yield (none,__s.snd+1))
 |_=>pure (ForInStep.done (some none,__s.snd))
def uZ (lo n nrem:Nat):StateT SortSt Sem (Option Nat):=do
 reverseSlice' lo (lo+n)
 let __s<-forIn [n:nrem] (none,n) (El lo)
 match __s.fst with
 |some r=>pure r
 |none=>pure (some __s.snd)
def Ba (lo:Nat):Nat->Option (Option Nat)×Nat×Nat->StateT SortSt Sem (ForInStep (Option (Option Nat)×Nat×Nat)):=λ_ __s=>do
 let __x<-ltAt' (lo+__s.snd.fst) (lo+__s.snd.fst-1)
 match __x with
 |some smaller=>
  if smaller=true then
   if __s.snd.snd>0 then do
    reverseSlice' (lo+__s.snd.fst-(__s.snd.snd+1)) (lo+__s.snd.fst)
    pure (ForInStep.yield (none,__s.snd.fst+1,0))
   else pure (ForInStep.yield (none,__s.snd.fst+1,0))
  else do
   let __x<-ltAt' (lo+__s.snd.fst-1) (lo+__s.snd.fst)
   match __x with
   |some larger=>
    if larger=true then pure (ForInStep.done (none,__s.snd.fst,__s.snd.snd))
    else pure (ForInStep.yield (none,__s.snd.fst+1,__s.snd.snd+1))
   |_=>pure (ForInStep.done (some none,__s.snd.fst,__s.snd.snd))
 |_=>pure (ForInStep.done (some none,__s.snd.fst,__s.snd.snd))
def vI (lo n nrem:Nat):StateT SortSt Sem (Option Nat):=do
 liftM (rule "list.sort.descending-run")
 let __s<-forIn [n+1:nrem] (none,n+1,0) (Ba lo)
 match __s.fst with
 |some r=>pure r
 |none=>
  if __s.snd.snd>0 then do
   reverseSlice' (lo+__s.snd.fst-(__s.snd.snd+1)) (lo+__s.snd.fst)
   uZ lo __s.snd.fst nrem
  else uZ lo __s.snd.fst nrem
theorem Aq {R:ForInStep (Option (Option Nat)×Nat)->SortSt->Prop} (B:Base a₀ κ st) (hz:lo+nrem<=a₀.size) (I:n<nrem) (h1:1<=n)
  (z:blt (g (arrOf st) (lo+n)) (g (arrOf st) (lo+n-1))=true->R (.done (none,n)) st) (hf:blt (g (arrOf st) (lo+n)) (g (arrOf st) (lo+n-1))=false->R (.yield (none,n+1)) st):wpS (model prog w) A E s (El lo i (none,n)) R st:=by
 unfold El;refine wpS_bind (ni L B (by dsimp only;lia) (by dsimp only;lia) ?_);dsimp only;cases e:blt (g (arrOf st) (lo+n)) (g (arrOf st) (lo+n-1))with
 |true=>exact wpS_pure (z e)
 |false=>exact wpS_pure (hf e)
theorem m9 {Q:Option Nat->SortSt->Prop} (C:Cmp blt) (B:Base a₀ κ st) (h1:1<=n) (z:n<=nrem) (hz:lo+nrem<=a₀.size) (O:Off blt (arrOf st) lo (lo+n))
  (h:∀m st',Base a₀ κ st'->pendingOf st'=pendingOf st->1<=m->m<=nrem->On blt (arrOf st') lo (lo+m)->CG lo (arrOf st) (arrOf st')->Q (some m) st'):wpS (model prog w) A E s (uZ lo n nrem) Q st:=by
 unfold uZ;refine wpS_bind (fR L B (by lia) λst' I hp hy=>?_);refine wpS_bind (CS L C I h1 z hz (Hr O hy) (λi n R z h1 U hf=>Aq L I (i:=i) hz z h1 U hf) (λm ha Y Z _=>?_));exact wpS_pure (h m st' I hp (by lia) Y Z λk hk=>by rw[hy k,if_neg (by lia)])
theorem xO {Q:Option Nat->SortSt->Prop} (C:Cmp blt) (B:Base a₀ κ st) (h1:1<=n) (hn:n+1<=nrem) (hz:lo+nrem<=a₀.size) (ho:Off blt (arrOf st) lo (lo+(n+1)))
  (h:∀m st',Base a₀ κ st'->pendingOf st'=pendingOf st->1<=m->m<=nrem->On blt (arrOf st') lo (lo+m)->CG lo (arrOf st) (arrOf st')->Q (some m) st'):wpS (model prog w) A E s (vI lo n nrem) Q st:=by
 unfold vI;refine wpS_bind (wpS_lift (wpAny_rule ⟨rfl,?_⟩));refine wpS_bind (wpS_forRange (I:=λi c st'=>∃q,c=(none,i,q)/\Base a₀ κ st'/\pendingOf st'=pendingOf st/\CG lo (arrOf st) (arrOf st')/\n+1<=i/\i<=nrem/\q+1<=i/\Off blt (arrOf st') lo (lo+i)/\On blt (arrOf st') (lo+i-(q+1)) (lo+i)) ?_ ?_
  ⟨0,rfl,B,rfl,λ_ _=>rfl,Q4 _,hn,by lia,ho,λi j a b c=>by lia⟩)
 .rintro i c st' a3 a4 ⟨q,rfl,B',hp,hk,h2,h3,h4,U,on⟩;unfold Ba;refine wpS_bind (ni L B' (by dsimp only;lia) (by dsimp only;lia) ?_);dsimp only;cases e:blt (g (arrOf st') (lo+i)) (g (arrOf st') (lo+i-1))with
  |true=>
   by_cases q0:q>0
   .rw[if_pos rfl,if_pos q0];refine wpS_bind (fR L B' (by lia) λst2 B2 a0 hy=>?_);refine wpS_pure ⟨0,rfl,B2,a0.trans hp,λk O=>by rw[hy k,if_neg (by lia)];exact hk k O,by lia,by lia,by lia,?_,λi j a b c=>by lia⟩;refine(pC (by lia) U on hy).snoc C (by lia) ?_;rw[hy,hy,if_neg (by lia),if_pos (by lia)];have z:lo+i-(q+1)+(lo+i)-1-(lo+i-1)=lo+i-(q+1):=by lia
    rw[z];exact C.trans (C.of_lt e) (U _ _ (by lia) (by lia) (by lia))
   .rw[if_pos rfl,if_neg q0];exact wpS_pure ⟨0,rfl,B',hp,hk,by lia,by lia,by lia,U.snoc C (by lia) (C.of_lt e),λi j a b c=>by lia⟩
  |false=>
   simp only[Z0,if_false];refine wpS_bind (ni L B' (by lia) (by lia) ?_);dsimp only;cases e2:blt (g (arrOf st') (lo+i-1)) (g (arrOf st') (lo+i))with
   |true=>
    simp only[if_true];refine wpS_pure ?_;dsimp only;by_cases q0:q>0
    .rw[if_pos q0];refine wpS_bind (fR L B' (by lia) λst2 B2 a0 hy=>?_);refine m9 L C B2 (by lia) h3 hz (pC (by lia) U on hy) λm Y B3 Z a b c d=>h m Y B3 (Z.trans (a0.trans hp)) a b c λk O=>?_;rw[d k O,hy k,if_neg (by lia)];exact hk k O
    .rw[if_neg q0];exact m9 L C B' (by lia) h3 hz U λm Y B3 Z a b c d=>h m Y B3 (Z.trans hp) a b c λk O=>(d k O).trans (hk k O)
   |false=>
    simp only[Z0,if_false];refine wpS_pure ⟨q+1,rfl,B',hp,hk,by lia,by lia,by lia,U.snoc C (by lia) e2,?_⟩;have z:lo+(i+1)-(q+1+1)=lo+i-(q+1):=by lia
    rw[z];intro x y hx hy a5;by_cases a1:y<lo+i
    .exact on x y hx hy a1
    .have ey:y=lo+i:=by lia
     subst ey;by_cases a2:x=lo+i-1
     .subst a2;exact e
     .exact C.trans (on x (lo+i-1) hx (by lia) (by lia)) e
 .rintro c st' ⟨q,rfl,B',hp,hk,h2,h3,h4,U,on⟩;have em:max (n+1) nrem=nrem:=QO hn;rw[em]at h3 h4 U on⊢;dsimp only;by_cases q0:q>0
  .rw[if_pos q0];refine wpS_bind (fR L B' (by lia) λst2 B2 a0 hy=>?_);refine m9 L C B2 (by lia) h3 hz (pC (by lia) U on hy) λm Y B3 Z a b c d=>h m Y B3 (Z.trans (a0.trans hp)) a b c λk O=>?_;rw[d k O,hy k,if_neg (by lia)];exact hk k O
  .rw[if_neg q0];exact m9 L C B' (by lia) h3 hz U λm Y B3 Z a b c d=>h m Y B3 (Z.trans hp) a b c λk O=>(d k O).trans (hk k O)
theorem CQ {Q:Option Nat->SortSt->Prop} (C:Cmp blt) (B:Base a₀ κ st) (h1:1<=nrem) (hz:lo+nrem<=a₀.size)
  (h:∀n st',Base a₀ κ st'->pendingOf st'=pendingOf st->1<=n->n<=nrem->On blt (arrOf st') lo (lo+n)->CG lo (arrOf st) (arrOf st')->Q (some n) st'):wpS (model prog w) A E s (countRun' lo nrem) Q st:=by
 rw[countRun'_eq];dsimp only;refine wpS_bind (CS L C B (Q4 1) h1 hz On.one (λi n R Y h1 ht hf=>Aq L B (i:=i) hz Y h1 ht hf) (λn ha Y Z a0=>?_));dsimp only;by_cases en:n=nrem
 .subst en;simp only[beq_self_eq_true,if_true];exact wpS_pure (h n st B rfl ha Y Z λ_ _=>rfl)
 .have eb:(n==nrem)=false:=beq_eq_false_iff_ne.mpr en;simp only[eb,Z0,if_false];have I:=a0 (by lia);by_cases n1:n>1
  .rw[if_pos n1];refine wpS_bind (ni L B (by lia) (by lia) ?_);dsimp only;cases e:blt (g (arrOf st) lo) (g (arrOf st) (lo+n-1))with
   |true=>
    simp only[if_true];exact wpS_pure (h n st B rfl ha Y Z λ_ _=>rfl)
   |false=>
    simp only[Z0,if_false];refine wpS_bind (fR L B (by lia) λst2 B2 a1 hy=>?_);have a2:Off blt (arrOf st2) lo (lo+(n+1)):=by
     refine(FA Z hy).snoc C ha ?_;rw[hy,hy,if_neg (by lia),if_pos (by lia)];have z:lo+(lo+n)-1-(lo+n-1)=lo:=by lia
     rw[z];exact C.trans (C.of_lt I) e
    refine CT (m':=vI lo n nrem) (by
      unfold vI uZ El Ba;congr 1;funext _u;congr 1;funext s2;obtain⟨U,n2,q2⟩:=s2;cases U with
      |some U=>rfl
      |none=>
       dsimp only;split
       .congr 1;funext _v;congr 1;funext _w;congr 1;funext s3;obtain⟨O,n3⟩:=s3;cases O<;>rfl
       .congr 1;funext _w;congr 1;funext s3;obtain⟨O,n3⟩:=s3;cases O<;>rfl) (xO L C B2 ha (by lia) hz a2 λm a3 B3 a4 a b c d=>h m a3 B3 (a4.trans a1) a b c λk hk=>by rw[d k hk,hy k,if_neg (by lia)])
  .rw[if_neg n1];have e1:n=1:=by lia
   subst e1;refine CT (m':=vI lo 1 nrem) (by
      unfold vI uZ El Ba;congr 1;funext _u;congr 1;funext s2;obtain⟨U,n2,q2⟩:=s2;cases U with
      |some U=>rfl
      |none=>
       dsimp only;split
       .congr 1;funext _v;congr 1;funext _w;congr 1;funext s3;obtain⟨O,n3⟩:=s3;cases O<;>rfl
       .congr 1;funext _w;congr 1;funext s3;obtain⟨O,n3⟩:=s3;cases O<;>rfl) (xO L C B ha (by lia) hz (Off.one.snoc C (Q4 1) (C.of_lt I)) h)
omit L in
theorem Ap {k l:Nat} (B:Base a₀ κ st) (hk:k<a₀.size) (hl:l<=k)
  (h:∀st',Base a₀ κ st'->pendingOf st'=pendingOf st->(∀j,g (arrOf st') j=if j=l then g (arrOf st) k else if l<j/\j<=k then g (arrOf st) (j-1)else g (arrOf st) j)->Q () st'):
  wpS (model prog w) A E s (moveDown' k l) Q st:=by
 rw[moveDown'_eq];refine wpS_modify (h _ ⟨B.kind,B.fine,(bubble_perm _ _ _).trans B.perm⟩ rfl λj=>?_);have e:=D4 (xs:=arrOf st) (src:=k) (d:=k-l) (by rw[B.size];exact hk) (by lia) j;have z:k-(k-l)=l:=by lia
 rw[z]at e;exact e
theorem Bx {ok:Nat} {Q:Bool->SortSt->Prop} (C:Cmp blt) (B:Base a₀ κ st) (h1:1<=ok) (hok:ok<=n) (hz:lo+n<=a₀.size) (hs:On blt (arrOf st) lo (lo+ok))
  (h:∀st',Base a₀ κ st'->pendingOf st'=pendingOf st->On blt (arrOf st') lo (lo+n)->CG lo (arrOf st) (arrOf st')->Q true st'):wpS (model prog w) A E s (binarySort' lo n ok) Q st:=by
 rw[binarySort'_eq];dsimp only;have em:max ok 1=ok:=Nat.max_eq_left h1;rw[em];refine wpS_bind (wpS_forRange (I:=λi c st'=>c=(none,())/\Base a₀ κ st'/\pendingOf st'=pendingOf st/\CG lo (arrOf st) (arrOf st')/\ok<=i/\i<=n/\On blt (arrOf st') lo (lo+i)) ?_ ?_
  ⟨rfl,B,rfl,λ_ _=>rfl,Q4 _,hok,hs⟩)
 .rintro k c st' aa ac ⟨rfl,Y,hp,hk,h2,h3,on⟩;refine wpS_bind (wpS_forRange (I:=λi c st2=>st2=st'/\∃l r,c=(none,l,r)/\l<=r/\r<=k/\r-l<=k-i/\(∀j,j<l->le blt (g (arrOf st') (lo+j)) (g (arrOf st') (lo+k)))/\(∀j,r<=j->j<k->le blt (g (arrOf st') (lo+k)) (g (arrOf st') (lo+j)))) ?_ ?_
   ⟨rfl,0,k,rfl,Qi _,Q4 _,Q4 _,λj hj=>absurd hj (Xi _),λj a b=>by lia⟩)
  .rintro i c st2 af al ⟨rfl,l,r,rfl,a0,a3,hm,z,above⟩;dsimp only;by_cases Z:l>=r
   .rw[if_pos Z];refine wpS_pure ?_;dsimp only;have a4:l=r:=by lia
    refine wpS_bind (Ap Y (by lia) (by lia) λa5 B3 O hy=>wpS_pure ⟨rfl,B3,O.trans hp,λq hq=>?_,by lia,by lia,?_⟩)
    .rw[hy q,if_neg (by lia),if_neg (by lia)];exact hk q hq
    .intro a b ha U hb;rw[hy a,hy b];by_cases b1:b=lo+l
     .rw[if_pos b1,if_neg (by lia),if_neg (by lia)];have:=z (a-lo) (by lia);rwa [show lo+(a-lo)=a by lia]at this
     .rw[if_neg b1];by_cases b2:lo+l<b/\b<=lo+k
      .rw[if_pos b2];by_cases a1:a=lo+l
       .rw[if_pos a1];have:=above (b-1-lo) (by lia) (by lia);rwa [show lo+(b-1-lo)=b-1 by lia]at this
       .rw[if_neg a1];by_cases a2:lo+l<a/\a<=lo+k
        .rw[if_pos a2];exact on _ _ (by lia) (by lia) (by lia)
        .rw[if_neg a2];exact on _ _ (by lia) (by lia) (by lia)
      .rw[if_neg b2,if_neg (by lia),if_neg (by lia)];exact on _ _ ha U (by lia)
   .rw[if_neg Z];refine wpS_bind (ni L Y (by lia) (by lia) ?_);dsimp only;cases e:blt (g (arrOf st2) (lo+k)) (g (arrOf st2) (lo+(l+r)/2))with
    |true=>
     rw[if_pos rfl];refine wpS_pure ⟨rfl,l,(l+r)/2,rfl,by lia,by lia,by lia,z,λj a b=>?_⟩;by_cases ej:j=(l+r)/2
     .subst ej;exact C.of_lt e
     .exact C.trans (C.of_lt e) (on _ _ (by lia) (by lia) (by lia))
    |false=>
     rw[if_neg (by decide)];refine wpS_pure ⟨rfl,(l+r)/2+1,r,rfl,by lia,by lia,by lia,λj a=>?_,above⟩;by_cases ej:j=(l+r)/2
     .subst ej;exact e
     .exact C.trans (on _ _ (by lia) (by lia) (by lia)) e
  .rintro c st2 ⟨rfl,l,r,rfl,a0,a3,hm,z,above⟩;have ek:max 0 k=k:=QO (Qi _);rw[ek]at hm;have a4:l=r:=by lia
   dsimp only;refine wpS_bind (Ap Y (by lia) (by lia) λa5 B3 O hy=>wpS_pure ⟨rfl,B3,O.trans hp,λq hq=>?_,by lia,by lia,?_⟩)
   .rw[hy q,if_neg (by lia),if_neg (by lia)];exact hk q hq
   .intro a b ha U hb;rw[hy a,hy b];by_cases b1:b=lo+l
    .rw[if_pos b1,if_neg (by lia),if_neg (by lia)];have:=z (a-lo) (by lia);rwa [show lo+(a-lo)=a by lia]at this
    .rw[if_neg b1];by_cases b2:lo+l<b/\b<=lo+k
     .rw[if_pos b2];by_cases a1:a=lo+l
      .rw[if_pos a1];have:=above (b-1-lo) (by lia) (by lia);rwa [show lo+(b-1-lo)=b-1 by lia]at this
      .rw[if_neg a1];by_cases a2:lo+l<a/\a<=lo+k
       .rw[if_pos a2];exact on _ _ (by lia) (by lia) (by lia)
       .rw[if_neg a2];exact on _ _ (by lia) (by lia) (by lia)
     .rw[if_neg b2,if_neg (by lia),if_neg (by lia)];exact on _ _ ha U (by lia)
 .rintro c st' ⟨rfl,Y,hp,hk,h2,h3,on⟩;have e:max ok n=n:=QO hok;rw[e]at on;exact wpS_pure (h st' Y hp on hk)
def FO:Bool->Keyed->Array Keyed->Nat->Nat->Nat->StateT SortSt Sem (Option Nat):=sortPriv%PySem.Builtin.gallop
omit L in
theorem uV {f:Nat->Option γ×Nat×Nat->StateT SortSt Sem (ForInStep (Option γ×Nat×Nat))} {Q:Option γ×Nat×Nat->SortSt->Prop} (O:Nat->Bool) (mono:∀i j,i<=j->j<n->O j=true->O i=true)
  (hf:∀(i lo hi:Nat) (R:ForInStep (Option γ×Nat×Nat)->SortSt->Prop),hi<=n->(lo>=hi->R (.done (none,lo,hi)) st)->(lo<hi->O (lo+(hi-lo)/2)=true->R (.yield (none,lo+(hi-lo)/2+1,hi)) st)->(lo<hi->O (lo+(hi-lo)/2)=false->R (.yield (none,lo,lo+(hi-lo)/2)) st)->wpS (model prog w) A E s (f i (none,lo,hi)) R st)
  (h1:lo<=hi) (h2:hi<=n) (ht:∀i,i<lo->O i=true) (hF:∀i,hi<=i->i<n->O i=false)
  (h:∀k,k<=n->(∀i,i<k->O i=true)->(∀i,k<=i->i<n->O i=false)->Q (none,k,k) st):wpS (model prog w) A E s (forIn [0:n] (none,lo,hi) f) Q st:=by
 refine wpS_forRange (I:=λi c st'=>st'=st/\∃lo hi,c=(none,lo,hi)/\lo<=hi/\hi<=n/\hi-lo<=n-i/\(∀i,i<lo->O i=true)/\(∀i,hi<=i->i<n->O i=false)) ?_ ?_
  ⟨rfl,lo,hi,rfl,h1,h2,by lia,ht,hF⟩
 .rintro i c st' a0 a1 ⟨rfl,lo,hi,rfl,g1,U,g3,Y,Z⟩;refine hf i lo hi _ U (λz=>?_) (λz e=>?_) (λz e=>?_)
  .have e:lo=hi:=by lia
   subst e;exact h lo U Y Z
  .exact⟨rfl,_,_,rfl,by lia,U,by lia,λj hj=>mono j _ (by lia) (by lia) e,Z⟩
  .refine⟨rfl,_,_,rfl,by lia,by lia,by lia,Y,λj a b=>?_⟩;cases q:O j with
   |false=>rfl
   |true=>rw[mono _ j a b q]at e;cases e
 .rintro c st' ⟨rfl,lo,hi,rfl,g1,U,g3,Y,Z⟩;have em:max 0 n=n:=QO (Qi _);rw[em]at g3;have e:lo=hi:=by lia
  subst e;exact h lo U Y Z
theorem fK {left:Bool} {key:Keyed} {arr:Array Keyed} {base hint:Nat} {Q:Option Nat->SortSt->Prop} (hK:kindOf st=κ) (hk:key∈a₀) (ha:∀i,i<n->base+i<arr.size/\g arr (base+i)∈a₀) (hh:hint<n)
  (Y:Nat->Bool) (aa:∀i,i<n->Y i=if left=true then blt (g arr (base+i)) key else !blt key (g arr (base+i))) (mono:∀i j,i<=j->j<n->Y j=true->Y i=true)
  (h:∀k,k<=n->(∀i,i<k->Y i=true)->(∀i,k<=i->i<n->Y i=false)->Q (some k) st):wpS (model prog w) A E s (FO left key arr base n hint) Q st:=by
 have a0:∀(i:Nat) (R:Option Bool->SortSt->Prop),i<n->R (some (Y i)) st->wpS (model prog w) A E s (elem' arr (base+i)>>=λx=>if left=true then lt' x key else lt' key x>>=λr=>pure (r.map λx=>!x)) R st:=by
  intro i R hi q;obtain⟨h1,h2⟩:=ha i hi;rw[elem'_eq,cQ h1];refine wpS_bind (wpS_pure ?_);have e:=aa i hi;cases left with
  |true=>
   rw[if_pos rfl]at e⊢;exact L _ _ st R h2 hk hK (by rw[<-e];exact q)
  |false=>
   rw[if_neg (by decide)]at e⊢;refine wpS_bind (L _ _ st _ hk h2 hK (wpS_pure ?_));show R (some (!blt key (g arr (base+i)))) st;rw[<-e];exact q
 refine wpS_bind ?_;dsimp only;refine a0 hint _ hh ?_;dsimp only;cases e0:Y hint with
 |true=>
  rw[if_pos rfl];refine wpS_bind (wpS_mono (wpS_forRange (I:=λi c st'=>st'=st/\∃U O,c=(none,U,O)/\U<O/\i+1<=O/\hint+U<n/\Y (hint+U)=true)
   (Q:=λc st'=>st'=st/\∃U O,c=(none,U,O)/\U<O/\hint+U<n/\Y (hint+U)=true/\(n-hint<=O\/(hint+O<n/\Y (hint+O)=false))) ?_ ?_ ⟨rfl,0,1,rfl,by lia,by lia,by lia,e0⟩) ?_)
  .rintro i c st' ac af ⟨rfl,U,O,rfl,a1,a2,a3,Z⟩;dsimp only;by_cases z:O>=n-hint
   .rw[if_pos z];exact wpS_pure ⟨rfl,U,O,rfl,a1,a3,Z,.inl z⟩
   .rw[if_neg z];refine wpS_bind (a0 (hint+O) _ (by lia) ?_);dsimp only;cases e:Y (hint+O)with
    |false=>
     rw[if_pos (by decide)];exact wpS_pure ⟨rfl,U,O,rfl,a1,a3,Z,.inr ⟨by lia,e⟩⟩
    |true=>
     rw[if_neg (by decide)];exact wpS_pure ⟨rfl,O,2*O+1,rfl,by lia,by lia,by lia,e⟩
  .rintro c st' ⟨rfl,U,O,rfl,a1,a2,a3,Z⟩;have em:max 0 n=n:=QO (Qi _);rw[em]at a2;exact⟨rfl,U,O,rfl,a1,a3,Z,.inl (by lia)⟩
  .rintro c st' ⟨rfl,U,O,rfl,a1,a3,Z,a5⟩;dsimp only;refine wpS_bind (uV Y mono (λi lo hi R hn c1 c2 c3=>?_) (by lia) (by lia) (λi hi=>mono i (hint+U) (by lia) a3 Z) (λi h1 h2=>?_) λk h1 h2 h3=>?_)
   .dsimp only;by_cases z:lo>=hi
    .rw[if_pos z];exact wpS_pure (c1 z)
    .rw[if_neg z];refine wpS_bind (a0 _ _ (by lia) ?_);dsimp only;cases e:Y (lo+(hi-lo)/2)with
     |true=>rw[if_pos rfl];exact wpS_pure (c2 (by lia) e)
     |false=>rw[if_neg (by decide)];exact wpS_pure (c3 (by lia) e)
   .rcases a5 with z|⟨z1,z2⟩
    .lia
    .cases q:Y i with
     |false=>rfl
     |true=>rw[mono (hint+O) i (by lia) h2 q]at z2;cases z2
   .exact wpS_pure (h k h1 h2 h3)
 |false=>
  rw[if_neg (by decide)];refine wpS_bind (wpS_mono (wpS_forRange (I:=λi c st'=>st'=st/\∃U O,c=(none,U,O)/\U<O/\i+1<=O/\U<=hint/\Y (hint-U)=false)
   (Q:=λc st'=>st'=st/\∃U O,c=(none,U,O)/\U<O/\U<=hint/\Y (hint-U)=false/\(hint+1<=O\/(O<=hint/\Y (hint-O)=true))) ?_ ?_ ⟨rfl,0,1,rfl,by lia,by lia,by lia,e0⟩) ?_)
  .rintro i c st' ac af ⟨rfl,U,O,rfl,a1,a2,a3,Z⟩;dsimp only;by_cases z:O>=hint+1
   .rw[if_pos z];exact wpS_pure ⟨rfl,U,O,rfl,a1,a3,Z,.inl z⟩
   .rw[if_neg z];refine wpS_bind (a0 (hint-O) _ (by lia) ?_);dsimp only;cases e:Y (hint-O)with
    |true=>
     rw[if_pos rfl];exact wpS_pure ⟨rfl,U,O,rfl,a1,a3,Z,.inr ⟨by lia,e⟩⟩
    |false=>
     rw[if_neg (by decide)];exact wpS_pure ⟨rfl,O,2*O+1,rfl,by lia,by lia,by lia,e⟩
  .rintro c st' ⟨rfl,U,O,rfl,a1,a2,a3,Z⟩;have em:max 0 n=n:=QO (Qi _);rw[em]at a2;exact⟨rfl,U,O,rfl,a1,a3,Z,.inl (by lia)⟩
  .rintro c st' ⟨rfl,U,O,rfl,a1,a3,Z,a5⟩;dsimp only;refine wpS_bind (uV Y mono (λi lo hi R hn c1 c2 c3=>?_) (by lia) (by lia) (λi hi=>?_) (λi h1 h2=>?_) λk h1 h2 h3=>?_)
   .dsimp only;by_cases z:lo>=hi
    .rw[if_pos z];exact wpS_pure (c1 z)
    .rw[if_neg z];refine wpS_bind (a0 _ _ (by lia) ?_);dsimp only;cases e:Y (lo+(hi-lo)/2)with
     |true=>rw[if_pos rfl];exact wpS_pure (c2 (by lia) e)
     |false=>rw[if_neg (by decide)];exact wpS_pure (c3 (by lia) e)
   .rcases a5 with z|⟨z1,z2⟩
    .lia
    .exact mono i (hint-O) (by lia) (by lia) z2
   .cases q:Y i with
    |false=>rfl
    |true=>rw[mono (hint-U) i (by lia) h2 q]at Z;cases Z
   .exact wpS_pure (h k h1 h2 h3)
end
end Srt
namespace Srt
open PySem PyProof.Rows
variable {A:Around} {a₀:Array Keyed} {x:Keyed} {blt:Keyed->Keyed->Bool} {R:Keyed->SortSt->Prop} {all o ra rb:List Keyed} {i n:Nat} {prog:Program} {B:Prop} {s:Shared} {κ:SortKind} {st:SortSt} {α:Type} {Q:Unit->SortSt->Prop} {E:Value->Shared->Prop} {w:World}
def DE:Array Keyed->Array Keyed->StateT SortSt Sem (Array Keyed):=sortPriv%PySem.Builtin.mergeLo
def DF:Array Keyed->Array Keyed->StateT SortSt Sem (Array Keyed):=sortPriv%PySem.Builtin.mergeHi
section
abbrev PW (blt:Keyed->Keyed->Bool) (l:List Keyed):Prop:=l.Pairwise (le blt)
structure Lo (blt:Keyed->Keyed->Bool) (all o ra rb:List Keyed):Prop where
 perm:(o++(ra++rb)).Perm all
 srt:PW blt o
 low:∀x∈o,∀y∈ra++rb,le blt x y
theorem Lo.a {I:List Keyed} (h:Lo blt all o (I++ra) rb) (O:PW blt (I++ra)) (hc:∀x∈I,∀y∈rb,le blt x y):Lo blt all (o++I) ra rb where
 perm:=by
  refine List.Perm.trans ?_ h.perm;rw[Qm,Qm]
 srt:=Qk.mpr ⟨h.srt,(Qk.mp O).1,λx hx y hy=>h.low x hx y (by simp[hy])⟩
 low:=λx hx y hy=>by
  rcases Q5.mp hx with q|q
  .exact h.low x q y (by rcases Q5.mp hy with z|z<;>simp[z])
  .rcases Q5.mp hy with z|z
   .exact(Qk.mp O).2.2 x q y z
   .exact hc x q y z
theorem Lo.b {I:List Keyed} (h:Lo blt all o ra (I++rb)) (O:PW blt (I++rb)) (hc:∀x∈I,∀y∈ra,le blt x y):Lo blt all (o++I) ra rb where
 perm:=by
  refine List.Perm.trans ?_ h.perm;rw[Qm];refine List.Perm.append_left o ?_;rw[<-Qm,<-Qm];exact List.Perm.append_right rb ZU
 srt:=Qk.mpr ⟨h.srt,(Qk.mp O).1,λx hx y hy=>h.low x hx y (by simp[hy])⟩
 low:=λx hx y hy=>by
  rcases Q5.mp hx with q|q
  .exact h.low x q y (by rcases Q5.mp hy with z|z<;>simp[z])
  .rcases Q5.mp hy with z|z
   .exact hc x q y z
   .exact(Qk.mp O).2.2 x q y z
theorem Lo.endA (h:Lo blt all o ra []) (z:PW blt ra):(o++ra).Perm all/\PW blt (o++ra):=
 ⟨by simpa using h.perm,Qk.mpr ⟨h.srt,z,λx hx y hy=>h.low x hx y (by simp[hy])⟩⟩
theorem Lo.endB {z:Keyed} (h:Lo blt all o [z] rb) (I:PW blt rb) (hz:∀x∈rb,le blt x z):(o++(rb++ [z])).Perm all/\PW blt (o++(rb++ [z])):=by
 refine⟨List.Perm.trans (List.Perm.append_left o ZU) h.perm,Qk.mpr ⟨h.srt,Qk.mpr ⟨I,Z3 _ _,λx hx y hy=>?_⟩,λx hx y hy=>h.low x hx y ?_⟩⟩
 .rw[Qa.mp hy];exact hz x hx
 .rcases Q5.mp hy with q|q<;>simp_all
theorem tG {a:Array Keyed} (h:i<a.size):a.toList.drop i=g a i::a.toList.drop (i+1):=by
 have e:=cQ h;rw[<-QA]at e;obtain⟨h1,h2⟩:=Q2.mp e;rw[QQ h1,h2]
theorem jy {a:Array Keyed} (h:x∈a.toList.drop i):∃j,i<=j/\j<a.size/\x=g a j:=by
 obtain⟨k,hk,e⟩:=ZC.mp h;rw[QD]at hk;have z:i+k<a.size:=by rw[<-Qb];lia
 refine⟨i+k,by lia,z,?_⟩;have e2:=cQ z;rw[<-QA]at e2;rw[Zz]at e;rw[Q3 (by rw[Qb];exact z)]at e2;rw[<-e];exact Option.some.inj e2
theorem gb {a:Array Keyed} (h:On blt a 0 a.size) (i:Nat):PW blt (a.toList.drop i):=by
 refine ZL.mpr λj k I hk O=>?_;rw[QD,Qb]at I hk;have z:=cQ (xs:=a) (i:=i+j) (by lia);have e2:=cQ (xs:=a) (i:=i+k) (by lia);rw[<-QA,Q3 (by rw[Qb];lia)]at z e2;rw[Zz,Zz,Option.some.inj z,Option.some.inj e2];exact h _ _ (Qi _) (by lia) (by lia)
theorem Ds {a:Array Keyed} (h:PW blt a.toList):On blt a 0 a.size:=λi j _ z O=>by
 have I:=cQ (xs:=a) (i:=i) (by lia);have e2:=cQ (xs:=a) (i:=j) O;rw[<-QA,Q3 (by rw[Qb];lia)]at I e2;rw[<-Option.some.inj I,<-Option.some.inj e2];exact ZL.mp h i j _ _ z
theorem ou (a:Array Keyed) (i k:Nat):(a.extract i (i+k)).toList=(a.toList.drop i).take k:=by
 rw[Zb,QX];congr 1;lia
theorem fN (a:Array Keyed) (i:Nat):(a.extract i).toList=a.toList.drop i:=by
 rw[Zb,QX,Qr];rw[QD,Qb];exact Q4 _
theorem yP (l:List Keyed) (i k:Nat):l.drop i=(l.drop i).take k++l.drop (i+k):=by
 rw[<-Kz,QG]
end
theorem AR {P H:α->Prop} (body:(∀x,H x->P x)->B) (last:∀x,H x->P x):B:=body last
theorem nZ {β:Type} {P H:α->β->Prop} (body:(∀x y,H x y->P x y)->B) (last:∀x y,H x y->P x y):B:=body last
structure Like (st st':SortSt):Prop where
 kind:kindOf st'=kindOf st
 arr:arrOf st'=arrOf st
 pend:pendingOf st'=pendingOf st
 fail:failedOf st'=failedOf st
theorem Like.refl (st:SortSt):Like st st:=⟨rfl,rfl,rfl,rfl⟩
section
theorem bu {arr:Array Keyed} (h:i<arr.size) (q:R (g arr i) st):wpS (model prog w) A E s (elem' arr i) R st:=by
 rw[elem'_eq,cQ h];exact wpS_pure q
def zC:Nat->StateT SortSt Sem Unit:=sortPriv%PySem.Builtin.setMinGallop
theorem CP {m:Nat} (h:∀st',Like st st'->Q () st'):wpS (model prog w) A E s (zC m) Q st:=wpS_modify (h _ ⟨rfl,rfl,rfl,rfl⟩)
variable (L:uS prog w A E s a₀ κ blt)
include L
theorem zg {a b:Array Keyed} {Q:Array Keyed->SortSt->Prop} (C:Cmp blt) (hK:kindOf st=κ) (hm:∀x,x∈a.toList++b.toList->x∈a₀) (oa:On blt a 0 a.size) (ob:On blt b 0 b.size) (ha:0<a.size) (hb:0<b.size)
  (ac:blt (g b 0) (g a 0)=true) (aw:∀j,j<b.size->blt (g b j) (g a (a.size-1))=true)
  (h:∀res st',Like st st'->res.toList.Perm (a.toList++b.toList)->PW blt res.toList->Q res st'):wpS (model prog w) A E s (DE a b) Q st:=by
 have ma:∀i,i<a.size->g a i∈a₀:=λi hi=>hm _ (by have:=vB hi;simp[this]);have mb:∀i,i<b.size->g b i∈a₀:=λi hi=>hm _ (by have:=vB hi;simp[this]);have ax:∀(o:List Keyed) (O:Nat) (st':SortSt) (res:Array Keyed),Like st st'->Lo blt (a.toList++b.toList) o (a.toList.drop O) []->res.toList=o++a.toList.drop O->Q res st':=λo O st' res lk lo e=>by
  obtain⟨p1,p2⟩:=lo.endA (gb oa O);exact h res st' lk (by rw[e];exact p1) (by rw[e];exact p2)
 have az:∀(o:List Keyed) (U:Nat) (st':SortSt) (res:Array Keyed),Like st st'->Lo blt (a.toList++b.toList) o (a.toList.drop (a.size-1)) (b.toList.drop U)->res.toList=o++(b.toList.drop U++a.toList.drop (a.size-1))->Q res st':=λo U st' res lk lo e=>by
  have ez:a.toList.drop (a.size-1)=[g a (a.size-1)]:=by
   rw[tG (by lia),Ze (by rw[Qb];lia)]
  rw[ez]at lo e;obtain⟨p1,p2⟩:=lo.endB (gb ob U) (λx hx=>by
   obtain⟨j,_,hj,rfl⟩:=jy hx;exact C.of_lt (aw j hj))
  exact h res st' lk (by rw[e];exact p1) (by rw[e];exact p2)
 have af:∀(out:Array Keyed) (O U k:Nat),O+k<=a.size->U<b.size->Lo blt (a.toList++b.toList) out.toList (a.toList.drop O) (b.toList.drop U)->(∀i,i<k->blt (g b U) (g a (O+i))=false)->
   Lo blt (a.toList++b.toList) (out++a.extract O (O+k)).toList (a.toList.drop (O+k)) (b.toList.drop U):=λout O U k h1 h2 lo hk=>by
  rw[QI,ou];have pa:=gb oa O;rw[yP a.toList O k]at lo pa;refine lo.a pa λx hx y hy=>?_;obtain⟨i,hi,e⟩:=ZC.mp hx;rw[Qe,QD,Qb]at hi;have ex:x=g a (O+i):=by
   have e2:=cQ (xs:=a) (i:=O+i) (by lia);rw[<-QA,Q3 (by rw[Qb];lia)]at e2;rw[ZA,Zz]at e;rw[<-e];exact Option.some.inj e2
  obtain⟨j,b5,b2,rfl⟩:=jy hy;have l1:le blt x (g b U):=by rw[ex];exact hk i (by lia)
  by_cases ej:j=U
  .rw[ej];exact l1
  .exact C.trans l1 (ob U j (Qi _) (by lia) b2)
 have al:∀(out:Array Keyed) (O U k:Nat),U+k<=b.size->O<a.size->Lo blt (a.toList++b.toList) out.toList (a.toList.drop O) (b.toList.drop U)->(∀i,i<k->blt (g b (U+i)) (g a O)=true)->
   Lo blt (a.toList++b.toList) (out++b.extract U (U+k)).toList (a.toList.drop O) (b.toList.drop (U+k)):=λout O U k h1 h2 lo hk=>by
  rw[QI,ou];have pb:=gb ob U;rw[yP b.toList U k]at lo pb;refine lo.b pb λx hx y hy=>?_;obtain⟨i,hi,e⟩:=ZC.mp hx;rw[Qe,QD,Qb]at hi;have ex:x=g b (U+i):=by
   have e2:=cQ (xs:=b) (i:=U+i) (by lia);rw[<-QA,Q3 (by rw[Qb];lia)]at e2;rw[ZA,Zz]at e;rw[<-e];exact Option.some.inj e2
  obtain⟨j,b5,b2,rfl⟩:=jy hy;have l1:le blt x (g a O):=by rw[ex];exact C.of_lt (hk i (by lia))
  by_cases ej:j=O
  .rw[ej];exact l1
  .exact C.trans l1 (oa O j (Qi _) (by lia) b2)
 have one:∀(x:Array Keyed) (i:Nat),i<x.size->(x.extract i (i+1))= #[g x i]:=λx i hi=>by
  apply Array.ext';rw[ou,tG hi];rfl
 have b3:∀(out:Array Keyed) (O U:Nat),O<a.size->U<b.size->Lo blt (a.toList++b.toList) out.toList (a.toList.drop O) (b.toList.drop U)->blt (g b U) (g a O)=true->
   Lo blt (a.toList++b.toList) (out.push (g b U)).toList (a.toList.drop O) (b.toList.drop (U+1)):=λout O U h1 h2 lo hk=>by
  have:=al out O U 1 (by lia) h1 lo λi hi=>by rw[show U+i=U by lia];exact hk
  rwa [one b U h2,<-ZZ]at this
 have b4:∀(out:Array Keyed) (O U:Nat),O<a.size->U<b.size->Lo blt (a.toList++b.toList) out.toList (a.toList.drop O) (b.toList.drop U)->blt (g b U) (g a O)=false->
   Lo blt (a.toList++b.toList) (out.push (g a O)).toList (a.toList.drop (O+1)) (b.toList.drop U):=λout O U h1 h2 lo hk=>by
  have:=af out O U 1 (by lia) h2 lo λi hi=>by rw[show O+i=O by lia];exact hk
  rwa [one a O h1,<-ZZ]at this
 have endA:∀(out:Array Keyed) (O U:Nat) (st':SortSt),Like st st'->b.size<=U->Lo blt (a.toList++b.toList) out.toList (a.toList.drop O) (b.toList.drop U)->Q (out++a.extract O++b.extract U) st':=λout O U st' lk hb lo=>by
  have en:b.toList.drop U=[]:=Ze (by rw[Qb];lia);rw[en]at lo;refine ax _ O st' _ lk lo ?_;rw[QI,QI,fN,fN,en,Xg]
 have endB:∀(out:Array Keyed) (O U:Nat) (st':SortSt),Like st st'->O+1=a.size->Lo blt (a.toList++b.toList) out.toList (a.toList.drop O) (b.toList.drop U)->Q (out++b.extract U++a.extract O) st':=λout O U st' lk ha lo=>by
  have en:O=a.size-1:=by lia
  refine az out.toList U st' _ lk (by rw[<-en];exact lo) ?_;rw[QI,QI,fN,fN,<-en,Qm]
 have b6:∀(ka:Nat) (x:Keyed) (i j:Nat),i<=j->ka+j<a.size->(!blt x (g a (ka+j)))=true->(!blt x (g a (ka+i)))=true:=λka x i j h1 h2 h3=>by
  have h3:blt x (g a (ka+j))=false:=by simpa using h3
  by_cases e:i=j
  .subst e;simpa using h3
  .have:=C.trans (oa (ka+i) (ka+j) (Qi _) (by lia) h2) h3;simpa using this
 have b8:∀(Y:Nat) (x:Keyed) (i j:Nat),i<=j->Y+j<b.size->blt (g b (Y+j)) x=true->blt (g b (Y+i)) x=true:=λY x i j h1 h2 h3=>by
  by_cases e:i=j
  .subst e;exact h3
  .have q:=ob (Y+i) (Y+j) (Qi _) (by lia) h2;cases z:blt (g b (Y+i)) x with
   |true=>rfl
   |false=>
    have f:blt (g b (Y+j)) x=false:=C.trans z q;rw[h3]at f;cases f
 refine wpS_bind ?_;dsimp only;refine wpS_lift (wpAny_rule ⟨rfl,?_⟩);refine wpS_bind (bu hb ?_);have start:Lo blt (a.toList++b.toList) [g b 0] (a.toList.drop 0) (b.toList.drop 1):=by
  have l0:Lo blt (a.toList++b.toList) [] (a.toList.drop 0) ([g b 0]++b.toList.drop 1):=by
   refine⟨?_,List.Pairwise.nil,λx hx=>absurd hx QR⟩;have e:=tG hb;rw[Zk]at e;rw[Zk,List.nil_append,List.singleton_append,<-e]
  have:=l0.b (by have:=gb ob 0;rw[tG hb]at this;exact this) (λx hx y hy=>by
   rw[Qa.mp hx];obtain⟨j,_,hj,rfl⟩:=jy hy;by_cases j0:j=0
   .rw[j0];exact C.of_lt ac
   .exact C.trans (C.of_lt ac) (oa 0 j (Q4 _) (by lia) hj))
  simpa using this
 by_cases b1:1=b.size
 .have eb:(1==b.size)=true:=beq_iff_eq.mpr b1;rw[if_pos eb];refine wpS_pure ?_;have en:b.toList.drop 1=[]:=Ze (by rw[Qb];lia);rw[en]at start;refine ax _ 0 st _ (Like.refl _) start ?_;simp[b1]
 .have eb:¬(1==b.size)=true:=by simpa using b1
  rw[if_neg eb];by_cases a1:0+1=a.size
  .have ea:(0+1==a.size)=true:=beq_iff_eq.mpr a1;rw[if_pos ea];refine wpS_pure ?_;have e0:a.size-1=0:=by lia
   refine az [g b 0] 1 st _ (Like.refl _) (by rw[e0];exact start) ?_;rw[e0,QI,QI,fN,fN,Qm]
  .have ea:¬(0+1==a.size)=true:=by simpa using a1
   rw[if_neg ea];refine wpS_bind (wpS_get ?_);refine wpS_bind (wpS_mono (wpS_forRange (I:=λi c st'=>Like st st'/\∃out O U mg,c=(none,out,O,U,mg)/\O+1<a.size/\U<b.size/\i<=O+U/\Lo blt (a.toList++b.toList) out.toList (a.toList.drop O) (b.toList.drop U))
    (Q:=λc st'=>∃res,c.1=some res/\Q res st') ?_ ?_ ⟨Like.refl _, #[g b 0],0,1,_,rfl,by lia,by lia,by lia,start⟩) ?_)
   .rintro i c st' bx bz ⟨lk,out,O,U,mg,rfl,bh,hb1,hi,lo⟩;have bp:kindOf st'=κ:=lk.kind.trans hK;refine wpS_bind (wpS_mono (wpS_forRange (I:=λj c st2=>st2=st'/\∃out ja jb p q,c=(none,out,ja,jb,p,q)/\ja+1<a.size/\jb<b.size/\O+U<=ja+jb/\Lo blt (a.toList++b.toList) out.toList (a.toList.drop ja) (b.toList.drop jb))
     (Q:=λc st2=>st2=st'/\((∃res,c.1=some res/\Q res st')\/∃out ja jb p q,c=(none,out,ja,jb,p,q)/\ja+1<a.size/\jb<b.size/\O+U<=ja+jb/\Lo blt (a.toList++b.toList) out.toList (a.toList.drop ja) (b.toList.drop jb))) ?_ ?_
     ⟨rfl,out,O,U,0,0,rfl,bh,hb1,Q4 _,lo⟩) ?_)
    .rintro j c st2 b5 b2 ⟨rfl,out,ja,jb,p,q,rfl,ap,Z,a4,lo⟩;dsimp only;refine wpS_bind (bu Z (wpS_bind (bu (by lia) (wpS_bind (L _ _ _ _ (mb jb Z) (ma ja (by lia)) bp ?_)))));dsimp only;cases e:blt (g b jb) (g a ja)with
     |true=>
      rw[if_pos rfl];have a5:=b3 out ja jb (by lia) Z lo e;refine wpS_bind (bu Z ?_);by_cases z:jb+1=b.size
      .rw[if_pos (beq_iff_eq.mpr z)];exact wpS_pure ⟨rfl,.inl ⟨_,rfl,endA _ ja (jb+1) _ lk (by lia) a5⟩⟩
      .rw[if_neg (by simpa using z)];by_cases y:q+1>=mg
       .rw[if_pos y];exact wpS_pure ⟨rfl,.inr ⟨_,_,_,_,_,rfl,ap,by lia,by lia,a5⟩⟩
       .rw[if_neg y];exact wpS_pure ⟨rfl,_,_,_,_,_,rfl,ap,by lia,by lia,a5⟩
     |false=>
      rw[if_neg (by decide)];have a5:=b4 out ja jb (by lia) Z lo e;refine wpS_bind (bu (by lia) ?_);by_cases z:ja+1+1=a.size
      .rw[if_pos (beq_iff_eq.mpr z)];exact wpS_pure ⟨rfl,.inl ⟨_,rfl,endB _ (ja+1) jb _ lk z a5⟩⟩
      .rw[if_neg (by simpa using z)];by_cases y:p+1>=mg
       .rw[if_pos y];exact wpS_pure ⟨rfl,.inr ⟨_,_,_,_,_,rfl,by lia,Z,by lia,a5⟩⟩
       .rw[if_neg y];exact wpS_pure ⟨rfl,_,_,_,_,_,rfl,by lia,Z,by lia,a5⟩
    .rintro c st2 ⟨rfl,out,ja,jb,p,q,rfl,ap,Z,a4,lo⟩;exact⟨rfl,.inr ⟨_,_,_,_,_,rfl,ap,Z,a4,lo⟩⟩
    .rintro ⟨r,c⟩ st2 ⟨rfl,⟨res,e,q⟩|⟨out,ja,jb,p,q,e,ap,Z,a4,lo⟩⟩
     .dsimp only at e;subst e;exact wpS_pure ⟨res,rfl,q⟩
     .obtain⟨rfl,rfl⟩:=Prod.mk.inj e;dsimp only;refine wpS_bind (wpS_lift (wpAny_rule ⟨rfl,?_⟩));refine wpS_bind (wpS_mono (wpS_forRange (I:=λj c aa=>Like st aa/\∃out ka Y m' p q,c=(none,out,ka,Y,m',p,q)/\ka+1<a.size/\Y<b.size/\O+U+j<=ka+Y/\Lo blt (a.toList++b.toList) out.toList (a.toList.drop ka) (b.toList.drop Y))
       (Q:=λc aa=>Like st aa/\((∃res,c.1=some res/\Q res aa)\/∃out ka Y m' p q,c=(none,out,ka,Y,m',p,q)/\ka+1<a.size/\Y<b.size/\O+U+1<=ka+Y/\Lo blt (a.toList++b.toList) out.toList (a.toList.drop ka) (b.toList.drop Y))) ?_ ?_
       ⟨lk,out,ja,jb,_,_,_,rfl,ap,Z,by lia,lo⟩) ?_)
      .rintro j c aa b5 b2 ⟨an,out,ka,Y,m',p,q,rfl,bb,a3,a4,lo⟩;dsimp only;apply AR (α:=Nat) (H:=λ_=>True)
       .intro key;by_cases m1:m'>1
        .rw[if_pos m1];generalize m'-1=mm;exact key mm trivial
        .rw[if_neg m1];exact key m' trivial
       intro mm _;refine wpS_bind (CP λst4 a2=>?_);have a0:Like st st4:=⟨a2.kind.trans an.kind,a2.arr.trans an.arr,a2.pend.trans an.pend,a2.fail.trans an.fail⟩;have bl:kindOf st4=κ:=a0.kind.trans hK;refine wpS_bind (bu a3 ?_);refine wpS_bind (fK L bl (mb Y a3) (λi hi=>⟨by lia,ma _ (by lia)⟩) (by lia) (λi=>!blt (g b Y) (g a (ka+i))) (λi hi=>rfl) (λi j h1 h2 h3=>b6 ka _ i j h1 (by lia) h3) λk c0 bn br=>?_);dsimp only;have bt:k<a.size-ka:=by
        rcases XI k (a.size-ka)with z|z
        .exact z
        .have f:=bn (a.size-1-ka) (by lia);rw[show ka+(a.size-1-ka)=a.size-1 by lia,aw Y a3]at f;cases f
       have bo:∀i,i<k->blt (g b Y) (g a (ka+i))=false:=λi hi=>by have:=bn i hi;simpa using this
       have bw:blt (g b Y) (g a (ka+k))=true:=by have:=br k (Q4 _) bt;simpa using this
       apply nZ (H:=λ(kc:Nat) (o':Array Keyed)=>ka<=kc/\kc+1<a.size/\Lo blt (a.toList++b.toList) o'.toList (a.toList.drop kc) (b.toList.drop Y)/\blt (g b Y) (g a kc)=true)
       .intro key;by_cases k0:k>0
        .rw[if_pos k0];have lo1:=af out ka Y k (by lia) a3 lo bo;by_cases z:ka+k+1=a.size
         .rw[if_pos (beq_iff_eq.mpr z)];exact wpS_pure ⟨a0,.inl ⟨_,rfl,endB _ (ka+k) Y _ a0 z lo1⟩⟩
         have zz:¬ka+k=a.size:=by lia
         rw[if_neg (by simpa using z),if_neg (by simpa using zz)];have k5:ka<=ka+k/\ka+k+1<a.size:=by lia
         have bv:=bw;generalize out++a.extract ka (ka+k)=o' at lo1⊢;generalize ka+k=kc at lo1 bv k5⊢;exact key kc o' ⟨k5.1,k5.2,lo1,bv⟩
        .rw[if_neg k0];have bv:=bw;rw[show k=0 by lia,ZQ]at bv;exact key ka out ⟨Q4 _,by lia,lo,bv⟩
       intro kc o' hc;obtain⟨c1,c2,lo1,bw⟩:=hc;refine wpS_bind (bu a3 ?_);have bd:=b3 _ kc Y (by lia) a3 lo1 bw;by_cases z2:Y+1=b.size
       .rw[if_pos (beq_iff_eq.mpr z2)];exact wpS_pure ⟨a0,.inl ⟨_,rfl,endA _ kc (Y+1) _ a0 (by lia) bd⟩⟩
       rw[if_neg (by simpa using z2)];refine wpS_bind (bu (by lia) ?_);refine wpS_bind (fK L bl (ma _ (by lia)) (λi hi=>⟨by lia,mb _ (by lia)⟩) (by lia) (λi=>blt (g b (Y+1+i)) (g a kc)) (λi hi=>rfl) (λi j h1 h2 h3=>b8 (Y+1) _ i j h1 (by lia) h3) λk2 h1 h2 h3=>?_);dsimp only;apply nZ (H:=λ(kd:Nat) (o2:Array Keyed)=>Y+1<=kd/\kd<b.size/\Lo blt (a.toList++b.toList) o2.toList (a.toList.drop kc) (b.toList.drop kd)/\blt (g b kd) (g a kc)=false)
       .intro key;by_cases q0:k2>0
        .rw[if_pos q0];have au:=al _ kc (Y+1) k2 (by lia) (by lia) bd h2;by_cases z3:Y+1+k2=b.size
         .rw[if_pos (beq_iff_eq.mpr z3)];exact wpS_pure ⟨a0,.inl ⟨_,rfl,endA _ kc (Y+1+k2) _ a0 (by lia) au⟩⟩
         rw[if_neg (by simpa using z3)];have w3:=h3 k2 (Q4 _) (by lia);have k5:Y+1<=Y+1+k2/\Y+1+k2<b.size:=by lia
         generalize o'.push (g b Y)++b.extract (Y+1) (Y+1+k2)=o2 at au⊢;generalize Y+1+k2=kd at au w3 k5⊢;exact key kd o2 ⟨k5.1,k5.2,au,w3⟩
        .rw[if_neg q0];have w3:blt (g b (Y+1)) (g a kc)=false:=h3 0 (by lia) (by lia);have k5:Y+1<b.size:=by lia
         exact key (Y+1) _ ⟨Q4 _,k5,bd,w3⟩
       intro kd o2 hd;obtain⟨d1,d2,au,w3⟩:=hd;refine wpS_bind (bu (by lia) ?_);have be:=b4 _ kc kd (by lia) (by lia) au w3;by_cases z4:kc+1+1=a.size
       .rw[if_pos (beq_iff_eq.mpr z4)];exact wpS_pure ⟨a0,.inl ⟨_,rfl,endB _ (kc+1) kd _ a0 z4 be⟩⟩
       rw[if_neg (by simpa using z4)];split
       .exact wpS_pure ⟨a0,.inr ⟨_,_,_,_,_,_,rfl,by lia,by lia,by lia,be⟩⟩
       .exact wpS_pure ⟨a0,_,_,_,_,_,_,rfl,by lia,by lia,by lia,be⟩
      .rintro c aa ⟨a2,out,ka,Y,m',p,q,rfl,bb,a3,a4,lo⟩;have em:max 0 (a.size+b.size)=a.size+b.size:=QO (Qi _);rw[em]at a4;lia
      .rintro ⟨r,c⟩ aa ⟨a2,⟨res,e,q⟩|⟨out,ka,Y,m',p,q,e,bb,a3,a4,lo⟩⟩
       .dsimp only at e;subst e;exact wpS_pure ⟨res,rfl,q⟩
       .obtain⟨rfl,rfl⟩:=Prod.mk.inj e;dsimp only;refine wpS_bind (wpS_modify (wpS_pure ⟨⟨a2.kind,a2.arr,a2.pend,a2.fail⟩,_,_,_,_,rfl,bb,a3,by lia,lo⟩))
   .rintro c st' ⟨lk,out,O,U,mg,rfl,bh,hb1,hi,lo⟩;have em:max 0 (a.size+b.size)=a.size+b.size:=QO (Qi _);rw[em]at hi;lia
   .rintro ⟨r,c⟩ st' ⟨res,e,q⟩;dsimp only at e;subst e;exact wpS_pure q
end
section
structure Hi (blt:Keyed->Keyed->Bool) (all o ra rb:List Keyed):Prop where
 perm:((ra++rb)++o).Perm all
 srt:PW blt o
 high:∀x∈ra++rb,∀y∈o,le blt x y
theorem Hi.a {I:List Keyed} (h:Hi blt all o (ra++I) rb) (O:PW blt (ra++I)) (hc:∀x∈rb,∀y∈I,le blt x y):Hi blt all (I++o) ra rb where
 perm:=by
  refine List.Perm.trans ?_ h.perm;rw[<-Qm];refine List.Perm.append_right o ?_;rw[Qm,Qm];exact List.Perm.append_left ra ZU
 srt:=Qk.mpr ⟨(Qk.mp O).2.1,h.srt,λx hx y hy=>h.high x (by simp[hx]) y hy⟩
 high:=λx hx y hy=>by
  rcases Q5.mp hy with q|q
  .rcases Q5.mp hx with z|z
   .exact(Qk.mp O).2.2 x z y q
   .exact hc x z y q
  .exact h.high x (by rcases Q5.mp hx with z|z<;>simp[z]) y q
theorem Hi.b {I:List Keyed} (h:Hi blt all o ra (rb++I)) (O:PW blt (rb++I)) (hc:∀x∈ra,∀y∈I,le blt x y):Hi blt all (I++o) ra rb where
 perm:=by
  refine List.Perm.trans ?_ h.perm;rw[<-Qm];refine List.Perm.append_right o ?_;rw[Qm]
 srt:=Qk.mpr ⟨(Qk.mp O).2.1,h.srt,λx hx y hy=>h.high x (by simp[hx]) y hy⟩
 high:=λx hx y hy=>by
  rcases Q5.mp hy with q|q
  .rcases Q5.mp hx with z|z
   .exact hc x z y q
   .exact(Qk.mp O).2.2 x z y q
  .exact h.high x (by rcases Q5.mp hx with z|z<;>simp[z]) y q
theorem CZ {a:Array Keyed} (h:i<a.size):a.toList.take (i+1)=a.toList.take i++ [g a i]:=by
 have e:=cQ h;rw[<-QA]at e;rw[Qn,e];rfl
theorem gr {a:Array Keyed} (h:x∈a.toList.take n):∃j,j<n/\j<a.size/\x=g a j:=by
 obtain⟨k,hk,e⟩:=ZC.mp h;rw[Qe,Qb]at hk;refine⟨k,by lia,by lia,?_⟩;have e2:=cQ (xs:=a) (i:=k) (by lia);rw[<-QA,Q3 (by rw[Qb];lia)]at e2;rw[ZA]at e;rw[<-e];exact Option.some.inj e2
theorem dq {a:Array Keyed} (h:x∈(a.extract i n).toList):∃j,i<=j/\j<n/\j<a.size/\x=g a j:=by
 rw[Zb,QX]at h;obtain⟨k,hk,e⟩:=ZC.mp h;rw[Qe,QD,Qb]at hk;refine⟨i+k,by lia,by lia,by lia,?_⟩;have e2:=cQ (xs:=a) (i:=i+k) (by lia);rw[<-QA,Q3 (by rw[Qb];lia)]at e2;rw[ZA,Zz]at e;rw[<-e];exact Option.some.inj e2
theorem kR {a:Array Keyed} (h:On blt a 0 a.size) (n:Nat):PW blt (a.toList.take n):=by
 have:=gb h 0;rw[Zk]at this;exact List.Pairwise.sublist (XD _ _) this
theorem xT {a:Array Keyed} (h:i<=n):a.toList.take n=a.toList.take i++(a.extract i n).toList:=by
 rw[Zb,QX];obtain⟨k,rfl⟩:∃k,n=i+k:=⟨n-i,by lia⟩;rw[List.take_add,show i+k-i=k by lia]
theorem FV (a:Array Keyed) (n:Nat):(a.extract 0 n).toList=a.toList.take n:=by
 rw[Zb,QX,Zk,Nat.sub_zero]
end
section
variable (L:uS prog w A E s a₀ κ blt)
include L
theorem zh {a b:Array Keyed} {Q:Array Keyed->SortSt->Prop} (C:Cmp blt) (hK:kindOf st=κ) (hm:∀x,x∈a.toList++b.toList->x∈a₀) (oa:On blt a 0 a.size) (ob:On blt b 0 b.size) (ha:0<a.size) (hb:0<b.size)
  (ac:blt (g b 0) (g a 0)=true) (bh:∀j,j<b.size->blt (g b j) (g a (a.size-1))=true)
  (h:∀res st',Like st st'->res.toList.Perm (a.toList++b.toList)->PW blt res.toList->Q res st'):wpS (model prog w) A E s (DF a b) Q st:=by
 have ma:∀i,i<a.size->g a i∈a₀:=λi hi=>hm _ (by have:=vB hi;simp[this]);have mb:∀i,i<b.size->g b i∈a₀:=λi hi=>hm _ (by have:=vB hi;simp[this]);have af:∀i,i<a.size->blt (g b 0) (g a i)=true:=λi hi=>by
  by_cases i0:i=0
  .rw[i0];exact ac
  .cases z:blt (g b 0) (g a i)with
   |true=>rfl
   |false=>
    have f:blt (g b 0) (g a 0)=false:=C.trans (oa 0 i (Q4 _) (by lia) hi) z;rw[ac]at f;cases f
 have al:∀(out:Array Keyed) (O U k:Nat),k<=O->O<=a.size->1<=U->U<=b.size->Hi blt (a.toList++b.toList) out.reverse.toList (a.toList.take O) (b.toList.take U)->(∀i,k<=i->i<O->blt (g b (U-1)) (g a i)=true)->
   Hi blt (a.toList++b.toList) (out++(a.extract k O).reverse).reverse.toList (a.toList.take k) (b.toList.take U):=λout O U k h1 h2 h3 h4 lo hk=>by
  have er:(out++(a.extract k O).reverse).reverse.toList=(a.extract k O).toList++out.reverse.toList:=by simp
  have pa:=kR oa O;rw[xT h1]at lo pa;rw[er];refine lo.a pa λx hx y hy=>?_;obtain⟨i,b2,b3,c3,rfl⟩:=dq hy;obtain⟨j,bd,b4,rfl⟩:=gr hx;have l1:=C.of_lt (hk i b2 b3);by_cases ej:j=U-1
  .rw[ej];exact l1
  .exact C.trans (ob j (U-1) (Qi _) (by lia) (by lia)) l1
 have an:∀(out:Array Keyed) (O U k:Nat),k<=U->U<=b.size->1<=O->O<=a.size->Hi blt (a.toList++b.toList) out.reverse.toList (a.toList.take O) (b.toList.take U)->(∀i,k<=i->i<U->blt (g b i) (g a (O-1))=false)->
   Hi blt (a.toList++b.toList) (out++(b.extract k U).reverse).reverse.toList (a.toList.take O) (b.toList.take k):=λout O U k h1 h2 h3 h4 lo hk=>by
  have er:(out++(b.extract k U).reverse).reverse.toList=(b.extract k U).toList++out.reverse.toList:=by simp
  have pb:=kR ob U;rw[xT h1]at lo pb;rw[er];refine lo.b pb λx hx y hy=>?_;obtain⟨i,b2,b3,c3,rfl⟩:=dq hy;obtain⟨j,bd,b4,rfl⟩:=gr hx;have l1:le blt (g a (O-1)) (g b i):=hk i b2 b3;by_cases ej:j=O-1
  .rw[ej];exact l1
  .exact C.trans (oa j (O-1) (Qi _) (by lia) (by lia)) l1
 have one:∀(x:Array Keyed) (i:Nat),i<x.size->(x.extract i (i+1)).reverse= #[g x i]:=λx i hi=>by
  have:x.extract i (i+1)= #[g x i]:=by
   apply Array.ext';rw[ou,tG hi];rfl
  rw[this];rfl
 have b5:∀(out:Array Keyed) (O U:Nat),1<=O->O<=a.size->1<=U->U<=b.size->Hi blt (a.toList++b.toList) out.reverse.toList (a.toList.take O) (b.toList.take U)->blt (g b (U-1)) (g a (O-1))=true->
   Hi blt (a.toList++b.toList) (out.push (g a (O-1))).reverse.toList (a.toList.take (O-1)) (b.toList.take U):=λout O U h1 h2 h3 h4 lo hk=>by
  have:=al out O U (O-1) (by lia) h2 h3 h4 lo λi hi hj=>by rw[show i=O-1 by lia];exact hk
  rwa [show a.extract (O-1) O=a.extract (O-1) (O-1+1) by rw[show O-1+1=O by lia],one a (O-1) (by lia),<-ZZ]at this
 have b6:∀(out:Array Keyed) (O U:Nat),1<=O->O<=a.size->1<=U->U<=b.size->Hi blt (a.toList++b.toList) out.reverse.toList (a.toList.take O) (b.toList.take U)->blt (g b (U-1)) (g a (O-1))=false->
   Hi blt (a.toList++b.toList) (out.push (g b (U-1))).reverse.toList (a.toList.take O) (b.toList.take (U-1)):=λout O U h1 h2 h3 h4 lo hk=>by
  have:=an out O U (U-1) (by lia) h4 h1 h2 lo λi hi hj=>by rw[show i=U-1 by lia];exact hk
  rwa [show b.extract (U-1) U=b.extract (U-1) (U-1+1) by rw[show U-1+1=U by lia],one b (U-1) (by lia),<-ZZ]at this
 have endA:∀(out:Array Keyed) (O U:Nat) (st':SortSt),Like st st'->O=0->U<=b.size->Hi blt (a.toList++b.toList) out.reverse.toList (a.toList.take O) (b.toList.take U)->Q (a.extract 0 O++b.extract 0 U++out.reverse) st':=λout O U st' lk hn bl lo=>by
  subst hn;have e:(a.extract 0 0++b.extract 0 U++out.reverse).toList=b.toList.take U++out.reverse.toList:=by
   rw[QI,QI,FV,FV];rfl
  refine h _ st' lk ?_ ?_
  .rw[e];exact lo.perm
  .rw[e];exact Qk.mpr ⟨kR ob U,lo.srt,λx hx y hy=>lo.high x (by simp[hx]) y hy⟩
 have endB:∀(out:Array Keyed) (O U:Nat) (st':SortSt),Like st st'->U=1->O<=a.size->Hi blt (a.toList++b.toList) out.reverse.toList (a.toList.take O) (b.toList.take U)->Q (b.extract 0 U++a.extract 0 O++out.reverse) st':=λout O U st' lk hn bn lo=>by
  subst hn;have e:(b.extract 0 1++a.extract 0 O++out.reverse).toList=(b.toList.take 1++a.toList.take O)++out.reverse.toList:=by
   rw[QI,QI,FV,FV]
  refine h _ st' lk ?_ ?_
  .rw[e];exact List.Perm.trans (List.Perm.append_right _ ZU) lo.perm
  .rw[e];refine Qk.mpr ⟨Qk.mpr ⟨kR ob 1,kR oa O,λx hx y hy=>?_⟩,lo.srt,λx hx y hy=>lo.high x ?_ y hy⟩
   .obtain⟨i,b2,b3,rfl⟩:=gr hx;obtain⟨j,bd,b4,rfl⟩:=gr hy;rw[show i=0 by lia];exact C.of_lt (af j b4)
   .rcases Q5.mp hx with z|z
    .exact Q5.mpr (.inr z)
    .exact Q5.mpr (.inl z)
 have bo:∀(ka:Nat) (x:Keyed) (i j:Nat),i<=j->ka+j<a.size->(!blt x (g a (ka+j)))=true->(!blt x (g a (ka+i)))=true:=λka x i j h1 h2 h3=>by
  have h3:blt x (g a (ka+j))=false:=by simpa using h3
  by_cases e:i=j
  .subst e;simpa using h3
  .have:=C.trans (oa (ka+i) (ka+j) (Qi _) (by lia) h2) h3;simpa using this
 have bp:∀(Y:Nat) (x:Keyed) (i j:Nat),i<=j->Y+j<b.size->blt (g b (Y+j)) x=true->blt (g b (Y+i)) x=true:=λY x i j h1 h2 h3=>by
  by_cases e:i=j
  .subst e;exact h3
  .have q:=ob (Y+i) (Y+j) (Qi _) (by lia) h2;cases z:blt (g b (Y+i)) x with
   |true=>rfl
   |false=>
    have f:blt (g b (Y+j)) x=false:=C.trans z q;rw[h3]at f;cases f
 refine wpS_bind ?_;dsimp only;refine wpS_lift (wpAny_rule ⟨rfl,?_⟩);refine wpS_bind (bu (by lia) ?_);have start:Hi blt (a.toList++b.toList) (#[g a (a.size-1)]:Array Keyed).reverse.toList (a.toList.take (a.size-1)) (b.toList.take b.size):=by
  have l0:Hi blt (a.toList++b.toList) [] (a.toList.take (a.size-1)++ [g a (a.size-1)]) (b.toList.take b.size):=by
   refine⟨?_,List.Pairwise.nil,λx _ y hy=>absurd hy QR⟩;rw[<-CZ (by lia),show a.size-1+1=a.size by lia,Xg];have e1:a.toList.take a.size=a.toList:=Qr (by rw[Qb];exact Q4 _);have e2:b.toList.take b.size=b.toList:=Qr (by rw[Qb];exact Q4 _);rw[e1,e2]
  have:=l0.a (by rw[<-CZ (by lia)];exact kR oa _) (λx hx y hy=>by
   rw[Qa.mp hy];obtain⟨j,_,hj,rfl⟩:=gr hx;exact C.of_lt (bh j hj))
  exact this
 by_cases a1:a.size-1=0
 .rw[if_pos (beq_iff_eq.mpr a1)];exact wpS_pure (endA _ (a.size-1) b.size st (Like.refl _) a1 (Q4 _) start)
 .rw[if_neg (by simpa using a1)];by_cases b1:b.size=1
  .rw[if_pos (beq_iff_eq.mpr b1)];exact wpS_pure (endB _ (a.size-1) b.size st (Like.refl _) b1 (by lia) start)
  .rw[if_neg (by simpa using b1)];refine wpS_bind (wpS_get ?_);refine wpS_bind (wpS_mono (wpS_forRange (I:=λi c st'=>Like st st'/\∃O U out mg,c=(none,O,U,out,mg)/\1<=O/\O<=a.size/\2<=U/\U<=b.size/\O+U+i<=a.size+b.size/\Hi blt (a.toList++b.toList) out.reverse.toList (a.toList.take O) (b.toList.take U))
    (Q:=λc st'=>∃res,c.1=some res/\Q res st') ?_ ?_ ⟨Like.refl _,_,_, #[g a (a.size-1)],_,rfl,by lia,by lia,by lia,Q4 _,by lia,start⟩) ?_)
   .rintro i c st' b2 b3 ⟨lk,O,U,out,mg,rfl,bx,bn,hb1,bl,hi,lo⟩;have c4:kindOf st'=κ:=lk.kind.trans hK;refine wpS_bind (wpS_mono (wpS_forRange (I:=λj c st2=>st2=st'/\∃ja jb out p q,c=(none,ja,jb,out,p,q)/\1<=ja/\ja<=a.size/\2<=jb/\jb<=b.size/\ja+jb<=O+U/\Hi blt (a.toList++b.toList) out.reverse.toList (a.toList.take ja) (b.toList.take jb))
     (Q:=λc st2=>st2=st'/\((∃res,c.1=some res/\Q res st')\/∃ja jb out p q,c=(none,ja,jb,out,p,q)/\1<=ja/\ja<=a.size/\2<=jb/\jb<=b.size/\ja+jb<=O+U/\Hi blt (a.toList++b.toList) out.reverse.toList (a.toList.take ja) (b.toList.take jb))) ?_ ?_
     ⟨rfl,O,U,out,0,0,rfl,bx,bn,hb1,bl,Q4 _,lo⟩) ?_)
    .rintro j c st2 bd b4 ⟨rfl,ja,jb,out,p,q,rfl,aw,Z,ax,a0,a4,lo⟩;dsimp only;refine wpS_bind (bu (by lia) (wpS_bind (bu (by lia) (wpS_bind (L _ _ _ _ (mb (jb-1) (by lia)) (ma (ja-1) (by lia)) c4 ?_)))));dsimp only;cases e:blt (g b (jb-1)) (g a (ja-1))with
     |true=>
      rw[if_pos rfl];have a5:=b5 out ja jb (by lia) Z (by lia) a0 lo e;refine wpS_bind (bu (by lia) ?_);by_cases z:ja-1=0
      .rw[if_pos (beq_iff_eq.mpr z)];exact wpS_pure ⟨rfl,.inl ⟨_,rfl,endA _ (ja-1) jb _ lk z a0 a5⟩⟩
      .rw[if_neg (by simpa using z)];by_cases y:p+1>=mg
       .rw[if_pos y];exact wpS_pure ⟨rfl,.inr ⟨_,_,_,_,_,rfl,by lia,by lia,ax,a0,by lia,a5⟩⟩
       .rw[if_neg y];exact wpS_pure ⟨rfl,_,_,_,_,_,rfl,by lia,by lia,ax,a0,by lia,a5⟩
     |false=>
      rw[if_neg (by decide)];have a5:=b6 out ja jb (by lia) Z (by lia) a0 lo e;refine wpS_bind (bu (by lia) ?_);by_cases z:jb-1=1
      .rw[if_pos (beq_iff_eq.mpr z)];exact wpS_pure ⟨rfl,.inl ⟨_,rfl,endB _ ja (jb-1) _ lk z Z a5⟩⟩
      .rw[if_neg (by simpa using z)];by_cases y:q+1>=mg
       .rw[if_pos y];exact wpS_pure ⟨rfl,.inr ⟨_,_,_,_,_,rfl,aw,Z,by lia,by lia,by lia,a5⟩⟩
       .rw[if_neg y];exact wpS_pure ⟨rfl,_,_,_,_,_,rfl,aw,Z,by lia,by lia,by lia,a5⟩
    .rintro c st2 ⟨rfl,ja,jb,out,p,q,rfl,aw,Z,ax,a0,a4,lo⟩;exact⟨rfl,.inr ⟨_,_,_,_,_,rfl,aw,Z,ax,a0,a4,lo⟩⟩
    .rintro ⟨r,c⟩ st2 ⟨rfl,⟨res,e,q⟩|⟨ja,jb,out,p,q,e,aw,Z,ax,a0,a4,lo⟩⟩
     .dsimp only at e;subst e;exact wpS_pure ⟨res,rfl,q⟩
     .obtain⟨rfl,rfl⟩:=Prod.mk.inj e;dsimp only;refine wpS_bind (wpS_lift (wpAny_rule ⟨rfl,?_⟩));refine wpS_bind (wpS_mono (wpS_forRange (I:=λj c aa=>Like st aa/\∃ka Y out m' p q,c=(none,ka,Y,out,m',p,q)/\1<=ka/\ka<=a.size/\2<=Y/\Y<=b.size/\ka+Y+j<=O+U/\Hi blt (a.toList++b.toList) out.reverse.toList (a.toList.take ka) (b.toList.take Y))
       (Q:=λc aa=>Like st aa/\((∃res,c.1=some res/\Q res aa)\/∃ka Y out m' p q,c=(none,ka,Y,out,m',p,q)/\1<=ka/\ka<=a.size/\2<=Y/\Y<=b.size/\ka+Y+1<=O+U/\Hi blt (a.toList++b.toList) out.reverse.toList (a.toList.take ka) (b.toList.take Y))) ?_ ?_
       ⟨lk,ja,jb,out,_,_,_,rfl,aw,Z,ax,a0,by lia,lo⟩) ?_)
      .rintro j c aa bd b4 ⟨ap,ka,Y,out,m',p,q,rfl,br,b8,bt,bb,a4,lo⟩;dsimp only;apply AR (α:=Nat) (H:=λ_=>True)
       .intro key;by_cases m1:m'>1
        .rw[if_pos m1];generalize m'-1=mm;exact key mm trivial
        .rw[if_neg m1];exact key m' trivial
       intro mm _;refine wpS_bind (CP λst4 a3=>?_);have a2:Like st st4:=⟨a3.kind.trans ap.kind,a3.arr.trans ap.arr,a3.pend.trans ap.pend,a3.fail.trans ap.fail⟩;have bz:kindOf st4=κ:=a2.kind.trans hK;refine wpS_bind (bu (by lia) ?_);refine wpS_bind (fK L bz (mb (Y-1) (by lia)) (λi hi=>⟨by lia,ma _ (by lia)⟩) (by lia) (λi=>!blt (g b (Y-1)) (g a (0+i))) (λi hi=>rfl) (λi j h1 h2 h3=>bo 0 _ i j h1 (by lia) h3) λk cb c5 c9=>?_);dsimp only;have au:∀i,i<k->blt (g b (Y-1)) (g a i)=false:=λi hi=>by have f:=c5 i hi;rw[X3]at f;simpa using f
       have c0:∀i,k<=i->i<ka->blt (g b (Y-1)) (g a i)=true:=λi hi hj=>by have f:=c9 i hi hj;rw[X3]at f;simpa using f
       apply nZ (H:=λ(kc:Nat) (o':Array Keyed)=>0<kc/\kc<=ka/\(∀i,i<kc->blt (g b (Y-1)) (g a i)=false)/\Hi blt (a.toList++b.toList) o'.reverse.toList (a.toList.take kc) (b.toList.take Y))
       .intro key;by_cases k0:ka-k>0
        .rw[if_pos k0];have lo1:=al out ka Y k (by lia) (by lia) (by lia) (by lia) lo c0;by_cases z:k=0
         .rw[if_pos (beq_iff_eq.mpr z)];exact wpS_pure ⟨a2,.inl ⟨_,rfl,endA _ k Y _ a2 z (by lia) lo1⟩⟩
         rw[if_neg (by simpa using z)];generalize out++(a.extract k ka).reverse=o' at lo1⊢;obtain⟨kc,ek⟩:∃kc,kc=k:=⟨_,rfl⟩;rw[<-ek]at lo1⊢;exact key kc o' ⟨by lia,by lia,by rw[ek];exact au,lo1⟩
        .rw[if_neg k0];have e0:k=ka:=by lia
         rw[e0];exact key ka out ⟨by lia,Q4 _,by rw[<-e0];exact au,lo⟩
       intro kc o' hc;obtain⟨c1,c2,au,lo1⟩:=hc;refine wpS_bind (bu (by lia) ?_);have bv:=b6 _ kc Y (by lia) (by lia) (by lia) (by lia) lo1 (au (kc-1) (by lia));by_cases z2:Y-1=1
       .rw[if_pos (beq_iff_eq.mpr z2)];exact wpS_pure ⟨a2,.inl ⟨_,rfl,endB _ kc (Y-1) _ a2 z2 (by lia) bv⟩⟩
       rw[if_neg (by simpa using z2)];refine wpS_bind (bu (by lia) ?_);refine wpS_bind (fK L bz (ma _ (by lia)) (λi hi=>⟨by lia,mb _ (by lia)⟩) (by lia) (λi=>blt (g b (0+i)) (g a (kc-1))) (λi hi=>rfl) (λi j h1 h2 h3=>bp 0 _ i j h1 (by lia) h3) λk2 h1 h2 h3=>?_);dsimp only;have ce:0<k2:=by
        rcases QV k2 with z|z
        .have f:blt (g b (0+0)) (g a (kc-1))=false:=h3 0 (by lia) (by lia);rw[ZQ,af (kc-1) (by lia)]at f;cases f
        .exact z
       have be:∀i,i<k2->blt (g b i) (g a (kc-1))=true:=λi hi=>by have f:=h2 i hi;rwa [X3]at f
       have ca:∀i,k2<=i->i<Y-1->blt (g b i) (g a (kc-1))=false:=λi hi hj=>by have f:=h3 i hi hj;rwa [X3]at f
       apply nZ (H:=λ(kd:Nat) (o2:Array Keyed)=>1<kd/\kd<=Y-1/\(∀i,i<kd->blt (g b i) (g a (kc-1))=true)/\Hi blt (a.toList++b.toList) o2.reverse.toList (a.toList.take kc) (b.toList.take kd))
       .intro key;by_cases q0:Y-1-k2>0
        .rw[if_pos q0];have az:=an _ kc (Y-1) k2 (by lia) (by lia) (by lia) (by lia) bv ca;by_cases z3:k2=1
         .rw[if_pos (beq_iff_eq.mpr z3)];exact wpS_pure ⟨a2,.inl ⟨_,rfl,endB _ kc k2 _ a2 z3 (by lia) az⟩⟩
         have zz:¬k2=0:=by lia
         rw[if_neg (by simpa using z3),if_neg (by simpa using zz)];generalize o'.push (g b (Y-1))++(b.extract k2 (Y-1)).reverse=o2 at az⊢;obtain⟨kd,ed⟩:∃kd,kd=k2:=⟨_,rfl⟩;rw[<-ed]at az⊢;exact key kd o2 ⟨by lia,by lia,by rw[ed];exact be,az⟩
        .rw[if_neg q0];have e2:k2=Y-1:=by lia
         rw[e2];exact key (Y-1) _ ⟨by lia,Q4 _,by rw[<-e2];exact be,bv⟩
       intro kd o2 hd;obtain⟨d1,d2,be,az⟩:=hd;refine wpS_bind (bu (by lia) ?_);have bw:=b5 _ kc kd (by lia) (by lia) (by lia) (by lia) az (be (kd-1) (by lia));by_cases z4:kc-1=0
       .rw[if_pos (beq_iff_eq.mpr z4)];exact wpS_pure ⟨a2,.inl ⟨_,rfl,endA _ (kc-1) kd _ a2 z4 (by lia) bw⟩⟩
       rw[if_neg (by simpa using z4)];split
       .exact wpS_pure ⟨a2,.inr ⟨_,_,_,_,_,_,rfl,by lia,by lia,by lia,by lia,by lia,bw⟩⟩
       .exact wpS_pure ⟨a2,_,_,_,_,_,_,rfl,by lia,by lia,by lia,by lia,by lia,bw⟩
      .rintro c aa ⟨a3,ka,Y,out,m',p,q,rfl,br,b8,bt,bb,a4,lo⟩;have em:max 0 (a.size+b.size)=a.size+b.size:=QO (Qi _);rw[em]at a4;lia
      .rintro ⟨r,c⟩ aa ⟨a3,⟨res,e,q⟩|⟨ka,Y,out,m',p,q,e,br,b8,bt,bb,a4,lo⟩⟩
       .dsimp only at e;subst e;exact wpS_pure ⟨res,rfl,q⟩
       .obtain⟨rfl,rfl⟩:=Prod.mk.inj e;dsimp only;refine wpS_bind (wpS_modify (wpS_pure ⟨⟨a3.kind,a3.arr,a3.pend,a3.fail⟩,_,_,_,_,rfl,br,b8,bt,bb,by lia,lo⟩))
   .rintro c st' ⟨lk,O,U,out,mg,rfl,bx,bn,hb1,bl,hi,lo⟩;have em:max 0 (a.size+b.size)=a.size+b.size:=QO (Qi _);rw[em]at hi;lia
   .rintro ⟨r,c⟩ st' ⟨res,e,q⟩;dsimp only at e;subst e;exact wpS_pure q
end
end Srt
namespace Srt
open PySem PyProof.Rows
variable {A:Around} {p:Array (Nat×Nat×Nat)} {arr a₀ m xs:Array Keyed} {Q:Bool->SortSt->Prop} {blt:Keyed->Keyed->Bool} {l:List (Nat×Nat×Nat)} {at_ i lo n:Nat} {prog:Program} {s:Shared} {κ:SortKind} {st:SortSt} {α:Type} {E:Value->Shared->Prop} {w:World}
section
def lay (arr:Array Keyed) (at_:Nat) (m:Array Keyed):Array Keyed:=m.toList.zipIdx.foldl (λa p=>a.setIfInBounds (at_+p.2) p.1) arr
theorem DR:∀(l:List Keyed) (j:Nat) (arr:Array Keyed) (at_:Nat),at_+j+l.length<=arr.size->
  ((l.zipIdx j).foldl (λa p=>a.setIfInBounds (at_+p.2) p.1) arr).toList=arr.toList.take (at_+j)++l++arr.toList.drop (at_+j+l.length)
 | [],j,arr,at_,h=>by simp
 |x::l,j,arr,at_,h=>by
  rw[List.zipIdx_cons,K3];have hl:at_+j<arr.size:=by simp at h;lia
  have z:=DR l (j+1) (arr.setIfInBounds (at_+j) x) at_ (by simp at h⊢;lia)
  rw[z,KA];have I:(arr.toList.set (at_+j) x).take (at_+(j+1))=arr.toList.take (at_+j)++ [x]:=by
   rw[show at_+(j+1)=at_+j+1 by lia,Qn,List.take_set_of_le (Q4 _),Xd (by rw[Qb];exact hl)];rfl
  have e2:(arr.toList.set (at_+j) x).drop (at_+(j+1)+l.length)=arr.toList.drop (at_+j+(x::l).length):=by
   rw[List.drop_set_of_lt (by lia)];congr 1;simp;lia
  rw[I,e2,Qm,Qm,Qm];rfl
theorem yE (h:at_+m.size<=arr.size):(lay arr at_ m).toList=arr.toList.take at_++m.toList++arr.toList.drop (at_+m.size):=by
 have:=DR m.toList 0 arr at_ (by simpa using h)
 simpa[lay]using this
theorem xg (xs:Array Keyed) (k:Nat):g xs k=(xs.toList[k]?).getD dk:=by unfold g;rw[QA]
theorem Jj (h:at_+m.size<=arr.size) (k:Nat):g (lay arr at_ m) k=if at_<=k/\k<at_+m.size then g m (k-at_)else g arr k:=by
 rw[xg,yE h];have l1:(arr.toList.take at_).length=at_:=by rw[Qe,Qb];lia
 by_cases a:k<at_
 .rw[if_neg (by lia),Qm,QW (by lia),List.getElem?_take_of_lt a,<-xg]
 .by_cases b:k<at_+m.size
  .rw[if_pos ⟨by lia,b⟩,Qm,QU (by lia),l1,QW (by rw[Qb];lia),<-xg]
  .rw[if_neg (by lia),QU (by rw[Qd,l1,Qb];lia),Qd,l1,Qb,X7,show at_+m.size+(k-(at_+m.size))=k by lia,<-xg]
theorem DQ (h:at_+m.size<=arr.size) (p:m.toList.Perm ((arr.toList.drop at_).take m.size)):(lay arr at_ m).Perm arr:=by
 rw[ZD,yE h];have e:arr.toList=arr.toList.take at_++((arr.toList.drop at_).take m.size++arr.toList.drop (at_+m.size)):=by
  rw[<-Kz,QG,QG]
 refine List.Perm.trans ?_ (List.Perm.of_eq e.symm);rw[Qm];exact List.Perm.append_left _ (List.Perm.append_right _ p)
theorem lN (h:n<=arr.size) {k:Nat} (hk:k<n-i):g (arr.extract i n) k=g arr (i+k):=by
 unfold g;rw[Array.getElem?_extract,if_pos (by lia)]
theorem rE (h:n<=arr.size):(arr.extract i n).size=n-i:=by rw[Array.size_extract];lia
theorem wI (h:n<=arr.size) (o:On blt arr i n):On blt (arr.extract i n) 0 (arr.extract i n).size:=λa b _ z hb=>by
 rw[rE h]at hb;rw[lN h (by lia),lN h hb];exact o _ _ (by lia) (by lia) (by lia)
end
section
theorem E7 {x:SortSt} {Q:PUnit->SortSt->Prop} (h:Q ⟨⟩ x):wpS (model prog w) A E s (set x:StateT SortSt Sem PUnit) Q st:=by
 unfold wpS;rw[StateT.run_set];exact wpAny_pure ⟨rfl,h⟩
variable (L:uS prog w A E s a₀ κ blt)
include L
theorem zi {I O pa sb Y pb:Nat} (C:Cmp blt) (B:Base a₀ κ st) (hi:(pendingOf st)[i]?=some (I,O,pa)) (U:(pendingOf st)[i+1]?=some (sb,Y,pb)) (hb:sb=I+O) (h1:1<=O) (h2:1<=Y) (hz:sb+Y<=a₀.size)
  (oa:On blt (arrOf st) I (I+O)) (ob:On blt (arrOf st) sb (sb+Y))
  (h:∀st',Base a₀ κ st'->pendingOf st'=((pendingOf st).setIfInBounds i (I,O+Y,pa)).eraseIdxIfInBounds (i+1)->On blt (arrOf st') I (I+(O+Y))->(∀k,k<I\/I+(O+Y)<=k->g (arrOf st') k=g (arrOf st) k)->Q true st'):
  wpS (model prog w) A E s (mergeAt' i) Q st:=by
 subst hb;have hsz:=B.size;have ax:((sortPriv%PySem.Builtin.SortState.a) st).size=a₀.size:=B.size;refine wpS_bind (wpS_get ?_);dsimp only;rw[hi,U];dsimp only;refine wpS_bind (E7 ?_);have B1:Base a₀ κ (SortSt.mk' (kindOf st) (arrOf st) (((pendingOf st).setIfInBounds i (I,O+Y,pa)).eraseIdxIfInBounds (i+1)) (gallopOf st) (failedOf st)):=⟨B.kind,B.fine,B.perm⟩;refine wpS_bind (bu (by lia) ?_);refine wpS_bind (fK L B1.kind (B.mem (by lia)) (λj U=>⟨by lia,B.mem (by lia)⟩) (by lia) (λj=>!blt (g (arrOf st) (I+O)) (g (arrOf st) (I+j))) (λj U=>rfl) (λx y h3 h4 h5=>?_) λk az an ap=>?_)
 .have h5:blt (g (arrOf st) (I+O)) (g (arrOf st) (I+y))=false:=by simpa using h5
  by_cases e:x=y
  .subst e;simpa using h5
  .have:=C.trans (oa (I+x) (I+y) (by lia) (by lia) (by lia)) h5;simpa using this
 .dsimp only;have low:∀j,j<k->le blt (g (arrOf st) (I+j)) (g (arrOf st) (I+O)):=λj U=>by have:=an j U;simpa using this
  have up:∀j,k<=j->j<O->blt (g (arrOf st) (I+O)) (g (arrOf st) (I+j))=true:=λj U au=>by have:=ap j U au;simpa using this
  have a2:∀j x,j<k->I+O<=x->x<I+O+Y->le blt (g (arrOf st) (I+j)) (g (arrOf st) x):=λj x U hx Z=>by
   by_cases e:x=I+O
   .rw[e];exact low j U
   .exact C.trans (low j U) (ob (I+O) x (Q4 _) (by lia) Z)
  by_cases n0:O-k=0
  .rw[if_pos (beq_iff_eq.mpr n0)];refine wpS_pure (h _ B1 rfl (λx y hx a0 hy=>?_) λ_ _=>rfl);by_cases c:y<I+O
   .exact oa x y hx a0 c
   .by_cases d:x<I+O
    .have:=a2 (x-I) y (by lia) (by lia) (by lia);rwa [show I+(x-I)=x by lia]at this
    .exact ob x y (by lia) a0 (by lia)
  .rw[if_neg (by simpa using n0)];refine wpS_bind (bu (by lia) ?_);rw[show I+k+(O-k)-1=I+O-1 by lia];refine wpS_bind (fK L B1.kind (B.mem (by lia)) (λj U=>⟨by lia,B.mem (by lia)⟩) (by lia) (λj=>blt (g (arrOf st) (I+O+j)) (g (arrOf st) (I+O-1))) (λj U=>rfl) (λx y h3 h4 h5=>?_) λm b1 aw aa=>?_)
   .by_cases e:x=y
    .subst e;exact h5
    .cases z:blt (g (arrOf st) (I+O+x)) (g (arrOf st) (I+O-1))with
     |true=>rfl
     |false=>
      have f:blt (g (arrOf st) (I+O+y)) (g (arrOf st) (I+O-1))=false:=C.trans z (ob (I+O+x) (I+O+y) (by lia) (by lia) (by lia));rw[h5]at f;cases f
   .dsimp only;have a3:∀j,j<m->blt (g (arrOf st) (I+O+j)) (g (arrOf st) (I+O-1))=true:=aw;have first:blt (g (arrOf st) (I+O+0)) (g (arrOf st) (I+k+0))=true:=by
     rw[ZQ,ZQ];exact up k (Q4 _) (by lia)
    have mp:0<m:=by
     rcases QV m with z|z
     .have f:blt (g (arrOf st) (I+O+0)) (g (arrOf st) (I+O-1))=false:=aa 0 (by lia) (by lia);have q:=up (O-1) (by lia) (by lia);rw[show I+(O-1)=I+O-1 by lia]at q;rw[ZQ,q]at f;cases f
     .exact z
    have high:∀x,I+O+m<=x->x<I+O+Y->le blt (g (arrOf st) (I+O-1)) (g (arrOf st) x):=λx hx Z=>by
     have f:blt (g (arrOf st) (I+O+(x-(I+O)))) (g (arrOf st) (I+O-1))=false:=aa (x-(I+O)) (by lia) (by lia);rwa [show I+O+(x-(I+O))=x by lia]at f
    have a1:∀y x,I<=y->y<I+O->I+O+m<=x->x<I+O+Y->le blt (g (arrOf st) y) (g (arrOf st) x):=λy x hy b2 hx Z=>by
     by_cases e:y=I+O-1
     .rw[e];exact high x hx Z
     .exact C.trans (oa y (I+O-1) hy (by lia) (by lia)) (high x hx Z)
    rw[if_neg (by have:¬m=0:=by lia
                  simpa using this)]
    have sx:((arrOf st).extract (I+k) (I+O)).size=I+O-(I+k):=rE (by lia);have sy:((arrOf st).extract (I+O) (I+O+m)).size=I+O+m-(I+O):=rE (by lia);have ac:On blt (arrOf st) (I+k) (I+O):=oa.sub (by lia) (by lia);have af:On blt (arrOf st) (I+O) (I+O+m):=ob.sub (by lia) (by lia);have a4:∀(res:Array Keyed) (st2:SortSt),Like (SortSt.mk' (kindOf st) (arrOf st) (((pendingOf st).setIfInBounds i (I,O+Y,pa)).eraseIdxIfInBounds (i+1)) (gallopOf st) (failedOf st)) st2->res.toList.Perm (((arrOf st).extract (I+k) (I+O)).toList++((arrOf st).extract (I+O) (I+O+m)).toList)->PW blt res.toList->
      wpS (model prog w) A E s (modify (λs=>SortSt.mk' (kindOf s) (lay (arrOf s) (I+k) res) (pendingOf s) (gallopOf s) (failedOf s))>>=λ_=>get>>=λx=>pure (failedOf x).isNone) Q st2:=λres st2 lk pm pw=>by
     have rs:res.size=O-k+m:=by
      have:=pm.length_eq;rw[Qd,Qb,Qb,Qb,sx,sy]at this;lia
     have rm:∀j,j<res.size->∃x,I+k<=x/\x<I+O+m/\g res j=g (arrOf st) x:=λj U=>by
      have mem:g res j∈res.toList:=by have:=vB U;simpa using this
      rcases Q5.mp (pm.mem_iff.mp mem)with q|q
      .obtain⟨x,x1,x2,_,x4⟩:=dq q;exact⟨x,by lia,by lia,x4⟩
      .obtain⟨x,x1,x2,_,x4⟩:=dq q;exact⟨x,by lia,by lia,x4⟩
     have al:I+k+res.size<=(arrOf st2).size:=by rw[lk.arr];show I+k+res.size<=(arrOf st).size;lia
     refine wpS_bind (wpS_modify ?_);refine wpS_bind (wpS_get (wpS_pure ?_));have hg:∀x,g (lay (arrOf st2) (I+k) res) x=if I+k<=x/\x<I+k+res.size then g res (x-(I+k))else g (arrOf st) x:=λx=>by
      rw[Jj al,lk.arr]
     have ef:(failedOf st2).isNone=true:=by
      rw[lk.fail];show(failedOf st).isNone=true;rw[B.fine];rfl
     show Q (failedOf st2).isNone _;rw[ef];have on:=Ds pw;refine h _ ⟨lk.kind.trans B.kind,lk.fail.trans B.fine,?_⟩ lk.pend ?_ ?_
     .refine(DQ al ?_).trans (by rw[lk.arr];exact B.perm);rw[lk.arr];show res.toList.Perm (((arrOf st).toList.drop (I+k)).take res.size);refine pm.trans (List.Perm.of_eq ?_);rw[Zb,Zb,QX,QX,rs,show I+O-(I+k)=O-k by lia,show I+O+m-(I+O)=m by lia,List.take_add,Kz,show I+k+(O-k)=I+O by lia]
     .intro x y hx a0 hy;show le blt (g (lay (arrOf st2) (I+k) res) x) (g (lay (arrOf st2) (I+k) res) y);rw[hg x,hg y];by_cases y1:I+k<=y/\y<I+k+res.size
      .rw[if_pos y1];by_cases x1:I+k<=x/\x<I+k+res.size
       .rw[if_pos x1];exact on _ _ (Qi _) (by lia) (by lia)
       .rw[if_neg x1];obtain⟨z,z1,z2,z3⟩:=rm (y-(I+k)) (by lia);rw[z3];by_cases zz:z<I+O
        .exact oa x z hx (by lia) zz
        .have:=a2 (x-I) z (by lia) (by lia) (by lia);rwa [show I+(x-I)=x by lia]at this
      .rw[if_neg y1];by_cases x1:I+k<=x/\x<I+k+res.size
       .rw[if_pos x1];obtain⟨z,z1,z2,z3⟩:=rm (x-(I+k)) (by lia);rw[z3];by_cases zz:z<I+O
        .exact a1 z y (by lia) zz (by lia) (by lia)
        .exact ob z y (by lia) (by lia) (by lia)
       .rw[if_neg x1];by_cases yy:y<I+O
        .exact oa x y hx a0 yy
        .by_cases xx:x<I+O
         .exact a1 x y hx xx (by lia) (by lia)
         .exact ob x y (by lia) a0 (by lia)
     .intro x hx;show g (lay (arrOf st2) (I+k) res) x=g (arrOf st) x;rw[hg x,if_neg (by lia)]
    by_cases c:O-k<=m
    .rw[if_pos c];refine wpS_bind (zg L C B1.kind (λx hx=>?_) (wI (by lia) ac) (wI (by lia) af) (by rw[sx];lia) (by rw[sy];lia) ?_ ?_ λres st2 lk pm pw=>?_)
     .rcases Q5.mp hx with q|q
      .obtain⟨j,_,_,a5,rfl⟩:=dq q;exact B.mem (by lia)
      .obtain⟨j,_,_,a5,rfl⟩:=dq q;exact B.mem (by lia)
     .rw[lN (by lia) (by lia),lN (by lia) (by lia)];exact first
     .intro j U;rw[sy]at U;rw[sx,lN (by lia) (by lia),lN (by lia) (by lia),show I+k+(I+O-(I+k)-1)=I+O-1 by lia];exact a3 j (by lia)
     .exact a4 res st2 lk pm pw
    .rw[if_neg c];refine wpS_bind (zh L C B1.kind (λx hx=>?_) (wI (by lia) ac) (wI (by lia) af) (by rw[sx];lia) (by rw[sy];lia) ?_ ?_ λres st2 lk pm pw=>?_)
     .rcases Q5.mp hx with q|q
      .obtain⟨j,_,_,a5,rfl⟩:=dq q;exact B.mem (by lia)
      .obtain⟨j,_,_,a5,rfl⟩:=dq q;exact B.mem (by lia)
     .rw[lN (by lia) (by lia),lN (by lia) (by lia)];exact first
     .intro j U;rw[sy]at U;rw[sx,lN (by lia) (by lia),lN (by lia) (by lia),show I+k+(I+O-(I+k)-1)=I+O-1 by lia];exact a3 j (by lia)
     .exact a4 res st2 lk pm pw
end
section
def Stack (blt:Keyed->Keyed->Bool) (xs:Array Keyed):List (Nat×Nat×Nat)->Nat->Nat->Prop
 | [],f,t=>f=t
 |(st,len,_)::r,f,t=>st=f/\1<=len/\On blt xs st (st+len)/\Stack blt xs r (st+len) t
theorem Stack.le {xs:Array Keyed}:∀{l:List (Nat×Nat×Nat)} {f t:Nat},Stack blt xs l f t->f+l.length<=t
 | [],f,t,h=>by cases h;simp
 |(st,len,p)::r,f,t,h=>by
  obtain⟨rfl,h1,_,z⟩:=h;have:=Stack.le z;simp;lia
theorem Stack.app {xs:Array Keyed}:∀{l r:List (Nat×Nat×Nat)} {f t:Nat},Stack blt xs (l++r) f t↔∃m,Stack blt xs l f m/\Stack blt xs r m t
 | [],r,f,t=>⟨λh=>⟨f,rfl,h⟩,λ⟨m,e,h⟩=>by cases e;exact h⟩
 |(st,len,p)::l,r,f,t=>by
  constructor
  .rintro ⟨h1,h2,z,I⟩;obtain⟨m,a,b⟩:=Stack.app.mp I;exact⟨m,⟨h1,h2,z,a⟩,b⟩
  .rintro ⟨m,⟨h1,h2,z,a⟩,b⟩;exact⟨h1,h2,z,Stack.app.mpr ⟨m,a,b⟩⟩
theorem Stack.congr {ys:Array Keyed}:∀{l:List (Nat×Nat×Nat)} {f t:Nat},Stack blt xs l f t->(∀k,f<=k->k<t->g ys k=g xs k)->Stack blt ys l f t
 | [],f,t,h,_=>h
 |(st,len,p)::r,f,t,h,e=>by
  obtain⟨rfl,h1,h2,z⟩:=h;have:=z.le;exact⟨rfl,h1,h2.congr λk a b=>e k a (by lia),z.congr λk a b=>e k (by lia) b⟩
theorem Stack.pw {a b p q:Nat} {f t:Nat} (h:Stack blt xs (l++ [(a,b,p)]) f t):Stack blt xs (l++ [(a,b,q)]) f t:=by
 obtain⟨m,h1,h2⟩:=Stack.app.mp h;exact Stack.app.mpr ⟨m,h1,h2⟩
theorem jv {q:Nat} (S:Stack blt xs p.toList 0 lo) (h:1<=n) (o:On blt xs lo (lo+n)):Stack blt xs (p.push (lo,n,q)).toList 0 (lo+n):=by
 rw[XJ];exact Stack.app.mpr ⟨lo,S,rfl,h,o,rfl⟩
theorem yw (q:Array α) (x:α) (f:α->α):(q.push x).modify ((q.push x).size-1) f=q.push (f x):=by
 have e:(q.push x).size-1=q.size:=by simp
 rw[e];apply Array.ext
 .simp
 .intro i h1 h2;rw[Array.getElem_modify];by_cases hi:q.size=i
  .subst hi;simp
  .rw[if_neg hi];have:i<q.size:=by simp at h2;lia
   rw[Xm this,Xm this]
theorem nU {pw:Nat} (z:1<=p.size) (S:Stack blt xs p.toList 0 lo):Stack blt xs (p.modify (p.size-1) λx=>(x.1,x.2.1,pw)).toList 0 lo:=by
 obtain⟨q,x,rfl⟩:∃q x,p=q.push x:=⟨p.pop,p[p.size-1],by
  apply Array.ext
  .simp;lia
  .intro i h1 h2;by_cases hi:i<p.pop.size
   .rw[Xm hi];simp
   .have:i=p.size-1:=by simp at h2 hi;lia
    subst this;rw[Array.getElem_push];rw[dif_neg (by simp)]⟩
 rw[yw,XJ];rw[XJ]at S;obtain⟨a,b,c⟩:=x;exact S.pw
theorem split_at {l:List α} {x y:α} (h1:l[i]?=some x) (h2:l[i+1]?=some y):∃p r,l=p++x::y::r/\p.length=i:=by
 obtain⟨O,U⟩:=Q2.mp h1;obtain⟨Y,e2⟩:=Q2.mp h2;refine⟨l.take i,l.drop (i+2),?_,by rw[Qe];lia⟩;have z:=QQ O;have I:=QQ Y;rw[U]at z;rw[e2]at I
 calc l=l.take i++l.drop i:=(QG _ _).symm
  _=_:=by rw[z,I]
theorem D8 {p r:List α} {x y v:α}:((p++x::y::r).set p.length v).eraseIdx (p.length+1)=p++v::r:=by
 rw[List.set_append_right _ _ (Q4 _),Nat.sub_self];rw[XB (by lia),show p.length+1-p.length=1 by lia];rfl
end
section
variable (L:uS prog w A E s a₀ κ blt)
include L
theorem oV (C:Cmp blt) (B:Base a₀ κ st) (S:Stack blt (arrOf st) (pendingOf st).toList 0 lo) (a0:lo<=a₀.size) (hi:i+1<(pendingOf st).size)
  (h:∀st',Base a₀ κ st'->Stack blt (arrOf st') (pendingOf st').toList 0 lo->(pendingOf st').size+1=(pendingOf st).size->(∀k,lo<=k->g (arrOf st') k=g (arrOf st) k)->Q true st'):
  wpS (model prog w) A E s (mergeAt' i) Q st:=by
 have U:(pendingOf st)[i]?=some ((pendingOf st)[i]'(by lia)):=getElem?_pos _ _ _;have Y:(pendingOf st)[i+1]?=some ((pendingOf st)[i+1]'hi):=getElem?_pos _ _ _;obtain⟨⟨z,I,pa⟩,e1⟩:∃x,x=(pendingOf st)[i]'(by lia):=⟨_,rfl⟩;obtain⟨⟨sb,O,pb⟩,e2⟩:∃x,x=(pendingOf st)[i+1]'hi:=⟨_,rfl⟩;rw[<-e1]at U;rw[<-e2]at Y;have t1:=U;have t2:=Y;rw[<-QA]at t1 t2;obtain⟨p,r,Z,pl⟩:=split_at t1 t2;rw[Z]at S;obtain⟨m,S1,S2⟩:=Stack.app.mp S;obtain⟨rfl,n1,o1,rfl,n2,o2,S3⟩:=S2;have l3:=S3.le;have l1:=S1.le;refine zi L C B U Y rfl n1 n2 (by lia) o1 o2 λst' B' hp on keep=>?_;have ep:(pendingOf st').toList=p++(z,I+O,pa)::r:=by
  rw[hp,Array.toList_eraseIdxIfInBounds,KA,Z,<-pl,D8]
 have kz:∀k,k<z\/z+I+O<=k->g (arrOf st') k=g (arrOf st) k:=λk hk=>keep k (by lia);refine h st' B' ?_ ?_ λk hk=>kz k (by lia)
 .rw[ep];refine Stack.app.mpr ⟨z,S1.congr λk a b=>kz k (.inl b),rfl,by lia,on,?_⟩;rw[show z+(I+O)=z+I+O by lia];exact S3.congr λk a b=>kz k (.inr a)
 .have a:=congrArg List.length ep;have b:=congrArg List.length Z;simp at a b;lia
theorem xN {Q:Unit->SortSt->Prop} (C:Cmp blt) (B:Base a₀ κ st) (hp:pendingOf st= #[]) (h2:1<=a₀.size)
  (h:∀st',Base a₀ κ st'->On blt (arrOf st') 0 a₀.size->Q () st'):wpS (model prog w) A E s sortRuns' Q st:=by
 rw[sortRuns'_eq];refine wpS_bind (wpS_get ?_);dsimp only;have hsz:=B.size;rw[hsz];refine wpS_bind (wpS_mono (wpS_forRange
  (I:=λi c st'=>∃lo,c=(none,lo)/\i<=lo/\lo<=a₀.size/\Base a₀ κ st'/\Stack blt (arrOf st') (pendingOf st').toList 0 lo)
  (Q:=λc st'=>c=(none,a₀.size)/\Base a₀ κ st'/\Stack blt (arrOf st') (pendingOf st').toList 0 a₀.size) ?step ?fin ⟨0,rfl,Q4 _,Qi _,B,by rw[hp];exact rfl⟩) ?post)
 case fin=>
  rintro c st' ⟨lo,rfl,h1,h3,B',S⟩;have em:max 0 a₀.size=a₀.size:=QO (Qi _);rw[em]at h1;have e:lo=a₀.size:=by lia
  subst e;exact⟨rfl,B',S⟩
 case step=>
  rintro i c st' _ hi ⟨lo,rfl,h1,h3,B',S⟩;dsimp only;by_cases z:lo>=a₀.size
  .rw[if_pos z];have e:lo=a₀.size:=by lia
   subst e;exact wpS_pure ⟨rfl,B',S⟩
  .rw[if_neg z];refine wpS_bind (CQ L C B' (by lia) (by lia) λn st2 B2 p2 m1 m2 O2 k2=>?_);dsimp only;have S2:Stack blt (arrOf st2) (pendingOf st2).toList 0 lo:=by
    rw[p2];exact S.congr λk _ b=>k2 k b
   by_cases U:n<minRun' a₀.size a₀.size 0
   .rw[if_pos U];refine wpS_bind (wpS_lift (wpAny_rule ⟨rfl,?_⟩));refine wpS_bind (Bx L C B2 m1 (by lia) (by lia) O2 λO B3 p3 O3 k3=>?_);rw[if_neg (by decide)];have S3:Stack blt (arrOf O) (pendingOf O).toList 0 lo:=by
     rw[p3];exact S2.congr λk _ b=>k3 k b
    generalize hn:min (a₀.size-lo) (minRun' a₀.size a₀.size 0)=n' at O3;have a2:1<=n':=by lia
    have a3:lo+n'<=a₀.size:=by lia
    refine wpS_bind (wpS_get ?_);cases eb:(pendingOf O).back? with
    |none=>
     dsimp only;exact wpS_bind (wpS_modify (wpS_pure ⟨lo+n',rfl,by lia,by lia,⟨B3.kind,B3.fine,B3.perm⟩,jv S3 (by lia) O3⟩))
    |some tt=>
     obtain⟨s1,n1,p1⟩:=tt;dsimp only;have Z:1<=(pendingOf O).size:=by
      rcases QV (pendingOf O).size with q|q
      .rw[Array.size_eq_zero_iff.mp q]at eb;cases eb
      .exact q
     refine wpS_bind (wpS_mono (wpS_forRange (I:=λ_ c st4=>c=(none,())/\Base a₀ κ st4/\Stack blt (arrOf st4) (pendingOf st4).toList 0 lo/\On blt (arrOf st4) lo (lo+n')/\1<=(pendingOf st4).size)
      (Q:=λc st4=>c=(none,())/\Base a₀ κ st4/\Stack blt (arrOf st4) (pendingOf st4).toList 0 lo/\On blt (arrOf st4) lo (lo+n')/\1<=(pendingOf st4).size) ?_ (λ_ _ q=>q) ⟨rfl,B3,S3,O3,Z⟩) ?_)
     .rintro j c st4 _ _ ⟨rfl,Y,S4,O4,z4⟩;refine wpS_bind (wpS_get ?_);by_cases big:(pendingOf st4).size>1
      .rw[if_pos big,getElem?_pos (pendingOf st4) ((pendingOf st4).size-2) (by lia)];obtain⟨⟨u1,u2,a0⟩,eu⟩:∃x,x=(pendingOf st4)[(pendingOf st4).size-2]'(by(clear big Z eb a3 a2 hn p3 U m2 m1 p2 z h3 h1 hi hsz h2 hp;omega (config:={}))):=⟨_,rfl⟩;rw[<-eu];dsimp only;split
       .exact wpS_pure ⟨rfl,Y,S4,O4,z4⟩
       .refine wpS_bind (oV L C Y S4 (by lia) (by lia) λa4 B5 S5 z5 k5=>?_);rw[if_neg (by decide)];exact wpS_pure ⟨rfl,B5,S5,O4.congr λk a b=>k5 k a,by lia⟩
      .rw[if_neg big];exact wpS_pure ⟨rfl,Y,S4,O4,z4⟩
     .rintro c st4 ⟨rfl,Y,S4,O4,z4⟩;dsimp only;refine wpS_bind (wpS_modify (wpS_bind (wpS_modify (wpS_pure ⟨lo+n',rfl,by lia,by lia,⟨Y.kind,Y.fine,Y.perm⟩,?_⟩))));exact jv (nU z4 S4) (by lia) O4
   .rw[if_neg U];have B3:=B2;have S3:=S2;have O3:=O2;obtain⟨O,e3⟩:∃x,x=st2:=⟨_,rfl⟩;rw[<-e3]at B3 S3 O3⊢;refine wpS_bind (wpS_get ?_);cases eb:(pendingOf O).back? with
    |none=>
     dsimp only;exact wpS_bind (wpS_modify (wpS_pure ⟨lo+n,rfl,by lia,by lia,⟨B3.kind,B3.fine,B3.perm⟩,jv S3 (by lia) O3⟩))
    |some tt=>
     obtain⟨s1,n1,p1⟩:=tt;dsimp only;have Z:1<=(pendingOf O).size:=by
      rcases QV (pendingOf O).size with q|q
      .rw[Array.size_eq_zero_iff.mp q]at eb;cases eb
      .exact q
     refine wpS_bind (wpS_mono (wpS_forRange (I:=λ_ c st4=>c=(none,())/\Base a₀ κ st4/\Stack blt (arrOf st4) (pendingOf st4).toList 0 lo/\On blt (arrOf st4) lo (lo+n)/\1<=(pendingOf st4).size)
      (Q:=λc st4=>c=(none,())/\Base a₀ κ st4/\Stack blt (arrOf st4) (pendingOf st4).toList 0 lo/\On blt (arrOf st4) lo (lo+n)/\1<=(pendingOf st4).size) ?_ (λ_ _ q=>q) ⟨rfl,B3,S3,O3,Z⟩) ?_)
     .rintro j c st4 _ _ ⟨rfl,Y,S4,O4,z4⟩;refine wpS_bind (wpS_get ?_);by_cases big:(pendingOf st4).size>1
      .rw[if_pos big,getElem?_pos (pendingOf st4) ((pendingOf st4).size-2) (by lia)];obtain⟨⟨u1,u2,a0⟩,eu⟩:∃x,x=(pendingOf st4)[(pendingOf st4).size-2]'(by omega (config:={})):=⟨_,rfl⟩;rw[<-eu];dsimp only;split
       .exact wpS_pure ⟨rfl,Y,S4,O4,z4⟩
       .refine wpS_bind (oV L C Y S4 (by lia) (by lia) λa4 B5 S5 z5 k5=>?_);rw[if_neg (by decide)];exact wpS_pure ⟨rfl,B5,S5,O4.congr λk a b=>k5 k a,by lia⟩
      .rw[if_neg big];exact wpS_pure ⟨rfl,Y,S4,O4,z4⟩
     .rintro c st4 ⟨rfl,Y,S4,O4,z4⟩;dsimp only;refine wpS_bind (wpS_modify (wpS_bind (wpS_modify (wpS_pure ⟨lo+n,rfl,by lia,by lia,⟨Y.kind,Y.fine,Y.perm⟩,?_⟩))));exact jv (nU z4 S4) (by lia) O4
 case post=>
  rintro c st' ⟨rfl,B',S⟩;dsimp only;have a1:=S.le;refine wpS_bind (wpS_mono (wpS_forRange (I:=λi c st2=>c=(none,())/\Base a₀ κ st2/\Stack blt (arrOf st2) (pendingOf st2).toList 0 a₀.size/\(pendingOf st2).size+i<=a₀.size+1)
   (Q:=λc st2=>c=(none,())/\Base a₀ κ st2/\Stack blt (arrOf st2) (pendingOf st2).toList 0 a₀.size/\(pendingOf st2).size<=1) ?_ ?_ ⟨rfl,B',S,by rw[Qb]at a1;lia⟩) ?_)
  .rintro i c st2 _ hi ⟨rfl,B2,S2,z2⟩;refine wpS_bind (wpS_get ?_);by_cases one:(pendingOf st2).size<=1
   .rw[if_pos one];exact wpS_pure ⟨rfl,B2,S2,one⟩
   .rw[if_neg one];generalize a5:(if Option.any _ _=true then(pendingOf st2).size-2-1 else(pendingOf st2).size-2)=ix;have aa:∀bb:Bool,(if bb=true then(pendingOf st2).size-2-1 else(pendingOf st2).size-2)+1<(pendingOf st2).size:=λbb=>by
     cases bb with
     |true=>rw[if_pos rfl];lia
     |false=>rw[if_neg (by decide)];lia
    have hx:ix+1<(pendingOf st2).size:=by
     rw[<-a5];exact aa _
    refine wpS_bind (oV L C B2 S2 (Q4 _) hx λO B3 S3 z3 k3=>?_);rw[if_neg (by decide)];exact wpS_pure ⟨rfl,B3,S3,by lia⟩
  .rintro c st2 ⟨rfl,B2,S2,z2⟩;have em:max 0 a₀.size=a₀.size:=QO (Qi _);rw[em]at z2;exact⟨rfl,B2,S2,by lia⟩
  .rintro c st2 ⟨rfl,B2,S2,z2⟩;dsimp only;refine wpS_pure (h st2 B2 ?_)
   match hl:(pendingOf st2).toList,S2 with
   | [],S2=>
    have e:0=a₀.size:=S2;lia
   | [(a,b,p)],S2=>
    obtain⟨rfl,_,o,e⟩:=S2;have e:0+b=a₀.size:=e;rw[e]at o;exact o
   |_::_::_,_=>
    have:=congrArg List.length hl;simp at this;lia
end
end Srt
namespace Srt
open PySem PyProof.Rows
variable {blt:Keyed->Keyed->Bool} {vs:List Value} {E Q:Value->Shared->Prop}
section
variable {prog:Program} {w:World} {A:Around} {s:Shared} {κ:SortKind}
abbrev But (a:Addr) (s s':Shared):Prop:=∀b o,b≠a->s.heap.get? b=some o->s'.heap.get? b=some o
theorem oY {a:Addr} {n:Nat} {P:PySem.Fin->Shared->Prop} (Y:s.heap.get? a=some (seqObj "list" vs.toArray n)) (hz:vs.length<=sizeLine) (C:Cmp blt)
  (Z:∀h':Heap,But a s {s with heap:=h'}->2<=vs.length->∀Q':SortKind->Shared->Prop,Q' κ {s with heap:=h'}->wpAny (model prog w) A (keyKind' vs.toArray) Q' E {s with heap:=h'})
  (L:∀h':Heap,But a s {s with heap:=h'}->uS prog w A E {s with heap:=h'} (pairsOf vs) κ blt)
  (h:∀out:Array Keyed,out.Perm (pairsOf vs)->PW blt out.toList->P (.done (.ret .none)) {s with heap:=sortedHeap s.heap a vs (out.map (·.2))}):wpAny (model prog w) A (Builtin.«list.sort» ⟨[.ref a],[]⟩) P E s:=by
 have hv:vs.toArray.size=vs.length:=Qh;have ha:=Heap.lt_size Y;rw[list_sort_plain];refine wpAny_bind (listItems_at Y rfl (wpAny_bind (listUpdate_at Y rfl ?_ (hsz:=by rw[hv];exact hz))));obtain⟨e1,I⟩:∃k,(s.heap.update a (Obj.mapSeq λ_=> #[])).get? a=some (seqObj "list" #[] k):=⟨_,get?_update_seq Y (λ_=> #[])⟩;refine wpAny_bind (seqEpoch_at I rfl (wpAny_bind (wpAny_newTuple ?_ (hsz:=hz))));refine wpAny_bind (wpAny_newList (wpAny_holding ?_));generalize hh:((s.heap.update a (Obj.mapSeq λ_=> #[])).push (seqObj "tuple" vs.toArray 0)).push (seqObj "list" #[] 0)=h6;have up:∀b o,(s.heap.update a (Obj.mapSeq λ_=> #[])).get? b=some o->h6.get? b=some o:=λb o e=>by
  rw[<-hh];exact Heap.get?_push_of_some _ (Heap.get?_push_of_some _ e)
 have z:=up a _ I;have U:But a s {s with heap:=h6}:=λb o hb e=>up b o (by exact(Heap.get?_update_other _ _ (Ne.symm hb)).trans e);have fin:∀out:Array Keyed,out.Perm (pairsOf vs)->PW blt out.toList->P (.done (.ret .none)) {s with heap:=h6.update a (Obj.mapSeq λ_=>out.map (·.2))}:=λout p q=>by
  have:=h out p q;unfold sortedHeap at this;rw[hh]at this;exact this
 have hsz2:∀out:Array Keyed,out.Perm (pairsOf vs)->(out.map (·.2)).size<=sizeLine+1:=λout p=>by
  have:=p.size_eq;rw[pairsOf_size]at this;rw[Array.size_map];lia
 dsimp only;by_cases h2:vs.toArray.size<2
 .rw[if_pos h2,if_pos h2];refine wpAny_bind (wpAny_pure ?_);rw[StateT.run_pure];refine wpAny_bind (wpAny_pure ?_);dsimp only;have pr:(SortSt.mk' general' (vs.toArray.zip vs.toArray) #[] 7 none|>arrOf).Perm (pairsOf vs):=Array.Perm.refl _;refine wpAny_bind (seqEpoch_at z rfl (wpAny_bind (listUpdate_at z rfl ?_ (hsz:=Qi _) (hsz2:=hsz2 _ pr))));simp only[bne_self_eq_false,Z0,if_false];refine wpAny_pure (fin _ pr ?_);have l1:(vs.toArray.zip vs.toArray).toList.length<=1:=by simp at h2⊢;lia
  show PW blt (vs.toArray.zip vs.toArray).toList;revert l1;generalize (vs.toArray.zip vs.toArray).toList=l;rcases l with _|⟨x,_|⟨y,t⟩⟩<;>intro l1<;>first|exact List.Pairwise.nil|exact Z3 _ _|exact absurd l1 (Nat.not_le_of_lt (Nat.succ_lt_succ (Nat.succ_pos _)))
 .rw[if_neg h2,if_neg h2];refine wpAny_bind (Z h6 U (by lia) _ ?_);refine wpAny_bind (wpAny_mono (xN (L h6 U) (st:=SortSt.mk' κ (vs.toArray.zip vs.toArray) #[] 7 none) (Q:=λ_ st'=>Base (pairsOf vs) κ st'/\On blt (arrOf st') 0 (pairsOf vs).size) C
   ⟨rfl,rfl,Array.Perm.refl _⟩ rfl (by rw[pairsOf_size];lia) λst' B O=>⟨B,O⟩) ?_ λ_ _ e=>e)
  rintro ⟨⟨⟩,st'⟩ s' ⟨rfl,B,O⟩;dsimp only;refine wpAny_bind (seqEpoch_at z rfl (wpAny_bind (listUpdate_at z rfl ?_ (hsz:=Qi _) (hsz2:=hsz2 _ B.perm))));rw[B.fine];simp only[bne_self_eq_false,Z0,if_false];refine wpAny_pure (fin _ B.perm ?_);have:=gb (a:=arrOf st') (blt:=blt) (by rw[B.size];exact O) 0;rwa [Zk]at this
theorem sorted_any {l:Addr} (hl:s.heap.IsList l vs.toArray) (hz:vs.length<=sizeLine) (C:Cmp blt)
  (I:∀h':Heap,(∀b o,s.heap.get? b=some o->h'.get? b=some o)->2<=vs.length->∀Q':SortKind->Shared->Prop,Q' κ {s with heap:=h'}->wpAny (model prog w) A.in1.in1 (keyKind' vs.toArray) Q' (λ_ _=>False) {s with heap:=h'})
  (L:∀h':Heap,(∀b o,s.heap.get? b=some o->h'.get? b=some o)->uS prog w A.in1.in1 (λ_ _=>False) {s with heap:=h'} (pairsOf vs) κ blt)
  (h:∀out:Array Keyed,out.Perm (pairsOf vs)->PW blt out.toList->Q (.ref (s.heap.objs.size+1)) {s with heap:=sortedAll s.heap vs (out.map (·.2))}):wpAny (model prog w) A (call (.builtin "sorted") [.ref l]) Q E s:=by
 refine Calls.call_function_entry kind_sorted plain_sorted entry_sorted (args_sorted1 _) ?_;unfold Builtin.«sorted»;refine wpAny_bind (m:=checkCount "sorted" 1 1 _) (wpAny_pure (wpAny_bind (collect_list hl ?_ (hsz:=hz))));refine wpAny_bind (wpAny_newList ?_ (hsz:=hz));generalize O:(s.heap.push (seqObj "list" #[] 0)).update s.heap.objs.size (Obj.mapSeq (· ++vs.toArray))=h1;have z:h1.objs.size=s.heap.objs.size+1:=by rw[<-O,Heap.size_update,size_push']
 have old:∀b o,s.heap.get? b=some o->(h1.push (seqObj "list" vs.toArray 0)).get? b=some o:=λb o e=>by
  refine Heap.get?_push_of_some _ ?_;rw[<-O];exact(Heap.get?_update_other _ _ (Ne.symm (Qx (Heap.lt_size e)))).trans (Heap.get?_push_of_some _ e)
 have new:(h1.push (seqObj "list" vs.toArray 0)).get? (s.heap.objs.size+1)=some (seqObj "list" vs.toArray 0):=by
  rw[<-z];exact Heap.get?_push_size _ rfl
 have keep:∀h':Heap,But (s.heap.objs.size+1) {s with heap:=h1.push (seqObj "list" vs.toArray 0)} {s with heap:=h'}->∀b o,s.heap.get? b=some o->h'.get? b=some o:=λh' k b o e=>
  k b o (Qx (XM (Heap.lt_size e))) (old b o e)
 show wpAny _ _ _ _ _ {s with heap:=h1.push (seqObj "list" vs.toArray 0)};rw[z];refine wpAny_bind (wpAny_holding (wpAny_mono (wpAny_call_entry (E:=λ_ _=>False) slot_list_sort ⟨_,new,rfl⟩ entry_list_sort (oY (κ:=κ) (blt:=blt) new hz C (λh' k=>I h' (keep h' k)) (λh' k=>L h' (keep h' k)) λout p q=>⟨_,rfl,?_⟩) (args_list_sort _)) (λ_ _ q=>q) λ_ _ f=>f.elim));refine wpAny_pure ⟨_,rfl,?_⟩;have:=h out p q;unfold sortedAll at this;rw[O]at this;exact this
end
end Srt
namespace Srt
open PySem PyProof.Rows
variable {blt:Keyed->Keyed->Bool} {E:Value->Shared->Prop}
theorem yC:∀(a b:List Int),HT.lexLt a b=true->HT.lexLt b a=false
 | [],[],h=>rfl
 | [],_::_,_=>rfl
 |_::_,[],h=>by rw[HT.lexLt_cons_nil]at h;cases h
 |x::xs,y::ys,h=>by
  rw[HT.lexLt_cons]at h⊢;by_cases e:x=y
  .rw[if_pos e]at h;rw[if_pos e.symm];exact yC xs ys h
  .rw[if_neg e]at h;rw[if_neg (Ne.symm e)];have:=of_decide_eq_true h;exact decide_eq_false (by lia)
theorem DO:∀(a b c:List Int),HT.lexLt b a=false->HT.lexLt c b=false->HT.lexLt c a=false
 | [],b,[],_,_=>rfl
 |x::xs,[],c,h,_=>by rw[HT.lexLt_nil_cons]at h;cases h
 |a,y::ys,[],_,h=>by rw[HT.lexLt_nil_cons]at h;cases h
 | [],_,_::_,_,_=>HT.lexLt_cons_nil _ _
 |x::xs,y::ys,z::zs,h1,h2=>by
  rw[HT.lexLt_cons]at h1 h2⊢;by_cases I:y=x
  .rw[if_pos I]at h1;by_cases e2:z=y
   .rw[if_pos e2]at h2;rw[if_pos (e2.trans I)];exact DO xs ys zs h1 h2
   .rw[if_neg e2]at h2;rw[if_neg (by rw[<-I];exact e2)];have:=of_decide_eq_false h2;exact decide_eq_false (by lia)
  .rw[if_neg I]at h1;have U:=of_decide_eq_false h1;by_cases e2:z=y
   .rw[if_pos e2]at h2;rw[if_neg (by lia)];exact decide_eq_false (by lia)
   .rw[if_neg e2]at h2;have Y:=of_decide_eq_false h2;by_cases O:z=x
    .lia
    .rw[if_neg O];exact decide_eq_false (by lia)
theorem cmp_of (k:Keyed->List Int):Cmp λp q=>HT.lexLt (k p) (k q):=⟨λx y h=>yC _ _ h,λx y z h1 h2=>DO _ _ _ h1 h2⟩
theorem runs_of {prog:Program} {w:World} {A:Around} {s:Shared} {a₀:Array Keyed} {κ:SortKind} 
  (h:∀(x y:Keyed) (z:Value->Shared->Prop) (Q:Bool->Shared->Prop),x∈a₀->y∈a₀->Q (blt x y) s->wpAny (model prog w) A (keyLt' κ x.1 y.1) Q z s):uS prog w A E s a₀ κ blt:=by
 intro x y st Q hx hy hk q;rw[lt'_eq];refine wpS_bind (wpS_get ?_);rw[hk];refine wpS_bind (wpS_lift (wpAny_attempt (h x y _ _ hx hy ⟨rfl,?_⟩)));exact wpS_pure q
end Srt
namespace L2
open PySem PySem.Spec PyProof.Rows
variable {H:Hp} {pins:List (Addr×Obj)} {xs ys:List V} {its:List Value} {s:Shared} {σ:St} {u:Value}
def unV (u:Value):V:=(absV u).getD .non
theorem qQ {x:V} (r:RelV x u):unV u=x:=by unfold unV;rw[r.abs];rfl
theorem wa:∀{xs:List V} {us:List Value},Vals xs us->us.map unV=xs
 |_,_,.nil=>rfl
 |_,_,.cons r t=>by rw[Qo,qQ r,wa t]
theorem jR {us:List Value} (h:Vals xs us) (hu:u∈us):∃x∈xs,RelV x u:=by
 induction h with
 |nil=>exact absurd hu QR
 |cons r t z=>
  rcases Qg.mp hu with e|e
  .subst e;exact⟨_,Q6,r⟩
  .obtain⟨x,h1,h2⟩:=z e;exact⟨x,Q8 _ h1,h2⟩
theorem wb:∀{us:List Value},(∀u∈us,RelV (unV u) u)->Vals (us.map unV) us
 | [],_=> .nil
 |u::r,h=> .cons (h u Q6) (wb λv z=>h v (Q8 _ z))
section
variable {X:Cx}
theorem u7 {Q:VK} {p:Addr} {κ:SortKind} {ky:V->List Int} (I:Inv X pins σ H s) (hz:xs.length<=sizeLine) (rv:Vals xs its) (hl:s.heap.IsList p its.toArray)
  (a0:∀h':Heap,(∀b o,s.heap.get? b=some o->h'.get? b=some o)->2<=its.length->∀Q':SortKind->Shared->Prop,Q' κ {s with heap:=h'}->wpAny (model X.prog X.w) X.A.in1.in1 (keyKind' its.toArray) Q' (λ_ _=>False) {s with heap:=h'})
  (a1:∀h':Heap,(∀b o,s.heap.get? b=some o->h'.get? b=some o)->∀(x y:V) (u v:Value) (E':Value->Shared->Prop) (Q':Bool->Shared->Prop),x∈xs->y∈xs->RelV x u->RelV y v->Q' (HT.lexLt (ky x) (ky y)) {s with heap:=h'}->wpAny (model X.prog X.w) X.A.in1.in1 (keyLt' κ u v) Q' E' {s with heap:=h'})
  (q:∀l ys,H l=none->ys.Perm xs->ys.Pairwise (λa b=>HT.lexLt (ky b) (ky a)=false)->Q (.ref l) (upd H l (.lst ys))):
  wpAny (model X.prog X.w) X.A (call (.builtin "sorted") [.ref p]) (EP X pins σ Q) X.xe s:=by
 have hi:its.length<=sizeLine:=by rw[<-rv.length];exact hz
 have mem:∀z:Keyed,z∈pairsOf its->z.1=z.2/\z.1∈its:=λz hz=>by
  have:z∈(pairsOf its).toList:=by simpa using hz
  rw[pairsOf_toList]at this;exact mem_zip_self this
 refine Srt.sorted_any (κ:=κ) (blt:=λa b=>HT.lexLt (ky (unV a.1)) (ky (unV b.1))) hl hi (Srt.cmp_of λa=>ky (unV a.1)) a0 (λh' k=>Srt.runs_of λx y E' Q' hx hy q'=>?_) λout pm pw=>?_
 .obtain⟨x',a2,O⟩:=jR rv (mem x hx).2;obtain⟨y',a3,U⟩:=jR rv (mem y hy).2;rw[qQ O,qQ U]at q';exact a1 h' k x' y' x.1 y.1 E' Q' a2 a3 O U q'
 .have Y:out.toList.Perm (its.zip its):=by
   have:=ZD.mp pm;rwa [pairsOf_toList]at this
  have Z:∀z∈out.toList,z.1=z.2/\z.1∈its:=λz hz=>mem_zip_self (Y.mem_iff.mp hz);have e2:(out.map (·.2)).toList=out.toList.map (·.2):=XT;have pv:((out.map (·.2)).toList).Perm its:=by
   rw[e2];refine(Y.map _).trans (List.Perm.of_eq ?_);exact XU (Q4 _)
  have hu:∀u∈(out.map (·.2)).toList,RelV (unV u) u:=λu hu=>by
   obtain⟨x,_,r⟩:=jR rv (pv.mem_iff.mp hu);rw[qQ r];exact r
  have vy:=wb hu;have fresh:H (s.heap.objs.size+1)=none:=I.hok.fresh (Zg _);have py:((out.map (·.2)).toList.map unV).Perm xs:=by
   rw[<-wa rv];exact pv.map _
  obtain⟨e,at_⟩:=sortedAll_at s.heap its (out.map (·.2));refine⟨.ref (s.heap.objs.size+1),upd H (s.heap.objs.size+1) (.lst ((out.map (·.2)).toList.map unV)),I.laid (t':=s.toks) (λb o q=>sortedAll_old q) (Zg _) ⟨?_,_,e,vy,?_⟩,rfl,q _ _ fresh py ?_⟩
  .rw[py.length_eq];exact hz
  .rw[at_,ZX]
  .rw[e2,Qq];refine Qp.mpr (pw.imp_of_mem λ{a b} ha hb h=>?_);show HT.lexLt (ky (unV b.2)) (ky (unV a.2))=false;rw[<-(Z a ha).1,<-(Z b hb).1];exact h
def w5:V->List Int
 | .int i=> [i]
 |_=> []
theorem BS {ns:List Int} (h:ys.Perm (ns.map V.int)):∃ms:List Int,ys=ms.map V.int/\ms.Perm ns:=by
 have e:ys=(ys.map λy=>match y with| .int i=>i|_=>0).map V.int:=by
  rw[Qq];refine(X4 ys).symm.trans (QM λy hy=>?_);obtain⟨i,_,rfl⟩:=Q7.mp (h.mem_iff.mp hy);rfl
 refine⟨_,e,?_⟩;refine(h.map λy=>match y with| .int i=>i|_=>0).trans (List.Perm.of_eq ?_);rw[Qq];exact X4 ns
def K2 (H:Hp) (a:Addr) (k:List Int):Prop:=∃i j:Int,H a=some (.tup [.int i,.int j])/\k=[i,j]
def kRef (ky:Addr->List Int):V->List Int
 | .ref a=>ky a
 |_=> []
theorem ve {as:List Addr} (h:ys.Perm (as.map V.ref)):∃bs:List Addr,ys=bs.map V.ref/\bs.Perm as:=by
 have e:ys=(ys.map λy=>match y with| .ref i=>i|_=>0).map V.ref:=by
  rw[Qq];refine(X4 ys).symm.trans (QM λy hy=>?_);obtain⟨i,_,rfl⟩:=Q7.mp (h.mem_iff.mp hy);rfl
 refine⟨_,e,?_⟩;refine(h.map λy=>match y with| .ref i=>i|_=>0).trans (List.Perm.of_eq ?_);rw[Qq];exact X4 as
theorem oX {a:Addr} (I:Inv X pins σ H s) (h:H a=some (.tup xs)) {h':Heap} (k:∀b o,s.heap.get? b=some o->h'.get? b=some o):
  ∃(o:Obj) (its:List Value) (n:Nat),Vals xs its/\h'.get? a=some o/\o.cls= .type "tuple"/\o.data= .seq its.toArray n:=by
 obtain⟨_,its,rv,o,e,c,n,d⟩:=(show ObjOk X.prog X.w H s.heap a (.tup xs) from I.hok a _ h);exact⟨o,its,n,rv,k _ _ e,c,d⟩
theorem zm {x y:V} (r:Vals [x,y] its):∃u v,its=[u,v]/\RelV x u/\RelV y v:=qP r
theorem xp:dw X (.builtin "sorted") (λvs H Q=>∃(p:Addr) (as:List Addr) (ky:Addr->List Int),vs=[.ref p]/\SqL X.K H p (as.map V.ref)/\(∀a∈as,K2 H a (ky a))/\
  ∀(l:Addr) (bs:List Addr),H l=none->bs.Perm as->bs.Pairwise (λa b=>HT.lexLt (ky b) (ky a)=false)->Q (.ref l) (upd H l (.lst (bs.map V.ref)))):=by
 intro pins s σ H xs us Q I r h;obtain⟨p,as,ky,rfl,hq,hk,q⟩:=h;obtain⟨u,rfl,ru⟩:=iS r;cases ru;obtain⟨its,rv,pl,hz⟩:=I.list hq;refine u7 (κ:=tuples' (Value.type "int" !=Value.type "tuple")) (ky:=kRef ky) I hz rv pl.isList (λh' k h2 Q' O=>?_) (λh' k x y u v E' Q' hx hy rx ry O=>?_) λl ys hl pm pw=>?_
 .have tups:∀(bs:List Addr) (ws:List Value),(∀a∈bs,K2 H a (ky a))->Vals (bs.map V.ref) ws->∃fs:List Value,PySem.W.KatTups h' ws fs/\(∀f∈fs,∃i t,f=Value.int i t)/\fs.length=ws.length:=by
   intro bs
   induction bs with
   |nil=>intro ws _ r;cases r;exact⟨[],.nil,λ_ h=>absurd h QR,rfl⟩
   |cons a bs ih=>
    intro ws hk r;cases r with
    |cons r1 r2=>
     cases r1;obtain⟨fs,t,hi,hl⟩:=ih _ (λb hb=>hk b (Q8 _ hb)) r2;obtain⟨i,j,ha,_⟩:=hk a Q6;obtain⟨o,Y,n,U,e,c,d⟩:=oX I ha k;obtain⟨u1,u2,rfl,q1,q2⟩:=zm U;obtain⟨Z,rfl⟩:=q1;refine⟨Value.int i Z::fs,.cons e c d rfl t,λf hf=>?_,by rw[Qf,Qf,hl]⟩;rcases Qg.mp hf with z|z
     .exact⟨i,Z,z⟩
     .exact hi f z
  obtain⟨fs,t,hi,hl⟩:=tups as its hk rv;refine XV (T:= .type "int") t (by lia) (λv hv=>?_) (by decide+kernel) O;obtain⟨i,t,rfl⟩:=hi v hv;exact PySem.W.Looks.of_pure rfl
 .obtain⟨a,ha,rfl⟩:=Q7.mp hx;obtain⟨b,hb,rfl⟩:=Q7.mp hy;cases rx;cases ry;obtain⟨i,j,ea,ka⟩:=hk a ha;obtain⟨i',j',eb,kb⟩:=hk b hb;have O:Q' (HT.lexLt (ky a) (ky b)) {s with heap:=h'}:=O;rw[ka,kb,HT.lexLt_cons,HT.lexLt_cons,HT.lexLt_nil_nil]at O;obtain⟨o,a2,n,a0,e1,c1,d1⟩:=oX I ea k;obtain⟨u1,u2,rfl,⟨Z,rfl⟩,⟨t2,rfl⟩⟩:=zm a0;obtain⟨o',Y,n',U,e2,c2,d2⟩:=oX I eb k;obtain⟨w1,w2,rfl,⟨t3,rfl⟩,⟨t4,rfl⟩⟩:=zm U;refine KB e1 d1 e2 d2 (Zs (SeqAt.EqAt.int_int _ _ _ _ _ _ _ _ (ZE (λe=>Zx ?_) (λe=>ZF ?_))))
  .rw[if_pos (beq_iff_eq.mp e)]at O;refine Zs (SeqAt.EqAt.int_int _ _ _ _ _ _ _ _ (ZE (λe=>Zx ?_) (λe=>ZF ?_)))
   .rw[if_pos (beq_iff_eq.mp e)]at O;exact K4 (by simpa using O)
   .rw[if_neg (beq_eq_false_iff_ne.mp e)]at O;exact Xj _ _ (lt_int O)
  .rw[if_neg (beq_eq_false_iff_ne.mp e)]at O;exact oneLt_int O
 .obtain⟨bs,rfl,a1⟩:=ve pm;exact q l bs hl a1 (Qp.mp pw)
end
end L2
namespace Srt
open PySem PyProof.Rows
variable {blt:Keyed->Keyed->Bool} {E Q:Value->Shared->Prop}
section
variable {prog:Program} {w:World} {A:Around} {s:Shared} {κ:SortKind}
theorem sorted_src {r:Value} {G:List Value->Prop} 
  (hc:∀(R:List Value->Shared->Prop) (I:Value->Shared->Prop),(∀(h1:Heap) (tk:Nat) (vs:List Value),(∀b o,s.heap.get? b=some o->h1.get? b=some o)->G vs->R vs {s with heap:=h1,toks:=tk})->wpAny (model prog w) A.in1 (collect r) R I s)
  (hz:∀vs,G vs->vs.length<=sizeLine) (C:Cmp blt)
  (z:∀(vs:List Value) (h':Heap) (tk:Nat),G vs->(∀b o,s.heap.get? b=some o->h'.get? b=some o)->2<=vs.length->∀Q':SortKind->Shared->Prop,Q' κ {s with heap:=h',toks:=tk}->wpAny (model prog w) A.in1.in1 (keyKind' vs.toArray) Q' (λ_ _=>False) {s with heap:=h',toks:=tk})
  (L:∀(vs:List Value) (h':Heap) (tk:Nat),G vs->(∀b o,s.heap.get? b=some o->h'.get? b=some o)->uS prog w A.in1.in1 (λ_ _=>False) {s with heap:=h',toks:=tk} (pairsOf vs) κ blt)
  (h:∀(vs:List Value) (h1 h2:Heap) (tk e:Nat) (out:Array Keyed),G vs->(∀b o,s.heap.get? b=some o->h1.get? b=some o)->(∀b o,h1.get? b=some o->h2.get? b=some o)->h2.get? h1.objs.size=some (seqObj "list" (out.map (·.2)) e)->out.Perm (pairsOf vs)->PW blt out.toList->Q (.ref h1.objs.size) {s with heap:=h2,toks:=tk}):
  wpAny (model prog w) A (call (.builtin "sorted") [r]) Q E s:=by
 refine Calls.call_function_entry kind_sorted plain_sorted entry_sorted (args_sorted1 _) ?_;unfold Builtin.«sorted»;refine wpAny_bind (m:=checkCount "sorted" 1 1 _) (wpAny_pure (wpAny_bind (hc _ _ λh1 tk vs k1 g=>?_)));refine wpAny_bind (wpAny_newList ?_ (hsz:=hz vs g));have new:(h1.push (seqObj "list" vs.toArray 0)).get? h1.objs.size=some (seqObj "list" vs.toArray 0):=Heap.get?_push_size _ rfl;have keep:∀h':Heap,But h1.objs.size {s with heap:=h1.push (seqObj "list" vs.toArray 0),toks:=tk} {s with heap:=h',toks:=tk}->∀b o,s.heap.get? b=some o->h'.get? b=some o:=λh' k b o e=>
  k b o (Qx (Heap.lt_size (k1 b o e))) (Heap.get?_push_of_some _ (k1 b o e))
 show wpAny _ _ _ _ _ {s with heap:=h1.push (seqObj "list" vs.toArray 0),toks:=tk};refine wpAny_bind (wpAny_holding (wpAny_mono (wpAny_call_entry (E:=λ_ _=>False) slot_list_sort ⟨_,new,rfl⟩ entry_list_sort (oY (s:={s with heap:=h1.push (seqObj "list" vs.toArray 0),toks:=tk}) (κ:=κ) (blt:=blt) new (hz vs g) C (λh' k=>z vs h' tk g (keep h' k)) (λh' k=>L vs h' tk g (keep h' k)) λout p q=>⟨_,rfl,?_⟩) (args_list_sort _)) (λ_ _ q=>q) λ_ _ f=>f.elim));refine wpAny_pure ⟨_,rfl,?_⟩;obtain⟨e,at_⟩:=sortedHeap_at (out:=out.map (·.2)) new;refine h vs h1 _ tk e out g k1 (λb o q=>?_) at_ p q
 have lt:=Heap.lt_size q;rw[sortedHeap_old (Qx lt) (by rw[size_push'];exact XM lt)];exact Heap.get?_push_of_some _ q
end
end Srt
namespace L2
open PySem PySem.Spec PyProof.Rows
variable {C D a d:Addr} {X:Cx} {elt iter l tg:Expr} {h':Heap} {H H1 H4:Hp} {Fin:Hp->Prop} {J:It} {R:It->Hp->Prop} {pins:List (Addr×Obj)} {kvs:List (Key×V)} {vs:List (Key×Value)} {cl:List (Str×Addr)} {elts ifs:List Expr} {M N':List Str} {xs ys:List V} {ep i n:Nat} {ob:Obj} {pos px:Pos} {P:Program} {K:PySem.W.Frag} {scope:Scope} {s:Shared} {σ:St} {x y:Str} {nx:St->Hp->Prop} {B:St->VK->It->Hp->Prop} {te:TE} {g:TG} {wi:TI} {tb:TS} {tc:TT} {Q rt:VK} {RR:Value->Addr->Result->Shared->Prop} {w:World}
section
section
theorem qI {k:Key} {v:Value} (h:(a6 P w).is k v=true):RelV (kV k) v:=by
 rw[zW]at h;cases k with
 |inl i=>
  cases v with
  |int j t=>exact⟨t,by simp[kx,Value.isInt]at h;rw[h]⟩
  |_=>simp[kx,Value.isInt]at h
 |inr x=>
  cases v with
  |str y t=>exact⟨t,by simp[kx,Value.isStrOf]at h;rw[h]⟩
  |_=>simp[kx,Value.isStrOf]at h
def oe (kvs:List (Key×V)):List V:=kvs.map λp=>kV p.1
theorem zj {acc:List Value} (z:KV kvs vs) (hl:acc.length=vs.length)
  (I:∀(j:Nat) (v:Value),acc[j]?=some v->∃k x,vs[j]?=some (k,x)/\(a6 P w).is k v=true):Vals (oe kvs) acc:=by
 induction z generalizing acc with
 |nil=>cases acc with
  |nil=>exact .nil
  |cons a b=>simp at hl
 |cons r t U=>
  rename_i p q ps Y
  cases acc with
  |nil=>simp at hl
  |cons a b=>
   refine .cons ?_ (U (by simpa using hl) λj v e=>?_)
   .obtain⟨k,x,O,e2⟩:=I 0 a rfl;simp at O;subst O;show RelV (kV p.1) a;rw[r.1];exact qI e2
   .exact I (j+1) v (by simpa using e)
theorem pU {T:String} {r:Addr} {OK:Heap->Prop} {ns:List Int} (hh:X.A.handled=none) (I:Inv X pins σ H s) (Z:KV kvs vs) (z:kvs.length<=sizeLine)
  (src:PySem.W.KdlSrc X.prog X.w T r d vs.length (λi v=>∃k x,vs[i]?=some (k,x)/\(a6 X.prog X.w).is k v=true) OK) (hok:OK s.heap) (Y:oe kvs=ns.map V.int)
  (q:∀(l:Addr) (ms:List Int),H l=none->ms.Perm ns->ms.Pairwise (· <= ·)->Q (.ref l) (upd H l (.lst (ms.map V.int)))):wpAny (model X.prog X.w) X.A (call (.builtin "sorted") [.ref r]) (EP X pins σ Q) X.xe s:=by
 have a5:kvs.length=vs.length:=Z.length;have a0:(oe kvs).length=kvs.length:=Q0 _;have O:∀its:List Value,Vals (oe kvs) its->∀v∈its,∃i t,v=Value.int i t:=λits rv v hv=>by
  obtain⟨x,hx,rx⟩:=jR rv hv;rw[Y]at hx;obtain⟨i,_,rfl⟩:=Q7.mp hx;obtain⟨t,e⟩:=rx;exact⟨i,t,e⟩
 have mem:∀(its:List Value) (z:Keyed),z∈pairsOf its->z.1=z.2/\z.1∈its:=λits z hz=>by
  have:z∈(pairsOf its).toList:=by simpa using hz
  rw[pairsOf_toList]at this;exact mem_zip_self this
 refine Srt.sorted_src (G:=λits=>Vals (oe kvs) its) (κ:=oneType') (blt:=λa b=>HT.lexLt (w5 (unV a.1)) (w5 (unV b.1))) (λR E' k=>?_) (λits rv=>by rw[<-rv.length,a0];exact z) (Srt.cmp_of λa=>w5 (unV a.1))
  (λits h' tk rv k h2 Q' hQ=>?_) (λits h' tk rv k=>Srt.runs_of λx y E' Q' hx hy hQ=>?_) (λits h1 h2 tk e out rv k1 k2 at_ pm pw=>?_)
 .refine PySem.W.kdu_collect src hh hok (by lia) λh' tk acc hk U=>k h' tk acc.toList hk ?_;exact zj Z (by rw[Qb];exact U.1) λj v e=>U.2 j v (by rw[<-QA];exact e)
 .refine PySem.W.kas_kind (T:= .type "int") h2 (λv hv=>?_) (by decide+kernel) (by decide+kernel) hQ;obtain⟨i,t,rfl⟩:=O its rv v hv;exact PySem.W.Looks.of_pure rfl
 .obtain⟨i,t,e1⟩:=O its rv _ (mem its x hx).2;obtain⟨j,t',e2⟩:=O its rv _ (mem its y hy).2;rw[e1,e2]at hQ⊢;refine PySem.W.kat_lt_int ?_;have e:HT.lexLt (w5 (unV (.int i t))) (w5 (unV (.int j t')))=decide (i<j):=by
   show HT.lexLt [i] [j]=_;rw[HT.lexLt_cons];by_cases z:i=j
   .rw[if_pos z,HT.lexLt_nil_nil,decide_eq_false (by lia)]
   .rw[if_neg z]
  rw[e]at hQ;exact hQ
 .have a1:out.toList.Perm (its.zip its):=by
   have:=ZD.mp pm;rwa [pairsOf_toList]at this
  have a2:∀z∈out.toList,z.1=z.2/\z.1∈its:=λz hz=>mem_zip_self (a1.mem_iff.mp hz);have e2:(out.map (·.2)).toList=out.toList.map (·.2):=XT;have pv:((out.map (·.2)).toList).Perm its:=by
   rw[e2];refine(a1.map _).trans (List.Perm.of_eq ?_);exact XU (Q4 _)
  have hu:∀u∈(out.map (·.2)).toList,RelV (unV u) u:=λu hu=>by
   obtain⟨x,_,r⟩:=jR rv (pv.mem_iff.mp hu);rw[qQ r];exact r
  have vy:=wb hu;have I1:Inv X pins σ H {s with heap:=h1,toks:=tk}:=I.kept k1;have py:((out.map (·.2)).toList.map unV).Perm (ns.map V.int):=by
   rw[<-Y,<-wa rv];exact pv.map _
  have a3:((out.map (·.2)).toList.map unV).Pairwise (λa b=>HT.lexLt (w5 b) (w5 a)=false):=by
   rw[e2,Qq];refine Qp.mpr (pw.imp_of_mem λ{a b} ha hb h=>?_);show HT.lexLt (w5 (unV b.2)) (w5 (unV a.2))=false;rw[<-(a2 a ha).1,<-(a2 b hb).1];exact h
  have lz:((out.map (·.2)).toList.map unV).length<=sizeLine:=by
   rw[py.length_eq,<-Y,a0];exact z
  obtain⟨ms,em,a4⟩:=BS py;rw[em]at vy a3 lz;refine⟨.ref h1.objs.size,upd H h1.objs.size (.lst (ms.map V.int)),I1.laid (t':=tk) k2 (Q4 _) ⟨lz,_,e,vy,?_⟩,rfl,q _ _ (I1.hok.fresh (Q4 _)) a4 ?_⟩
  .rw[at_,ZX]
  .refine(Qp.mp a3).imp λ{a b} h=>?_;have h:HT.lexLt [b] [a]=false:=h;rw[HT.lexLt_cons]at h;by_cases z:b=a
   .lia
   .rw[if_neg z]at h;have:=of_decide_eq_false h;lia
theorem xo (Z:X.A.handled=none):dw X (.builtin "sorted") (λxs H Q=>∃(a:Addr) (kvs:List (Key×V)) (ns:List Int),xs=[.ref a]/\Rd H a (.dK kvs)/\oe kvs=ns.map V.int/\
  ∀(l:Addr) (ms:List Int),H l=none->ms.Perm ns->ms.Pairwise (· <= ·)->Q (.ref l) (upd H l (.lst (ms.map V.int)))):=by
 intro pins s σ H xs us Q I r h;obtain⟨a,kvs,ns,rfl,hd,O,q⟩:=h;obtain⟨u,rfl,ru⟩:=iS r;cases ru;obtain⟨z,lo,vs,U,dd⟩:=tH I.hok hd;obtain⟨ep,Y⟩:=dd.dictAt;exact pU Z I U z (PySem.W.kdl_dict (knd:=a6 X.prog X.w) (kvs:=vs) (ep:=ep) lo) Y O q
inductive IR (x:V) (vs:List V) (H:Hp) (Q:VK):Prop
 |mk (a kvs k v:_) (_:x= .ref a) (_:vs=[kV k]) (_:H a=some (.dK kvs)) (_:aO kvs k=some v) (_:Q v (upd H a (.dK (bE kvs k))))
theorem AG:MtR X "dict.pop" IR:=by
 intro pins s σ H x vs v us Q I z rv h;obtain⟨a,kvs,k,y,rfl,rfl,O,hl,q⟩:=h;cases z;obtain⟨u,rfl,U⟩:=rv.one;exact Jm I O U hl (.inl rfl) λw' s' Y Z=>⟨y,_,Y,Z,q⟩
inductive IQ (K:PySem.W.Frag) (x:V) (vs:List V) (H:Hp) (Q:VK):Prop
 |mk (sep:Str) (a:Addr) (ys:List Str) (_:x= .str sep) (_:vs=[.ref a]) (_:SqL K H a (ys.map V.str)) (_:sep.length<=16) (_:(ys.map (·.length)).sum+ys.length<=1048576) (_:Q (.str (Txt.join sep ys)) H)
theorem xU:∀{ys:List Str} {its:List Value},Vals (ys.map V.str) its->StrsAre its ys
 | [],_,.nil=> .nil
 |_::_,_,.cons ⟨t,e⟩ r=>by subst e;exact .cons _ _ (xU r)
theorem AF:MtR X "str.join" (IQ X.K):=by
 intro pins s σ H x vs v us Q I z rv h;obtain⟨O,a,ys,rfl,rfl,U,h1,h2,q⟩:=h;obtain⟨t,rfl⟩:=z;obtain⟨u,rfl,Y⟩:=rv.one;cases Y;obtain⟨its,r,pl,_⟩:=I.list U;exact join_listW pl.isList (by simpa using xU r) h1 h2 λt' k=>⟨.str _,H,I.tok _,⟨t',rfl⟩,q⟩
end
end
section
theorem mZ {env:Env}:∀(l:List (Str×NameKind)) (cs:List (Str×Addr)),(∀p∈l,p.2= .free->∃c,env.cells.lookup p.1=some c)->
  ∃cl,(forIn l cs (λp cs=>if(p.2==NameKind.free)=true then cellOf env p.1>>=λa=>pure (ForInStep.yield ((p.1,a)::cs))else pure (ForInStep.yield cs)):Sem _)=pure cl/\
   (∀y c,cl.lookup y=some c->cs.lookup y=some c\/env.cells.lookup y=some c)/\(∀y c,cs.lookup y=some c->∃I,cl.lookup y=some I)/\(∀y,(y,NameKind.free)∈l->∃c,cl.lookup y=some c)
 | [],cs,_=>⟨cs,by rw[List.forIn_nil],λy c h=> .inl h,λy c h=>⟨c,h⟩,λy h=>nomatch h⟩
 |(n,k)::r,cs,h=>by
  rw[List.forIn_cons];by_cases hk:k= .free
  .subst hk;obtain⟨c,hc⟩:=h (n,.free) Q6 rfl;have hc:env.cells.lookup n=some c:=hc;have e:cellOf env n=pure c:=by unfold cellOf;rw[hc]
   obtain⟨cl,h1,h2,O,U⟩:=mZ r ((n,c)::cs) λp hp=>h p (Q8 _ hp);refine⟨cl,?_,λy I hy=>?_,λy I hy=>?_,λy hy=>?_⟩
   .simp only[beq_self_eq_true,if_true,e,pure_bind];exact h1
   .rcases h2 y I hy with q|q
    .rw[ZI]at q;split at q
     .rename_i z
      cases q;rw[beq_iff_eq]at z;subst z;exact .inr hc
     .exact .inl q
    .exact .inr q
   .by_cases z:y=n
    .exact O y c (by rw[ZI,z];simp)
    .exact O y I (by rw[ZI,beq_eq_false_iff_ne.mpr z];exact hy)
   .rcases Qg.mp hy with q|q
    .have Y:y=n:=(Prod.mk.inj q).1;exact O y c (by rw[ZI,Y];simp)
    .exact U y q
  .have hb:(k==NameKind.free)=false:=by simpa using hk
   obtain⟨cl,h1,h2,O,U⟩:=mZ r cs λp hp=>h p (Q8 _ hp);refine⟨cl,?_,h2,O,λy hy=>?_⟩
   .simp only[hb,Z0,if_false,pure_bind];exact h1
   .rcases Qg.mp hy with q|q
    .exact absurd (Prod.mk.inj q).2.symm hk
    .exact U y q
theorem tK {env:Env} (h:∀p∈scope.names,p.2= .free->∃c,env.cells.lookup p.1=some c):
  ∃cl,closureFor scope env=pure cl/\(∀y c,cl.lookup y=some c->env.cells.lookup y=some c)/\(∀y,(y,NameKind.free)∈scope.names->∃c,cl.lookup y=some c):=by
 obtain⟨cl,h1,h2,_,I⟩:=mZ scope.names [] h;refine⟨cl,?_,λy c hy=>(h2 y c hy).resolve_left λz=>by simp at z,I⟩;unfold closureFor;simp only[bind_pure];exact h1
def cCx (X:Cx) (M N':List Str) (scope:Scope) (cl:List (Str×Addr)) (C:Addr) (s₂:Shared) (H₂:Hp) (fp:List Addr):Cx:=
 {X with N:=M++N',s₀:=s₂,H₀:=H₂,env:=compEnvC scope cl C X.env,outer:=X.stack,stack:=X.stack,ex:=fp,fn:=λ_=>false,pn:=[],xe:=λ_ _=>False}
structure CScope (X:Cx) (M N':List Str) (scope:Scope):Prop where
 kind:scope.kind= .function
 nd:(M++N').Nodup
 ln:N'.length=X.N.length
 own:∀x∈M,scope.names.lookup x=some .local
 nocell:∀y∈scope.names,y.2≠ .cell
 names:∀y∈scope.names,y.2= .local->scope.names.lookup y.1=some .local
 free:∀y∈scope.names,y.2= .free->X.env.kindOf y.1=some .cell
 vis:∀(j:Nat) (y:Str),N'[j]?=some y->Vis (relabel scope X.env) y->X.N[j]?=some y/\(y,NameKind.free)∈scope.names/\(relabel scope X.env).names.lookup y=some .cell
 cells:∀y,((relabel scope X.env).names.lookup y=some .cell\/(relabel scope X.env).names.lookup y=some .free)->(y,NameKind.free)∈scope.names
def yX (n:Nat) (g:TG) (tc:TT) (te:TE) (σ:St) (Q:VK) (J:It) (H1:Hp):Prop:=∀D,H1 D=none->∃W:Nat->Nat->St->List V->Hp->Prop,(∃m,W 0 m (List.replicate n none++σ) [] (upd H1 D (.lst [])))/\∀i m τ ys H2,W i m τ ys H2->H2 D=some (.lst ys)->
 (J.stop i H2/\Q (.ref D) H2)\/(J.go i H2/\∀x H3,J.yld i H2 x H3->∃G:St->Hp->Prop,(∀τ2 H4,G τ2 H4->∃(Ny:VK) (Ns:Hp->Prop),(∀y H6,Ny y H6->H6 D=some (.lst ys)/\ys.length<sizeLine/\∃m',m'<m/\W (i+1) m' τ2 (ys++ [y]) (upd H6 D (.lst (ys++ [y]))))/\
  (∀H5,Ns H5->H5 D=some (.lst ys)/\∃m',m'<m/\W (i+1) m' τ2 ys H5)/\tc τ2 H4 λb H5=>if b=true then te τ2 H5 Ny else Ns H5)/\g x τ H3 G)
def Gm:TT:=λ_ H Q=>Q true H
def PTs (X:Cx) (ifs:List Expr) (tc:TT):Prop:=∀(pins:List (Addr×Obj)) (s:Shared) (σ:St) (H:Hp) (Q:Bool->Hp->Prop),Inv X pins σ H s->tc σ H Q->
 wpAny (model X.prog X.w) X.A (forIn ifs true λc r=>if r=true then do let ok<-isTrue c X.env (eval c X.env);pure (ForInStep.yield ok)else pure (ForInStep.yield r)) (λb s'=>∃H',Inv X pins σ H' s'/\Q b H') X.xe s
section
theorem Fv:PTs X [] Gm:=λ_ _ _ H _ I h=>wpAny_tests_nil ⟨H,I,h⟩
theorem Ax {c:Expr} (h:PT X c tc):PTs X [c] tc:=λpins s σ H Q I q=>wpAny_tests_one (h pins s σ H Q I q)
theorem CScope.pg {s₂:Shared} {z:Hp} {fp:List Addr} (S:CScope X M N' scope) (h:M[i]?=some x):PG (cCx X M N' scope cl C s₂ z fp) (.Name x px) (pZ i):=
 bO S.nd (by show(M++N')[i]?=_;rw[QW (Q2.mp h).1];exact h) (.inl (lookup_relabel_local (S.own x (Q1 h)))) (.inr (lookup_relabel_local (S.own x (Q1 h))))
structure GO (X:Cx) (pins:List (Addr×Obj)) (H:Hp) (C:Addr):Prop where
 no:H C=none
 fr:C≠X.env.locals
 ab:X.s₀.heap.objs.size<=C
 ce:∀x c,X.env.cells.lookup x=some c->c≠C
 pi:∀p∈X.pn++pins,p.1≠C
theorem vK (hc:X.calm=true) (S:CScope X M N' scope) (hi:PI X tg iter wi)
  (hg:∀cl C s₂ a0 fp,PG (cCx X M N' scope cl C s₂ a0 fp) tg g) (b5:∀cl C s₂ a0 fp,PTs (cCx X M N' scope cl C s₂ a0 fp) ifs tc) (he:∀cl C s₂ a0 fp,PE (cCx X M N' scope cl C s₂ a0 fp) elt te)
  (a1:∀y c,cl.lookup y=some c->X.env.cells.lookup y=some c) (au:∀y,(y,NameKind.free)∈scope.names->∃c,cl.lookup y=some c) (I:Inv X pins σ H s) (h:wi σ H R) (hB:∀J H,R J H->yX M.length g tc te σ Q J H)
  (hR:∀D C s4 H',Inv X pins σ H' s4->(∃m,s4.heap.Ns C m)->GO X pins H' C->Q (.ref D) H'->RR (.ref D) C (.ok .next) s4):
  wpAny (model X.prog X.w) X.A (eval iter X.env) (λv s1=>wpAny (model X.prog X.w) X.A (pyIter v) (λaw U=>wpAny (model X.prog X.w) X.A (newList []) (λacc s3=>
   wpAny (model X.prog X.w) X.A (newFunctionEnv scope X.env.globals cl [] X.env.qual none .none (some X.env)) (λaa s4=>
    codeAny (model X.prog X.w) X.A (.compStart (.ListComp elt [⟨tg,iter,ifs,0⟩] scope pos) 0 aw acc {aa with scope:=relabel scope X.env}) (RR acc aa.locals) s4) X.xe s3) X.xe U) X.xe s1) X.xe s:=by
 refine thn (hi pins s σ H _ I h) λv s1 h1=>thn h1 λaw U h2=>?_;obtain⟨it,fp,tn,J,H2,e,O,T,st2,f2,h⟩:=h2;subst e;refine wpAny_newObj_type (wpAny_newFunctionEnv S.nocell (by intro y hy;simp at hy) (λh₁ Y Z=>?_) S.kind);dsimp only at Y Z⊢;generalize hD:U.heap.objs.size=D at*;generalize al:U.heap.push {cls:= .type "list",dict:=none,data:= .seq ([]:List Value).toArray}=h3 at Y Z⊢;have a3:h3.objs.size=D+1:=by rw[<-al,Heap.size_push,hD]
 have fD:H2 D=none:=O.hok.fresh (ZG hD);obtain⟨W,⟨m0,w0⟩,ax⟩:=hB _ _ h D fD;generalize hC:h3.objs.size=C at*;have gD:U.heap.get? D=none:=Heap.get?_none_of_le (ZG hD);have gC:U.heap.get? C=none:=Heap.get?_none_of_le (by rw[hD,a3];exact Zg _);have DC:D≠C:=by rw[a3];exact Qx (XS _)
 have b6:∀b o,U.heap.get? b=some o->h3.get? b=some o:=λb o e=>by rw[<-al];exact Heap.get?_push_of_some _ e
 have ac:∀b o,h3.get? b=some o->h₁.get? b=some o:=λb o e=>Z.extBut b o (by intro z;have:=Heap.lt_size e;rw[z,hC]at this;exact absurd this (Zy _)) (Heap.get?_push_of_some _ e);have up:∀b o,U.heap.get? b=some o->h₁.get? b=some o:=λb o e=>ac b o (b6 b o e);have oD:h₁.get? D=some {cls:= .type "list",dict:=none,data:= .seq ([]:List Value).toArray}:=ac _ _ (by rw[<-al,<-hD];exact Heap.get?_push_size _ rfl);have a5:∀b∈fp,b≠C/\b∉frs X.stack:=λb hb=>by
  obtain⟨o,e,_⟩:=T.obj _ _ st2 b hb;refine⟨λz=>(by rw[z,gC]at e;cases e),λz=>?_⟩;rcases Qg.mp (O.stkSub b z)with q|q
  .exact(f2 b hb).2.1 q
  .exact(f2 b hb).2.2.1 q
 have fC:H2 C=none:=O.hok.fresh (by rw[hD,a3];exact Zg _);have ok:(cCx X M N' scope cl C U H2 fp).Ok:=
  {mod:=O.ok.mod,kind:=S.kind,glob:=O.ok.glob,blt:=O.ok.blt,above:=by show U.heap.objs.size<=C;rw[hD,a3];exact Zg _
   inj:=λy z c h1 h2=>O.ok.inj y z c (a1 _ _ h1) (a1 _ _ h2),has:=λy hy=>au y (S.cells y hy),cab:=λy c z=>by cases z
   hd:=O.ok.hd,frames:=O.ok.frames,stk:= .inl rfl,exf:=λb hb=>⟨(a5 b hb).1,λy c e=>(f2 b hb).2.2.2.2.1 y c (a1 y c e)⟩
   bs:=O.bs,bsz:=QL O.ok.bsz O.sz
   noex:=λb o e hb=>by
    rcases(f2 b hb).2.2.2.1 with q|q
    .exact O.ok.noex b o e q
    .exact absurd (Qs (Heap.lt_size e) (QL O.ok.bsz q)) (Zy _)
   exfs:=λb hb=>(a5 b hb).2,funs:=O.stack,frf:=O.stkFree}
 have bn:∀b u,H2 b=some u->b≠D:=λb u e=>ao e fD;have I3:Inv (cCx X M N' scope cl C U H2 fp) [] (List.replicate M.length none++σ) (upd H2 D (.lst [])) {U with heap:=h₁,toks:=U.toks+([]:List (Str×Value)).length}:=
  {ok:=ok,os:=rfl,bare:=O.bare,base:=Un.laid up (ZG hD) fD
   loc:=⟨_,Y,λi y v e1 e2 e3=>by
    by_cases lt:i<M.length
    .have e2:(List.replicate M.length none++σ)[i]?=some (some v):=e2;rw[QW (by rw[Zm];exact lt),List.getElem?_replicate,if_pos lt]at e2;cases e2
    .have e1:(M++N')[i]?=some y:=e1;have e2:(List.replicate M.length none++σ)[i]?=some (some v):=e2;rw[QU (XA.mp lt)]at e1;rw[QU (by rw[Zm];exact XA.mp lt),Zm]at e2;generalize i-M.length=j at e1 e2;obtain⟨e1,q1,q2⟩:=S.vis j y e1 e3;have kc:=S.free _ q1 rfl;obtain⟨m,hn,hl⟩:=O.loc;obtain⟨u,r,l⟩:=hl j y v e1 e2 (.inr (.inl kc));refine⟨u,r,?_⟩;rcases l with⟨k,_⟩|⟨_,c,e,z⟩
     .rw[kc]at k;cases k
     .obtain⟨c',e'⟩:=au y q1;have ee:=a1 _ _ e';rw[e]at ee;cases ee;obtain⟨o,ho,hd⟩:=z;exact .inr ⟨.inl q2,c,e',o,up _ _ ho,hd⟩⟩
   cell:=λy c e=>by
    obtain⟨v,o,ho,hd⟩:=O.cell y c (a1 _ _ e);exact⟨v,o,up _ _ ho,hd⟩
   free:=by show upd H2 D (.lst []) C=none;rw[ag DC.symm];exact fC
   freeC:=λy c e=>by
    have q:=O.freeC y c (a1 _ _ e);obtain⟨v,o,ho,hd⟩:=O.cell y c (a1 _ _ e);rw[ag (λz=>by rw[z,gD]at ho;cases ho)];exact q
   pin:=λp hp=>absurd (show p∈([]:List (Addr×Obj)) from hp) (by simp)
   hok:=O.hok.laid up (ZG hD) ⟨Qi _,[],0,.nil,oD⟩
   len:=by show(List.replicate M.length none++σ).length=(M++N').length;rw[Qd,Qd,Zm,O.len,S.ln]}
 have a4:∀{H':Hp},(∀b∈fp,H' b=none)->∀b∈fp,lh (cCx X M N' scope cl C U H2 fp) [] H' b:=λhn b hb=>
  ⟨hn b hb,(a5 b hb).1,(a5 b hb).2,.inl hb,λy c e=>(f2 b hb).2.2.2.2.1 y c (a1 _ _ e),λp hp=>absurd (show p∈([]:List (Addr×Obj)) from hp) (by simp)⟩
 have az:tn 0 h₁:=T.keep _ _ _ st2 λb hb o e=>up b o e;have af:∀s3:Shared,s3={U with heap:=h₁,toks:=U.toks+([]:List (Str×Value)).length}->
   codeAny (model X.prog X.w) X.A (.compLoop (.ListComp elt [⟨tg,iter,ifs,0⟩] scope pos) 0 (.ref it) (.ref D) (compEnvC scope cl C X.env)) (RR (.ref D) C) s3:=by
  rintro s3 rfl;refine codeAny_loop rfl (λn s'=>∃i τ ys H',Inv (cCx X M N' scope cl C U H2 fp) [] τ H' s'/\tn i s'.heap/\(∀b∈fp,H' b=none)/\H' D=some (.lst ys)/\W i n τ ys H') ?_ m0
   ⟨0,_,[],_,I3,az,λb hb=>by rw[ag (λz=>by obtain⟨o,e,_⟩:=T.obj _ _ st2 b hb;rw[z,gD]at e;cases e)];exact(f2 b hb).1,ai,w0⟩
  rintro n s' ⟨i,τ,ys,H',I',st',b1,b8,w'⟩;show wpAny _ X.A ((compTurn (.ListComp elt [⟨tg,iter,ifs,0⟩] scope pos) 0 (.ref it) (.ref D) (compEnvC scope cl C X.env)).onRaise (λx=>do noteFrame x (compEnvC scope cl C X.env);theTreesLotGoes x)) _ _ s';refine wpAny_noted ?_;rw[compTurn_list];refine wpAny_bind (wpAny_standAt (wpAny_bind ?_));rcases ax i n τ ys H' w' b8 with⟨b2,qn⟩|⟨go,step⟩
  .refine thn (T.done (cCx X M N' scope cl C U H2 fp) rfl rfl rfl hc i [] s' _ H' _ I' (a4 b1) st' b2) λr s4 ⟨hr,I4⟩=>?_;subst hr;refine wpAny_pure ?_;obtain⟨m,hn,_⟩:=I4.loc;have IX:Inv X pins σ H' s4:=O.call' (s':=s4) I4.os (show Un (frs X.stack) fp H2 H' U.heap s4.heap from I4.base) I4.hok I4.bare λb hb=>⟨(f2 b hb).2.2.2.1,(f2 b hb).2.1,(f2 b hb).2.2.2.2.1,(f2 b hb).2.2.2.2.2⟩;refine hR D C s4 H' IX ⟨m,hn⟩ ⟨I4.free,λz=>?_,?_,λy c e z=>?_,λp hp z=>?_⟩ qn
   .have:=O.lt;rw[<-z,a3,hD]at this;exact absurd this (XA.mpr (Zg _))
   .refine QL O.sz ?_;rw[hD,a3];exact Zg _
   .obtain⟨v,o,ho,_⟩:=O.cell y c e;rw[z,gC]at ho;cases ho
   .have ho:=(O.pin p hp).1;rw[z,gC]at ho;cases ho
  .refine thn (T.item (cCx X M N' scope cl C U H2 fp) rfl rfl rfl hc i [] s' _ H' _ I' (a4 b1) st' go) λr s4 ⟨u,hr,h4⟩=>?_;subst hr;refine wpAny_bind (thn h4 λ_ s5 a2=>?_);obtain⟨y,H5,I5,r5,y5,an,bb⟩:=a2;have bd:=I5.pinned (a4 bb) (T.obj _ _ an);obtain⟨G,hG,gq⟩:=step y H5 y5;refine wpAny_bind (wpAny_mono (hg cl C U H2 fp _ s5 _ H5 y _ _ bd r5 gq) (λ_ s6 a2=>?_) λ_ _ f=>f.elim);obtain⟨b3,H6,I6,q6⟩:=a2;have fin:∀{b4:St} {H7:Hp} {s7:Shared},Inv (cCx X M N' scope cl C U H2 fp) ([]++sf fp s5.heap) b4 H7 s7->tn (i+1) s7.heap/\∀b∈fp,H7 b=none:=λ{b4 H7 s7} I7=>by
    refine⟨T.keep _ _ _ an λb hb o e=>(I7.pin (b,o) (Qv _ (Qv _ (jx hb e)))).1,λb hb=>?_⟩;obtain⟨o,e,d⟩:=T.obj _ _ an b hb;exact(I7.pin (b,o) (Qv _ (Qv _ (jx hb e)))).2.1
   obtain⟨Ny,Ns,hy,hn,q6⟩:=hG _ _ q6;refine wpAny_bind (wpAny_mono (b5 cl C U H2 fp _ s6 _ H6 _ I6 q6) (λb s7 ⟨H7,I7,q7⟩=>?_) λ_ _ f=>f.elim);cases b with
   |false=>
    rw[if_neg Qj]at q7;obtain⟨be,m',ap,w7⟩:=hn _ q7;exact wpAny_pure (show _/\_ from⟨rfl,m',ap,i+1,b3,ys,_,I7.unpinned,(fin I7).1,(fin I7).2,be,w7⟩)
   |true=>
    rw[if_pos rfl]at q7;refine wpAny_bind (wpAny_bind (wpAny_mono (he cl C U H2 fp _ s7 _ H7 _ I7 q7) (λz s8 a2=>?_) λ_ _ f=>f.elim));obtain⟨y',H8,I8,r8,q8⟩:=a2;obtain⟨bh,bl,m',ap,w8⟩:=hy _ _ q8;refine wpAny_bind (wpAny_mono (eC (X:=cCx X M N' scope cl C U H2 fp) _ s8 _ H8 (.ref D) [y'] (.ref D) [z] (λ_ H9=>H9=upd H8 D (.lst (ys++ [y']))) I8 rfl (.cons r8 .nil) ⟨D,ys,y',rfl,rfl,bh,bl,rfl⟩) (λz9 s9 a2=>?_) λ_ _ f=>f.elim);obtain⟨_,H9,I9,_,e9⟩:=a2;subst e9;exact wpAny_pure (wpAny_pure ⟨rfl,m',ap,i+1,b3,ys++ [y'],_,I9.unpinned,(fin I9).1,(fin I9).2,ai,w8⟩)
 exact codeAny_compStart_list (af _ rfl) (T.self _ 0 _ _ _ az (af _ rfl))
theorem Inv.loose (I:Inv X pins σ H s) (l:GO X pins H C) (z:Heap.SameBut C s.heap h'):Inv X pins σ H {s with heap:=h'}:=
 I.turned (t':=s.toks) (λb o hb e=>(z.2 b hb).trans e) l.no l.fr (.inr l.ab) l.ce l.pi
section
variable {py spos:Pos}
theorem yh (hB:∀σ Q J H,B σ Q J H->yX M.length g tc te σ Q J H) (hc:X.calm=true) (S:CScope X M N' scope) (hi:PI X tg iter wi) (hg:CScope X M N' scope->∀cl C s₂ z fp,PG (cCx X M N' scope cl C s₂ z fp) tg g) (U:∀cl C s₂ z fp,PTs (cCx X M N' scope cl C s₂ z fp) ifs tc) (he:∀cl C s₂ z fp,PE (cCx X M N' scope cl C s₂ z fp) elt te)
  (hs:∀x,foldedSetIterable iter X.env x=pure x:=by intro _;rfl):PE X (.ListComp elt [⟨tg,iter,ifs,0⟩] scope pos) (λσ H Q=>wi σ H (B σ Q)):=by
 intro pins s σ H Q I h;obtain⟨cl,O,Y,Z⟩:=tK (env:=X.env) (scope:=scope) λp hp hf=>I.ok.has p.1 (.inl (S.free p hp hf));rw[eval_ListComp];refine wpAny_comprehension_free (use:=none) rfl hs O S.kind S.names (vK hc S hi (hg S) U he Y Z I h (hB _ _) λD C s4 H' I4 hn l q=>?_);obtain⟨m,hn⟩:=hn;exact⟨m,hn,λh' sb=>⟨.ref D,H',I4.loose l sb,rfl,q⟩⟩
theorem Dk (hB:∀σ Q J H,B σ Q J H->yX M.length g tc te σ Q J H) (hc:X.calm=true) (S:CScope X M N' scope) (hi:PI X tg iter wi) (hg:CScope X M N' scope->∀cl C s₂ O fp,PG (cCx X M N' scope cl C s₂ O fp) tg g) (Y:∀cl C s₂ O fp,PTs (cCx X M N' scope cl C s₂ O fp) ifs tc) (he:∀cl C s₂ O fp,PE (cCx X M N' scope cl C s₂ O fp) elt te)
  (hN:X.N.Nodup) (hy:X.N[i]?=some y) (hk:X.env.scope.names.lookup y=some .local) (Z:swapsWith (.ListComp elt [⟨tg,iter,ifs,0⟩] scope pos) (some (.Name y py)) spos.line X.env=pure true:=by rfl)
  (hs:∀x,foldedSetIterable iter X.env x=pure x:=by intro _;rfl):PS X (.Assign [.Name y py] (.ListComp elt [⟨tg,iter,ifs,0⟩] scope pos) spos) (Fb (λσ H Q=>wi σ H (B σ Q)) (pZ i)):=by
 intro pins s σ H D I h;obtain⟨cl,U,a0,a1⟩:=tK (env:=X.env) (scope:=scope) λp hp hf=>I.ok.has p.1 (.inl (S.free p hp hf));rw[exec_Assign_Name_used _ _ _ _ Z];refine wpAny_bind (wpAny_standAt (wpAny_bind ?_));show wpAny _ X.A (do let _<-comprehension (.ListComp elt [⟨tg,iter,ifs,0⟩] scope pos) scope X.env _ (newList []) false (eval iter X.env) (some (assign (.Name y py) X.env))) _ _ s;refine wpAny_bind (thn (wpAny_comprehension_free (use:=some (assign (.Name y py) X.env)) (Q:=λ_ s'=>SP X pins D .next s') rfl hs U S.kind S.names
  (vK (Q:=λv H'=>D.nx (σ.set i (some v)) H') hc S hi (hg S) Y he a0 a1 I h (hB _ _) λD' C s4 H' I4 hn l q=>?_)) λ_ s' hq=>wpAny_pure (wpAny_pure hq))
 obtain⟨m,hn⟩:=hn;show wpAny _ X.A (assign (.Name y py) X.env (.ref D')) _ _ _;refine wpAny_assign_Name (u0 (v:= .ref D') I4 hN hy (.inl hk) rfl (λs5 I5 a2=>?_) (.inr hk));obtain⟨a,sb,ha⟩:=a2;have ne:C≠a:=by
  rcases ha with z|z
  .rw[z];exact l.fr
  .exact Ne.symm (l.ce _ _ z)
 exact⟨m,hn.sameBut sb ne,λh' a3=>⟨_,H',I5.loose l a3,q⟩⟩
end
def Af (te:TE) (σ:St) (Q:VK) (J:It) (H1:Hp):Prop:=∀D,H1 D=none->∃W:Nat->Nat->List V->Hp->Prop,(∃m,W 0 m [] (upd H1 D (.lst [])))/\∀i m ys H2,W i m ys H2->H2 D=some (.lst ys)->
 (J.stop i H2/\Q (.ref D) H2)\/(J.go i H2/\∀x H3,J.yld i H2 x H3->te (some x::σ) H3 λy H4=>H4 D=some (.lst ys)/\ys.length<sizeLine/\∃m',m'<m/\W (i+1) m' (ys++ [y]) (upd H4 D (.lst (ys++ [y]))))
def ID (wi:TI) (te:TE):TE:=λσ H Q=>wi σ H (Af te σ Q)
theorem Jo (h:Af te σ Q J H1):yX 1 (pZ 0) Gm te σ Q J H1:=λD Y=>by
 obtain⟨W,⟨Z,w0⟩,I⟩:=h D Y;refine⟨λi m U ys H=>(∃v,U=v::σ)/\W i m ys H,⟨Z,⟨none,rfl⟩,w0⟩,λi m U ys H2 w e=>?_⟩;obtain⟨⟨v,rfl⟩,w⟩:=w;rcases I i m ys H2 w e with z|⟨go,z⟩
 .exact .inl z
 .refine .inr ⟨go,λx H3 y=>⟨λO H4=>O=some x::σ/\H4=H3,λO H4 e=>?_,rfl,rfl⟩⟩;obtain⟨rfl,rfl⟩:=e;refine⟨λy H6=>H6 D=some (.lst ys)/\ys.length<sizeLine/\∃m',m'<m/\W (i+1) m' (ys++ [y]) (upd H6 D (.lst (ys++ [y]))),λ_=>False,λy H6 n=>?_,λ_ n=>n.elim,?_⟩
  .obtain⟨n1,n2,m',n3,n4⟩:=n;exact⟨n1,n2,m',n3,⟨_,rfl⟩,n4⟩
  .exact dM (B:=False) (z x _ y)
theorem fE (hc:X.calm=true) (S:CScope X [x] N' scope) (hi:PI X (.Name x px) iter wi) (he:∀cl C s₂ z fp,PE (cCx X [x] N' scope cl C s₂ z fp) elt te)
  (I:∀x,foldedSetIterable iter X.env x=pure x:=by intro _;rfl):PE X (.ListComp elt [⟨.Name x px,iter,[],0⟩] scope pos) (ID wi te):=
 yh (B:=Af te) (λ_ _ _ _=>Jo) hc S hi (λS _ _ _ _ _=>S.pg rfl) (λ_ _ _ _ _=>Fv) he I
end
def yc (scope dsc:Scope):List (Str×NameKind):=scope.names.map λp=>if(p.2==NameKind.free&&dsc.kind==ScopeKind.function&&dsc.names.lookup p.1==some NameKind.cell)=true then(p.1,NameKind.cell)else(p.1,p.2)
def GF (M N N':List Str) (dsc:Scope) (scope:Scope):Bool:=
 (scope.kind==ScopeKind.function)&&decide (M++N').Nodup&&(M.all λx=>scope.names.lookup x==some NameKind.local)&&(scope.names.all λy=>y.2 !=NameKind.cell)&&(scope.names.all λy=>y.2 !=NameKind.local||scope.names.lookup y.1==some NameKind.local)
 &&(scope.names.all λy=>y.2 !=NameKind.free||dsc.names.lookup y.1==some NameKind.cell)&&(N'.all λy=>(yc scope dsc).lookup y !=some NameKind.local&&(yc scope dsc).lookup y !=some NameKind.free)&&decide (N'.length=N.length)&&(N'.zip N).all λp=>p.1==p.2||(yc scope dsc).lookup p.1==none
theorem nJ {dsc:Scope}:∀{l:List (Str×NameKind)} {y:Str} {k:NameKind},(∀p∈l,p.2≠NameKind.cell)->(l.map λp=>if(p.2==NameKind.free&&dsc.kind==ScopeKind.function&&dsc.names.lookup p.1==some NameKind.cell)=true then(p.1,NameKind.cell)else(p.1,p.2)).lookup y=some k->(k= .cell\/k= .free)->(y,NameKind.free)∈l
 | [],y,k,_,h,_=>by simp at h
 |(n,kk)::r,y,k,hn,h,hk=>by
  rw[Qo]at h;by_cases c:(kk==NameKind.free&&dsc.kind==ScopeKind.function&&dsc.names.lookup n==some NameKind.cell)=true
  .dsimp only at h;rw[if_pos c,ZI]at h;split at h
   .rename_i z
    rw[beq_iff_eq]at z;subst z;have:kk= .free:=by
     rw[Qt,Qt]at c;simpa using c.1.1
    rw[this];exact Q6
   .exact Q8 _ (nJ (λp hp=>hn p (Q8 _ hp)) h hk)
  .dsimp only at h;rw[if_neg c,ZI]at h;split at h
   .rename_i z
    rw[beq_iff_eq]at z;subst z;cases h;rcases hk with e|e
    .exact absurd e (hn _ Q6)
    .rw[e];exact Q6
   .exact Q8 _ (nJ (λp hp=>hn p (Q8 _ hp)) h hk)
theorem CScope.of {dsc:Scope} {N:List Str} (Z:X.N=N) (ed:X.env.scope=dsc) (h:GF M N N' dsc scope=true):CScope X M N' scope:=by
 unfold GF at h;simp only[Qt]at h;obtain⟨⟨⟨⟨⟨⟨⟨⟨h1,h2⟩,h3⟩,h4⟩,h5⟩,h6⟩,h7⟩,h8⟩,h9⟩:=h;have O:(relabel scope X.env).names=yc scope dsc:=by rw[<-ed];rfl
 have I:∀y∈scope.names,y.2≠NameKind.cell:=λy hy=>by have:=QB.mp h4 y hy;simpa using this
 refine⟨by simpa using h1,of_decide_eq_true h2,by rw[Z];exact of_decide_eq_true h8,λx hx=>by simpa using QB.mp h3 x hx,I,λy hy e=>?_,λy hy e=>?_,λj y Y v=>?_,λy e=>?_⟩
 .have:=QB.mp h5 y hy;rw[e]at this;simpa using this
 .have:=QB.mp h6 y hy;rw[e]at this;show X.env.scope.names.lookup y.1=_;rw[ed];simpa using this
 .have U:=QB.mp h7 y (Q1 Y);have hz:∃z,N[j]?=some z/\(y,z)∈N'.zip N:=by
   have lj:=(Q2.mp Y).1;have l8:N'.length=N.length:=of_decide_eq_true h8;refine⟨N[j]'(by lia),Q3 _,?_⟩;refine Q1 (i:=j) ?_;rw[List.getElem?_zip_eq_some];exact⟨Y,Q3 _⟩
  obtain⟨z,hz,mz⟩:=hz;have e9:=QB.mp h9 _ mz;unfold Vis at v;rw[O]at v⊢;have U:¬(yc scope dsc).lookup y=some NameKind.local/\¬(yc scope dsc).lookup y=some NameKind.free:=by simpa using U
  rcases v with v|v|v
  .exact absurd v U.1
  .refine⟨?_,nJ I v (.inl rfl),v⟩;rw[Z,hz];dsimp only at e9;rw[v,Bool.or_eq_true]at e9;rcases e9 with e9|e9
   .rw[beq_iff_eq]at e9;rw[e9]
   .cases e9
  .exact absurd v U.2
 .have e:(yc scope dsc).lookup y=some .cell\/(yc scope dsc).lookup y=some .free:=by rw[<-O];exact e
  rcases e with e|e
  .exact nJ I e (.inl rfl)
  .exact nJ I e (.inr rfl)
def CNext (n i:Nat) (ys:List V) (D:Addr) (Pv:Nat->List V->Hp->Prop):VK:=λy H4=>H4 D=some (.lst ys)/\ys.length<sizeLine/\∃m',m'<n-i/\m'=n-(i+1)/\i+1<=n/\Pv (i+1) (ys++ [y]) (upd H4 D (.lst (ys++ [y])))
theorem CNext.mk {Pv:Nat->List V->Hp->Prop} {y:V} (hi:i<n) (h1:H4 D=some (.lst ys)) (h2:ys.length<sizeLine) (z:Pv (i+1) (ys++ [y]) (upd H4 D (.lst (ys++ [y])))):CNext n i ys D Pv y H4:=
 ⟨h1,h2,n-(i+1),by lia,rfl,hi,z⟩
theorem eG (Pv:Nat->List V->Hp->Prop) (I:Pv 0 [] (upd H1 D (.lst []))) (hl:∀i ys H,i<=xs.length->Pv i ys H->SqL K H a xs)
  (O:∀i x ys H2,xs[i]?=some x->Pv i ys H2->H2 D=some (.lst ys)->te (some x::σ) H2 (CNext xs.length i ys D Pv))
  (hd:∀ys H2,Pv xs.length ys H2->H2 D=some (.lst ys)->Fin H2):
  ∃W:Nat->Nat->List V->Hp->Prop,(∃m,W 0 m [] (upd H1 D (.lst [])))/\∀i m ys H2,W i m ys H2->H2 D=some (.lst ys)->
   ((Itl K a).stop i H2/\Fin H2)\/((Itl K a).go i H2/\∀x H3,(Itl K a).yld i H2 x H3->te (some x::σ) H3 λy H4=>H4 D=some (.lst ys)/\ys.length<sizeLine/\∃m',m'<m/\W (i+1) m' (ys++ [y]) (upd H4 D (.lst (ys++ [y])))):=by
 refine⟨λi m ys H=>m=xs.length-i/\i<=xs.length/\Pv i ys H,⟨xs.length,by simp,Qi _,I⟩,?_⟩;rintro i m ys H ⟨rfl,hi,p⟩ z;have q:=hl i ys H hi p;by_cases lt:i<xs.length
 .refine .inr ⟨⟨xs,xs[i],q,by simp[lt]⟩,λx H' y=>?_⟩;obtain⟨e,y⟩:=y;subst e;exact O i x ys _ (y xs q) p z
 .have e:i=xs.length:=by lia
  subst e;exact .inl ⟨⟨xs,q,Q4 _⟩,hd ys H p z⟩
theorem Ae {lo:Int} (Pv:Nat->List V->Hp->Prop) (I:Pv 0 [] (upd H1 D (.lst [])))
  (O:∀i ys H2,i<n->Pv i ys H2->H2 D=some (.lst ys)->te (some (.int (lo+i))::σ) H2 (CNext n i ys D Pv))
  (hd:∀ys H2,Pv n ys H2->H2 D=some (.lst ys)->Fin H2):
  ∃W:Nat->Nat->List V->Hp->Prop,(∃m,W 0 m [] (upd H1 D (.lst [])))/\∀i m ys H2,W i m ys H2->H2 D=some (.lst ys)->
   ((Itr lo n).stop i H2/\Fin H2)\/((Itr lo n).go i H2/\∀x H3,(Itr lo n).yld i H2 x H3->te (some x::σ) H3 λy H4=>H4 D=some (.lst ys)/\ys.length<sizeLine/\∃m',m'<m/\W (i+1) m' (ys++ [y]) (upd H4 D (.lst (ys++ [y])))):=by
 refine⟨λi m ys H=>m=n-i/\i<=n/\Pv i ys H,⟨n,by simp,Qi _,I⟩,?_⟩;rintro i m ys H ⟨rfl,hi,p⟩ z;by_cases lt:i<n
 .refine .inr ⟨lt,λx H' y=>?_⟩;obtain⟨e,y⟩:=y;subst e y;exact O i ys _ lt p z
 .have e:i=n:=by lia
  subst e;exact .inl ⟨Q4 _,hd ys H p z⟩
end
section
def xt (tc:TT) (te:TE) (σ:St) (Q:VK) (J:It) (H1:Hp):Prop:=∀D,H1 D=none->∃W:Nat->Nat->List V->Hp->Prop,(∃m,W 0 m [] (upd H1 D (.lst [])))/\∀i m ys H2,W i m ys H2->H2 D=some (.lst ys)->
 (J.stop i H2/\Q (.ref D) H2)\/(J.go i H2/\∀x H3,J.yld i H2 x H3->tc (some x::σ) H3 λb H4=>if b=true then te (some x::σ) H4 λy H5=>H5 D=some (.lst ys)/\ys.length<sizeLine/\∃m',m'<m/\W (i+1) m' (ys++ [y]) (upd H5 D (.lst (ys++ [y])))else H4 D=some (.lst ys)/\∃m',m'<m/\W (i+1) m' ys H4)
def C7 (wi:TI) (tc:TT) (te:TE):TE:=λσ H Q=>wi σ H (xt tc te σ Q)
theorem GG (h:xt tc te σ Q J H1):yX 1 (pZ 0) tc te σ Q J H1:=λD hD=>by
 obtain⟨W,⟨m0,w0⟩,I⟩:=h D hD;refine⟨λi m τ ys H=>(∃v,τ=v::σ)/\W i m ys H,⟨m0,⟨none,rfl⟩,w0⟩,λi m τ ys H2 w e=>?_⟩;obtain⟨⟨v,rfl⟩,w⟩:=w;rcases I i m ys H2 w e with z|⟨go,z⟩
 .exact .inl z
 .refine .inr ⟨go,λx H3 y=>⟨λO H4=>O=some x::σ/\H4=H3,λO H4 e=>?_,rfl,rfl⟩⟩;obtain⟨rfl,rfl⟩:=e;refine⟨_,_,λy H6 n=>?_,λH5 n=>?_,z x _ y⟩
  .obtain⟨U,n2,m',Y,Z⟩:=n;exact⟨U,n2,m',Y,⟨_,rfl⟩,Z⟩
  .obtain⟨U,m',Y,Z⟩:=n;exact⟨U,m',Y,⟨_,rfl⟩,Z⟩
section
theorem sj {I:Expr} (hc:X.calm=true) (S:CScope X [x] N' scope) (hi:PI X (.Name x px) iter wi) (O:∀cl C s₂ z fp,PT (cCx X [x] N' scope cl C s₂ z fp) I tc) (he:∀cl C s₂ z fp,PE (cCx X [x] N' scope cl C s₂ z fp) elt te)
  (U:∀x,foldedSetIterable iter X.env x=pure x:=by intro _;rfl):PE X (.ListComp elt [⟨.Name x px,iter,[I],0⟩] scope pos) (C7 wi tc te):=
 yh (B:=xt tc te) (λ_ _ _ _=>GG) hc S hi (λS _ _ _ _ _=>S.pg rfl) (λ_ _ _ _ _=>Ax (O _ _ _ _ _)) he U
theorem Dl {I:Expr} {py spos:Pos} (hc:X.calm=true) (S:CScope X [x] N' scope) (hi:PI X (.Name x px) iter wi) (O:∀cl C s₂ z fp,PT (cCx X [x] N' scope cl C s₂ z fp) I tc) (he:∀cl C s₂ z fp,PE (cCx X [x] N' scope cl C s₂ z fp) elt te)
  (Y:X.N.Nodup) (hy:X.N[i]?=some y) (hk:X.env.scope.names.lookup y=some .local) (U:swapsWith (.ListComp elt [⟨.Name x px,iter,[I],0⟩] scope pos) (some (.Name y py)) spos.line X.env=pure true:=by rfl)
  (Z:∀x,foldedSetIterable iter X.env x=pure x:=by intro _;rfl):PS X (.Assign [.Name y py] (.ListComp elt [⟨.Name x px,iter,[I],0⟩] scope pos) spos) (Fb (C7 wi tc te) (pZ i)):=
 Dk (B:=xt tc te) (λ_ _ _ _=>GG) hc S hi (λS _ _ _ _ _=>S.pg rfl) (λ_ _ _ _ _=>Ax (O _ _ _ _ _)) he Y hy hk U Z
end
def CSkip (n i:Nat) (ys:List V) (D:Addr) (Pv:Nat->List V->Hp->Prop) (H4:Hp):Prop:=H4 D=some (.lst ys)/\∃m',m'<n-i/\m'=n-(i+1)/\i+1<=n/\Pv (i+1) ys H4
theorem CSkip.mk {Pv:Nat->List V->Hp->Prop} (hi:i<n) (h1:H4 D=some (.lst ys)) (z:Pv (i+1) ys H4):CSkip n i ys D Pv H4:=⟨h1,n-(i+1),by lia,rfl,hi,z⟩
theorem jM (Pv:Nat->List V->Hp->Prop) (O:Pv 0 [] (upd H1 D (.lst []))) (hl:∀i ys H,i<=xs.length->Pv i ys H->SqL K H a xs)
  (U:∀i x ys H2,xs[i]?=some x->Pv i ys H2->H2 D=some (.lst ys)->tc (some x::σ) H2 λb H4=>if b=true then te (some x::σ) H4 (CNext xs.length i ys D Pv)else CSkip xs.length i ys D Pv H4)
  (hd:∀ys H2,Pv xs.length ys H2->H2 D=some (.lst ys)->Fin H2):
  ∃W:Nat->Nat->List V->Hp->Prop,(∃m,W 0 m [] (upd H1 D (.lst [])))/\∀i m ys H2,W i m ys H2->H2 D=some (.lst ys)->
   ((Itl K a).stop i H2/\Fin H2)\/((Itl K a).go i H2/\∀x H3,(Itl K a).yld i H2 x H3->tc (some x::σ) H3 λb H4=>if b=true then te (some x::σ) H4 λy z=>z D=some (.lst ys)/\ys.length<sizeLine/\∃m',m'<m/\W (i+1) m' (ys++ [y]) (upd z D (.lst (ys++ [y])))else H4 D=some (.lst ys)/\∃m',m'<m/\W (i+1) m' ys H4):=by
 refine⟨λi m ys H=>m=xs.length-i/\i<=xs.length/\Pv i ys H,⟨xs.length,by simp,Qi _,O⟩,?_⟩;rintro i m ys H ⟨rfl,hi,p⟩ I;have q:=hl i ys H hi p;by_cases lt:i<xs.length
 .refine .inr ⟨⟨xs,xs[i],q,by simp[lt]⟩,λx H' y=>?_⟩;obtain⟨e,y⟩:=y;subst e;exact U i x ys _ (y xs q) p I
 .have e:i=xs.length:=by lia
  subst e;exact .inl ⟨⟨xs,q,Q4 _⟩,hd ys H p I⟩
end
section
end
section
def vwO (a d:Addr):HO:= .ext λh=>h.IsItemsView a d
def Itd (ob:Obj) (d:Addr) (kvs:List (Key×V)):It:=
 ⟨λi H=>H d=some (.frz ob (.dK kvs))/\i<kvs.length,λi H x H'=>∃p k v,x= .ref p/\H p=none/\kvs[i]?=some (k,v)/\H'=upd H p (.tup [kV k,v]),λi H=>H d=some (.frz ob (.dK kvs))/\kvs.length<=i⟩
def DObj (P:Program) (w:World) (ob:Obj) (d:Addr) (kvs:List (Key×V)) (vs:List (Key×Value)) (ep:Nat):Prop:=
 KV kvs vs/\∀h:Heap,h.get? d=some ob->h.DictAt (a6 P w) d vs ep
theorem KV.getI (h:KV kvs vs):∀{i:Nat} {k:Key} {v:V},kvs[i]?=some (k,v)->∃u,vs[i]?=some (k,u)/\RelV v u:=by
 induction h with
 |nil=>intro i k v e;simp at e
 |cons r t z=>
  rename_i p q ps I
  intro i k v e;cases i with
  |zero=>
   simp at e;subst e;exact⟨q.2,by simp[show k=q.1 from r.1],r.2⟩
  |succ j=>
   obtain⟨u,h1,h2⟩:=z (i:=j) (by simpa using e);exact⟨u,by simpa using h1,h2⟩
theorem zp {x1} (it:Addr) (D:DObj P w ob d kvs vs ep):
  xH P w K (.Tuple elts x1 pos) (Itd ob d kvs) [it] it (λi h=>∃ok Z,IsItemIter h it d i vs.length ep ok Z) where
 mem:=by simp
 obj:=λi h st b hb=>by
  obtain⟨ok,Z,st⟩:=st;have z:b=it:=by simpa using hb
  subst z;exact⟨_,st,λv z=>by cases z⟩
 keep:=λi h h' st k=>by
  obtain⟨ok,Z,st⟩:=st;exact⟨ok,Z,k it (by simp) _ st⟩
 item:=by
  intro X hP hw hK hc i pins s σ H E I hf st hg;subst hP hw hK;obtain⟨ok,Z,st⟩:=st;obtain⟨hq,hi⟩:=hg;have fi:=hf it (by simp);obtain⟨O,_⟩:=I.hok d _ hq;have U:=D.2 s.heap O;obtain⟨⟨k,v⟩,hx⟩:∃kv,kvs[i]?=some kv:=⟨kvs[i],by simp[hi]⟩;obtain⟨u,hu,ru⟩:=KV.getI D.1 hx;refine wpAny_pyNext_items_item st U hu λkey h' a0 g1 g3 gz g5=>⟨_,rfl,?_⟩;refine wpAny_letOwnedTupleGo_items g1 λh2 k1 k2=>?_;have rk:RelV (kV k) key:=qI a0;have np:H s.heap.objs.size=none:=I.hok.fresh (Q4 _);have a1:s.heap.objs.size≠it:=XC (Heap.lt_size st);have keep:∀b o,b≠it->s.heap.get? b=some o->h2.get? b=some o:=λb o z q=>(k2.2 b z).trans (g5 b o z q);have Y:h2.get? s.heap.objs.size=some {cls:= .type "tuple",data:= .seq #[key,u]}:=(k2.2 _ a1).trans g3;have trk:∀b v,H b=some v->b≠it:=λb v q z=>by rw[z,fi.1]at q;cases q
  have un:Un (frs X.stack) [it] H (upd H s.heap.objs.size (.tup [kV k,v])) s.heap h2:=by
   refine⟨λb o q n hb hx=>keep b o (λz=>hx (by simp[z])) q,λb o q n hb hx=>⟨o.slots,keep b o (λz=>hx (by simp[z])) q⟩,λb o q n hx=>?_,
    λb o q hx=>⟨o,keep b o (λz=>hx (by simp[z])) q⟩,λb ys q=>?_,λb o v q=>?_,λb ps q=>⟨#[],?_⟩⟩
   .rw[ag (Qx (Heap.lt_size q))];exact n
   .rw[ag (ao q np)];exact q
   .rw[ag (ao q np)];exact q
   .rw[ag (ao q np),q];simp
  have hok:HOk X.prog X.w (upd H s.heap.objs.size (.tup [kV k,v])) h2:=λb v' q=>by
   by_cases z:b=s.heap.objs.size
   .subst z;rw[ai]at q;cases q;exact⟨by show 2<=sizeLine;decide,[key,u],.cons rk (.cons ru .nil),_,Y,rfl,_,rfl⟩
   .rw[ag z]at q;refine(I.hok b v' q).stay (λc o hc r=>?_) (λc r=>by rw[ag (ao r np)];exact r) λc ys r=>by rw[ag (ao r np)];exact r
    rcases hc with rfl|hc
    .exact keep _ _ (trk _ _ q) r
    .exact keep _ _ (trk _ _ hc) r
  have I2:Inv X pins σ (upd H s.heap.objs.size (.tup [kV k,v])) {s with heap:=h2}:=I.call' (s':={s with heap:=h2}) rfl un hok I.bare λb hb=>by
   have z:lh X pins H b:=hf b hb;exact⟨z.2.2.2.1,z.2.1,z.2.2.2.2.1,z.2.2.2.2.2⟩
  refine⟨.ref s.heap.objs.size,_,I2,rfl,⟨_,k,v,rfl,np,hx,rfl⟩,⟨key,u,k1⟩,λb hb=>?_⟩;have z:b=it:=by simpa using hb
  subst z;rw[ag (Ne.symm a1)];exact fi.1
 done:=by
  intro X hP hw hK hc i pins s σ H E I hf st hg;subst hP hw hK;obtain⟨ok,Z,st⟩:=st;obtain⟨hq,hi⟩:=hg;obtain⟨O,_⟩:=I.hok d _ hq;have U:=D.2 s.heap O;obtain⟨f0,f1,f2,f3,f4,f5⟩:=hf it (by simp);have hl:kvs.length=vs.length:=D.1.length;exact wpAny_pyNext_items_end (I.ok.hd hc) st U (by simp;lia) λh' eb=>⟨rfl,I.turned (t':=s.toks) (λb o hb e=>eb b o hb e) f0 f1 f3 f4 f5⟩
 self:=λ_ _ _ _ _ st h=>let⟨_,_,st⟩:=st;PySem.W.kcp_self st h
section
inductive He (x:V) (vs:List V) (H:Hp) (Q:VK):Prop
 |mk (d kvs:_) (_:x= .ref d) (_:vs=[]) (_:H d=some (.dK kvs)) (_:∀a,H a=none->Q (.ref a) (upd H a (vwO a d)))
theorem sM:MtR X "dict.items" He:=by
 intro pins s σ H x vs v us Q I O rv h;obtain⟨d,kvs,rfl,rfl,hd,q⟩:=h;cases O;cases rv;obtain⟨z,lo,ws,U,dd⟩:=oq I.hok hd;refine call_meetsIn ZN dd.typeIs PySem.F.entry_dict_items (PySem.F.args_dict_items_1 _) (meets_dict_items (a6 X.prog X.w) d lo) ⟨⟨ws,dd⟩,?_⟩;have new:(s.heap.push {cls:= .type "dict_items",data:= .fields #[.ref d]}).get? s.heap.objs.size=some {cls:= .type "dict_items",data:= .fields #[.ref d]}:=Heap.get?_push_size _ rfl;refine⟨.ref s.heap.objs.size,_,I.laid (t':=s.toks) (λb o e=>Heap.get?_push_of_some _ e) (Q4 _) (show ObjOk X.prog X.w _ _ _ (vwO s.heap.objs.size d) from⟨⟨_,new,rfl,rfl⟩,⟨_,new⟩,λh1 h2 p k=>?_⟩),rfl,q _ (I.hok.fresh (Q4 _))⟩;obtain⟨o,e,c⟩:=p;exact⟨o,k o e,c⟩
theorem Inv.freeze {H:Hp} {d:Addr} {kvs:List (Key×V)} (I:Inv X pins σ H s) (hd:H d=some (.dK kvs)) (O:s.heap.get? d=some ob):Inv X pins σ (upd H d (.frz ob (.dK kvs))) s:=by
 have own:∀b y,H b=some (.own y)->upd H d (.frz ob (.dK kvs)) b=some (.own y):=λb y q=>by rw[ag (λz=>by rw[z,hd]at q;cases q)];exact q
 have tup:∀b xs,H b=some (.tup xs)->upd H d (.frz ob (.dK kvs)) b=some (.tup xs):=λb xs q=>by rw[ag (λz=>by rw[z,hd]at q;cases q)];exact q
 have non:∀b,H b=none->upd H d (.frz ob (.dK kvs)) b=none:=λb q=>by rw[ag (λz=>by rw[z,hd]at q;cases q)];exact q
 refine⟨I.ok,I.os,I.bare,⟨I.base.keep,I.base.slot,λb o e n hx=>non b (I.base.free b o e n hx),I.base.there,λb xs e=>tup b xs (I.base.tups b xs e),λb o u e=>?_,λb ps e=>?_⟩,I.loc,I.cell,non _ I.free,λx c e=>non c (I.freeC x c e),λp hp=>?_,λb o e=>?_,I.len⟩
 .have:=I.base.frzs b o u e;rw[ag (λz=>by rw[z,hd]at this;cases this)];exact this
 .obtain⟨m,q⟩:=I.base.tbls b ps e;exact⟨m,by rw[ag (λz=>by rw[z,hd]at q;cases q)];exact q⟩
 .obtain⟨h1,h2,U⟩:=I.pin p hp;exact⟨h1,non _ h2,U⟩
 .by_cases z:b=d
  .subst z;rw[ai]at e;cases e;exact⟨O,(I.hok b _ hd).stay (λ_ _ _ q=>q) (λc q=>own c b q) tup⟩
  .rw[ag z]at e;exact(I.hok b o e).stay (λ_ _ _ q=>q) (λc q=>own c b q) tup
theorem Inv.thaw {H:Hp} {d:Addr} {kvs:List (Key×V)} (I:Inv X pins σ H s) (hd:H d=some (.frz ob (.dK kvs))) (O:∀o u,X.H₀ d≠some (.frz o u)):Inv X pins σ (upd H d (.dK kvs)) s:=by
 have own:∀b y,H b=some (.own y)->upd H d (.dK kvs) b=some (.own y):=λb y q=>by rw[ag (λz=>by rw[z,hd]at q;cases q)];exact q
 have tup:∀b xs,H b=some (.tup xs)->upd H d (.dK kvs) b=some (.tup xs):=λb xs q=>by rw[ag (λz=>by rw[z,hd]at q;cases q)];exact q
 have non:∀b,H b=none->upd H d (.dK kvs) b=none:=λb q=>by rw[ag (λz=>by rw[z,hd]at q;cases q)];exact q
 refine⟨I.ok,I.os,I.bare,⟨I.base.keep,I.base.slot,λb o e n hx=>non b (I.base.free b o e n hx),I.base.there,λb xs e=>tup b xs (I.base.tups b xs e),λb o u e=>?_,λb ps e=>?_⟩,I.loc,I.cell,non _ I.free,λx c e=>non c (I.freeC x c e),λp hp=>?_,λb o e=>?_,I.len⟩
 .have:=I.base.frzs b o u e;rw[ag (λz=>by rw[z]at e;exact O _ _ e)];exact this
 .obtain⟨m,q⟩:=I.base.tbls b ps e;exact⟨m,by rw[ag (λz=>by rw[z,hd]at q;cases q)];exact q⟩
 .obtain⟨h1,h2,U⟩:=I.pin p hp;exact⟨h1,non _ h2,U⟩
 .by_cases z:b=d
  .subst z;rw[ai]at e;cases e;obtain⟨_,q⟩:=I.hok b _ hd;exact ObjOk.stay (show ObjOk X.prog X.w H s.heap b (.dK kvs) from q) (λ_ _ _ q=>q) (λc q=>own c b q) tup
  .rw[ag z]at e;exact(I.hok b o e).stay (λ_ _ _ q=>q) (λc q=>own c b q) tup
theorem Inv.noFrz {H:Hp} {d:Addr} {kvs:List (Key×V)} (I:Inv X pins σ H s) (hd:H d=some (.dK kvs)):∀o u,X.H₀ d≠some (.frz o u):=λo u e=>by
 have:=I.base.frzs d o u e;rw[hd]at this;cases this
def HN (te:TE):TI:=λσ H R=>te σ H λx H1=>∃a d kvs,x= .ref a/\H1 a=some (vwO a d)/\H1 d=some (.dK kvs)/\∀ob,R (Itd ob d kvs) (upd H1 d (.frz ob (.dK kvs)))
theorem yf {x1} (hl:PE X l te):PI X (.Tuple elts x1 pos) l (HN te):=by
 intro pins s σ H R I h;refine thn (hl pins s σ H _ I h) λv s1 U=>?_;obtain⟨x,H1,Y,r1,q1⟩:=U;obtain⟨a,d,kvs,e,ha,hd,q⟩:=q1;subst e;cases r1;obtain⟨z,lo,vs,Z,dd⟩:=oq Y.hok hd;obtain⟨ep,O⟩:=dd.dictAt;obtain⟨vw,_,_⟩:=(show ObjOk X.prog X.w H1 s1.heap a (vwO a d) from Y.hok a _ ha);obtain⟨ob,es,a0,rest⟩:=id O;refine wpAny_pyIter_items vw O ?_;have If:=Y.freeze hd a0;refine⟨s1.heap.objs.size,[s1.heap.objs.size],_,_,_,rfl,If.kept (t':=s1.toks) λb o e=>Heap.get?_push_of_some _ e,zp _ ⟨Z,λh e=>⟨ob,es,e,rest⟩⟩,⟨_,_,Heap.get?_push_size _ rfl⟩,λb hb=>?_,q ob⟩;have e:b=s1.heap.objs.size:=by simpa using hb
 subst e;exact If.fpOk (Q4 _) (If.hok.fresh (Q4 _))
inductive Iv (t:TS) (D:lq) (σ:St) (H:Hp):Prop
 |mk (d kvs:_) (_:H d=some (.dK kvs)) (_:t ⟨λσ' H'=>∃ob,H' d=some (.frz ob (.dK kvs))/\D.nx σ' (upd H' d (.dK kvs)),λv H'=>∃ob,H' d=some (.frz ob (.dK kvs))/\D.rt v (upd H' d (.dK kvs)),λσ' H'=>∃ob,H' d=some (.frz ob (.dK kvs))/\D.bk σ' (upd H' d (.dK kvs)),λσ' H'=>∃ob,H' d=some (.frz ob (.dK kvs))/\D.ct σ' (upd H' d (.dK kvs))⟩ σ H)
theorem wE {st:Stmt} {t:TS} (h:PS X st t):PS X st (Iv t):=by
 intro pins s σ H D I ⟨d,kvs,hd,q⟩;have Y:=I.noFrz hd;refine thn (h pins s σ H _ I q) λf s1 Z=>?_;cases f with
 |next=>obtain⟨z,H7,O,ob,e,U⟩:=Z;exact⟨z,_,O.thaw e Y,U⟩
 |cont=>obtain⟨z,H7,O,ob,e,U⟩:=Z;exact⟨z,_,O.thaw e Y,U⟩
 |brk=>obtain⟨z,H7,O,ob,e,U⟩:=Z;exact⟨z,_,O.thaw e Y,U⟩
 |ret v=>obtain⟨x7,z,H7,O,r7,ob,e,U⟩:=Z;exact⟨x7,z,_,O.thaw e Y,r7,U⟩
end
theorem tE (Pv:Nat->St->Hp->Prop) (U:Pv 0 σ H) (hl:∀i σ H,i<=kvs.length->Pv i σ H->H d=some (.frz ob (.dK kvs)))
  (Y:∀i k v p σ H,kvs[i]?=some (k,v)->Pv i σ H->H p=none->g (.ref p) σ (upd H p (.tup [kV k,v])) λI H2=>tb ⟨Pv (i+1),rt,nx,Pv (i+1)⟩ I H2) (hd:∀σ H,Pv kvs.length σ H->nx σ H):
  ∃W:Nat->Nat->St->Hp->Prop,(∃m,W 0 m σ H)/\∀i m σ H,W i m σ H->
   ((Itd ob d kvs).stop i H/\nx σ H)\/((Itd ob d kvs).go i H/\∃N:St->Hp->Prop,(∀O H',N O H'->∃m',m'<m/\W (i+1) m' O H')/\∀x H',(Itd ob d kvs).yld i H x H'->g x σ H' λI H2=>tb ⟨N,rt,nx,N⟩ I H2):=by
 refine⟨λi m σ H=>m=kvs.length-i/\i<=kvs.length/\Pv i σ H,⟨kvs.length,by simp,Qi _,U⟩,?_⟩;rintro i m σ H ⟨rfl,hi,p⟩;have q:=hl i σ H hi p;by_cases lt:i<kvs.length
 .refine .inr ⟨⟨q,lt⟩,Pv (i+1),λO H' z=>⟨kvs.length-(i+1),by lia,rfl,lt,z⟩,λx H' y=>?_⟩;obtain⟨pp,k,v,rfl,Z,e,rfl⟩:=y;exact Y i k v pp σ H e p Z
 .have e:i=kvs.length:=by lia
  subst e;exact .inl ⟨⟨q,Q4 _⟩,hd σ H p⟩
end
section
section
variable (K:PySem.W.Frag) (hK:X.K=K)
include hK
theorem uK:dw X (.builtin "len") (λxs H Q=>∃p ys,xs=[.ref p]/\(SqL K H p ys\/SqT K H p ys)/\Q (.int ys.length) H):=by subst hK;exact aC
theorem xa:IxR X (rIxT K):=by subst hK;exact kA
end
section
theorem vM (hc:X.calm=true):dw X (.builtin "min") (λxs H Q=>∃(p:Addr) (ns:List Int),xs=[.ref p]/\SqL X.K H p (ns.map V.int)/\0<ns.length/\∀M,M∈ns->(∀a∈ns,M<=a)->Q (.int M) H):=by
 intro pins s σ H xs us Q I r h;obtain⟨p,ns,rfl,hq,O,q⟩:=h;obtain⟨u,rfl,Y⟩:=iS r;cases Y;obtain⟨its,rv,pl,hz⟩:=I.list hq;have hi:IntsAre its ns:=sZ rv;obtain⟨xs,e⟩:=hi.allInts.items;have z:ns=xs.toList.map (·.1):=by
  rw[<-hi.numsOf,<-nums_intItems,<-e]
 have hsz:0<xs.size:=by
  have U:=O;rw[z,Q0,Qb]at U;exact U
 have hl:=pl.isList;rw[e]at hl;refine min_intList (I.ok.hd hc) hl hsz λv h' tk Z hk=>?_;obtain⟨t,rfl⟩:=intItems_at Z;obtain⟨h1,h2⟩:=argBest_lt (numAt xs) (xs.size-1);refine⟨.int _,H,I.kept (t':=tk) hk,⟨t,rfl⟩,q _ ?_ λa ha=>?_⟩
 .rw[z,numAt_eq];exact getD_mem (by rw[Q0,Qb];lia)
 .rw[z]at ha;obtain⟨j,hj,rfl⟩:=mem_getD ha;rw[Q0,Qb]at hj;rw[<-numAt_eq];exact h2 j (by lia)
end
end
section
theorem vi {y:Int}:∀{ns:List Int} {m:Nat},m<ns.idxOf y->(h:m<ns.length)->ns[m]≠y
 | [],m,_,h=>by simp at h
 |a::r,m,lt,h=>by
  rw[List.idxOf_cons]at lt;by_cases c:a=y
  .rw[c]at lt;simp at lt
  .have:(a==y)=false:=beq_eq_false_iff_ne.mpr c;rw[this]at lt;cases m with
   |zero=>exact c
   |succ j=>exact vi (ns:=r) (m:=j) (by simpa using lt) (by simpa using h)
theorem vF:∀(ns:List Int) (i:Nat),(ns.eraseIdx i).map V.int=(ns.map V.int).eraseIdx i
 | [],_=>rfl
 |_::_,0=>rfl
 |a::r,i+1=>by
  show V.int a::(r.eraseIdx i).map V.int=V.int a::(r.map V.int).eraseIdx i;rw[vF r i]
section
inductive Fp (x:V) (vs:List V) (H:Hp) (Q:VK):Prop
 |mk (l:Addr) (xs:List V) (k:Int) (y:V) (_:x= .ref l) (_:vs=[.int k,y]) (_:H l=some (.lst xs)) (_:0<=k) (_:k<=(xs.length:Int)) (_:xs.length<sizeLine) (_:Q .non (upd H l (.lst (xs.take k.toNat++y::xs.drop k.toNat))))
theorem vo:MtM X "list.insert" Fp:=by
 intro pins s σ H x vs v us Q I Z rv h;obtain⟨l,xs,k,y,rfl,rfl,U,h0,hk,hz,q⟩:=h;cases Z;obtain⟨u1,u,rfl,⟨t,rfl⟩,ru⟩:=rv.two;obtain⟨z,its,n,r,hl,e⟩:=I.lstM U;have O:¬(!Builtin.List.listFitsIndex k)=true:=by
  have Y:=pF;rw[fitsIndex_both (by lia) (by lia)];exact Qj
 have hsz:its.toArray.size<=sizeLine:=by rw[Qh];lia
 refine call_meets F.slot_list_insert ⟨_,e,rfl⟩ F.entry_list_insert (F.args_list_insert_3 _ _ _) (AutoListH.list_insert_list_int_val_1 l its.toArray n k t u O hsz) ⟨e,?_⟩;refine⟨.non,_,I.lset (its':=its.take k.toNat++u::its.drop k.toNat) U e ?_ ((r.take k.toNat).append (.cons ru (r.drop k.toNat))) ?_,rfl,q⟩
 .have e0:(if k<0 then(k+((its.toArray.size:Nat):Int)).toNat else min k.toNat its.toArray.size)=k.toNat:=by
   rw[if_neg (by lia),Qh];lia
  show(its.toArray.extract 0 _).push u++its.toArray.extract _=_;rw[e0];simp;exact Qr (by rw[QD];lia)
 .rw[Qd,Qf,Qe,QD];lia
inductive Fo (x:V) (vs:List V) (H:Hp) (Q:VK):Prop
 |mk (l:Addr) (ns:List Int) (y:Int) (_:x= .ref l) (_:vs=[.int y]) (_:H l=some (.lst (ns.map V.int))) (_:y∈ns) (_:Q .non (upd H l (.lst ((ns.erase y).map V.int))))
theorem B8:MtM X "list.remove" Fo:=by
 intro pins s σ H x vs v us Q I rx rv h;obtain⟨l,ns,y,rfl,rfl,hH,hy,q⟩:=h;cases rx;obtain⟨u,rfl,ru⟩:=rv.one;obtain⟨t,rfl⟩:=ru;obtain⟨z,its,n,r,hl,e⟩:=I.lstM hH;have hi:IntsAre its ns:=sZ r;have at_:∀(m:Nat) (U:m<its.toArray.size),∃t',its.toArray[m]=Value.int (ns.getD m 0) t':=λm U=>by
  have O:m<ns.length:=by rw[Qh,<-hl,Q0]at U;exact U
  obtain⟨w,hw,Z⟩:=r.get (i:=m) (x:= .int (ns.getD m 0)) (by rw[Qc,Q3 O,Ql,Q3 O];rfl);obtain⟨t',rfl⟩:=Z;refine⟨t',?_⟩;have:=(Q2.mp hw).2;simpa using this
 have hx:ns.idxOf y<ns.length:=List.idxOf_lt_length_of_mem hy;have ga:∀m,m<ns.length->ns.getD m 0=ns[m]!:=λm U=>by simp[U]
 refine call_meets F.slot_list_remove ⟨_,e,rfl⟩ F.entry_list_remove (F.args_list_remove_2 _ _) (MeetsSeq.list_remove l its.toArray n (.int y t) (λv=>match v with| .int i _=>i==y|_=>false) (λv hv=>?_) (ns.idxOf y) (by rw[Qh,<-hl,Q0];exact hx) ?_ (λm U lt=>?_) (by rw[Qh];lia)) ⟨e,?_⟩
 .obtain⟨m,U,em⟩:=Array.getElem_of_mem hv;obtain⟨t',Y⟩:=at_ m U
  rw[<-em,Y];exact MeetsSeq.EqGives.int _ _ _ _
 .obtain⟨t',Y⟩:=at_ (ns.idxOf y) (by rw[Qh,<-hl,Q0];exact hx)
  rw[Y];show(ns.getD (ns.idxOf y) 0==y)=true;rw[Ql,Q3 hx,XW,List.getElem_idxOf hx];exact beq_self_eq_true y
 .obtain⟨t',Y⟩:=at_ m U
  rw[Y];show(ns.getD m 0==y)=false;have O:m<ns.length:=by lia
  rw[Ql,Q3 O,XW];exact beq_eq_false_iff_ne.mpr (λw=>vi lt O w)
 .have ee:ns.erase y=ns.eraseIdx (ns.idxOf y):=(List.erase_eq_eraseIdx_of_idxOf rfl);have em:(ns.eraseIdx (ns.idxOf y)).map V.int=(ns.map V.int).eraseIdx (ns.idxOf y):=vF _ _;rw[ee,em]at q;refine⟨.non,_,I.lset (its':=its.eraseIdx (ns.idxOf y)) hH e ?_ (r.eraseIdx (ns.idxOf y)) ?_,rfl,q⟩
  .show its.toArray.eraseIdxIfInBounds (ns.idxOf y)=(its.eraseIdx (ns.idxOf y)).toArray;rw[XR]
  .have:=pG (ns.map V.int) (ns.idxOf y);lia
end
end
section
def Itk (ob:Obj) (d:Addr) (kvs:List (Key×V)):It:=
 ⟨λi H=>H d=some (.frz ob (.dK kvs))/\i<kvs.length,λi H x H'=>H'=H/\∃k v,kvs[i]?=some (k,v)/\x=kV k,λi H=>H d=some (.frz ob (.dK kvs))/\kvs.length<=i⟩
theorem BC (it:Addr) (D:DObj P w ob d kvs vs ep):
  xH P w K tg (Itk ob d kvs) [it] it (λi h=>h.IsKeyIter it d i vs.length ep) where
 mem:=by simp
 obj:=λi h st b hb=>by
  have z:b=it:=by simpa using hb
  subst z;obtain⟨o,e,c,dd⟩:=st;exact⟨o,e,λv z=>by rw[dd]at z;cases z⟩
 keep:=λi h h' st k=>by
  obtain⟨o,e,r⟩:=st;exact⟨o,k it (by simp) _ e,r⟩
 item:=by
  intro X Z hw hK hc i pins s σ H E I hf st hg;subst Z hw hK;obtain⟨hq,hi⟩:=hg;obtain⟨f0,f1,f2,f3,f4,f5⟩:=hf it (by simp);obtain⟨O,_⟩:=I.hok d _ hq;have U:=D.2 s.heap O;obtain⟨⟨k,v⟩,hx⟩:∃kv,kvs[i]?=some kv:=⟨kvs[i],by simp[hi]⟩;obtain⟨u,hu,ru⟩:=KV.getI D.1 hx;refine wpAny_pyNext_dict_item st U hu λkey h' Y st' sb=>?_;have I1:Inv X pins σ H {s with heap:=h'}:=I.turned (t':=s.toks) (λb o hb e=>(sb.2 b hb).trans e) f0 f1 f3 f4 f5;obtain⟨o,e,c,dd⟩:=id st';exact⟨key,rfl,tq (s:={s with heap:=h'}) e c dd (by decide) ⟨kV k,H,I1,qI Y,⟨rfl,k,v,hx,rfl⟩,st',λb hb=>(hf b hb).1⟩⟩
 done:=by
  intro X Z hw hK hc i pins s σ H E I hf st hg;subst Z hw hK;obtain⟨hq,hi⟩:=hg;obtain⟨O,_⟩:=I.hok d _ hq;have U:=D.2 s.heap O;obtain⟨f0,f1,f2,f3,f4,f5⟩:=hf it (by simp);have hl:kvs.length=vs.length:=D.1.length;exact wpAny_pyNext_dict_end (I.ok.hd hc) st U (by simp;lia) λh' eb=>⟨rfl,I.turned (t':=s.toks) (λb o hb e=>eb b o hb e) f0 f1 f3 f4 f5⟩
 self:=λ_ _ _ _ _ st h=>wpAny_pyIter_keyiter st h
section
def Ji (te:TE):TI:=λσ H R=>te σ H λx H1=>∃d kvs,x= .ref d/\H1 d=some (.dK kvs)/\∀ob,R (Itk ob d kvs) (upd H1 d (.frz ob (.dK kvs)))
theorem Fw (hl:PE X l te):PI X tg l (Ji te):=by
 intro pins s σ H R I h;refine thn (hl pins s σ H _ I h) λv s1 U=>?_;obtain⟨x,H1,I1,r1,q1⟩:=U;obtain⟨d,kvs,e,hd,q⟩:=q1;subst e;cases r1;obtain⟨z,lo,vs,Y,dd⟩:=oq I1.hok hd;obtain⟨ep,O⟩:=dd.dictAt;obtain⟨ob,es,Z,rest⟩:=id O;refine wpAny_pyIter_dict lo O ?_;have If:=I1.freeze hd Z;refine⟨s1.heap.objs.size,[s1.heap.objs.size],_,_,_,rfl,If.kept (t':=s1.toks) λb o e=>Heap.get?_push_of_some _ e,BC _ ⟨Y,λh e=>⟨ob,es,e,rest⟩⟩,⟨_,Heap.get?_push_size _ rfl,rfl,rfl⟩,λb hb=>?_,q ob⟩;have e:b=s1.heap.objs.size:=by simpa using hb
 subst e;exact If.fpOk (Q4 _) (If.hok.fresh (Q4 _))
end
theorem Cr (Pv:Nat->St->Hp->Prop) (U:Pv 0 σ H) (hl:∀i σ H,i<=kvs.length->Pv i σ H->H d=some (.frz ob (.dK kvs)))
  (Y:∀i k v σ H,kvs[i]?=some (k,v)->Pv i σ H->g (kV k) σ H λI H2=>tb ⟨Pv (i+1),rt,nx,Pv (i+1)⟩ I H2) (hd:∀σ H,Pv kvs.length σ H->nx σ H):
  ∃W:Nat->Nat->St->Hp->Prop,(∃m,W 0 m σ H)/\∀i m σ H,W i m σ H->
   ((Itk ob d kvs).stop i H/\nx σ H)\/((Itk ob d kvs).go i H/\∃N:St->Hp->Prop,(∀O H',N O H'->∃m',m'<m/\W (i+1) m' O H')/\∀x H',(Itk ob d kvs).yld i H x H'->g x σ H' λI H2=>tb ⟨N,rt,nx,N⟩ I H2):=by
 refine⟨λi m σ H=>m=kvs.length-i/\i<=kvs.length/\Pv i σ H,⟨kvs.length,by simp,Qi _,U⟩,?_⟩;rintro i m σ H ⟨rfl,hi,p⟩;have q:=hl i σ H hi p;by_cases lt:i<kvs.length
 .refine .inr ⟨⟨q,lt⟩,Pv (i+1),λO H' z=>⟨kvs.length-(i+1),by lia,rfl,lt,z⟩,λx H' y=>?_⟩;obtain⟨rfl,k,v,e,rfl⟩:=y;exact Y i k v σ _ e p
 .have e:i=kvs.length:=by lia
  subst e;exact .inl ⟨⟨q,Q4 _⟩,hd σ H p⟩
end
section
section
theorem uW:∀as:List Addr,Vals (as.map V.ref) (as.map Value.ref)
 | []=> .nil
 |_::as=> .cons rfl (uW as)
theorem xL:∀{as:List Addr} {kvs:List (Key×V)} {j:Nat} {a:Addr} {kv:Key×V},as.Pairwise (· < ·)->as[j]?=some a->kvs[j]?=some kv->(as.zip kvs).find? (λp=>decide (p.1=a))=some (a,kv)
 | [],_,_,_,_,_,h,_=>by simp at h
 |_::_,[],_,_,_,_,_,h=>by simp at h
 |b::as,kv'::kvs,0,a,kv,_,h1,h2=>by
  simp at h1 h2;subst h1 h2;rw[List.zip_cons_cons,List.find?_cons_of_pos (by simp)]
 |b::as,kv'::kvs,j+1,a,kv,up,h1,h2=>by
  rw[ZO]at h1 h2;rw[Zl]at up;have lt:b<a:=up.1 a (Q1 h1);rw[List.zip_cons_cons,List.find?_cons_of_neg (by simp;exact Qx lt)];exact xL up.2 h1 h2
theorem qM {as:List Addr} (h:a∉as):(as.zip kvs).find? (λp=>decide (p.1=a))=none:=by
 refine List.find?_eq_none.mpr λp hp=>?_;have:=(Xh (a:=p.1) (b:=p.2) hp).1;simp;intro e;exact h (e▸this)
theorem Un.many {fs ex:List Addr} {H':Hp} {h:Heap} (k:∀b u,h.get? b=some u->h'.get? b=some u) (z:Same H H') (I:∀b,b<h.objs.size->H' b=H b):Un fs ex H H' h h' where
 keep:=λb u q _ _ _=>k b u q
 slot:=λb u q _ _ _=>⟨u.slots,k b u q⟩
 free:=λb u q n _=>by rw[I b (Heap.lt_size q)];exact n
 there:=λb u q _=>⟨u,k b u q⟩
 tups:=λb xs q=>z _ _ q
 frzs:=λb u xs q=>z _ _ q
 tbls:=λb ps q=>⟨#[],by rw[z _ _ q];simp⟩
end
end
end L2
namespace Srt
open PySem PySem.Calls PySem.Spec PyProof.Rows
variable {blt:Heap->Keyed->Keyed->Bool} {E Q:Value->Shared->Prop}
section
variable {prog:Program} {w:World} {A:Around} {s:Shared} {κ:SortKind}
theorem sorted_src2 {r:Value} {G:Heap->List Value->Prop} 
  (hc:∀(R:List Value->Shared->Prop) (I:Value->Shared->Prop),(∀(h1:Heap) (tk:Nat) (vs:List Value),(∀b o,s.heap.get? b=some o->h1.get? b=some o)->G h1 vs->R vs {s with heap:=h1,toks:=tk})->wpAny (model prog w) A.in1 (collect r) R I s)
  (hz:∀h vs,G h vs->vs.length<=sizeLine) (C:∀h,Cmp (blt h))
  (z:∀(vs:List Value) (h1 h':Heap) (tk:Nat),G h1 vs->(∀b o,h1.get? b=some o->h'.get? b=some o)->2<=vs.length->∀Q':SortKind->Shared->Prop,Q' κ {s with heap:=h',toks:=tk}->wpAny (model prog w) A.in1.in1 (keyKind' vs.toArray) Q' (λ_ _=>False) {s with heap:=h',toks:=tk})
  (L:∀(vs:List Value) (h1 h':Heap) (tk:Nat),G h1 vs->(∀b o,h1.get? b=some o->h'.get? b=some o)->uS prog w A.in1.in1 (λ_ _=>False) {s with heap:=h',toks:=tk} (pairsOf vs) κ (blt h1))
  (h:∀(vs:List Value) (h1 h2:Heap) (tk e:Nat) (out:Array Keyed),G h1 vs->(∀b o,s.heap.get? b=some o->h1.get? b=some o)->(∀b o,h1.get? b=some o->h2.get? b=some o)->h2.get? h1.objs.size=some (seqObj "list" (out.map (·.2)) e)->out.Perm (pairsOf vs)->PW (blt h1) out.toList->Q (.ref h1.objs.size) {s with heap:=h2,toks:=tk}):
  wpAny (model prog w) A (call (.builtin "sorted") [r]) Q E s:=by
 refine Calls.call_function_entry kind_sorted plain_sorted entry_sorted (args_sorted1 _) ?_;unfold Builtin.«sorted»;refine wpAny_bind (m:=checkCount "sorted" 1 1 _) (wpAny_pure (wpAny_bind (hc _ _ λh1 tk vs k1 g=>?_)));refine wpAny_bind (wpAny_newList ?_ (hsz:=hz h1 vs g));have new:(h1.push (seqObj "list" vs.toArray 0)).get? h1.objs.size=some (seqObj "list" vs.toArray 0):=Heap.get?_push_size _ rfl;have keep:∀h':Heap,But h1.objs.size {s with heap:=h1.push (seqObj "list" vs.toArray 0),toks:=tk} {s with heap:=h',toks:=tk}->∀b o,h1.get? b=some o->h'.get? b=some o:=λh' k b o e=>
  k b o (Qx (Heap.lt_size e)) (Heap.get?_push_of_some _ e)
 show wpAny _ _ _ _ _ {s with heap:=h1.push (seqObj "list" vs.toArray 0),toks:=tk};refine wpAny_bind (wpAny_holding (wpAny_mono (wpAny_call_entry (E:=λ_ _=>False) slot_list_sort ⟨_,new,rfl⟩ entry_list_sort (oY (s:={s with heap:=h1.push (seqObj "list" vs.toArray 0),toks:=tk}) (κ:=κ) (blt:=blt h1) new (hz h1 vs g) (C h1) (λh' k=>z vs h1 h' tk g (keep h' k)) (λh' k=>L vs h1 h' tk g (keep h' k)) λout p q=>⟨_,rfl,?_⟩) (args_list_sort _)) (λ_ _ q=>q) λ_ _ f=>f.elim));refine wpAny_pure ⟨_,rfl,?_⟩;obtain⟨e,at_⟩:=sortedHeap_at (out:=out.map (·.2)) new;refine h vs h1 _ tk e out g k1 (λb o q=>?_) at_ p q
 have lt:=Heap.lt_size q;rw[sortedHeap_old (Qx lt) (by rw[size_push'];exact XM lt)];exact Heap.get?_push_of_some _ q
end
end Srt
namespace L2
open PySem PySem.Spec PyProof.Rows Srt
section
variable {X:Cx}
def layT (H:Hp) (as:List Addr) (kvs:List (Key×V)):Hp:=λb=>match (as.zip kvs).find? (λp=>decide (p.1=b))with
 |some p=>some (.tup [kV p.2.1,p.2.2])
 |none=>H b
def ivs (ns:List (Int×Int)):List (Key×V):=ns.map λp=>(Sum.inl p.1,V.int p.2)
def kyP (h:Heap):Value->List Int
 | .ref b=>match h.get? b with
  |some o=>match o.data with
   | .seq xs _=>match xs.toList with
    | [.int i _,.int j _]=> [i,j]
    |_=> []
   |_=> []
  |none=> []
 |_=> []
theorem wY {h:Heap} {b:Addr} {i j:Int} {t t':Tok} (e:h.get? b=some {cls:= .type "tuple",data:= .seq #[Value.int i t,Value.int j t']}):kyP h (.ref b)=[i,j]:=by
 simp only[kyP,e]
theorem uI (hh:X.A.handled=none):dw X (.builtin "sorted") (λxs H Q=>∃(a d:Addr) (ns:List (Int×Int)),xs=[.ref a]/\H a=some (vwO a d)/\H d=some (.dK (ivs ns))/\
  ∀(H':Hp) (l:Addr) (es:List (Addr×Int×Int)),Same H H'->H l=none->H' l=some (.lst (es.map λe=>V.ref e.1))->(∀e∈es,H e.1=none/\H' e.1=some (.tup [.int e.2.1,.int e.2.2]))->(es.map (·.2)).Perm ns->(es.map (·.2)).Pairwise (λp q=>HT.lexLt [q.1,q.2] [p.1,p.2]=false)->Q (.ref l) H'):=by
 intro pins s σ H xs us Q I r h;obtain⟨a,d,ns,rfl,ha,hd,q⟩:=h;obtain⟨u,rfl,ru⟩:=iS r;cases ru;obtain⟨z,lo,vs,a0,dd⟩:=oq I.hok hd;obtain⟨ep,a4⟩:=dd.dictAt;obtain⟨vw,_,_⟩:=(show ObjOk X.prog X.w H s.heap a (vwO a d) from I.hok a _ ha);have af:(ivs ns).length=vs.length:=a0.length;have al:(ivs ns).length=ns.length:=Q0 _;have Z:∀{h1 h':Heap} {as:List Addr},PySem.W.KdxG (a6 X.prog X.w) vs s.heap.objs.size h1 as->as.length=vs.length->(∀b o,h1.get? b=some o->h'.get? b=some o)->∀(j:Nat) (b:Addr),as[j]?=some b->∃(p:Int×Int) (t t':Tok),ns[j]?=some p/\h'.get? b=some {cls:= .type "tuple",data:= .seq #[Value.int p.1 t,Value.int p.2 t']}:=λ{h1 h' as} g gl k j b hb=>by
  obtain⟨key,k0,x,Y,e2,e3⟩:=g.pairs j b hb;have jl:j<ns.length:=by
   have:=(Q2.mp hb).1;lia
  have e4:(ivs ns)[j]?=some (Sum.inl ns[j].1,V.int ns[j].2):=by
   unfold ivs;rw[Qc,Q3 jl];rfl
  obtain⟨u,e5,ru⟩:=KV.getI a0 e4;rw[Y]at e5;cases e5;obtain⟨t',rfl⟩:=ru;obtain⟨t,rfl⟩:=(show RelV (.int ns[j].1) key from qI e2);exact⟨ns[j],t,t',Q3 jl,k _ _ e3⟩
 refine Srt.sorted_src2 (G:=λh its=>∃as:List Addr,its=as.map Value.ref/\as.length=vs.length/\PySem.W.KdxG (a6 X.prog X.w) vs s.heap.objs.size h as) (κ:=tuples' (Value.type "int" !=Value.type "tuple")) (blt:=λh a b=>HT.lexLt (kyP h a.1) (kyP h b.1)) (λR E' k=>?_) (λh its g=>?_) (λh=>Srt.cmp_of λa=>kyP h a.1)
  (λits h1 h' tk g k h2 Q' O=>?_) (λits h1 h' tk g k=>Srt.runs_of λx y E' Q' hx hy O=>?_) (λits h1 h2 tk e out g k1 k2 at_ pm pw=>?_)
 .exact PySem.W.kdx_collect (knd:=a6 X.prog X.w) hh vw a4 (by lia) λh' tk as hk hl G=>k h' tk _ hk ⟨as,rfl,hl,G⟩
 .obtain⟨as,rfl,hl,_⟩:=g;rw[Q0];lia
 .obtain⟨as,rfl,hl,G⟩:=g;have Z:=Z G hl k;have tups:∀(bs:List Addr),(∀b∈bs,∃(p:Int×Int) (t t':Tok),h'.get? b=some {cls:= .type "tuple",data:= .seq #[Value.int p.1 t,Value.int p.2 t']})->∃fs:List Value,PySem.W.KatTups h' (bs.map Value.ref) fs/\(∀f∈fs,∃i t,f=Value.int i t)/\fs.length=bs.length:=by
   intro bs
   induction bs with
   |nil=>intro _;exact⟨[],.nil,λ_ h=>absurd h QR,rfl⟩
   |cons b bs ih=>
    intro hb;obtain⟨fs,t,hi,hl⟩:=ih λc hc=>hb c (Q8 _ hc);obtain⟨p,t1,t2,e⟩:=hb b Q6;refine⟨Value.int p.1 t1::fs,.cons e rfl rfl rfl t,λf hf=>?_,by rw[Qf,Qf,hl]⟩;rcases Qg.mp hf with z|z
    .exact⟨p.1,t1,z⟩
    .exact hi f z
  obtain⟨fs,t,hi,an⟩:=tups as λb hb=>by
   obtain⟨j,U⟩:=Z6.mp hb;obtain⟨p,t,t',_,e⟩:=Z j b U;exact⟨p,t,t',e⟩
  refine XV (T:= .type "int") t (by rw[Q0]at h2;lia) (λv hv=>?_) (by decide+kernel) O;obtain⟨i,t,rfl⟩:=hi v hv;exact PySem.W.Looks.of_pure rfl
 .obtain⟨as,rfl,hl,G⟩:=g;have mem:∀{z:Keyed},z∈pairsOf (as.map Value.ref)->∃b∈as,z.1=Value.ref b:=λ{z} hz=>by
   have:z∈(pairsOf (as.map Value.ref)).toList:=by simpa using hz
   rw[pairsOf_toList]at this;obtain⟨b,hb,e⟩:=Q7.mp (mem_zip_self this).2;exact⟨b,hb,e.symm⟩
  obtain⟨b,hb,eb⟩:=mem hx;obtain⟨c,hc,ec⟩:=mem hy;obtain⟨j,U⟩:=Z6.mp hb;obtain⟨j',a5⟩:=Z6.mp hc;obtain⟨p,t1,t2,_,Y⟩:=Z G hl (λ_ _ h=>h) j b U;obtain⟨p',t3,t4,_,e2⟩:=Z G hl (λ_ _ h=>h) j' c a5;have O:Q' (HT.lexLt (kyP h1 x.1) (kyP h1 y.1)) {s with heap:=h',toks:=tk}:=O;rw[eb,ec,wY Y,wY e2,HT.lexLt_cons,HT.lexLt_cons,HT.lexLt_nil_nil]at O;rw[eb,ec];refine KB (k _ _ Y) rfl (k _ _ e2) rfl (Zs (SeqAt.EqAt.int_int _ _ _ _ _ _ _ _ (ZE (λe=>Zx ?_) (λe=>ZF ?_))))
  .rw[if_pos (beq_iff_eq.mp e)]at O;refine Zs (SeqAt.EqAt.int_int _ _ _ _ _ _ _ _ (ZE (λe=>Zx ?_) (λe=>ZF ?_)))
   .rw[if_pos (beq_iff_eq.mp e)]at O;exact K4 (by simpa using O)
   .rw[if_neg (beq_eq_false_iff_ne.mp e)]at O;exact Xj _ _ (lt_int O)
  .rw[if_neg (beq_eq_false_iff_ne.mp e)]at O;exact oneLt_int O
 .obtain⟨as,rfl,hl,G⟩:=g;have na:∀b∈as,H b=none:=λb hb=>I.hok.fresh (Zd (G.above b hb));have sm:Same H (layT H as (ivs ns)):=λb o e=>by
   unfold layT;rw[qM λz=>ao e (na b z) rfl];exact e
  have aa:∀b,b<s.heap.objs.size->layT H as (ivs ns) b=H b:=λb hb=>by
   unfold layT;rw[qM λz=>absurd (G.above b z) (XA.mpr (Zd hb))]
  have a1:∀(j:Nat) (b:Addr) (p:Int×Int),as[j]?=some b->ns[j]?=some p->layT H as (ivs ns) b=some (.tup [.int p.1,.int p.2]):=λj b p h1 h2=>by
   unfold layT;have e:(ivs ns)[j]?=some (Sum.inl p.1,V.int p.2):=by
    unfold ivs;rw[Qc,h2];rfl
   rw[xL G.rise h1 e];rfl
  have hok:HOk X.prog X.w (layT H as (ivs ns)) h1:=λb o e=>by
   by_cases c2:b∈as
   .obtain⟨j,U⟩:=Z6.mp c2;obtain⟨p,t,t',Y,e2⟩:=Z G hl (λ_ _ h=>h) j b U;rw[a1 j b p U Y]at e;cases e;exact⟨by show 2<=sizeLine;decide,[Value.int p.1 t,Value.int p.2 t'],.cons ⟨t,rfl⟩ (.cons ⟨t',rfl⟩ .nil),_,e2,rfl,_,rfl⟩
   .have:layT H as (ivs ns) b=H b:=by
     unfold layT;rw[qM c2]
    rw[this]at e;exact(I.hok b o e).stay (λc v _ q=>k1 c v q) (λc q=>sm _ _ q) λc xs q=>sm _ _ q
  have I1:Inv X pins σ (layT H as (ivs ns)) {s with heap:=h1,toks:=tk}:=I.un (t':=tk) (Un.many k1 sm aa) hok;have a2:out.toList.Perm ((as.map Value.ref).zip (as.map Value.ref)):=by
   have:=ZD.mp pm;rwa [pairsOf_toList]at this
  have a3:∀z∈out.toList,z.1=z.2:=λz hz=>(mem_zip_self (a2.mem_iff.mp hz)).1;have e2:(out.map (·.2)).toList=out.toList.map (·.2):=XT;have pv:((out.map (·.2)).toList).Perm (as.map Value.ref):=by
   rw[e2];exact(a2.map _).trans (List.Perm.of_eq (XU (Q4 _)))
  obtain⟨bs,eb,pb⟩:∃bs:List Addr,(out.map (·.2)).toList=bs.map Value.ref/\bs.Perm as:=by
   refine⟨(out.map (·.2)).toList.map λv=>match v with| .ref b=>b|_=>0,?_,?_⟩
   .rw[Qq];refine(List.map_id _).symm.trans (QM λv hv=>?_);obtain⟨b,_,rfl⟩:=Q7.mp (pv.mem_iff.mp hv);rfl
   .have:=pv.map λv:Value=>match v with| .ref b=>b|_=>0
    rw[Qq]at this;exact this.trans (List.Perm.of_eq (List.map_id _))
  let gp:Addr->Int×Int:=λb=>((kyP h1 (.ref b)).getD 0 0,(kyP h1 (.ref b)).getD 1 0)
  have ga:∀(j:Nat) (b:Addr),as[j]?=some b->ns[j]?=some (gp b):=λj b hb=>by
   obtain⟨p,t,t',Y,e3⟩:=Z G hl (λ_ _ h=>h) j b hb;show ns[j]?=some ((kyP h1 (.ref b)).getD 0 0,(kyP h1 (.ref b)).getD 1 0);rw[wY e3];exact Y
  have gk:∀b∈as,kyP h1 (.ref b)=[(gp b).1,(gp b).2]:=λb hb=>by
   obtain⟨j,U⟩:=Z6.mp hb;obtain⟨p,t,t',Y,e3⟩:=Z G hl (λ_ _ h=>h) j b U;have:=ga j b U;rw[Y]at this;rw[wY e3,<-Option.some.inj this]
  have gn:as.map gp=ns:=by
   refine List.ext_getElem? λj=>?_;rw[Qc];cases c:as[j]? with
   |none=>
    have:=Z5.mp c;rw[List.getElem?_eq_none (by lia)];rfl
   |some b=>exact(ga j b c).symm
  have lz:(bs.map V.ref).length<=sizeLine:=by
   rw[Q0,pb.length_eq];lia
  have fl:=I1.hok.fresh (Q4 h1.objs.size);have nl:H h1.objs.size=none:=by
   cases c:H h1.objs.size with
   |none=>rfl
   |some o=>rw[sm _ _ c]at fl;cases fl
  refine⟨.ref h1.objs.size,upd (layT H as (ivs ns)) h1.objs.size (.lst (bs.map V.ref)),I1.laid (t':=tk) k2 (Q4 _) ⟨lz,bs.map Value.ref,e,uW bs,?_⟩,rfl,q _ _ (bs.map λb=>(b,gp b)) (sm.trans (λb o eb=>by rw[ag (ao eb fl)];exact eb)) nl ?_ (λx hx=>?_) ?_ ?_⟩
  .rw[at_,<-eb,ZX]
  .rw[ai,Qq];rfl
  .obtain⟨b,hb,rfl⟩:=Q7.mp hx;have hb:=pb.mem_iff.mp hb;obtain⟨j,U⟩:=Z6.mp hb;refine⟨na b hb,?_⟩;have e5:=a1 j b (gp b) U (ga j b U);rw[ag (ao e5 fl)];exact e5
  .rw[Qq];exact(pb.map gp).trans (List.Perm.of_eq gn)
  .rw[Qq];refine Qp.mpr ?_;have ac:(bs.map Value.ref).Pairwise (λa b=>HT.lexLt (kyP h1 b) (kyP h1 a)=false):=by
    rw[<-eb,e2];refine Qp.mpr (pw.imp_of_mem λ{a b} ha hb h=>?_);show HT.lexLt (kyP h1 b.2) (kyP h1 a.2)=false;rw[<-a3 a ha,<-a3 b hb];exact h
   refine(Qp.mp ac).imp_of_mem λ{a b} ha hb h=>?_;rw[gk a (pb.mem_iff.mp ha),gk b (pb.mem_iff.mp hb)]at h;exact h
end
end L2
namespace L2
open PySem PySem.Spec PyProof.Rows
variable {X:Cx} {a tg:Expr} {H:Hp} {hi lo st:Int} {R:It->Hp->Prop} {P:Program} {K:PySem.W.Frag} {σ:St} {nx:St->Hp->Prop} {ta:TA} {g:TG} {tb:TS} {rt:VK} {E:Value->Shared->Prop} {w:World}
section
section
inductive Fn (x:V) (vs:List V) (H:Hp) (Q:VK):Prop
 |mk (a kvs k y:_) (_:x= .ref a) (_:vs=[kV k,y]) (_:H a=some (.dK kvs)) (_:kvs.length<sizeLine) (_:(∀v,aO kvs k=some v->Q v H)) (_:(aO kvs k=none->Q y (upd H a (.dK (bj kvs k y)))))
theorem B7:MtR X "dict.setdefault" Fn:=by
 intro pins s σ H x vs v us Q I rx rv h;obtain⟨a,kvs,k,y,rfl,rfl,Z,hl,q1,q2⟩:=h;cases rx;obtain⟨u,r,rfl,ru,rr⟩:=qP rv;obtain⟨z,hd,ws,U,dd⟩:=oq I.hok Z;have O:=U.val k;refine call_meetsIn K5 dd.typeIs PySem.F.entry_dict_setdefault (PySem.F.args_dict_setdefault_3 _ _ _) (kt_meets_setdefault (a6 X.prog X.w) a (sV ru) hd r) ⟨ws,dd,by rw[<-U.length];exact z,λv hv=>?_,λhn h' Y hs=>?_⟩
 .rw[hv]at O;cases e:aO kvs k with
  |none=>rw[e]at O;exact O.elim
  |some x=>
   rw[e]at O;exact⟨x,H,I.tok _,O,q1 x e⟩
 .rw[hn]at O;cases e:aO kvs k with
  |some x=>rw[e]at O;exact O.elim
  |none=>
   have he:∃q,h'.get? a=some q:=let⟨q,_,_,hq,_⟩:=Y;⟨q,hq⟩
   have lp:=cw kvs k y;exact⟨y,_,qK I (by rw[Z];exact True.intro) hs he (Ad (by lia) hd (U.put k rr) Y),rr,q2 e⟩
end
end
section
end
section
end
section
section
def vwK (a d:Addr):HO:= .ext λh=>PySem.W.KdlKeysView h a d
inductive IP (x:V) (vs:List V) (H:Hp) (Q:VK):Prop
 |mk (d kvs:_) (_:x= .ref d) (_:vs=[]) (_:H d=some (.dK kvs)) (_:∀a,H a=none->Q (.ref a) (upd H a (vwK a d)))
theorem qF:MtR X "dict.keys" IP:=by
 intro pins s σ H x vs v us Q I O rv h;obtain⟨d,kvs,rfl,rfl,hd,q⟩:=h;cases O;cases rv;obtain⟨z,lo,ws,U,dd⟩:=oq I.hok hd;refine call_meetsIn Zv dd.typeIs PySem.F.entry_dict_keys (PySem.F.args_dict_keys_1 _) (PySem.W.kdl_meets_keys (a6 X.prog X.w) d lo) ⟨⟨ws,dd⟩,?_⟩;have new:(s.heap.push {cls:= .type "dict_keys",data:= .fields #[.ref d]}).get? s.heap.objs.size=some {cls:= .type "dict_keys",data:= .fields #[.ref d]}:=Heap.get?_push_size _ rfl;refine⟨.ref s.heap.objs.size,_,I.laid (t':=s.toks) (λb o e=>Heap.get?_push_of_some _ e) (Q4 _) (show ObjOk X.prog X.w _ _ _ (vwK s.heap.objs.size d) from⟨⟨_,new,rfl,rfl⟩,⟨_,new⟩,λh1 h2 p k=>?_⟩),rfl,q _ (I.hok.fresh (Q4 _))⟩;obtain⟨o,e,c⟩:=p;exact⟨o,k o e,c⟩
theorem fI (Z:X.A.handled=none):dw X (.builtin "sorted") (λxs H Q=>∃(a d:Addr) (kvs:List (Key×V)) (ns:List Int),xs=[.ref a]/\H a=some (vwK a d)/\H d=some (.dK kvs)/\oe kvs=ns.map V.int/\
  ∀(l:Addr) (ms:List Int),H l=none->ms.Perm ns->ms.Pairwise (· <= ·)->Q (.ref l) (upd H l (.lst (ms.map V.int)))):=by
 intro pins s σ H xs us Q I r h;obtain⟨a,d,kvs,ns,rfl,ha,hd,O,q⟩:=h;obtain⟨u,rfl,ru⟩:=iS r;cases ru;obtain⟨z,lo,vs,U,dd⟩:=oq I.hok hd;obtain⟨ep,Y⟩:=dd.dictAt;obtain⟨vw,_,_⟩:=(show ObjOk X.prog X.w H s.heap a (vwK a d) from I.hok a _ ha);exact pU Z I U z (PySem.W.kdl_keys (knd:=a6 X.prog X.w) (kvs:=vs) (ep:=ep)) ⟨vw,Y⟩ O q
end
end
section
end
section
def Itv (K:PySem.W.Frag) (a:Addr) (n:Nat):It:=
 ⟨λi H=>i<n/\∃xs x,SqL K H a xs/\xs[n-1-i]?=some x,λi H x H'=>H'=H/\∀xs,SqL K H a xs->xs[n-1-i]?=some x,λi _=>n<=i⟩
theorem CW (a it:Addr) (n:Nat):xH P w K tg (Itv K a n) [it] it (λi h=>i<=n/\h.IsRevIter it a ((n:Int)-1-(i:Int))) where
 mem:=by simp
 obj:=λi h st b hb=>by
  have e:b=it:=by simpa using hb
  subst e;obtain⟨_,o,e,c,d⟩:=st;exact⟨o,e,λv z=>by rw[d]at z;cases z⟩
 keep:=λi h h' st k=>⟨st.1,st.2.at λo e=>k it (by simp) o e⟩
 item:=by
  intro X U hw hK hc i pins s σ H E I hf st Y;subst U hw hK;obtain⟨hi,xs,x,hq,hx⟩:=Y;obtain⟨its,rv,p,hz⟩:=I.list hq;obtain⟨u,hu,ru⟩:=rv.get hx;obtain⟨Z,f1,f2,f3,f4,f5⟩:=hf it (by simp);have e1:(n:Int)-1-(i:Int)=((n-1-i:Nat):Int):=by lia
  have O:=st.2;rw[e1]at O;refine wpAny_pyNext_rev_item O p.isList (x:=u) (by simpa using hu) λh' st' sb=>?_;have e2:((n-1-i:Nat):Int)-1=(n:Int)-1-((i+1:Nat):Int):=by lia
  rw[e2]at st';have I1:Inv X pins σ H {s with heap:=h'}:=I.turned (t':=s.toks) (λb o hb e=>(sb.2 b hb).trans e) Z f1 f3 f4 f5;obtain⟨o,e,c,d⟩:=id st';exact⟨u,rfl,tq (s:={s with heap:=h'}) e c d (by decide) ⟨x,H,I1,ru,⟨rfl,λys hy=>by rw[I.list_inj hy hq];exact hx⟩,⟨hi,st'⟩,λb hb=>(hf b hb).1⟩⟩
 done:=by
  intro X U hw hK hc i pins s σ H E I hf st Y;subst U hw hK;obtain⟨Z,f1,f2,f3,f4,f5⟩:=hf it (by simp);have O:=st.2;have hn:n<=i:=Y;have e:(n:Int)-1-(i:Int)= -1:=by have:=st.1;lia
  rw[e]at O;exact wpAny_pyNext_rev_end (I.ok.hd hc) O λh' eb=>⟨rfl,I.turned (t':=s.toks) (λb o hb e=>eb b o hb e) Z f1 f3 f4 f5⟩
 self:=λ_ _ _ _ _ st h=>wpAny_pyIter_revIter st.2 h
section
def iRev (K:PySem.W.Frag) (ta:TA):TI:=λσ H R=>ta σ H λvs H1=>∃a xs,vs=[.ref a]/\SqL K H1 a xs/\R (Itv K a xs.length) H1
theorem Hh {p pos:Pos} (U:Gl X "reversed") (Y:X.mg "reversed"=none) (ha:PA X [a] ta) (Z:starEach [a] X.env=[(false,eval a X.env)]:=by rfl):PI X tg (.Call (.Name "reversed" p) [a] [] pos) (iRev X.K ta):=by
 intro pins s σ H R I h;refine Call_ (pH I U Y Boot.«reversed» (PyProof.Rows.callWith_type1 (thn (ha pos pins s σ H _ I h) λus s1 O=>?_) Z rfl));obtain⟨vs,H1,z,r1,q1⟩:=O;obtain⟨b,xs,e,hq,q⟩:=q1;subst e;cases r1 with
 |cons r rr=>
  cases rr;cases r;obtain⟨its,rv,p,hz⟩:=z.list hq;have hl:=rv.length;refine call_reversed_list p.isList ?_;refine wpAny_pyIter_revIter (l:=b) (i:=(its.toArray.size:Int)-1) ⟨_,Heap.get?_push_size _ rfl,rfl,rfl⟩ ?_;refine⟨s1.heap.objs.size,[s1.heap.objs.size],_,_,H1,rfl,z.kept (t':=s1.toks) λb o e=>Heap.get?_push_of_some _ e,CW b _ xs.length,⟨Qi _,?_⟩,λb hb=>?_,q⟩
  .have e:(xs.length:Int)-1-((0:Nat):Int)=(its.toArray.size:Int)-1:=by simp;lia
   rw[e];exact⟨_,Heap.get?_push_size _ rfl,rfl,rfl⟩
  .have e:b=s1.heap.objs.size:=by simpa using hb
   subst e;exact z.fpOk (Q4 _) (z.hok.fresh (Q4 _))
end
theorem FP {a:Addr} {xs:List V} (Pv:Nat->St->Hp->Prop) (U:Pv 0 σ H) (hl:∀i σ H,i<=xs.length->Pv i σ H->SqL K H a xs)
  (Y:∀i x σ H,xs.reverse[i]?=some x->Pv i σ H->g x σ H λI H2=>tb ⟨Pv (i+1),rt,nx,Pv (i+1)⟩ I H2) (hd:∀σ H,Pv xs.length σ H->nx σ H):
  ∃W:Nat->Nat->St->Hp->Prop,(∃m,W 0 m σ H)/\∀i m σ H,W i m σ H->
   ((Itv K a xs.length).stop i H/\nx σ H)\/((Itv K a xs.length).go i H/\∃N:St->Hp->Prop,(∀O H',N O H'->∃m',m'<m/\W (i+1) m' O H')/\∀x H',(Itv K a xs.length).yld i H x H'->g x σ H' λI H2=>tb ⟨N,rt,nx,N⟩ I H2):=by
 refine⟨λi m σ H=>m=xs.length-i/\i<=xs.length/\Pv i σ H,⟨xs.length,by simp,Qi _,U⟩,?_⟩;rintro i m σ H ⟨rfl,hi,p⟩;have q:=hl i σ H hi p;by_cases lt:i<xs.length
 .refine .inr ⟨⟨lt,xs,xs[xs.length-1-i]'(by lia),q,Q3 _⟩,Pv (i+1),λO H' z=>⟨xs.length-(i+1),by lia,rfl,lt,z⟩,λx H' y=>?_⟩;obtain⟨e,y⟩:=y;subst e;exact Y i x σ _ (by rw[List.getElem?_reverse lt];exact y xs q) p
 .have e:i=xs.length:=by lia
  subst e;exact .inl ⟨Q4 _,hd σ H p⟩
end
section
def CH (lo st:Int) (n:Nat):It:=⟨λi _=>i<n,λi H x H'=>H'=H/\x= .int (lo+i*st),λi _=>n<=i⟩
theorem xR (it:Addr) (lo st:Int) (n:Nat):xH P w K tg (CH lo st n) [it] it (λi h=>IsRangeIter h it (lo+(i:Nat)*st) ((n:Int)-(i:Nat)) st) where
 mem:=by simp
 obj:=λi h O b hb=>by
  have e:b=it:=by simpa using hb
  subst e;exact⟨_,O,λv z=>by
   have z':Data.fields _=Data.cell v:=z;cases z'⟩
 keep:=λi h h' O k=>k it (by simp) _ O
 item:=by
  intro X U hw hK hc i pins s σ H E I hf O Y;subst U hw hK;obtain⟨Z,f1,f2,f3,f4,f5⟩:=hf it (by simp);have W:=Walks.range (prog:=X.prog) (w:=X.w) (I.ok.hd hc) it lo st n;refine W.item i s _ _ Y O λv h' tk hv st' kk=>?_;obtain⟨t,rfl⟩:=hv;have I1:Inv X pins σ H {s with heap:=h',toks:=tk}:=I.turned (λb o hb e=>kk b o (by simpa using hb) e) Z f1 f3 f4 f5;exact⟨_,rfl,tq (s:={s with heap:=h',toks:=tk}) (n:="range_iterator") st' rfl rfl (by decide) ⟨.int (lo+i*st),H,I1,⟨t,rfl⟩,⟨rfl,rfl⟩,st',λb hb=>(hf b hb).1⟩⟩
 done:=by
  intro X U hw hK hc i pins s σ H E I hf O Y;subst U hw hK;obtain⟨Z,f1,f2,f3,f4,f5⟩:=hf it (by simp);exact wpAny_pyNext_range_end (I.ok.hd hc) O (by have:n<=i:=Y;lia) λh' eb=>⟨rfl,I.turned (t':=s.toks) (λb o hb e=>eb b o hb e) Z f1 f3 f4 f5⟩
 self:=λ_ _ _ _ _ O h=>wpAny_pyIter_rangeiter O h
def mY (lo hi st:Int):Nat:=(Builtin.Range.rangeSize lo hi st).toNat
theorem lH (h:0<st):Builtin.Range.rangeSize lo hi st=if lo<hi then(hi-lo-1)/st+1 else 0:=by
 unfold Builtin.Range.rangeSize;rw[if_pos h]
theorem wC (h:0<st) (z:0<=lo) (h1:0<=hi):0<=Builtin.Range.rangeSize lo hi st/\Builtin.Range.rangeSize lo hi st<=hi:=by
 rw[lH h];split
 .have a:0<=(hi-lo-1)/st:=K7 (by lia) (by lia);have b:(hi-lo-1)/st<=hi-lo-1:=Int.ediv_le_self _ (by lia);lia
 .lia
section
theorem BN {pins:List (Addr×Obj)} {s:Shared} {t u v:Tok} {tk:Nat} (I:Inv X pins σ H s) (h1:0<=lo) (h2:lo<2^30) (Z:0<=hi) (h4:hi<2^30) (Y:0<st) (h6:st<2^30)
  (q:R (CH lo st (mY lo hi st)) H):wpAny (model X.prog X.w) X.A (pyIter (.ref s.heap.objs.size)) (PIE X pins σ tg R) E {s with heap:=s.heap.push {cls:= .type "range",data:= .fields #[.int lo t,.int hi u,.int st v]},toks:=tk}:=by
 have bd:=wC (lo:=lo) (hi:=hi) Y h1 Z;refine wpAny_pyIter_range (IsRange.new ..) ?_ ?_
 .unfold Builtin.Range.small;simp only[Builtin.Range.rangeFitsLong,Qt,Bool.or_eq_true,decide_eq_true_eq,beq_iff_eq,Y,if_true];generalize Builtin.Range.rangeSize lo hi st=n at bd⊢;have z:(2:Int)^63=9223372036854775808:=by decide
  have O:(2:Int)^30=1073741824:=by decide
  rw[O]at h2 h4 h6
  try rw[z]
  lia
 have U:Inv X pins σ H {s with heap:=s.heap.push {cls:= .type "range",data:= .fields #[.int lo t,.int hi u,.int st v]},toks:=tk}:=I.kept λb o e=>Heap.get?_push_of_some _ e;refine⟨(s.heap.push {cls:= .type "range",data:= .fields #[.int lo t,.int hi u,.int st v]}).objs.size,[(s.heap.push {cls:= .type "range",data:= .fields #[.int lo t,.int hi u,.int st v]}).objs.size],_,_,H,rfl,
  U.kept (t':=tk) λb o e=>Heap.get?_push_of_some _ e,xR _ lo st (mY lo hi st),?_,λb hb=>?_,q⟩
 .have e1:lo+((0:Nat):Int)*st=lo:=by simp
  have e2:((mY lo hi st:Nat):Int)-((0:Nat):Int)=Builtin.Range.rangeSize lo hi st:=by unfold mY;lia
  show IsRangeIter _ _ (lo+((0:Nat):Int)*st) (((mY lo hi st:Nat):Int)-((0:Nat):Int)) st;rw[e1,e2];exact Heap.get?_push_size _ rfl
 .have e:b=(s.heap.push {cls:= .type "range",data:= .fields #[.int lo t,.int hi u,.int st v]}).objs.size:=by simpa using hb
  subst e;exact U.fpOk (Q4 _) (U.hok.fresh (Q4 _))
def Jf (ta:TA):TI:=λσ H R=>ta σ H λvs H1=>∃i j k:Int,vs=[.int i,.int j,.int k]/\(0<=i/\i<2^30/\0<=j/\j<2^30/\0<k/\k<2^30)/\R (CH i k (mY i j k)) H1
theorem BR {b c:Expr} {p pos:Pos} (hg:Gl X "range") (hm:X.mg "range"=none) (ha:PA X [a,b,c] ta) (hs:starEach [a,b,c] X.env=[(false,eval a X.env),(false,eval b X.env),(false,eval c X.env)]:=by rfl)
  (z:starEach [b,c] X.env=[(false,eval b X.env),(false,eval c X.env)]:=by rfl):PI X tg (.Call (.Name "range" p) [a,b,c] [] pos) (Jf ta):=by
 intro pins s σ H R I h;refine Call_ (pH I hg hm boot_range (PyProof.Rows.callWith_type1 (thn (ha pos pins s σ H _ I h) λus s1 U=>?_) (by rw[hs,z]) (by rw[z];rfl)));obtain⟨vs,H1,I1,r1,Y⟩:=U;obtain⟨i,j,k,e,⟨Y,q2,q3,q4,q5,q6⟩,q⟩:=Y;subst e;cases r1 with
 |cons r O=>
  cases O with
  |cons r' O=>
   cases O with
   |cons Z O=>
    cases O;obtain⟨t,rfl⟩:=r;obtain⟨t',rfl⟩:=r';obtain⟨a0,rfl⟩:=Z;exact call_range_3 (by lia) (BN I1 Y q2 q3 q4 q5 q6 q) (.inl (PyProof.noPylong_small (by lia)))
end
theorem yJ {n:Nat} (Pv:Nat->St->Hp->Prop) (U:Pv 0 σ H)
  (Y:∀i σ H,i<n->Pv i σ H->g (.int (lo+i*st)) σ H λz H2=>tb ⟨Pv (i+1),rt,nx,Pv (i+1)⟩ z H2) (hd:∀σ H,Pv n σ H->nx σ H):
  ∃W:Nat->Nat->St->Hp->Prop,(∃m,W 0 m σ H)/\∀i m σ H,W i m σ H->
   ((CH lo st n).stop i H/\nx σ H)\/((CH lo st n).go i H/\∃N:St->Hp->Prop,(∀I H',N I H'->∃m',m'<m/\W (i+1) m' I H')/\∀x H',(CH lo st n).yld i H x H'->g x σ H' λz H2=>tb ⟨N,rt,nx,N⟩ z H2):=by
 refine⟨λi m σ H=>m=n-i/\i<=n/\Pv i σ H,⟨n,by simp,Qi _,U⟩,?_⟩;rintro i m σ H ⟨rfl,hi,p⟩;by_cases O:i<n
 .refine .inr ⟨O,Pv (i+1),λI H' Z=>⟨n-(i+1),by lia,rfl,O,Z⟩,λx H' y=>?_⟩;obtain⟨e,y⟩:=y;subst e y;exact Y i σ _ O p
 .have e:i=n:=by lia
  subst e;exact .inl ⟨Q4 _,hd σ H p⟩
end
end L2
namespace L2
open PySem PySem.Spec PyProof.Rows Srt
section
variable {X:Cx}
def K3f (H:Hp) (a:Addr) (k:List Int):Prop:=∃i j m:Int,H a=some (.tup [.int i,.int j,.int m])/\k=[i,j,m]
theorem qR {x y z:V} {its:List Value} (r:Vals [x,y,z] its):∃u v w,its=[u,v,w]/\RelV x u/\RelV y v/\RelV z w:=by
 cases r with
 |cons r1 r=>
  obtain⟨v,w,rfl,h2,I⟩:=qP r;exact⟨_,v,w,rfl,r1,h2,I⟩
theorem uJ:dw X (.builtin "sorted") (λvs H Q=>∃(p:Addr) (as:List Addr) (ky:Addr->List Int),vs=[.ref p]/\SqL X.K H p (as.map V.ref)/\(∀a∈as,K3f H a (ky a))/\
  ∀(l:Addr) (bs:List Addr),H l=none->bs.Perm as->bs.Pairwise (λa b=>HT.lexLt (ky b) (ky a)=false)->Q (.ref l) (upd H l (.lst (bs.map V.ref)))):=by
 intro pins s σ H xs us Q I r h;obtain⟨p,as,ky,rfl,hq,hk,q⟩:=h;obtain⟨u,rfl,ru⟩:=iS r;cases ru;obtain⟨its,rv,pl,hz⟩:=I.list hq;refine u7 (κ:=tuples' (Value.type "int" !=Value.type "tuple")) (ky:=kRef ky) I hz rv pl.isList (λh' k h2 Q' O=>?_) (λh' k x y u v E' Q' hx hy rx ry O=>?_) λl ys hl pm pw=>?_
 .have tups:∀(bs:List Addr) (ws:List Value),(∀a∈bs,K3f H a (ky a))->Vals (bs.map V.ref) ws->∃fs:List Value,PySem.W.KatTups h' ws fs/\(∀f∈fs,∃i t,f=Value.int i t)/\fs.length=ws.length:=by
   intro bs
   induction bs with
   |nil=>intro ws _ r;cases r;exact⟨[],.nil,λ_ h=>absurd h QR,rfl⟩
   |cons a bs ih=>
    intro ws hk r;cases r with
    |cons r1 r2=>
     cases r1;obtain⟨fs,t,hi,hl⟩:=ih _ (λb hb=>hk b (Q8 _ hb)) r2;obtain⟨i,j,m,ha,_⟩:=hk a Q6;obtain⟨o,Y,n,U,e,c,d⟩:=oX I ha k;obtain⟨u1,u2,u3,rfl,q1,q2,q3⟩:=qR U;obtain⟨Z,rfl⟩:=q1;refine⟨Value.int i Z::fs,.cons e c d rfl t,λf hf=>?_,by rw[Qf,Qf,hl]⟩;rcases Qg.mp hf with z|z
     .exact⟨i,Z,z⟩
     .exact hi f z
  obtain⟨fs,t,hi,hl⟩:=tups as its hk rv;refine XV (T:= .type "int") t (by lia) (λv hv=>?_) (by decide+kernel) O;obtain⟨i,t,rfl⟩:=hi v hv;exact PySem.W.Looks.of_pure rfl
 .obtain⟨a,ha,rfl⟩:=Q7.mp hx;obtain⟨b,hb,rfl⟩:=Q7.mp hy;cases rx;cases ry;obtain⟨i,j,m,ea,ka⟩:=hk a ha;obtain⟨i',j',m',eb,kb⟩:=hk b hb;have O:Q' (HT.lexLt (ky a) (ky b)) {s with heap:=h'}:=O;rw[ka,kb,HT.lexLt_cons,HT.lexLt_cons,HT.lexLt_cons,HT.lexLt_nil_nil]at O;obtain⟨o,a2,n,a0,e1,c1,d1⟩:=oX I ea k;obtain⟨u1,u2,u3,rfl,⟨Z,rfl⟩,⟨t2,rfl⟩,⟨t5,rfl⟩⟩:=qR a0;obtain⟨o',Y,n',U,e2,c2,d2⟩:=oX I eb k;obtain⟨w1,w2,w3,rfl,⟨t3,rfl⟩,⟨t4,rfl⟩,⟨t6,rfl⟩⟩:=qR U;refine KB e1 d1 e2 d2 (Zs (SeqAt.EqAt.int_int _ _ _ _ _ _ _ _ (ZE (λe=>Zx ?_) (λe=>ZF ?_))))
  .rw[if_pos (beq_iff_eq.mp e)]at O;refine Zs (SeqAt.EqAt.int_int _ _ _ _ _ _ _ _ (ZE (λe=>Zx ?_) (λe=>ZF ?_)))
   .rw[if_pos (beq_iff_eq.mp e)]at O;refine Zs (SeqAt.EqAt.int_int _ _ _ _ _ _ _ _ (ZE (λe=>Zx ?_) (λe=>ZF ?_)))
    .rw[if_pos (beq_iff_eq.mp e)]at O;exact K4 (by simpa using O)
    .rw[if_neg (beq_eq_false_iff_ne.mp e)]at O;exact Xj _ _ (lt_int O)
   .rw[if_neg (beq_eq_false_iff_ne.mp e)]at O;exact Xj _ _ (lt_int O)
  .rw[if_neg (beq_eq_false_iff_ne.mp e)]at O;exact oneLt_int O
 .obtain⟨bs,rfl,a1⟩:=ve pm;exact q l bs hl a1 (Qp.mp pw)
end
end L2
namespace L2
open PySem PySem.Spec PyProof.Rows
variable {X:Cx} {tg:Expr} {P:Program} {K:PySem.W.Frag} {te:TE} {w:World}
section
theorem HZ:bootBuiltins "all"=some (.builtin "all"):=by decide+kernel
section
theorem Eg {bs:List Bool}:∀{us:List Value},Vals (bs.map V.bl) us->LSm.BoolsAre us bs:=by
 induction bs with
 |nil=>intro us r;rw[XE]at r;cases r;exact .nil
 |cons b bs z=>
  intro us r;rw[Qo]at r;cases r with
  |cons r1 I=>
   cases r1;exact .cons b (z I)
theorem Cv (hc:X.calm=true):dw X (.builtin "all") (λxs H Q=>∃(p:Addr) (bs:List Bool),xs=[.ref p]/\SqL X.K H p (bs.map V.bl)/\Q (.bl (bs.all id)) H):=by
 intro pins s σ H xs us Q I r h;obtain⟨p,bs,rfl,hq,q⟩:=h;obtain⟨u,rfl,U⟩:=iS r;cases U;obtain⟨its,rv,pl,hz⟩:=I.list hq;have hb:=Eg rv;have hl:=pl.isList;have z:p<s.heap.objs.size:=by obtain⟨_,e,_⟩:=hl;exact Heap.lt_size e
 refine call_all_walk (wpAny_pyIter_list hl ?_);refine⟨s.heap.objs.size,[s.heap.objs.size,p],[s.heap.objs.size],its.toArray.size,_,_,λi=>(bs[i]?).getD true,rfl,Walks.list (A:=X.A.in1) (I.ok.hd hc) _ p (Qx z) its.toArray,
  ⟨⟨_,Heap.get?_push_size _ rfl,rfl,rfl⟩,hl.push _⟩,λi v s' Q' Z Y O=>?_,λh' tk hk=>?_⟩
 .obtain⟨b,e,rfl⟩:=hb.get i v (by simpa using Y);simp only[e,XW]at O;exact wpAny_truthy_bool O
 .have e:((List.range its.toArray.size).all λi=>(bs[i]?).getD true)=bs.all id:=by
   rw[Qh,hb.length];exact LSm.range_all bs
  rw[e];exact⟨.bl _,H,I.kept (t':=tk) (LSm.kept_iter hk),rfl,q⟩
end
end
section
section
theorem uL:dw X (.type "int") (λxs H Q=>∃z n,xs=[.str z]/\PySem.intText? z=some n/\z.length<=640/\Q (.int n) H):=by
 intro pins s σ H xs us Q I r h;obtain⟨z,n,rfl,O,hl,q⟩:=h;obtain⟨u,rfl,t,rfl⟩:=iS r;exact PySem.W.KIN.call_text O hl ⟨.int _,H,I.tok _,⟨_,rfl⟩,q⟩
inductive rSlS (x:V) (lo hi:Option Int) (H:Hp) (Q:VK):Prop
 |mk (z:_) (_:x= .str z) (_:z.length<=sizeLine) (_:Q (.str (Txt.slice z lo hi)) H)
theorem G4:SlR X rSlS:=by
 intro pins s σ H x v vl vu lo hi sl Q I Z O pl U h;obtain⟨z,rfl,hz,q⟩:=h;obtain⟨t,rfl⟩:=Z;refine⟨"str",_,PyProof.Rows.slot_str_getitem.lookup,typeIs_str _ _ _,?_⟩;have fin:∀t' k,EP X pins σ Q (.str (Txt.slice z lo hi) t') {s with toks:=k}:=λt' k=>⟨.str _,H,I.kept (t':=k) (λb o e=>e),⟨_,rfl⟩,q⟩;cases pl with
 |none=>
  cases U with
  |none=>exact wpAny_getItem_str_slice (l:=none) (u:=none) (st:=none) O rfl (post_val_or_str ⟨QL (Txt.slice_le z _ _) hz,λt' k=>fin t' k⟩)
  |int j u=>exact wpAny_getItem_str_slice (l:=none) (u:=some (j,u)) (st:=none) O rfl (post_val_or_str ⟨QL (Txt.slice_le z _ _) hz,λt' k=>fin t' k⟩)
 |int i Y=>
  cases U with
  |none=>exact wpAny_getItem_str_slice (l:=some (i,Y)) (u:=none) (st:=none) O rfl (post_val_or_str ⟨QL (Txt.slice_le z _ _) hz,λt' k=>fin t' k⟩)
  |int j u=>exact wpAny_getItem_str_slice (l:=some (i,Y)) (u:=some (j,u)) (st:=none) O rfl (post_val_or_str ⟨QL (Txt.slice_le z _ _) hz,λt' k=>fin t' k⟩)
end
def Itx (z:Str):It:=⟨λi _=>i<z.cps.size,λi H x H'=>H'=H/\∃c,z.cps[i]?=some c/\x= .str ⟨#[c]⟩,λi _=>z.cps.size<=i⟩
theorem zq (it:Addr) (z:Str) (t:Tok):xH P w K tg (Itx z) [it] it (λi h=>h.IsStrIter it "str_ascii_iterator" z t i) where
 mem:=by simp
 obj:=λi h st b hb=>by
  have e:b=it:=by simpa using hb
  subst e;obtain⟨o,e,c,d⟩:=st;exact⟨o,e,λv z=>by rw[d]at z;cases z⟩
 keep:=λi h h' st k=>by
  obtain⟨o,e,r⟩:=st;exact⟨o,k it (by simp) _ e,r⟩
 item:=by
  intro X U hw hK hc i pins s σ H E I hf st O;subst U hw hK;obtain⟨Y,Z,f2,f3,f4,f5⟩:=hf it (by simp);have O:i<z.cps.size:=O;refine wpAny_pyNext_ascii_item st (c:=z.cps[i]) (by simp[O]) λh' st' a0=>?_;have I1:Inv X pins σ H {s with heap:=h',toks:=s.toks+1}:=I.turned (λb o hb e=>a0.extBut b o hb e) Y Z f3 f4 f5;obtain⟨o,e,c,d⟩:=id st';exact⟨_,rfl,tq (s:={s with heap:=h',toks:=s.toks+1}) e c d (by decide) ⟨.str ⟨#[z.cps[i]]⟩,H,I1,⟨_,rfl⟩,⟨rfl,_,by simp[O],rfl⟩,st',λb hb=>(hf b hb).1⟩⟩
 done:=by
  intro X U hw hK hc i pins s σ H E I hf st O;subst U hw hK;obtain⟨Y,Z,f2,f3,f4,f5⟩:=hf it (by simp);have O:z.cps.size<=i:=O;exact wpAny_pyNext_ascii_end (I.ok.hd hc) st (by simp[O]) λh' eb=>⟨rfl,I.turned (t':=s.toks) (λb o hb e=>eb b o hb e) Y Z f3 f4 f5⟩
 self:=λ_ _ _ _ _ st h=>wpAny_pyIter_striter_ascii st h
theorem By (it:Addr) (z:Str) (t:Tok):xH P w K tg (Itx z) [it] it (λi h=>h.IsStrIter it "str_iterator" z t i) where
 mem:=by simp
 obj:=λi h st b hb=>by
  have e:b=it:=by simpa using hb
  subst e;obtain⟨o,e,c,d⟩:=st;exact⟨o,e,λv z=>by rw[d]at z;cases z⟩
 keep:=λi h h' st k=>by
  obtain⟨o,e,r⟩:=st;exact⟨o,k it (by simp) _ e,r⟩
 item:=by
  intro X U hw hK hc i pins s σ H E I hf st O;subst U hw hK;obtain⟨Y,Z,f2,f3,f4,f5⟩:=hf it (by simp);have O:i<z.cps.size:=O;refine wpAny_pyNext_wide_item st (c:=z.cps[i]) (by simp[O]) λh' st' a0=>?_;have I1:Inv X pins σ H {s with heap:=h',toks:=s.toks+1}:=I.turned (λb o hb e=>a0.extBut b o hb e) Y Z f3 f4 f5;obtain⟨o,e,c,d⟩:=id st';exact⟨_,rfl,tq (s:={s with heap:=h',toks:=s.toks+1}) e c d (by decide) ⟨.str ⟨#[z.cps[i]]⟩,H,I1,⟨_,rfl⟩,⟨rfl,_,by simp[O],rfl⟩,st',λb hb=>(hf b hb).1⟩⟩
 done:=by
  intro X U hw hK hc i pins s σ H E I hf st O;subst U hw hK;obtain⟨Y,Z,f2,f3,f4,f5⟩:=hf it (by simp);have O:z.cps.size<=i:=O;exact wpAny_pyNext_wide_end (I.ok.hd hc) st (by simp[O]) λh' eb=>⟨rfl,I.turned (t':=s.toks) (λb o hb e=>eb b o hb e) Y Z f3 f4 f5⟩
 self:=λ_ _ _ _ _ st h=>wpAny_pyIter_striter_wide st h
section
def iStr (te:TE):TI:=λσ H R=>te σ H λx H1=>∃z,x= .str z/\R (Itx z) H1
theorem Hg {l:Expr} (hl:PE X l te):PI X tg l (iStr te):=by
 intro pins s σ H R I h;refine thn (hl pins s σ H _ I h) λv s1 U=>?_;obtain⟨x,H1,O,r1,Y⟩:=U;obtain⟨z,e,q⟩:=Y;subst e;obtain⟨t,rfl⟩:=r1;cases ha:z.cps.all (· <128)
 .refine wpAny_pyIter_wide ha ⟨s1.heap.objs.size,[s1.heap.objs.size],_,_,H1,rfl,O.kept (t':=s1.toks) λb o e=>Heap.get?_push_of_some _ e,By _ z t,⟨_,Heap.get?_push_size _ rfl,rfl,rfl⟩,λb hb=>?_,q⟩;have e:b=s1.heap.objs.size:=by simpa using hb
  subst e;exact O.fpOk (Q4 _) (O.hok.fresh (Q4 _))
 .refine wpAny_pyIter_ascii ha ⟨s1.heap.objs.size,[s1.heap.objs.size],_,_,H1,rfl,O.kept (t':=s1.toks) λb o e=>Heap.get?_push_of_some _ e,zq _ z t,⟨_,Heap.get?_push_size _ rfl,rfl,rfl⟩,λb hb=>?_,q⟩;have e:b=s1.heap.objs.size:=by simpa using hb
  subst e;exact O.fpOk (Q4 _) (O.hok.fresh (Q4 _))
end
end
section
section
inductive Fm (x:V) (vs:List V) (H:Hp) (Q:VK):Prop
 |mk (a d:_) (_:x= .str a) (_:vs=[.str d]) (_:Q (.bl (Txt.startswith a d)) H)
theorem vn:MtR X "str.startswith" Fm:=by
 intro pins s σ H x vs v us Q I z rv h;obtain⟨a,d,rfl,rfl,q⟩:=h;obtain⟨t,rfl⟩:=z;obtain⟨u,rfl,O⟩:=rv.one;obtain⟨t',rfl⟩:=O;exact SC.startswith ⟨.bl _,H,I,rfl,q⟩
end
theorem Ee {z:Str} {D:Addr} {σ:St} {H1:Hp} {Fin:Hp->Prop} (Pv:Nat->List V->Hp->Prop) (O:Pv 0 [] (upd H1 D (.lst [])))
  (U:∀i c ys H2,z.cps[i]?=some c->Pv i ys H2->H2 D=some (.lst ys)->te (some (.str ⟨#[c]⟩)::σ) H2 (CNext z.cps.size i ys D Pv))
  (hd:∀ys H2,Pv z.cps.size ys H2->H2 D=some (.lst ys)->Fin H2):
  ∃W:Nat->Nat->List V->Hp->Prop,(∃m,W 0 m [] (upd H1 D (.lst [])))/\∀i m ys H2,W i m ys H2->H2 D=some (.lst ys)->
   ((Itx z).stop i H2/\Fin H2)\/((Itx z).go i H2/\∀x H3,(Itx z).yld i H2 x H3->te (some x::σ) H3 λy H4=>H4 D=some (.lst ys)/\ys.length<sizeLine/\∃m',m'<m/\W (i+1) m' (ys++ [y]) (upd H4 D (.lst (ys++ [y])))):=by
 refine⟨λi m ys H=>m=z.cps.size-i/\i<=z.cps.size/\Pv i ys H,⟨z.cps.size,by simp,Qi _,O⟩,?_⟩;rintro i m ys H ⟨rfl,hi,p⟩ I;by_cases lt:i<z.cps.size
 .refine .inr ⟨lt,λx H' y=>?_⟩;obtain⟨e,c,Y,y⟩:=y;subst e y;exact U i c ys _ Y p I
 .have e:i=z.cps.size:=by lia
  subst e;exact .inl ⟨Q4 _,hd ys H p I⟩
abbrev sg (z:Str):List Nat:=z.cps.toList
theorem cM (z:Str):z.length=(sg z).length:=by show z.cps.size=_;simp[sg]
theorem oZ {a b:Str} (h:sg a=sg b):a=b:=by cases a;cases b;congr 1;exact Array.toList_inj.mp h
theorem qT (z:Str) (c:Nat):Txt.startswith z ⟨#[c]⟩=decide ((sg z).head?=some c):=by
 have h:=StrLaws.subAt_one z c 0;unfold Txt.startswith
 rw[X2,Qt,decide_eq_true_eq,h,decide_eq_true_eq,List.head?_eq_getElem?]
theorem zB (z:Str) (lo hi:Option Int) (is:List Nat) (e:Builtin.Str.strSliceIndices lo hi 1 z.length=is) (h:is.filterMap (z.cps[·]?)=is.filterMap ((sg z)[·]?)):sg (Txt.slice z lo hi)=if is.length=z.length then sg z else is.filterMap ((sg z)[·]?):=by
 unfold Txt.slice;rw[e];by_cases c:is.length=z.length
 .rw[if_pos c,if_pos (by simp[c])]
 .rw[if_neg c,if_neg (by simp[c]),sg];exact h
theorem x5 (z:Str):sg (Txt.slice z (some 1) none)=(sg z).drop 1:=by
 have L:=cM z;have I:∀is:List Nat,is.filterMap (z.cps[·]?)=is.filterMap ((sg z)[·]?):=λis=>by congr 1;funext i;simp[sg]
 rcases QV z.length with q|q
 .have O:sg z=[]:=Zt (by lia);have le:=Txt.slice_le z (some 1) none;have:(sg (Txt.slice z (some 1) none))=[]:=Zt (by rw[<-cM];lia);rw[this,O];rfl
 .have e:Builtin.Str.strSliceIndices (some 1) none 1 z.length=Builtin.Str.strSliceIndices (some ((1:Nat):Int)) (some (z.length:Int)) 1 z.length:=by
   unfold Builtin.Str.strSliceIndices;simp;rw[if_neg (show ¬((z.length:Nat):Int)<0 by lia)];congr 1;lia
  rw[zB z _ _ _ (e.trans (StrLaws.strSliceIndices_plain (a:=1) (b:=z.length) (by lia) (Q4 _))) (I _)];rw[if_neg (by simp;lia)];rw[StrLaws.picks (sg z) (z.length-1) 1 (by lia)];exact Qr (by rw[QD];lia)
end
end L2
namespace L2
open PySem PySem.Spec PyProof.Rows PySem.Builtin PySem.Builtin.Str
variable {E Q:Value->Shared->Prop}
section
variable {X:Cx}
theorem BE (l:List (Str×Tok)):Vals ((l.map (·.1)).map V.str) (strValues l):=by
 induction l with
 |nil=>exact .nil
 |cons a r z=>exact .cons ⟨a.2,rfl⟩ z
theorem split_at {prog:Program} {w:World} {A:Around} {s:Shared} {x y:Str} {t u:Tok} (hy:(y.length==0)=false)
  (hq:∀(l:List (Str×Tok)) (k:Nat),l.map (·.1)=Txt.split x y->Q (.ref s.heap.objs.size) {s with heap:=s.heap.push {cls:= .type "list",data:= .seq (strValues l).toArray},toks:=k})
  (hsz:x.length<=sizeLine) (hsz2:(Txt.split x y).length<=sizeLine):
  wpAny (model prog w) A (call (.builtin "str.split") [.str x t,.str y u]) Q E s:=by
 cases h1:(decide (x.length<y.length)||decide (strKind x<strKind y))
 .cases hf:(occurrences x y 0 x.length (x.length+1)).isEmpty
  .have es:Txt.split x y=partsBetween x (occurrences x y 0 x.length (x.length+1)) y.length:=(if_neg (ne_true_of_eq_false h1)).trans (if_neg (ne_true_of_eq_false hf));refine call_meets F.slot_str_split (typeIs_str _ _ _) F.entry_str_split (F.args_str_split_2 _ _) (meets_str_split_sep x y t u h1 hy hf hsz (es▸hsz2)) ?_;show wants Q E _ {s with toks:=_,heap:=s.heap.push {cls:= .type "list",data:= .seq (strsFrom s.toks (partsBetween x (occurrences x y 0 x.length (x.length+1)) y.length)).toArray}};rw[strsFrom_eq];exact hq (numbered s.toks _) _ ((numbered_texts _ _).trans es.symm)
  .exact call_meets F.slot_str_split (typeIs_str _ _ _) F.entry_str_split (F.args_str_split_2 _ _) (meets_str_split_not_found x y t u h1 hy hf)
    (hq [(x,t)] s.toks ((if_neg (ne_true_of_eq_false h1)).trans (if_pos hf)).symm)
 .exact call_meets F.slot_str_split (typeIs_str _ _ _) F.entry_str_split (F.args_str_split_2 _ _) (meets_str_split_cannot_occur x y t u h1)
   (hq [(x,t)] s.toks (if_pos h1).symm)
inductive Hc (x:V) (vs:List V) (H:Hp) (Q:VK):Prop
 |mk (a d:_) (_:x= .str a) (_:vs=[.str d]) (_:1<=d.length) (_:a.length<=100000) (_:∀l,H l=none->Q (.ref l) (upd H l (.lst ((Txt.split a d).map V.str))))
theorem yr:MtR X "str.split" Hc:=by
 intro pins s σ H x vs v us Q I O rv h;obtain⟨a,d,rfl,rfl,U,Z,q⟩:=h;obtain⟨t,rfl⟩:=O;obtain⟨u,rfl,Y⟩:=rv.one;obtain⟨t',rfl⟩:=Y;have big:100001<=sizeLine:=by decide
 have w:=split_weight a d U;have hn:(Txt.split a d).length<=100001:=by lia
 refine split_at (by simp;lia) (λl k hl=>?_) (by lia) (by lia);have z:=BE l;rw[hl]at z;refine⟨.ref s.heap.objs.size,_,I.laid (t':=k) (o:= .lst ((Txt.split a d).map V.str)) (λb ob q=>Heap.get?_push_of_some _ q) (Q4 _) ?_,rfl,q _ (I.hok.fresh (Q4 _))⟩;exact⟨by rw[Q0];lia,_,0,z,Heap.get?_push_size _ rfl⟩
end
def jn (c:Nat):List Str->List Nat
 | []=> []
 | [a]=>sg a
 |a::b::r=>sg a++c::jn c (b::r)
theorem qD (c:Nat):∀l:List Str,sg (Str.join ⟨#[c]⟩ l)=jn c l
 | []=>rfl
 | [a]=>rfl
 |a::b::r=>by
  show sg (a++⟨#[c]⟩++Str.join ⟨#[c]⟩ (b::r))=sg a++c::jn c (b::r);rw[<-qD c (b::r)];simp[sg,Str.cps_append]
theorem yI {c:Nat}:∀{a b r q:List Nat},c∉a->c∉b->a++c::r=b++c::q->a=b/\r=q
 | [],[],_,_,_,_,e=>by simp at e;exact⟨rfl,e⟩
 | [],x::b,_,_,_,h2,e=>by
  simp at e;exact absurd (by rw[e.1];exact Q6) h2
 |x::a,[],_,_,h1,_,e=>by
  simp at e;exact absurd (by rw[<-e.1];exact Q6) h1
 |x::a,y::b,r,q,h1,h2,e=>by
  simp only[Xa,List.cons.injEq]at e;obtain⟨I,e2⟩:=yI (λz=>h1 (Q8 _ z)) (λz=>h2 (Q8 _ z)) e.2;exact⟨by rw[e.1,I],e2⟩
theorem DX {c:Nat}:∀{l m:List Str},l≠[]->m≠[]->(∀a∈l,c∉sg a)->(∀a∈m,c∉sg a)->jn c l=jn c m->l=m
 | [],_,h,_,_,_,_=>absurd rfl h
 |_::_,[],_,h,_,_,_=>absurd rfl h
 | [a],[b],_,_,_,_,e=>by rw[oZ (show sg a=sg b from e)]
 | [a],b::b'::m,_,_,h1,_,e=>by
  refine absurd ?_ (h1 a Q6);rw[show sg a=sg b++c::jn c (b'::m) from e];simp
 |a::z::l,[b],_,_,_,h2,e=>by
  refine absurd ?_ (h2 b Q6);rw[<-show sg a++c::jn c (z::l)=sg b from e];simp
 |a::z::l,b::b'::m,_,_,h1,h2,e=>by
  obtain⟨I,e2⟩:=yI (h1 a Q6) (h2 b Q6) (show sg a++c::jn c (z::l)=sg b++c::jn c (b'::m) from e);rw[oZ I,DX (by simp) (by simp) (λx hx=>h1 x (Q8 _ hx)) (λx hx=>h2 x (Q8 _ hx)) e2]
theorem w6 (z:Str) (l:List Str):Txt.join z l=Str.join z l:=StrLaws.glued_eq_join z l
theorem qU {c:Nat} {l:List Str} (I:l≠[]) (h:∀a∈l,c∉sg a):Txt.split (Txt.join ⟨#[c]⟩ l) ⟨#[c]⟩=l:=by
 have e:=StrLaws.join_split (Txt.join ⟨#[c]⟩ l) ⟨#[c]⟩;have f:=StrLaws.split_free (Txt.join ⟨#[c]⟩ l) c;rw[w6]at e f⊢;have e:=congrArg sg e;rw[qD,qD]at e;refine DX (λz=>?_) I f h e;unfold Txt.split at z;split at z
 .cases z
 .split at z
  .cases z
  .rw[StrLaws.partsBetween_eq]at z;obtain⟨p,r,O⟩:=StrLaws.partsFrom_ne (Str.join ⟨#[c]⟩ l) (⟨#[c]⟩:Str).length 0 (occurrences (Str.join ⟨#[c]⟩ l) ⟨#[c]⟩ 0 (Str.join ⟨#[c]⟩ l).length ((Str.join ⟨#[c]⟩ l).length+1));rw[O]at z;cases z
end L2
namespace L2
open PySem PySem.Spec PyProof.Rows
section
section
variable {X:Cx}
def tFkv (c:Str) (ta tb:TE):TE:=λσ H Q=>ta σ H λx H1=>∃i:Int,x= .int i/\i.natAbs.log2<1920/\(Str.ofString (toString i)++c).length<=sizeLine/\tb σ H1 λy H2=>∃k:Int,y= .int k/\k.natAbs.log2<1920/\(Str.ofString (toString i)++c++Str.ofString (toString k)).length<=sizeLine/\Q (.str (Str.ofString (toString i)++c++Str.ofString (toString k))) H2
theorem jT (a b:Str):(a++b).length=a.length+b.length:=by
 show(a.cps++b.cps).size=a.cps.size+b.cps.size;exact Array.size_append
theorem wc (a:Str):Str.empty++a=a:=by
 show Str.mk (#[]++a.cps)=a;rw[Array.empty_append]
theorem Hl {a b:Expr} {ta tb:TE} {c:Str} {j:Nat} {p1 p2 O pos:Pos} (ha:PE X a ta) (hb:PE X b tb):PE X (.JoinedStr [.FormattedValue a (-1) none p1,.Constant (.str c) j p2,.FormattedValue b (-1) none O] pos) (tFkv c ta tb):=by
 intro pins s σ H Q I h;refine JoinedStr_many (joinParts_cons (FormattedValue_plain (thn (ha pins s σ H _ I h) λv s1 h1=>?_)));obtain⟨x,H1,U,r1,i,rfl,hz,l1,Y⟩:=h1;obtain⟨t,rfl⟩:=r1;refine formatField_int_small hz ⟨?_,joinParts_cons (Calls.Constant_str ⟨?_,joinParts_consE (joinParts_cons (FormattedValue_plain (thn (hb pins _ σ H1 _ (((U.tok _).tok _).tok _) Y) λv s2 h2=>?_)))⟩)⟩
 .rw[wc];rw[jT]at l1;lia
 .rw[wc];exact l1
 obtain⟨y,H2,Z,r2,k,rfl,hk,z,q2⟩:=h2;obtain⟨u,rfl⟩:=r2;rw[wc];refine formatField_int_small hk ⟨z,?_⟩;exact joinParts_nilE (joinParts_nil ⟨.str _,H2,((Z.tok _).tok _).tok _,⟨_,rfl⟩,q2⟩ z)
end
end
section
end
end L2
namespace SW
open PySem L2
set_option maxHeartbeats 0
variable {C a b c dx p q r tb:Addr} {F F' G:Addr->Prop} {t:Adr} {o:HO} {H H' H2:Hp} {k m s sz:Int} {ps:List (Int×Int)} {L kv' kvs:List (Int×V)} {ls:List (List Int)} {A:List Addr} {ks l x y:List Int} {es:List Mk1} {pa':List Pk} {ts:List Tp} {xs:List V} {bm:List Value} {i j n:Nat} {E:Nat->Prop} {K:PySem.W.Frag} {R:Rw} {st:SSt} {d:SlD} {σ:St} {f:Str} {α β:Type} {v:V}
structure Txt (K:PySem.W.Frag) (mg:Str->Option Value) (t:Adr):Prop where
 wQ:mg "WalkError"=some (.ref t.bH)
 JR:mg "NoToken"=some (.ref t.Cw)
 kX:mg "NoText"=some (.ref t.gB)
 JS:mg "NoKey"=some (.ref t.Bg)
 JQ:mg "Twice"=some (.ref t.Bf)
 Ip:mg "TooOld"=some (.ref t.i9)
 Gy:mg "NoMoment"=some (.ref t.eI)
 Ja:mg "Token"=some (.ref t.fJ)
 DB:mg "Up"=some (.ref t.i8)
 JT:mg "Down"=some (.ref t.m4)
 Cb:mg "Leaves"=some (.ref t.bn)
 Jb:mg "Makes"=some (.ref t.cZ)
 DD:mg "Slots"=some (.ref t.aU)
 yA:mg "House"=some (.ref t.az)
 Kt:Fun K "__init__" "NoKey.__init__" lG t.EQ t.lP
 Km:Binds K t.lP ["self","key"] []
 Ks:Fun K "__init__" "Twice.__init__" lF t.EO t.lO
 Kl:Binds K t.lO ["self","key"] []
 Er:Fun K "__init__" "TooOld.__init__" fV t.gE t.gw
 Ej:Binds K t.gw ["self","moment"] []
 CK:Fun K "__init__" "NoMoment.__init__" dZ t.eK t.eF
 CB:Binds K t.eF ["self","moment"] []
 yB:mg "turned"=some (.ref t.y3)
 tW:Fun K "turned" "turned" rV t.y3 t.tI
 yY:Binds K t.tI ["number"] []
 Ce:mg "mark_of"=some (.ref t.vW)
 vZ:Fun K "mark_of" "mark_of" o9 t.vW t.pP
 Cz:Binds K t.pP ["key"] []
 Hu:mg "place_of"=some (.ref t.tR)
 Aj:Fun K "place_of" "place_of" mG t.tR t.mV
 Ic:Binds K t.mV ["key"] []
 vq:mg "slot_of"=some (.ref t.vT)
 pT:Fun K "slot_of" "slot_of" o3 t.vT t.pL
 vS:Binds K t.pL ["key","size"] []
 FG:mg "stretch_of"=some (.ref t.oB)
 xI:Fun K "stretch_of" "stretch_of" jh t.oB t.jA
 FY:Binds K t.jA ["slot","size"] []
 Cd:mg "slot_at"=some (.ref t.vU)
 vY:Fun K "slot_at" "slot_at" o7 t.vU t.pN
 Cy:Binds K t.pN ["place","size"] []
 Hv:mg "is_whole"=some (.ref t.tS)
 Ak:Fun K "is_whole" "is_whole" mH t.tS t.mW
 Ie:Binds K t.mW ["thing"] []
 Cf:mg "is_from"=some (.ref t.vX)
 v8:Fun K "is_from" "is_from" pc t.vX t.pQ
 CA:Binds K t.pQ ["thing","low"] []
 JV:mg "word_of"=some (.ref t.CF)
 Kr:Fun K "word_of" "word_of" u9 t.CF t.vJ
 Kk:Binds K t.vJ ["bound"] []
 uU:Fun K "__init__" "Token.__init__" g8 t.iR t.iz
 EG:Binds K t.iz ["self","kind","at","end"] []
 Io:FunD K "__init__" "Up.__init__" mJ t.tU t.gv
 Ih:Binds K t.gv ["self","at","end"] []
 Kp:xK K t.gv ["self","at","end"] [.non]
 yZ:xK K t.gv ["self","at","end"] [(.int (0)),.non]
 GP:Fun K "holds" "Up.holds" jZ t.p9 t.kF
 GK:Binds K t.kF ["self","key"] []
 DM:mg "keys_of_page"=some (.ref t.kK)
 tY:Fun K "keys_of_page" "keys_of_page" dz t.kK t.gu
 Ei:Binds K t.gu ["leaves","token","many"] []
 GA:mg "keys_near"=some (.ref t.p5)
 y6:Fun K "keys_near" "keys_near" jX t.p5 t.kB
 GH:Binds K t.kB ["leaves","token","most"] []
 DL:mg "token_behind"=some (.ref t.kJ)
 tX:Fun K "token_behind" "token_behind" fS t.kJ t.gs
 Eh:Binds K t.gs ["token","key"] []
 Et:Fun K "__init__" "Leaves.__init__" fX t.kM t.gy
 tP:Binds K t.gy ["self"] []
 E1:Fun K "add" "Leaves.add" eQ t.mf t.iJ
 uO:Binds K t.iJ ["self","key"] []
 Bv:Fun K "discard" "Leaves.discard" dE t.gY t.dS
 Bl:Binds K t.dS ["self","key"] []
 EZ:Fun K "has" "Leaves.has" ie t.l5 t.iI
 uN:Binds K t.iI ["self","key"] []
 Ku:Fun K "many" "Leaves.many" j2 t.tV t.kG
 Kn:Binds K t.kG ["self"] []
 Bu:Fun K "from_on" "Leaves.from_on" cj t.gX t.dR
 gS:Binds K t.dR ["self","key","most"] []
 Bt:Fun K "leaf_of" "Leaves.leaf_of" dD t.gW t.dQ
 dW:Binds K t.dQ ["self","key"] []
 zd:Fun K "part_leaf" "Leaves.part_leaf" cN t.fu t.cR
 zc:Binds K t.cR ["self","at"] []
 za:Fun K "join_small" "Leaves.join_small" cv t.e7 t.cx
 kI:Binds K t.cx ["self","at"] []
 EY:Fun K "__init__" "Makes.__init__" hZ t.l4 t.iH
 EM:Binds K t.iH ["self"] []
 EX:Fun K "note" "Makes.note" hX t.lZ t.iG
 EL:Binds K t.iG ["self","moment","value"] []
 Bs:Fun K "all_told" "Makes.all_told" dC t.gV t.dP
 Bk:Binds K t.dP ["self"] []
 Br:Fun K "value_at" "Makes.value_at" dB t.gU t.dO
 Bj:Binds K t.dO ["self","moment"] []
 pX:mg "empty_row"=some (.ref t.p6)
 kP:Fun K "empty_row" "empty_row" gK t.p6 t.kC
 p4:Binds K t.kC ["size"] []
 EV:Fun K "__init__" "Slots.__init__" hU t.lX t.iE
 uM:Binds K t.iE ["self"] []
 Gb:Fun K "put" "Slots.put" jp t.oJ t.jG
 xA:Binds K t.jG ["self","key","value"] []
 EW:Fun K "drop" "Slots.drop" hV t.lY t.iF
 EK:Binds K t.iF ["self","key"] []
 Gd:Fun K "get" "Slots.get" jr t.oM t.jI
 FZ:Binds K t.jI ["self","key"] []
 Gc:Fun K "has" "Slots.has" jq t.oK t.jH
 xB:Binds K t.jH ["self","key"] []
 EU:Fun K "many" "Slots.many" hJ t.lW t.iD
 EJ:Binds K t.iD ["self"] []
 ET:Fun K "rows" "Slots.rows" eP t.lV t.iC
 iQ:Binds K t.iC ["self"] []
 Es:Fun K "moved" "Slots.moved" fW t.kL t.gx
 tO:Binds K t.gx ["self"] []
 ES:Fun K "span" "Slots.span" cV t.lU t.iB
 EI:Binds K t.iB ["self","low","high"] []
 ER:Fun K "stop" "Slots.stop" hI t.lT t.iA
 EH:Binds K t.iA ["self","place"] []
 CJ:Fun K "cell_of" "Slots.cell_of" dY t.jd t.eE
 eJ:Binds K t.eE ["self","key"] []
 Bq:Fun K "lying_at" "Slots.lying_at" dA t.gT t.dN
 Bi:Binds K t.dN ["self","place"] []
 Am:Fun K "move_slot" "Slots.move_slot" c6 t.gF t.da
 m6:Binds K t.da ["self"] []
 An:Fun K "begin_row" "Slots.begin_row" c7 t.gG t.de
 m7:Binds K t.de ["self"] []
 E3:Fun K "__init__" "House.__init__" ii t.mi t.iM
 uP:Binds K t.iM ["self"] []
 Gf:Fun K "put" "House.put" jt t.oO t.jK
 oA:Binds K t.jK ["self","key","value"] []
 E5:Fun K "drop" "House.drop" ik t.mn t.iO
 uQ:Binds K t.iO ["self","key"] []
 Gg:Fun K "get" "House.get" ju t.oP t.jL
 xC:Binds K t.jL ["self","key"] []
 E2:Fun K "many" "House.many" ig t.mh t.iK
 lQ:Binds K t.iK ["self"] []
 Ev:FunD K "diary" "House.diary" fZ t.kO t.dU
 Ko:Binds K t.dU ["self","low"] []
 qy:xK K t.dU ["self","low"] [(.int (0))]
 Eu:Fun K "makes" "House.makes" fY t.kN t.gA
 Ek:Binds K t.gA ["self","key"] []
 E4:Fun K "held" "House.held" ij t.mj t.iN
 EN:Binds K t.iN ["self"] []
 Ge:Fun K "was" "House.was" js t.oN t.jJ
 oz:Binds K t.jJ ["self","key","moment"] []
 CL:FunD K "page_at" "House.page_at" cz t.je t.cH
 CC:Binds K t.cH ["self","moment","token","many"] []
 Kq:xK K t.cH ["self","moment","token","many"] [(.int (10))]
 E6:Fun K "done" "House.done" im t.mr t.iP
 uR:Binds K t.iP ["self","row","value"] []
 v9:Fun K "refuse_outside" "House.refuse_outside" bQ t.du t.bR
 jc:Binds K t.bR ["self","moment"] []
 zf:Fun K "value_then" "House.value_then" cO t.fv t.cS
 ft:Binds K t.cS ["self","key","moment"] []
 EE:mg "are_figures"=some (.ref t.lR)
 uT:Fun K "are_figures" "are_figures" eO t.lR t.iy
 EF:Binds K t.iy ["text"] []
 wU:mg "read_whole"=some (.ref t.oC)
 oQ:Fun K "read_whole" "read_whole" ji t.oC t.jB
 xv:Binds K t.jB ["text"] []
 Jc:mg "row_of"=some (.ref t.y4)
 Ep:Fun K "row_of" "row_of" rW t.y4 t.tJ
 Jp:Binds K t.tJ ["key","value"] []
 Iq:mg "rows_of"=some (.ref t.vV)
 CI:Fun K "rows_of" "rows_of" kQ t.vV t.pO
 Ir:Binds K t.pO ["house"] []
 AM:mg "shown"=some (.ref t.Bo)
 xJ:Fun K "shown" "shown" wy t.Bo t.xn
 Bh:Binds K t.xn ["house"] []
 wV:mg "read_house"=some (.ref t.oE)
 oR:Fun K "read_house" "read_house" jj t.oE t.jC
 xw:Binds K t.jC ["text"] []
 cG:mg "_law_drawn"=some (.ref t.oH)
 bY:Fun K "_law_drawn" "_law_drawn" jo t.oH t.jE
 cI:Binds K t.jE ["_law_cell","_law_k"] []
 Hw:mg "_law_key"=some (.ref t.tT)
 Al:Fun K "_law_key" "_law_key" mI t.tT t.mX
 Ig:Binds K t.mX ["_law_cell"] []
 wW:mg "_law_value"=some (.ref t.oG)
 oS:Fun K "_law_value" "_law_value" jk t.oG t.jD
 xy:Binds K t.jD ["_law_cell"] []
 GC:mg "_law_deed"=some (.ref t.p8)
 y9:Fun K "_law_deed" "_law_deed" jY t.p8 t.kE
 GJ:Binds K t.kE ["_law_house","_law_plain","_law_cell"] []
 GB:mg "_law_past"=some (.ref t.p7)
 y7:Fun K "_law_past" "_law_past" gL t.p7 t.kD
 GI:Binds K t.kD ["_law_house","_law_keys","_law_plain"] []
 wX:mg "_law_alike"=some (.ref t.oI)
 oU:Fun K "_law_alike" "_law_alike" fw t.oI t.jF
 xz:Binds K t.jF ["_law_house","_law_plain"] []
 Ju:mg "law"=some (.ref t.GL)
 Jq:Fun K "law" "law" At t.GL t.Be
 b_law:Binds K t.Be ["_law_script"] []
 JD:XCls K t.bH (([]:List Addr).map Value.ref++vBase)
 JF:XCls K t.Cw (([t.bH]:List Addr).map Value.ref++vBase)
 b5:XCls K t.gB (([t.bH]:List Addr).map Value.ref++vBase)
 Jy:XIs K t.gB
 jz:PySem.W.findIn K (.ref t.gB) "__init__"=some (some (.builtin "ValueError.__init__"))
 JL:NoAttr K t.Bg "key"
 JG:XCls K t.Bg (([t.bH]:List Addr).map Value.ref++vBase)
 JH:NoAttr K t.Bf "key"
 JE:XCls K t.Bf (([t.bH]:List Addr).map Value.ref++vBase)
 B6:NoAttr K t.i9 "moment"
 Bw:XCls K t.i9 (([t.bH]:List Addr).map Value.ref++vBase)
 Jv:XIs K t.i9
 HI:PySem.W.findIn K (.ref t.i9) "__init__"=some (some (.ref t.gE))
 HJ:PySem.W.isFn K (.ref t.gE)=true
 zV:NoAttr K t.eI "moment"
 xM:XCls K t.eI (([t.bH]:List Addr).map Value.ref++vBase)
 Jz:XIs K t.eI
 FJ:PySem.W.findIn K (.ref t.eI) "__init__"=some (some (.ref t.eK))
 FK:PySem.W.isFn K (.ref t.eK)=true
 JI:NoAttr K t.fJ "kind"
 JK:NoAttr K t.fJ "at"
 JJ:NoAttr K t.fJ "end"
 Ki:Cls K t.fJ
 JP:Mk K t.fJ t.iR
 Jw:XIs K t.fJ
 JY:PySem.W.kitOne K (.ref t.fJ) (.ref t.az)=some false
 JX:PySem.W.kitOne K (.ref t.fJ) (.ref t.i8)=some false
 Ht:NoAttr K t.i8 "kind"
 yq:NoAttr K t.i8 "at"
 vm:NoAttr K t.i8 "end"
 tL:Cls K t.i8
 IY:Mk K t.i8 t.tU
 qN:XIs K t.i8
 JW:PySem.W.kitOne K (.ref t.i8) (.ref t.az)=some false
 DV:PySem.W.kitOne K (.ref t.i8) (.ref t.i8)=some true
 Gz:bS K t.i8 "holds" t.p9
 JM:NoAttr K t.m4 "kind"
 JO:NoAttr K t.m4 "at"
 JN:NoAttr K t.m4 "end"
 Kj:Cls K t.m4
 JC:XIs K t.m4
 Kh:PySem.W.kitOne K (.ref t.m4) (.ref t.az)=some false
 Kg:PySem.W.kitOne K (.ref t.m4) (.ref t.i8)=some false
 aB:NoAttr K t.bn "leaves"
 aI:Cls K t.bn
 Ca:Mk K t.bn t.kM
 JB:XIs K t.bn
 Ke:PySem.W.kitOne K (.ref t.bn) (.ref t.az)=some false
 Kd:PySem.W.kitOne K (.ref t.bn) (.ref t.i8)=some false
 uF:bS K t.bn "add" t.mf
 AL:bS K t.bn "discard" t.gY
 uE:bS K t.bn "has" t.l5
 JU:bS K t.bn "many" t.tV
 gQ:bS K t.bn "from_on" t.gX
 dJ:bS K t.bn "leaf_of" t.gW
 zb:bS K t.bn "part_leaf" t.fu
 ku:bS K t.bn "join_small" t.e7
 iu:NoAttr K t.cZ "made"
 i7:Cls K t.cZ
 IZ:Mk K t.cZ t.l4
 JA:XIs K t.cZ
 Kc:PySem.W.kitOne K (.ref t.cZ) (.ref t.az)=some false
 Kb:PySem.W.kitOne K (.ref t.cZ) (.ref t.i8)=some false
 EC:bS K t.cZ "note" t.lZ
 AK:bS K t.cZ "all_told" t.gV
 AJ:bS K t.cZ "value_at" t.gU
 aT:NoAttr K t.aU "table"
 bp:NoAttr K t.aU "shifted"
 bh:NoAttr K t.aU "kept"
 ax:Cls K t.aU
 Dz:Mk K t.aU t.lX
 Jx:XIs K t.aU
 Ka:PySem.W.kitOne K (.ref t.aU) (.ref t.az)=some false
 JZ:PySem.W.kitOne K (.ref t.aU) (.ref t.i8)=some false
 wR:bS K t.aU "put" t.oJ
 EB:bS K t.aU "drop" t.lY
 FF:bS K t.aU "get" t.oM
 wS:bS K t.aU "has" t.oK
 EA:bS K t.aU "many" t.lW
 iw:bS K t.aU "rows" t.lV
 sQ:bS K t.aU "moved" t.kL
 Ez:bS K t.aU "span" t.lU
 Ey:bS K t.aU "stop" t.lT
 eD:bS K t.aU "cell_of" t.jd
 AI:bS K t.aU "lying_at" t.gT
 mR:bS K t.aU "move_slot" t.gF
 mS:bS K t.aU "begin_row" t.gG
 dI:NoAttr K t.az "now"
 kr:NoAttr K t.az "floor"
 br:NoAttr K t.az "slots"
 cY:NoAttr K t.az "leaves"
 iX:NoAttr K t.az "written"
 Dx:NoAttr K t.az "marks"
 b6:NoAttr K t.az "past"
 pD:NoAttr K t.az "holders"
 au:Cls K t.az
 DA:Mk K t.az t.mi
 qO:XIs K t.az
 DW:PySem.W.kitOne K (.ref t.az) (.ref t.az)=some true
 Kf:PySem.W.kitOne K (.ref t.az) (.ref t.i8)=some false
 nY:bS K t.az "put" t.oO
 uG:bS K t.az "drop" t.mn
 wT:bS K t.az "get" t.oP
 lL:bS K t.az "many" t.mh
 DJ:bS K t.az "diary" t.kO
 DI:bS K t.az "makes" t.kN
 ED:bS K t.az "held" t.mj
 nW:bS K t.az "was" t.oN
 Cc:bS K t.az "page_at" t.je
 uH:bS K t.az "done" t.mr
 iY:bS K t.az "refuse_outside" t.du
 fo:bS K t.az "value_then" t.fv
 Ex:Bp K t.fJ "__init__" (.ref t.iR)
 nR:Bp K t.bH "__init__" (.builtin "ValueError.__init__")
 g_BITS:∃tk,mg "BITS"=some (.int 16 tk)
 g_PLACES:∃tk,mg "PLACES"=some (.int 65536 tk)
 g_MOST_IN_LEAF:∃tk,mg "MOST_IN_LEAF"=some (.int 8 tk)
 g_LEAST_IN_TWO:∃tk,mg "LEAST_IN_TWO"=some (.int 5 tk)
 g_LEAST_SIZE:∃tk,mg "LEAST_SIZE"=some (.int 4 tk)
 g_GREATEST_SIZE:∃tk,mg "GREATEST_SIZE"=some (.int 256 tk)
 g_FIGURES:∃tk,mg "FIGURES"=some (.str "0123456789" tk)
 g_MOST_FIGURES:∃tk,mg "MOST_FIGURES"=some (.int 60 tk)
 Jt:mg "all"=none
 Js:mg "bool"=none
 Iu:mg "int"=none
 bV:mg "isinstance"=none
 bx:mg "len"=none
 Jr:mg "list"=none
 Gi:mg "max"=none
 CM:mg "min"=none
 qz:mg "range"=none
 GQ:mg "reversed"=none
 fQ:mg "sorted"=none
 Ao:mg "str"=none
 z_sum:mg "sum"=none
theorem qi:ar ["self","moment"] ["self","moment"] (ak fV):=fsc
theorem nI:ar ["self","moment"] ["self","moment"] (ak dZ):=fsc
theorem sc_turned:ar ["number","told","rest","step"] ["number"] (ak rV):=fsc
theorem zF:ar ["key"] ["key"] (ak o9):=fsc
theorem x6:ar ["key"] ["key"] (ak mG):=fsc
theorem zD:ar ["key","size"] ["key","size"] (ak o3):=fsc
theorem sc_stretch_of:ar ["slot","size","low"] ["slot","size"] (ak jh):=fsc
theorem zE:ar ["place","size"] ["place","size"] (ak o7):=fsc
theorem x9:ar ["thing"] ["thing"] (ak mH):=fsc
theorem zG:ar ["thing","low"] ["thing","low"] (ak pc):=fsc
theorem rJ:ar ["self","kind","at","end"] ["self","kind","at","end"] (ak g8):=fsc
theorem ya:ar ["self","at","end"] ["self","at","end"] (ak mJ):=fsc
theorem wu:ar ["self","key"] ["self","key"] (ak jZ):=fsc
theorem sc_keys_of_page:ar ["leaves","token","many","most","held","page"] ["leaves","token","many"] (ak dz):=fsc
theorem wq:ar ["leaves","token","most"] ["leaves","token","most"] (ak jX):=fsc
theorem qh:ar ["token","key"] ["token","key"] (ak fS):=fsc
theorem qk:ar ["self"] ["self"] (ak fX):=fsc
theorem sc_Leaves__add:ar ["self","key","at","leaf"] ["self","key"] (ak eQ):=fsc
theorem sc_Leaves__discard:ar ["self","key","at"] ["self","key"] (ak dE):=fsc
theorem sc_Leaves__has:ar ["self","key","at"] ["self","key"] (ak ie):=fsc
theorem sc_Leaves__from_on:ar ["self","key","most","told","at"] ["self","key","most"] (ak cj):=fsc
theorem sc_Leaves__leaf_of:ar ["self","key","low","high","middle"] ["self","key"] (ak dD):=fsc
theorem sc_Leaves__part_leaf:ar ["self","at","leaf","middle"] ["self","at"] (ak cN):=fsc
theorem sc_Leaves__join_small:ar ["self","at","both"] ["self","at"] (ak cv):=fsc
theorem rP:ar ["self"] ["self"] (ak hZ):=fsc
theorem rO:ar ["self","moment","value"] ["self","moment","value"] (ak hX):=fsc
theorem mF:ar ["self"] ["self"] (ak dC):=fsc
theorem sc_Makes__value_at:ar ["self","moment","make"] ["self","moment"] (ak dB):=fsc
theorem wt:ar ["size"] ["size"] (ak gK):=fsc
theorem rM:ar ["self"] ["self"] (ak hU):=fsc
theorem sc_Slots__put:ar ["self","key","value","cell"] ["self","key","value"] (ak jp):=fsc
theorem rN:ar ["self","key"] ["self","key"] (ak hV):=fsc
theorem sc_Slots__get:ar ["self","key","cell"] ["self","key"] (ak jr):=fsc
theorem ur:ar ["self","key"] ["self","key"] (ak jq):=fsc
theorem rL:ar ["self"] ["self"] (ak hJ):=fsc
theorem rK:ar ["self"] ["self"] (ak eP):=fsc
theorem qj:ar ["self"] ["self"] (ak fW):=fsc
theorem sc_Slots__span:ar ["self","low","high","found","reached","end","inside"] ["self","low","high"] (ak cV):=fsc
theorem sc_Slots__stop:ar ["self","place","size"] ["self","place"] (ak hI):=fsc
theorem sc_Slots__cell_of:ar ["self","key","old","slot","new"] ["self","key"] (ak dY):=fsc
theorem sc_Slots__lying_at:ar ["self","place","size","found","row","slot","key","value"] ["self","place"] (ak dA):=fsc
theorem sc_Slots__move_slot:ar ["self","old","new","key","value"] ["self"] (ak c6):=fsc
theorem sc_Slots__begin_row:ar ["self","size"] ["self"] (ak c7):=fsc
theorem rR:ar ["self"] ["self"] (ak ii):=fsc
theorem uu:ar ["self","key","value"] ["self","key","value"] (ak jt):=fsc
theorem rT:ar ["self","key"] ["self","key"] (ak ik):=fsc
theorem uv:ar ["self","key"] ["self","key"] (ak ju):=fsc
theorem rQ:ar ["self"] ["self"] (ak ig):=fsc
theorem qm:ar ["self","low"] ["self","low"] (ak fZ):=fsc
theorem ql:ar ["self","key"] ["self","key"] (ak fY):=fsc
theorem rS:ar ["self"] ["self"] (ak ij):=fsc
theorem ut:ar ["self","key","moment"] ["self","key","moment"] (ak js):=fsc
theorem sc_House__page_at:ar ["self","moment","token","many","then","key","page"] ["self","moment","token","many"] (ak cz):=fsc
theorem sc_House__done:ar ["self","row","value","key"] ["self","row","value"] (ak im):=fsc
theorem g7:ar ["self","moment"] ["self","moment"] (ak bQ):=fsc
theorem jW:ar ["self","key","moment"] ["self","key","moment"] (ak cO):=fsc
theorem rH:ar ["text"] ["text"] (ak eO):=fsc
theorem sc_read_whole:ar ["text","below","figures"] ["text"] (ak ji):=fsc
theorem BJ:ar ["key","value"] ["key","value"] (ak rW):=fsc
theorem sc_rows_of:ar ["house","keys"] ["house"] (ak kQ):=fsc
theorem Db:ar ["house"] ["house"] (ak wy):=fsc
theorem sc_read_house:ar ["text","house","last","row","words","key"] ["text"] (ak jj):=fsc
theorem sc__law_drawn:ar ["_law_cell","_law_k","_law_number"] ["_law_cell","_law_k"] (ak jo):=fsc
theorem sc__law_key:ar ["_law_cell","_law_number","_law_way"] ["_law_cell"] (ak mI):=fsc
theorem uq:ar ["_law_cell"] ["_law_cell"] (ak jk):=fsc
theorem sc__law_deed:ar ["_law_house","_law_plain","_law_cell","_law_way","_law_key_here","_law_some","_law_many","_law_k"] ["_law_house","_law_plain","_law_cell"] (ak jY):=fsc
theorem sc__law_past:ar ["_law_house","_law_keys","_law_plain","_law_beside","_law_k","_law_value_here"] ["_law_house","_law_keys","_law_plain"] (ak gL):=fsc
theorem sc__law_alike:ar ["_law_house","_law_plain","_law_keys","_law_key_here"] ["_law_house","_law_plain"] (ak fw):=fsc
theorem sc_law:ar ["_law_script","_law_house","_law_plain","_law_cell","_law_text","_law_found","_law_other","_law_key_here"] ["_law_script"] (ak At):=fsc
def Fr (F F':Addr->Prop) (H H':Hp):Prop:=∀b o,¬F b->H b=some o->H' b=some o/\¬F' b
theorem Fr.refl:Fr F F H H:=λ_ _ n e=>⟨e,n⟩
theorem Fr.trans {z:Addr->Prop} {H'':Hp} (x:Fr F F' H H') (y:Fr F' z H' H''):Fr F z H H'':=λb o n e=>y b o (x b o n e).2 (x b o n e).1
theorem Fr.of_same (s:Same H H'):Fr F F H H':=λb o n e=>⟨s b o e,n⟩
def aN (kv:List (Int×V)):List (Key×V):=kv.map λp=>(Sum.inl p.1,p.2)
theorem liftK_val {kv:List (Int×V)}:aO (aN kv) (Sum.inl k:Key)=aO kv k:=by
 induction kv with
 |nil=>rfl
 |cons p r I=>
  show aO ((Sum.inl p.1,p.2)::aN r) (Sum.inl k:Key)=_;by_cases e:p.1=k
  .rw[bc e,bc (by show(Sum.inl p.1:Key)=_;rw[e])]
  .rw[ba e,ba (by show ¬(Sum.inl p.1:Key)=_;exact λz=>e (Sum.inl.inj z)),I]
theorem Ch {kv:List (Int×V)}:((aN kv).any λx=>decide (x.1=(Sum.inl k:Key)))=kv.any λx=>decide (x.1=k):=by
 rw[cr,cr,liftK_val]
theorem iZ {kv:List (Int×V)}:bj (aN kv) (Sum.inl k:Key) v=aN (bj kv k v):=by
 unfold bj;rw[Ch];by_cases c:(kv.any λx=>decide (x.1=k))=true
 .rw[if_pos c,if_pos c];unfold aN;rw[Qq,Qq];refine QM λp _=>?_;show(if(Sum.inl p.1:Key)=Sum.inl k then _ else _)=_;by_cases e:p.1=k
  .rw[if_pos (by rw[e])];simp[e]
  .rw[if_neg λz=>e (Sum.inl.inj z)];simp[e]
 .rw[if_neg c,if_neg c];unfold aN;rw[Q9];rfl
theorem sS {kv:List (Int×V)}:bE (aN kv) (Sum.inl k:Key)=aN (bE kv k):=by
 unfold bE aN;rw[List.filter_map];congr 1;refine List.filter_congr λp _=>?_;show decide ((Sum.inl p.1:Key)≠Sum.inl k)=_;by_cases e:p.1=k
 .rw[e];simp
 .have:¬(Sum.inl p.1:Key)=Sum.inl k:=λz=>e (Sum.inl.inj z);simp[e,this]
theorem b7 {kv:List (Int×V)}:(aN kv).length=kv.length:=Q0 _
theorem j6 {f:Str} {v:V}:∀fs:List (Str×V),(a9 f v fs).length<=fs.length+1
 | []=>Q4 _
 |(g,x)::r=>by
  rw[a9];split
  .rw[Qf,Qf];lia
  .have:=j6 (f:=f) (v:=v) r;rw[Qf,Qf];lia
section
variable {κ:Type} [DecidableEq κ] {kv:List (κ×V)} {k j:κ}
theorem dj:∀{kv:List (κ×V)},aO (bE kv k) j=if j=k then none else aO kv j
 | []=>by
  show aO ([]:List (κ×V)) j=_;rw[jS];split<;>rfl
 |p::r=>by
  by_cases e:p.1=k
  .rw[pK e,dj];by_cases z:j=k
   .rw[if_pos z,if_pos z]
   .rw[if_neg z,if_neg z,ba λy=>z (y.symm.trans e)]
  .rw[k7 e];by_cases y:p.1=j
   .rw[bc y,bc y,if_neg λz=>e (y.trans z)]
   .rw[ba y,ba y,dj]
theorem mem_keys:∀{kv:List (κ×V)},k∈kv.map (·.1)↔(aO kv k).isSome=true
 | []=>by simp[jS]
 |p::r=>by
  by_cases e:p.1=k
  .rw[bc e];simp[e]
  .rw[ba e,<-mem_keys];simp[Ne.symm e]
theorem sT:(bj kv k v).map (·.1)=if(aO kv k).isSome=true then kv.map (·.1)else kv.map (·.1)++ [k]:=by
 unfold bj;rw[cr];by_cases c:(aO kv k).isSome=true
 .rw[if_pos c,if_pos c,Qq];refine QM λp _=>?_;show(if p.1=k then(p.1,v)else p).1=p.1;split<;>rfl
 .rw[if_neg c,if_neg c,Q9];rfl
theorem zU (h:(kv.map (·.1)).Nodup):((bj kv k v).map (·.1)).Nodup:=by
 cases e:aO kv k with
 |none=>exact FC v h e
 |some x=>rw[sT,e];exact h
theorem iW:∀{l S:List κ},l.Nodup->(∀x∈l,x∈S)->l.length<=S.length
 | [],_,_,_=>Qi _
 |x::xs,S,hn,hs=>by
  obtain⟨h1,h2⟩:=QN.mp hn;have hx:x∈S:=hs x Q6;have:=iW (S:=S.erase x) h2 λy hy=>(List.mem_erase_of_ne λz=>h1 (by rw[<-z];exact hy)).mpr (hs y (Q8 _ hy));rw[List.length_erase_of_mem hx]at this;have:=Xf hx;rw[Qf];lia
end
def SqF (K:PySem.W.Frag) (F:Addr->Prop) (H:Hp) (a:Addr) (xs:List V):Prop:=(Rd H a (.lst xs)/\¬F a)\/∀H',SqL K H' a xs
theorem SqF.sq (h:SqF K F H a xs):SqL K H a xs:=by
 rcases h with h|h
 .exact .inl h.1
 .exact h H
theorem SqF.of (h:SqL K H a xs) (n:∀o,H a=some o->¬F a):SqF K F H a xs:=by
 rcases h with h|h
 .rcases h with h|⟨o,h⟩
  .exact .inl ⟨.inl h,n _ h⟩
  .exact .inl ⟨.inr ⟨o,h⟩,n _ h⟩
 .exact .inr λ_=> .inr h
theorem SqF.fr (h:SqF K F H a xs) (f:Fr F F' H H'):SqF K F' H' a xs:=by
 rcases h with⟨h,n⟩|h
 .rcases h with h|⟨o,h⟩
  .exact .inl ⟨.inl (f _ _ n h).1,(f _ _ n h).2⟩
  .exact .inl ⟨.inr ⟨o,(f _ _ n h).1⟩,(f _ _ n h).2⟩
 .exact .inr h
theorem SqF.new (h:SqF K F H a xs) (n:H p=none):SqF K F (upd H p o) a xs:=h.fr (Fr.of_same (am n))
structure SSt where
 kv:List (Int×V)
 size:Int
 nxt:Option Int
 mv:Int
def SSt.new:SSt:=⟨[],4,none,0⟩
def SSt.one (s:SSt):SSt:=match s.nxt with
 |none=>s
 |some m=>if s.mv+1=s.size then{s with size:=m,nxt:=none,mv:=0}else{s with mv:=s.mv+1}
def SSt.three (s:SSt):SSt:=match s.nxt with
 |some _=>s
 |none=>if s.size<(s.kv.length:Int)/\s.size<256 then{s with nxt:=some (2*s.size),mv:=0}else if 4*(s.kv.length:Int)<s.size/\4<s.size then{s with nxt:=some (s.size/2),mv:=0}else s
def SSt.put (s:SSt) (k:Int) (v:V):SSt:=SSt.three {s.one with kv:=bj s.kv k v}
def SSt.drop (s:SSt) (k:Int):SSt:=SSt.three {s.one with kv:=bE s.kv k}
def SSt.rows (s:SSt):List Int:=match s.nxt with
 |none=> [s.size]
 |some m=> [s.size,m]
def SSt.moved (s:SSt):Int:=match s.nxt with
 |none=>0
 |some _=>s.mv
structure SlD where
 tb:Addr
 r0:Addr
 r1:Addr
 A0:List Addr
 A1:List Addr
 C0:List (List (Int×V))
 C1:List (List (Int×V))
 n:Int
def slF (tb:Addr) (sh n:Int):List (Str×V):=[("table",.ref tb),("shifted",.int sh),("kept",.int n)]
theorem eT {k:Str} {r:List (Str×V)}:((k,v)::r).lookup k=some v:=by
 have hb:(k==k)=true:=beq_iff_eq.mpr rfl;simp only[List.lookup,hb]
theorem bg {k m:Str} {r:List (Str×V)} (h:m≠k):((k,v)::r).lookup m=r.lookup m:=by
 have hb:(m==k)=false:=beq_eq_false_iff_ne.mpr h;simp only[List.lookup,hb]
section
variable {tb':Addr} {sh sh' n n':Int} {m:Str}
theorem gJ:(slF tb sh n).lookup ("table":Str)=some (.ref tb):=eT
theorem u8:(slF tb sh n).lookup ("shifted":Str)=some (.int sh):=by unfold slF;rw[bg (by decide+kernel),eT]
theorem lE:(slF tb sh n).lookup ("kept":Str)=some (.int n):=by unfold slF;rw[bg (by decide+kernel),bg (by decide+kernel),eT]
def NoM (m:Str):Prop:=m≠("table":Str)/\m≠("shifted":Str)/\m≠("kept":Str)
instance:Decidable (NoM m):=by unfold NoM;infer_instance
theorem Gr (h:NoM m):(slF tb sh n).lookup m=none:=by unfold slF;rw[bg h.1,bg h.2.1,bg h.2.2];rfl
theorem IT:a9 ("table":Str) (.ref tb') (slF tb sh n)=slF tb' sh n:=by unfold slF;rw[a9,if_pos rfl]
theorem Gw:a9 ("shifted":Str) (.int sh') (slF tb sh n)=slF tb sh' n:=by unfold slF;rw[a9,if_neg (by decide+kernel),a9,if_pos rfl]
theorem Gx:a9 ("kept":Str) (.int n') (slF tb sh n)=slF tb sh n':=by unfold slF;rw[a9,if_neg (by decide+kernel),a9,if_neg (by decide+kernel),a9,if_pos rfl]
theorem nE:(slF tb sh n).length<1000:=by show 3<1000;decide
end
structure RowOk (H:Hp) (r:Addr) (A:List Addr) (C:List (List (Int×V))) (sz:Int):Prop where
 lst:H r=some (.lst (A.map V.ref))
 la:(A.length:Int)=sz
 lc:(C.length:Int)=sz
 cell:∀(j:Nat) (b:Addr) (kv:List (Int×V)),A[j]?=some b->C[j]?=some kv->H b=some (.dK (aN kv))
 ndk:∀(j:Nat) (kv:List (Int×V)),C[j]?=some kv->(kv.map (·.1)).Nodup
 inj:∀(i j:Nat) (b:Addr),A[i]?=some b->A[j]?=some b->i=j
 home:∀(j:Nat) (kv:List (Int×V)),C[j]?=some kv->∀p∈kv,p.1%65536%sz=(j:Int)
theorem RowOk.has {C:List (List (Int×V))} (h:RowOk H r A C sz) (hb:b∈A):∃(j:Nat) (kv:List (Int×V)),A[j]?=some b/\C[j]?=some kv/\H b=some (.dK (aN kv)):=by
 obtain⟨j,I,e⟩:=QJ hb;have hc:j<C.length:=by have:=h.la;have:=h.lc;lia
 have z:A[j]?=some b:=by rw[Q3 I,e]
 have e2:C[j]?=some C[j]:=Q3 hc;exact⟨j,C[j],z,e2,h.cell j b _ z e2⟩
theorem RowOk.frame {C:List (List (Int×V))} (h:RowOk H r A C sz) (f:∀b,b=r\/b∈A->H' b=H b):RowOk H' r A C sz:=
 ⟨by rw[f r (.inl rfl)];exact h.lst,h.la,h.lc,λj b kv z e2=>by rw[f b (.inr (Q1 z))];exact h.cell j b kv z e2,h.ndk,h.inj,h.home⟩
theorem RowOk.notr {C:List (List (Int×V))} (h:RowOk H r A C sz) (hb:b∈A) {x:Addr} (e:H x=some o) (I:∀kvs,o≠ .dK kvs):b≠x:=λz=>by
 obtain⟨j,kv,_,_,q⟩:=h.has hb;rw[z,e]at q;cases q;exact I _ rfl
theorem RowOk.set {C:List (List (Int×V))} (h:RowOk H r A C sz) (ea:A[j]?=some c) (O:(kv'.map (·.1)).Nodup) (U:∀p∈kv',p.1%65536%sz=(j:Int)):
  RowOk (upd H c (.dK (aN kv'))) r A (C.set j kv') sz:=by
 have hc:r≠c:=(h.notr (Q1 ea) h.lst (λ_ z=>by cases z)).symm;refine⟨by rw[ag hc];exact h.lst,h.la,by rw[QK];exact h.lc,λi b kv I e2=>?_,λi kv e=>?_,h.inj,λi kv e=>?_⟩
 .rw[Qy]at e2;by_cases z:j=i
  .subst z;rw[ea]at I;cases I;rw[if_pos rfl]at e2;split at e2
   .cases e2;exact ai
   .cases e2
  .rw[if_neg z]at e2;rw[ag λy=>z (h.inj j i c ea (by rw[<-y];exact I))];exact h.cell i b kv I e2
 .rw[Qy]at e;by_cases z:j=i
  .rw[if_pos z]at e;split at e
   .cases e;exact O
   .cases e
  .rw[if_neg z]at e;exact h.ndk i kv e
 .rw[Qy]at e;by_cases z:j=i
  .subst z;rw[if_pos rfl]at e;split at e
   .cases e;exact U
   .cases e
  .rw[if_neg z]at e;exact h.home i kv e
def SlF (a:Addr) (st:SSt) (d:SlD):Addr->Prop:=λb=>b=a\/b=d.tb\/b=d.r0\/b∈d.A0\/(st.nxt.isSome=true/\b=d.r1)\/b∈d.A1
def IsCell (d:SlD) (st:SSt) (k:Int) (c:Addr) (kv:List (Int×V)):Prop:=
 (st.moved<=k%65536%st.size/\d.A0[(k%65536%st.size).toNat]?=some c/\d.C0[(k%65536%st.size).toNat]?=some kv)\/
 (∃m,st.nxt=some m/\k%65536%st.size<st.moved/\d.A1[(k%65536%m).toNat]?=some c/\d.C1[(k%65536%m).toNat]?=some kv)
structure SzOk (st:SSt):Prop where
 pw:st.size∈([4,8,16,32,64,128,256]:List Int)
 nx:∀m,st.nxt=some m->m∈([4,8,16,32,64,128,256]:List Int)/\0<=st.mv/\st.mv<st.size/\(m=2*st.size\/2*m=st.size)
theorem j4 {x:Int} (h:x∈([4,8,16,32,64,128,256]:List Int)):x=4\/x=8\/x=16\/x=32\/x=64\/x=128\/x=256:=by simpa using h
theorem bF {x:Int} (h:x∈([4,8,16,32,64,128,256]:List Int)):4<=x/\x<=256:=by
 rcases j4 h with h|h|h|h|h|h|h<;>lia
structure SlB (t:Adr) (H:Hp) (a:Addr) (st:SSt) (d:SlD):Prop where
 obj:∃dx,H a=some (.ins t.aU dx (slF d.tb st.moved d.n))
 tbl:H d.tb=some (.lst (match st.nxt with|none=> [.ref d.r0]|some _=> [.ref d.r0,.ref d.r1]))
 row0:RowOk H d.r0 d.A0 d.C0 st.size
 row1:match st.nxt with|none=>d.A1=[]/\d.C1=[]|some m=>RowOk H d.r1 d.A1 d.C1 m
 dis:∀b,b∈d.A0->b∉d.A1
 tr:d.tb≠d.r0
 tr1:st.nxt.isSome=true->d.tb≠d.r1/\d.r0≠d.r1
 old:∀(j:Nat) (kv:List (Int×V)),d.C0[j]?=some kv->(j:Int)<st.moved->kv=[]
 new:∀(j:Nat) (kv:List (Int×V)),d.C1[j]?=some kv->∀p∈kv,p.1%65536%st.size<st.moved
 val:∀(k:Int) (c:Addr) (kv:List (Int×V)),IsCell d st k c kv->aO kv k=aO st.kv k
section
theorem SlB.frame (h:SlB t H a st d) (f:∀b,SlF a st d b->H' b=H b):SlB t H' a st d:=by
 obtain⟨dx,z⟩:=h.obj;refine⟨⟨dx,by rw[f a (.inl rfl)];exact z⟩,by rw[f d.tb (.inr (.inl rfl))];exact h.tbl,h.row0.frame λb hb=>f b ?_,?_,h.dis,h.tr,h.tr1,h.old,h.new,h.val⟩
 .rcases hb with hb|hb
  .exact .inr (.inr (.inl hb))
  .exact .inr (.inr (.inr (.inl hb)))
 .have r1:=h.row1;have I:=f;unfold SlF at I;cases e:st.nxt with
  |none=>rw[e]at r1;exact r1
  |some m=>
   rw[e]at r1;refine RowOk.frame (H:=H) r1 λb hb=>f b ?_;unfold SlF;rw[e];rcases hb with hb|hb
   .exact .inr (.inr (.inr (.inr (.inl ⟨rfl,hb⟩))))
   .exact .inr (.inr (.inr (.inr (.inr hb))))
theorem SlB.dom (h:SlB t H a st d) (hb:SlF a st d b):∃o,H b=some o:=by
 obtain⟨dx,I⟩:=h.obj;rcases hb with rfl|rfl|rfl|hb|⟨z,rfl⟩|hb
 .exact⟨_,I⟩
 .exact⟨_,h.tbl⟩
 .exact⟨_,h.row0.lst⟩
 .obtain⟨_,_,_,_,q⟩:=h.row0.has hb;exact⟨_,q⟩
 .have r1:=h.row1;cases e:st.nxt with
  |none=>rw[e]at z;cases z
  |some m=>rw[e]at r1;exact⟨_,r1.lst⟩
 .have r1:=h.row1;cases e:st.nxt with
  |none=>rw[e]at r1;rw[r1.1]at hb;cases hb
  |some m=>rw[e]at r1;obtain⟨_,_,_,_,q⟩:=r1.has hb;exact⟨_,q⟩
theorem SlB.at (h:SlB t H a st d) {kv:List (Int×V)} (I:IsCell d st k c kv):H c=some (.dK (aN kv))/\SlF a st d c/\(kv.map (·.1)).Nodup:=by
 rcases I with⟨_,z,e2⟩|⟨m,O,_,z,e2⟩
 .exact⟨h.row0.cell _ _ _ z e2,.inr (.inr (.inr (.inl (Q1 z)))),h.row0.ndk _ _ e2⟩
 .have r1:=h.row1;rw[O]at r1;exact⟨r1.cell _ _ _ z e2,.inr (.inr (.inr (.inr (.inr (Q1 z))))),r1.ndk _ _ e2⟩
theorem pE (z:4<=m):0<=k%65536%m/\k%65536%m<m/\((k%65536%m).toNat:Int)=k%65536%m:=by
 have h1:=QC (k%65536) (show m≠0 by lia);have h2:=QE (k%65536) (show 0<m by lia);exact⟨h1,h2,Xu h1⟩
theorem cP {l:List α} {z:Int} (I:0<=z) (h1:z<(l.length:Int)):∃x,l[z.toNat]?=some x:=⟨l[z.toNat]'(by lia),Q3 (by lia)⟩
theorem SlB.cell (h:SlB t H a st d) (z:SzOk st) (k:Int):∃c kv,IsCell d st k c kv:=by
 obtain⟨s4,_⟩:=bF z.pw;obtain⟨O,U,m2⟩:=pE (k:=k) s4;by_cases c:st.moved<=k%65536%st.size
 .obtain⟨x,I⟩:=cP (l:=d.A0) O (by rw[h.row0.la];exact U);obtain⟨y,e2⟩:=cP (l:=d.C0) O (by rw[h.row0.lc];exact U);exact⟨x,y,.inl ⟨c,I,e2⟩⟩
 .cases e:st.nxt with
  |none=>
   exfalso;have:st.moved=0:=by unfold SSt.moved;rw[e]
   lia
  |some m=>
   obtain⟨pm,_⟩:=z.nx m e;obtain⟨s5,_⟩:=bF pm;obtain⟨Y,Z,n2⟩:=pE (k:=k) s5;have r1:=h.row1;rw[e]at r1;obtain⟨x,I⟩:=cP (l:=d.A1) Y (by rw[r1.la];exact Z);obtain⟨y,e2⟩:=cP (l:=d.C1) Y (by rw[r1.lc];exact Z);exact⟨x,y,.inr ⟨m,e,by lia,I,e2⟩⟩
theorem IsCell.uniq {Y:Addr} {kv:List (Int×V)} (x:IsCell d st k c kv) (y:IsCell d st k Y kv'):c=Y/\kv=kv':=by
 rcases x with⟨Z,U,e2⟩|⟨m,em,Z,U,e2⟩<;>rcases y with⟨g0,z,I⟩|⟨m',O,g0,z,I⟩
 .rw[U]at z;rw[e2]at I;cases z;cases I;exact⟨rfl,rfl⟩
 .lia
 .lia
 .rw[em]at O;cases O;rw[U]at z;rw[e2]at I;cases z;cases I;exact⟨rfl,rfl⟩
theorem SlB.setN (h:SlB t H a st d) {n:Int}:SlB t (upd H a (.ins t.aU dx (slF d.tb st.moved n))) a st {d with n:=n}:=by
 obtain⟨U,I⟩:=h.obj;have O:d.tb≠a:=bZ h.tbl I (by intro z;cases z);refine⟨⟨dx,ai⟩,by show upd H a _ d.tb=_;rw[ag O];exact h.tbl,h.row0.frame λb hb=>ag ?_,?_,h.dis,h.tr,h.tr1,h.old,h.new,h.val⟩
 .rcases hb with rfl|hb
  .exact bZ h.row0.lst I (by intro z;cases z)
  .exact h.row0.notr hb I (λ_ z=>by cases z)
 .have r1:=h.row1;cases e:st.nxt with
  |none=>rw[e]at r1;exact r1
  |some m=>
   rw[e]at r1;refine RowOk.frame (H:=H) r1 λb hb=>ag ?_;rcases hb with rfl|hb
   .exact bZ r1.lst I (by intro z;cases z)
   .exact r1.notr hb I (λ_ z=>by cases z)
theorem SlB.setCell (h:SlB t H a st d) (z:SzOk st) {kv:List (Int×V)} (ic:IsCell d st k c kv) (nd:(kv'.map (·.1)).Nodup) (hm:∀p∈kv',p∈kv\/p.1=k)
  (hk:aO kv' k=aO kvs k) (ho:∀j,j≠k->aO kv' j=aO kv j/\aO kvs j=aO st.kv j):
  ∃d',SlB t (upd H c (.dK (aN kv'))) a {st with kv:=kvs} d'/\d'.n=d.n/\∀b,SlF a {st with kv:=kvs} d' b↔SlF a st d b:=by
 obtain⟨hc,hf,_⟩:=h.at ic;obtain⟨dx,a2⟩:=h.obj;obtain⟨s4,_⟩:=bF z.pw;obtain⟨m0,m1,m2⟩:=pE (k:=k) s4;have na:a≠c:=bZ a2 hc (by intro z;cases z);have nt:d.tb≠c:=bZ h.tbl hc (by intro z;cases z);have nr:d.r0≠c:=bZ h.row0.lst hc (by intro z;cases z);have a1:∀(d':SlD) (j:Int) (b:Addr) (x:List (Int×V)),IsCell d' {st with kv:=kvs} j b x->(∀y,IsCell d st j b y->(x=y/\b≠c)\/(x=kv'/\y=kv))->(∃y,IsCell d st j b y)->aO x j=aO kvs j:=λd' j b x hx f ⟨y,hy⟩=>by
  by_cases e:j=k
  .subst e;obtain⟨rfl,rfl⟩:=IsCell.uniq hy ic;rcases f y hy with⟨_,z⟩|⟨rfl,_⟩
   .exact absurd rfl z
   .exact hk
  .rw[(ho j e).2];rcases f y hy with⟨rfl,_⟩|⟨rfl,rfl⟩
   .exact h.val j b x hy
   .rw[(ho j e).1];exact h.val j b y hy
 rcases ic with⟨h0,e1,e2⟩|⟨m,em,h0,e1,e2⟩
 .have Z:c∈d.A0:=Q1 e1;have a0:∀p∈kv',p.1%65536%st.size=((k%65536%st.size).toNat:Int):=λp hp=>by
   rcases hm p hp with q|q
   .exact h.row0.home _ _ e2 p q
   .rw[q,m2]
  refine⟨{d with C0:=d.C0.set (k%65536%st.size).toNat kv'},⟨⟨dx,by rw[ag na];exact a2⟩,by show upd H c _ d.tb=_;rw[ag nt];exact h.tbl,h.row0.set e1 nd a0,?_,h.dis,h.tr,h.tr1,λj x e lt=>?_,h.new,λj b x hx=>?_⟩,rfl,λb=>Iff.rfl⟩
  .have r1:=h.row1;show match st.nxt with|none=>_|some m=>_
   cases e:st.nxt with
   |none=>rw[e]at r1;exact r1
   |some m=>
    rw[e]at r1;refine RowOk.frame (H:=H) r1 λb hb=>ag ?_;rcases hb with rfl|hb
    .exact bZ r1.lst hc (by intro z;cases z)
    .exact λy=>h.dis c Z (y▸hb)
  .have e:(d.C0.set (k%65536%st.size).toNat kv')[j]?=some x:=e;have lt:(j:Int)<st.moved:=lt;rw[Qy]at e;by_cases q:(k%65536%st.size).toNat=j
   .exfalso;lia
   .rw[if_neg q]at e;exact h.old j x e lt
  .refine a1 _ j b x hx (λy hy=>?_) ?_
   .rcases hx with⟨Y,I,U⟩|⟨m',O,Y,I,U⟩
    .have U:(d.C0.set (k%65536%st.size).toNat kv')[(j%65536%st.size).toNat]?=some x:=U;have I:d.A0[(j%65536%st.size).toNat]?=some b:=I;have Y:st.moved<=j%65536%st.size:=Y;rcases hy with⟨_,y1,y2⟩|⟨_,_,y0,_,_⟩
     .rw[Qy]at U;by_cases q:(k%65536%st.size).toNat=(j%65536%st.size).toNat
      .rw[if_pos q]at U;split at U
       .cases U;rw[<-q,e2]at y2;cases y2;exact .inr ⟨rfl,rfl⟩
       .cases U
      .rw[if_neg q,y2]at U;cases U;exact .inl ⟨rfl,λw=>q (h.row0.inj _ _ c e1 (by rw[<-w];exact I))⟩
     .lia
    .have I:d.A1[(j%65536%m').toNat]?=some b:=I;have U:d.C1[(j%65536%m').toNat]?=some x:=U;have Y:j%65536%st.size<st.moved:=Y;have O:st.nxt=some m':=O;rcases hy with⟨y0,_,_⟩|⟨m2,e3,y0,y1,y2⟩
     .lia
     .rw[O]at e3;cases e3;rw[U]at y2;cases y2;exact .inl ⟨rfl,λw=>h.dis c Z (w▸Q1 I)⟩
   .obtain⟨b',y,hy⟩:=h.cell z j;have:b'=b:=by
     rcases hx with⟨Y,I,U⟩|⟨m',O,Y,I,U⟩<;>rcases hy with⟨y0,y1,y2⟩|⟨m3,e3,y0,y1,y2⟩
     .have I:d.A0[(j%65536%st.size).toNat]?=some b:=I;rw[y1]at I;exact Option.some.inj I
     .have Y:st.moved<=j%65536%st.size:=Y;lia
     .have Y:j%65536%st.size<st.moved:=Y;lia
     .have O:st.nxt=some m':=O;rw[O]at e3;cases e3;have I:d.A1[(j%65536%m').toNat]?=some b:=I;rw[y1]at I;exact Option.some.inj I
    subst this;exact⟨y,hy⟩
 .have r1:=h.row1;rw[em]at r1;have Z:c∈d.A1:=Q1 e1;obtain⟨pm,_⟩:=z.nx m em;obtain⟨s5,_⟩:=bF pm;obtain⟨n0,n1,n2⟩:=pE (k:=k) s5;have a0:∀p∈kv',p.1%65536%m=((k%65536%m).toNat:Int):=λp hp=>by
   rcases hm p hp with q|q
   .exact r1.home _ _ e2 p q
   .rw[q,n2]
  refine⟨{d with C1:=d.C1.set (k%65536%m).toNat kv'},⟨⟨dx,by rw[ag na];exact a2⟩,by show upd H c _ d.tb=_;rw[ag nt];exact h.tbl,h.row0.frame λb hb=>ag ?_,?_,h.dis,h.tr,h.tr1,h.old,λj x e p hp=>?_,λj b x hx=>?_⟩,rfl,λb=>Iff.rfl⟩
  .rcases hb with rfl|hb
   .exact nr
   .exact λy=>h.dis b hb (y▸Z)
  .show match st.nxt with|none=>_|some m=>_
   rw[em];exact r1.set e1 nd a0
  .have e:(d.C1.set (k%65536%m).toNat kv')[j]?=some x:=e;show p.1%65536%st.size<st.moved;rw[Qy]at e;by_cases q:(k%65536%m).toNat=j
   .rw[if_pos q]at e;split at e
    .cases e;rcases hm p hp with q|q
     .exact h.new _ _ e2 p q
     .rw[q];exact h0
    .cases e
   .rw[if_neg q]at e;exact h.new j x e p hp
  .refine a1 _ j b x hx (λy hy=>?_) ?_
   .rcases hx with⟨Y,I,U⟩|⟨m',O,Y,I,U⟩
    .have I:d.A0[(j%65536%st.size).toNat]?=some b:=I;have U:d.C0[(j%65536%st.size).toNat]?=some x:=U;have Y:st.moved<=j%65536%st.size:=Y;rcases hy with⟨_,y1,y2⟩|⟨_,_,y0,_,_⟩
     .rw[U]at y2;cases y2;exact .inl ⟨rfl,λw=>h.dis b (Q1 I) (w▸Z)⟩
     .lia
    .have O:st.nxt=some m':=O;rw[em]at O;cases O;have U:(d.C1.set (k%65536%m).toNat kv')[(j%65536%m).toNat]?=some x:=U;have I:d.A1[(j%65536%m).toNat]?=some b:=I;have Y:j%65536%st.size<st.moved:=Y;rcases hy with⟨y0,_,_⟩|⟨m2,e3,y0,y1,y2⟩
     .lia
     .rw[em]at e3;cases e3;rw[Qy]at U;by_cases q:(k%65536%m).toNat=(j%65536%m).toNat
      .rw[if_pos q]at U;split at U
       .cases U;rw[<-q,e2]at y2;cases y2;exact .inr ⟨rfl,rfl⟩
       .cases U
      .rw[if_neg q,y2]at U;cases U;exact .inl ⟨rfl,λw=>q (r1.inj _ _ c e1 (by rw[<-w];exact I))⟩
   .obtain⟨b',y,hy⟩:=h.cell z j;have:b'=b:=by
     rcases hx with⟨Y,I,U⟩|⟨m',O,Y,I,U⟩<;>rcases hy with⟨y0,y1,y2⟩|⟨m3,e3,y0,y1,y2⟩
     .have I:d.A0[(j%65536%st.size).toNat]?=some b:=I;rw[y1]at I;exact Option.some.inj I
     .have Y:st.moved<=j%65536%st.size:=Y;lia
     .have Y:j%65536%st.size<st.moved:=Y;lia
     .have O:st.nxt=some m':=O;rw[O]at e3;cases e3;have I:d.A1[(j%65536%m').toNat]?=some b:=I;rw[y1]at I;exact Option.some.inj I
    subst this;exact⟨y,hy⟩
end
theorem sO {kv:List (Int×V)} {p:Int×V} (h:p∈bj kv k v):p∈kv\/p.1=k:=by
 unfold bj at h;split at h
 .obtain⟨q,hq,e⟩:=Q7.mp h;by_cases z:q.1=k
  .rw[if_pos z]at e;rw[<-e];exact .inr z
  .rw[if_neg z]at e;rw[<-e];exact .inl hq
 .rcases Q5.mp h with h|h
  .exact .inl h
  .rw[Qa.mp h];exact .inr rfl
theorem FD {kv:List (Int×V)} {p:Int×V} (h:p∈kv):(aO kv p.1).isSome=true:=mem_keys.mp (Q7.mpr ⟨p,h,rfl⟩)
def fc (m:Int) (C:List (List (Int×V))) (p:Int×V):List (List (Int×V)):=C.set (p.1%65536%m).toNat (bj (C.getD (p.1%65536%m).toNat []) p.1 p.2)
theorem Dy {C:List (List (Int×V))} {p:Int×V}:(fc m C p).length=C.length:=QK
theorem AH {m:Int}:∀{kv:List (Int×V)} {C:List (List (Int×V))},(kv.foldl (fc m) C).length=C.length
 | [],_=>rfl
 |p::r,C=>by rw[K3,AH,Dy]
theorem yv {C:List (List (Int×V))} {p:Int×V} {y:List (Int×V)} (e:C[j]?=some y):(fc m C p)[j]?=some (if(p.1%65536%m).toNat=j then bj y p.1 p.2 else y):=by
 unfold fc;rw[Qy];by_cases z:(p.1%65536%m).toNat=j
 .have I:j<C.length:=(Q2.mp e).1;rw[if_pos z,if_pos z,if_pos (by rw[z];exact I),Ql,z,e];rfl
 .rw[if_neg z,if_neg z,e]
theorem wP {m:Int}:∀{kv:List (Int×V)} {C:List (List (Int×V))} {j:Nat} {y:List (Int×V)},(kv.map (·.1)).Nodup->C[j]?=some y->∃x,(kv.foldl (fc m) C)[j]?=some x/\
  (∀p∈x,p∈y\/p.1∈kv.map (·.1))/\∀k,aO x k=if(k%65536%m).toNat=j then(aO kv k).or (aO y k)else aO y k
 | [],C,j,y,_,e=>⟨y,e,λp hp=> .inl hp,λk=>by rw[jS];simp⟩
 |p::r,C,j,y,nd,e=>by
  obtain⟨I,O⟩:=QN.mp (show(p.1::r.map (·.1)).Nodup from nd);obtain⟨x,h1,h2,U⟩:=wP (m:=m) O (yv (m:=m) (p:=p) e);refine⟨x,h1,λq hq=>?_,λk=>?_⟩
  .rcases h2 q hq with z|z
   .split at z
    .rcases sO z with z|z
     .exact .inl z
     .exact .inr (Q7.mpr ⟨p,Q6,z.symm⟩)
    .exact .inl z
   .exact .inr (Q8 _ z)
  .rw[U k];by_cases z:(k%65536%m).toNat=j
   .rw[if_pos z,if_pos z];by_cases w:p.1=k
    .subst w;have:aO r p.1=none:=by
      cases q:aO r p.1 with
      |none=>rfl
      |some v=>exact absurd (qA q) I
     rw[this,bc rfl,if_pos z,cT,if_pos rfl];rfl
    .rw[ba w];congr 1;split
     .rw[cT,if_neg (Ne.symm w)]
     .rfl
   .rw[if_neg z,if_neg z];split
    .rename_i w
     rw[cT,if_neg (λy=>z (by rw[y];exact w))]
    .rfl
theorem RowOk.mov {C:List (List (Int×V))} {y:List (Int×V)} (h:RowOk H r A C sz) (s4:4<=sz) (ea:A[(k%65536%sz).toNat]?=some c) (I:C[(k%65536%sz).toNat]?=some y):
  RowOk (upd H c (.dK (aN (bj y k v)))) r A (fc sz C (k,v)) sz:=by
 have e:fc sz C (k,v)=C.set (k%65536%sz).toNat (bj y k v):=by
  unfold fc;rw[Ql];show C.set (k%65536%sz).toNat (bj (C[(k%65536%sz).toNat]?.getD []) k v)=_;rw[I];rfl
 rw[e];obtain⟨U,Y,O⟩:=pE (k:=k) s4;refine h.set ea (zU (h.ndk _ _ I)) λp hp=>?_;rcases sO hp with z|z
 .exact h.home _ _ I p z
 .rw[z,O]
section
theorem SSt.moved_some (e:st.nxt=some m):st.moved=st.mv:=by unfold SSt.moved;rw[e]
theorem SSt.moved_none (e:st.nxt=none):st.moved=0:=by unfold SSt.moved;rw[e]
theorem SlB.movVal (h:SlB t H a st d) (z:SzOk st) (I:st.nxt=some m) {kv:List (Int×V)} (O:d.C0[st.mv.toNat]?=some kv) (hk:k%65536%st.size<=st.mv) {x:List (Int×V)}
  (ex:(kv.foldl (fc m) d.C1)[(k%65536%m).toNat]?=some x):aO x k=aO st.kv k:=by
 obtain⟨pm,v0,v1,_⟩:=z.nx m I;obtain⟨s4,_⟩:=bF z.pw;obtain⟨s5,_⟩:=bF pm;have r1:=h.row1;rw[I]at r1;obtain⟨n0,n1,n2⟩:=pE (k:=k) s5;obtain⟨m0,m1,m2⟩:=pE (k:=k) s4;obtain⟨y,U⟩:=cP (l:=d.C1) n0 (by rw[r1.lc];exact n1);obtain⟨c1,Y⟩:=cP (l:=d.A1) n0 (by rw[r1.la];exact n1);obtain⟨x',e',_,hv⟩:=wP (m:=m) (h.row0.ndk _ _ O) U;rw[ex]at e';cases e';rw[hv k,if_pos rfl];have hm:=SSt.moved_some I;by_cases c:k%65536%st.size=st.mv
 .obtain⟨b0,Z⟩:=cP (l:=d.A0) m0 (by rw[h.row0.la];exact m1);have ic:IsCell d st k b0 kv:= .inl ⟨by lia,Z,by rw[c];exact O⟩;have yn:aO y k=none:=by
   cases q:aO y k with
   |none=>rfl
   |some v=>
    obtain⟨p,hp,e⟩:=Q7.mp (qA q);have:=h.new _ _ U p hp;rw[e]at this;lia
  rw[h.val k b0 kv ic,yn];simp
 .have ic:IsCell d st k c1 y:= .inr ⟨m,I,by lia,Y,U⟩;have kn:aO kv k=none:=by
   cases q:aO kv k with
   |none=>rfl
   |some v=>
    obtain⟨p,hp,e⟩:=Q7.mp (qA q);have:=h.row0.home _ _ O p hp;rw[e]at this;lia
  rw[kn,h.val k c1 y ic];rfl
theorem cX {l:List α} {x y:α} (e:(l.set i x)[j]?=some y):(i=j/\y=x)\/(i≠j/\l[j]?=some y):=by
 rw[Qy]at e;by_cases z:i=j
 .rw[if_pos z]at e;split at e
  .cases e;exact .inl ⟨z,rfl⟩
  .cases e
 .rw[if_neg z]at e;exact .inr ⟨z,e⟩
theorem SlB.one (h:SlB t H a st d) (z:SzOk st) (Z:st.nxt=some m) {kv:List (Int×V)} (ek:d.C0[st.mv.toNat]?=some kv) {b':Addr} (nl:st.mv+1≠st.size)
  (ha:H' a=some (.ins t.aU dx (slF d.tb (st.mv+1) d.n))) (ht:H' d.tb=H d.tb) (h0:H' d.r0=some (.lst ((d.A0.set st.mv.toNat b').map V.ref))) (hb:H' b'=some (.dK [])) (hF:¬SlF a st d b')
  (hA:∀(j:Nat) b,d.A0[j]?=some b->j≠st.mv.toNat->H' b=H b) (hr:RowOk H' d.r1 d.A1 (kv.foldl (fc m) d.C1) m):
  SlB t H' a st.one {d with A0:=d.A0.set st.mv.toNat b',C0:=d.C0.set st.mv.toNat [],C1:=kv.foldl (fc m) d.C1}:=by
 obtain⟨pm,v0,v1,_⟩:=z.nx m Z;have a1:st.one={st with mv:=st.mv+1}:=by unfold SSt.one;rw[Z];exact if_neg nl
 have I:({st with mv:=st.mv+1}:SSt).moved=st.mv+1:=SSt.moved_some (st:={st with mv:=st.mv+1}) Z;have hm:=SSt.moved_some Z;have a2:b'∉d.A0:=λq=>hF (.inr (.inr (.inr (.inl q))));have a3:b'∉d.A1:=λq=>hF (.inr (.inr (.inr (.inr (.inr q)))));rw[a1];have r1:=h.row1;rw[Z]at r1;refine⟨⟨dx,by rw[I];exact ha⟩,by rw[ht];exact h.tbl,⟨h0,by rw[QK];exact h.row0.la,by rw[QK];exact h.row0.lc,λj b x e1 e2=>?_,λj x e=>?_,λi j b e1 e2=>?_,λj x e p hp=>?_⟩,?_,λb a4 hb1=>?_,h.tr,h.tr1,λj x e lt=>?_,λj x e p hp=>?_,λk c x ic=>?_⟩
 .rcases cX e1 with⟨q,rfl⟩|⟨q,e1⟩
  .rcases cX e2 with⟨_,rfl⟩|⟨q2,_⟩
   .exact hb
   .exact absurd q q2
  .rcases cX e2 with⟨q2,_⟩|⟨_,e2⟩
   .exact absurd q2 q
   .rw[hA j b e1 (Ne.symm q)];exact h.row0.cell j b x e1 e2
 .rcases cX e with⟨_,rfl⟩|⟨_,e⟩
  .exact Zi
  .exact h.row0.ndk j x e
 .have e1:(d.A0.set st.mv.toNat b')[i]?=some b:=e1;have e2:(d.A0.set st.mv.toNat b')[j]?=some b:=e2;rcases cX e1 with⟨q,y1⟩|⟨q,U⟩<;>rcases cX e2 with⟨q2,y2⟩|⟨q2,O⟩
  .exact q.symm.trans q2
  .rw[y1]at O;exact absurd (Q1 O) a2
  .rw[y2]at U;exact absurd (Q1 U) a2
  .exact h.row0.inj i j b U O
 .rcases cX e with⟨_,rfl⟩|⟨_,e⟩
  .cases hp
  .exact h.row0.home j x e p hp
 .show match st.nxt with|none=>_|some m=>_
  rw[Z];exact hr
 .obtain⟨j,hj,e⟩:=QJ (show b∈d.A0.set st.mv.toNat b' from a4);rcases cX (Q2.mpr ⟨hj,e⟩)with⟨_,rfl⟩|⟨_,e⟩
  .exact a3 hb1
  .exact h.dis b (Q1 e) hb1
 .rw[I]at lt;rcases cX e with⟨_,rfl⟩|⟨q,e⟩
  .rfl
  .exact h.old j x e (by lia)
 .rw[I];show p.1%65536%st.size<st.mv+1;obtain⟨y,ey⟩:∃y,d.C1[j]?=some y:=by
   have hj:j<(kv.foldl (fc m) d.C1).length:=(Q2.mp e).1;rw[AH]at hj;exact⟨_,Q3 hj⟩
  obtain⟨x',e',a0,_⟩:=wP (m:=m) (h.row0.ndk _ _ ek) ey;have e:(kv.foldl (fc m) d.C1)[j]?=some x:=e;rw[e]at e';cases e';rcases a0 p hp with q|q
  .have:=h.new j y ey p q;lia
  .obtain⟨p',a0,e3⟩:=Q7.mp q;have:=h.row0.home _ _ ek p' a0;rw[e3]at this;lia
 .show aO x k=aO st.kv k;rcases ic with⟨g0,U,O⟩|⟨m',Y,g0,U,O⟩
  .rw[I]at g0;have g0:st.mv+1<=k%65536%st.size:=g0;have U:(d.A0.set st.mv.toNat b')[(k%65536%st.size).toNat]?=some c:=U;have O:(d.C0.set st.mv.toNat [])[(k%65536%st.size).toNat]?=some x:=O;rcases cX U with⟨q,_⟩|⟨_,U⟩
   .lia
   .rcases cX O with⟨q,_⟩|⟨_,O⟩
    .lia
    .exact h.val k c x (.inl ⟨by lia,U,O⟩)
  .rw[I]at g0;have Y:st.nxt=some m':=Y;rw[Z]at Y;cases Y;have g0:k%65536%st.size<st.mv+1:=g0;exact h.movVal z Z ek (by lia) O
theorem SlB.last (h:SlB t H a st d) (z:SzOk st) (Y:st.nxt=some m) {kv:List (Int×V)} (Z:d.C0[st.mv.toNat]?=some kv) {tb':Addr} (l:st.mv+1=st.size)
  (ha:H' a=some (.ins t.aU dx (slF tb' 0 d.n))) (ht:H' tb'=some (.lst [.ref d.r1])) (hn:tb'≠d.r1) (hr:RowOk H' d.r1 d.A1 (kv.foldl (fc m) d.C1) m):
  SlB t H' a st.one ⟨tb',d.r1,d.r1,d.A1,[],kv.foldl (fc m) d.C1,[],d.n⟩:=by
 have I:st.one={st with size:=m,nxt:=none,mv:=0}:=by unfold SSt.one;rw[Y];exact if_pos l
 obtain⟨s4,_⟩:=bF z.pw;rw[I];refine⟨⟨dx,ha⟩,ht,hr,⟨rfl,rfl⟩,(λb _ q=>by cases q),hn,(λq=>by cases q),λj x e lt=>?_,(λj x e=>by simp at e),λk c x ic=>?_⟩
 .have lt:(j:Int)<0:=lt;lia
 .rcases ic with⟨g0,f1,O⟩|⟨m',U,_⟩
  .have O:(kv.foldl (fc m) d.C1)[(k%65536%m).toNat]?=some x:=O;obtain⟨m0,m1,m2⟩:=pE (k:=k) s4;exact h.movVal z Y Z (by lia) O
  .cases U
theorem SlB.begin (h:SlB t H a st d) (en:st.nxt=none) (ha:H' a=H a) (ht:H' d.tb=some (.lst [.ref d.r0,.ref r])) (h0:∀b,b=d.r0\/b∈d.A0->H' b=H b)
  (hr:RowOk H' r A (List.replicate m.toNat []) m) (U:¬SlF a st d r) (nA:∀b∈A,¬SlF a st d b):SlB t H' a {st with nxt:=some m,mv:=0} {d with r1:=r,A1:=A,C1:=List.replicate m.toNat []}:=by
 obtain⟨dx,Y⟩:=h.obj;have Z:=SSt.moved_none en;refine⟨⟨dx,by rw[ha];rw[Z]at Y;exact Y⟩,ht,h.row0.frame h0,hr,λb q q2=>nA b q2 (.inr (.inr (.inr (.inl q)))),h.tr,λ_=>⟨λq=>U (.inr (.inl q.symm)),λq=>U (.inr (.inr (.inl q.symm)))⟩,λj x e lt=>?_,λj x e p hp=>?_,λk c x ic=>?_⟩
 .have lt:(j:Int)<0:=lt;lia
 .have:=Zp (Q1 e);subst this;cases hp
 .rcases ic with⟨I,f1,O⟩|⟨m',a0,I,f1,O⟩
  .refine h.val k c x (.inl ⟨?_,f1,O⟩);rw[Z];exact I
  .have I:k%65536%st.size<0:=I;have O:(List.replicate m.toNat ([]:List (Int×V)))[(k%65536%m').toNat]?=some x:=O;have:0<=k%65536%st.size:=by
    have z:(0:Int)<=st.size:=by rw[<-h.row0.la];lia
    rcases Int.lt_or_eq_of_le z with q|q
    .exact QC _ (by lia)
    .rw[<-q,Int.emod_zero];exact QC _ (by decide)
   lia
theorem SlB.fresh (ha:H a=some (.ins t.aU dx (slF tb 0 0))) (O:H tb=some (.lst [.ref r])) (U:RowOk H r A (List.replicate 4 []) 4) (n:tb≠r):SlB t H a SSt.new ⟨tb,r,r,A,[],List.replicate 4 [],[],0⟩:=by
 refine⟨⟨dx,ha⟩,O,U,⟨rfl,rfl⟩,(λb _ q=>by cases q),n,(λq=>by cases q),λj x e lt=>?_,(λj x e=>by simp at e),λk c x Y=>?_⟩
 .have lt:(j:Int)<0:=lt;lia
 .rcases Y with⟨Z,f1,z⟩|⟨m',I,_⟩
  .have z:(List.replicate 4 ([]:List (Int×V)))[(k%65536%4).toNat]?=some x:=z;have:=Zp (Q1 z);subst this;rfl
  .cases I
theorem SlB.short (h:SlB t H a st d) (z:SzOk st) {kv:List (Int×V)} (ic:IsCell d st k c kv):kv.length<=st.kv.length:=by
 obtain⟨_,_,nd⟩:=h.at ic;have sub:∀x∈kv.map (·.1),x∈st.kv.map (·.1):=λx hx=>by
  obtain⟨p,hp,e⟩:=Q7.mp hx;subst e;refine mem_keys.mpr ?_;have hs:=FD hp;have:∃O,IsCell d st p.1 O kv:=by
   rcases ic with⟨g0,U,I⟩|⟨m,Y,g0,U,I⟩
   .obtain⟨s4,_⟩:=bF z.pw;obtain⟨m0,m1,m2⟩:=pE (k:=k) s4;have e:=h.row0.home _ _ I p hp;rw[m2]at e;exact⟨c,.inl ⟨by rw[e];exact g0,by rw[e];exact U,by rw[e];exact I⟩⟩
   .obtain⟨pm,_⟩:=z.nx m Y;obtain⟨s5,_⟩:=bF pm;obtain⟨n0,n1,n2⟩:=pE (k:=k) s5;have r1:=h.row1;rw[Y]at r1;have e:=r1.home _ _ I p hp;rw[n2]at e;exact⟨c,.inr ⟨m,Y,h.new _ _ I p hp,by rw[e];exact U,by rw[e];exact I⟩⟩
  obtain⟨O,Z⟩:=this;rw[<-h.val p.1 O kv Z];exact hs
 have:=iW nd sub;rw[Q0,Q0]at this;exact this
end
theorem yu {m:Int}:∀{kv:List (Int×V)} {C:List (List (Int×V))} {j:Nat} {x y:List (Int×V)},C[j]?=some y->(kv.foldl (fc m) C)[j]?=some x->x.length<=y.length+kv.length
 | [],C,j,x,y,e,f=>by
  have f:C[j]?=some x:=f;rw[e]at f;cases f;exact Q4 _
 |p::r,C,j,x,y,e,f=>by
  have h:=yu (m:=m) (yv (m:=m) (p:=p) e) f;have l:=cw y p.1 p.2;rw[Qf];split at h<;>lia
section
theorem SlB.short0 (h:SlB t H a st d) (z:SzOk st) {kv:List (Int×V)} (e:d.C0[j]?=some kv):kv.length<=st.kv.length:=by
 cases kv with
 |nil=>exact Qi _
 |cons p r=>
  have hp:=h.row0.home j _ e p Q6;have U:¬(j:Int)<st.moved:=λq=>by have:=h.old j _ e q;cases this
  have I:(p.1%65536%st.size).toNat=j:=by lia
  have O:j<d.A0.length:=by
   have:=h.row0.la;have:=h.row0.lc;have:=(Q2.mp e).1;lia
  exact h.short z (k:=p.1) (c:=d.A0[j]) (.inl ⟨by lia,by rw[I];exact Q3 O,by rw[I];exact e⟩)
theorem SlB.short1 (h:SlB t H a st d) (z:SzOk st) (I:st.nxt=some m) {kv:List (Int×V)} (e:d.C1[j]?=some kv):kv.length<=st.kv.length:=by
 have r1:=h.row1;rw[I]at r1;cases kv with
 |nil=>exact Qi _
 |cons p r=>
  have hp:=r1.home j _ e p Q6;have U:=h.new j _ e p Q6;have O:(p.1%65536%m).toNat=j:=by lia
  have Y:j<d.A1.length:=by
   have:=r1.la;have:=r1.lc;have:=(Q2.mp e).1;lia
  exact h.short z (k:=p.1) (c:=d.A1[j]) (.inr ⟨m,I,U,by rw[O];exact Q3 Y,by rw[O];exact e⟩)
end
theorem SzOk.new:SzOk SSt.new:=⟨by decide,λm e=>by cases e⟩
theorem SzOk.kv (z:SzOk st):SzOk {st with kv:=kvs}:=⟨z.pw,z.nx⟩
theorem SzOk.one (z:SzOk st):SzOk st.one:=by
 unfold SSt.one;cases e:st.nxt with
 |none=>exact z
 |some m=>
  obtain⟨I,U,Y,O⟩:=z.nx m e;show SzOk (if _ then _ else _);split
  .exact⟨I,λm' q=>by cases q⟩
  .rename_i c
   refine⟨z.pw,λm' q=>?_⟩;have q:some m=some m':=q;cases q;exact⟨I,by show 0<=st.mv+1;lia,by show st.mv+1<st.size;lia,O⟩
theorem IS {x:Int} (h:x∈([4,8,16,32,64,128,256]:List Int)) (c:x<256):2*x∈([4,8,16,32,64,128,256]:List Int):=by
 rcases j4 h with rfl|rfl|rfl|rfl|rfl|rfl|rfl<;>first|decide|exact absurd c (by decide)
theorem Gv {x:Int} (h:x∈([4,8,16,32,64,128,256]:List Int)) (c:4<x):x/2∈([4,8,16,32,64,128,256]:List Int)/\2*(x/2)=x:=by
 rcases j4 h with rfl|rfl|rfl|rfl|rfl|rfl|rfl<;>first|decide|exact absurd c (by decide)
theorem Gu {x:Int} (h:x∈([4,8,16,32,64,128,256]:List Int)):0<x:=by
 rcases j4 h with rfl|rfl|rfl|rfl|rfl|rfl|rfl<;>decide
theorem SzOk.three (z:SzOk st):SzOk st.three:=by
 unfold SSt.three;cases e:st.nxt with
 |some m=>exact z
 |none=>
  show SzOk (if _ then _ else _);split
  .rename_i c
   refine⟨z.pw,λm' q=>?_⟩;cases q;exact⟨IS z.pw c.2,X8 _,Gu z.pw,.inl rfl⟩
  .split
   .rename_i c
    refine⟨z.pw,λm' q=>?_⟩;cases q;exact⟨(Gv z.pw c.2).1,X8 _,Gu z.pw,.inr (Gv z.pw c.2).2⟩
   .exact z
def SlA (_K:PySem.W.Frag) (t:Adr) (H:Hp) (a:Addr) (F:Addr->Prop) (st:SSt):Prop:=
 ∃d,SlB t H a st d/\(∀b,F b↔SlF a st d b)/\d.n=(st.kv.length:Int)/\(st.kv.map (·.1)).Nodup/\SzOk st
section
theorem SlA.ins (h:SlA K t H a F st):∃dx fs,H a=some (.ins t.aU dx fs)/\∀m,NoM m->fs.lookup m=none:=by
 obtain⟨d,hb,_⟩:=h;obtain⟨dx,z⟩:=hb.obj;exact⟨dx,_,z,λm I=>Gr I⟩
theorem SlA.dom (h:SlA K t H a F st) (hb:F b):∃o,H b=some o:=by
 obtain⟨d,h1,h2,_⟩:=h;exact h1.dom ((h2 b).mp hb)
theorem SlA.frame (h:SlA K t H a F st) (f:∀b,F b->H' b=H b):SlA K t H' a F st:=by
 obtain⟨d,h1,h2,z⟩:=h;exact⟨d,h1.frame λb hb=>f b ((h2 b).mpr hb),h2,z⟩
end
section
theorem SlA.same (h:SlA K t H a F st) (s:Same H H'):SlA K t H' a F st:=h.frame λb hb=>by
 obtain⟨o,e⟩:=h.dom hb;rw[e];exact s b o e
theorem SlA.out (h:SlA K t H a F st) (e:H p=none):¬F p:=λz=>by
 obtain⟨o,q⟩:=h.dom z;rw[q]at e;cases e
theorem SlA.upd (h:SlA K t H a F st) (e:¬F p):SlA K t (L2.upd H p o) a F st:=h.frame λb hb=>ag λz=>e (z▸hb)
theorem SlA.new (h:SlA K t H a F st) (e:H p=none):SlA K t (L2.upd H p o) a F st:=h.upd (h.out e)
end
def rc (K:PySem.W.Frag) (t:Adr):Sp:=λvs H Q _=>∃(a dx:Addr),vs=[.ref a]/\H a=some (.ins t.aU dx [])/\H dx=some (.own a)/\∀H' F,SlA K t H' a F SSt.new->Fr (λb=>b=a\/b=dx) F H H'->Q .non H'
def uf (K:PySem.W.Frag) (t:Adr):Sp:=λvs H Q _=>∃(a:Addr) (k i:Int) (F:Addr->Prop) (st:SSt),vs=[.ref a,.int k,.int i]/\SlA K t H a F st/\0<=k/\st.kv.length<4096/\
 ∀H' F',SlA K t H' a F' (st.put k (.int i))->Fr F F' H H'->Q .non H'
def rf (K:PySem.W.Frag) (t:Adr):Sp:=λvs H Q E=>∃(a:Addr) (k:Int) (F:Addr->Prop) (st:SSt),vs=[.ref a,.int k]/\SlA K t H a F st/\0<=k/\
 ((aO st.kv k).isSome=true->st.kv.length<4096/\∀H' F',SlA K t H' a F' (st.drop k)->Fr F F' H H'->Q .non H')/\(aO st.kv k=none->False)
def uh (K:PySem.W.Frag) (t:Adr):Sp:=λvs H Q E=>∃(a:Addr) (k:Int) (F:Addr->Prop) (st:SSt),vs=[.ref a,.int k]/\SlA K t H a F st/\0<=k/\
 (∀v,aO st.kv k=some v->∀H' F',SlA K t H' a F' st->Fr F F' H H'->Q v H')/\(aO st.kv k=none->False)
def ug (K:PySem.W.Frag) (t:Adr):Sp:=λvs H Q _=>∃(a:Addr) (k:Int) (F:Addr->Prop) (st:SSt),vs=[.ref a,.int k]/\SlA K t H a F st/\0<=k/\
 ∀H' F',SlA K t H' a F' st->Fr F F' H H'->Q (.bl (aO st.kv k).isSome) H'
def q9 (K:PySem.W.Frag) (t:Adr):Sp:=λvs H Q _=>∃(a:Addr) (F:Addr->Prop) (st:SSt),vs=[.ref a]/\SlA K t H a F st/\∀H' F',SlA K t H' a F' st->Fr F F' H H'->Q (.int st.kv.length) H'
def qZ (K:PySem.W.Frag) (t:Adr):Sp:=λvs H Q _=>∃(a:Addr) (F:Addr->Prop) (st:SSt),vs=[.ref a]/\SlA K t H a F st/\
 ∀H' F' l,SlA K t H' a F' st->Fr F F' H H'->H l=none->¬F' l->H' l=some (.lst (st.rows.map V.int))->Q (.ref l) H'
def qd (K:PySem.W.Frag) (t:Adr):Sp:=λvs H Q _=>∃(a:Addr) (F:Addr->Prop) (st:SSt),vs=[.ref a]/\SlA K t H a F st/\∀H' F',SlA K t H' a F' st->Fr F F' H H'->Q (.int st.moved) H'
def bK (l:List Int):Prop:=l.Pairwise (· < ·)
structure LvOk (ls:List (List Int)):Prop where
 ne:∀l∈ls,l≠[]
 le:∀l∈ls,l.length<=8
 nb:∀(i:Nat) (x y:List Int),ls[i]?=some x->ls[i+1]?=some y->5<=x.length+y.length
 up:bK ls.flatten
theorem LvOk.nil:LvOk []:=⟨(λ_ h=>by cases h),(λ_ h=>by cases h),(λi x y e=>by simp at e),List.Pairwise.nil⟩
theorem HY (e:ls[i]?=some x):ls=ls.take i++x::ls.drop (i+1):=by
 obtain⟨h,e⟩:=Q2.mp e;rw[<-e,<-QQ h,QG]
theorem fG (e:ls[i]?=some x):ls.flatten=(ls.take i).flatten++(x++(ls.drop (i+1)).flatten):=by
 conv=>lhs;rw[HY e]
 rw[Zc,Zo]
theorem rise3 {a b c:List Int}:bK (a++(b++c))↔bK a/\bK b/\bK c/\(∀x∈a,∀y∈b,x<y)/\(∀x∈a,∀y∈c,x<y)/\∀x∈b,∀y∈c,x<y:=by
 unfold bK;rw[Qk,Qk];constructor
 .rintro ⟨h1,⟨h2,O,U⟩,I⟩;exact⟨h1,h2,O,λx hx y hy=>I x hx y (ZY _ hy),λx hx y hy=>I x hx y (Qv _ hy),U⟩
 .rintro ⟨h1,h2,O,U,I,Y⟩;refine⟨h1,⟨h2,O,Y⟩,λx hx y hy=>?_⟩;rcases Q5.mp hy with z|z
  .exact U x hx y z
  .exact I x hx y z
structure LeafOf (ls:List (List Int)) (k:Int) (i:Nat):Prop where
 le:i<=ls.length
 lo:∀(j:Nat) (x:List Int),j<i->ls[j]?=some x->∀y∈x,y<k
 hi:∀x,ls[i]?=some x->∃y∈x,k<=y
theorem xS {y:Int} (h:y∈(ls.take i).flatten):∃(j:Nat) (x:List Int),j<i/\ls[j]?=some x/\y∈x:=by
 obtain⟨x,hx,hy⟩:=XX.mp h;obtain⟨j,z,e⟩:=QJ hx;rw[Qe]at z;rw[ZA]at e;exact⟨j,x,by lia,Q2.mpr ⟨by lia,e⟩,hy⟩
theorem LeafOf.ahead (h:LeafOf ls k i):∀y∈(ls.take i).flatten,y<k:=λy hy=>by
 obtain⟨j,x,z,e,hx⟩:=xS hy;exact h.lo j x z e y hx
theorem LeafOf.behind (o:LvOk ls) (h:LeafOf ls k i):∀y∈(ls.drop (i+1)).flatten,k<y:=λy hy=>by
 cases e:ls[i]? with
 |none=>
  have:ls.length<=i:=Z5.mp e;rw[Ze (by lia)]at hy;cases hy
 |some x=>
  obtain⟨z,hz,le⟩:=h.hi x e;have I:=o.up;rw[fG e]at I;have:=(rise3.mp I).2.2.2.2.2 z hz y hy;lia
theorem LeafOf.mem (o:LvOk ls) (h:LeafOf ls k i):k∈ls.flatten↔∃x,ls[i]?=some x/\k∈x:=by
 constructor
 .intro hk;cases e:ls[i]? with
  |none=>
   have l:ls.length<=i:=Z5.mp e;have:ls.take i=ls:=Qr l;have:=h.ahead k (by rw[this];exact hk);lia
  |some x=>
   rw[fG e]at hk;rcases Q5.mp hk with z|z
   .have:=h.ahead k z;lia
   .rcases Q5.mp z with z|z
    .exact⟨x,rfl,z⟩
    .have:=h.behind o k z;lia
 .rintro ⟨x,e,hk⟩;exact XX.mpr ⟨x,Q1 e,hk⟩
theorem yU:∀{l:List Int} {k:Int},bK l->k∉l->(∀x∈l.take (l.filter (λz=>decide (z<k))).length,x<k)/\∀x∈l.drop (l.filter (λz=>decide (z<k))).length,k<x
 | [],k,_,_=>⟨λx h=>by simp at h,λx h=>by simp at h⟩
 |a::r,k,up,nk=>by
  obtain⟨h1,h2⟩:=Zl.mp up;have I:k∉r:=λz=>nk (Q8 _ z);have Y:a≠k:=λz=>nk (by rw[z];exact Q6);by_cases c:a<k
  .obtain⟨O,U⟩:=yU h2 I;rw[ZV,if_pos (by simpa using c),Qf,List.take_succ_cons,List.drop_succ_cons];refine⟨λx hx=>?_,U⟩;rcases Qg.mp hx with rfl|hx
   .exact c
   .exact O x hx
  .have:(a::r).filter (λz=>decide (z<k))=[]:=by
    rw[List.filter_eq_nil_iff];intro x hx;rcases Qg.mp hx with rfl|hx
    .simpa using c
    .have:=h1 x hx;simp;lia
   rw[this];refine⟨λx hx=>by simp at hx,λx hx=>?_⟩;have hx:x∈a::r:=by simpa using hx
   rcases Qg.mp hx with rfl|hx
   .lia
   .have:=h1 x hx;lia
def eY (l:List Int) (k:Int):List Int:=l.take (l.filter (λz=>decide (z<k))).length++k::l.drop (l.filter (λz=>decide (z<k))).length
theorem DY:(eY l k).length=l.length+1:=by
 have h:=QF (λz=>decide (z<k)) l;unfold eY;rw[Qd,Qf,Qe,QD];lia
theorem insL_mem {x:Int}:x∈eY l k↔x=k\/x∈l:=by
 unfold eY;rw[Q5,Qg];have:x∈l↔x∈l.take (l.filter (λz=>decide (z<k))).length\/x∈l.drop (l.filter (λz=>decide (z<k))).length:=by
  rw[<-Q5,QG]
 rw[this];constructor
 .rintro (h|h|h)
  .exact .inr (.inl h)
  .exact .inl h
  .exact .inr (.inr h)
 .rintro (h|h|h)
  .exact .inr (.inl h)
  .exact .inl h
  .exact .inr (.inr h)
theorem Cn (O:bK l) (U:k∉l):bK (eY l k):=by
 obtain⟨h1,h2⟩:=yU O U;have I:bK (l.take (l.filter (λz=>decide (z<k))).length++l.drop (l.filter (λz=>decide (z<k))).length):=by rw[QG];exact O
 obtain⟨Y,Z,u3⟩:=Qk.mp I;unfold eY;refine Qk.mpr ⟨Y,Zl.mpr ⟨h2,Z⟩,λx hx y hy=>?_⟩;rcases Qg.mp hy with rfl|hy
 .exact h1 x hx
 .exact u3 x hx y hy
structure AddAt (ls:List (List Int)) (k:Int) (i:Nat) (x:List Int):Prop where
 at_:ls[i]?=some x
 lo:∀y∈(ls.take i).flatten,y<k
 hi:∀y∈(ls.drop (i+1)).flatten,k<y
theorem LeafOf.add (o:LvOk ls) (h:LeafOf ls k i) (I:ls≠[]):∃x,AddAt ls k (min i (ls.length-1)) x:=by
 have hl:0<ls.length:=Z4.mpr I;by_cases c:i<ls.length
 .have:min i (ls.length-1)=i:=by lia
  rw[this];exact⟨ls[i],Q3 c,h.ahead,h.behind o⟩
 .have le:=h.le;have:min i (ls.length-1)=ls.length-1:=by lia
  rw[this];have z:ls.length-1<ls.length:=by lia
  refine⟨ls[ls.length-1],Q3 z,λy hy=>?_,λy hy=>?_⟩
  .obtain⟨j,x,O,e,hx⟩:=xS hy;exact h.lo j x (by lia) e y hx
  .rw[Ze (by lia)]at hy;cases hy
theorem wo (e:ls[i]?=some x):ls.set i y=ls.take i++y::ls.drop (i+1):=by
 have hi:=(Q2.mp e).1;rw[List.set_eq_take_append_cons_drop,if_pos hi]
theorem nG (e:ls[i]?=some x):(ls.set i y).flatten=(ls.take i).flatten++(y++(ls.drop (i+1)).flatten):=by
 rw[wo e,Zc,Zo]
theorem AddAt.set (o:LvOk ls) (h:AddAt ls k i x) (I:k∉ls.flatten):bK (ls.set i (eY x k)).flatten/\∀z,z∈(ls.set i (eY x k)).flatten↔z=k\/z∈ls.flatten:=by
 have O:=o.up;rw[fG h.at_]at O I;obtain⟨U,Y,Z,u4,u5,u6⟩:=rise3.mp O;have nx:k∉x:=λz=>I (Qv _ (ZY _ z));rw[nG h.at_,fG h.at_];refine⟨rise3.mpr ⟨U,Cn Y nx,Z,λa ha b hb=>?_,u5,λa ha b hb=>?_⟩,λz=>?_⟩
 .rcases insL_mem.mp hb with rfl|hb
  .exact h.lo a ha
  .exact u4 a ha b hb
 .rcases insL_mem.mp ha with rfl|ha
  .exact h.hi b hb
  .exact u6 a ha b hb
 .rw[Q5,Q5,Q5,Q5,insL_mem];constructor
  .rintro (h|(h|h)|h)
   .exact .inr (.inl h)
   .exact .inl h
   .exact .inr (.inr (.inl h))
   .exact .inr (.inr (.inr h))
  .rintro (h|h|h|h)
   .exact .inr (.inl (.inl h))
   .exact .inl h
   .exact .inr (.inl (.inr h))
   .exact .inr (.inr h)
theorem oi {z:List Int} (e:ls[i]?=some x) (f:(ls.set i y)[j]?=some z):(i=j/\z=y)\/(i≠j/\ls[j]?=some z):=by
 rw[Qy]at f;by_cases c:i=j
 .rw[if_pos c]at f;split at f
  .cases f;exact .inl ⟨c,rfl⟩
  .cases f
 .rw[if_neg c]at f;exact .inr ⟨c,f⟩
theorem qG {z:List Int} (e:ls[i]?=some x) (h:z∈ls.set i y):z=y\/z∈ls:=by
 obtain⟨j,I,O⟩:=QJ h;rcases oi e (Q2.mpr ⟨I,O⟩)with⟨_,q⟩|⟨_,q⟩
 .exact .inl q
 .exact .inr (Q1 q)
theorem LvOk.grown (o:LvOk ls) (e:ls[i]?=some x) (l1:x.length<=y.length) (U:y.length<=8) (Y:bK (ls.set i y).flatten):LvOk (ls.set i y):=by
 have hx:=o.ne x (Q1 e);have px:0<x.length:=Z4.mpr hx;refine⟨λl hl=>?_,λl hl=>?_,λj a b f g=>?_,Y⟩
 .rcases qG e hl with rfl|hl
  .exact Zn (by lia)
  .exact o.ne l hl
 .rcases qG e hl with rfl|hl
  .exact U
  .exact o.le l hl
 .rcases oi e f with⟨c,h1⟩|⟨c,z⟩<;>rcases oi e g with⟨I,h2⟩|⟨I,O⟩
  .lia
  .subst c;have:=o.nb i x b e O;rw[h1];lia
  .rw[I]at e;have:=o.nb j a x z e;rw[h2];lia
  .exact o.nb j a b z O
theorem LvOk.parted {a b:List Int} (o:LvOk ls) (e:ls[i]?=some x) (Z:a.length=4) (lb:b.length=5) (U:bK (ls.set i (a++b)).flatten):
  LvOk ((ls.set i a).take (i+1)++b::(ls.set i a).drop (i+1))/\((ls.set i a).take (i+1)++b::(ls.set i a).drop (i+1)).flatten=(ls.set i (a++b)).flatten:=by
 have hi:=(Q2.mp e).1;have lt:(ls.take i).length=i:=by rw[Qe];lia
 have Y:(ls.set i a).take (i+1)++b::(ls.set i a).drop (i+1)=ls.take i++a::b::ls.drop (i+1):=by
  rw[wo (y:=a) e];have h1:(ls.take i++a::ls.drop (i+1)).take (i+1)=ls.take i++ [a]:=by
   rw[List.take_append,lt,Qr (by lia)];have:i+1-i=1:=by lia
   rw[this];rfl
  have h2:(ls.take i++a::ls.drop (i+1)).drop (i+1)=ls.drop (i+1):=by
   rw[List.drop_append,lt,Ze (by lia)];have:i+1-i=1:=by lia
   rw[this];rfl
  rw[h1,h2,Qm];rfl
 have e2:(ls.take i++a::b::ls.drop (i+1)).flatten=(ls.set i (a++b)).flatten:=by
  rw[nG e,Zc,Zo,Zo,Qm]
 rw[Y];refine⟨⟨λl hl=>?_,λl hl=>?_,λj p q f g=>?_,by rw[e2];exact U⟩,e2⟩
 .rcases Q5.mp hl with h|h
  .exact o.ne l (QP h)
  .rcases Qg.mp h with rfl|h
   .exact Zn (by lia)
   .rcases Qg.mp h with rfl|h
    .exact Zn (by lia)
    .exact o.ne l (X0 h)
 .rcases Q5.mp hl with h|h
  .exact o.le l (QP h)
  .rcases Qg.mp h with rfl|h
   .lia
   .rcases Qg.mp h with rfl|h
    .lia
    .exact o.le l (X0 h)
 .have look:∀(j:Nat) (p:List Int),(ls.take i++a::b::ls.drop (i+1))[j]?=some p->(j<i/\ls[j]?=some p)\/(j=i/\p=a)\/(j=i+1/\p=b)\/(i+2<=j/\ls[j-1]?=some p):=λj p f=>by
   rw[Xn,lt]at f;split at f
   .rename_i c
    rw[List.getElem?_take,if_pos c]at f;exact .inl ⟨c,f⟩
   .rename_i c
    rcases(show j=i\/j=i+1\/i+2<=j by lia)with rfl|rfl|h
    .have:j-j=0:=by lia
     rw[this]at f;cases f;exact .inr (.inl ⟨rfl,rfl⟩)
    .have:i+1-i=1:=by lia
     rw[this]at f;cases f;exact .inr (.inr (.inl ⟨rfl,rfl⟩))
    .obtain⟨n,rfl⟩:∃n,j=i+2+n:=⟨j-(i+2),by lia⟩;have:i+2+n-i=n+1+1:=by lia
     rw[this,ZO,ZO,X7]at f;refine .inr (.inr (.inr ⟨h,?_⟩));have:i+2+n-1=i+1+n:=by lia
     rw[this];exact f
  have pos:∀(j:Nat) (p:List Int),ls[j]?=some p->1<=p.length:=λj p f=>Z4.mpr (o.ne p (Q1 f));rcases look j p f with⟨c,z⟩|⟨c,h1⟩|⟨c,h1⟩|⟨c,z⟩<;>rcases look (j+1) q g with⟨O,I⟩|⟨O,h2⟩|⟨O,h2⟩|⟨O,I⟩<;>(try rw[h1])<;>(try rw[h2])<;>(try lia)
  .exact o.nb j p q z I
  .have:=pos j p z;lia
  .have:j+1-1=j-1+1:=by lia
   rw[this]at I;exact o.nb (j-1) p q z I
def lvF (L:Addr):List (Str×V):=[("leaves",.ref L)]
theorem cK {L:Addr}:(lvF L).lookup ("leaves":Str)=some (.ref L):=by
 have hb:(("leaves":Str)==("leaves":Str))=true:=beq_iff_eq.mpr rfl;unfold lvF;simp only[List.lookup,hb]
theorem GD {L:Addr} {m:Str} (h:m≠("leaves":Str)):(lvF L).lookup m=none:=by
 have hb:(m==("leaves":Str))=false:=beq_eq_false_iff_ne.mpr h;unfold lvF;simp only[List.lookup,hb]
structure LvB (t:Adr) (H:Hp) (a L:Addr) (A:List Addr) (ls:List (List Int)):Prop where
 obj:∃dx,H a=some (.ins t.bn dx (lvF L))
 lst:H L=some (.lst (A.map V.ref))
 len:A.length=ls.length
 leaf:∀(j:Nat) (b:Addr) (l:List Int),A[j]?=some b->ls[j]?=some l->H b=some (.lst (l.map V.int))
 inj:∀(i j:Nat) (b:Addr),A[i]?=some b->A[j]?=some b->i=j
 nL:L∉A
def LvF (a L:Addr) (A:List Addr):Addr->Prop:=λb=>b=a\/b=L\/b∈A
section
variable {L:Addr}
theorem LvB.at (h:LvB t H a L A ls) (e:ls[i]?=some x):∃c,A[i]?=some c/\H c=some (.lst (x.map V.int)):=by
 have hi:i<A.length:=by rw[h.len];exact(Q2.mp e).1
 exact⟨A[i],Q3 hi,h.leaf i _ x (Q3 hi) e⟩
theorem LvB.has (h:LvB t H a L A ls) (hb:b∈A):∃(j:Nat) (l:List Int),A[j]?=some b/\ls[j]?=some l/\H b=some (.lst (l.map V.int)):=by
 obtain⟨j,z,e⟩:=QJ hb;have hc:j<ls.length:=by rw[<-h.len];exact z
 have I:A[j]?=some b:=by rw[Q3 z,e]
 exact⟨j,ls[j],I,Q3 hc,h.leaf j b _ I (Q3 hc)⟩
theorem LvB.frame (h:LvB t H a L A ls) (f:∀b,LvF a L A b->H' b=H b):LvB t H' a L A ls:=by
 obtain⟨dx,I⟩:=h.obj;exact⟨⟨dx,by rw[f a (.inl rfl)];exact I⟩,by rw[f L (.inr (.inl rfl))];exact h.lst,h.len,λj b l z e2=>by rw[f b (.inr (.inr (Q1 z)))];exact h.leaf j b l z e2,h.inj,h.nL⟩
theorem LvB.dom (h:LvB t H a L A ls) (hb:LvF a L A b):∃o,H b=some o:=by
 obtain⟨dx,z⟩:=h.obj;rcases hb with rfl|rfl|hb
 .exact⟨_,z⟩
 .exact⟨_,h.lst⟩
 .obtain⟨_,_,_,_,q⟩:=h.has hb;exact⟨_,q⟩
theorem LvB.same (h:LvB t H a L A ls) (s:Same H H'):LvB t H' a L A ls:=h.frame λb hb=>by
 obtain⟨o,e⟩:=h.dom hb;rw[e,s b o e]
theorem LvB.out (h:LvB t H a L A ls) (n:H p=none):¬LvF a L A p:=λz=>by
 obtain⟨o,e⟩:=h.dom z;rw[n]at e;cases e
theorem LvB.write (h:LvB t H a L A ls) (I:A[i]?=some c) (ex:ls[i]?=some x):LvB t (upd H c (.lst (y.map V.int))) a L A (ls.set i y):=by
 obtain⟨dx,U⟩:=h.obj;have hc:=h.leaf i c x I ex;have Y:=Q1 I;refine⟨⟨dx,by rw[ag (bZ U hc (by intro z;cases z))];exact U⟩,by rw[ag (λz=>h.nL (by rw[z];exact Y))];exact h.lst,by rw[QK];exact h.len,λj b l O e2=>?_,h.inj,h.nL⟩;rw[Qy]at e2;by_cases z:i=j
 .subst z;rw[I]at O;cases O;rw[if_pos rfl]at e2;split at e2
  .cases e2;exact ai
  .cases e2
 .rw[if_neg z]at e2;rw[ag (λy=>z (h.inj i j c I (by rw[<-y];exact O)))];exact h.leaf j b l O e2
theorem LvB.swap (h:LvB t H a L A ls) {n:Addr} (ec:A[i]?=some c) (ex:ls[i]?=some x) (Z:H n=some (.lst (y.map V.int))) (O:¬LvF a L A n):LvB t (upd H L (.lst ((A.set i n).map V.ref))) a L (A.set i n) (ls.set i y):=by
 obtain⟨dx,U⟩:=h.obj;have nA:n∉A:=λz=>O (.inr (.inr z));have Y:n≠L:=λz=>O (.inr (.inl z));refine⟨⟨dx,by rw[ag (bZ U h.lst (by intro z;cases z))];exact U⟩,ai,by rw[QK,QK];exact h.len,λj b l I e2=>?_,λj k b I e2=>?_,λz=>?_⟩
 .rw[Qy]at I e2;by_cases z:i=j
  .rw[if_pos z]at I e2;split at I
   .cases I;split at e2
    .cases e2;rw[ag Y];exact Z
    .cases e2
   .cases I
  .rw[if_neg z]at I e2;rw[ag (λy=>h.nL (by rw[<-y];exact Q1 I))];exact h.leaf j b l I e2
 .rw[Qy]at I e2;by_cases z:i=j
  .rw[if_pos z]at I;split at I
   .cases I;by_cases w:i=k
    .exact z.symm.trans w
    .rw[if_neg w]at e2;exact absurd (Q1 e2) nA
   .cases I
  .rw[if_neg z]at I;by_cases w:i=k
   .rw[if_pos w]at e2;split at e2
    .cases e2;exact absurd (Q1 I) nA
    .cases e2
   .rw[if_neg w]at e2;exact h.inj j k b I e2
 .obtain⟨j,hj,e⟩:=QJ z;have I:=Q2.mpr ⟨hj,e⟩;rw[Qy]at I;by_cases w:i=j
  .rw[if_pos w]at I;split at I
   .cases I;exact Y rfl
   .cases I
  .rw[if_neg w]at I;exact h.nL (Q1 I)
theorem ins_get {l:List α} {x y:α} (hi:i<=l.length) (e:(l.take i++x::l.drop i)[j]?=some y):(j<i/\l[j]?=some y)\/(j=i/\y=x)\/(i<j/\l[j-1]?=some y):=by
 have lt:(l.take i).length=i:=by rw[Qe];lia
 rw[Xn,lt]at e;split at e
 .rename_i c
  rw[List.getElem?_take,if_pos c]at e;exact .inl ⟨c,e⟩
 .rename_i c
  rcases(show j=i\/i<j by lia)with rfl|h
  .have:j-j=0:=by lia
   rw[this]at e;cases e;exact .inr (.inl ⟨rfl,rfl⟩)
  .obtain⟨n,rfl⟩:∃n,j=i+1+n:=⟨j-(i+1),by lia⟩;have:i+1+n-i=n+1:=by lia
   rw[this,ZO,X7]at e;have:i+1+n-1=i+n:=by lia
   exact .inr (.inr ⟨h,by rw[this];exact e⟩)
theorem LvB.insert (h:LvB t H a L A ls) {n:Addr} (hi:i<=A.length) (hn:H n=some (.lst (y.map V.int))) (nF:¬LvF a L A n):
  LvB t (upd H L (.lst ((A.take i++n::A.drop i).map V.ref))) a L (A.take i++n::A.drop i) (ls.take i++y::ls.drop i):=by
 obtain⟨dx,ho⟩:=h.obj;have nA:n∉A:=λz=>nF (.inr (.inr z));have nL:n≠L:=λz=>nF (.inr (.inl z));have Z:i<=ls.length:=by rw[<-h.len];exact hi
 refine⟨⟨dx,by rw[ag (bZ ho h.lst (by intro z;cases z))];exact ho⟩,ai,?_,λj b l e1 e2=>?_,λj k b e1 e2=>?_,λz=>?_⟩
 .have:=h.len;rw[Qd,Qd,Qf,Qf,Qe,Qe,QD,QD];lia
 .rcases ins_get hi e1 with⟨U,I⟩|⟨U,I⟩|⟨U,I⟩<;>rcases ins_get Z e2 with⟨Y,O⟩|⟨Y,O⟩|⟨Y,O⟩<;>(try lia)
  .rw[ag (λy=>h.nL (by rw[<-y];exact Q1 I))];exact h.leaf j b l I O
  .rw[I,O,ag nL];exact hn
  .rw[ag (λy=>h.nL (by rw[<-y];exact Q1 I))];exact h.leaf (j-1) b l I O
 .rcases ins_get hi e1 with⟨U,I⟩|⟨U,I⟩|⟨U,I⟩<;>rcases ins_get hi e2 with⟨Y,O⟩|⟨Y,O⟩|⟨Y,O⟩
  .exact h.inj j k b I O
  .rw[O]at I;exact absurd (Q1 I) nA
  .have:=h.inj _ _ b I O;lia
  .rw[I]at O;exact absurd (Q1 O) nA
  .lia
  .rw[I]at O;exact absurd (Q1 O) nA
  .have:=h.inj _ _ b I O;lia
  .rw[O]at I;exact absurd (Q1 I) nA
  .have:=h.inj _ _ b I O;lia
 .rcases Q5.mp z with z|z
  .exact h.nL (QP z)
  .rcases Qg.mp z with z|z
   .exact nL z.symm
   .exact h.nL (X0 z)
theorem kZ {l:List α} {y:α} (e:(l.eraseIdx i)[j]?=some y):(j<i/\l[j]?=some y)\/(i<=j/\l[j+1]?=some y):=by
 rw[List.getElem?_eraseIdx]at e;split at e
 .rename_i c;exact .inl ⟨c,e⟩
 .rename_i c;exact .inr ⟨by lia,e⟩
theorem LvB.erase (h:LvB t H a L A ls):LvB t (upd H L (.lst ((A.eraseIdx i).map V.ref))) a L (A.eraseIdx i) (ls.eraseIdx i):=by
 obtain⟨dx,ho⟩:=h.obj;refine⟨⟨dx,by rw[ag (bZ ho h.lst (by intro z;cases z))];exact ho⟩,ai,?_,λj b l U e2=>?_,λj k b U e2=>?_,λz=>h.nL (Z8 z)⟩
 .rw[Xo,Xo,h.len]
 .have bA:b∈A:=Z8 (Q1 U);rw[ag (λy=>h.nL (by rw[<-y];exact bA))];rcases kZ U with⟨Y,I⟩|⟨Y,I⟩<;>rcases kZ e2 with⟨Z,O⟩|⟨Z,O⟩<;>(try lia)
  .exact h.leaf j b l I O
  .exact h.leaf (j+1) b l I O
 .rcases kZ U with⟨Y,I⟩|⟨Y,I⟩<;>rcases kZ e2 with⟨Z,O⟩|⟨Z,O⟩
  .exact h.inj j k b I O
  .have:=h.inj _ _ b I O;lia
  .have:=h.inj _ _ b I O;lia
  .have:=h.inj _ _ b I O;lia
end
theorem vc (z:bK ls.flatten) (ex:ls[i]?=some x) (I:ls[j]?=some y) (h:i<j):∀p∈x,∀q∈y,p<q:=λp hp q hq=>by
 rw[fG ex]at z;refine(rise3.mp z).2.2.2.2.2 p hp q (XX.mpr ⟨y,?_,hq⟩);refine Q1 (i:=j-(i+1)) ?_;rw[X7];have:i+1+(j-(i+1))=j:=by lia
 rw[this];exact I
theorem Fj (z:bK ls.flatten) (ex:ls[i]?=some x):bK x:=by
 rw[fG ex]at z;exact(rise3.mp z).2.1
theorem DT (I:bK x) (O:x≠[]):∃m,x[x.length-1]?=some m/\m∈x/\∀y∈x,y<=m:=by
 have hl:=Z4.mpr O;have z:x.length-1<x.length:=by lia
 refine⟨x[x.length-1],Q3 z,Zr z,λy hy=>?_⟩;obtain⟨j,U,e⟩:=QJ hy;rcases(show j=x.length-1\/j<x.length-1 by lia)with h|h
 .subst h;rw[e];exact X8 _
 .have:=ZL.mp I j (x.length-1) U z h;rw[e]at this;lia
structure LvN (ls:List (List Int)) (E:Nat->Prop):Prop where
 ne:∀l∈ls,l≠[]
 le:∀l∈ls,l.length<=8
 nb:∀(i:Nat) (x y:List Int),ls[i]?=some x->ls[i+1]?=some y->E i\/5<=x.length+y.length
 up:bK ls.flatten
theorem LvN.ok (h:LvN ls E) (z:∀i,¬E i):LvOk ls:=⟨h.ne,h.le,λi x y I e2=>(h.nb i x y I e2).resolve_left (z i),h.up⟩
def lM (ls:List (List Int)) (i:Nat):List (List Int):=match ls[i]?,ls[i+1]? with
 |some x,some y=>if x.length+y.length<5 then(ls.set i (x++y)).eraseIdx (i+1)else ls
 |_,_=>ls
theorem sX (h:ls.length<=i+1):lM ls i=ls:=by
 unfold lM;have:ls[i+1]?=none:=Z5.mpr h;rw[this];split
 .rename_i h2;cases h2
 .rfl
theorem yF (ex:ls[i]?=some x) (z:ls[i+1]?=some y):lM ls i=if x.length+y.length<5 then(ls.set i (x++y)).eraseIdx (i+1)else ls:=by
 unfold lM;rw[ex,z]
theorem Cl:(lM ls i).length<=ls.length/\ls.length<=(lM ls i).length+1:=by
 unfold lM;split
 .split
  .rw[Xo,QK];split<;>lia
  .lia
 .lia
theorem sW {z v:List Int} (e:((ls.set i z).eraseIdx (i+1))[j]?=some v):(j<i/\ls[j]?=some v)\/(j=i/\v=z)\/(i<j/\ls[j+1]?=some v):=by
 rw[List.getElem?_eraseIdx]at e;split at e
 .rename_i c
  rw[Qy]at e;by_cases h:i=j
  .rw[if_pos h]at e;split at e
   .cases e;exact .inr (.inl ⟨h.symm,rfl⟩)
   .cases e
  .rw[if_neg h]at e;exact .inl ⟨by lia,e⟩
 .rename_i c
  rw[Qy,if_neg (by lia)]at e;exact .inr (.inr ⟨by lia,e⟩)
theorem Ck (ex:ls[i]?=some x) (z:ls[i+1]?=some y):((ls.set i (x++y)).eraseIdx (i+1)).flatten=ls.flatten:=by
 have hi:=(Q2.mp ex).1;have lt:(ls.take i).length=i:=by rw[Qe];lia
 have hy:ls.drop (i+1)=y::ls.drop (i+2):=by
  obtain⟨h,e⟩:=Q2.mp z;rw[<-e,<-QQ h]
 have I:(ls.set i (x++y)).eraseIdx (i+1)=ls.take i++(x++y)::ls.drop (i+2):=by
  rw[wo ex,hy,XB (by lia),lt];have:i+1-i=1:=by lia
  rw[this];rfl
 rw[I,fG ex,hy,Zc,Zo,Zo,Qm]
theorem LvN.join (h:LvN ls E) (O:∀j,E j->j=i\/j+1=i):LvN (lM ls i) (λj=>j+1=i/\E j)/\(lM ls i).flatten=ls.flatten:=by
 cases ex:ls[i]? with
 |none=>
  have hl:ls.length<=i:=Z5.mp ex;rw[sX (by lia)];refine⟨⟨h.ne,h.le,λj x y I e2=>?_,h.up⟩,rfl⟩;rcases h.nb j x y I e2 with z|z
  .rcases O j z with rfl|w
   .rw[ex]at I;cases I
   .exact .inl ⟨w,z⟩
  .exact .inr z
 |some x=>
  cases U:ls[i+1]? with
  |none=>
   have hl:ls.length<=i+1:=Z5.mp U;rw[sX hl];refine⟨⟨h.ne,h.le,λj x' y I e2=>?_,h.up⟩,rfl⟩;rcases h.nb j x' y I e2 with z|z
   .rcases O j z with rfl|w
    .rw[U]at e2;cases e2
    .exact .inl ⟨w,z⟩
   .exact .inr z
  |some y=>
   rw[yF ex U];by_cases c:x.length+y.length<5
   .rw[if_pos c];have fl:=Ck ex U;have mem:∀v∈(ls.set i (x++y)).eraseIdx (i+1),v=x++y\/v∈ls:=λv hv=>by
     obtain⟨j,hj,e⟩:=QJ hv;rcases sW (Q2.mpr ⟨hj,e⟩)with⟨_,q⟩|⟨_,q⟩|⟨_,q⟩
     .exact .inr (Q1 q)
     .exact .inl q
     .exact .inr (Q1 q)
    have px:=Z4.mpr (h.ne x (Q1 ex));have a0:(x++y).length=x.length+y.length:=Qd;refine⟨⟨λv hv=>?_,λv hv=>?_,λj u v I e2=>?_,by rw[fl];exact h.up⟩,fl⟩
    .rcases mem v hv with rfl|q
     .exact Zn (by lia)
     .exact h.ne v q
    .rcases mem v hv with rfl|q
     .lia
     .exact h.le v q
    .rcases sW I with⟨c1,Y⟩|⟨c1,Y⟩|⟨c1,Y⟩<;>rcases sW e2 with⟨c2,Z⟩|⟨c2,Z⟩|⟨c2,Z⟩<;>(try lia)
     .rcases h.nb j u v Y Z with z|z
      .rcases O j z with w|w
       .lia
       .lia
      .exact .inr z
     .rcases h.nb j u x Y (by rw[c2];exact ex)with z|z
      .exact .inl ⟨c2,z⟩
      .rw[Z];exact .inr (by lia)
     .have e3:ls[i+1+1]?=some v:=by rw[<-c1];exact Z
      rcases h.nb (i+1) y v U e3 with z|z
      .rcases O (i+1) z with w|w<;>lia
      .rw[Y];exact .inr (by lia)
     .rcases h.nb (j+1) u v Y Z with z|z
      .rcases O (j+1) z with w|w<;>lia
      .exact .inr z
   .rw[if_neg c];refine⟨⟨h.ne,h.le,λj u v I e2=>?_,h.up⟩,rfl⟩;rcases h.nb j u v I e2 with z|z
    .rcases O j z with w|w
     .subst w;rw[ex]at I;rw[U]at e2;cases I;cases e2;exact .inr (by lia)
     .exact .inl ⟨w,z⟩
    .exact .inr z
theorem zT (h:bK l):l.Nodup:=h.imp λh=>ZR h
theorem LvOk.gone (o:LvOk ls) (ex:ls[i]?=some x) (hk:k∈x):bK (ls.set i (x.erase k)).flatten/\∀z,z∈(ls.set i (x.erase k)).flatten↔z≠k/\z∈ls.flatten:=by
 have I:=o.up;rw[fG ex]at I;obtain⟨Z,O,u3,U,u5,Y⟩:=rise3.mp I;have sub:(x.erase k).Sublist x:=List.erase_sublist;have nx:=zT O;rw[nG ex,fG ex];refine⟨rise3.mpr ⟨Z,O.sublist sub,u3,λa ha b hb=>U a ha b (sub.subset hb),u5,λa ha b hb=>Y a (sub.subset ha) b hb⟩,λz=>?_⟩;rw[Q5,Q5,Q5,Q5,nx.mem_erase_iff];constructor
 .rintro (h|⟨h1,h2⟩|h)
  .have:=U z h k hk;exact⟨by lia,.inl h⟩
  .exact⟨h1,.inr (.inl h2)⟩
  .have:=Y k hk z h;exact⟨by lia,.inr (.inr h)⟩
 .rintro ⟨h0,h|h|h⟩
  .exact .inl h
  .exact .inr (.inl ⟨h0,h⟩)
  .exact .inr (.inr h)
theorem LvOk.shrunk (o:LvOk ls) (ex:ls[i]?=some x) (I:y≠[]) (Z:y.length<=x.length) (O:bK (ls.set i y).flatten):LvN (ls.set i y) (λj=>j=i\/j+1=i):=by
 have hx:=o.le x (Q1 ex);refine⟨λl hl=>?_,λl hl=>?_,λj a b f g=>?_,O⟩
 .rcases qG ex hl with rfl|hl
  .exact I
  .exact o.ne l hl
 .rcases qG ex hl with rfl|hl
  .lia
  .exact o.le l hl
 .rcases oi ex f with⟨c,_⟩|⟨c,U⟩
  .exact .inl (.inl c.symm)
  .rcases oi ex g with⟨z,_⟩|⟨z,Y⟩
   .exact .inl (.inr z.symm)
   .exact .inr (o.nb j a b U Y)
theorem LvOk.out (o:LvOk ls) (ex:ls[i]?=some x) (lx:x.length=1) (O:bK (ls.set i []).flatten):LvOk (ls.eraseIdx i)/\(ls.eraseIdx i).flatten=(ls.set i []).flatten:=by
 have hi:=(Q2.mp ex).1;have lt:(ls.take i).length=i:=by rw[Qe];lia
 have U:ls.eraseIdx i=ls.take i++ls.drop (i+1):=List.eraseIdx_eq_take_drop_succ _ _;have fl:(ls.eraseIdx i).flatten=(ls.set i []).flatten:=by
  rw[U,nG ex,Zc];rfl
 refine⟨⟨λl hl=>o.ne l (Z8 hl),λl hl=>o.le l (Z8 hl),λj a b f g=>?_,by rw[fl];exact O⟩,fl⟩;rcases kZ f with⟨Y,z⟩|⟨Y,z⟩<;>rcases kZ g with⟨Z,I⟩|⟨Z,I⟩
 .exact o.nb j a b z I
 .have e2:j+1=i:=by lia
  subst e2;have h1:=o.nb j a x z ex;have h2:=o.nb (j+1) x b ex I;lia
 .lia
 .exact o.nb (j+1) a b z I
def LvA (_K:PySem.W.Frag) (t:Adr) (H:Hp) (a:Addr) (F:Addr->Prop) (ks:List Int):Prop:=∃L A ls,LvB t H a L A ls/\LvOk ls/\ls.flatten=ks/\∀b,F b↔LvF a L A b
section
theorem LvA.ins (h:LvA K t H a F ks):∃dx fs,H a=some (.ins t.bn dx fs)/\∀m,m≠("leaves":Str)->fs.lookup m=none:=by
 obtain⟨L,A,ls,hb,_⟩:=h;obtain⟨dx,z⟩:=hb.obj;exact⟨dx,_,z,λm I=>GD I⟩
theorem LvA.dom (h:LvA K t H a F ks) (hb:F b):∃o,H b=some o:=by
 obtain⟨L,A,ls,h1,_,_,h2⟩:=h;exact h1.dom ((h2 b).mp hb)
theorem LvA.frame (h:LvA K t H a F ks) (f:∀b,F b->H' b=H b):LvA K t H' a F ks:=by
 obtain⟨L,A,ls,h1,z,I,h2⟩:=h;exact⟨L,A,ls,h1.frame λb hb=>f b ((h2 b).mpr hb),z,I,h2⟩
theorem LvA.out (h:LvA K t H a F ks) (e:H p=none):¬F p:=λz=>by
 obtain⟨o,q⟩:=h.dom z;rw[q]at e;cases e
theorem LvA.upd (h:LvA K t H a F ks) (e:¬F p):LvA K t (L2.upd H p o) a F ks:=h.frame λb hb=>ag λz=>e (z▸hb)
end
def qe (K:PySem.W.Frag) (t:Adr):Sp:=λvs H Q _=>∃(a dx:Addr),vs=[.ref a]/\H a=some (.ins t.bn dx [])/\H dx=some (.own a)/\∀H' F,LvA K t H' a F []->Fr (λb=>b=a\/b=dx) F H H'->Q .non H'
def rj (K:PySem.W.Frag) (t:Adr):Sp:=λvs H Q _=>∃(a:Addr) (k:Int) (F:Addr->Prop) (ks:List Int),vs=[.ref a,.int k]/\LvA K t H a F ks/\∀H' F',LvA K t H' a F' ks->Fr F F' H H'->Q (.bl (decide (k∈ks))) H'
def rn (K:PySem.W.Frag) (t:Adr):Sp:=λvs H Q E=>∃(a:Addr) (k:Int) (F:Addr->Prop) (ks:List Int),vs=[.ref a,.int k]/\LvA K t H a F ks/\ks.length<4096/\
 (k∉ks->∀H' F' ks',LvA K t H' a F' ks'->(∀z,z∈ks'↔z=k\/z∈ks)->Fr F F' H H'->Q .non H')/\(k∈ks->False)
def mE (K:PySem.W.Frag) (t:Adr):Sp:=λvs H Q E=>∃(a:Addr) (k:Int) (F:Addr->Prop) (ks:List Int),vs=[.ref a,.int k]/\LvA K t H a F ks/\ks.length<4096/\
 (k∈ks->∀H' F' ks',LvA K t H' a F' ks'->(∀z,z∈ks'↔z≠k/\z∈ks)->Fr F F' H H'->Q .non H')/\(k∉ks->False)
theorem LvOk.short (o:LvOk ls):ls.length<=ls.flatten.length:=by
 have h:=o.ne;clear o
 induction ls with
 |nil=>exact Q4 _
 |cons x r z=>
  have:=Z4.mpr (h x Q6);have:=z λl hl=>h l (Q8 _ hl);rw[Zo,Qd,Qf];lia
def mD (K:PySem.W.Frag) (t:Adr):Sp:=λvs H Q _=>∃(a:Addr) (k n:Int) (F:Addr->Prop) (ks:List Int),vs=[.ref a,.int k,.int n]/\LvA K t H a F ks/\ks.length<4096/\0<=n/\
 ∀(H':Hp) (l:Addr),Same H H'->H l=none->H' l=some (.lst (((ks.filter λz=>decide (k<=z)).take n.toNat).map V.int))->Q (.ref l) H'
theorem kH {n:Int} (h:0<=n):ox xs none (some n)=xs.take n.toNat:=by
 unfold ox HT.sIx;simp only[Zk,Nat.sub_zero];rw[if_neg (by lia)];rcases Nat.le_total n.toNat xs.length with c|c
 .rw[Nat.min_eq_left c]
 .rw[Nat.min_eq_right c,Qz,Qr c]
theorem Cq {I:Nat} (o:LvOk ls) (h:LeafOf ls k I):∀z∈(ls.take I).flatten,¬k<=z:=λz hz=>by
 have:=h.ahead z hz;lia
def SSt.low (s:SSt):Int:=match s.nxt with
 |none=>s.size
 |some m=>if m<s.size then m else s.size
theorem DN {M:Int} (h:M∈st.rows) (l:∀x∈st.rows,M<=x):M=st.low:=by
 unfold SSt.rows at h l;unfold SSt.low;cases e:st.nxt with
 |none=>rw[e]at h;simpa using h
 |some m=>
  rw[e]at h l;have h:M=st.size\/M=m:=by simpa using h
  have l1:=l st.size (by simp);have z:=l m (by simp);show M=if m<st.size then m else st.size
  split<;>lia
theorem mT (z:SzOk st):st.low∈([4,8,16,32,64,128,256]:List Int):=by
 unfold SSt.low;cases e:st.nxt with
 |none=>exact z.pw
 |some m=>
  show(if m<st.size then m else st.size)∈_;split
  .exact(z.nx m e).1
  .exact z.pw
theorem Dj {x:Int} (h:x∈([4,8,16,32,64,128,256]:List Int)):∃a b,Row x a b:=by
 rcases j4 h with h|h|h|h|h|h|h<;>subst h
 .exact⟨_,_,mK (k:=0) (by decide)⟩
 .exact⟨_,_,mK (k:=1) (by decide)⟩
 .exact⟨_,_,mK (k:=2) (by decide)⟩
 .exact⟨_,_,mK (k:=3) (by decide)⟩
 .exact⟨_,_,mK (k:=4) (by decide)⟩
 .exact⟨_,_,mK (k:=5) (by decide)⟩
 .exact⟨_,_,mK (k:=6) (by decide)⟩
theorem we {S p:Int} {a b:Nat} (R:Row S a b) (O:0<=p) (h1:p<65536):tz (tz p%S)+65536/S=(p/(65536/S)+1)*(65536/S):=by
 have z:=R.st_has (m:=tz p) (oW p);rw[Ar O h1]at z;have sl:=R.slot (s:=tz p%S) (R.mod0 _) (R.mod1 _);have w:=R.width;have I:=R.wpos';rw[sl.1,<-w]at z⊢;have:p/(65536/S)=rz a (tz p%S):=by
  have k0:=QC p (Z7 I);have k1:=QE p I;have k2:=Xl p (65536/S);exact R.between I (x:=p/(65536/S)) (y:=rz a (tz p%S)) (p:=p) (by lia) (by lia) z.1 z.2
 rw[this,Int.add_mul,Int.one_mul,XG]
def qX (K:PySem.W.Frag) (t:Adr):Sp:=λvs H Q _=>∃(a:Addr) (p:Int) (F:Addr->Prop) (st:SSt),vs=[.ref a,.int p]/\SlA K t H a F st/\0<=p/\p<65536/\
 ∀H' F',SlA K t H' a F' st->Fr F F' H H'->Q (.int ((p/(65536/st.low)+1)*(65536/st.low))) H'
section
variable {P:Program} {w:World} {mg:Str->Option Value} {base:Heap}
def BF:Sp:=λvs H Q _=>∃n:Int,vs=[.int n]/\0<=n/\Q (.int (tz n)) H
def zx:Sp:=λvs H Q _=>∃k:Int,vs=[.int k]/\Q (.int (k%65536)) H
def xW:Sp:=λvs H Q _=>∃k:Int,vs=[.int k]/\Q (.int (tz (k%65536))) H
def zt:Sp:=λvs H Q _=>∃k n:Int,vs=[.int k,.int n]/\0<n/\Q (.int (k%65536%n)) H
def zu:Sp:=λvs H Q _=>∃p n:Int,vs=[.int p,.int n]/\0<=p/\0<n/\Q (.int (tz p%n)) H
def tZ:Sp:=λvs H Q _=>∃s n:Int,vs=[.int s,.int n]/\0<=s/\0<n/\n<1073741824/\∀p,H p=none->Q (.ref p) (upd H p (.tup [.int (tz s),.int (tz s+65536/n)]))
theorem pB (T:Txt K mg t):aV P w K mg base CX0 1 t.y3 t.tI ["number"] BF:=by
 obtain⟨I,z⟩:=T.g_BITS;refine T.tW.okl sc_turned λ_ _ _ s H vs Q E U h=>?_;intro X;obtain⟨n,rfl,Y,k⟩:=h;refine aj (aJ (i:=1) sc_turned.nd rfl (Or.inl rfl) aq)
   (aj (aJ (i:=2) sc_turned.nd rfl (Or.inl rfl) (pv 0))
   (dn (λx=>(eh PassesOwn.never rfl (kU (by rfl) T.qz (ae (cm (v:= .int 16) (by rfl) z ⟨_,rfl⟩) ah)) (bO (i:=3) sc_turned.nd rfl (Or.inl rfl))
    x)) ?_))
 refine aj (aJ (i:=1) sc_turned.nd rfl (Or.inl rfl) (aR bJ (aR gg (pv 1) aq) (aR cf (pv 2) aq)))
   (aH (aJ (i:=2) sc_turned.nd rfl (Or.inl rfl) (aR jw (pv 2) aq)) ?_)
 intros
 refine aH (aG (pv 1)) ?_
 intros
 have O:((n.toNat/2^0:Nat):Int)=n:=by rw[Nat.pow_zero,Nat.div_one];lia
 refine⟨_,rfl,16,rfl,by decide,by decide,vC (n:=16) (λi σ H'=>∃v,H'=H/\σ=[some (.int n),some (.int ((rv i n.toNat:Nat):Int)),some (.int ((n.toNat/2^i:Nat):Int)),v]) ?_ ?_ ?_⟩
 .refine⟨none,rfl,?_⟩;rw[O];rfl
 .rintro i σ H' hi ⟨v,rfl,rfl⟩;refine⟨_,rfl,_,_,rfl,rfl,.inr ⟨by decide,by decide⟩,_,rfl,_,_,rfl,rfl,(by show(0:Int)<2;decide),_,_,rfl,rfl,_,rfl,_,_,rfl,rfl,⟨by decide,by decide⟩,?_⟩;refine⟨some (.int (0+(i:Int))),rfl,?_⟩;rw[<-Bz i n.toNat,<-BA i n.toNat];rfl
 .rintro σ H' ⟨v,rfl,rfl⟩;unfold tz at k;exact⟨_,rfl,k⟩
theorem sv (T:Txt K mg t):aV P w K mg base CX0 1 t.vW t.pP ["key"] zx:=by
 obtain⟨I,z⟩:=T.g_PLACES;refine T.vZ.okl zF λ_ _ _ s H vs Q E O h=>?_;intro X;obtain⟨n,rfl,k⟩:=h;refine⟨_,(aA (aG (aR cf (pv 0) (cm (v:= .int 65536) (by rfl) z ⟨_,rfl⟩))))
  ,?_⟩
 exact⟨_,rfl,_,_,rfl,rfl,(by show(0:Int)<65536;decide),k⟩
theorem yi (T:Txt K mg t):aV P w K mg base CX0 2 t.tR t.mV ["key"] xW:=by
 refine T.Aj.okl x6 λ_ _ _ s H vs Q E z h=>?_;intro X;obtain⟨n,rfl,k⟩:=h;refine⟨_,(aA (aG (aQ (pB T) z.mo (by rfl) T.yB T.tW.kp T.yY .nil ay (ae (aQ (sv T) z.mo (by rfl) T.Ce T.vZ.kp T.Cz .nil ay (ae (pv 0) ah)) ah))))
  ,?_⟩
 exact⟨_,rfl,_,rfl,_,rfl,QC _ (by decide),k⟩
theorem sr (T:Txt K mg t):aV P w K mg base CX0 2 t.vT t.pL ["key","size"] zt:=by
 refine T.pT.okl zD λ_ _ _ s H vs Q E z h=>?_;intro X;obtain⟨n,m,rfl,I,k⟩:=h;refine⟨_,(aA (aG (aR cf (aQ (sv T) z.mo (by rfl) T.Ce T.vZ.kp T.Cz .nil ay (ae (pv 0) ah)) (pv 1))))
  ,?_⟩
 exact⟨_,rfl,_,rfl,_,rfl,_,_,rfl,rfl,I,k⟩
theorem ss (T:Txt K mg t):aV P w K mg base CX0 2 t.vU t.pN ["place","size"] zu:=by
 refine T.vY.okl zE λ_ _ _ s H vs Q E z h=>?_;intro X;obtain⟨n,m,rfl,I,O,k⟩:=h;refine⟨_,(aA (aG (aR cf (aQ (pB T) z.mo (by rfl) T.yB T.tW.kp T.yY .nil ay (ae (pv 0) ah)) (pv 1))))
  ,?_⟩
 exact⟨_,rfl,_,rfl,I,_,rfl,_,_,rfl,rfl,O,k⟩
theorem uw (T:Txt K mg t):aV P w K mg base CX0 2 t.oB t.jA ["slot","size"] tZ:=by
 obtain⟨I,z⟩:=T.g_PLACES;refine T.xI.okl sc_stretch_of λ_ _ _ s H vs Q E O h=>?_;intro X;obtain⟨n,m,rfl,U,Y,h1,k⟩:=h;refine aj (aJ (i:=2) sc_stretch_of.nd rfl (Or.inl rfl) (aQ (pB T) O.mo (by rfl) T.yB T.tW.kp T.yY .nil ay (ae (pv 0) ah)))
   (aH (aG (eB (ae (pv 2) (ae (aR bJ (pv 2) (aR jw (cm (v:= .int 65536) (by rfl) z ⟨_,rfl⟩) (pv 1))) ah)))) ?_)
 intros
 exact⟨_,rfl,_,rfl,U,_,rfl,_,rfl,_,rfl,_,_,rfl,rfl,⟨Y,h1⟩,_,_,rfl,rfl,(by show 2<=sizeLine;decide),λp hp=>k p hp⟩
theorem BH (h:n<=4096):n<sizeLine:=X5 h (by decide)
def wg:Sp:=λvs H Q _=>∃n:Int,vs=[.int n]/\0<=n/\n<=1000/\∀H' r A,Same H H'->H r=none->(∀b∈A,H b=none)->RowOk H' r A (List.replicate n.toNat []) n->Q (.ref r) H'
theorem nO (T:Txt K mg t):aV P w K mg base CX0 1 t.p6 t.kC ["size"] wg:=by
 refine T.kP.okl wt λ_ _ _ s H vs Q E hr h=>?_;intro X;obtain⟨n,rfl,n0,n1,q⟩:=h;refine⟨_,(aA (aG (fE rfl (CScope.of (M:=["slot"]) (N:=["size"]) (N':=["size"]) (dsc:=ak gK) rfl rfl (by decide+kernel)) (kU (by rfl) T.qz (ae (pv 0) ah)) (λ_ _ _ _ _=>j8))))
  ,?_⟩
 refine⟨_,rfl,n,rfl,by lia,by lia,λD hD=>?_⟩;refine Ae (n:=n.toNat) (lo:=0) (λi ys H3=>Same H H3/\∃as:List Addr,ys=as.map V.ref/\as.length=i/\(∀b∈as,H b=none/\b≠D/\H3 b=some (.dK []))/\∀(x y:Nat) (b:Addr),as[x]?=some b->as[y]?=some b->x=y)
  ⟨am hD,[],rfl,rfl,(λb hb=>by cases hb),λx y b e=>by simp at e⟩ (λi ys H3 hi ⟨s3,as,Z,el,hb,inj⟩ I=>?_) (λys H3 ⟨s3,as,Z,el,hb,inj⟩ I=>?_)
 .intro c U;have cD:c≠D:=(ao I U).symm;have O:c∉as:=λz=>by
   have:=(hb c z).2.2;rw[U]at this;cases this
  have nH:H c=none:=by
   cases e:H c with
   |none=>rfl
   |some o=>rw[s3 c o e]at U;cases U
  refine CNext.mk hi (by rw[ag cD.symm];exact I) (by rw[Z,Q0];exact bP (by lia)) ⟨cU (s3.trans (am U)) hD,as++ [c],by rw[Z,Q9];rfl,by rw[Qd,el];rfl,λb a0=>?_,λx y b e1 e2=>?_⟩
  .rcases Q5.mp a0 with z|z
   .obtain⟨h1,h2,h3⟩:=hb b z;exact⟨h1,h2,by rw[ag h2,ag (λw=>O (by rw[<-w];exact z))];exact h3⟩
   .rw[Qa.mp z];exact⟨nH,cD,by rw[ag cD,ai]⟩
  .have Y:∀x:Nat,(as++ [c])[x]?=some b->as[x]?=some b\/(x=as.length/\b=c):=λx e=>by
    rw[Xn]at e;split at e
    .exact .inl e
    .rename_i w
     have:x-as.length=0:=by
      rcases QV (x-as.length)with z|z
      .exact z
      .rw[List.getElem?_eq_none (by simp;lia)]at e;cases e
     rw[this]at e;cases e;exact .inr ⟨by lia,rfl⟩
   rcases Y x e1 with f1|⟨f1,g1⟩<;>rcases Y y e2 with f2|⟨f2,g2⟩
   .exact inj x y b f1 f2
   .subst g2;exact absurd (Q1 f1) O
   .subst g1;exact absurd (Q1 f2) O
   .lia
 .refine q H3 D as s3 hD (λb z=>(hb b z).1) ⟨by rw[I,Z],by rw[el];lia,by rw[Zm];lia,λj b kv e1 e2=>?_,λj kv e=>?_,inj,λj kv e p hp=>?_⟩
  .rw[Zp (Q1 e2)];exact(hb b (Q1 e1)).2.2
  .rw[Zp (Q1 e)];exact Zi
  .rw[Zp (Q1 e)]at hp;cases hp
def nq (t:Adr):Sp:=λvs H Q _=>∃(a:Addr) (k:Int) (st:SSt) (d:SlD),vs=[.ref a,.int k]/\SlB t H a st d/\SzOk st/\∀c kv,IsCell d st k c kv->Q (.ref c) H
def k8 (t:Adr):Sp:=λvs H Q _=>∃(a:Addr) (st:SSt) (d:SlD),vs=[.ref a]/\SlB t H a st d/\SzOk st/\st.kv.length<4096/\∀H' d',SlB t H' a st.one d'->d'.n=d.n->Fr (SlF a st d) (SlF a st.one d') H H'->Q .non H'
def lg (t:Adr):Sp:=λvs H Q _=>∃(a:Addr) (st:SSt) (d:SlD),vs=[.ref a]/\SlB t H a st d/\SzOk st/\d.n=(st.kv.length:Int)/\∀H' d',SlB t H' a st.three d'->d'.n=d.n->Fr (SlF a st d) (SlF a st.three d') H H'->Q .non H'
theorem sR {z:Int} (I:0<=z) (e:A[z.toNat]?=some c):atI (A.map V.ref) z=some (.ref c):=by
 obtain⟨j,rfl⟩:=Z2 I;refine xD ?_;rw[Qc];have e:A[j]?=some c:=e;rw[e];rfl
theorem cn (T:Txt K mg t):aV P w K mg base CX0 3 t.jd t.eE ["self","key"] (nq t):=by
 refine T.CJ.okl sc_Slots__cell_of λ_ _ _ s H vs Q E Z h=>?_;intro X;obtain⟨a,k,st,d,rfl,hb,z,q⟩:=h;refine aj (aJ (i:=2) sc_Slots__cell_of.nd rfl (Or.inl rfl) (bf aX (aD (pv 0) rfl) aq (λ_ _=>rfl)))
   (aj (aJ (i:=3) sc_Slots__cell_of.nd rfl (Or.inl rfl) (aQ (sr T) Z.mo (by rfl) T.vq T.pT.kp T.vS .nil ay (ae (pv 1) (ae (av aC (by rfl) T.bx a7 (ae (pv 2) ah)) ah))))
   (aj (aZ (aE Dr (pv 3) (aD (pv 0) rfl) (aL _))
    (aA (aG (bf aX (pv 2) (pv 3) (λ_ _=>rfl))))
    aP)
   (aj (aJ (i:=4) sc_Slots__cell_of.nd rfl (Or.inl rfl) (bf aX (aD (pv 0) rfl) aq (λ_ _=>rfl)))
   (aH (aG (bf aX (pv 4) (aQ (sr T) Z.mo (by rfl) T.vq T.pT.kp T.vS .nil ay (ae (pv 1) (ae (av aC (by rfl) T.bx a7 (ae (pv 4) ah)) ah))) (λ_ _=>rfl))) ?_))))
 intros
 obtain⟨dx,O⟩:=hb.obj;obtain⟨s4,s5⟩:=bF z.pw;obtain⟨U,m1,m2⟩:=pE (k:=k) s4;have t0:∃xs,H d.tb=some (.lst xs)/\atI xs 0=some (.ref d.r0):=by
  refine⟨_,hb.tbl,?_⟩;cases st.nxt<;>rfl
 obtain⟨xs,hx,x0⟩:=t0;have a0:∀{Q':VK},Q' (.ref d.tb) H->tFld K (C2 0) "table" [some (.ref a),some (.int k),none,none,none] H Q':=λ{Q'} q=>⟨_,rfl,a,_,dx,_,_,rfl,O,T.ax,T.aT,gJ,q⟩;have la:((d.A0.map V.ref).length:Int)=st.size:=by rw[Q0];exact hb.row0.la
 refine⟨_,rfl,a,_,dx,_,_,rfl,O,T.ax,T.aT,gJ,d.tb,_,_,_,rfl,rfl,SqL.of hx,x0,?_⟩;refine⟨_,rfl,_,rfl,d.r0,_,rfl,.inl (SqL.of hb.row0.lst),k,_,rfl,by rw[la];lia,?_⟩;dsimp only;rw[la];refine⟨_,rfl,_,rfl,a,_,dx,_,_,rfl,O,T.ax,T.bp,u8,_,_,rfl,rfl,_,rfl,oh (λc=>?_) (λc=>?_)⟩
 .have c:=of_decide_eq_true c;obtain⟨x,I⟩:=cP (l:=d.A0) U (by rw[hb.row0.la];exact m1);obtain⟨y,e2⟩:=cP (l:=d.C0) U (by rw[hb.row0.lc];exact m1);exact⟨_,rfl,_,rfl,d.r0,_,_,_,rfl,rfl,SqL.of hb.row0.lst,sR U I,q x y (.inl ⟨c,I,e2⟩)⟩
 .have c:¬st.moved<=k%65536%st.size:=λz=>c (decide_eq_true z);cases e:st.nxt with
  |none=>rw[SSt.moved_none e]at c;exact absurd U c
  |some m=>
   have hm:=SSt.moved_some e;obtain⟨pm,_⟩:=z.nx m e;obtain⟨s6,_⟩:=bF pm;obtain⟨Y,n1,n2⟩:=pE (k:=k) s6;have r1:=hb.row1;rw[e]at r1;have ht:=hb.tbl;rw[e]at ht;have lb:((d.A1.map V.ref).length:Int)=m:=by rw[Q0];exact r1.la
   obtain⟨x,I⟩:=cP (l:=d.A1) Y (by rw[r1.la];exact n1);obtain⟨y,e2⟩:=cP (l:=d.C1) Y (by rw[r1.lc];exact n1);refine⟨_,rfl,a,_,dx,_,_,rfl,O,T.ax,T.aT,gJ,d.tb,_,_,_,rfl,rfl,SqL.of ht,rfl,?_⟩;refine⟨_,rfl,_,rfl,_,rfl,d.r1,_,rfl,.inl (SqL.of r1.lst),k,_,rfl,by rw[lb];lia,?_⟩;dsimp only;rw[lb];exact⟨d.r1,_,_,_,rfl,rfl,SqL.of r1.lst,sR Y I,q x y (.inr ⟨m,e,by lia,I,e2⟩)⟩
theorem bi (h:n<=100000):n<sizeLine:=X5 h (by decide)
theorem HF {z:Int} (I:0<=z) (h1:z<n):ixN n z=some z.toNat:=by unfold ixN;rw[if_pos I,if_pos h1]
theorem vx {kv:List (Int×V)} {k:Key} (e:(aN kv)[i]?=some (k,v)):∃n:Int,k=Sum.inl n/\kv[i]?=some (n,v):=by
 unfold aN at e;rw[Qc]at e;cases q:kv[i]? with
 |none=>rw[q]at e;cases e
 |some p=>rw[q]at e;cases e;exact⟨p.1,rfl,rfl⟩
theorem CY {kv:List (Int×V)} {C:List (List (Int×V))} {p:Int×V} (e:kv[i]?=some p):(kv.take (i+1)).foldl (fc m) C=fc m ((kv.take i).foldl (fc m) C) p:=by
 rw[Qn,e,XQ];rfl
theorem fj (T:Txt K mg t):aV P w K mg base CX0 3 t.gF t.da ["self"] (k8 t):=by
 refine T.Am.okl sc_Slots__move_slot λ_ _ _ s H vs Q E hr h=>?_;intro X;obtain⟨a,st,d,rfl,hb,z,hl,q⟩:=h;refine aj (aZ (aE gP (av aC (by rfl) T.bx a7 (ae (aD (pv 0) rfl) ah)) aq (aL _))
    (aA kS)
    aP)
   (aj (aJ (i:=1) sc_Slots__move_slot.nd rfl (Or.inl rfl) (bf aX (aD (pv 0) rfl) aq (λ_ _=>rfl)))
   (aj (aJ (i:=2) sc_Slots__move_slot.nd rfl (Or.inl rfl) (bf aX (aD (pv 0) rfl) aq (λ_ _=>rfl)))
   (dn (λx=>(wE (eh PassesOwn.never rfl (yf (mL QH ZN Xb sM (bf aX (pv 1) (aD (pv 0) rfl) (λ_ _=>rfl)))) (Dm rfl (nK (bO (i:=3) sc_Slots__move_slot.nd rfl (Or.inl rfl)) (nK (bO (i:=4) sc_Slots__move_slot.nd rfl (Or.inl rfl)) Az)))
    x))) ?_)))
 refine aH (wF (fq hr) (bf aX (pv 2) (aQ (sr T) hr.mo (by rfl) T.vq T.pT.kp T.vS .nil ay (ae (pv 3) (ae (av aC (by rfl) T.bx a7 (ae (pv 2) ah)) ah))) (λ_ _=>rfl)) (pv 3) (pv 4) rfl) ?_
 intros
 refine aj (zJ j8 (zL (pv 1) (aD (pv 0) rfl) rG))
   (aj (kT (pv 0) aq Ab)
   (aH (aZ (aE gP (aD (pv 0) rfl) (av aC (by rfl) T.bx a7 (ae (pv 1) ah)) (aL _))
    (r9 (cc (pv 0) (dH (ae (pv 2) ah)) rfl)
    (aA (cc (pv 0) aq rfl)))
    aP) ?_))
 intros
 obtain⟨dx,ho⟩:=hb.obj;have ht:=hb.tbl;cases e:st.nxt with
 |none=>
  rw[e]at ht;refine⟨_,rfl,a,_,dx,_,_,rfl,ho,T.ax,T.aT,gJ,d.tb,_,rfl,.inl (SqL.of ht),rfl,_,rfl,qv rfl ?_⟩;have e1:st.one=st:=by unfold SSt.one;rw[e]
  rw[e1]at q;exact q H d hb rfl Fr.refl
 |some m=>
  rw[e]at ht;refine⟨_,rfl,a,_,dx,_,_,rfl,ho,T.ax,T.aT,gJ,d.tb,_,rfl,.inl (SqL.of ht),rfl,_,rfl,bL (λz=>by cases z) ?_⟩;refine⟨_,rfl,a,_,dx,_,_,rfl,ho,T.ax,T.aT,gJ,d.tb,_,_,_,rfl,rfl,SqL.of ht,rfl,?_⟩;refine⟨_,rfl,a,_,dx,_,_,rfl,ho,T.ax,T.aT,gJ,d.tb,_,_,_,rfl,rfl,SqL.of ht,rfl,?_⟩;obtain⟨pm,v0,v1,_⟩:=z.nx m e;obtain⟨s4,s5⟩:=bF z.pw;obtain⟨s6,s7⟩:=bF pm;have hm:=SSt.moved_some e;rw[hm]at ho;have r1:=hb.row1;rw[e]at r1;obtain⟨c0,ec⟩:=cP (l:=d.A0) v0 (by rw[hb.row0.la];exact v1);obtain⟨kv,ek⟩:=cP (l:=d.C0) v0 (by rw[hb.row0.lc];exact v1);have O:=hb.row0.cell _ _ _ ec ek;have lb:((d.A1.map V.ref).length:Int)=m:=by rw[Q0];exact r1.la
  have aa:c0∉d.A1:=hb.dis c0 (Q1 ec);have an:d.r1≠c0:=bZ r1.lst O (by intro z;cases z);have b6:=hb.short0 z ek;have ac:∀b,b=d.r1\/b∈d.A1->∃o,H b=some o:=λb hb1=>by
   rcases hb1 with rfl|hb1
   .exact⟨_,r1.lst⟩
   .obtain⟨_,_,_,_,w⟩:=r1.has hb1;exact⟨_,w⟩
  refine⟨c0,aN kv,O,_,rfl,_,rfl,a,_,dx,_,_,rfl,ho,T.ax,T.bp,u8,d.r0,_,_,_,rfl,rfl,SqL.of hb.row0.lst,sR v0 ec,.inr (.inr (.inl ⟨rfl,.inl ⟨_,O⟩⟩)),c0,aN kv,rfl,rfl,O,λvw nv=>?_⟩;have az:upd H vw (vwO vw c0) c0=some (.dK (aN kv)):=by rw[ag (ao O nv)];exact O
  refine⟨vw,c0,aN kv,rfl,ai,az,λob=>?_⟩;refine tE (λi σ H'=>∃v3 v4,σ=[some (.ref a),some (.ref d.r0),some (.ref d.r1),v3,v4]/\RowOk H' d.r1 d.A1 ((kv.take i).foldl (fc m) d.C1) m/\H' c0=some (.frz ob (.dK (aN kv)))/\∀b o,b∉d.A1->b≠c0->H b=some o->H' b=some o)
   ⟨_,_,rfl,?_,ai,λb o _ n2 e=>?_⟩ (λi σ H' _ ⟨_,_,_,_,hf,_⟩=>hf) (λi k v p σ H' ei ⟨v3,v4,af,hr,hf,hk⟩ np=>?_) (λσ H' ⟨v3,v4,af,hr,hf,hk⟩=>?_)
  .refine RowOk.frame (H:=H) r1 λb hb1=>?_;obtain⟨o,w⟩:=ac b hb1;have n2:b≠c0:=by
    rcases hb1 with rfl|hb1
    .exact an
    .exact λz=>aa (z▸hb1)
   rw[ag n2,ag (ao w nv)]
  .rw[ag n2,ag (ao e nv)];exact e
  .subst af;obtain⟨n,rfl,en⟩:=vx ei;have a1:RowOk (upd H' p (.tup [kV (Sum.inl n),v])) d.r1 d.A1 ((kv.take i).foldl (fc m) d.C1) m:=hr.frame λb hb1=>ag λw=>by
    have:∃o,H' b=some o:=by
     rcases hb1 with rfl|hb1
     .exact⟨_,hr.lst⟩
     .obtain⟨_,_,_,_,w⟩:=hr.has hb1;exact⟨_,w⟩
    obtain⟨o,q⟩:=this;rw[w,np]at q;cases q
   obtain⟨n0,n1,n2⟩:=pE (k:=n) s6;obtain⟨c,e1⟩:=cP (l:=d.A1) n0 (by rw[a1.la];exact n1);obtain⟨y,e2⟩:=cP (l:=(kv.take i).foldl (fc m) d.C1) n0 (by rw[a1.lc];exact n1);obtain⟨y0,e3⟩:=cP (l:=d.C1) n0 (by rw[r1.lc];exact n1);have yl:=yu e3 e2;have b8:=hb.short1 z e e3;have tl:(kv.take i).length<=kv.length:=by rw[Qe];lia
   have hc:=a1.cell _ _ _ e1 e2;have cA:c∈d.A1:=Q1 e1;refine⟨p,_,rfl,SqT.of ai,rfl,_,_,rfl,_,_,rfl,rfl,?_⟩;refine⟨_,rfl,_,rfl,_,rfl,_,rfl,d.r1,_,rfl,.inl (SqL.of a1.lst),n,_,rfl,by rw[lb];lia,?_⟩;dsimp only;rw[lb];refine⟨d.r1,_,_,_,rfl,rfl,SqL.of a1.lst,sR n0 e1,_,rfl,c,_,rfl,DPut.k (k:=Sum.inl n) hc (by rw[b7];exact bi (by lia)),?_⟩;rw[iZ];have pn:∀b o,H' b=some o->b≠p:=λb o q=>ao q np;refine⟨_,_,rfl,?_,?_,λb o nA nc q=>?_⟩
   .rw[CY en];exact a1.mov s6 e1 e2
   .rw[ag (λw=>aa (by rw[w];exact cA)),ag (pn _ _ hf)];exact hf
   .have q:=hk b o nA nc q;rw[ag (λw=>nA (by rw[w];exact cA)),ag (pn _ _ q)];exact q
  .subst af;rw[b7,Qz]at hr;refine⟨ob,hf,λb' U=>?_⟩;have hF:∀b,¬SlF a st d b->b∉d.A1/\b≠c0/\b≠a/\b≠d.r0/\b≠d.tb/\b≠d.r1:=λb n=>
    ⟨λq=>n (.inr (.inr (.inr (.inr (.inr q))))),λq=>n (.inr (.inr (.inr (.inl (q▸Q1 ec))))),λq=>n (.inl q),λq=>n (.inr (.inr (.inl q))),λq=>n (.inr (.inl q)),λq=>n (.inr (.inr (.inr (.inr (.inl ⟨by rw[e];rfl,q⟩)))))⟩
   have a3:∀b o,H b=some o->(∀kvs,o≠ .dK kvs)->b∉d.A1:=λb o q ne w=>(r1.notr w q ne) rfl;have K1:∀b o,b∉d.A1->b≠c0->H b=some o->upd H' c0 (.dK (aN kv)) b=some o:=λb o n1 n2 q=>by rw[ag n2];exact hk b o n1 n2 q
   have a2:RowOk (upd H' c0 (.dK (aN kv))) d.r1 d.A1 (kv.foldl (fc m) d.C1) m:=hr.frame λb hb1=>ag (by
    rcases hb1 with rfl|hb1
    .exact an
    .exact λw=>aa (w▸hb1))
   have ap:upd H' c0 (.dK (aN kv)) c0=some (.dK (aN kv)):=ai;generalize upd H' c0 (.dK (aN kv))=H3 at U K1 a2 ap⊢;have Y:=K1 a _ (a3 _ _ ho (λ_ w=>by cases w)) (bZ ho O (by intro w;cases w)) ho;have a4:=hb.row0.lst;have I:=K1 d.r0 _ (a3 _ _ a4 (λ_ w=>by cases w)) (bZ a4 O (by intro w;cases w)) a4;have al:=K1 d.tb _ (a3 _ _ ht (λ_ w=>by cases w)) (bZ ht O (by intro w;cases w)) ht;have b1:¬SlF a st d b':=λw=>by
    rcases w with w|w|w|w|⟨_,w⟩|w
    .rw[w,Y]at U;cases U
    .rw[w,al]at U;cases U
    .rw[w,I]at U;cases U
    .obtain⟨j,b2,f1,f2,f3⟩:=hb.row0.has w;by_cases y:b'=c0
     .rw[y,ap]at U;cases U
     .rw[K1 b' _ (hb.dis b' w) y f3]at U;cases U
    .rw[w,a2.lst]at U;cases U
    .obtain⟨_,_,_,_,w'⟩:=a2.has w;rw[w']at U;cases U
   have lA:((d.A0.map V.ref).length:Int)=st.size:=by rw[Q0];exact hb.row0.la
   have bo:∀{x:Addr} {o:HO},H3 x=some o->x≠b':=λq=>ao q U;refine⟨_,rfl,_,rfl,a,_,dx,_,_,rfl,(by rw[ag (bo Y)];exact Y),T.ax,T.bp,u8,d.r0,_,_,_,rfl,rfl,(by rw[ag (bo I)];exact I),HF v0 (by rw[lA];exact v1),?_⟩;have g0:H3 d.r1=some (.lst (d.A1.map V.ref)):=a2.lst;have ra:d.r0≠a:=bZ a4 ho (by intro w;cases w);have b3:d.r0≠d.r1:=(hb.tr1 (by rw[e];rfl)).2;have t1:d.tb≠d.r1:=(hb.tr1 (by rw[e];rfl)).1;have ta:d.tb≠a:=bZ ht ho (by intro w;cases w);have au:d.r1≠a:=bZ r1.lst ho (by intro w;cases w);have a0:∀b∈d.A1,b≠b'/\b≠d.r0/\b≠a:=λb w=>by
    obtain⟨_,_,_,_,f⟩:=a2.has w;exact⟨bo f,bZ f I (by intro w;cases w),bZ f Y (by intro w;cases w)⟩
   have es:(d.A0.map V.ref).set st.mv.toNat (V.ref b')=(d.A0.set st.mv.toNat b').map V.ref:=by rw[List.map_set]
   rw[es];have aw:upd (upd H3 b' (.dK [])) d.r0 (.lst ((d.A0.set st.mv.toNat b').map V.ref)) a=some (.ins t.aU dx (slF d.tb st.mv d.n)):=by rw[ag ra.symm,ag (bo Y)];exact Y
   refine⟨_,rfl,a,_,dx,_,_,rfl,aw,T.ax,T.bp,u8,_,_,rfl,rfl,dx,_,aw,nE,?_⟩;rw[Gw];have a5:∀{o:HO},upd (upd (upd H3 b' (.dK [])) d.r0 (.lst ((d.A0.set st.mv.toNat b').map V.ref))) a o d.r0=some (.lst ((d.A0.set st.mv.toNat b').map V.ref)):=by
    intro o;rw[ag ra,ai]
   have lS:(((d.A0.set st.mv.toNat b').map V.ref).length:Int)=st.size:=by rw[Q0,QK];exact hb.row0.la
   refine⟨_,rfl,a,_,dx,_,_,rfl,ai,T.ax,T.bp,u8,_,rfl,d.r0,_,rfl,.inl (SqL.of a5),rfl,_,rfl,?_⟩;rw[lS];have Z:∀{o:HO},RowOk (upd (upd (upd H3 b' (.dK [])) d.r0 (.lst ((d.A0.set st.mv.toNat b').map V.ref))) a o) d.r1 d.A1 (kv.foldl (fc m) d.C1) m:=λ{o}=>a2.frame λb hb1=>by
    have:b≠b'/\b≠d.r0/\b≠a:=by
     rcases hb1 with rfl|hb1
     .exact⟨bo g0,b3.symm,au⟩
     .exact a0 b hb1
    rw[ag this.2.2,ag this.2.1,ag this.1]
   have K6:∀{o':HO} (b:Addr) (o:HO),¬SlF a st d b->H b=some o->upd (upd (upd H3 b' (.dK [])) d.r0 (.lst ((d.A0.set st.mv.toNat b').map V.ref))) a o' b=some o:=λ{o'} b o n q=>by
    obtain⟨f1,f2,f3,f4,_⟩:=hF b n;have q3:=K1 b o f1 f2 q;rw[ag f3,ag f4,ag (bo q3)];exact q3
   refine oh (λc=>?_) (λc=>?_)
   .have c:st.mv+1=st.size:=V.int.inj (of_decide_eq_true c);refine⟨_,rfl,(by show 1<=sizeLine;decide),λtb' nt=>⟨_,rfl,a,_,dx,_,rfl,(by rw[ag (ao ai nt)];exact ai),T.ax,T.aT,nE,?_⟩⟩;rw[IT];refine⟨_,rfl,a,_,dx,_,rfl,ai,T.ax,T.bp,nE,?_⟩;rw[Gw,bM];have b4:tb'≠a:=(ao ai nt).symm;have b5:tb'≠d.r1:=(ao (Z (o:= .ins t.aU dx (slF d.tb (st.mv+1) d.n))).lst nt).symm;refine q _ _ (hb.last z e ek (tb':=tb') (dx:=dx) c ai (by rw[ag b4];exact ai) b5 ?_) rfl (λb o n w=>?_)
    .refine(Z (o:= .ins t.aU dx (slF d.tb (st.mv+1) d.n))).frame λb hb1=>?_;have:b≠a:=by
      rcases hb1 with rfl|hb1
      .exact au
      .exact(a0 b hb1).2.2
     rw[ag this,ag (λw=>?_)];obtain⟨o,f⟩:∃o,upd (upd (upd H3 b' (.dK [])) d.r0 (.lst ((d.A0.set st.mv.toNat b').map V.ref))) a (.ins t.aU dx (slF d.tb (st.mv+1) d.n)) b=some o:=by
      rcases hb1 with rfl|hb1
      .exact⟨_,Z.lst⟩
      .obtain⟨_,_,_,_,f⟩:=Z.has hb1;exact⟨_,f⟩
     rw[w,nt]at f;cases f
    .obtain⟨f1,f2,f3,f4,f5,f6⟩:=hF b n;have k6:=K6 (o':= .ins t.aU dx (slF d.tb (st.mv+1) d.n)) b o n w;have bt:b≠tb':=ao k6 nt;refine⟨by rw[ag f3,ag bt];exact k6,λy=>?_⟩;rcases y with y|y|y|y|⟨_,y⟩|y
     .exact f3 y
     .exact bt y
     .exact f6 y
     .exact f1 y
     .exact f6 y
     .cases y
   .have c:st.mv+1≠st.size:=λw=>c (decide_eq_true (by rw[w]));refine q _ _ (hb.one z e ek (b':=b') (dx:=dx) c ai (by rw[ag ta,ag hb.tr,ag (bo al),al,hb.tbl,e]) a5 ?_ b1 (λj b f1 f2=>?_) Z) rfl (λb o n w=>⟨K6 b o n w,λy=>?_⟩)
    .have n1:b'≠a:=(bo Y).symm;have n2:b'≠d.r0:=(bo I).symm;rw[ag n1,ag n2];exact ai
    .have bA:=Q1 f1;obtain⟨_,b2,_,_,f⟩:=hb.row0.has bA;have nc:b≠c0:=λw=>f2 (hb.row0.inj j _ c0 (w▸f1) ec);have f3:=K1 b _ (hb.dis b bA) nc f;rw[ag (bZ f3 Y (by intro w;cases w)),ag (bZ f3 I (by intro w;cases w)),ag (bo f3),f3,f]
    .obtain⟨f1,f2,f3,f4,f5,f6⟩:=hF b n;rcases y with y|y|y|y|⟨_,y⟩|y
     .exact f3 y
     .exact f5 y
     .exact f4 y
     .obtain⟨j,hj,ej⟩:=QJ (show b∈d.A0.set st.mv.toNat b' from y);rcases cX (Q2.mpr ⟨hj,ej⟩)with⟨_,g⟩|⟨_,g⟩
      .have:=K1 b o f1 f2 w;rw[g,U]at this;cases this
      .exact n (.inr (.inr (.inr (.inl (Q1 g)))))
     .exact f6 y
     .exact f1 y
theorem fk (T:Txt K mg t):aV P w K mg base CX0 2 t.gG t.de ["self"] (lg t):=by
 obtain⟨Y,I⟩:=T.g_GREATEST_SIZE;obtain⟨a0,O⟩:=T.g_LEAST_SIZE;refine T.An.okl sc_Slots__begin_row λ_ _ _ s H vs Q E hr h=>?_;intro X;obtain⟨a,st,d,rfl,hb,z,hn,q⟩:=h;refine aj (aZ (aE gP (av aC (by rfl) T.bx a7 (ae (aD (pv 0) rfl) ah)) aq (aL _))
    (aA kS)
    aP)
   (aj (aJ (i:=1) sc_Slots__begin_row.nd rfl (Or.inl rfl) (av aC (by rfl) T.bx a7 (ae (bf aX (aD (pv 0) rfl) aq (λ_ _=>rfl)) ah)))
   (IW (λx y=>aZ (PW.pt (j5 (aE AD (aD (pv 0) rfl) (pv 1) (aL _)) (gM (aE fg (pv 1) (cm (v:= .int 256) (by rfl) I ⟨_,rfl⟩) (aL _))))) x y) ?_))
 refine aH (aS (cJ Qu Z9 Za eC (aD (pv 0) rfl) (ae (aQ (nO T) hr.mo (by rfl) T.pX T.kP.kp T.p4 .nil ay (ae (aR gg (pv 1) aq) ah)) ah))) ?_
 intros
 refine vj (λx=>aZ (PW.pt (j5 (aE fg (aR gg aq (aD (pv 0) rfl)) (pv 1) (aL _)) (gM (aE AD (pv 1) (cm (v:= .int 4) (by rfl) O ⟨_,rfl⟩) (aL _))))) x aP) ?_;refine aH (aS (cJ Qu Z9 Za eC (aD (pv 0) rfl) (ae (aQ (nO T) hr.mo (by rfl) T.pX T.kP.kp T.p4 .nil ay (ae (aR jw (pv 1) aq) ah)) ah))) ?_
 intros
 obtain⟨dx,U⟩:=hb.obj;have Z:=hb.tbl;cases e:st.nxt with
 |some m=>
  rw[e]at Z;refine⟨_,rfl,a,_,dx,_,_,rfl,U,T.ax,T.aT,gJ,d.tb,_,rfl,.inl (SqL.of Z),rfl,_,rfl,qv rfl ?_⟩;have e1:st.three=st:=by unfold SSt.three;rw[e]
  rw[e1]at q;exact q H d hb rfl Fr.refl
 |none=>
  rw[e]at Z;refine⟨_,rfl,a,_,dx,_,_,rfl,U,T.ax,T.aT,gJ,d.tb,_,rfl,.inl (SqL.of Z),rfl,_,rfl,bL (λz=>by cases z) ?_⟩;have la:((d.A0.map V.ref).length:Int)=st.size:=by rw[Q0];exact hb.row0.la
  obtain⟨a5,aa⟩:=bF z.pw;refine⟨_,rfl,a,_,dx,_,_,rfl,U,T.ax,T.aT,gJ,d.tb,_,_,_,rfl,rfl,SqL.of Z,rfl,d.r0,_,rfl,.inl (SqL.of hb.row0.lst),?_⟩;dsimp only;rw[la];have fin:∀{m:Int} {H':Hp} {r:Addr} {A:List Addr},st.three={st with nxt:=some m,mv:=0}->Same H H'->H r=none->(∀b∈A,H b=none)->RowOk H' r A (List.replicate m.toNat []) m->H' d.tb=some (.lst [.ref d.r0])/\Q .non (upd H' d.tb (.lst ([.ref d.r0]++ [.ref r]))):=λ{m H' r A} e3 s nr nA hr=>by
   have a2:=s _ _ Z;have a1:∀b,SlF a st d b->∃o,H b=some o:=λb w=>hb.dom w;have a3:¬SlF a st d r:=λw=>by obtain⟨o,q⟩:=a1 r w;rw[nr]at q;cases q
   have a4:∀b∈A,¬SlF a st d b:=λb hA w=>by obtain⟨o,q⟩:=a1 b w;rw[nA b hA]at q;cases q
   refine⟨a2,?_⟩;have sb:=hb.begin (H':=upd H' d.tb (.lst [.ref d.r0,.ref r])) e (m:=m) (r:=r) (A:=A) (by rw[ag (bZ U Z (by intro w;cases w)),s _ _ U,U]) ai (λb hb1=>?_) (hr.frame λb hb1=>ag ?_) a3 a4
   .rw[<-e3]at sb;refine q _ _ sb rfl λb o n w=>⟨?_,λy=>?_⟩
    .rw[ag (λv=>n (.inr (.inl v)))];exact s _ _ w
    .rw[e3]at y;rcases y with y|y|y|y|⟨_,y⟩|y
     .exact n (.inl y)
     .exact n (.inr (.inl y))
     .exact n (.inr (.inr (.inl y)))
     .exact n (.inr (.inr (.inr (.inl y))))
     .have y:b=r:=y;rw[y,nr]at w;cases w
     .rw[nA b y]at w;cases w
   .obtain⟨o,q⟩:=a1 b (by
     rcases hb1 with w|w
     .exact .inr (.inr (.inl w))
     .exact .inr (.inr (.inr (.inl w))))
    have:b≠d.tb:=by
     rcases hb1 with w|w
     .rw[w];exact hb.tr.symm
     .exact hb.row0.notr w Z (λ_ z=>by cases z)
    rw[ag this,s _ _ q,q]
   .rcases hb1 with w|w
    .rw[w];exact λv=>by rw[v,Z]at nr;cases nr
    .exact λv=>by have:=nA b w;rw[v,Z]at this;cases this
  by_cases cA:st.size<d.n/\st.size<256
  .have e3:st.three={st with nxt:=some (2*st.size),mv:=0}:=by
    unfold SSt.three;rw[e];exact if_pos (by rw[<-hn];exact cA)
   refine⟨_,rfl,a,_,dx,_,_,rfl,U,T.ax,T.bh,lE,_,rfl,_,_,rfl,rfl,_,rfl,i5 cA.1 ⟨_,rfl,_,_,rfl,rfl,_,rfl,i5 cA.2 ?_⟩⟩;refine⟨_,rfl,a,_,dx,_,_,rfl,U,T.ax,T.aT,gJ,.inl ⟨rfl,_,SqL.of Z⟩,_,rfl,_,_,rfl,rfl,.inr ⟨by decide,by decide⟩,_,rfl,by lia,by lia,λH' r A s nr nA hr=>?_⟩;obtain⟨f1,f2⟩:=fin (m:=st.size*2) (by rw[e3,XG]) s nr nA hr;exact⟨d.tb,_,_,rfl,rfl,f1,bP (by show 1<=1000;decide),f2⟩
  .by_cases cB:4*d.n<st.size/\4<st.size
   .have e3:st.three={st with nxt:=some (st.size/2),mv:=0}:=by
     unfold SSt.three;rw[e];exact(if_neg (by rw[<-hn];exact cA)).trans (if_pos (by rw[<-hn];exact cB))
    have c1:¬st.size<d.n:=by lia
    refine⟨_,rfl,a,_,dx,_,_,rfl,U,T.ax,T.bh,lE,_,rfl,_,_,rfl,rfl,_,rfl,bL c1 ?_⟩;refine⟨_,rfl,a,_,dx,_,_,rfl,U,T.ax,T.bh,lE,_,_,rfl,rfl,.inl ⟨by decide,by decide⟩,_,rfl,_,_,rfl,rfl,_,rfl,i5 cB.1 ⟨_,rfl,_,_,rfl,rfl,_,rfl,i5 cB.2 ?_⟩⟩;refine⟨_,rfl,a,_,dx,_,_,rfl,U,T.ax,T.aT,gJ,.inl ⟨rfl,_,SqL.of Z⟩,_,rfl,_,_,rfl,rfl,⟨by decide,by decide⟩,_,rfl,by lia,by lia,λH' r A s nr nA hr=>?_⟩;obtain⟨f1,f2⟩:=fin (m:=st.size/2) e3 s nr nA hr;exact⟨d.tb,_,_,rfl,rfl,f1,bP (by show 1<=1000;decide),f2⟩
   .have e3:st.three=st:=by
     unfold SSt.three;rw[e];exact(if_neg (by rw[<-hn];exact cA)).trans (if_neg (by rw[<-hn];exact cB))
    rw[e3]at q;have q0:=q H d hb rfl Fr.refl;by_cases c1:st.size<d.n
    .have c2:¬st.size<256:=λw=>cA ⟨c1,w⟩;have c3:¬4*d.n<st.size:=by lia
     refine⟨_,rfl,a,_,dx,_,_,rfl,U,T.ax,T.bh,lE,_,rfl,_,_,rfl,rfl,_,rfl,i5 c1 ⟨_,rfl,_,_,rfl,rfl,_,rfl,bL c2 ?_⟩⟩;exact⟨_,rfl,a,_,dx,_,_,rfl,U,T.ax,T.bh,lE,_,_,rfl,rfl,.inl ⟨by decide,by decide⟩,_,rfl,_,_,rfl,rfl,_,rfl,bL c3 q0⟩
    .refine⟨_,rfl,a,_,dx,_,_,rfl,U,T.ax,T.bh,lE,_,rfl,_,_,rfl,rfl,_,rfl,bL c1 ?_⟩;refine⟨_,rfl,a,_,dx,_,_,rfl,U,T.ax,T.bh,lE,_,_,rfl,rfl,.inl ⟨by decide,by decide⟩,_,rfl,_,_,rfl,rfl,_,rfl,?_⟩;by_cases c3:4*d.n<st.size
     .exact i5 c3 ⟨_,rfl,_,_,rfl,rfl,_,rfl,bL (λw=>cB ⟨c3,w⟩) q0⟩
     .exact bL c3 q0
section
theorem SlB.put (h:SlB t H a st d) (z:SzOk st) {kv:List (Int×V)} (I:IsCell d st k c kv) (v:V):
  ∃d',SlB t (upd H c (.dK (aN (bj kv k v)))) a {st with kv:=bj st.kv k v} d'/\d'.n=d.n/\∀b,SlF a {st with kv:=bj st.kv k v} d' b↔SlF a st d b:=
 h.setCell z I (zU (h.at I).2.2) (λ_ hp=>sO hp) (by rw[cT,cT,if_pos rfl,if_pos rfl]) λj O=>⟨by rw[cT,if_neg O],by rw[cT,if_neg O]⟩
theorem SlB.drop (h:SlB t H a st d) (z:SzOk st) {kv:List (Int×V)} (I:IsCell d st k c kv):
  ∃d',SlB t (upd H c (.dK (aN (bE kv k)))) a {st with kv:=bE st.kv k} d'/\d'.n=d.n/\∀b,SlF a {st with kv:=bE st.kv k} d' b↔SlF a st d b:=
 h.setCell z I (nS (h.at I).2.2) (λ_ hp=> .inl (vG hp)) (by rw[dj,dj,if_pos rfl,if_pos rfl]) λj O=>⟨by rw[dj,if_neg O],by rw[dj,if_neg O]⟩
theorem SlB.insM (h:SlB t H a st d):∃dx fs,H a=some (.ins t.aU dx fs)/\∀m,NoM m->fs.lookup m=none:=by
 obtain⟨dx,z⟩:=h.obj;exact⟨dx,_,z,λm I=>Gr I⟩
theorem SSt.one_kv:st.one.kv=st.kv:=by
 unfold SSt.one;cases st.nxt with
 |none=>rfl
 |some m=>show(if _ then _ else _:SSt).kv=_;split<;>rfl
theorem SSt.three_kv:st.three.kv=st.kv:=by
 unfold SSt.three;cases st.nxt with
 |some m=>rfl
 |none=>show(if _ then _ else _:SSt).kv=_;split;rfl;split<;>rfl
theorem AO {kv:List (Int×V)}:((bj kv k v).length:Int)=if(aO kv k).isSome=true then(kv.length:Int)else kv.length+1:=by
 have:=congrArg List.length (sT (kv:=kv) (k:=k) (v:=v));rw[Q0]at this;split
 .rename_i c;rw[if_pos c,Q0]at this;lia
 .rename_i c;rw[if_neg c,Qd,Q0]at this;simp at this;lia
end
theorem lJ (T:Txt K mg t):aV P w K mg base CX0 4 t.oK t.jH ["self","key"] (ug K t):=by
 refine T.Gc.okl ur λ_ _ _ s H vs Q E I h=>?_;intro X;obtain⟨a,k,F,st,rfl,⟨d,hb,U,Y,Z,z⟩,h0,q⟩:=h;refine⟨_,(aA (aG (Hm (zM (fq I) (pv 1) (aK (pv 0) T.ax T.eD (cn T) I.mo T.eJ .nil ay (ae (pv 1) ah))))))
  ,?_⟩
 obtain⟨dx,fs,hi,hm⟩:=hb.insM;refine⟨_,rfl,_,rfl,a,dx,fs,rfl,hi,hm _ (by decide+kernel),_,rfl,a,k,st,d,rfl,hb,z,λc kv O=>?_⟩;obtain⟨hc,_,_⟩:=hb.at O;refine⟨c,_,rfl,DGet.k (k:=Sum.inl k) hc,?_⟩;rw[liftK_val,hb.val k c kv O];exact q H F ⟨d,hb,U,Y,Z,z⟩ Fr.refl
theorem uB (T:Txt K mg t):aV P w K mg base CX0 4 t.oM t.jI ["self","key"] (uh K t):=by
 refine T.Gd.okl sc_Slots__get λ_ _ _ s H vs Q E I h=>?_;intro X;obtain⟨a,k,F,st,rfl,⟨d,hb,Y,Z,nd,z⟩,h0,q1,q2⟩:=h;refine aj (aJ (i:=2) sc_Slots__get.nd rfl (Or.inl rfl) (aK (pv 0) T.ax T.eD (cn T) I.mo T.eJ .nil ay (ae (pv 1) ah)))
   (aj (aZ (wD (vf (fq I) (pv 1) (pv 2)))
    (aA gN)
    aP)
   (aH (aG (gO (fq I) (pv 2) (pv 1) (λ_ _=>rfl))) ?_))
 intros
 have hA:SlA K t H a F st:=⟨d,hb,Y,Z,nd,z⟩;obtain⟨dx,fs,hi,hm⟩:=hb.insM;refine⟨_,rfl,a,dx,fs,rfl,hi,hm _ (by decide+kernel),_,rfl,a,k,st,d,rfl,hb,z,λc kv O=>?_⟩;obtain⟨hc,_,_⟩:=hb.at O;have U:=hb.val k c kv O;refine⟨_,rfl,_,rfl,c,_,rfl,DGet.k (k:=Sum.inl k) hc,?_⟩;rw[liftK_val,U];cases e:aO st.kv k with
 |none=>
  refine⟨_,rfl,dM ?_⟩;exact(q2 e).elim
 |some v=>
  refine⟨_,rfl,cq ?_⟩;refine⟨_,rfl,_,rfl,c,v,rfl,?_,q1 v e H F hA Fr.refl⟩;have:=DGet.k (k:=Sum.inl k) hc;rw[liftK_val,U,e]at this;exact this
theorem sF (T:Txt K mg t):aV P w K mg base CX0 1 t.lW t.iD ["self"] (q9 K t):=by
 refine T.EU.okl rL λ_ _ _ s H vs Q E Z h=>?_;intro X;obtain⟨a,F,st,rfl,⟨d,hb,U,I,Y,z⟩,q⟩:=h;refine⟨_,(aA (aG (aD (pv 0) rfl)))
  ,?_⟩
 obtain⟨dx,O⟩:=hb.obj;rw[I]at O;exact⟨_,rfl,a,_,dx,_,_,rfl,O,T.ax,T.bh,lE,q H F ⟨d,hb,U,I,Y,z⟩ Fr.refl⟩
theorem qr (T:Txt K mg t):aV P w K mg base CX0 1 t.kL t.gx ["self"] (qd K t):=by
 refine T.Es.okl qj λ_ _ _ s H vs Q E Z h=>?_;intro X;obtain⟨a,F,st,rfl,⟨d,hb,I,O,U,z⟩,q⟩:=h;refine⟨_,(aA (aG (aD (pv 0) rfl)))
  ,?_⟩
 obtain⟨dx,Y⟩:=hb.obj;exact⟨_,rfl,a,_,dx,_,_,rfl,Y,T.ax,T.bp,u8,q H F ⟨d,hb,I,O,U,z⟩ Fr.refl⟩
theorem lI (T:Txt K mg t):aV P w K mg base CX0 4 t.oJ t.jG ["self","key","value"] (uf K t):=by
 refine T.Gb.okl sc_Slots__put λ_ _ _ s H vs Q E hr h=>?_;intro X;obtain⟨a,k,i,F,st,rfl,⟨d,hb,hF,hn,nd,z⟩,h0,hl,q⟩:=h;refine aj (aS (bq (pv 0) T.ax T.mR (fj T) hr.mo T.m6 .nil ay))
   (aj (aJ (i:=3) sc_Slots__put.nd rfl (Or.inl rfl) (aK (pv 0) T.ax T.eD (cn T) hr.mo T.eJ .nil ay (ae (pv 1) ah)))
   (aj (aZ (wD (vf (fq hr) (pv 1) (pv 3)))
    (aA (kT (pv 0) aq Ab))
    aP)
   (aj (wF (fq hr) (pv 3) (pv 1) (pv 2) rfl)
   (aH (aS (bq (pv 0) T.ax T.mS (fk T) hr.mo T.m7 .nil ay)) ?_))))
 intros
 obtain⟨dx,fs,hi,hm⟩:=hb.insM;refine⟨_,rfl,a,dx,fs,rfl,hi,hm _ (by decide+kernel),a,st,d,rfl,hb,z,hl,λH1 Z hb1 e1 U=>?_⟩;obtain⟨al,an,ap,au⟩:=hb1.insM;have z1:=z.one;refine⟨_,rfl,a,al,an,rfl,ap,au _ (by decide+kernel),_,rfl,a,k,st.one,Z,rfl,hb1,z1,λc kv ic=>?_⟩;obtain⟨hc,cF,_⟩:=hb1.at ic;have hv:=hb1.val k c kv ic;have sh:=hb1.short z1 ic;rw[SSt.one_kv]at hv sh;obtain⟨Y,a0⟩:=hb1.obj;have na:a≠c:=bZ a0 hc (by intro w;cases w);have key:∀(H2:Hp) (n2:Int),SlB t H2 a st.one {Z with n:=n2}->Fr (SlF a st d) (SlF a st.one Z) H H2->n2=((bj st.kv k (.int i)).length:Int)->∃O,SlB t (upd H2 c (.dK (aN (bj kv k (.int i))))) a {st.one with kv:=bj st.one.kv k (.int i)} O/\O.n=((bj st.one.kv k (.int i)).length:Int)/\
   ∀H4 d4,SlB t H4 a (SSt.three {st.one with kv:=bj st.one.kv k (.int i)}) d4->d4.n=O.n->Fr (SlF a {st.one with kv:=bj st.one.kv k (.int i)} O) (SlF a (SSt.three {st.one with kv:=bj st.one.kv k (.int i)}) d4) (upd H2 c (.dK (aN (bj kv k (.int i))))) H4->Q .non H4:=λH2 n2 a1 aw az=>by
  obtain⟨O,I,e3,f3⟩:=a1.put z1 (kv:=kv) ic (.int i);have a2:O.n=((bj st.one.kv k (.int i)).length:Int):=by rw[e3,SSt.one_kv];exact az
  refine⟨O,I,a2,λH4 d4 ac e4 af=>?_⟩;rw[SSt.one_kv]at ac af f3 a2;refine q H4 _ ⟨d4,ac,λb=>Iff.rfl,?_,?_,?_⟩ ?_
  .show d4.n=((SSt.three _).kv.length:Int);rw[SSt.three_kv,e4,a2]
  .show((SSt.three _).kv.map (·.1)).Nodup;rw[SSt.three_kv];exact zU nd
  .exact(z1.kv).three
  .have step:Fr (SlF a st.one Z) (SlF a {st.one with kv:=bj st.kv k (.int i)} O) H2 (upd H2 c (.dK (aN (bj kv k (.int i))))):=λb o n w=>⟨by rw[ag (λy=>n (by rw[y];exact cF))];exact w,λy=>n ((f3 b).mp y)⟩;exact Fr.trans (λb o n w=>aw b o (λy=>n ((hF b).mpr y)) w) (Fr.trans step af)
 refine⟨_,rfl,_,rfl,c,_,rfl,DGet.k (k:=Sum.inl k) hc,?_⟩;rw[liftK_val,hv];have kl:(aN kv).length<sizeLine:=by rw[b7];exact BH (by lia)
 cases e:aO st.kv k with
 |none=>
  refine⟨_,rfl,dM ?_⟩;refine⟨_,rfl,a,_,Y,_,_,rfl,a0,T.ax,T.bh,lE,_,_,rfl,rfl,Y,_,a0,nE,?_⟩;rw[Gx];have a1:=hb1.setN (dx:=Y) (n:=Z.n+1);have b1:upd H1 a (.ins t.aU Y (slF Z.tb st.one.moved (Z.n+1))) c=some (.dK (aN kv)):=by rw[ag na.symm];exact hc
  obtain⟨O,I,n3,fin⟩:=key _ _ a1 (λb o n w=>⟨by rw[ag (λy=>(U b o n w).2 (.inl y))];exact(U b o n w).1,(U b o n w).2⟩) (by rw[AO,e,e1,hn];rfl);refine⟨_,rfl,_,rfl,_,rfl,c,_,rfl,DPut.k (k:=Sum.inl k) b1 kl,?_⟩;rw[iZ];obtain⟨a3,a4,a5,aa⟩:=I.insM;exact⟨_,rfl,a,a3,a4,rfl,a5,aa _ (by decide+kernel),a,_,O,rfl,I,z1.kv,n3,fin⟩
 |some v=>
  refine⟨_,rfl,cq ?_⟩;obtain⟨O,I,n3,fin⟩:=key H1 Z.n hb1 U (by rw[AO,e,e1,hn];rfl);refine⟨_,rfl,_,rfl,_,rfl,c,_,rfl,DPut.k (k:=Sum.inl k) hc kl,?_⟩;rw[iZ];obtain⟨a3,a4,a5,aa⟩:=I.insM;exact⟨_,rfl,a,a3,a4,rfl,a5,aa _ (by decide+kernel),a,_,O,rfl,I,z1.kv,n3,fin⟩
theorem sG (T:Txt K mg t):aV P w K mg base CX0 5 t.lY t.iF ["self","key"] (rf K t):=by
 refine T.EW.okl rN λ_ _ _ s H vs Q E Z h=>?_;intro X;obtain⟨a,k,F,st,rfl,hA,h0,q1,q2⟩:=h;refine aj (aZ (gc (b9 (aK (pv 0) T.ax T.wS (lJ T) Z.mo T.xB .nil ay (ae (pv 1) ah))))
    (aA gN)
    aP)
   (aj (aS (bq (pv 0) T.ax T.mR (fj T) Z.mo T.m6 .nil ay))
   (aj (aS (cJ QH Xk PySem.F.type_dict_pop AG (aK (pv 0) T.ax T.eD (cn T) Z.mo T.eJ .nil ay (ae (pv 1) ah)) (ae (pv 1) ah)))
   (aj (kT (pv 0) aq HK)
   (aH (aS (bq (pv 0) T.ax T.mS (fk T) Z.mo T.m7 .nil ay)) ?_))))
 intros
 obtain⟨dx,fs,hi,hm⟩:=hA.ins;refine⟨_,rfl,a,dx,fs,rfl,hi,hm _ (by decide+kernel),_,rfl,a,k,F,st,rfl,hA,h0,λH0 F0 a0 a1=>?_⟩;cases e:aO st.kv k with
 |none=>
  refine⟨_,rfl,dM ?_⟩;exact(q2 e).elim
 |some v=>
  refine⟨_,rfl,cq ?_⟩;obtain⟨d,hb,hF,hn,nd,z⟩:=a0;obtain⟨dx,fs,hi,hm⟩:=hb.insM;obtain⟨hl,q1⟩:=q1 (by rw[e];rfl);refine⟨_,rfl,a,dx,fs,rfl,hi,hm _ (by decide+kernel),a,st,d,rfl,hb,z,hl,λH1 d1 hb1 e1 a2=>?_⟩;obtain⟨a3,a4,a5,aa⟩:=hb1.insM;have z1:=z.one;refine⟨_,rfl,a,a3,a4,rfl,a5,aa _ (by decide+kernel),_,rfl,a,k,st.one,d1,rfl,hb1,z1,λc kv ic=>?_⟩;obtain⟨hc,cF,_⟩:=hb1.at ic;have hv:=hb1.val k c kv ic;rw[SSt.one_kv,e]at hv;obtain⟨d3,I,e3,f3⟩:=hb1.drop z1 ic;rw[SSt.one_kv]at I f3;refine⟨.inr (.inr (.inl ⟨rfl,.inl ⟨_,hc⟩⟩)),_,rfl,c,_,Sum.inl k,v,rfl,rfl,hc,liftK_val.trans hv,?_⟩;rw[sS];obtain⟨O,U⟩:=I.obj;refine⟨_,rfl,a,_,O,_,_,rfl,U,T.ax,T.bh,lE,_,_,rfl,rfl,O,_,U,nE,?_⟩;rw[Gx];have Y:=I.setN (dx:=O) (n:=d3.n-1);obtain⟨ac,af,al,an⟩:=Y.insM;have dl:=vH nd (qA e);have n4:d3.n-1=((bE st.kv k).length:Int):=by rw[e3,e1,hn];lia
  refine⟨_,rfl,a,ac,af,rfl,al,an _ (by decide+kernel),a,_,_,rfl,Y,z1.kv,n4,λH5 d5 ap e5 au=>?_⟩;refine q1 H5 _ ⟨d5,ap,λb=>Iff.rfl,?_,?_,z1.kv.three⟩ ?_
  .show d5.n=((SSt.three _).kv.length:Int);rw[SSt.three_kv,e5];exact n4
  .show((SSt.three _).kv.map (·.1)).Nodup;rw[SSt.three_kv];exact nS nd
  .refine a1.trans (Fr.trans (λb o n w=>a2 b o (λy=>n ((hF b).mpr y)) w) (Fr.trans (λb o n w=>?_) au));exact⟨by rw[ag (λy=>n (.inl y)),ag (λy=>n (by rw[y];exact cF))];exact w,λy=>n ((f3 b).mp y)⟩
theorem gh (T:Txt K mg t):aV P w K mg base CX0 1 t.lV t.iC ["self"] (qZ K t):=by
 refine T.ET.okl rK λ_ _ _ s H vs Q E hr h=>?_;intro X;obtain⟨a,F,st,rfl,⟨d,hb,hF,hn,nd,z⟩,q⟩:=h;refine⟨_,(aA (aG (fE rfl (CScope.of (M:=["row"]) (N:=["self"]) (N':=["self"]) (dsc:=ak eP) rfl rfl (by decide+kernel)) (bN (aD (pv 0) rfl)) (λ_ _ _ _ _=>(av (uK K rfl) (by rfl) T.bx a7 (ae (pv 0) ah))))))
  ,?_⟩
 have hA:SlA K t H a F st:=⟨d,hb,hF,hn,nd,z⟩;obtain⟨dx,ho⟩:=hb.obj;have a0:∃xs,H d.tb=some (.lst xs)/\xs.length=st.rows.length/\∀(i:Nat) (x:V),xs[i]?=some x->∃r Y,x= .ref r/\H r=some (.lst Y)/\st.rows[i]?=some (Y.length:Int):=by
  have I:=hb.tbl;have l0:((d.A0.map V.ref).length:Int)=st.size:=by rw[Q0];exact hb.row0.la
  unfold SSt.rows;have r1:=hb.row1;cases e:st.nxt with
  |none=>
   rw[e]at I;refine⟨_,I,rfl,λi x hx=>?_⟩;cases i with
   |zero=>cases hx;exact⟨d.r0,_,rfl,hb.row0.lst,by rw[l0];rfl⟩
   |succ j=>simp at hx
  |some m=>
   rw[e]at I r1;have l1:((d.A1.map V.ref).length:Int)=m:=by rw[Q0];exact r1.la
   refine⟨_,I,rfl,λi x hx=>?_⟩;cases i with
   |zero=>cases hx;exact⟨d.r0,_,rfl,hb.row0.lst,by rw[l0];rfl⟩
   |succ j=>
    cases j with
    |zero=>cases hx;exact⟨d.r1,_,rfl,r1.lst,by rw[l1];rfl⟩
    |succ j=>simp at hx
 obtain⟨xs,I,lx,look⟩:=a0;refine⟨_,rfl,a,_,dx,_,_,rfl,ho,T.ax,T.aT,gJ,d.tb,rfl,⟨_,SqL.of I⟩,λD O=>?_⟩;refine eG (K:=K) (a:=d.tb) (xs:=xs) (λi ys H3=>H3=upd H D (.lst ys)/\ys=(st.rows.take i).map V.int) ⟨rfl,rfl⟩ (λi ys H3 _ w=>SqL.of (by rw[w.1,ag (ao I O)];exact I)) (λi x ys H3 hx w U=>?_) (λys H3 w U=>?_)
 .obtain⟨Z,e2⟩:=w;obtain⟨r,Y,rfl,hr,hs⟩:=look i x hx;have hi:i<xs.length:=(Q2.mp hx).1;have a1:H3 r=some (.lst Y):=by rw[Z,ag (ao hr O)];exact hr
  refine⟨_,rfl,r,_,rfl,.inl (SqL.of a1),CNext.mk hi U ?_ ⟨?_,?_⟩⟩
  .rw[e2,Q0,Qe];have:st.rows.length<=2:=by(unfold SSt.rows;cases st.nxt<;>simp)
   exact bP (by lia)
  .rw[Z,bM]
  .rw[e2,Qn,hs,Q9];rfl
 .obtain⟨Z,e2⟩:=w;rw[lx,Qz]at e2;subst e2;subst Z;exact q _ F D (hA.new O) (Fr.of_same (am O)) O (hA.out O) ai
theorem G5 {sh n:Int}:a9 ("kept":Str) (.int n) (a9 ("shifted":Str) (.int sh) (a9 ("table":Str) (.ref tb) []))=slF tb sh n:=by
 have z:a9 ("table":Str) (.ref tb) []=[(("table":Str),V.ref tb)]:=rfl;rw[z,a9,if_neg (by decide+kernel),a9,a9,if_neg (by decide+kernel),a9,if_neg (by decide+kernel),a9];rfl
theorem kg (T:Txt K mg t):aV P w K mg base CX0 2 t.lX t.iE ["self"] (rc K t):=by
 obtain⟨I,z⟩:=T.g_LEAST_SIZE;refine T.EV.okl rM λ_ _ _ s H vs Q E O h=>?_;intro X;obtain⟨a,dx,rfl,ha,hd,q⟩:=h;refine aj (cc (pv 0) (dH (ae (aQ (nO T) O.mo (by rfl) T.pX T.kP.kp T.p4 .nil ay (ae (cm (v:= .int 4) (by rfl) z ⟨_,rfl⟩) ah)) ah)) rfl)
   (aj (cc (pv 0) aq rfl)
   (aH (cc (pv 0) aq rfl) ?_))
 intros
 refine⟨4,rfl,by decide,by decide,λH' r A s nr nA O=>⟨(by show 1<=sizeLine;decide),λtb Z=>?_⟩⟩;have U:=s _ _ ha;have Y:a≠tb:=ao U Z;refine⟨_,rfl,a,_,dx,[],rfl,(by rw[ag Y];exact U),T.ax,T.aT,(by show 0<1000;decide),?_⟩;refine⟨_,rfl,a,_,dx,_,rfl,ai,T.ax,T.bp,?_,?_⟩
 .show 1<1000;decide
 refine⟨_,rfl,a,_,dx,_,rfl,ai,T.ax,T.bh,?_,?_⟩
 .have h1:=j6 (f:="shifted") (v:= .int 0) (a9 "table" (.ref tb) []);have h2:=j6 (f:="table") (v:= .ref tb) [];have h3:([]:List (Str×V)).length=0:=rfl;lia
 rw[G5,bM,bM];have a0:tb≠r:=(ao O.lst Z).symm;have sb:=SlB.fresh (t:=t) (H:=upd (upd H' tb (.lst [.ref r])) a (.ins t.aU dx (slF tb 0 0))) (a:=a) (tb:=tb) (r:=r) (A:=A) (dx:=dx) ai (by rw[ag Y.symm];exact ai) (O.frame λb hb1=>?_) a0
 .refine q _ _ ⟨_,sb,λb=>Iff.rfl,rfl,Zi,SzOk.new⟩ λb o n w=>?_;have n1:b≠a:=λy=>n (.inl y);have w1:=s _ _ w;have n2:b≠tb:=ao w1 Z;refine⟨by rw[ag n1,ag n2];exact w1,λy=>?_⟩;rcases y with y|y|y|y|⟨y,_⟩|y
  .exact n1 y
  .exact n2 y
  .have y:b=r:=y;rw[y,nr]at w;cases w
  .rw[nA b y]at w;cases w
  .cases y
  .cases y
 .have:∃o,H' b=some o:=by
   rcases hb1 with rfl|hb1
   .exact⟨_,O.lst⟩
   .obtain⟨_,_,_,_,w⟩:=O.has hb1;exact⟨_,w⟩
  obtain⟨o,w⟩:=this;have n2:b≠tb:=ao w Z;have n1:b≠a:=λy=>by
   rcases hb1 with y2|y2
   .rw[<-y2,y,ha]at nr;cases nr
   .have:=nA b y2;rw[y,ha]at this;cases this
  rw[ag n1,ag n2]
theorem fF (e:A[j]?=some c):atI (A.map V.ref) (j:Int)=some (.ref c):=by
 refine xD ?_;rw[Qc,e];rfl
theorem Bm (z:x≠[]) (e:x[x.length-1]?=some m):atI (x.map V.int) (-1)=some (.int m):=by
 have hl:=Z4.mpr z;unfold atI ixN;rw[Q0,if_neg (by decide),if_pos (by lia)];show(x.map V.int)[((-1:Int)+(x.length:Int)).toNat]?=_;have:((-1:Int)+(x.length:Int)).toNat=x.length-1:=by lia
 rw[this,Qc,e];rfl
theorem AS (h:i<A.length):ixN (A.map V.ref).length (i:Int)=some i:=by
 unfold ixN;rw[if_pos (by lia),if_pos (by rw[Q0];lia)];rfl
theorem mU:∀(A:List Addr) (i:Nat),(A.map V.ref).eraseIdx i=(A.eraseIdx i).map V.ref
 | [],_=>rfl
 |_::_,0=>rfl
 |a::r,i+1=>by
  show V.ref a::(r.map V.ref).eraseIdx i=V.ref a::(r.eraseIdx i).map V.ref;rw[mU r i]
theorem vE:∀(ls:List (List Int)) (i:Nat) (y:List Int),(ls.set i y).eraseIdx i=ls.eraseIdx i
 | [],_,_=>rfl
 |_::_,0,_=>rfl
 |x::r,i+1,y=>by
  show x::(r.set i y).eraseIdx i=x::r.eraseIdx i;rw[vE r i y]
def GM (a:Addr) (k:Int) (ls:List (List Int)) (H:Hp):Nat->St->Hp->Prop:=λm σ H'=>∃(lo hi:Nat) (v4:Option V),m=hi-lo/\H'=H/\σ=[some (.ref a),some (.int k),some (.int (lo:Int)),some (.int (hi:Int)),v4]/\lo<=hi/\hi<=ls.length/\
 (∀(j:Nat) (x:List Int),j<lo->ls[j]?=some x->∀y∈x,y<k)/\∀(j:Nat) (x:List Int),hi<=j->ls[j]?=some x->∃y∈x,k<=y
def mC (t:Adr):Sp:=λvs H Q _=>∃(a:Addr) (k:Int) (L:Addr) (A:List Addr) (ls:List (List Int)),vs=[.ref a,.int k]/\LvB t H a L A ls/\(∀l∈ls,l≠[])/\bK ls.flatten/\∀i:Nat,LeafOf ls k i->Q (.int (i:Int)) H
theorem bX (T:Txt K mg t):aV P w K mg base CX0 1 t.gW t.dQ ["self","key"] (mC t):=by
 refine T.Bt.okl sc_Leaves__leaf_of λ_ _ _ s H vs Q E hr h=>?_;intro X;obtain⟨a,k,L,A,ls,rfl,hb,ne,Z,q⟩:=h;refine aj (aJ (i:=2) sc_Leaves__leaf_of.nd rfl (Or.inl rfl) aq)
   (aj (aJ (i:=3) sc_Leaves__leaf_of.nd rfl (Or.inl rfl) (av aC (by rfl) T.bx a7 (ae (aD (pv 0) rfl) ah)))
   (dn (λx=>(se PassesOwn.never (aE fg (pv 2) (pv 3) (aL _))
    x)) ?_))
 refine aj (aJ (i:=4) sc_Leaves__leaf_of.nd rfl (Or.inl rfl) (aR jw (aR bJ (pv 2) (pv 3)) aq))
   (aH (aZ (aE fg (bf aX (bf aX (aD (pv 0) rfl) (pv 4) (λ_ _=>rfl)) (Dn zk aq) (λ_ _=>rfl)) (pv 1) (aL _))
    (aA (aJ (i:=2) sc_Leaves__leaf_of.nd rfl (Or.inl rfl) (aR bJ (pv 4) aq)))
    (aA (aJ (i:=3) sc_Leaves__leaf_of.nd rfl (Or.inl rfl) (pv 4)))) ?_)
 intros
 refine aH (aG (pv 2)) ?_
 intros
 obtain⟨dx,ho⟩:=hb.obj;have lA:((A.map V.ref).length:Int)=(ls.length:Int):=by rw[Q0,hb.len]
 refine⟨_,rfl,a,_,dx,_,_,rfl,ho,T.aI,T.aB,cK,L,_,rfl,.inl (SqL.of hb.lst),?_⟩;dsimp only;rw[lA];refine⟨GM a k ls H,⟨_,0,ls.length,none,rfl,rfl,rfl,Qi _,Q4 _,λj x h=>absurd h (by lia),λj x h e=>?_⟩,?_⟩
 .have:=(Q2.mp e).1;lia
 rintro m σ H' ⟨lo,hi,v4,rfl,rfl,rfl,h1,h2,h3,h4⟩;refine⟨_,rfl,_,rfl,_,_,rfl,rfl,_,rfl,oh (λc=>?_) (λc=>?_)⟩
 .have c:lo<hi:=by have:=of_decide_eq_true c;lia
  refine⟨λa0 H''=>∃m',m'<hi-lo/\GM a k ls H' m' a0 H'',λ_ _ h=>h,?_⟩;refine⟨_,rfl,_,rfl,_,_,rfl,rfl,_,_,rfl,rfl,⟨by decide,by decide⟩,?_⟩;obtain⟨I,em,m1,m2⟩:∃I:Nat,((lo:Int)+(hi:Int))/2=(I:Int)/\lo<=I/\I<hi:=⟨(lo+hi)/2,by lia,by lia,by lia⟩;dsimp only;rw[em];have hm:I<ls.length:=by lia
  have ex:ls[I]?=some ls[I]:=Q3 hm;obtain⟨b,eb,a1⟩:=hb.at ex;have O:=ne _ (Zr hm);obtain⟨g,eg,gm,U⟩:=DT (Fj Z ex) O;refine⟨_,rfl,a,_,dx,_,_,rfl,ho,T.aI,T.aB,cK,_,rfl,L,_,_,_,rfl,rfl,SqL.of hb.lst,fF eb,_,rfl,b,_,_,_,rfl,rfl,SqL.of a1,Bm O eg,_,rfl,_,_,rfl,rfl,_,rfl,oh (λY=>?_) (λY=>?_)⟩
  .have Y:=of_decide_eq_true Y;refine⟨_,rfl,_,_,rfl,rfl,hi-(I+1),by lia,I+1,hi,_,rfl,rfl,rfl,by lia,h2,λj x hj e y hy=>?_,h4⟩;rcases(show j<I\/j=I by lia)with h|h
   .have:=vc Z e ex h y hy g gm;lia
   .subst h;rw[ex]at e;cases e;have:=U y hy;lia
  .have Y:¬g<k:=λz=>Y (decide_eq_true z);refine⟨_,rfl,I-lo,by lia,lo,I,_,rfl,rfl,rfl,by lia,by lia,h3,λj x hj e=>?_⟩;rcases(show j=I\/I<j by lia)with h|h
   .subst h;rw[ex]at e;cases e;exact⟨g,gm,by lia⟩
   .obtain⟨y,hy⟩:=List.exists_mem_of_ne_nil x (ne x (Q1 e));have:=vc Z ex e h g gm y hy;exact⟨y,hy,by lia⟩
 .have c:¬lo<hi:=λz=>c (decide_eq_true (by lia));have:lo=hi:=by lia
  subst this;exact⟨_,rfl,q lo ⟨h2,h3,λx e=>h4 lo x (Q4 _) e⟩⟩
theorem yH {k:Int}:∀{x:List Int},inV (.int k) (x.map V.int)=decide (k∈x)
 | []=>rfl
 |a::r=>by
  have I:=yH (k:=k) (x:=r);unfold inV at I⊢;rw[Qo,ZW,I];have:eqV (.int a) (.int k)=decide (k=a):=by
   show(_:Bool)=_;by_cases c:a=k
   .subst c;simp[eqV]
   .have O:¬k=a:=λz=>c z.symm;simp[eqV,c,O]
  rw[this];by_cases c:k=a
  .simp[c]
  .simp[c]
theorem Cs:(x.map V.int).all oo=true:=by
 rw[List.all_map];exact QB.mpr λ_ _=>rfl
theorem ki (T:Txt K mg t):aV P w K mg base CX0 2 t.l5 t.iI ["self","key"] (rj K t):=by
 refine T.EZ.okl sc_Leaves__has λ_ _ _ s H vs Q E hr h=>?_;intro X;obtain⟨a,k,F,ks,rfl,O,q⟩:=h;refine aj (aJ (i:=2) sc_Leaves__has.nd rfl (Or.inl rfl) (aK (pv 0) T.aI T.dJ (bX T) hr.mo T.dW .nil ay (ae (pv 1) ah)))
   (aH (aG (pz (eS fg (pv 2) (av aC (by rfl) T.bx a7 (ae (aD (pv 0) rfl) ah)) (aL _)) (pq (eS BV (pv 1) (bf aX (aD (pv 0) rfl) (pv 2) (λ_ _=>rfl)) rfl)))) ?_)
 intros
 obtain⟨dx,fs,hi,hm⟩:=O.ins;have q:=q H F O Fr.refl;obtain⟨L,A,ls,hb,ok,Y,hF⟩:=O;obtain⟨I,Z⟩:=hb.obj;have lA:((A.map V.ref).length:Int)=(ls.length:Int):=by rw[Q0,hb.len]
 refine⟨_,rfl,a,dx,fs,rfl,hi,hm _ (by decide+kernel),_,rfl,a,k,L,A,ls,rfl,hb,ok.ne,ok.up,λi li=>?_⟩;refine⟨_,rfl,_,rfl,a,_,I,_,_,rfl,Z,T.aI,T.aB,cK,L,_,rfl,.inl (SqL.of hb.lst),_,_,rfl,rfl,_,rfl,oh (λc=>?_) (λc=>?_)⟩
 .have c:=of_decide_eq_true c;have hi:i<ls.length:=by lia
  have ex:ls[i]?=some ls[i]:=Q3 hi;obtain⟨b,eb,U⟩:=hb.at ex;refine⟨_,rfl,_,rfl,a,_,I,_,_,rfl,Z,T.aI,T.aB,cK,_,rfl,L,_,_,_,rfl,rfl,SqL.of hb.lst,fF eb,b,_,rfl,.inl (SqL.of U),rfl,Cs,?_⟩;show Q (.bl (inV (.int k) (ls[i].map V.int))) H;rw[yH];have:k∈ls[i]↔k∈ks:=by
   rw[<-Y,li.mem ok];constructor
   .exact λz=>⟨_,ex,z⟩
   .rintro ⟨x,e,z⟩;rw[ex]at e;cases e;exact z
  rw[decide_eq_decide.mpr this];exact q
 .have c:¬(i:Int)<((A.map V.ref).length:Int):=λz=>c (decide_eq_true z);have:k∉ks:=λz=>by
   rw[<-Y,li.mem ok]at z;obtain⟨x,e,_⟩:=z;have:=(Q2.mp e).1;lia
  rw[decide_eq_false this]at q;exact q
theorem jO (T:Txt K mg t):aV P w K mg base CX0 1 t.kM t.gy ["self"] (qe K t):=by
 refine T.Et.okl qk λ_ _ _ s H vs Q E Z h=>?_;intro X;obtain⟨a,dx,rfl,ha,hd,q⟩:=h;refine⟨_,(aA (cc (pv 0) (dH ah) rfl))
  ,?_⟩
 refine⟨Qi _,λL I=>⟨_,rfl,a,_,dx,[],rfl,(by rw[ag (ao ha I)];exact ha),T.aI,T.aB,(by show 0<1000;decide),?_⟩⟩;have Y:=ao ha I;refine q _ (LvF a L []) ⟨L,[],[],⟨⟨dx,ai⟩,by rw[ag Y.symm];exact ai,rfl,(λj b l e=>by simp at e),(λi j b e=>by simp at e),(λz=>by cases z)⟩,LvOk.nil,rfl,λb=>Iff.rfl⟩ λb o n w=>?_;have O:b≠a:=λy=>n (.inl y);have U:b≠L:=ao w I;refine⟨by rw[ag O,ag U];exact w,λy=>?_⟩;rcases y with y|y|y
 .exact O y
 .exact U y
 .cases y
def jU (t:Adr):Sp:=λvs H Q _=>∃(a L:Addr) (A:List Addr) (ls:List (List Int)) (i:Nat) (x:List Int),vs=[.ref a,.int (i:Int)]/\LvB t H a L A ls/\ls[i]?=some x/\x.length=9/\ls.length<5000/\
 ∀H' A',LvB t H' a L A' ((ls.set i (x.take 4)).take (i+1)++x.drop 4::(ls.set i (x.take 4)).drop (i+1))->Fr (LvF a L A) (LvF a L A') H H'->Q .non H'
theorem kh (T:Txt K mg t):aV P w K mg base CX0 1 t.fu t.cR ["self","at"] (jU t):=by
 refine T.zd.okl sc_Leaves__part_leaf λ_ _ _ s H vs Q E hr h=>?_;intro X;obtain⟨a,L,A,ls,i,x,rfl,hb,ex,lx,ll,q⟩:=h;refine aj (aJ (i:=2) sc_Leaves__part_leaf.nd rfl (Or.inl rfl) (bf aX (aD (pv 0) rfl) (pv 1) (λ_ _=>rfl)))
   (aj (aJ (i:=3) sc_Leaves__part_leaf.nd rfl (Or.inl rfl) (aR jw (av aC (by rfl) T.bx a7 (ae (pv 2) ah)) aq))
   (aj (zJ (dG gI (pv 2) fB (fA (pv 3))) (zL (aD (pv 0) rfl) (pv 1) rG))
   (aH (aS (cJ Qu PySem.F.slot_list_insert PySem.F.type_list_insert vo (aD (pv 0) rfl) (ae (aR bJ (pv 1) aq) (ae (dG gI (pv 2) (fA (pv 3)) fB) ah)))) ?_)))
 intros
 obtain⟨dx,ho⟩:=hb.obj;obtain⟨c,ec,hc⟩:=hb.at ex;have au:i<A.length:=(Q2.mp ec).1;have a0:((x.map V.int).length:Int)=9:=by rw[Q0,lx];rfl
 refine⟨_,rfl,a,_,dx,_,_,rfl,ho,T.aI,T.aB,cK,_,rfl,L,_,_,_,rfl,rfl,SqL.of hb.lst,fF ec,?_⟩;refine⟨_,rfl,c,_,rfl,.inl (SqL.of hc),_,_,rfl,rfl,⟨by decide,by decide⟩,?_⟩;dsimp only;rw[a0];have a1:ox (x.map V.int) none (some (9/2))=(x.take 4).map V.int:=by
  unfold ox;rw[Q0,lx];show((x.map V.int).drop 0).take (4-0)=_;rw[Zk,Zh]
 have a2:ox (x.map V.int) (some (9/2)) none=(x.drop 4).map V.int:=by
  unfold ox;rw[Q0,lx];show((x.map V.int).drop 4).take (9-4)=_;rw[Xx,Qr (by rw[QD,Q0,lx];exact Q4 _)]
 refine⟨_,rfl,_,rfl,_,rfl,c,_,rfl,SqL.of hc,λI U=>?_⟩;rw[a1];have s1:Same H (upd H I (.lst ((x.take 4).map V.int))):=am U;have hb1:=hb.same s1;have a3:upd H I (.lst ((x.take 4).map V.int)) I=some (.lst ((x.take 4).map V.int)):=ai;have aw:=hb.out U;have a4:=s1 _ _ ho;have a5:=s1 _ _ hc;have aa:=s1 _ _ hb.lst;generalize upd H I (.lst ((x.take 4).map V.int))=H1 at s1 hb1 a3 a4 a5 aa⊢;refine⟨_,rfl,a,_,dx,_,_,rfl,a4,T.aI,T.aB,cK,_,rfl,L,_,_,_,rfl,rfl,aa,AS au,?_⟩;have es:(A.map V.ref).set i (V.ref I)=(A.set i I).map V.ref:=by rw[List.map_set]
 rw[es];have O:=hb1.swap ec ex a3 aw;have cL:c≠L:=λz=>hb.nL (z▸Q1 ec);have ac:upd H1 L (.lst ((A.set i I).map V.ref)) c=some (.lst (x.map V.int)):=by rw[ag cL];exact a5
 obtain⟨ax,af⟩:=O.obj;have Y:=O.lst;have f2:Fr (LvF a L A) (LvF a L (A.set i I)) H (upd H1 L (.lst ((A.set i I).map V.ref))):=λb o n w=>by
  have w1:=s1 _ _ w;refine⟨by rw[ag (λy=>n (.inr (.inl y)))];exact w1,λy=>?_⟩;rcases y with y|y|y
  .exact n (.inl y)
  .exact n (.inr (.inl y))
  .rcases List.mem_or_eq_of_mem_set y with y|y
   .exact n (.inr (.inr y))
   .rw[y,U]at w;cases w
 generalize upd H1 L (.lst ((A.set i I).map V.ref))=H2 at O ac af Y f2⊢;refine⟨_,rfl,a,_,ax,_,_,rfl,af,T.aI,T.aB,cK,.inl ⟨rfl,_,SqL.of Y⟩,_,rfl,_,_,rfl,rfl,_,rfl,_,rfl,_,rfl,c,_,rfl,SqL.of ac,λn2 Z=>?_⟩;rw[a2];have s3:Same H2 (upd H2 n2 (.lst ((x.drop 4).map V.int))):=am Z;have al:=O.same s3;have an:upd H2 n2 (.lst ((x.drop 4).map V.int)) n2=some (.lst ((x.drop 4).map V.int)):=ai;have az:=O.out Z;have ap:=s3 _ _ Y;generalize upd H2 n2 (.lst ((x.drop 4).map V.int))=H3 at s3 al an ap⊢;have lS:(A.set i I).length=A.length:=QK;refine⟨L,_,_,_,rfl,rfl,ap,(by lia),(by rw[Q0,lS];lia),(by rw[Q0,lS,hb.len];exact bi (by lia)),?_⟩;have ei:((i:Int)+1).toNat=i+1:=by lia
 have b1:=al.insert (i:=i+1) (by rw[lS];lia) an az;rw[ei];have em:((A.set i I).map V.ref).take (i+1)++V.ref n2::((A.set i I).map V.ref).drop (i+1)=((A.set i I).take (i+1)++n2::(A.set i I).drop (i+1)).map V.ref:=by
  rw[Q9,Qo,Zh,Xx]
 rw[em];refine q _ _ b1 (f2.trans (λb o n w=>?_));have w3:=s3 _ _ w;refine⟨by rw[ag (λy=>n (.inr (.inl y)))];exact w3,λy=>?_⟩;rcases y with y|y|y
 .exact n (.inl y)
 .exact n (.inr (.inl y))
 .rcases Q5.mp y with y|y
  .exact n (.inr (.inr (QP y)))
  .rcases Qg.mp y with y|y
   .rw[y,Z]at w;cases w
   .exact n (.inr (.inr (X0 y)))
theorem LvB.insM {L:Addr} (h:LvB t H a L A ls):∃dx fs,H a=some (.ins t.bn dx fs)/\∀m,m≠("leaves":Str)->fs.lookup m=none:=by
 obtain⟨dx,z⟩:=h.obj;exact⟨dx,_,z,λm I=>GD I⟩
theorem kj (T:Txt K mg t):aV P w K mg base CX0 3 t.mf t.iJ ["self","key"] (rn K t):=by
 obtain⟨O,I⟩:=T.g_MOST_IN_LEAF;refine T.E1.okl sc_Leaves__add λ_ _ _ s H vs Q E hr h=>?_;intro X;obtain⟨a,k,F,ks,rfl,hA,hl,q1,q2⟩:=h;refine aj (aZ (b9 (aK (pv 0) T.aI T.uE (ki T) hr.mo T.uN .nil ay (ae (pv 1) ah)))
    (aA gN)
    aP)
   (dn (λx=>aZ (aE gP (av aC (by rfl) T.bx a7 (ae (aD (pv 0) rfl) ah)) aq (aL _)) x aP) ?_)
 refine aj (aS (cJ Qu Z9 Za eC (aD (pv 0) rfl) (ae (dH (ae (pv 1) ah)) ah)))
   (aH kS ?_)
 intros
 refine aj (aJ (i:=2) sc_Leaves__add.nd rfl (Or.inl rfl) (av (vL rfl) (by rfl) T.CM xu (ae (aK (pv 0) T.aI T.dJ (bX T) hr.mo T.dW .nil ay (ae (pv 1) ah)) (ae (aR mM (av aC (by rfl) T.bx a7 (ae (aD (pv 0) rfl) ah)) aq) ah))))
   (aj (aJ (i:=3) sc_Leaves__add.nd rfl (Or.inl rfl) (bf aX (aD (pv 0) rfl) (pv 2) (λ_ _=>rfl)))
   (aj (aS (cJ Qu PySem.F.slot_list_insert PySem.F.type_list_insert vo (pv 3) (ae (av aC (by rfl) T.bx a7 (ae (sj rfl (CScope.of (M:=["one"]) (N:=["self","key","at","leaf"]) (N':=["self","key","at","leaf"]) (dsc:=ak eQ) rfl rfl (by decide+kernel)) (bN (pv 3)) (λ_ _ _ _ _=>(aE fg (pv 0) (pv 2) (aL _))) (λ_ _ _ _ _=>(pv 0))) ah)) (ae (pv 1) ah))))
   (aH (aZ (aE AD (av aC (by rfl) T.bx a7 (ae (pv 3) ah)) (cm (v:= .int 8) (by rfl) I ⟨_,rfl⟩) (aL _))
    (aA (aS (aK (pv 0) T.aI T.zb (kh T) hr.mo T.zc .nil ay (ae (pv 2) ah))))
    aP) ?_)))
 intros
 obtain⟨dx,fs,hi,hm⟩:=hA.ins;refine⟨_,rfl,a,dx,fs,rfl,hi,hm _ (by decide+kernel),_,rfl,a,k,F,ks,rfl,hA,λH0 F0 aa a1=>?_⟩;by_cases ck:k∈ks
 .rw[decide_eq_true ck];refine⟨_,rfl,dM ?_⟩;exact(q2 ck).elim
 rw[decide_eq_false ck];refine⟨_,rfl,cq ?_⟩;have q:=q1 ck;obtain⟨L,A,ls,hb,ok,ef,hF⟩:=aa;obtain⟨U,ho⟩:=hb.obj;have lA:((A.map V.ref).length:Int)=(ls.length:Int):=by rw[Q0,hb.len]
 have sh:=ok.short;rw[ef]at sh;have fr:Fr F (LvF a L A) H H0:=λb o n e=>⟨(a1 b o n e).1,λy=>(a1 b o n e).2 ((hF b).mpr y)⟩;have nk:k∉ls.flatten:=by rw[ef];exact ck
 by_cases ce:ls=[]
 .subst ce;have eA:A=[]:=List.length_eq_zero_iff.mp hb.len;subst eA;refine⟨_,rfl,a,_,U,_,_,rfl,ho,T.aI,T.aB,cK,L,_,rfl,.inl (SqL.of hb.lst),rfl,_,rfl,qv rfl ?_⟩;refine⟨_,rfl,a,_,U,_,_,rfl,ho,T.aI,T.aB,cK,.inl ⟨rfl,_,SqL.of hb.lst⟩,_,rfl,(by show 1<=sizeLine;decide),λn nn=>?_⟩;have s1:Same H0 (upd H0 n (.lst [.int k])):=am nn;have hb1:=hb.same s1;have ac:upd H0 n (.lst [.int k]) n=some (.lst (([k]:List Int).map V.int)):=ai;have nF:=hb.out nn;have af:=s1 _ _ hb.lst;refine⟨L,_,_,rfl,rfl,af,bP (by show 0<=1000;decide),?_⟩;have al:=hb1.insert (i:=0) (Qi _) ac nF;have an:LvOk [[k]]:=⟨(λl hl=>by rw[Qa.mp hl];simp),(λl hl=>by rw[Qa.mp hl];simp),(λi x y e1 e2=>by simp at e2),by show bK [k];exact Z3 _ _⟩;refine q _ (LvF a L [n]) [k] ⟨L,[n],[[k]],al,an,rfl,λb=>Iff.rfl⟩ (λz=>?_) (fr.trans λb o n' w=>?_)
  .rw[<-ef];simp
  .have w1:=s1 _ _ w;refine⟨by rw[ag (λy=>n' (.inr (.inl y)))];exact w1,λy=>?_⟩;rcases y with y|y|y
   .exact n' (.inl y)
   .exact n' (.inr (.inl y))
   .rw[Qa.mp y,nn]at w;cases w
 .have bd:=Z4.mpr ce;refine⟨_,rfl,a,_,U,_,_,rfl,ho,T.aI,T.aB,cK,L,_,rfl,.inl (SqL.of hb.lst),rfl,_,rfl,bL (λw=>?_) ?_⟩
  .have:=V.int.inj w;lia
  obtain⟨ap,au,aw,ax⟩:=hb.insM;refine⟨_,rfl,a,ap,au,rfl,aw,ax _ (by decide+kernel),_,rfl,a,k,L,A,ls,rfl,hb,ok.ne,ok.up,λi li=>?_⟩;refine⟨_,rfl,a,_,U,_,_,rfl,ho,T.aI,T.aB,cK,L,_,rfl,.inl (SqL.of hb.lst),_,_,rfl,rfl,_,_,rfl,?_⟩;obtain⟨x,ad⟩:=li.add ok ce;have em:(if((A.map V.ref).length:Int)-1<(i:Int)then((A.map V.ref).length:Int)-1 else(i:Int))=((min i (ls.length-1):Nat):Int):=by
   rw[lA];split<;>lia
  dsimp only;rw[em];generalize min i (ls.length-1)=j at ad⊢;obtain⟨c,ec,hc⟩:=hb.at ad.at_;have jl:j<ls.length:=(Q2.mp ad.at_).1;have x8:=ok.le x (Q1 ad.at_);refine⟨_,rfl,a,_,U,_,_,rfl,ho,T.aI,T.aB,cK,_,rfl,L,_,_,_,rfl,rfl,SqL.of hb.lst,fF ec,?_⟩;refine⟨_,rfl,.inl ⟨rfl,_,SqL.of hc⟩,_,rfl,c,rfl,⟨_,SqL.of hc⟩,λD hD=>?_⟩;refine jM (K:=K) (a:=c) (xs:=x.map V.int) (λn ys H3=>H3=upd H0 D (.lst ys)/\ys=((x.take n).filter (λz=>decide (z<k))).map V.int) ⟨rfl,rfl⟩ (λn ys H3 _ w=>SqL.of (by rw[w.1,ag (ao hc hD)];exact hc)) (λn v ys H3 hv w Y=>?_) (λys H3 w Y=>?_)
  .obtain⟨e1,e2⟩:=w;obtain⟨g,rfl,eg⟩:∃g:Int,v= .int g/\x[n]?=some g:=by
    rw[Qc]at hv;cases e:x[n]? with
    |none=>rw[e]at hv;cases hv
    |some g=>rw[e]at hv;cases hv;exact⟨g,rfl,rfl⟩
   have hn:n<(x.map V.int).length:=(Q2.mp hv).1;refine⟨_,rfl,_,rfl,_,_,rfl,rfl,_,rfl,?_⟩;have fl:ys.length<=8:=by
    rw[e2,Q0];have h1:=QF (λz=>decide (z<k)) (x.take n);have h2:(x.take n).length<=x.length:=by rw[Qe];lia
    lia
   by_cases cg:g<k
   .refine i5 cg ⟨_,rfl,CNext.mk hn Y (bP (by lia)) ⟨by rw[e1,bM],?_⟩⟩;rw[e2,Qn,eg,Z1,Q9];simp[cg]
   .refine bL cg (CSkip.mk hn Y ⟨e1,?_⟩);rw[e2,Qn,eg,Z1];simp[cg]
  .obtain⟨e1,e2⟩:=w;rw[Q0,Qz]at e2;have s3:Same H0 H3:=by rw[e1];exact am hD
   have az:=hb.same s3;have b1:=s3 _ _ hc;have yl:(ys.length:Int)=((x.filter (λz=>decide (z<k))).length:Int):=by rw[e2,Q0]
   have be:=QF (λz=>decide (z<k)) x;refine⟨D,_,rfl,.inl (SqL.of Y),_,rfl,c,_,_,_,rfl,rfl,b1,(by lia),(by rw[Q0];lia),(by rw[Q0];exact bP (by lia)),?_⟩;have ei:(x.map V.int).take (ys.length:Int).toNat++V.int k::(x.map V.int).drop (ys.length:Int).toNat=(eY x k).map V.int:=by
    rw[yl,QT];unfold eY;rw[Q9,Qo,Zh,Xx]
   dsimp only;rw[ei];have Z:=az.write (y:=eY x k) ec ad.at_;have il:=DY (l:=x) (k:=k);obtain⟨a2,a0⟩:=ad.set ok nk;have cF:LvF a L A c:= .inr (.inr (Q1 ec));have f4:Fr (LvF a L A) (LvF a L A) H0 (upd H3 c (.lst ((eY x k).map V.int))):=λb o n w=>⟨by rw[ag (λy=>n (by rw[y];exact cF))];exact s3 _ _ w,n⟩;have a3:upd H3 c (.lst ((eY x k).map V.int)) c=some (.lst ((eY x k).map V.int)):=ai;generalize upd H3 c (.lst ((eY x k).map V.int))=H4 at Z f4 a3⊢;refine⟨_,rfl,c,_,rfl,.inl (SqL.of a3),_,_,rfl,rfl,_,rfl,?_⟩;have ll:((eY x k).map V.int).length=x.length+1:=by rw[Q0,il]
   by_cases c9:x.length=8
   .refine i5 (by rw[ll];lia) ?_;obtain⟨b2,b3,b4,b5⟩:=Z.insM;have e5:(ls.set j (eY x k))[j]?=some (eY x k):=by rw[Qy,if_pos rfl,if_pos jl]
    refine⟨_,rfl,a,b2,b3,rfl,b4,b5 _ (by decide+kernel),_,rfl,a,L,A,_,j,_,rfl,Z,e5,by lia,by rw[QK];lia,λH6 A6 a4 f6=>?_⟩;have er:(ls.set j (eY x k)).set j ((eY x k).take 4)=ls.set j ((eY x k).take 4):=List.set_set _;rw[er]at a4;have b6:bK (ls.set j ((eY x k).take 4++(eY x k).drop 4)).flatten:=by rw[QG];exact a2
    obtain⟨b8,a5⟩:=ok.parted ad.at_ (a:=(eY x k).take 4) (b:=(eY x k).drop 4) (by rw[Qe];lia) (by rw[QD];lia) b6;rw[QG]at a5;refine q H6 _ _ ⟨L,A6,_,a4,b8,rfl,λb=>Iff.rfl⟩ (λz=>?_) (fr.trans (f4.trans f6));rw[a5,a0,ef]
   .refine bL (by rw[ll];lia) ?_;have bb:=ok.grown ad.at_ (y:=eY x k) (by lia) (by lia) a2;exact q H4 _ _ ⟨L,A,_,Z,bb,rfl,λb=>Iff.rfl⟩ (λz=>by rw[a0,ef]) (fr.trans f4)
def jP (t:Adr):Sp:=λvs H Q _=>∃(a L:Addr) (A:List Addr) (ls:List (List Int)) (i:Int),vs=[.ref a,.int i]/\LvB t H a L A ls/\-1<=i/\i<(ls.length:Int)/\(∀l∈ls,l.length<=8)/\ls.length<5000/\
 ∀H' A' ls',LvB t H' a L A' ls'->ls'=(if 0<=i then lM ls i.toNat else ls)->Fr (LvF a L A) (LvF a L A') H H'->Q .non H'
theorem DG {n:Addr} (h:b∈A.set i n):b∈A\/b=n:=List.mem_or_eq_of_mem_set h
theorem jQ (T:Txt K mg t):aV P w K mg base CX0 1 t.e7 t.cx ["self","at"] (jP t):=by
 obtain⟨O,z⟩:=T.g_LEAST_IN_TWO;refine T.za.okl sc_Leaves__join_small λ_ _ _ s H vs Q E hr h=>?_;intro X;obtain⟨a,L,A,ls,i,rfl,hb,i0,i1,l8,ll,q⟩:=h;refine aj (aZ (PW.pt (iU (aE fg (pv 1) aq (aL _)) (io (aE gP (aR bJ (pv 1) aq) (av aC (by rfl) T.bx a7 (ae (aD (pv 0) rfl) ah)) (aL _)))))
    (aA kS)
    aP)
   (aj (aJ (i:=2) sc_Leaves__join_small.nd rfl (Or.inl rfl) (aR Hq (bf aX (aD (pv 0) rfl) (pv 1) (λ_ _=>rfl)) (bf aX (aD (pv 0) rfl) (aR bJ (pv 1) aq) (λ_ _=>rfl))))
   (vj (λx=>aZ (aE fg (av aC (by rfl) T.bx a7 (ae (pv 2) ah)) (cm (v:= .int 5) (by rfl) z ⟨_,rfl⟩) (aL _)) x aP) ?_))
 refine aj (zJ (pv 2) (zL (aD (pv 0) rfl) (pv 1) rG))
   (aH (aS (cJ Qu PySem.F.slot_list_pop PySem.F.type_list_pop yt (aD (pv 0) rfl) (ae (aR bJ (pv 1) aq) ah))) ?_)
 intros
 obtain⟨dx,ho⟩:=hb.obj;have lA:((A.map V.ref).length:Int)=(ls.length:Int):=by rw[Q0,hb.len]
 by_cases c0:i<0
 .refine⟨_,rfl,_,_,rfl,rfl,_,rfl,i5 c0 ?_⟩;exact dM (q H A ls hb (by rw[if_neg (by lia)]) Fr.refl)
 refine⟨_,rfl,_,_,rfl,rfl,_,rfl,bL c0 ?_⟩;obtain⟨n,rfl⟩:=Z2 (show 0<=i by lia);have en:((n:Int)).toNat=n:=QT n;rw[if_pos (by lia),en]at q;refine⟨_,rfl,_,_,rfl,rfl,_,rfl,a,_,dx,_,_,rfl,ho,T.aI,T.aB,cK,L,_,rfl,.inl (SqL.of hb.lst),rfl,_,rfl,?_⟩;by_cases c1:n+1=ls.length
 .refine qv (congrArg V.int (by rw[lA];lia)) ?_;exact q H A ls hb (sX (by lia)).symm Fr.refl
 refine bL (λw=>c1 (by have:=V.int.inj w;rw[lA]at this;lia)) ?_;have hn:n<ls.length:=by lia
 have Y:n+1<ls.length:=by lia
 have ex:ls[n]?=some ls[n]:=Q3 hn;have ey:ls[n+1]?=some ls[n+1]:=Q3 Y;have x8:=l8 _ (Zr hn);have y8:=l8 _ (Zr Y);generalize ls[n]=x at ex x8;generalize ls[n+1]=y at ey y8;obtain⟨c,ec,hc⟩:=hb.at ex;obtain⟨d,ed,hd⟩:=hb.at ey;have al:(n:Int)+1=((n+1:Nat):Int):=rfl;refine⟨_,rfl,a,_,dx,_,_,rfl,ho,T.aI,T.aB,cK,_,rfl,L,_,_,_,rfl,rfl,SqL.of hb.lst,fF ec,_,rfl,a,_,dx,_,_,rfl,ho,T.aI,T.aB,cK,_,rfl,_,_,rfl,rfl,L,_,_,_,rfl,rfl,SqL.of hb.lst,fF ed,c,d,_,_,rfl,rfl,hc,hd,Zd (bP (by rw[Q0,Q0];lia)),λI Z=>?_⟩;rw[<-Q9];have s1:Same H (upd H I (.lst ((x++y).map V.int))):=am Z;have hb1:=hb.same s1;have a0:upd H I (.lst ((x++y).map V.int)) I=some (.lst ((x++y).map V.int)):=ai;have nF:=hb.out Z;have a2:=s1 _ _ ho;have a3:=s1 _ _ hb.lst;generalize upd H I (.lst ((x++y).map V.int))=H1 at s1 hb1 a0 a2 a3⊢;refine⟨_,rfl,I,_,rfl,.inl (SqL.of a0),_,_,rfl,rfl,_,rfl,?_⟩;have a4:(((x++y).map V.int).length:Int)=(x.length:Int)+(y.length:Int):=by rw[Q0,Qd];rfl
 rw[yF ex ey]at q;by_cases c5:x.length+y.length<5
 .refine i5 (by rw[a4];lia) ?_;rw[if_pos c5]at q;have nA:n<A.length:=by rw[hb.len];exact hn
  refine⟨_,rfl,_,rfl,a,_,dx,_,_,rfl,a2,T.aI,T.aB,cK,_,rfl,L,_,_,_,rfl,rfl,a3,AS nA,?_⟩;have es:(A.map V.ref).set n (V.ref I)=(A.set n I).map V.ref:=by rw[List.map_set]
  rw[es];have U:=hb1.swap ec ex a0 nF;obtain⟨aa,a5⟩:=U.obj;have a1:=U.lst;have f2:Fr (LvF a L A) (LvF a L (A.set n I)) H (upd H1 L (.lst ((A.set n I).map V.ref))):=λb o n' w=>by
   have w1:=s1 _ _ w;refine⟨by rw[ag (λy=>n' (.inr (.inl y)))];exact w1,λy=>?_⟩;rcases y with y|y|y
   .exact n' (.inl y)
   .exact n' (.inr (.inl y))
   .rcases DG y with y|y
    .exact n' (.inr (.inr y))
    .rw[y,Z]at w;cases w
  generalize upd H1 L (.lst ((A.set n I).map V.ref))=H2 at U a5 a1 f2⊢;have lS:((A.set n I).map V.ref).length=ls.length:=by rw[Q0,QK,hb.len]
  have ac:n+1<(A.set n I).length:=by rw[QK,hb.len];exact Y
  have sx:seqIndex? ((n:Int)+1) ((A.set n I).map V.ref).length=some (n+1):=by
   have:=seqIndex_of (k:=(n:Int)+1) (n:=((A.set n I).map V.ref).length) (by lia) (by rw[lS];lia);rw[this];congr 1
  refine⟨_,rfl,a,_,aa,_,_,rfl,a5,T.aI,T.aB,cK,.inl ⟨rfl,_,SqL.of a1⟩,_,rfl,_,_,rfl,rfl,L,_,_,n+1,_,rfl,rfl,a1,(by lia),(by lia),sx,(by rw[Qc,Q3 ac];rfl),?_⟩;have af:=U.erase (i:=n+1);have em:((A.set n I).map V.ref).eraseIdx (n+1)=((A.set n I).eraseIdx (n+1)).map V.ref:=mU _ _;rw[em];refine q _ _ _ af rfl (f2.trans λb o n' w=>?_);refine⟨by rw[ag (λy=>n' (.inr (.inl y)))];exact w,λy=>?_⟩;rcases y with y|y|y
  .exact n' (.inl y)
  .exact n' (.inr (.inl y))
  .exact n' (.inr (.inr (Z8 y)))
 .refine bL (by rw[a4];lia) ?_;rw[if_neg c5]at q;exact q H1 A ls hb1 rfl (Fr.of_same s1)
theorem mQ (T:Txt K mg t):aV P w K mg base CX0 3 t.gY t.dS ["self","key"] (mE K t):=by
 refine T.Bv.okl sc_Leaves__discard λ_ _ _ s H vs Q E hr h=>?_;intro X;obtain⟨a,k,F,ks,rfl,hA,hl,q1,q2⟩:=h;refine aj (aZ (gc (b9 (aK (pv 0) T.aI T.uE (ki T) hr.mo T.uN .nil ay (ae (pv 1) ah))))
    (aA gN)
    aP)
   (aj (aJ (i:=2) sc_Leaves__discard.nd rfl (Or.inl rfl) (aK (pv 0) T.aI T.dJ (bX T) hr.mo T.dW .nil ay (ae (pv 1) ah)))
   (aj (aS (cJ Qu PySem.F.slot_list_remove PySem.F.type_list_remove B8 (bf aX (aD (pv 0) rfl) (pv 2) (λ_ _=>rfl)) (ae (pv 1) ah)))
   (dn (λx=>aZ (aE gP (av aC (by rfl) T.bx a7 (ae (bf aX (aD (pv 0) rfl) (pv 2) (λ_ _=>rfl)) ah)) aq (aL _)) x aP) ?_)))
 refine aj (aS (cJ Qu PySem.F.slot_list_pop PySem.F.type_list_pop yt (aD (pv 0) rfl) (ae (pv 2) ah)))
   (aH kS ?_)
 intros
 refine aj (aS (aK (pv 0) T.aI T.ku (jQ T) hr.mo T.kI .nil ay (ae (pv 2) ah)))
   (aH (aS (aK (pv 0) T.aI T.ku (jQ T) hr.mo T.kI .nil ay (ae (aR mM (pv 2) aq) ah))) ?_)
 intros
 obtain⟨dx,fs,hi,hm⟩:=hA.ins;refine⟨_,rfl,a,dx,fs,rfl,hi,hm _ (by decide+kernel),_,rfl,a,k,F,ks,rfl,hA,λH0 F0 ac a2=>?_⟩;by_cases ck:k∈ks
 case neg=>
  rw[decide_eq_false ck];refine⟨_,rfl,dM ?_⟩;exact(q2 ck).elim
 rw[decide_eq_true ck];refine⟨_,rfl,cq ?_⟩;have q:=q1 ck;obtain⟨L,A,ls,hb,ok,ef,hF⟩:=ac;obtain⟨af,ho⟩:=hb.obj;have sh:=ok.short;rw[ef]at sh;have fr:Fr F (LvF a L A) H H0:=λb o n e=>⟨(a2 b o n e).1,λy=>(a2 b o n e).2 ((hF b).mpr y)⟩;obtain⟨al,an,ap,au⟩:=hb.insM;refine⟨_,rfl,a,al,an,rfl,ap,au _ (by decide+kernel),_,rfl,a,k,L,A,ls,rfl,hb,ok.ne,ok.up,λi li=>?_⟩;obtain⟨x,ex,hx⟩:=(li.mem ok).mp (by rw[ef];exact ck);obtain⟨c,ec,hc⟩:=hb.at ex;have il:i<ls.length:=(Q2.mp ex).1;have bh:i<A.length:=by rw[hb.len];exact il
 refine⟨_,rfl,a,_,af,_,_,rfl,ho,T.aI,T.aB,cK,_,rfl,L,_,_,_,rfl,rfl,SqL.of hb.lst,fF ec,.inl ⟨rfl,_,SqL.of hc⟩,_,rfl,c,x,k,rfl,rfl,hc,hx,?_⟩;have hb1:=hb.write (y:=x.erase k) ec ex;obtain⟨up1,I⟩:=ok.gone ex hx;have cF:LvF a L A c:= .inr (.inr (Q1 ec));have f1:Fr (LvF a L A) (LvF a L A) H0 (upd H0 c (.lst ((x.erase k).map V.int))):=λb o n w=>⟨by rw[ag (λy=>n (by rw[y];exact cF))];exact w,n⟩;have a3:upd H0 c (.lst ((x.erase k).map V.int)) c=some (.lst ((x.erase k).map V.int)):=ai;obtain⟨a4,Z⟩:=hb1.obj;have U:=hb1.lst;generalize upd H0 c (.lst ((x.erase k).map V.int))=H1 at hb1 f1 a3 Z U⊢;have le:=List.length_erase_of_mem hx;refine⟨_,rfl,a,_,a4,_,_,rfl,Z,T.aI,T.aB,cK,_,rfl,L,_,_,_,rfl,rfl,SqL.of U,fF ec,c,_,rfl,.inl (SqL.of a3),rfl,_,rfl,?_⟩;have px:=Xf hx;by_cases c0:x.length=1
 .refine qv (congrArg V.int (by rw[Q0,le,c0];rfl)) ?_;have en:x.erase k=[]:=List.length_eq_zero_iff.mp (by lia);rw[en]at up1 I hb1;have sx:seqIndex? (i:Int) (A.map V.ref).length=some i:=by
   have:=seqIndex_of (k:=(i:Int)) (n:=(A.map V.ref).length) (by lia) (by rw[Q0];lia);rw[this,QT]
  refine⟨_,rfl,a,_,a4,_,_,rfl,Z,T.aI,T.aB,cK,.inl ⟨rfl,_,SqL.of U⟩,_,rfl,L,_,_,i,_,rfl,rfl,U,(by lia),(by lia),sx,(by rw[Qc,ec];rfl),?_⟩;have O:=hb1.erase (i:=i);have e2:(ls.set i ([]:List Int)).eraseIdx i=ls.eraseIdx i:=vE _ _ _;rw[e2]at O;rw[mU];obtain⟨aw,ax⟩:=ok.out ex c0 up1;refine q _ _ _ ⟨L,_,_,O,aw,rfl,λb=>Iff.rfl⟩ (λz=>by rw[ax,I,ef]) ((fr.trans f1).trans λb o n w=>?_);refine⟨by rw[ag (λy=>n (.inr (.inl y)))];exact w,λy=>?_⟩;rcases y with y|y|y
  .exact n (.inl y)
  .exact n (.inr (.inl y))
  .exact n (.inr (.inr (Z8 y)))
 .refine bL (λw=>c0 (by have:=V.int.inj w;rw[Q0,le]at this;lia)) ?_;have ny:x.erase k≠[]:=Zn (by lia);have w1:=ok.shrunk ex ny (by lia) up1;obtain⟨az,b1,b2,b3⟩:=hb1.insM;have a0:(ls.set i (x.erase k)).length=ls.length:=QK;refine⟨_,rfl,a,az,b1,rfl,b2,b3 _ (by decide+kernel),_,rfl,a,L,A,_,(i:Int),rfl,hb1,by lia,by rw[a0];lia,w1.le,by rw[a0];lia,λH2 A2 Y O e2 f2=>?_⟩;rw[if_pos (by lia),QT]at e2;obtain⟨w2,a5⟩:=w1.join (i:=i) (λj h=>h);rw[<-e2]at w2 a5;have l2:i<=Y.length/\Y.length<=ls.length:=by
   have:=Cl (ls:=ls.set i (x.erase k)) (i:=i);rw[<-e2,a0]at this;lia
  obtain⟨b4,b5,b6,b8⟩:=O.insM;refine⟨_,rfl,a,b4,b5,rfl,b6,b8 _ (by decide+kernel),_,rfl,_,_,rfl,rfl,a,L,A2,Y,(i:Int)-1,rfl,O,by lia,by lia,w2.le,by lia,λH3 A3 a1 bb e3 f3=>?_⟩;have fin:LvOk a1/\a1.flatten=Y.flatten:=by
   by_cases ci:i=0
   .subst ci;rw[if_neg (by lia)]at e3;subst e3;exact⟨w2.ok λj h=>by lia,rfl⟩
   .have ei:((i:Int)-1).toNat=i-1:=by lia
    rw[if_pos (by lia),ei]at e3;obtain⟨w3,aa⟩:=w2.join (i:=i-1) (λj h=>by lia);rw[<-e3]at w3 aa;exact⟨w3.ok λj h=>by lia,aa⟩
  obtain⟨bd,be⟩:=fin;refine q H3 _ _ ⟨L,A3,a1,bb,bd,rfl,λb=>Iff.rfl⟩ (λz=>by rw[be,a5,I,ef]) (((fr.trans f1).trans f2).trans f3)
def GN (a l:Addr) (k n:Int) (ls:List (List Int)) (H:Hp):Nat->St->Hp->Prop:=λm σ H'=>∃(i:Nat),m=ls.length-i/\Same H H'/\H l=none/\σ=[some (.ref a),some (.int k),some (.int n),some (.ref l),some (.int (i:Int))]/\i<=ls.length/\H' l=some (.lst ((((ls.take i).flatten).filter λz=>decide (k<=z)).map V.int))
theorem vD (e:ls[i]?=some x):(ls.take (i+1)).flatten=(ls.take i).flatten++x:=by
 rw[Qn,e,Zc];simp
theorem yL (ls:List (List Int)) (i:Nat):ls.flatten=(ls.take i).flatten++(ls.drop i).flatten:=by rw[<-Zc,QG]
theorem c8 (T:Txt K mg t):aV P w K mg base CX0 2 t.gX t.dR ["self","key","most"] (mD K t):=by
 refine T.Bu.okl sc_Leaves__from_on λ_ _ _ s H vs Q E hr h=>?_;intro X;obtain⟨a,k,n,F,ks,rfl,hA,hl,n0,q⟩:=h;refine aj (aJ (i:=3) sc_Leaves__from_on.nd rfl (Or.inl rfl) (dH ah))
   (aj (aJ (i:=4) sc_Leaves__from_on.nd rfl (Or.inl rfl) (aK (pv 0) T.aI T.dJ (bX T) hr.mo T.dW .nil ay (ae (pv 1) ah)))
   (dn (λx=>(se PassesOwn.never (PW.pt (j5 (aE fg (pv 4) (av aC (by rfl) T.bx a7 (ae (aD (pv 0) rfl) ah)) (aL _)) (gM (aE fg (av aC (by rfl) T.bx a7 (ae (pv 3) ah)) (pv 2) (aL _)))))
    x)) ?_))
 refine aj (aS (cJ Qu PySem.F.slot_list_extend PySem.F.type_list_extend vp (pv 3) (ae (sj rfl (CScope.of (M:=["one"]) (N:=["self","key","most","told","at"]) (N':=["self","key","most","told","at"]) (dsc:=ak cj) rfl rfl (by decide+kernel)) (bN (bf aX (aD (pv 0) rfl) (pv 4) (λ_ _=>rfl))) (λ_ _ _ _ _=>(aE Dr (pv 0) (pv 2) (aL _))) (λ_ _ _ _ _=>(pv 0))) ah)))
   (aH (Hf (i:=4) sc_Leaves__from_on.nd rfl (Or.inl rfl) aq HH) ?_)
 intros
 refine aH (aG (dG gI (pv 3) fB (fA (pv 2)))) ?_
 intros
 obtain⟨L,A,ls,hb,ok,ef,hF⟩:=hA;refine⟨Qi _,λl nl=>?_⟩;have s0:Same H (upd H l (.lst [])):=am nl;have e0:upd H l (.lst []) l=some (.lst (([]:List Int).map V.int)):=ai;have U:=hb.same s0;generalize upd H l (.lst [])=H0 at s0 e0 U⊢;obtain⟨a3,a4,a5,aa⟩:=U.insM;refine⟨_,rfl,a,a3,a4,rfl,a5,aa _ (by decide+kernel),_,rfl,a,k,L,A,ls,rfl,U,ok.ne,ok.up,λi0 li=>?_⟩;have f0:((ls.take i0).flatten).filter (λz=>decide (k<=z))=[]:=List.filter_eq_nil_iff.mpr λz hz=>by
  have:=Cq ok li z hz;simpa using this
 have lA:((A.map V.ref).length:Int)=(ls.length:Int):=by rw[Q0,hb.len]
 refine⟨GN a l k n ls H,⟨_,i0,rfl,s0,nl,rfl,li.le,by rw[f0];exact e0⟩,?_⟩;rintro m σ H' ⟨i,rfl,s1,_,rfl,il,e1⟩;have hb1:=hb.same s1;obtain⟨a0,a1⟩:=hb1.obj;have fin:∀(done:((((ls.take i).flatten).filter λz=>decide (k<=z)).take n.toNat)=(ks.filter λz=>decide (k<=z)).take n.toNat),∀p,H' p=none->Q (.ref p) (upd H' p (.lst (ox ((((ls.take i).flatten).filter λz=>decide (k<=z)).map V.int) none (some n)))):=λdone p np=>by
  refine q _ p (s1.trans (am np)) ?_ ?_
  .cases e:H p with
   |none=>rfl
   |some o=>rw[s1 _ _ e]at np;cases np
  .rw[ai,kH n0,<-Zh,done]
 refine⟨_,rfl,_,rfl,a,_,a0,_,_,rfl,a1,T.aI,T.aB,cK,L,_,rfl,.inl (SqL.of hb1.lst),_,_,rfl,rfl,_,rfl,?_⟩;by_cases c:i<ls.length
 .refine i5 (by rw[lA];lia) ?_;refine⟨_,rfl,l,_,rfl,.inl (SqL.of e1),_,rfl,_,_,rfl,rfl,_,rfl,?_⟩;by_cases c2:((((((ls.take i).flatten).filter λz=>decide (k<=z)).map V.int).length:Nat):Int)<n
  .refine i5 c2 ?_;refine⟨λac H''=>∃m',m'<ls.length-i/\GN a l k n ls H m' ac H'',λ_ _ h=>h,?_⟩;have ex:ls[i]?=some ls[i]:=Q3 c;obtain⟨b,eb,I⟩:=hb1.at ex;have lb:l≠b:=λz=>by
    obtain⟨b',a2,h'⟩:=hb.at ex;rw[eb]at a2;cases a2;rw[<-z,nl]at h';cases h'
   have al:=QF (λz=>decide (k<=z)) (ls.take i).flatten;have af:(ls.take i).flatten.length+ls[i].length<=ks.length:=by
    rw[<-ef,yL ls (i+1),vD ex,Qd,Qd];lia
   refine⟨_,rfl,.inl ⟨rfl,_,SqL.of e1⟩,_,rfl,a,_,a0,_,_,rfl,a1,T.aI,T.aB,cK,_,rfl,L,_,_,_,rfl,rfl,SqL.of hb1.lst,fF eb,b,rfl,⟨_,SqL.of I⟩,λD hD=>?_⟩;generalize ls[i]=x at ex I af⊢;refine jM (K:=K) (a:=b) (xs:=x.map V.int) (λm ys H3=>H3=upd H' D (.lst ys)/\ys=((x.take m).filter (λz=>decide (k<=z))).map V.int) ⟨rfl,rfl⟩ (λm ys H3 _ w=>SqL.of (by rw[w.1,ag (ao I hD)];exact I)) (λm v ys H3 Z w O=>?_) (λys H3 w O=>?_)
   .obtain⟨w1,Y⟩:=w;obtain⟨g,rfl,eg⟩:∃g:Int,v= .int g/\x[m]?=some g:=by
     rw[Qc]at Z;cases e:x[m]? with
     |none=>rw[e]at Z;cases Z
     |some g=>rw[e]at Z;cases Z;exact⟨g,rfl,rfl⟩
    have hn:m<(x.map V.int).length:=(Q2.mp Z).1;refine⟨_,rfl,_,rfl,_,_,rfl,rfl,_,rfl,?_⟩;have fl:ys.length<=100000:=by
     rw[Y,Q0];have h1:=QF (λz=>decide (k<=z)) (x.take m);have h2:(x.take m).length<=x.length:=by rw[Qe];lia
     lia
    by_cases cg:k<=g
    .refine i5 cg ⟨_,rfl,CNext.mk hn O (bi fl) ⟨by rw[w1,bM],?_⟩⟩;rw[Y,Qn,eg,Z1,Q9];simp[cg]
    .refine bL cg (CSkip.mk hn O ⟨w1,?_⟩);rw[Y,Qn,eg,Z1];simp[cg]
   .obtain⟨w1,Y⟩:=w;rw[Q0,Qz]at Y;have s3:Same H' H3:=by rw[w1];exact am hD
    have e3:=s3 _ _ e1;have an:=QF (λz=>decide (k<=z)) x;have hsz:((((ls.take i).flatten).filter λz=>decide (k<=z)).map V.int).length+ys.length<=sizeLine:=by
     rw[Y,Q0,Q0];exact Zd (bi (by lia))
    refine⟨l,D,_,_,rfl,rfl,e3,O,hsz,?_⟩;have hE:(((ls.take i).flatten).filter λz=>decide (k<=z)).map V.int++ys=(((ls.take (i+1)).flatten).filter λz=>decide (k<=z)).map V.int:=by
     rw[Y,vD ex,Z1,Q9]
    rw[hE];refine⟨_,rfl,_,_,rfl,rfl,_,?_,i+1,rfl,?_,nl,rfl,c,ai⟩
    .lia
    .exact cU (s1.trans s3) nl
  .refine bL c2 ?_;refine⟨_,rfl,_,rfl,_,rfl,l,_,rfl,SqL.of e1,fin ?_⟩;have:ks.filter (λz=>decide (k<=z))=((ls.take i).flatten).filter (λz=>decide (k<=z))++((ls.drop i).flatten).filter (λz=>decide (k<=z)):=by rw[<-ef,yL ls i,Z1]
   rw[this,List.take_append_of_le_length];rw[Q0]at c2;lia
 .refine bL (by rw[lA];lia) ?_;have ei:i=ls.length:=by lia
  subst ei;refine⟨_,rfl,_,rfl,_,rfl,l,_,rfl,SqL.of e1,fin ?_⟩;rw[Qz,ef]
theorem j3:∀{a b:List Int},bK a->bK b->(∀z,z∈a↔z∈b)->a=b
 | [],[],_,_,_=>rfl
 | [],y::r,_,_,h=>by have:=(h y).mpr Q6;cases this
 |x::r,[],_,_,h=>by have:=(h x).mp Q6;cases this
 |x::r,y::r',ha,hb,h=>by
  obtain⟨O,Y⟩:=Zl.mp ha;obtain⟨U,Z⟩:=Zl.mp hb;have I:x=y:=by
   rcases Qg.mp ((h x).mp Q6)with e|e
   .exact e
   .rcases Qg.mp ((h y).mpr Q6)with e2|e2
    .exact e2.symm
    .have h1:=U x e;have h2:=O y e2;lia
  subst I;rw[j3 Y Z λz=>?_];constructor
  .intro hz;rcases Qg.mp ((h z).mp (Q8 _ hz))with e|e
   .have:=O z hz;lia
   .exact e
  .intro hz;rcases Qg.mp ((h z).mpr (Q8 _ hz))with e|e
   .have:=U z hz;lia
   .exact e
theorem LvA.rise (h:LvA K t H a F ks):bK ks:=by
 obtain⟨_,_,ls,_,ok,z,_⟩:=h;rw[<-z];exact ok.up
structure Tp where
 p:Addr
 k:Int
 v:V
def Tp.kv (e:Tp):Int×V:=(e.k,e.v)
theorem sD (T:Txt K mg t):aV P w K mg base CX0 3 t.lT t.iA ["self","place"] (qX K t):=by
 refine T.ER.okl sc_Slots__stop λ_ _ _ s H vs Q E I h=>?_;intro X;obtain⟨a,p,F,st,rfl,O,Y,p1,q⟩:=h;refine aj (aJ (i:=2) sc_Slots__stop.nd rfl (Or.inl rfl) (av (vM rfl) (by rfl) T.CM xu (ae (bq (pv 0) T.ax T.iw (gh T) I.mo T.iQ .nil ay) ah)))
   (aH (aG (bf kA (aQ (uw T) I.mo (by rfl) T.FG T.xI.kp T.FY .nil ay (ae (aQ (ss T) I.mo (by rfl) T.Cd T.vY.kp T.Cy .nil ay (ae (pv 1) (ae (pv 2) ah))) (ae (pv 2) ah))) aq (λ_ _=>rfl))) ?_)
 intros
 have z:SzOk st:=let⟨_,_,_,_,_,z⟩:=O;z
 obtain⟨s4,s5⟩:=bF (mT z);obtain⟨x,y,R⟩:=Dj (mT z);obtain⟨dx,fs,hi,hm⟩:=O.ins;refine⟨_,rfl,a,dx,fs,rfl,hi,hm _ (by decide+kernel),a,F,st,rfl,O,λH1 F1 l sA fr nl oF hl=>⟨l,st.rows,rfl,SqL.of hl,?_,λM hM U=>?_⟩⟩
 .unfold SSt.rows;cases st.nxt<;>simp
 .have eM:=DN hM U;subst eM;refine⟨_,rfl,_,rfl,p,_,rfl,Y,by lia,_,rfl,_,_,rfl,QC _ (by lia),by lia,by lia,λtp Z=>?_⟩;rw[we R Y p1];exact⟨tp,_,_,_,rfl,rfl,SqT.of ai,rfl,q _ F1 (sA.new Z) (fr.trans (Fr.of_same (am Z)))⟩
structure Rw where
 r:Addr
 A:List Addr
 C:List (List (Int×V))
 s:Int
def dX (st:SSt) (d:SlD):List Rw:=match st.nxt with|none=> [⟨d.r0,d.A0,d.C0,st.size⟩]|some m=> [⟨d.r0,d.A0,d.C0,st.size⟩,⟨d.r1,d.A1,d.C1,m⟩]
def plc (k:Int):Int:=tz (k%65536)
theorem qH {lo hi st:Int} {x:Nat} (h:0<st):x<mY lo hi st↔lo+(x:Int)*st<hi:=by
 unfold mY;rw[lH h];by_cases c:lo<hi
 .rw[if_pos c];have a:0<=(hi-lo-1)/st:=K7 (by lia) (by lia);have e:(x:Int)<=(hi-lo-1)/st↔(x:Int)*st<=hi-lo-1:=Int.le_ediv_iff_mul_le h;lia
 .rw[if_neg c];have:0<=(x:Int)*st:=Xp (by lia) (by lia);lia
theorem bT {kv:List (Int×V)} (z:(kv.map (·.1)).Nodup) (h:(k,v)∈kv):aO kv k=some v:=by
 induction kv with
 |nil=>cases h
 |cons p r I=>
  rw[Qo,QN]at z;by_cases e:p.1=k
  .rw[bc e];rcases Qg.mp h with h|h
   .rw[<-h]
   .exact absurd (QS (f:=(·.1)) h) (by rw[<-e]at*;exact z.1)
  .rw[ba e];rcases Qg.mp h with h|h
   .rw[<-h]at e;exact absurd rfl e
   .exact I z.2 h
theorem eX {kv:List (Int×V)} (h:aO kv k=some v):(k,v)∈kv:=by
 induction kv with
 |nil=>rw[jS]at h;cases h
 |cons p r z=>
  by_cases e:p.1=k
  .rw[bc e]at h;cases h;rw[<-e];exact Q6
  .rw[ba e]at h;exact Q8 _ (z h)
theorem qL {ri:Nat} {kv:List (Int×V)} (hb:SlB t H a st d) (Y:(dX st d)[ri]?=some R) (hk:R.C[j]?=some kv) (Z:(k,v)∈kv):
  k%65536%R.s=(j:Int)/\(kv.map (·.1)).Nodup/\∃c,IsCell d st k c kv:=by
 have U:∀{A:List Addr} {C:List (List (Int×V))} {r:Addr} {s:Int} {x:Nat},RowOk H r A C s->C[x]?=some kv->∃b,A[x]?=some b:=λ{A C r s x} ro h=>by
  have h1:=(Q2.mp h).1;have h2:=ro.la;have h3:=ro.lc;exact⟨A[x]'(by lia),Q3 _⟩
 have a0:kv≠[]:=λz=>by rw[z]at Z;cases Z
 have O:=hb.row1;have zero:(j:Int)<st.moved->d.C0[j]?=some kv->False:=λh1 h2=>a0 (hb.old _ _ h2 h1);unfold dX at Y;cases en:st.nxt with
 |none=>
  rw[en]at Y;cases ri with
  |zero=>
   cases Y;have I:=hb.row0.home _ _ hk _ Z;obtain⟨b,eb⟩:=U hb.row0 hk;refine⟨I,hb.row0.ndk _ _ hk,b,.inl ⟨?_,by rw[I];exact eb,by rw[I];exact hk⟩⟩;rw[I,SSt.moved_none en];lia
  |succ j=>simp at Y
 |some m=>
  rw[en]at Y O;cases ri with
  |zero=>
   cases Y;have I:=hb.row0.home _ _ hk _ Z;obtain⟨b,eb⟩:=U hb.row0 hk;refine⟨I,hb.row0.ndk _ _ hk,b,.inl ⟨?_,by rw[I];exact eb,by rw[I];exact hk⟩⟩;rw[I];exact Int.not_lt.mp λy=>zero y hk
  |succ j'=>
   cases j' with
   |zero=>
    cases Y;have I:=O.home _ _ hk _ Z;obtain⟨b,eb⟩:=U O hk;exact⟨I,O.ndk _ _ hk,b,.inr ⟨_,en,hb.new _ _ hk _ Z,by rw[I];exact eb,by rw[I];exact hk⟩⟩
   |succ j=>simp at Y
def lu (C:List (List (Int×V))) (s m:Int) (x:Nat):List (Int×V):=C.getD (s+(x:Int)*m).toNat []
def Fi (s m:Int) (R:Rw):List (Int×V):=(List.range (mY s R.s m)).flatMap (lu R.C s m)
def Hx (st:SSt) (d:SlD) (s:Int):List (Int×V):=(dX st d).flatMap (Fi s st.low)
theorem pf (z:SzOk st) (h:R∈dX st d):R.s=st.low\/R.s=2*st.low:=by
 unfold dX at h;unfold SSt.low;cases e:st.nxt with
 |none=>rw[e]at h;rw[Qa.mp h];exact .inl rfl
 |some m=>
  rw[e]at h;obtain⟨_,_,_,nx⟩:=z.nx m e;have p:=bF z.pw;show R.s=(if m<st.size then m else st.size)\/R.s=2*(if m<st.size then m else st.size);rcases Qg.mp h with h|h
  .rw[h];show st.size=_\/st.size=_;split<;>lia
  .rw[Qa.mp h];show m=_\/m=_;split<;>lia
theorem AN {x r:Int} (h:r=m\/r=2*m):x%r%m=x%m:=by
 rcases h with rfl|rfl
 .exact Int.emod_emod_of_dvd _ (Int.dvd_refl _)
 .exact Int.emod_emod_of_dvd _ ⟨2,by lia⟩
theorem FE (hb:SlB t H a st d) (z:SzOk st) (nd:(st.kv.map (·.1)).Nodup) (s0:0<=s) (s1:s<st.low) (k:Int) (v:V):
  (k,v)∈Hx st d s↔(k,v)∈st.kv/\k%65536%st.low=s:=by
 have lp:=bF (mT z);constructor
 .intro h;obtain⟨R,I,h⟩:=ZJ.mp h;obtain⟨x,hx,h⟩:=ZJ.mp h;have hx:=Kx.mp hx;have U:=pf z I;obtain⟨ri,Y,Z⟩:=QJ I;have Z:(dX st d)[ri]?=some R:=by rw[Q3 Y,Z]
  unfold lu at h;have xs:=(qH (by lia)).mp hx;have xm:0<=(x:Int)*st.low:=Xp (by lia) (by lia);cases ek:R.C[(s+(x:Int)*st.low).toNat]? with
  |none=>rw[Ql,ek]at h;cases h
  |some kv=>
   rw[Ql,ek]at h;have h:(k,v)∈kv:=h;obtain⟨h1,h2,c,O⟩:=qL hb Z ek h;refine⟨eX (by rw[<-hb.val k c kv O];exact bT h2 h),?_⟩;rw[<-AN U,h1,Xu (by lia),Int.add_mul_emod_self_right];exact Int.emod_eq_of_lt s0 s1
 .rintro ⟨h,hs⟩;obtain⟨c,kv,ic⟩:=hb.cell z k;have hv:=hb.val k c kv ic;rw[bT nd h]at hv;have hm:=eX hv;have fin:∀R:Rw,R∈dX st d->R.C[(k%65536%R.s).toNat]?=some kv->(k,v)∈Hx st d s:=λR I hk=>by
   have U:=pf z I;have j0:0<=k%65536%R.s:=QC _ (by lia);have j1:k%65536%R.s<R.s:=QE _ (by lia);have jm:=AN (x:=k%65536) U;rw[hs]at jm;have dv:=Xl (k%65536%R.s) st.low;have q0:0<=k%65536%R.s/st.low:=K7 j0 (by lia);have eq:s+((k%65536%R.s/st.low).toNat:Int)*st.low=k%65536%R.s:=by
    rw[Xu q0,XG];lia
   refine ZJ.mpr ⟨R,I,ZJ.mpr ⟨(k%65536%R.s/st.low).toNat,Kx.mpr ((qH (by lia)).mpr (by rw[eq];exact j1)),?_⟩⟩;unfold lu;rw[eq,Ql,hk];exact hm
  rcases ic with⟨_,_,O⟩|⟨m,en,_,_,O⟩
  .refine fin ⟨d.r0,d.A0,d.C0,st.size⟩ ?_ O;unfold dX;cases st.nxt<;>simp
  .refine fin ⟨d.r1,d.A1,d.C1,m⟩ ?_ O;unfold dX;rw[en];simp
theorem kY {C:List (List (Int×V))} {x:Nat} {p:Int×V} (h:p∈lu C s m x):∃kv,C[(s+(x:Int)*m).toNat]?=some kv/\p∈kv:=by
 unfold lu at h;cases z:C[(s+(x:Int)*m).toNat]? with
 |none=>rw[Ql,z]at h;cases h
 |some kv=>
  rw[Ql,z]at h;exact⟨kv,rfl,h⟩
theorem B0 (hb:SlB t H a st d) (z:SzOk st) (s0:0<=s):((Hx st d s).map (·.1)).Nodup:=by
 have lp:=bF (mT z);refine Qp.mpr ?_;have row:∀R∈dX st d,(Fi s st.low R).Pairwise (λp q=>p.1≠q.1):=λR O=>by
  obtain⟨ri,U,I⟩:=QJ O;have I:(dX st d)[ri]?=some R:=by rw[Q3 U,I]
  refine List.pairwise_flatMap.mpr ⟨λx _=>?_,?_⟩
  .unfold lu;cases Y:R.C[(s+(x:Int)*st.low).toNat]? with
   |none=>rw[Ql,Y];exact List.Pairwise.nil
   |some kv=>
    rw[Ql,Y];show List.Pairwise _ kv;cases ke:kv with
    |nil=>exact List.Pairwise.nil
    |cons p r=>
     have:=(qL hb I Y (k:=p.1) (v:=p.2) (by rw[ke];exact Q6)).2.1;rw[ke]at this;exact Qp.mp this
  .refine(List.pairwise_lt_range (n:=mY s R.s st.low)).imp λ{x y} a3 p hp q hq e=>?_;obtain⟨kv,h1,h2⟩:=kY hp;obtain⟨kv',Z,h4⟩:=kY hq;have a1:=(qL hb I h1 h2).1;have a2:=(qL hb I Z h4).1;have m1:(x:Int)*st.low<(y:Int)*st.low:=Int.mul_lt_mul_of_pos_right (by lia) (by lia);have m0:0<=(x:Int)*st.low:=Xp (by lia) (by lia);rw[e,a2]at a1;lia
 refine List.pairwise_flatMap.mpr ⟨row,?_⟩;have a0:=hb.row1;unfold dX;cases en:st.nxt with
 |none=>exact Z3 _ _
 |some m=>
  refine Zl.mpr ⟨λR O p hp q hq e=>?_,Z3 _ _⟩;rw[Qa.mp O]at hq;obtain⟨x,_,hp⟩:=ZJ.mp hp;obtain⟨y,_,hq⟩:=ZJ.mp hq;obtain⟨kv,h1,h2⟩:=kY hp;obtain⟨kv',Z,h4⟩:=kY hq;have n1:=hb.new _ _ Z _ h4;have n2:=hb.row0.home _ _ h1 _ h2;have n3:¬((s+(x:Int)*st.low).toNat:Int)<st.moved:=λc=>by
   have:=hb.old _ _ h1 c;rw[this]at h2;cases h2
  rw[<-e,n2]at n1;exact n3 n1
structure Ly (X:List Addr) (H H':Hp) (l:Addr) (ts:List Tp) (L:List (Int×V)):Prop where
 sm:∀c o,c∉X->H c=some o->H' c=some o
 li:H' l=some (.lst (ts.map λe=>V.ref e.p))
 tu:∀e∈ts,H' e.p=some (.tup [.int (plc e.k),.int e.k,e.v])/\H e.p=none
 eq:ts.map Tp.kv=L
section
variable {X:List Addr} {H'':Hp} {l:Addr}
theorem Ly.same (h:Ly X H H' l ts L) (s:Same H' H''):Ly X H H'' l ts L:=⟨λc o n e=>s _ _ (h.sm c o n e),s _ _ h.li,λe he=>⟨s _ _ (h.tu e he).1,(h.tu e he).2⟩,h.eq⟩
theorem Ly.add (h:Ly X H H' l ts L) (s:Same H' H'') (I:H' p=none) (U:H l=none) (Y:∀c∈X,∃o,H c=some o/\∃o',H' c=some o') (Z:H'' p=some (.tup [.int (plc k),.int k,v])):
  Ly X H (upd H'' l (.lst (ts.map (λe=>V.ref e.p)++ [.ref p]))) l (ts++ [⟨p,k,v⟩]) (L++ [(k,v)]):=by
 have pl:p≠l:=λz=>by rw[z,h.li]at I;cases I
 have old:H p=none:=by
  cases q:H p with
  |none=>rfl
  |some o=>
   by_cases c:p∈X
   .obtain⟨_,_,o',O⟩:=Y p c;rw[I]at O;cases O
   .rw[h.sm _ _ c q]at I;cases I
 have h2:=h.same s;refine⟨λc o n e=>?_,by rw[ai,Q9];rfl,λe he=>?_,by rw[Q9,h.eq];rfl⟩
 .rw[ag λz=>by rw[z,U]at e;cases e];exact h2.sm c o n e
 .rcases Q5.mp he with he|he
  .have q:=h2.tu e he;exact⟨by rw[ag λz=>by rw[z,h2.li]at q;cases q.1];exact q.1,q.2⟩
  .rw[Qa.mp he];exact⟨by rw[ag pl];exact Z,old⟩
theorem Ly.freeze {o':HO} (h:Ly [] H H' l ts L) (hb:H b=some o) (bl:b≠l):Ly [b] H (upd H' b o') l ts L:=
 ⟨λc o n e=>by rw[ag λz=>n (by rw[z];exact Q6)];exact h.sm c o (by simp) e,by rw[ag bl.symm];exact h.li,
  λe he=>⟨by rw[ag λz=>by have:=(h.tu e he).2;rw[z,hb]at this;cases this];exact(h.tu e he).1,(h.tu e he).2⟩,h.eq⟩
theorem Ly.thaw (h:Ly [b] H H' l ts L) (hb:H b=some o) (bl:b≠l):Ly [] H (upd H' b o) l ts L:=by
 refine⟨λc o' _ e=>?_,by rw[ag bl.symm];exact h.li,λe he=>⟨by rw[ag λz=>by have:=(h.tu e he).2;rw[z,hb]at this;cases this];exact(h.tu e he).1,(h.tu e he).2⟩,h.eq⟩;by_cases z:c=b
 .rw[z,ai,<-hb,<-z];exact e
 .rw[ag z];exact h.sm c o' (by simpa using z) e
end
def mw (K:PySem.W.Frag) (t:Adr):Sp:=λvs H Q _=>∃(a:Addr) (p:Int) (F:Addr->Prop) (st:SSt),vs=[.ref a,.int p]/\SlA K t H a F st/\0<=p/\p<65536/\st.kv.length<4096/\
 ∀(H':Hp) (F':Addr->Prop) (l:Addr) (ts:List Tp),SlA K t H' a F' st->Fr F F' H H'->¬F' l->H' l=some (.lst (ts.map λe=>V.ref e.p))->(∀e∈ts,H' e.p=some (.tup [.int (plc e.k),.int e.k,e.v])/\¬F' e.p)->
  (∀k v,(k,v)∈ts.map Tp.kv↔(k,v)∈st.kv/\k%65536%st.low=tz p%st.low)->((ts.map Tp.kv).map (·.1)).Nodup->Q (.ref l) H'
theorem GV (hb:SlB t H a st d) (sz:SzOk st):∃xs,H d.tb=some (.lst xs)/\xs.length=(dX st d).length/\(dX st d).length<=2/\
  ∀(i:Nat) (x:V),xs[i]?=some x->∃R:Rw,x= .ref R.r/\(dX st d)[i]?=some R/\RowOk H R.r R.A R.C R.s/\R.s<=256/\∀(j:Nat) (kv:List (Int×V)),R.C[j]?=some kv->kv.length<=st.kv.length:=by
 have pw:=bF sz.pw;have z:=hb.tbl;have r1:=hb.row1;unfold dX;cases e:st.nxt with
 |none=>
  rw[e]at z;refine⟨_,z,rfl,by simp,λi x hx=>?_⟩;cases i with
  |zero=>cases hx;exact⟨_,rfl,rfl,hb.row0,pw.2,λj kv h=>hb.short0 sz h⟩
  |succ j=>simp at hx
 |some m=>
  rw[e]at z r1;refine⟨_,z,rfl,by simp,λi x hx=>?_⟩;cases i with
  |zero=>cases hx;exact⟨_,rfl,rfl,hb.row0,pw.2,λj kv h=>hb.short0 sz h⟩
  |succ j=>
   cases j with
   |zero=>cases hx;exact⟨_,rfl,rfl,r1,(bF (sz.nx m e).1).2,λj kv h=>hb.short1 sz e h⟩
   |succ j=>simp at hx
theorem D7 {RR:List Rw} {f:Rw->List (Int×V)} (e:RR[i]?=some R):(RR.take (i+1)).flatMap f=(RR.take i).flatMap f++f R:=by
 rw[Qn,e,List.flatMap_append];simp
theorem Ac {f:Nat->List (Int×V)} {x:Nat}:(List.range (x+1)).flatMap f=(List.range x).flatMap f++f x:=by
 rw[List.range_succ,List.flatMap_append];simp
theorem BD {kv:List (Int×V)} {p:Int×V} (e:kv[i]?=some p):kv.take (i+1)=kv.take i++ [p]:=by
 rw[Qn,e];rfl
theorem mN (T:Txt K mg t):aV P w K mg base CX0 3 t.gT t.dN ["self","place"] (mw K t):=by
 refine T.Bq.okl sc_Slots__lying_at λ_ _ _ s H vs Q E hr h=>?_;intro X;obtain⟨a,p,F,st,rfl,hA,p0,p1,aw,q⟩:=h;refine aj (aJ (i:=2) sc_Slots__lying_at.nd rfl (Or.inl rfl) (av (vM rfl) (by rfl) T.CM xu (ae (bq (pv 0) T.ax T.iw (gh T) hr.mo T.iQ .nil ay) ah)))
   (aj (aJ (i:=3) sc_Slots__lying_at.nd rfl (Or.inl rfl) (dH ah))
   (dn (λx=>(eh PassesOwn.never rfl (bN (aD (pv 0) rfl)) (bO (i:=4) sc_Slots__lying_at.nd rfl (Or.inl rfl))
    x)) ?_))
 refine vj (λx=>(eh PassesOwn.never rfl (BR (by rfl) T.qz (ae (aQ (ss T) hr.mo (by rfl) T.Cd T.vY.kp T.Cy .nil ay (ae (pv 1) (ae (pv 2) ah))) (ae (av aC (by rfl) T.bx a7 (ae (pv 4) ah)) (ae (pv 2) ah)))) (bO (i:=5) sc_Slots__lying_at.nd rfl (Or.inl rfl))
    x)) ?_
 refine vj (λx=>(wE (eh PassesOwn.never rfl (yf (mL QH ZN Xb sM (bf aX (pv 4) (pv 5) (λ_ _=>rfl)))) (Dm rfl (nK (bO (i:=6) sc_Slots__lying_at.nd rfl (Or.inl rfl)) (nK (bO (i:=7) sc_Slots__lying_at.nd rfl (Or.inl rfl)) Az)))
    x))) ?_
 refine aH (aS (cJ Qu Z9 Za eC (pv 3) (ae (eB (ae (aQ (yi T) hr.mo (by rfl) T.Hu T.Aj.kp T.Ic .nil ay (ae (pv 6) ah)) (ae (pv 6) (ae (pv 7) ah)))) ah))) ?_
 intros
 refine aH (aG (pv 3)) ?_
 intros
 have z:SzOk st:=let⟨_,_,_,_,_,z⟩:=hA;z
 obtain⟨s4,s5⟩:=bF (mT z);obtain⟨dx,fs,hi,hm⟩:=hA.ins;refine⟨_,rfl,a,dx,fs,rfl,hi,hm _ (by decide+kernel),a,F,st,rfl,hA,λH1 F1 lr sA fr az oF a4=>⟨lr,st.rows,rfl,SqL.of a4,?_,λM hM a5=>?_⟩⟩
 .unfold SSt.rows;cases st.nxt<;>simp
 have eM:=DN hM a5;subst eM;have sB:=sA;obtain⟨d,hb,hF,hn,nd,_⟩:=sB;obtain⟨aa,ho⟩:=hb.obj;obtain⟨xs,ht,lx,l2,look⟩:=GV hb z;have g0:0<=tz p%st.low:=QC _ (by lia);have g1:tz p%st.low<st.low:=QE _ (by lia);have U:st.low>0:=by lia
 refine⟨Qi _,λl nl=>?_⟩;have y0:Ly [] H1 (upd H1 l (.lst [])) l [] []:=⟨λc o _ e=>am nl _ _ e,ai,(λe he=>by cases he),rfl⟩;generalize upd H1 l (.lst [])=H2 at y0⊢;generalize hs:tz p%st.low=sl at g0 g1 q;refine⟨_,rfl,a,_,aa,_,_,rfl,y0.sm _ _ (by simp) ho,T.ax,T.aT,gJ,d.tb,rfl,⟨_,SqL.of (y0.sm _ _ (by simp) ht)⟩,i6 (K:=K) (a:=d.tb) (xs:=xs) (λi σ H'=>∃(v4 v5 Y Z:Option V) (ts:List Tp),σ=[some (.ref a),some (.int p),some (.int st.low),some (.ref l),v4,v5,Y,Z]/\Ly [] H1 H' l ts (((dX st d).take i).flatMap (Fi sl st.low))/\ts.length<=8192*i)
  ⟨_,_,_,_,[],rfl,y0,by simp⟩ (λi σ H' _ w=>by obtain⟨_,_,_,_,_,_,c,_⟩:=w;exact SqL.of (c.sm _ _ (by simp) ht)) (λi x σ H' hx w=>?_) (λσ H' w=>?_)⟩
 .obtain⟨v4,v5,Y,Z,ts,I,c,lt⟩:=w;subst I;obtain⟨R,rfl,hR,ro,au,ac⟩:=look i x hx;have hr:=c.sm _ _ (by simp) ro.lst;have iL:=(Q2.mp hx).1;have lA:((R.A.map V.ref).length:Int)=R.s:=by rw[Q0];exact ro.la
  have rl:=pf z (Q1 hR);have a1:∀y:Nat,y<mY sl R.s st.low->y<2:=λy hy=>by
   have:=(qH U).mp hy;refine Nat.lt_of_not_le λy2=>?_;have:(2:Int)*st.low<=(y:Int)*st.low:=XY (by lia) (by lia);lia
  have b1:mY sl R.s st.low<=2:=by
   by_cases c0:mY sl R.s st.low=0
   .lia
   .have:=a1 (mY sl R.s st.low-1) (by lia);lia
  refine⟨_,rfl,_,rfl,p,_,rfl,p0,U,_,rfl,R.r,_,rfl,.inl (SqL.of hr),_,rfl,_,_,_,rfl,?_,?_⟩
  .rw[hs,lA];exact⟨by lia,by lia,by lia,by lia,by lia,by lia⟩
  rw[hs,lA];generalize af:((dX st d).take i).flatMap (Fi sl st.low)=L0 at c;refine yJ (n:=mY sl R.s st.low) (λx σ H'=>∃(v5 Y Z:Option V) (ts:List Tp),σ=[some (.ref a),some (.int p),some (.int st.low),some (.ref l),some (.ref R.r),v5,Y,Z]/\Ly [] H1 H' l ts (L0++(List.range x).flatMap (lu R.C sl st.low))/\ts.length<=8192*i+4096*x)
   ⟨_,_,_,ts,rfl,by simpa using c,by lia⟩ (λx σ H' hx w=>?_) (λσ H' w=>?_)
  .obtain⟨v5,Y,Z,ts,I,c,lt⟩:=w;subst I;have b2:=(qH U).mp hx;have x2:=a1 x hx;have xm:0<=(x:Int)*st.low:=Xp (by lia) (by lia);have la:=ro.la;have lc:=ro.lc;have eb:R.A[(sl+(x:Int)*st.low).toNat]?=some (R.A[(sl+(x:Int)*st.low).toNat]'(by lia)):=Q3 (by lia);have ek:R.C[(sl+(x:Int)*st.low).toNat]?=some (R.C[(sl+(x:Int)*st.low).toNat]'(by lia)):=Q3 (by lia);generalize R.A[(sl+(x:Int)*st.low).toNat]'(by lia)=b at eb;generalize R.C[(sl+(x:Int)*st.low).toNat]'(by lia)=kv at ek;have O:=ro.cell _ _ _ eb ek;have b3:=ac _ _ ek;have a0:=c.sm _ _ (by simp) O;have al:=c.sm _ _ (by simp) ro.lst;have bl:b≠l:=λz=>by rw[z,nl]at O;cases O
   refine⟨b,aN kv,a0,_,rfl,_,rfl,R.r,_,_,_,rfl,rfl,SqL.of al,sR (by lia) eb,.inr (.inr (.inl ⟨rfl,.inl ⟨_,a0⟩⟩)),b,aN kv,rfl,rfl,a0,λvw nv=>?_⟩;have an:upd H' vw (vwO vw b) b=some (.dK (aN kv)):=by rw[ag (ao a0 nv)];exact a0
   refine⟨vw,b,aN kv,rfl,ai,an,λob=>?_⟩;have cF:=(c.same (am (o:=vwO vw b) nv)).freeze (o':= .frz ob (.dK (aN kv))) O bl;generalize ap:L0++(List.range x).flatMap (lu R.C sl st.low)=L1 at cF;refine tE (λy σ H''=>∃(Y Z:Option V) (ts:List Tp),σ=[some (.ref a),some (.int p),some (.int st.low),some (.ref l),some (.ref R.r),some (.int (sl+(x:Int)*st.low)),Y,Z]/\Ly [b] H1 H'' l ts (L1++kv.take y)/\H'' b=some (.frz ob (.dK (aN kv)))/\ts.length<=8192*i+4096*x+y)
    ⟨_,_,ts,rfl,by simpa using cF,ai,by lia⟩ (λy σ H'' _ w=>by obtain⟨_,_,_,_,_,hf,_⟩:=w;exact hf) (λy k v p' σ H'' ei w np=>?_) (λσ H'' w=>?_)
   .obtain⟨Y,Z,ts,I,c,hf,lt⟩:=w;subst I;obtain⟨n,rfl,en⟩:=vx ei;have yl:=(Q2.mp en).1;refine⟨p',_,rfl,SqT.of ai,rfl,_,_,rfl,_,_,rfl,rfl,?_⟩;have c3:=c.same (am (o:= .tup [kV (Sum.inl n),v]) np);have a2:=am (o:= .tup [kV (Sum.inl n),v]) np _ _ hf;generalize upd H'' p' (.tup [kV (Sum.inl n),v])=H3 at c3 a2⊢;refine⟨_,rfl,.inl ⟨rfl,_,SqL.of c3.li⟩,_,rfl,n,rfl,_,rfl,_,rfl,(by show 3<=sizeLine;decide),λp2 a3=>?_⟩;have s4:Same H3 (upd H3 p2 (.tup [.int (tz (n%65536)),kV (Sum.inl n),v])):=am a3;have e4:upd H3 p2 (.tup [.int (tz (n%65536)),kV (Sum.inl n),v]) p2=some (.tup [.int (plc n),.int n,v]):=ai;generalize upd H3 p2 (.tup [.int (tz (n%65536)),kV (Sum.inl n),v])=H4 at s4 e4⊢;refine⟨l,_,_,rfl,rfl,s4 _ _ c3.li,bi (by rw[Q0];lia),?_⟩;refine⟨_,_,ts++ [⟨p2,n,v⟩],rfl,?_,?_,?_⟩
    .rw[BD en,<-Qm];exact c3.add s4 a3 nl (λc hc=>by rw[Qa.mp hc];exact⟨_,O,_,a2⟩) e4
    .rw[ag bl];exact s4 _ _ a2
    .rw[Qd,QY];lia
   .obtain⟨Y,Z,ts,I,c,hf,lt⟩:=w;subst I;rw[b7,Qz]at c;rw[b7]at lt;refine⟨ob,hf,_,_,_,ts,rfl,?_,by lia⟩;rw[Ac,<-Qm,show lu R.C sl st.low x=kv by unfold lu;rw[Ql,ek];rfl];rw[ap];exact c.thaw O bl
  .obtain⟨v5,Y,Z,ts,I,c,lt⟩:=w;subst I;exact⟨_,_,_,_,ts,rfl,by rw[D7 hR,af];exact c,by lia⟩
 .obtain⟨v4,v5,Y,Z,ts,I,c,lt⟩:=w;subst I;rw[lx,Qz]at c;have e:=c.eq;have sm:Same H1 H':=λb o e=>c.sm b o (by simp) e;refine⟨_,rfl,q H' F1 l ts (sA.same sm) (fr.trans (Fr.of_same sm)) (sA.out nl) c.li (λe he=>⟨(c.tu e he).1,sA.out (c.tu e he).2⟩) (λk v=>?_) ?_⟩
  .rw[e];exact FE hb z nd g0 g1 k v
  .rw[e];exact B0 hb z g0
theorem wx {S p:Int} {a b:Nat} (R:Row S a b) (I:0<=p) (h1:p<65536) (Z:S<=65536):k%65536%S=tz p%S↔plc k/(65536/S)=p/(65536/S):=by
 have O:=R.wpos';have z:=we R I h1;have k0:0<=k%65536:=QC _ (by decide);have k1:k%65536<65536:=QE _ (by decide);have e2:=we R (p:=plc k) (oW _) (Gk _);rw[show tz (plc k)=k%65536 from Ar k0 k1]at e2;have U:=R.mod0 (k%65536);have x1:=R.mod1 (k%65536);have Y:=R.mod0 (tz p);have y1:=R.mod1 (tz p);constructor
 .intro e;rw[e,z]at e2;have:=Int.eq_of_mul_eq_mul_right (Z7 O) e2;lia
 .intro e;rw[e,<-z]at e2;exact GT U (by lia) Y (by lia) (by lia)
theorem zK (k:Int):0<=plc k/\plc k<65536:=⟨oW _,Gk _⟩
theorem wG {f:α->β}:∀{ts:List α} {l:List β},l.Perm (ts.map f)->∃us:List α,us.Perm ts/\us.map f=l:=by
 intro ts l h;generalize e:ts.map f=m at h
 induction h generalizing ts with
 |nil=>exact⟨[],by rw[Xv.mp e],rfl⟩
 |cons x _ O=>
  cases ts with
  |nil=>cases e
  |cons y ts=>
   rw[Qo]at e;injection e with e1 e2;obtain⟨us,h1,h2⟩:=O e2;exact⟨y::us,h1.cons y,by rw[Qo,h2,e1]⟩
 |swap x y l=>
  cases ts with
  |nil=>cases e
  |cons a ts=>
   cases ts with
   |nil=>cases e
   |cons b ts=>
    rw[Qo,Qo]at e;injection e with e1 e2;injection e2 with e2 e3;exact⟨b::a::ts,List.Perm.swap a b ts,by rw[Qo,Qo,e1,e2,e3]⟩
 |trans _ _ z I=>
  obtain⟨us,h1,h2⟩:=I e;obtain⟨ws,U,Y⟩:=z h2;exact⟨ws,U.trans h1,Y⟩
def pkLt (x y:Int×V):Prop:=plc x.1<plc y.1\/(plc x.1=plc y.1/\x.1<y.1)
def qY (K:PySem.W.Frag) (t:Adr):Sp:=λvs H Q _=>∃(a:Addr) (lo hi:Int) (F:Addr->Prop) (st:SSt),vs=[.ref a,.int lo,.int hi]/\SlA K t H a F st/\st.kv.length<4096/\(∀p∈st.kv,∃i:Int,p.2= .int i)/\
 ∀(H':Hp) (F':Addr->Prop) (l:Addr) (ts:List Tp),SlA K t H' a F' st->Fr F F' H H'->¬F' l->(¬F l->H l=none)->H' l=some (.lst (ts.map λe=>V.ref e.p))->(∀e∈ts,H' e.p=some (.tup [.int e.k,e.v])/\¬F' e.p)->
  (ts.map Tp.kv).Pairwise pkLt->(∀k v,(k,v)∈ts.map Tp.kv↔(k,v)∈st.kv/\lo<=plc k/\plc k<hi)->Q (.ref l) H'
theorem AZ {x W q:Int} (h:0<W):x/W=q↔q*W<=x/\x<(q+1)*W:=by
 constructor
 .rintro rfl;exact⟨Int.ediv_mul_le x (Z7 h),K8 x h⟩
 .rintro ⟨h1,h2⟩;have a:=(Int.le_ediv_iff_mul_le h).mpr h1;have b:=(Int.ediv_lt_iff_lt_mul h).mpr h2;lia
def ky3 (H:Hp) (b:Addr):List Int:=match H b with
 |some (.tup [.int i,.int j,.int m])=> [i,j,m]
 |_=> []
theorem z7 {i j:Int} (h:H b=some (.tup [.int i,.int j,.int m])):ky3 H b=[i,j,m]:=by
 unfold ky3;rw[h]
theorem none_of (s:Same H H2) (n:H2 p=none):H p=none:=by
 cases e:H p with
 |none=>rfl
 |some o=>rw[s _ _ e]at n;cases n
theorem D5 (f:Fr F F' H H') (n:¬F b) (e:H' b=none):H b=none:=by
 cases q:H b with
 |none=>rfl
 |some o=>rw[(f _ _ n q).1]at e;cases e
theorem Dg (z:(ts.map λe=>V.ref e.p)[n]?=some v):∃e:Tp,v= .ref e.p/\ts[n]?=some e:=by
 rw[Qc]at z;cases I:ts[n]? with
 |none=>rw[I]at z;cases z
 |some e=>rw[I]at z;cases z;exact⟨e,rfl,rfl⟩
structure SpI (K:PySem.W.Frag) (t:Adr) (H H':Hp) (a l:Addr) (F F':Addr->Prop) (st:SSt) (ts:List Tp) (b0 c:Int):Prop where
 sl:SlA K t H' a F' st
 fr:Fr F F' H H'
 ol:¬F' l
 li:H' l=some (.lst (ts.map λe=>V.ref e.p))
 tu:∀e∈ts,H' e.p=some (.tup [.int (plc e.k),.int e.k,e.v])/\¬F' e.p
 me:∀k v,(k,v)∈ts.map Tp.kv↔(k,v)∈st.kv/\b0<=plc k/\plc k<c
 nd:((ts.map Tp.kv).map (·.1)).Nodup
section
variable {H1:Hp} {l l1:Addr} {F1:Addr->Prop} {ts1:List Tp} {b0 c:Int}
theorem SpI.len (h:SpI K t H H' a l F F' st ts b0 c):ts.length<=st.kv.length:=by
 have:=iW h.nd (S:=st.kv.map (·.1)) λx hx=>by
  obtain⟨p,hp,rfl⟩:=Q7.mp hx;exact QS ((h.me p.1 p.2).mp hp).1
 simpa using this
theorem SpI.move (h:SpI K t H H' a l F F' st ts b0 c) (s1:SlA K t H1 a F1 st) (z:Fr F' F1 H' H1):SpI K t H H1 a l F F1 st ts b0 c:=
 ⟨s1,h.fr.trans z,(z _ _ h.ol h.li).2,(z _ _ h.ol h.li).1,λe he=>z _ _ (h.tu e he).2 (h.tu e he).1,h.me,h.nd⟩
theorem SpI.step {r W:Int} (h:SpI K t H H' a l F F' st ts b0 (r/W*W)) (nl:H l=none) (W0:0<W) (hb:b0<=r/W*W) (s1:SlA K t H1 a F1 st) (f1:Fr F' F1 H' H1) (u1:∀e∈ts1,H1 e.p=some (.tup [.int (plc e.k),.int e.k,e.v])/\¬F1 e.p)
  (m1:∀k v,(k,v)∈ts1.map Tp.kv↔(k,v)∈st.kv/\plc k/W=r/W) (n1:((ts1.map Tp.kv).map (·.1)).Nodup):
  SpI K t H (upd H1 l (.lst (ts.map (λe=>V.ref e.p)++ts1.map (λe=>V.ref e.p)))) a l F F1 st (ts++ts1) b0 ((r/W+1)*W):=by
 obtain⟨l1,I⟩:=f1 _ _ h.ol h.li;have e1:(r/W+1)*W=r/W*W+W:=by rw[Int.add_mul,Int.one_mul]
 have O:∀{p:Addr} {xs:List V},H1 p=some (.tup xs)->p≠l:=λ{p xs} e z=>by rw[z,l1]at e;cases e
 refine⟨s1.upd I,λb o n e=>?_,I,by rw[ai,Q9],λe he=>?_,λk v=>?_,?_⟩
 .obtain⟨U,Z⟩:=(h.fr.trans f1) b o n e;exact⟨by rw[ag λz=>by rw[z,nl]at e;cases e];exact U,Z⟩
 .rcases Q5.mp he with he|he
  .obtain⟨U,Z⟩:=h.tu e he;obtain⟨Y,g4⟩:=f1 _ _ Z U;exact⟨by rw[ag (O Y)];exact Y,g4⟩
  .obtain⟨Y,g4⟩:=u1 e he;exact⟨by rw[ag (O Y)];exact Y,g4⟩
 .rw[Q9,Q5,h.me,m1,AZ W0,e1];constructor
  .rintro (⟨x,y,z⟩|⟨x,y,z⟩)
   .exact⟨x,y,by lia⟩
   .exact⟨x,by lia,z⟩
  .rintro ⟨x,y,z⟩;by_cases d:plc k<r/W*W
   .exact .inl ⟨x,y,d⟩
   .exact .inr ⟨x,by lia,z⟩
 .rw[Q9,Q9];refine List.nodup_append.mpr ⟨h.nd,n1,λx hx y hy e=>?_⟩;obtain⟨p,hp,rfl⟩:=Q7.mp hx;obtain⟨q,hq,rfl⟩:=Q7.mp hy;have U:=(h.me p.1 p.2).mp hp;have Z:=(AZ W0).mp ((m1 q.1 q.2).mp hq).2;rw[e]at U;lia
end
theorem IG {fs us:List Tp} (z:us.Perm fs) (I:∀e∈fs,∃i:Int,H e.p=some (.tup [.int (plc e.k),.int e.k,.int i])) (U:(fs.map (·.k)).Nodup) (pw:(us.map (·.p)).Pairwise (λa b=>HT.lexLt (ky3 H b) (ky3 H a)=false)):(us.map Tp.kv).Pairwise pkLt:=by
 have Y:us.Pairwise (λe f=>e.k≠f.k):=(z.pairwise_iff (λh=>h.symm)).mpr (Qp.mp U);refine Qp.mpr (((Qp.mp pw).and Y).imp_of_mem λ{e f} he hf h=>?_);obtain⟨i,te⟩:=I e (z.mem_iff.mp he);obtain⟨j,Z⟩:=I f (z.mem_iff.mp hf);obtain⟨h1,h2⟩:=h;rw[z7 te,z7 Z,HT.lexLt_cons,HT.lexLt_cons]at h1;show plc e.k<plc f.k\/(plc e.k=plc f.k/\e.k<f.k);by_cases O:plc f.k=plc e.k
 .rw[if_pos O,if_neg (Ne.symm h2)]at h1;have:=of_decide_eq_false h1;lia
 .rw[if_neg O]at h1;have:=of_decide_eq_false h1;lia
theorem sE (T:Txt K mg t):aV P w K mg base CX0 4 t.lU t.iB ["self","low","high"] (qY K t):=by
 obtain⟨a5,U⟩:=T.g_PLACES;refine T.ES.okl sc_Slots__span λ_ _ _ s H vs Q E hr h=>?_;intro X;obtain⟨a,lo,hi,F,st,rfl,hA,au,hint,q⟩:=h;refine aj (aJ (i:=3) sc_Slots__span.nd rfl (Or.inl rfl) (dH ah))
   (aj (aJ (i:=4) sc_Slots__span.nd rfl (Or.inl rfl) (av (pR rfl) (by rfl) T.Gi Ag (ae (pv 1) (ae aq ah))))
   (aj (aJ (i:=5) sc_Slots__span.nd rfl (Or.inl rfl) (av (vL rfl) (by rfl) T.CM xu (ae (pv 2) (ae (cm (v:= .int 65536) (by rfl) U ⟨_,rfl⟩) ah))))
   (dn (λx=>(se PassesOwn.never (aE fg (pv 4) (pv 5) (aL _))
    x)) ?_)))
 refine aj (aS (cJ Qu PySem.F.slot_list_extend PySem.F.type_list_extend vp (pv 3) (ae (aK (pv 0) T.ax T.AI (mN T) hr.mo T.Bi .nil ay (ae (pv 4) ah)) ah)))
   (aH (aJ (i:=4) sc_Slots__span.nd rfl (Or.inl rfl) (aK (pv 0) T.ax T.Ey (sD T) hr.mo T.EH .nil ay (ae (pv 4) ah))) ?_)
 intros
 refine aj (aJ (i:=6) sc_Slots__span.nd rfl (Or.inl rfl) (av uJ (by rfl) T.fQ dt (ae (sj rfl (CScope.of (M:=["one"]) (N:=["self","low","high","found","reached","end","inside"]) (N':=["self","low","high","found","reached","end","inside"]) (dsc:=ak cV) rfl rfl (by decide+kernel)) (bN (pv 3)) (λ_ _ _ _ _=>(ye vh fg (pv 2) (bf (xa K rfl) (pv 0) aq (λ_ _=>rfl)) (pv 3))) (λ_ _ _ _ _=>(pv 0))) ah)))
   (aH (aG (fE rfl (CScope.of (M:=["one"]) (N:=["self","low","high","found","reached","end","inside"]) (N':=["self","low","high","found","reached","end","inside"]) (dsc:=ak cV) rfl rfl (by decide+kernel)) (bN (pv 6)) (λ_ _ _ _ _=>(eB (ae (bf (xa K rfl) (pv 0) aq (λ_ _=>rfl)) (ae (bf (xa K rfl) (pv 0) aq (λ_ _=>rfl)) ah)))))) ?_)
 intros
 have z:SzOk st:=let⟨_,_,_,_,_,z⟩:=hA;z
 obtain⟨s4,s5⟩:=bF (mT z);obtain⟨x,y,R⟩:=Dj (mT z);have W0:=R.wpos';have a4:∀{p k:Int},0<=p->p<65536->(k%65536%st.low=tz p%st.low↔plc k/(65536/st.low)=p/(65536/st.low)):=λh0 h1=>wx R h0 h1 (by lia);refine⟨Qi _,λl nl=>?_⟩;refine⟨_,rfl,_,_,rfl,_,rfl,_,_,rfl,?_⟩;have r1:0<=(if(0:Int)>lo then 0 else lo)/\lo<=(if(0:Int)>lo then 0 else lo)/\((if(0:Int)>lo then 0 else lo)=0\/(if(0:Int)>lo then 0 else lo)=lo):=by split<;>lia
 have r2:(if(65536:Int)<hi then 65536 else hi)<=65536/\((if(65536:Int)<hi then 65536 else hi)=65536\/(if(65536:Int)<hi then 65536 else hi)=hi):=by split<;>lia
 dsimp only;generalize (if(0:Int)>lo then 0 else lo)=r0 at r1⊢;generalize (if(65536:Int)<hi then 65536 else hi)=e0 at r2⊢;generalize eW:65536/st.low=W at W0 a4;have I0:SpI K t H (upd H l (.lst [])) a l F F st [] (r0/W*W) (r0/W*W):=⟨hA.new nl,Fr.of_same (am nl),hA.out nl,ai,(λe he=>by cases he),(λk v=>⟨λh=>by(cases h),λh=>by lia⟩),Zi⟩;generalize upd H l (.lst [])=H1 at I0⊢;refine⟨λm σ H'=>∃(r:Int) (F':Addr->Prop) (ts:List Tp),m=(e0-r).toNat/\σ=[some (.ref a),some (.int lo),some (.int hi),some (.ref l),some (.int r),some (.int e0),none]/\SpI K t H H' a l F F' st ts (r0/W*W) (r/W*W)/\r0<=r/\(r=r0\/r/W*W=r),⟨_,r0,F,[],rfl,rfl,I0,X8 _,.inl rfl⟩,λm σ H' w=>?_⟩;obtain⟨r,F',ts,rfl,aw,I,rr,rm⟩:=w;subst aw;refine⟨_,rfl,_,rfl,_,_,rfl,rfl,_,rfl,oh (λc=>?_) (λc=>?_)⟩
 .have c:=of_decide_eq_true c;obtain⟨dx,fs,al,hm⟩:=I.sl.ins;refine⟨λan H2=>∃(r':Int) (F2:Addr->Prop) (aa:List Tp),r<r'/\an=[some (.ref a),some (.int lo),some (.int hi),some (.ref l),some (.int r'),some (.int e0),none]/\SpI K t H H2 a l F F2 st aa (r0/W*W) (r'/W*W)/\r'/W*W=r',λan H2 w=>?_,?_⟩
  .obtain⟨r',F2,aa,lt,e,I2,g⟩:=w;exact⟨_,by lia,r',F2,aa,rfl,e,I2,by lia,.inr g⟩
  refine⟨_,rfl,.inl ⟨rfl,_,SqL.of I.li⟩,_,rfl,a,dx,fs,rfl,al,hm _ (by decide+kernel),_,rfl,a,r,F',st,rfl,I.sl,by lia,by lia,au,λH2 F2 l1 ts1 s2 f2 o2 e2 u2 m2 n2=>?_⟩;have az:r0/W*W<=r/W*W:=XY (Int.ediv_le_ediv W0 rr) (by lia);have I2:=I.step nl W0 az s2 f2 u2 (λk v=>by rw[m2,a4 (by lia) (by lia)]) n2;have ln:=I2.len;rw[Qd]at ln;refine⟨l,l1,_,_,rfl,rfl,(f2 _ _ I.ol I.li).1,e2,by rw[Q0,Q0];exact Zd (bi (by lia)),?_⟩;generalize upd H2 l (.lst (ts.map (λe=>V.ref e.p)++ts1.map (λe=>V.ref e.p)))=H3 at I2⊢;obtain⟨b2,b3,ac,b4⟩:=I2.sl.ins;refine⟨_,rfl,a,b2,b3,rfl,ac,b4 _ (by decide+kernel),_,rfl,a,r,F2,st,rfl,I2.sl,by lia,by lia,λH4 F4 s4 f4=>?_⟩;rw[eW];have ed:(r/W+1)*W/W*W=(r/W+1)*W:=by rw[Int.mul_ediv_cancel _ (Z7 W0)]
  exact⟨(r/W+1)*W,F4,ts++ts1,K8 r W0,rfl,by rw[ed];exact I2.move s4 f4,ed⟩
 .have c:¬r<e0:=λy=>c (decide_eq_true y);have hl:=I.li;have ln:=I.len;refine⟨_,rfl,l,rfl,⟨_,SqL.of hl⟩,λD hD=>?_⟩;refine jM (K:=K) (a:=l) (xs:=ts.map λe=>V.ref e.p) (λn ys H3=>H3=upd H' D (.lst ys)/\ys=((ts.take n).filter λe=>decide (lo<=plc e.k)&&decide (plc e.k<hi)).map (λe=>V.ref e.p)) ⟨rfl,rfl⟩
   (λn ys H3 _ w=>SqL.of (by rw[w.1,ag (ao hl hD)];exact hl)) (λn v ys H3 hv w Y=>?_) (λys H3 w Y=>?_)
  .obtain⟨e1,e2⟩:=w;have hn:=(Q2.mp hv).1;obtain⟨e,rfl,Z⟩:=Dg hv;have te:=(I.tu e (Q1 Z)).1;have b5:H3 e.p=some (.tup [.int (plc e.k),.int e.k,e.v]):=by rw[e1,ag (ao te hD)];exact te
   have yl:ys.length<=ts.length:=by
    rw[e2,Q0];have h1:=QF (λe:Tp=>decide (lo<=plc e.k)&&decide (plc e.k<hi)) (ts.take n);have h2:(ts.take n).length<=ts.length:=by rw[Qe];lia
    lia
   refine⟨_,rfl,_,rfl,e.p,_,_,_,rfl,rfl,SqT.of b5,rfl,_,_,rfl,rfl,_,rfl,?_⟩;by_cases c1:lo<=plc e.k
   .refine i5 c1 ⟨_,rfl,_,_,rfl,rfl,_,rfl,?_⟩;by_cases c2:plc e.k<hi
    .refine i5 c2 ⟨_,rfl,CNext.mk hn Y (bi (by lia)) ⟨by rw[e1,bM],?_⟩⟩;rw[e2,Qn,Z,Z1,Q9];simp[c1,c2]
    .refine bL c2 (CSkip.mk hn Y ⟨e1,?_⟩);rw[e2,Qn,Z,Z1];simp[c1,c2]
   .refine bL c1 ⟨_,rfl,cq (CSkip.mk hn Y ⟨e1,?_⟩)⟩;rw[e2,Qn,Z,Z1];simp[c1]
  .obtain⟨e1,e2⟩:=w;rw[Q0,Qz]at e2;have s3:Same H' H3:=by rw[e1];exact am hD
   have a0:(ts.filter λe=>decide (lo<=plc e.k)&&decide (plc e.k<hi)).Sublist ts:=List.filter_sublist;have fm:∀e,e∈(ts.filter λe=>decide (lo<=plc e.k)&&decide (plc e.k<hi))↔e∈ts/\lo<=plc e.k/\plc e.k<hi:=λe=>by
    rw[X1,Qt,decide_eq_true_eq,decide_eq_true_eq]
   generalize (ts.filter λe=>decide (lo<=plc e.k)&&decide (plc e.k<hi))=fs at e2 a0 fm;have ap:∀e∈fs,(e.k,e.v)∈st.kv:=λe he=>((I.me e.k e.v).mp (QS (f:=Tp.kv) ((fm e).mp he).1)).1;have t3:∀e∈fs,∃i:Int,e.v= .int i/\H3 e.p=some (.tup [.int (plc e.k),.int e.k,.int i]):=λe he=>by
    obtain⟨i,ei⟩:=hint _ (ap e he);have te:=s3 _ _ (I.tu e ((fm e).mp he).1).1;have ei:e.v= .int i:=ei;rw[ei]at te;exact⟨i,ei,te⟩
   refine⟨D,fs.map (·.p),ky3 H3,rfl,SqL.of (by rw[Y,e2,Qq];rfl),λb hb=>?_,λl2 bs b6 pm pw=>?_⟩
   .obtain⟨e,he,rfl⟩:=Q7.mp hb;obtain⟨i,_,te⟩:=t3 e he;exact⟨_,_,_,te,z7 te⟩
   obtain⟨us,up,ue⟩:=wG pm;subst ue;have um:∀e,e∈us↔e∈fs:=λe=>up.mem_iff;have nk:(fs.map (·.k)).Nodup:=by
    have h0:=I.nd;rw[Qq]at h0;exact h0.sublist (a0.map _)
   have a2:=IG up (λe he=>(t3 e he).imp λ_ h=>h.2) nk pw;have af:∀k v,(k,v)∈us.map Tp.kv↔(k,v)∈st.kv/\lo<=plc k/\plc k<hi:=λk v=>by
    constructor
    .intro h;obtain⟨e,he,Z⟩:=Q7.mp h;cases Z;have he:=(um e).mp he;exact⟨ap e he,((fm e).mp he).2⟩
    .rintro ⟨h1,h2,h3⟩;have pb:=zK k;have b1:=Int.ediv_mul_le r0 (Z7 W0);have h4:(k,v)∈ts.map Tp.kv:=(I.me k v).mpr ⟨h1,by lia,by lia⟩;obtain⟨e,he,Z⟩:=Q7.mp h4;cases Z;exact Q7.mpr ⟨e,(um e).mpr ((fm e).mpr ⟨he,h2,h3⟩),rfl⟩
   have ul:us.length<=ts.length:=by rw[up.length_eq];exact a0.length_le
   have e8:upd H3 l2 (.lst ((us.map (·.p)).map V.ref)) l2=some (.lst (us.map λe=>V.ref e.p)):=by rw[ai,Qq];rfl
   have s8:Same H' (upd H3 l2 (.lst ((us.map (·.p)).map V.ref))):=s3.trans (am b6);have t8:∀e∈us,upd H3 l2 (.lst ((us.map (·.p)).map V.ref)) e.p=some (.tup [.int (plc e.k),.int e.k,e.v]):=λe he=>s8 _ _ (I.tu e ((fm e).mp ((um e).mp he)).1).1;generalize upd H3 l2 (.lst ((us.map (·.p)).map V.ref))=H8 at e8 s8 t8⊢;refine⟨_,rfl,l2,rfl,⟨_,SqL.of e8⟩,λD2 a3=>?_⟩;refine eG (K:=K) (a:=l2) (xs:=us.map λe=>V.ref e.p) (λn ys H9=>Same H8 H9/\∃ws:List Tp,ys=ws.map (λe=>V.ref e.p)/\ws.map Tp.kv=(us.take n).map Tp.kv/\∀e∈ws,e.p≠D2/\H8 e.p=none/\H9 e.p=some (.tup [.int e.k,e.v]))
    ⟨am a3,[],rfl,rfl,λe he=>by cases he⟩ (λn ys H9 _ w=>SqL.of (w.1 _ _ e8)) (λn v ys H9 hv w O=>?_) (λys H9 w O=>?_)
   .obtain⟨s9,ws,ey,ek,ew⟩:=w;have hn:=(Q2.mp hv).1;obtain⟨e,rfl,Z⟩:=Dg hv;have te:=s9 _ _ (t8 e (Q1 Z));refine⟨_,rfl,e.p,_,_,_,rfl,rfl,SqT.of te,rfl,_,rfl,e.p,_,_,_,rfl,rfl,SqT.of te,rfl,(by show 2<=sizeLine;decide),λp2 a1=>?_⟩;have pd:p2≠D2:=λz=>by rw[z,O]at a1;cases a1
    have wl:ws.length<=us.length:=by
     have:=congrArg List.length ek;rw[Q0,Q0,Qe]at this;lia
    refine CNext.mk hn (by rw[ag pd.symm];exact O) (bi (by rw[ey,Q0];lia)) ⟨cU (s9.trans (am a1)) a3,ws++ [⟨p2,e.k,e.v⟩],by rw[ey,Q9];rfl,?_,λf hf=>?_⟩
    .rw[Q9,ek,Qn,Z,Q9];rfl
    .rcases Q5.mp hf with hf|hf
     .obtain⟨g1,g2,g3⟩:=ew f hf;exact⟨g1,g2,by rw[ag g1];exact am a1 _ _ g3⟩
     .rw[Qa.mp hf];exact⟨pd,none_of s9 a1,by rw[ag pd];exact ai⟩
   .obtain⟨s9,ws,ey,ek,ew⟩:=w;rw[Q0,Qz]at ek;have sm:=s8.trans s9;refine q H9 F' D2 ws (I.sl.same sm) (I.fr.trans (Fr.of_same sm)) (I.sl.out (none_of s8 a3)) (λnF=>D5 (I.fr.trans (Fr.of_same s8)) nF a3) (by rw[O,ey]) (λe he=>?_) (by rw[ek];exact a2) (by rw[ek];exact af);obtain⟨_,g2,g3⟩:=ew e he;exact⟨g3,I.sl.out (none_of s8 g2)⟩
def xX:Sp:=λvs H Q _=>∃i:Int,vs=[.int i]/\Q (.bl true) H
theorem yj (T:Txt K mg t):aV P w K mg base CX0 1 t.tS t.mW ["thing"] xX:=by
 refine T.Ak.okl x9 λ_ _ _ s H vs Q E z h=>?_;intro X;obtain⟨x,rfl,k⟩:=h;refine⟨_,(aA (aG (pz (av eZ (by rfl) T.bV bC (ae (pv 0) (ae (nM (v:= .ty "int") (by rfl) T.Iu Ef rfl) ah))) (pq (Hk (av eZ (by rfl) T.bV bC (ae (pv 0) (ae (nM (v:= .ty "bool") (by rfl) T.Js FX rfl) ah))))))))
  ,?_⟩
 exact⟨_,rfl,_,_,_,_,rfl,TyOf.int _,Hy,true,rfl,dM ⟨_,rfl,_,_,_,_,rfl,TyOf.int _,Hz,_,rfl,k⟩⟩
def zy:Sp:=λvs H Q _=>∃i lo:Int,vs=[.int i,.int lo]/\lo<=i/\Q (.bl true) H
theorem zQ (T:Txt K mg t):aV P w K mg base CX0 2 t.vX t.pQ ["thing","low"] zy:=by
 refine T.v8.okl zG λ_ _ _ s H vs Q E z h=>?_;intro X;obtain⟨x,lo,rfl,hx,k⟩:=h;refine⟨_,(aA (aG (pz (aQ (yj T) z.mo (by rfl) T.Hv T.Ak.kp T.Ie .nil ay (ae (pv 0) ah)) (pq (eS Dr (pv 0) (pv 1) (aL _))))))
  ,?_⟩
 refine⟨_,rfl,x,rfl,true,rfl,dM ⟨_,rfl,_,rfl,_,_,rfl,rfl,?_⟩⟩;show Q (.bl (decide (lo<=x))) _;rw[decide_eq_true hx];exact k
def qW (K:PySem.W.Frag):Sp:=λvs H Q _=>∃(p C dx:Addr) (kd:Str) (a e:V),vs=[.ref p,.str kd,a,e]/\H p=some (.ins C dx [])/\Cls K C/\NoAttr K C "kind"/\NoAttr K C "at"/\NoAttr K C "end"/\Q .non (upd H p (.ins C dx (a9 "end" e (a9 "at" a (a9 "kind" (.str kd) [])))))
theorem sC (T:Txt K mg t):aV P w K mg base CX0 1 t.iR t.iz ["self","kind","at","end"] (qW K):=by
 refine T.uU.okl rJ λ_ _ _ s H vs Q E Y h=>?_;intro X;obtain⟨p,C,dx,z,a,e,rfl,hp,cl,I,O,U,k⟩:=h;refine aj (cc (pv 0) (pv 1) rfl)
   (aj (cc (pv 0) (pv 2) rfl)
   (aH (cc (pv 0) (pv 3) rfl) ?_))
 intros
 refine⟨_,rfl,_,rfl,p,C,dx,[],rfl,hp,cl,I,(by show 0<1000;decide),_,rfl,_,rfl,p,C,dx,_,rfl,ai,cl,O,(by show 1<1000;decide),_,rfl,_,rfl,p,C,dx,_,rfl,ai,cl,U,?_,?_⟩
 .have h1:=j6 (f:="at") (v:=a) (a9 "kind" (.str z) []);have h2:=j6 (f:="kind") (v:= .str z) [];have Z:([]:List (Str×V)).length=0:=rfl;lia
 rw[bM,bM];exact k
def TkU (t:Adr) (H:Hp) (p:Addr):Prop:=∃(dx:Addr) (fs:List (Str×V)),H p=some (.ins t.i8 dx fs)/\fs.lookup ("at":Str)=some (.int 0)/\fs.lookup ("end":Str)=some .non/\fs.lookup ("holds":Str)=none
def xZ (t:Adr):Sp:=λvs H Q _=>∃(p dx:Addr) (i:Int),vs=[.ref p,.int i,.non]/\0<=i/\H p=some (.ins t.i8 dx [])/\∀H',(∀b o,b≠p->H b=some o->H' b=some o)->(i=0->TkU t H' p)->Q .non H'
theorem pW (T:Txt K mg t):aV P w K mg base CX0 3 t.tU t.gv ["self","at","end"] (xZ t):=by
 refine T.Io.ok ya (λvs H Q E h=>?_) (λI A outer s H vs Q E z h=>?_)
 .obtain⟨p,dx,i,rfl,_⟩:=h;rfl
 .obtain⟨p,dx,i,rfl,O,hp,k⟩:=h;refine aj (aZ (gc (PW.pt (j5 (b9 (aQ (zQ T) z.mo (by rfl) T.Cf T.v8.kp T.CA .nil ay (ae (pv 1) (ae aq ah)))) (gM (PW.pt (iU (aE Dq (pv 2) j7 (aL _)) (io (b9 (aQ (zQ T) z.mo (by rfl) T.Cf T.v8.kp T.CA .nil ay (ae (pv 2) (ae (pv 1) ah)))))))))))
   (aA gN)
   aP)
     (aH (aS (Fy (by rfl) T.Ja T.Ex T.uU.kp (sC T) z.mo T.EG .nil ay (ae (pv 0) (ae bI (ae (pv 1) (ae (pv 2) ah)))))) ?_)
  intros
  refine⟨_,rfl,i,0,rfl,O,true,rfl,dM ⟨_,rfl,rfl,_,rfl,qv rfl (cq ⟨_,rfl,_,rfl,_,rfl,p,_,dx,_,.int i,.non,rfl,hp,T.tL,T.Ht,T.yq,T.vm,?_⟩)⟩⟩;refine k _ (λb o n e=>by rw[ag n];exact e) λU=>⟨dx,_,ai,?_,?_,?_⟩
  .rw[bU,if_neg (by decide+kernel),bU,if_pos rfl,U]
  .rw[bU,if_pos rfl]
  .rw[bU,if_neg (by decide+kernel),bU,if_neg (by decide+kernel),bU,if_neg (by decide+kernel)];rfl
def wm (t:Adr):Sp:=λvs H Q _=>∃(p:Addr) (k:Int),vs=[.ref p,.int k]/\TkU t H p/\0<=k/\Q (.bl true) H
theorem wM (T:Txt K mg t):aV P w K mg base CX0 1 t.p9 t.kF ["self","key"] (wm t):=by
 refine T.GP.okl wu λ_ _ _ s H vs Q E O h=>?_;intro X;obtain⟨p,k,rfl,⟨dx,fs,hp,z,I,_⟩,k0,q⟩:=h;refine⟨_,(aA (aG (pz (eS vh (aD (pv 0) rfl) (pv 1) (aL _)) (pq (IV (eS Dq (aD (pv 0) rfl) j7 (aL _)) (pq (eS fg (pv 1) (aD (pv 0) rfl) (aL _))))))))
  ,?_⟩
 exact⟨_,rfl,p,_,dx,fs,_,rfl,hp,T.tL,T.yq,z,_,rfl,_,_,rfl,rfl,_,rfl,i5 k0 ⟨_,rfl,p,_,dx,fs,_,rfl,hp,T.tL,T.vm,I,rfl,_,rfl,qv rfl q⟩⟩
structure Mk1 where
 p:Addr
 mo:Int
 v:V
structure MkA (t:Adr) (H:Hp) (m l:Addr) (es:List Mk1):Prop where
 ob:∃dx,H m=some (.ins t.cZ dx [("made",.ref l)])
 li:H l=some (.lst (es.map λe=>V.ref e.p))
 tu:∀e∈es,H e.p=some (.tup [.int e.mo,e.v])
theorem MkA.keep {m l:Addr} (h:MkA t H m l es) (z:H' m=H m) (e2:H' l=H l) (I:∀b xs,H b=some (.tup xs)->H' b=some (.tup xs)):MkA t H' m l es:=⟨h.ob.imp λ_ e=>z.trans e,e2.trans h.li,λe he=>I _ _ (h.tu e he)⟩
def rh (t:Adr):Sp:=λvs H Q _=>∃(a dx:Addr),vs=[.ref a]/\H a=some (.ins t.cZ dx [])/\∀(H':Hp) (l:Addr),MkA t H' a l []->H l=none->(∀b o,b≠a->H b=some o->H' b=some o)->Q .non H'
theorem sJ (T:Txt K mg t):aV P w K mg base CX0 1 t.l4 t.iH ["self"] (rh t):=by
 refine T.EY.okl rP λ_ _ _ s H vs Q E O h=>?_;intro X;obtain⟨a,dx,rfl,ha,q⟩:=h;refine⟨_,(aA (cc (pv 0) (dH ah) rfl))
  ,?_⟩
 refine⟨Qi _,λl z=>⟨_,rfl,a,_,dx,[],rfl,(by rw[ag (ao ha z)];exact ha),T.i7,T.iu,(by show 0<1000;decide),?_⟩⟩;have I:a≠l:=ao ha z;exact q _ l ⟨⟨dx,ai⟩,by rw[ag I.symm];exact ai,λe he=>by cases he⟩ z λb o n e=>by rw[ag n,ag (ao e z)];exact e
def rg (t:Adr):Sp:=λvs H Q _=>∃(m l:Addr) (es:List Mk1) (mo:Int) (v:V),vs=[.ref m,.int mo,v]/\MkA t H m l es/\es.length<100000/\
 ∀(H':Hp) (p:Addr),MkA t H' m l (es++ [⟨p,mo,v⟩])->H p=none->(∀b o,b≠l->H b=some o->H' b=some o)->Q .non H'
theorem sI (T:Txt K mg t):aV P w K mg base CX0 1 t.lZ t.iG ["self","moment","value"] (rg t):=by
 refine T.EX.okl rO λ_ _ _ s H vs Q E Y h=>?_;intro X;obtain⟨m,l,es,mo,v,rfl,M,le,q⟩:=h;refine⟨_,(aA (aS (cJ Qu Z9 Za eC (aD (pv 0) rfl) (ae (eB (ae (pv 1) (ae (pv 2) ah))) ah))))
  ,?_⟩
 obtain⟨dx,O⟩:=M.ob;refine⟨_,rfl,m,_,dx,_,_,rfl,O,T.i7,T.iu,rfl,.inl ⟨rfl,_,SqL.of M.li⟩,_,rfl,_,rfl,(by show 2<=sizeLine;decide),λp I=>?_⟩;have s1:=am (o:= .tup [.int mo,v]) I;have pl:p≠l:=λz=>by rw[z,M.li]at I;cases I
 have U:m≠l:=λz=>by have:=M.li;rw[<-z,O]at this;cases this
 refine⟨l,_,_,rfl,rfl,s1 _ _ M.li,bi (by rw[Q0];lia),?_⟩;refine q _ p ⟨⟨dx,by rw[ag U];exact s1 _ _ O⟩,by rw[ai,Q9];rfl,λe he=>?_⟩ I λb o n e=>by rw[ag n];exact s1 _ _ e
 rcases Q5.mp he with he|he
 .have te:=s1 _ _ (M.tu e he);rw[ag (λz=>by rw[z,s1 _ _ M.li]at te;cases te)];exact te
 .rw[Qa.mp he];rw[ag pl];exact ai
def mB (t:Adr):Sp:=λvs H Q _=>∃(m l:Addr) (es:List Mk1),vs=[.ref m]/\MkA t H m l es/\∀(H':Hp) (p:Addr),Same H H'->H p=none->H' p=some (.lst (es.map λe=>V.ref e.p))->Q (.ref p) H'
theorem mP (T:Txt K mg t):aV P w K mg base CX0 1 t.gV t.dP ["self"] (mB t):=by
 refine T.Bs.okl mF λ_ _ _ s H vs Q E O h=>?_;intro X;obtain⟨m,l,es,rfl,M,q⟩:=h;refine⟨_,(aA (aG (kW xq (by rfl) T.Jr FW (ae (aD (pv 0) rfl) ah))))
  ,?_⟩
 obtain⟨dx,I⟩:=M.ob;exact⟨_,rfl,m,_,dx,_,_,rfl,I,T.i7,T.iu,rfl,l,_,rfl,.inl (SqL.of M.li),λp z=>q _ p (am z) z ai⟩
theorem AX (s:Same H H2) (n:H2 p=none):H p=none:=by
 cases e:H p with
 |none=>rfl
 |some o=>rw[s _ _ e]at n;cases n
def cu (es:List Mk1) (mo:Int):V:=match es.reverse.find? (λy=>decide (y.mo<=mo))with
 |none=> .non
 |some y=>y.v
def my (t:Adr):Sp:=λvs H Q _=>∃(m l:Addr) (es:List Mk1) (mo:Int),vs=[.ref m,.int mo]/\MkA t H m l es/\Q (cu es mo) H
theorem mO (T:Txt K mg t):aV P w K mg base CX0 1 t.gU t.dO ["self","moment"] (my t):=by
 refine T.Br.okl sc_Makes__value_at λ_ _ _ s H vs Q E Y h=>?_;intro X;obtain⟨m,l,es,mo,rfl,M,q⟩:=h;refine dn (λx=>(eh PassesOwn.never rfl (Hh (by rfl) T.GQ (ae (aD (pv 0) rfl) ah)) (bO (i:=2) sc_Makes__value_at.nd rfl (Or.inl rfl))
    x)) ?_
 refine aH (aZ (aE vh (bf kA (pv 2) aq (λ_ _=>rfl)) (pv 1) (aL _))
    (aA (aG (bf kA (pv 2) aq (λ_ _=>rfl))))
    aP) ?_
 intros
 refine aH (aG j7) ?_
 intros
 obtain⟨dx,U⟩:=M.ob;refine⟨_,rfl,m,_,dx,_,_,rfl,U,T.i7,T.iu,rfl,l,_,rfl,SqL.of M.li,FP (K:=K) (a:=l) (xs:=es.map λy:Mk1=>V.ref y.p) (λi σ H'=>∃z:Option V,σ=[some (.ref m),some (.int mo),z]/\H'=H/\(es.reverse.take i).find? (λy=>decide (y.mo<=mo))=none) ⟨_,rfl,rfl,rfl⟩ (λi σ H' _ w=>by obtain⟨_,_,rfl,_⟩:=w;exact SqL.of M.li) (λi x σ H' hx w=>?_) (λσ H' w=>?_)⟩
 .obtain⟨z,rfl,rfl,fn⟩:=w;obtain⟨y,I,rfl⟩:∃y,es.reverse[i]?=some y/\x= .ref y.p:=by
   rw[<-List.map_reverse,Qc]at hx;cases e:es.reverse[i]? with
   |none=>rw[e]at hx;cases hx
   |some y=>rw[e]at hx;cases hx;exact⟨y,rfl,rfl⟩
  have ty:=M.tu y (List.mem_reverse.mp (Q1 I));have O:es.reverse=es.reverse.take i++y::es.reverse.drop (i+1):=by
   obtain⟨h,e⟩:=Q2.mp I;rw[<-e,<-QQ h,QG]
  refine⟨_,rfl,y.p,_,_,_,rfl,rfl,SqT.of ty,rfl,_,rfl,_,_,rfl,rfl,_,rfl,?_⟩;by_cases c:y.mo<=mo
  .refine i5 c ⟨_,rfl,y.p,_,_,_,rfl,rfl,SqT.of ty,rfl,?_⟩;have e:cu es mo=y.v:=by
    unfold cu;rw[O,List.find?_append,fn,Option.none_or];rw[List.find?_cons_of_pos (by rw[decide_eq_true c])]
   rw[e]at q;exact q
  .refine bL c ⟨_,rfl,rfl,?_⟩;rw[Qn,I,List.find?_append,fn,Option.none_or];show List.find? _ [y]=none;rw[List.find?_cons_of_neg (by rw[decide_eq_false c];exact Qj)];rfl
 .obtain⟨z,rfl,rfl,fn⟩:=w;rw[Q0,<-List.length_reverse,Qz]at fn;have e:cu es mo= .non:=by unfold cu;rw[fn]
  rw[e]at q;exact q
section
theorem SlA.notup (h:SlA K t H a F st) (e:H b=some (.tup xs)):¬F b:=λhb=>by
 obtain⟨d,h1,h2,_⟩:=h;obtain⟨dx,U⟩:=h1.obj;have I:∀o,H b=some o->(∀ys,o≠ .tup ys)->False:=λo q n=>by rw[e]at q;exact n _ (Option.some.inj q).symm
 rcases(h2 b).mp hb with rfl|rfl|rfl|hb|⟨hs,rfl⟩|hb
 .exact I _ U (λ_ z=>by cases z)
 .exact I _ h1.tbl (λ_ z=>by cases z)
 .exact I _ h1.row0.lst (λ_ z=>by cases z)
 .obtain⟨_,_,_,_,q⟩:=h1.row0.has hb;exact I _ q (λ_ z=>by cases z)
 .have r1:=h1.row1;cases O:st.nxt with
  |none=>rw[O]at hs;cases hs
  |some m=>rw[O]at r1;exact I _ r1.lst (λ_ z=>by cases z)
 .have r1:=h1.row1;cases O:st.nxt with
  |none=>rw[O]at r1;rw[r1.1]at hb;cases hb
  |some m=>
   rw[O]at r1;obtain⟨_,_,_,_,q⟩:=r1.has hb;exact I _ q (λ_ z=>by cases z)
theorem LvA.notup (h:LvA K t H a F ks) (e:H b=some (.tup xs)):¬F b:=λhb=>by
 obtain⟨L,A,ls,h1,_,_,h2⟩:=h;obtain⟨dx,O⟩:=h1.obj;have I:∀o,H b=some o->(∀ys,o≠ .tup ys)->False:=λo q n=>by rw[e]at q;exact n _ (Option.some.inj q).symm
 rcases(h2 b).mp hb with rfl|rfl|hb
 .exact I _ O (λ_ z=>by cases z)
 .exact I _ h1.lst (λ_ z=>by cases z)
 .obtain⟨_,_,_,_,q⟩:=h1.has hb;exact I _ q (λ_ z=>by cases z)
end
structure Pk where
 k:Int
 m:Addr
 l:Addr
 es:List Mk1
structure HSt where
 now:Int
 fl:Int
 ma:Int
 st:SSt
 ks:List Int
 di:List (Addr×List V)
 pa:List Pk
 ho:List (Int×V)
def bB:List Pk->Int->List Mk1
 | [],_=> []
 |e::r,k=>if e.k=k then e.es else bB r k
def paD (pa:List Pk):List (Int×V):=pa.map λe=>(e.k,V.ref e.m)
def hoF (now fl:Int) (s l w:Addr) (mk:Int) (p h:Addr):List (Str×V):=[("now",.int now),("floor",.int fl),("slots",.ref s),("leaves",.ref l),("written",.ref w),("marks",.int mk),("past",.ref p),("holders",.ref h)]
def NoH (m:Str):Prop:=m≠("now":Str)/\m≠("floor":Str)/\m≠("slots":Str)/\m≠("leaves":Str)/\m≠("written":Str)/\m≠("marks":Str)/\m≠("past":Str)/\m≠("holders":Str)
instance {m:Str}:Decidable (NoH m):=by unfold NoH;infer_instance
section
variable {now now' fl mk mk':Int} {s l w h:Addr} {m:Str}
theorem qJ:(hoF now fl s l w mk p h).lookup ("now":Str)=some (.int now):=eT
theorem HQ:(hoF now fl s l w mk p h).lookup ("floor":Str)=some (.int fl):=by unfold hoF;rw[bg (by decide+kernel),eT]
theorem pJ:(hoF now fl s l w mk p h).lookup ("slots":Str)=some (.ref s):=by unfold hoF;rw[bg (by decide+kernel),bg (by decide+kernel),eT]
theorem xc:(hoF now fl s l w mk p h).lookup ("leaves":Str)=some (.ref l):=by unfold hoF;rw[bg (by decide+kernel),bg (by decide+kernel),bg (by decide+kernel),eT]
theorem DZ:(hoF now fl s l w mk p h).lookup ("written":Str)=some (.ref w):=by unfold hoF;rw[bg (by decide+kernel),bg (by decide+kernel),bg (by decide+kernel),bg (by decide+kernel),eT]
theorem tj:(hoF now fl s l w mk p h).lookup ("past":Str)=some (.ref p):=by unfold hoF;rw[bg (by decide+kernel),bg (by decide+kernel),bg (by decide+kernel),bg (by decide+kernel),bg (by decide+kernel),bg (by decide+kernel),eT]
theorem HP:(hoF now fl s l w mk p h).lookup ("holders":Str)=some (.ref h):=by unfold hoF;rw[bg (by decide+kernel),bg (by decide+kernel),bg (by decide+kernel),bg (by decide+kernel),bg (by decide+kernel),bg (by decide+kernel),bg (by decide+kernel),eT]
theorem AV (n:NoH m):(hoF now fl s l w mk p h).lookup m=none:=by
 obtain⟨h1,h2,z,I,O,U,Y,Z⟩:=n;unfold hoF;rw[bg h1,bg h2,bg z,bg I,bg O,bg U,bg Y,bg Z];rfl
theorem Fu:a9 ("now":Str) (.int now') (hoF now fl s l w mk p h)=hoF now' fl s l w mk p h:=by unfold hoF;rw[a9,if_pos rfl]
theorem FM:(hoF now fl s l w mk p h).length<1000:=by show 8<1000;decide
end
def Ow (a w p h:Addr) (pa:List Pk):Addr->Prop:=λb=>b=a\/b=w\/b=p\/b=h\/∃e∈pa,b=e.m\/b=e.l
structure HoO (t:Adr) (H:Hp) (a s l w p h:Addr) (x:HSt):Prop where
 ob:∃dx,H a=some (.ins t.az dx (hoF x.now x.fl s l w x.ma p h))
 wr:H w=some (.lst (x.di.map λe=>V.ref e.1))
 dr:∀e∈x.di,H e.1=some (.tup e.2)
 pa:H p=some (.dK (aN (paD x.pa)))
 ho:H h=some (.dK (aN x.ho))
 mx:∀e∈x.pa,MkA t H e.m e.l e.es
 ph:p≠h
 wl:∀e∈x.pa,e.l≠w
 kd:(x.pa.map (·.k)).Nodup
 md:(x.pa.map (·.m)).Nodup
 ld:(x.pa.map (·.l)).Nodup
theorem Fe {t u:TS} {D:lq} (M:St->Hp->Prop) (h1:∀nx,(∀z H',M z H'->nx z H')->t {D with nx:=nx} σ H) (h2:∀z H',M z H'->u D z H'):C3 t u D σ H:=h1 (u D) h2
theorem i4:oe (aN kvs)=(kvs.map (·.1)).map V.int:=by
 unfold oe aN;rw[Qq,Qq];rfl
theorem dF:a9 f v []=[(f,v)]:=rfl
theorem aW {g:Str} {x:V} {r:List (Str×V)} (n:g≠f):a9 f v ((g,x)::r)=(g,x)::a9 f v r:=by rw[a9,if_neg n]
theorem xh (s:Same H H2) (n:H2 p=none):H p=none:=by
 cases e:H p with
 |none=>rfl
 |some o=>rw[s _ _ e]at n;cases n
theorem Dw {f:α->β} {l:List α} (n:(l.map f).Nodup) {x y:α} (hx:x∈l) (hy:y∈l) (e:f x=f y):x=y:=by
 induction l with
 |nil=>cases hx
 |cons z r O=>
  obtain⟨I,U⟩:=QN.mp n;rcases Qg.mp hx with rfl|hx'<;>rcases Qg.mp hy with rfl|hy'
  .rfl
  .exact absurd (Q7.mpr ⟨y,hy',e.symm⟩) I
  .exact absurd (Q7.mpr ⟨x,hx',e⟩) I
  .exact O U hx' hy'
section
variable {s l w h:Addr} {x:HSt} {pa:List Pk} {y:Mk1}
theorem HoO.dom (A:HoO t H a s l w p h x) (hb:Ow a w p h x.pa b):∃o,H b=some o/\∀ys,o≠ .tup ys:=by
 obtain⟨dx,I⟩:=A.ob;rcases hb with rfl|rfl|rfl|rfl|⟨e,he,rfl|rfl⟩
 .exact⟨_,I,λ_ z=>by cases z⟩
 .exact⟨_,A.wr,λ_ z=>by cases z⟩
 .exact⟨_,A.pa,λ_ z=>by cases z⟩
 .exact⟨_,A.ho,λ_ z=>by cases z⟩
 .obtain⟨U,O⟩:=(A.mx e he).ob;exact⟨_,O,λ_ z=>by cases z⟩
 .exact⟨_,(A.mx e he).li,λ_ z=>by cases z⟩
theorem HoO.keep (A:HoO t H a s l w p h x) (g:∀b,Ow a w p h x.pa b->H' b=H b) (z:∀b xs,H b=some (.tup xs)->H' b=some (.tup xs)):HoO t H' a s l w p h x:=
 ⟨A.ob.imp λ_ e=>(g a (.inl rfl)).trans e,(g w (.inr (.inl rfl))).trans A.wr,λe he=>z _ _ (A.dr e he),(g p (.inr (.inr (.inl rfl)))).trans A.pa,(g h (.inr (.inr (.inr (.inl rfl))))).trans A.ho,
  λe he=>(A.mx e he).keep (g _ (.inr (.inr (.inr (.inr ⟨e,he,.inl rfl⟩))))) (g _ (.inr (.inr (.inr (.inr ⟨e,he,.inr rfl⟩))))) z,A.ph,A.wl,A.kd,A.md,A.ld⟩
theorem HoO.same (A:HoO t H a s l w p h x) (m:Same H H'):HoO t H' a s l w p h x:=A.keep (λb hb=>by
 obtain⟨o,e,_⟩:=A.dom hb;rw[e];exact m _ _ e) λb xs e=>m _ _ e
theorem HoO.set (A:HoO t H a s l w p h x) {now mk:Int} {fl:Int}:HoO t (upd H a (.ins t.az dx (hoF now fl s l w mk p h))) a s l w p h {x with now:=now,fl:=fl,ma:=mk}:=by
 obtain⟨Y,O⟩:=A.ob;have n:∀{b:Addr} {o:HO},H b=some o->(∀c d fs,o= .ins c d fs->fs.length=1)->b≠a:=λe i z=>by
  rw[z,O]at e;have:=i _ _ _ (Option.some.inj e).symm;cases this
 have I:∀{b:Addr} {o:HO},H b=some o->(∀c d fs,o≠ .ins c d fs)->b≠a:=λe i=>n e λc d fs z=>absurd z (i c d fs);refine⟨⟨dx,ai⟩,by rw[ag (I A.wr λ_ _ _ z=>by cases z)];exact A.wr,λe he=>by rw[ag (I (A.dr e he) λ_ _ _ z=>by cases z)];exact A.dr e he,by rw[ag (I A.pa λ_ _ _ z=>by cases z)];exact A.pa,
  by rw[ag (I A.ho λ_ _ _ z=>by cases z)];exact A.ho,λe he=>?_,A.ph,A.wl,A.kd,A.md,A.ld⟩
 have M:=A.mx e he;obtain⟨Z,U⟩:=M.ob;exact M.keep (ag (n U λ_ _ _ z=>by cases z;rfl)) (ag (I M.li λ_ _ _ z=>by cases z)) λb xs e=>by rw[ag (I e λ_ _ _ z=>by cases z)];exact e
theorem HoO.row (A:HoO t H a s l w p h x) (O:H r=some (.tup xs)):HoO t (upd H w (.lst (x.di.map (λe=>V.ref e.1)++ [.ref r]))) a s l w p h {x with di:=x.di++ [(r,xs)]}:=by
 obtain⟨Y,U⟩:=A.ob;have I:∀{b:Addr} {o:HO},H b=some o->(∀ys,o≠ .lst ys)->b≠w:=λe i z=>by
  rw[z,A.wr]at e;exact i _ (Option.some.inj e).symm
 refine⟨⟨Y,by rw[ag (I U λ_ z=>by cases z)];exact U⟩,by rw[ai,Q9];rfl,λe he=>?_,by rw[ag (I A.pa λ_ z=>by cases z)];exact A.pa,by rw[ag (I A.ho λ_ z=>by cases z)];exact A.ho,λe he=>?_,A.ph,A.wl,A.kd,A.md,A.ld⟩
 .rcases Q5.mp he with he|he
  .rw[ag (I (A.dr e he) λ_ z=>by cases z)];exact A.dr e he
  .rw[Qa.mp he,ag (I O λ_ z=>by cases z)];exact O
 .have M:=A.mx e he;obtain⟨dm,Z⟩:=M.ob;exact M.keep (ag (I Z λ_ z=>by cases z)) (ag (A.wl e he)) λb xs e=>by rw[ag (I e λ_ z=>by cases z)];exact e
def paN (pa:List Pk) (k:Int) (y:Mk1):List Pk:=pa.map λe=>if e.k=k then{e with es:=e.es++ [y]}else e
theorem vg {f:Pk->β} (hf:∀e es,f {e with es:=es}=f e):(paN pa k y).map f=pa.map f:=by
 unfold paN;rw[Qq];refine QM λe _=>?_;show f (if e.k=k then _ else e)=_;split
 .exact hf _ _
 .rfl
theorem wH {e:Pk} (h:e∈paN pa k y):∃g∈pa,e.k=g.k/\e.m=g.m/\e.l=g.l/\((g.k=k/\e.es=g.es++ [y])\/(g.k≠k/\e.es=g.es)):=by
 obtain⟨g,z,rfl⟩:=Q7.mp h;refine⟨g,z,?_⟩;split
 .rename_i c;exact⟨rfl,rfl,rfl,.inl ⟨c,rfl⟩⟩
 .rename_i c;exact⟨rfl,rfl,rfl,.inr ⟨c,rfl⟩⟩
theorem Hn (hb:Ow a w p h (paN pa k y) b):Ow a w p h pa b:=by
 rcases hb with z|z|z|z|⟨e,he,z⟩
 .exact .inl z
 .exact .inr (.inl z)
 .exact .inr (.inr (.inl z))
 .exact .inr (.inr (.inr (.inl z)))
 .obtain⟨g,I,_,e2,O,_⟩:=wH he;rw[e2,O]at z;exact .inr (.inr (.inr (.inr ⟨g,I,z⟩)))
theorem HoO.noted (A:HoO t H a s l w p h x) {e:Pk} (he:e∈x.pa) (ek:e.k=k) (M:MkA t H' e.m e.l (e.es++ [y])) (Z:∀b o,b≠e.l->H b=some o->H' b=some o):HoO t H' a s l w p h {x with pa:=paN x.pa k y}:=by
 obtain⟨dy,ho⟩:=A.ob;have hl:=(A.mx e he).li;have I:∀{b:Addr} {o:HO},H b=some o->(∀ys,o≠ .lst ys)->H' b=some o:=λe i=>Z _ _ (λz=>by
  rw[z,hl]at e;exact i _ (Option.some.inj e).symm) e
 refine⟨⟨dy,I ho (λ_ z=>by cases z)⟩,Z _ _ (A.wl e he).symm A.wr,λe he=>I (A.dr e he) (λ_ z=>by cases z),?_,I A.ho (λ_ z=>by cases z),λf hf=>?_,A.ph,λf hf=>?_,?_,?_,?_⟩
 .show H' p=some (.dK (aN (paD (paN x.pa k y))));unfold paD;rw[vg λ_ _=>rfl];exact I A.pa λ_ z=>by cases z
 .obtain⟨g,O,e1,e2,U,⟨c,e4⟩|⟨c,e4⟩⟩:=wH hf
  .have:g=e:=Dw A.kd O he (c.trans ek.symm);subst this;rw[e2,U,e4];exact M
  .have Y:=A.mx g O;obtain⟨dm,hm⟩:=Y.ob;rw[e2,U,e4];exact Y.keep ((I hm λ_ z=>by cases z).trans hm.symm) ((Z _ _ (λz=>c (by rw[Dw A.ld O he z];exact ek)) Y.li).trans Y.li.symm) λb xs e=>I e λ_ z=>by cases z
 .obtain⟨g,O,_,_,U,_⟩:=wH hf;rw[U];exact A.wl g O
 .show((paN x.pa k y).map (·.k)).Nodup;rw[vg λ_ _=>rfl];exact A.kd
 .show((paN x.pa k y).map (·.m)).Nodup;rw[vg λ_ _=>rfl];exact A.md
 .show((paN x.pa k y).map (·.l)).Nodup;rw[vg λ_ _=>rfl];exact A.ld
theorem nN (pa:List Pk) (k:Int):(aO (paD pa) k=none/\k∉pa.map (·.k))\/∃e∈pa,e.k=k/\aO (paD pa) k=some (.ref e.m)/\bB pa k=e.es:=by
 induction pa with
 |nil=>exact .inl ⟨jS,λz=>by cases z⟩
 |cons e r U=>
  show(aO ((e.k,V.ref e.m)::paD r) k=none/\_)\/∃g∈e::r,g.k=k/\aO ((e.k,V.ref e.m)::paD r) k=_/\(if e.k=k then e.es else bB r k)=_;by_cases c:e.k=k
  .exact .inr ⟨e,Q6,c,bc c,if_pos c⟩
  .rw[ba c,if_neg c];rcases U with⟨I,O⟩|⟨g,Y,I,O,Z⟩
   .refine .inl ⟨I,λz=>?_⟩;rw[Qo]at z;rcases Qg.mp z with z|z
    .exact c z.symm
    .exact O z
   .exact .inr ⟨g,Q8 _ Y,I,O,Z⟩
theorem fP:∀{pa:List Pk},k∉pa.map (·.k)->bB pa k=[]
 | [],_=>rfl
 |e::r,n=>by
  rw[Qo]at n;show(if e.k=k then e.es else bB r k)=[];rw[if_neg λz=>n (by rw[z];exact Q6)];exact fP λz=>n (Q8 _ z)
theorem nV {j:Int}:∀{pa:List Pk},k∈pa.map (·.k)->bB (paN pa k y) j=if j=k then bB pa k++ [y]else bB pa j
 |e::r,n=>by
  show(if(if e.k=k then{e with es:=e.es++ [y]}else e:Pk).k=j then(if e.k=k then{e with es:=e.es++ [y]}else e:Pk).es else bB (paN r k y) j)=if j=k then(if e.k=k then e.es else bB r k)++ [y]else(if e.k=j then e.es else bB r j)
  by_cases c:e.k=k
  .rw[if_pos c,if_pos c];show(if e.k=j then e.es++ [y]else bB (paN r k y) j)=_;by_cases d:j=k
   .rw[if_pos d,if_pos (c.trans d.symm)]
   .rw[if_neg d,if_neg λz=>d (z.symm.trans c),if_neg λz=>d (z.symm.trans c)];by_cases m:k∈r.map (·.k)
    .rw[nV m,if_neg d]
    .have:paN r k y=r:=by
      unfold paN
      conv=>rhs;rw[<-List.map_id r]
      refine QM λg I=>if_neg λz=>m ?_;rw[<-z];exact Q7.mpr ⟨g,I,rfl⟩
     rw[this]
  .rw[if_neg c,if_neg c];have m:k∈r.map (·.k):=by
    rw[Qo]at n;rcases Qg.mp n with z|z
    .exact absurd z.symm c
    .exact z
   rw[nV m];by_cases d:j=k
   .rw[if_pos d,if_pos d,if_neg λz=>c (z.trans d)]
   .rw[if_neg d,if_neg d]
theorem sN {e:Pk} {j:Int}:∀{pa:List Pk},e.k∉pa.map (·.k)->bB (pa++ [e]) j=if j=e.k then e.es else bB pa j
 | [],_=>by
  show(if e.k=j then e.es else[])=if j=e.k then e.es else[]
  by_cases c:e.k=j
  .rw[if_pos c,if_pos c.symm]
  .rw[if_neg c,if_neg (Ne.symm c)]
 |g::r,n=>by
  rw[Qo]at n;show(if g.k=j then g.es else bB (r++ [e]) j)=if j=e.k then e.es else(if g.k=j then g.es else bB r j)
  rw[sN λz=>n (Q8 _ z)];by_cases c:g.k=j
  .rw[if_pos c,if_pos c,if_neg λz=>n (by rw[<-z,<-c];exact Q6)]
  .rw[if_neg c,if_neg c]
theorem HoO.newk (A:HoO t H a s l w p h x) {m g:Addr} (nk:k∉x.pa.map (·.k)) (M:MkA t H m g []) (n1:¬Ow a w p h x.pa m) (Y:¬Ow a w p h x.pa g):HoO t (upd H p (.dK (aN (paD x.pa++ [(k,.ref m)])))) a s l w p h {x with pa:=x.pa++ [⟨k,m,g,[]⟩]}:=by
 obtain⟨dy,Z⟩:=A.ob;have I:∀{b:Addr} {o:HO},H b=some o->(∀ys,o≠ .dK ys)->b≠p:=λe i z=>by
  rw[z,A.pa]at e;exact i _ (Option.some.inj e).symm
 have kp:∀{m' l':Addr} {es:List Mk1} {o:HO},MkA t H m' l' es->MkA t (upd H p o) m' l' es:=λM=>by
  obtain⟨dm,hm⟩:=M.ob;exact M.keep (ag (I hm λ_ z=>by cases z)) (ag (I M.li λ_ z=>by cases z)) λb xs e=>by rw[ag (I e λ_ z=>by cases z)];exact e
 refine⟨⟨dy,by rw[ag (I Z λ_ z=>by cases z)];exact Z⟩,by rw[ag (I A.wr λ_ z=>by cases z)];exact A.wr,λe he=>by rw[ag (I (A.dr e he) λ_ z=>by cases z)];exact A.dr e he,?_,by rw[ag A.ph.symm];exact A.ho,λe he=>?_,A.ph,λe he=>?_,?_,?_,?_⟩
 .rw[ai];show _=some (HO.dK (aN (paD (x.pa++ [⟨k,m,g,[]⟩]))));unfold paD;rw[Q9];rfl
 .rcases Q5.mp he with he|he
  .exact kp (A.mx e he)
  .rw[Qa.mp he];exact kp M
 .rcases Q5.mp he with he|he
  .exact A.wl e he
  .rw[Qa.mp he];exact λz=>Y (.inr (.inl z))
 all_goals
  rw[Q9];refine List.nodup_append.mpr ⟨?_,by simp,λu hu v O z=>?_⟩
 .exact A.kd
 .cases Qa.mp O;rw[z]at hu;exact nk hu
 .exact A.md
 .cases Qa.mp O;obtain⟨e,he,U⟩:=Q7.mp hu;exact n1 (.inr (.inr (.inr (.inr ⟨e,he,.inl (z.symm.trans U.symm)⟩))))
 .exact A.ld
 .cases Qa.mp O;obtain⟨e,he,U⟩:=Q7.mp hu;exact Y (.inr (.inr (.inr (.inr ⟨e,he,.inr (z.symm.trans U.symm)⟩))))
end
structure Noted (pa pa':List Pk) (k:Int) (y:Mk1):Prop where
 of:∀j,bB pa' j=if j=k then bB pa k++ [y]else bB pa j
 ky:pa'.map (·.k)=if k∈pa.map (·.k)then pa.map (·.k)else pa.map (·.k)++ [k]
structure HoB (K:PySem.W.Frag) (t:Adr) (H:Hp) (a s l w p h:Addr) (Fs Fl:Addr->Prop) (x:HSt):Prop where
 o:HoO t H a s l w p h x
 sl:SlA K t H s Fs x.st
 lv:LvA K t H l Fl x.ks
 a1:∀b,Fs b->¬Fl b
 a2:∀b,Ow a w p h x.pa b->¬Fs b
 a3:∀b,Ow a w p h x.pa b->¬Fl b
def HoF (a w p h:Addr) (Fs Fl:Addr->Prop) (pa:List Pk):Addr->Prop:=λb=>Fs b\/Fl b\/Ow a w p h pa b
section
variable {s l w h:Addr} {Fs Fs' Fl Fl':Addr->Prop} {x x':HSt}
theorem HoB.slots (B:HoB K t H a s l w p h Fs Fl x) (S:SlA K t H' s Fs' st) (f:Fr Fs Fs' H H'):HoB K t H' a s l w p h Fs' Fl {x with st:=st}/\Fr (HoF a w p h Fs Fl x.pa) (HoF a w p h Fs' Fl x.pa) H H':=by
 have k1:∀b,Fl b->H' b=H b/\¬Fs' b:=λb hb=>by
  obtain⟨o,e⟩:=B.lv.dom hb;have:=f b o (λz=>B.a1 b z hb) e;exact⟨this.1.trans e.symm,this.2⟩
 have k2:∀b,Ow a w p h x.pa b->H' b=H b/\¬Fs' b:=λb hb=>by
  obtain⟨o,e,_⟩:=B.o.dom hb;have:=f b o (B.a2 b hb) e;exact⟨this.1.trans e.symm,this.2⟩
 have O:=B.o.keep (H':=H') (λb hb=>(k2 b hb).1) λb xs e=>(f b _ (B.sl.notup e) e).1;exact⟨⟨⟨O.ob,O.wr,O.dr,O.pa,O.ho,O.mx,O.ph,O.wl,O.kd,O.md,O.ld⟩,S,B.lv.frame λb hb=>(k1 b hb).1,λb h1 h2=>(k1 b h2).2 h1,λb hb=>(k2 b hb).2,B.a3⟩,λb o n e=>⟨(f b o (λz=>n (.inl z)) e).1,λz=>z.elim (f b o (λz=>n (.inl z)) e).2 λz=>n (.inr z)⟩⟩
theorem HoB.leaves (B:HoB K t H a s l w p h Fs Fl x) (S:LvA K t H' l Fl' ks) (f:Fr Fl Fl' H H'):HoB K t H' a s l w p h Fs Fl' {x with ks:=ks}/\Fr (HoF a w p h Fs Fl x.pa) (HoF a w p h Fs Fl' x.pa) H H':=by
 have k1:∀b,Fs b->H' b=H b/\¬Fl' b:=λb hb=>by
  obtain⟨o,e⟩:=B.sl.dom hb;have:=f b o (B.a1 b hb) e;exact⟨this.1.trans e.symm,this.2⟩
 have k2:∀b,Ow a w p h x.pa b->H' b=H b/\¬Fl' b:=λb hb=>by
  obtain⟨o,e,_⟩:=B.o.dom hb;have:=f b o (B.a3 b hb) e;exact⟨this.1.trans e.symm,this.2⟩
 have O:=B.o.keep (H':=H') (λb hb=>(k2 b hb).1) λb xs e=>(f b _ (B.lv.notup e) e).1;exact⟨⟨⟨O.ob,O.wr,O.dr,O.pa,O.ho,O.mx,O.ph,O.wl,O.kd,O.md,O.ld⟩,B.sl.frame λb hb=>(k1 b hb).1,S,λb h1=>(k1 b h1).2,B.a2,λb hb=>(k2 b hb).2⟩,λb o n e=>⟨(f b o (λz=>n (.inr (.inl z))) e).1,λz=>z.elim (λz=>n (.inl z)) λz=>z.elim (f b o (λz=>n (.inr (.inl z))) e).2 λz=>n (.inr (.inr z))⟩⟩
theorem HoB.own (B:HoB K t H a s l w p h Fs Fl x) (O:HoO t H' a s l w p h x') (I:x'.st=x.st) (e2:x'.ks=x.ks) (f:Fr (Ow a w p h x.pa) (Ow a w p h x'.pa) H H'):HoB K t H' a s l w p h Fs Fl x'/\Fr (HoF a w p h Fs Fl x.pa) (HoF a w p h Fs Fl x'.pa) H H':=by
 have k1:∀b,Fs b->H' b=H b/\¬Ow a w p h x'.pa b:=λb hb=>by
  obtain⟨o,e⟩:=B.sl.dom hb;have:=f b o (λz=>B.a2 b z hb) e;exact⟨this.1.trans e.symm,this.2⟩
 have k2:∀b,Fl b->H' b=H b/\¬Ow a w p h x'.pa b:=λb hb=>by
  obtain⟨o,e⟩:=B.lv.dom hb;have:=f b o (λz=>B.a3 b z hb) e;exact⟨this.1.trans e.symm,this.2⟩
 exact⟨⟨O,by rw[I];exact B.sl.frame λb hb=>(k1 b hb).1,by rw[e2];exact B.lv.frame λb hb=>(k2 b hb).1,B.a1,λb h1 h2=>(k1 b h2).2 h1,λb h1 h2=>(k2 b h2).2 h1⟩,λb o n e=>⟨(f b o (λz=>n (.inr (.inr z))) e).1,λz=>z.elim (λz=>n (.inl z)) λz=>z.elim (λz=>n (.inr (.inl z))) (f b o (λz=>n (.inr (.inr z))) e).2⟩⟩
theorem HoB.dom (B:HoB K t H a s l w p h Fs Fl x) (hb:HoF a w p h Fs Fl x.pa b):∃o,H b=some o/\∀ys,o≠ .tup ys:=by
 have I:∀F:Addr->Prop,F b->(∀xs,H b=some (.tup xs)->¬F b)->∀o,H b=some o->∃o,H b=some o/\∀ys,o≠ .tup ys:=λF O n o e=>⟨o,e,λys z=>n ys (by rw[e,z]) O⟩;rcases hb with hb|hb|hb
 .obtain⟨o,e⟩:=B.sl.dom hb;exact I Fs hb (λxs e=>B.sl.notup e) o e
 .obtain⟨o,e⟩:=B.lv.dom hb;exact I Fl hb (λxs e=>B.lv.notup e) o e
 .exact B.o.dom hb
theorem HoB.keep (B:HoB K t H a s l w p h Fs Fl x) (g:∀b,HoF a w p h Fs Fl x.pa b->H' b=H b) (z:∀b xs,H b=some (.tup xs)->H' b=some (.tup xs)):HoB K t H' a s l w p h Fs Fl x:=
 ⟨B.o.keep (λb hb=>g b (.inr (.inr hb))) z,B.sl.frame λb hb=>g b (.inl hb),B.lv.frame λb hb=>g b (.inr (.inl hb)),B.a1,B.a2,B.a3⟩
end
structure HOk (x:HSt):Prop where
 ks:∀z,z∈x.ks↔(aO x.st.kv z).isSome=true
 n0:0<=x.now
 m0:0<=x.ma
 dl:(x.di.length:Int)=x.now+x.ma
 pl:(x.pa.length:Int)<=x.now
 el:∀j,((bB x.pa j).length:Int)<=x.now
 sl:(x.st.kv.length:Int)<=x.now
 hn:(x.ho.map (·.1)).Nodup
 hv:∀p∈x.ho,x.fl<=p.1/\p.1<=x.now/\∃n:Int,p.2= .int n/\0<n
 fb:0<=x.fl/\x.fl<=x.now
 up:∀j,(bB x.pa j).Pairwise (λa b=>a.mo<b.mo)/\∀y∈bB x.pa j,y.mo<=x.now
def HoA (K:PySem.W.Frag) (t:Adr) (H:Hp) (a:Addr) (F:Addr->Prop) (x:HSt):Prop:=∃s l w p h Fs Fl,HoB K t H a s l w p h Fs Fl x/\HOk x/\∀b,F b↔HoF a w p h Fs Fl x.pa b
section
variable {x:HSt}
theorem HoA.ins (A:HoA K t H a F x):∃dx fs,H a=some (.ins t.az dx fs)/\(∀m,NoH m->fs.lookup m=none)/\fs.lookup ("now":Str)=some (.int x.now)/\fs.lookup ("floor":Str)=some (.int x.fl):=by
 obtain⟨s,l,w,p,h,Fs,Fl,B,_⟩:=A;obtain⟨dx,e⟩:=B.o.ob;exact⟨dx,_,e,λm z=>AV z,qJ,HQ⟩
theorem HoA.ok (A:HoA K t H a F x):HOk x:=by
 obtain⟨s,l,w,p,h,Fs,Fl,B,O,_⟩:=A;exact O
theorem HoA.dom (A:HoA K t H a F x) (hb:F b):∃o,H b=some o/\∀ys,o≠ .tup ys:=by
 obtain⟨s,l,w,p,h,Fs,Fl,B,_,g⟩:=A;exact B.dom ((g b).mp hb)
theorem HoA.out (A:HoA K t H a F x) (e:H b=none):¬F b:=λz=>by
 obtain⟨o,q,_⟩:=A.dom z;rw[q]at e;cases e
theorem HoA.keep (A:HoA K t H a F x) (g:∀b,F b->H' b=H b) (z:∀b xs,H b=some (.tup xs)->H' b=some (.tup xs)):HoA K t H' a F x:=by
 obtain⟨s,l,w,p,h,Fs,Fl,B,O,f⟩:=A;exact⟨s,l,w,p,h,Fs,Fl,B.keep (λb hb=>g b ((f b).mpr hb)) z,O,f⟩
theorem HoA.same (A:HoA K t H a F x) (m:Same H H'):HoA K t H' a F x:=A.keep (λb hb=>by
 obtain⟨o,e,_⟩:=A.dom hb;rw[e];exact m _ _ e) λb xs e=>m _ _ e
theorem HoA.upd (A:HoA K t H a F x) (n:¬F q) (I:∀xs,H q≠some (.tup xs)):HoA K t (L2.upd H q o) a F x:=A.keep (λb hb=>ag λz=>n (z▸hb)) λb xs e=>by rw[ag λz=>I xs (by rw[<-z];exact e)];exact e
theorem HoA.tu (A:HoA K t H a F x) {e:Mk1} (he:e∈bB x.pa k):H e.p=some (.tup [.int e.mo,e.v]):=by
 obtain⟨s,l,w,p,h,Fs,Fl,B,O,f⟩:=A;rcases nN x.pa k with⟨_,n⟩|⟨g,z,_,_,I⟩
 .rw[fP n]at he;cases he
 .rw[I]at he;exact(B.o.mx g z).tu e he
end
def rD (t:Adr):Sp:=λvs H Q _=>∃(a s l w p h r:Addr) (k:Int) (x:HSt) (v:V) (xs:List V),vs=[.ref a,.ref r,v]/\HoO t H a s l w p h x/\H r=some (.tup xs)/\atI xs 1=some (.int k)/\x.di.length<50000/\x.pa.length<50000/\(bB x.pa k).length<50000/\
 ∀(H':Hp) (pa':List Pk) (q:Addr),HoO t H' a s l w p h {x with now:=x.now+1,di:=x.di++ [(r,xs)],pa:=pa'}->Noted x.pa pa' k ⟨q,x.now+1,v⟩->Fr (Ow a w p h x.pa) (Ow a w p h pa') H H'->Q (.int (x.now+1)) H'
theorem kq (T:Txt K mg t):aV P w K mg base CX0 3 t.mr t.iP ["self","row","value"] (rD t):=by
 refine T.E6.okl sc_House__done λ_ _ _ s H vs Q E hr h=>?_;intro X;obtain⟨a,s,l,wr,p,h,r,k,x,v,xs,rfl,A,ht,hk,l1,l2,l3,q⟩:=h;refine aj (aJ (i:=3) sc_House__done.nd rfl (Or.inl rfl) (bf kA (pv 1) aq (λ_ _=>rfl)))
   (aj (kT (pv 0) aq Ab)
   (aj (aS (cJ Qu Z9 Za eC (aD (pv 0) rfl) (ae (pv 1) ah)))
   (aj (aS (aK (cJ QH K5 PySem.F.type_dict_setdefault B7 (aD (pv 0) rfl) (ae (pv 3) (ae (eU T.IZ (sJ T) hr.mo (by rfl) T.Jb T.EM .nil ay) ah))) T.i7 T.EC (sI T) hr.mo T.EL .nil ay (ae (aD (pv 0) rfl) (ae (pv 2) ah))))
   (aH (aG (aD (pv 0) rfl)) ?_))))
 intros
 obtain⟨dx,ho⟩:=A.ob;refine⟨_,rfl,r,_,_,_,rfl,rfl,SqT.of ht,hk,?_⟩;refine⟨_,rfl,a,_,dx,_,_,rfl,ho,T.au,T.dI,qJ,_,_,rfl,rfl,dx,_,ho,FM,?_⟩;rw[Fu];have A1:=A.set (now:=x.now+1) (mk:=x.ma) (fl:=x.fl) (dx:=dx);have o1:∀b o,b≠a->H b=some o->upd H a (.ins t.az dx (hoF (x.now+1) x.fl s l wr x.ma p h)) b=some o:=λb o n e=>by rw[ag n];exact e
 have ra:r≠a:=λz=>by rw[z,ho]at ht;cases ht
 have U:=o1 _ _ ra ht;generalize upd H a (.ins t.az dx (hoF (x.now+1) x.fl s l wr x.ma p h))=H1 at A1 o1 U⊢;obtain⟨a3,a0⟩:=A1.ob;refine⟨_,rfl,a,_,a3,_,_,rfl,a0,T.au,T.iX,DZ,.inl ⟨rfl,_,SqL.of A1.wr⟩,_,rfl,wr,_,_,rfl,rfl,A1.wr,bi (by rw[Q0];show x.di.length<=_;lia),?_⟩;have Y:=A1.row U;have o2:∀b o,¬Ow a wr p h x.pa b->H b=some o->upd H1 wr (.lst (x.di.map (λe=>V.ref e.1)++ [.ref r])) b=some o:=λb o n e=>by rw[ag λz=>n (.inr (.inl z))];exact o1 _ _ (λz=>n (.inl z)) e
 generalize upd H1 wr (.lst (x.di.map (λe=>V.ref e.1)++ [.ref r]))=H2 at Y o2⊢;obtain⟨a4,a1⟩:=Y.ob;refine⟨_,rfl,a,_,a4,_,_,rfl,a1,T.au,T.b6,tj,.inr (.inr (.inl ⟨rfl,.inl ⟨_,Y.pa⟩⟩)),_,rfl,λm dm nm nd a5=>⟨m,dm,rfl,ai,λH4 g M4 ng o4=>⟨rfl,?_⟩⟩⟩;have s3:Same H2 (upd (upd H2 dm (.own m)) m (.ins t.cZ dm [])):=cU (am nd) nm;have s4:Same H2 H4:=λb o e=>o4 b o (λz=>by rw[z,nm]at e;cases e) (s3 b o e);have Z:=xh s3 ng;have A4:=Y.same s4;have om:¬Ow a wr p h x.pa m:=λz=>by obtain⟨o,e,_⟩:=Y.dom z;rw[nm]at e;cases e
 have og:¬Ow a wr p h x.pa g:=λz=>by obtain⟨o,e,_⟩:=Y.dom z;rw[Z]at e;cases e
 have o5:∀b o,¬Ow a wr p h x.pa b->H b=some o->H4 b=some o/\b≠m/\b≠g:=λb o n e=>⟨s4 _ _ (o2 b o n e),λz=>(by have:=o2 b o n e;rw[z,nm]at this;cases this),λz=>(by have:=o2 b o n e;rw[z,Z]at this;cases this)⟩;clear s3 s4 o4 o2 o1 A1 Y a1 a0 ho A ng nm nd a5 Z U ht;refine⟨p,_,Sum.inl k,.ref m,rfl,rfl,A4.pa,(by rw[b7];exact bi (by show(paD x.pa).length<=_;unfold paD;rw[Q0];lia)),λu hu=>?A,λhn=>?B⟩
 case' A=>
  have hu:aO (aN (paD x.pa)) (Sum.inl k:Key)=some u:=hu;rw[liftK_val]at hu;obtain⟨e,he,O,ev,em⟩:∃e∈x.pa,e.k=k/\aO (paD x.pa) k=some (.ref e.m)/\bB x.pa k=e.es:=by
   rcases nN x.pa k with⟨z,_⟩|z
   .rw[z]at hu;cases hu
   .exact z
  rw[ev]at hu;cases hu;obtain⟨I,A5,he,N,f5⟩:∃I,HoO t H4 a s l wr p h {x with now:=x.now+1,di:=x.di++ [(r,xs)],pa:=I}/\e∈I/\(∀y,Noted x.pa (paN I k y) k y)/\Fr (Ow a wr p h x.pa) (Ow a wr p h I) H H4:=
   ⟨x.pa,A4,he,λy=>⟨λj=>nV (Q7.mpr ⟨e,he,O⟩),by rw[vg λ_ _=>rfl,if_pos (Q7.mpr ⟨e,he,O⟩)]⟩,λb o n e=>⟨(o5 b o n e).1,n⟩⟩
  have le:e.es.length<50000:=by rw[<-em];exact l3
  clear A4 em ev o5
 case' B=>
  have hn:aO (aN (paD x.pa)) (Sum.inl k:Key)=none:=hn;rw[liftK_val]at hn;have nk:k∉x.pa.map (·.k):=by
   rcases nN x.pa k with⟨_,z⟩|⟨e,_,_,z,_⟩
   .exact z
   .rw[z]at hn;cases hn
  have ep:bj (aN (paD x.pa)) (Sum.inl k:Key) (.ref m)=aN (paD x.pa++ [(k,.ref m)]):=by
   rw[iZ];unfold bj;rw[cr,hn];rfl
  rw[ep];obtain⟨e,ee,O,le⟩:∃e:Pk,e=⟨k,m,g,[]⟩/\e.k=k/\e.es.length<50000:=⟨_,rfl,rfl,by show 0<50000;decide⟩;obtain⟨I,A5,he,N,f5⟩:∃I,HoO t (upd H4 p (.dK (aN (paD x.pa++ [(k,.ref m)])))) a s l wr p h {x with now:=x.now+1,di:=x.di++ [(r,xs)],pa:=I}/\e∈I/\(∀y,Noted x.pa (paN I k y) k y)/\Fr (Ow a wr p h x.pa) (Ow a wr p h I) H (upd H4 p (.dK (aN (paD x.pa++ [(k,.ref m)])))):=by
   refine⟨x.pa++ [e],ee▸A4.newk nk M4 om og,Qv _ Q6,λy=>⟨λj=>?_,?_⟩,λb o n eb=>⟨?_,λz=>?_⟩⟩
   .have a2:e.k∉x.pa.map (·.k):=by rw[O];exact nk
    rw[nV (by rw[Q9];exact Qv _ (Qa.mpr O.symm)),sN a2,sN a2,if_pos O.symm,fP nk,ee];by_cases c:j=k
    .rw[if_pos c,if_pos c]
    .rw[if_neg c,if_neg c,if_neg c]
   .rw[vg λ_ _=>rfl,if_neg nk,Q9,<-O];rfl
   .rw[ag λz=>n (.inr (.inr (.inl z)))];exact(o5 b o n eb).1
   .rcases z with z|z|z|z|⟨e',aa,z⟩
    .exact n (.inl z)
    .exact n (.inr (.inl z))
    .exact n (.inr (.inr (.inl z)))
    .exact n (.inr (.inr (.inr (.inl z))))
    .rcases Q5.mp aa with y|y
     .exact n (.inr (.inr (.inr (.inr ⟨e',y,z⟩))))
     .rw[Qa.mp y,ee]at z;exact z.elim (o5 b o n eb).2.1 (o5 b o n eb).2.2
  have em:V.ref m=V.ref e.m:=by rw[ee]
  clear A4 M4 o5 om og hn nk ep;generalize upd H4 p (.dK (aN (paD x.pa++ [(k,.ref m)])))=H5 at A5 f5⊢;rw[em]
 all_goals
  have M5:=A5.mx e he;obtain⟨dy,hm⟩:=M5.ob;obtain⟨ac,af⟩:=A5.ob;refine⟨e.m,dy,_,rfl,hm,bg (by decide+kernel),_,rfl,a,_,ac,_,_,rfl,af,T.au,T.dI,qJ,_,rfl,e.m,e.l,e.es,_,v,rfl,M5,by lia,λH6 y M6 ny o6=>?_⟩;have A6:=A5.noted he O M6 o6;obtain⟨al,an⟩:=A6.ob;refine⟨_,rfl,a,_,al,_,_,rfl,an,T.au,T.dI,qJ,q _ _ y A6 (N _) (f5.trans λb o n eb=>⟨o6 b o (λz=>n (.inr (.inr (.inr (.inr ⟨e,he,.inr z⟩))))) eb,λz=>n (Hn z)⟩)⟩
def HSt.new:HSt:=⟨0,0,0,SSt.new,[],[],[],[]⟩
theorem HSt.new_ok:HOk HSt.new:=⟨λz=>⟨(λy=>by cases y),(λy=>by cases y)⟩,by decide,by decide,rfl,by decide,λ_=>by show((0:Nat):Int)<=0;decide,by decide,Zi,(λ_ z=>by cases z),by decide,λ_=>⟨List.Pairwise.nil,(λy z=>by cases z)⟩⟩
def rA (K:PySem.W.Frag) (t:Adr):Sp:=λvs H Q _=>∃(a dx:Addr),vs=[.ref a]/\H a=some (.ins t.az dx [])/\∀H' F,HoA K t H' a F HSt.new->Fr (λb=>b=a) F H H'->Q .non H'
theorem km (T:Txt K mg t):aV P w K mg base CX0 4 t.mi t.iM ["self"] (rA K t):=by
 refine T.E3.okl rR λ_ _ _ s H vs Q E hr h=>?_;intro X;obtain⟨a,dx,rfl,ha,q⟩:=h;refine aj (cc (pv 0) aq rfl)
   (aj (cc (pv 0) aq rfl)
   (aj (cc (pv 0) (eU T.Dz (kg T) hr.mo (by rfl) T.DD T.uM .nil ay) rfl)
   (aj (cc (pv 0) (eU T.Ca (jO T) hr.mo (by rfl) T.Cb T.tP .nil ay) rfl)
   (aj (cc (pv 0) (dH ah) rfl)
   (aj (cc (pv 0) aq rfl)
   (aj (cc (pv 0) j8 rfl)
   (aH (cc (pv 0) j8 rfl) ?_)))))))
 intros
 refine⟨_,rfl,a,_,dx,[],rfl,ha,T.au,T.dI,(by show 0<1000;decide),?_⟩;refine⟨_,rfl,a,_,dx,_,rfl,ai,T.au,T.kr,(by show 1<1000;decide),?_⟩
 (try dsimp only)
 have e2:upd (upd H a (.ins t.az dx (a9 ("now":Str) (.int 0) []))) a (.ins t.az dx (a9 ("floor":Str) (.int 0) (a9 ("now":Str) (.int 0) []))) a=some (.ins t.az dx [("now",.int 0),("floor",.int 0)]):=by
  rw[ai,dF,aW (by decide+kernel),dF]
 have k2:∀b o,b≠a->H b=some o->upd (upd H a (.ins t.az dx (a9 ("now":Str) (.int 0) []))) a (.ins t.az dx (a9 ("floor":Str) (.int 0) (a9 ("now":Str) (.int 0) []))) b=some o:=λb o n e=>by rw[ag n,ag n];exact e
 generalize upd (upd H a (.ins t.az dx (a9 ("now":Str) (.int 0) []))) a (.ins t.az dx (a9 ("floor":Str) (.int 0) (a9 ("now":Str) (.int 0) [])))=H2 at e2 k2⊢;refine λs ds ns I a1=>⟨s,ds,rfl,ai,by rw[ag a1];exact ai,λH3 Fs S3 f3=>⟨rfl,?_⟩⟩;have k3:∀b o,H2 b=some o->H3 b=some o/\¬Fs b:=λb o e=>f3 b o (λz=>z.elim (λz=>by rw[z,ns]at e;cases e) λz=>by rw[z,I]at e;cases e) (cU (am I) ns _ _ e);refine⟨_,rfl,a,_,dx,_,rfl,(k3 _ _ e2).1,T.au,T.br,(by show 2<1000;decide),?_⟩
 (try dsimp only)
 have e4:upd H3 a (.ins t.az dx (a9 ("slots":Str) (.ref s) [("now",.int 0),("floor",.int 0)])) a=some (.ins t.az dx [("now",.int 0),("floor",.int 0),("slots",.ref s)]):=by
  rw[ai,aW (by decide+kernel),aW (by decide+kernel),dF]
 have S4:=S3.upd (o:= .ins t.az dx (a9 ("slots":Str) (.ref s) [("now",.int 0),("floor",.int 0)])) (k3 _ _ e2).2;have k4:∀b o,b≠a->H b=some o->upd H3 a (.ins t.az dx (a9 ("slots":Str) (.ref s) [("now",.int 0),("floor",.int 0)])) b=some o/\¬Fs b:=λb o n e=>⟨by rw[ag n];exact(k3 _ _ (k2 b o n e)).1,(k3 _ _ (k2 b o n e)).2⟩;have na:=(k3 _ _ e2).2;clear f3 k3;generalize upd H3 a (.ins t.az dx (a9 ("slots":Str) (.ref s) [("now",.int 0),("floor",.int 0)]))=H4 at e4 S4 k4⊢;refine λl dl nl U a2=>⟨l,dl,rfl,ai,by rw[ag a2];exact ai,λH5 Fl L5 f5=>⟨rfl,?_⟩⟩;have k5:∀b o,H4 b=some o->H5 b=some o/\¬Fl b:=λb o e=>f5 b o (λz=>z.elim (λz=>by rw[z,nl]at e;cases e) λz=>by rw[z,U]at e;cases e) (cU (am U) nl _ _ e);refine⟨_,rfl,a,_,dx,_,rfl,(k5 _ _ e4).1,T.au,T.cY,(by show 3<1000;decide),?_⟩
 (try dsimp only)
 have e6:upd H5 a (.ins t.az dx (a9 ("leaves":Str) (.ref l) [("now",.int 0),("floor",.int 0),("slots",.ref s)])) a=some (.ins t.az dx [("now",.int 0),("floor",.int 0),("slots",.ref s),("leaves",.ref l)]):=by
  rw[ai,aW (by decide+kernel),aW (by decide+kernel),aW (by decide+kernel),dF]
 have nb:=(k5 _ _ e4).2;have L6:=L5.upd (o:= .ins t.az dx (a9 ("leaves":Str) (.ref l) [("now",.int 0),("floor",.int 0),("slots",.ref s)])) nb;have S6:=(S4.same λb o e=>(k5 b o e).1).upd (o:= .ins t.az dx (a9 ("leaves":Str) (.ref l) [("now",.int 0),("floor",.int 0),("slots",.ref s)])) na;have ap:∀b,Fs b->¬Fl b:=λb hb=>by
  obtain⟨o,e⟩:=S4.dom hb;exact(k5 b o e).2
 have k6:∀b o,b≠a->H b=some o->upd H5 a (.ins t.az dx (a9 ("leaves":Str) (.ref l) [("now",.int 0),("floor",.int 0),("slots",.ref s)])) b=some o/\¬Fs b/\¬Fl b:=λb o n e=>⟨by rw[ag n];exact(k5 _ _ (k4 b o n e).1).1,(k4 b o n e).2,(k5 _ _ (k4 b o n e).1).2⟩;clear f5 k5 k4 S4 L5 k2 e2 e4 S3 ns I a1 nl U a2;generalize upd H5 a (.ins t.az dx (a9 ("leaves":Str) (.ref l) [("now",.int 0),("floor",.int 0),("slots",.ref s)]))=H6 at e6 S6 L6 k6⊢;refine⟨Qi _,λwr nw=>⟨_,rfl,a,_,dx,_,rfl,am nw _ _ e6,T.au,T.iX,(by show 4<1000;decide),?_⟩⟩
 (try dsimp only)
 have aw:a≠wr:=ao e6 nw;refine⟨_,rfl,a,_,dx,_,rfl,ai,T.au,T.Dx,(by rw[aW (by decide+kernel),aW (by decide+kernel),aW (by decide+kernel),aW (by decide+kernel),dF];show 5<1000;decide),?_⟩
 (try dsimp only)
 rw[aW (f:="written") (by decide+kernel),aW (f:="written") (by decide+kernel),aW (f:="written") (by decide+kernel),aW (f:="written") (by decide+kernel),dF,aW (f:="marks") (by decide+kernel),aW (f:="marks") (by decide+kernel),aW (f:="marks") (by decide+kernel),aW (f:="marks") (by decide+kernel),aW (f:="marks") (by decide+kernel),dF,bM];have⟨H9,eH,e9,w9,k9⟩:∃H9,H9=upd (upd H6 wr (.lst [])) a (.ins t.az dx [("now",.int 0),("floor",.int 0),("slots",.ref s),("leaves",.ref l),("written",.ref wr),("marks",.int 0)])/\H9 a=some (.ins t.az dx [("now",.int 0),("floor",.int 0),("slots",.ref s),("leaves",.ref l),("written",.ref wr),("marks",.int 0)])/\H9 wr=some (.lst [])/\∀b o,b≠a->H6 b=some o->H9 b=some o:=
  ⟨_,rfl,ai,by rw[ag aw.symm];exact ai,λb o n e=>by rw[ag n];exact am nw _ _ e⟩
 rw[<-eH];clear eH;refine λp Y=>⟨_,rfl,a,_,dx,_,rfl,am Y _ _ e9,T.au,T.b6,(by show 6<1000;decide),?_⟩
 (try dsimp only)
 rw[aW (by decide+kernel),aW (by decide+kernel),aW (by decide+kernel),aW (by decide+kernel),aW (by decide+kernel),aW (by decide+kernel),dF];have⟨H11,eH,e11,w11,p11,k11⟩:∃H11,H11=upd (upd H9 p (.dK [])) a (.ins t.az dx [("now",.int 0),("floor",.int 0),("slots",.ref s),("leaves",.ref l),("written",.ref wr),("marks",.int 0),("past",.ref p)])/\H11 a=some (.ins t.az dx [("now",.int 0),("floor",.int 0),("slots",.ref s),("leaves",.ref l),("written",.ref wr),("marks",.int 0),("past",.ref p)])/\H11 wr=some (.lst [])/\H11 p=some (.dK [])/\∀b o,b≠a->H6 b=some o->H11 b=some o:=
  ⟨_,rfl,ai,by rw[ag aw.symm];exact am Y _ _ w9,by rw[ag (ao e9 Y).symm];exact ai,λb o n e=>by rw[ag n];exact am Y _ _ (k9 _ _ n e)⟩
 rw[<-eH];clear eH;have pa':p≠a:=(ao e9 Y).symm;refine λh nh=>⟨_,rfl,a,_,dx,_,rfl,am nh _ _ e11,T.au,T.pD,(by show 7<1000;decide),?_⟩
 (try dsimp only)
 rw[aW (by decide+kernel),aW (by decide+kernel),aW (by decide+kernel),aW (by decide+kernel),aW (by decide+kernel),aW (by decide+kernel),aW (by decide+kernel),dF];have a3:h≠a:=(ao e11 nh).symm;have Z:∀b o,b≠a->H11 b=some o->upd (upd H11 h (.dK [])) a (.ins t.az dx (hoF 0 0 s l wr 0 p h)) b=some o:=λb o n e=>by rw[ag n];exact am nh _ _ e
 have a0:∀b o,b≠a->H6 b=some o->upd (upd H11 h (.dK [])) a (.ins t.az dx (hoF 0 0 s l wr 0 p h)) b=some o:=λb o n e=>Z b o n (k11 b o n e);have O:HoO t (upd (upd H11 h (.dK [])) a (.ins t.az dx (hoF 0 0 s l wr 0 p h))) a s l wr p h HSt.new:=⟨⟨dx,ai⟩,Z _ _ aw.symm w11,(λe he=>by cases he),Z _ _ pa' p11,by rw[ag a3];exact ai,(λe he=>by cases he),ao p11 nh,(λe he=>by cases he),Zi,Zi,Zi⟩;have fresh:∀b,(b=wr\/b=p\/b=h)->H6 b=none:=λb hb=>by
  cases e:H6 b with
  |none=>rfl
  |some o=>
   have na:b≠a:=by
    rcases hb with rfl|rfl|rfl
    .exact aw.symm
    .exact pa'
    .exact a3
   rcases hb with rfl|rfl|rfl
   .rw[nw]at e;cases e
   .rw[k9 _ _ na e]at Y;cases Y
   .rw[k11 _ _ na e]at nh;cases nh
 have ow:∀b,Ow a wr p h [] b->b=a\/H6 b=none:=λb hb=>by
  rcases hb with z|z|z|z|⟨e,he,_⟩
  .exact .inl z
  .exact .inr (fresh b (.inl z))
  .exact .inr (fresh b (.inr (.inl z)))
  .exact .inr (fresh b (.inr (.inr z)))
  .cases he
 refine q _ (HoF a wr p h Fs Fl []) ⟨s,l,wr,p,h,Fs,Fl,⟨O,S6.frame λb hb=>?_,L6.frame λb hb=>?_,ap,λb hb z=>?_,λb hb z=>?_⟩,HSt.new_ok,λ_=>Iff.rfl⟩ λb o n e=>?_
 .obtain⟨o,e⟩:=S6.dom hb;rw[e];exact a0 b o (λz=>na (z▸hb)) e
 .obtain⟨o,e⟩:=L6.dom hb;rw[e];exact a0 b o (λz=>nb (z▸hb)) e
 .rcases ow b hb with y|y
  .exact na (y▸z)
  .exact S6.out y z
 .rcases ow b hb with y|y
  .exact nb (y▸z)
  .exact L6.out y z
 .obtain⟨c1,c2,c3⟩:=k6 b o n e;refine⟨a0 b o n c1,λz=>?_⟩;rcases z with z|z|z
  .exact c2 z
  .exact c3 z
  .rcases ow b z with y|y
   .exact n y
   .rw[c1]at y;cases y
def qf (K:PySem.W.Frag) (t:Adr):Sp:=λvs H Q _=>∃(a:Addr) (k:Int) (F:Addr->Prop) (x:HSt),vs=[.ref a,.int k]/\HoA K t H a F x/\
 ∀(H':Hp) (r:Addr),Same H H'->H r=none->H' r=some (.lst ((bB x.pa k).map λe=>V.ref e.p))->Q (.ref r) H'
theorem qt (T:Txt K mg t):aV P w K mg base CX0 2 t.kN t.gA ["self","key"] (qf K t):=by
 refine T.Eu.okl ql λ_ _ _ s H vs Q E U h=>?_;intro X;obtain⟨a,k,F,x,rfl,A,q⟩:=h;refine⟨_,(aA (aG (si (wD (zM (fq U) (pv 1) (aD (pv 0) rfl))) (bq (gO (fq U) (aD (pv 0) rfl) (pv 1) (λ_ _=>rfl)) T.i7 T.AK (mP T) U.mo T.Bk .nil ay) (dH ah))))
  ,?_⟩
 obtain⟨s,l,wr,p,h,Fs,Fl,B,O,g⟩:=A;obtain⟨dx,Y⟩:=B.o.ob;refine⟨_,rfl,_,rfl,a,_,dx,_,_,rfl,Y,T.au,T.b6,tj,p,_,rfl,DGet.k (k:=Sum.inl k) B.o.pa,_,rfl,?_⟩;rw[liftK_val];rcases nN x.pa k with⟨z,n⟩|⟨e,he,ek,z,Z⟩
 .rw[z];refine cq ⟨Qi _,λr I=>q _ r (am I) I ?_⟩;rw[fP n];exact ai
 .rw[z];have dg:DGet H p (.int k) (some (.ref e.m)):=by
   have:=DGet.k (k:=Sum.inl k) B.o.pa;rw[liftK_val,z]at this;exact this
  have M:=B.o.mx e he;obtain⟨dm,hm⟩:=M.ob;refine dM ⟨_,rfl,a,_,dx,_,_,rfl,Y,T.au,T.b6,tj,_,rfl,p,_,rfl,dg,e.m,dm,_,rfl,hm,bg (by decide+kernel),e.m,e.l,e.es,rfl,M,λH' r s' I er=>q H' r s' I ?_⟩;rw[Z];exact er
theorem HoA.klen {x:HSt} (A:HoA K t H a F x):(x.ks.length:Int)<=x.now:=by
 obtain⟨s,l,w,p,h,Fs,Fl,B,O,_⟩:=A;obtain⟨L,A,ls,_,ok,e,_⟩:=B.lv;have I:x.ks.Nodup:=by
  rw[<-e];exact List.Pairwise.imp (λh z=>by lia) ok.up
 have:=iW (S:=x.st.kv.map (·.1)) I λz hz=>mem_keys.mpr ((O.ks z).mp hz);rw[Q0]at this;have:=O.sl;lia
theorem HOk.noted {x:HSt} {y:Mk1} (O:HOk x) (N:Noted x.pa pa' k y):(pa'.length:Int)<=x.now+1/\∀j,((bB pa' j).length:Int)<=x.now+1:=by
 constructor
 .have h1:=O.pl;have h2:=congrArg List.length N.ky;rw[Q0]at h2;split at h2
  .rw[Q0]at h2;lia
  .rw[Qd,Q0,QY]at h2;lia
 .intro j;rw[N.of];split
  .have:=O.el k;rw[Qd,QY];lia
  .have:=O.el j;lia
theorem HOk.hv1 {x:HSt} (O:HOk x):∀p∈x.ho,x.fl<=p.1/\p.1<=x.now+1/\∃n:Int,p.2= .int n/\0<n:=λp hp=>⟨(O.hv p hp).1,by have:=(O.hv p hp).2.1;lia,(O.hv p hp).2.2⟩
theorem HOk.fb1 {x:HSt} (O:HOk x):0<=x.fl/\x.fl<=x.now+1:=⟨O.fb.1,by have:=O.fb.2;lia⟩
theorem HOk.up1 {x:HSt} {y:Mk1} (O:HOk x) (N:Noted x.pa pa' k y) (e:y.mo=x.now+1):∀j,(bB pa' j).Pairwise (λa b=>a.mo<b.mo)/\∀z∈bB pa' j,z.mo<=x.now+1:=λj=>by
 rw[N.of];obtain⟨U,I⟩:=O.up k;split
 .refine⟨Qk.mpr ⟨U,Z3 _ _,λa ha b hb=>?_⟩,λz hz=>?_⟩
  .rw[Qa.mp hb,e];have:=I a ha;lia
  .rcases Q5.mp hz with hz|hz
   .have:=I z hz;lia
   .rw[Qa.mp hz,e];exact X8 _
 .obtain⟨Y,Z⟩:=O.up j;exact⟨Y,λz hz=>by have:=Z z hz;lia⟩
def uj (K:PySem.W.Frag) (t:Adr):Sp:=λvs H Q _=>∃(a:Addr) (k i:Int) (F:Addr->Prop) (x:HSt),vs=[.ref a,.int k,.int i]/\HoA K t H a F x/\0<=k/\x.now+x.ma<4000/\
 ∀(H':Hp) (F':Addr->Prop) (ks':List Int) (r q:Addr) (pa':List Pk),HoA K t H' a F' {x with now:=x.now+1,st:=x.st.put k (.int i),ks:=ks',di:=x.di++ [(r,[.str "put",.int k,.int i])],pa:=pa'}->Noted x.pa pa' k ⟨q,x.now+1,.int i⟩->Fr F F' H H'->Q (.int (x.now+1)) H'
theorem ir (T:Txt K mg t):aV P w K mg base CX0 5 t.oO t.jK ["self","key","value"] (uj K t):=by
 refine T.Gf.okl uu λ_ _ _ s H vs Q E hr h=>?_;intro X;obtain⟨a,k,i,F,x,rfl,A,k0,l1,q⟩:=h;refine aj (aZ (gc (b9 (aK (aD (pv 0) rfl) T.ax T.wS (lJ T) hr.mo T.xB .nil ay (ae (pv 1) ah))))
    (aA (aS (aK (aD (pv 0) rfl) T.aI T.uF (kj T) hr.mo T.uO .nil ay (ae (pv 1) ah))))
    aP)
   (aj (aS (aK (aD (pv 0) rfl) T.ax T.wR (lI T) hr.mo T.xA .nil ay (ae (pv 1) (ae (pv 2) ah))))
   (aH (aG (aK (pv 0) T.au T.uH (kq T) hr.mo T.uR .nil ay (ae (eB (ae bI (ae (pv 1) (ae (pv 2) ah)))) (ae (pv 2) ah)))) ?_))
 intros
 have kl:=A.klen;obtain⟨s,l,wr,p,h,Fs,Fl,B,O,g⟩:=A;have n0:=O.n0;have m0:=O.m0;have sl:=O.sl;obtain⟨dx,ho⟩:=B.o.ob;obtain⟨ds,fs,hs,hm⟩:=B.sl.ins
 (try dsimp only)
 refine Fe (λσ H2=>∃(Y I:Addr->Prop) (U:List Int),σ=[some (.ref a),some (.int k),some (.int i)]/\HoB K t H2 a s l wr p h Y I {x with ks:=U}/\(∀z,z∈U↔z=k\/z∈x.ks)/\Fr (HoF a wr p h Fs Fl x.pa) (HoF a wr p h Y I x.pa) H H2) (λnx go=>?_) (λσ H2 w=>?_)
 .refine⟨_,rfl,a,_,dx,_,_,rfl,ho,T.au,T.br,pJ,s,ds,fs,rfl,hs,hm _ (by decide+kernel),_,rfl,s,k,Fs,x.st,rfl,B.sl,k0,λH1 a0 S1 f1=>?_⟩;obtain⟨B1,g1⟩:=B.slots S1 f1;obtain⟨a1,a2⟩:=B1.o.ob;obtain⟨dl,fl,hl,a3⟩:=B1.lv.ins;cases ev:(aO x.st.kv k).isSome with
  |true=>
   refine⟨_,rfl,oh (λc=>?_) (λ_=>?_)⟩
   .cases c
   .exact go _ _ ⟨a0,Fl,x.ks,rfl,B1,λz=>⟨.inr,λy=>y.elim (λy=>by rw[y];exact(O.ks k).mpr ev) id⟩,g1⟩
  |false=>
   have nk:k∉x.ks:=λz=>by have:=(O.ks k).mp z;rw[ev]at this;cases this
   refine⟨_,rfl,oh (λ_=>?_) (λc=>?_)⟩
   .refine⟨_,rfl,a,_,a1,_,_,rfl,a2,T.au,T.cY,xc,l,dl,fl,rfl,hl,a3 _ (by decide+kernel),_,rfl,l,k,Fl,x.ks,rfl,B1.lv,by lia,λ_ H2 I U L2 mem f2=>?_,λz=>absurd z nk⟩;obtain⟨B2,g2⟩:=B1.leaves L2 f2;exact go _ _ ⟨a0,I,U,rfl,B2,mem,g1.trans g2⟩
   .exact absurd rfl c
 .obtain⟨Y,I,U,rfl,B2,mem,g2⟩:=w;obtain⟨a4,a5⟩:=B2.o.ob;obtain⟨aa,ac,af,al⟩:=B2.sl.ins;refine⟨_,rfl,a,_,a4,_,_,rfl,a5,T.au,T.br,pJ,s,aa,ac,rfl,af,al _ (by decide+kernel),_,rfl,_,rfl,s,k,i,Y,x.st,rfl,B2.sl,k0,by lia,λH3 Z S3 f3=>?_⟩;obtain⟨B3,g3⟩:=B2.slots S3 f3;obtain⟨an,ap⟩:=B3.o.ob;refine⟨_,rfl,a,an,_,rfl,ap,AV (by decide+kernel),_,rfl,_,rfl,(by show 3<=sizeLine;decide),λr nr=>?_⟩;have s4:=am (o:= .tup [.str "put",.int k,.int i]) nr;have ht:upd H3 r (.tup [.str "put",.int k,.int i]) r=some (.tup [.str "put",.int k,.int i]):=ai;have B4:HoB K t (upd H3 r (.tup [.str "put",.int k,.int i])) a s l wr p h Z I _:=B3.keep (λb hb=>by
   obtain⟨o,e,_⟩:=B3.dom hb;rw[e];exact s4 _ _ e) λb xs e=>s4 _ _ e
  have g4:=(g2.trans g3).trans (Fr.of_same s4);generalize upd H3 r (.tup [.str "put",.int k,.int i])=H4 at B4 ht g4⊢;have dl:=O.dl;have pl:=O.pl;have el:=O.el k;refine⟨_,rfl,a,s,l,wr,p,h,r,k,_,.int i,_,rfl,B4.o,ht,rfl,by show x.di.length<50000;lia,by show x.pa.length<50000;lia,by show(bB x.pa k).length<50000;lia,λH5 pa' y O5 N f5=>?_⟩;obtain⟨B5,g5⟩:=B4.own O5 rfl rfl f5;obtain⟨N1,N2⟩:=O.noted N;have ek:(x.st.put k (.int i)).kv=bj x.st.kv k (.int i):=SSt.three_kv;refine q H5 (HoF a wr p h Z I pa') U r y pa' ⟨s,l,wr,p,h,Z,I,B5,⟨λz=>?_,by show 0<=x.now+1;lia,m0,?_,N1,N2,?_,O.hn,O.hv1,O.fb1,O.up1 N rfl⟩,λ_=>Iff.rfl⟩ N ?_
  .show z∈U↔(aO (x.st.put k (.int i)).kv z).isSome=true;rw[mem,ek,<-mem_keys,sT,O.ks];split
   .rename_i c
    rw[mem_keys];exact⟨λy=>y.elim (λy=>y▸c) id,.inr⟩
   .rw[Q5,Qa,mem_keys];exact⟨λy=>y.elim .inr .inl,λy=>y.elim .inr .inl⟩
  .show((x.di++ [(r,_)]).length:Int)=x.now+1+x.ma;rw[Qd,QY];lia
  .show((x.st.put k (.int i)).kv.length:Int)<=x.now+1;rw[ek];have:=cw x.st.kv k (.int i);lia
  .exact λb o n e=>(g4.trans g5) b o (λz=>n ((g b).mpr z)) e
def RsH (K:PySem.W.Frag) (t:Adr) (a:Addr) (F:Addr->Prop) (x:HSt) (H:Hp) (C:Addr) (fs:List (Str×V)) (E:XK):Prop:=
 ∀(ea:Addr) (od:Option Addr) (H':Hp) (F':Addr->Prop),Ew H' ea od C fs->HoA K t H' a F' x->Fr F F' H H'->E (.ref ea) od H'
def rC (K:PySem.W.Frag) (t:Adr):Sp:=λvs H Q E=>∃(a:Addr) (k:Int) (F:Addr->Prop) (x:HSt),vs=[.ref a,.int k]/\HoA K t H a F x/\0<=k/\x.now+x.ma<4000/\
 ((aO x.st.kv k).isSome=true->∀(H':Hp) (F':Addr->Prop) (ks':List Int) (r q:Addr) (pa':List Pk),HoA K t H' a F' {x with now:=x.now+1,st:=x.st.drop k,ks:=ks',di:=x.di++ [(r,[.str "drop",.int k])],pa:=pa'}->Noted x.pa pa' k ⟨q,x.now+1,.non⟩->Fr F F' H H'->Q (.int (x.now+1)) H')/\
 (aO x.st.kv k=none->False)
theorem ko (T:Txt K mg t):aV P w K mg base CX0 6 t.mn t.iO ["self","key"] (rC K t):=by
 refine T.E5.okl rT λ_ _ _ s H vs Q E hr h=>?_;intro X;obtain⟨a,k,F,x,rfl,A,k0,l1,q,qx⟩:=h;refine aj (aS (aK (aD (pv 0) rfl) T.ax T.EB (sG T) hr.mo T.EK .nil ay (ae (pv 1) ah)))
   (aj (aS (aK (aD (pv 0) rfl) T.aI T.AL (mQ T) hr.mo T.Bl .nil ay (ae (pv 1) ah)))
   (aH (aG (aK (pv 0) T.au T.uH (kq T) hr.mo T.uR .nil ay (ae (eB (ae bI (ae (pv 1) ah))) (ae j7 ah)))) ?_))
 intros
 have kl:=A.klen;obtain⟨s,l,wr,p,h,Fs,Fl,B,O,g⟩:=A;have n0:=O.n0;have m0:=O.m0;have sl:=O.sl;obtain⟨dx,ho⟩:=B.o.ob;obtain⟨ds,fs,hs,hm⟩:=B.sl.ins
 (try dsimp only)
 refine⟨_,rfl,a,_,dx,_,_,rfl,ho,T.au,T.br,pJ,s,ds,fs,rfl,hs,hm _ (by decide+kernel),_,rfl,s,k,Fs,x.st,rfl,B.sl,k0,λev=>⟨by lia,λH1 I S1 f1=>?_⟩,λhn=>(qx hn).elim⟩
 .obtain⟨Z,g1⟩:=B.slots S1 f1;obtain⟨a0,a1⟩:=Z.o.ob;obtain⟨dl,fl,hl,a2⟩:=Z.lv.ins;refine⟨_,rfl,a,_,a0,_,_,rfl,a1,T.au,T.cY,xc,l,dl,fl,rfl,hl,a2 _ (by decide+kernel),_,rfl,l,k,Fl,x.ks,rfl,Z.lv,by lia,λ_ H2 U Y L2 mem f2=>?_,λz=>absurd ((O.ks k).mpr ev) z⟩;obtain⟨B3,g3⟩:=Z.leaves L2 f2;obtain⟨a3,a4⟩:=B3.o.ob;refine⟨_,rfl,a,a3,_,rfl,a4,AV (by decide+kernel),_,rfl,(by show 2<=sizeLine;decide),λr nr=>?_⟩;have s4:=am (o:= .tup [.str "drop",.int k]) nr;have ht:upd H2 r (.tup [.str "drop",.int k]) r=some (.tup [.str "drop",.int k]):=ai;have B4:HoB K t (upd H2 r (.tup [.str "drop",.int k])) a s l wr p h I U _:=B3.keep (λb hb=>by
   obtain⟨o,e,_⟩:=B3.dom hb;rw[e];exact s4 _ _ e) λb xs e=>s4 _ _ e
  have g4:=(g1.trans g3).trans (Fr.of_same s4);generalize upd H2 r (.tup [.str "drop",.int k])=H4 at B4 ht g4⊢;have dl:=O.dl;have pl:=O.pl;have el:=O.el k;refine⟨a,s,l,wr,p,h,r,k,_,.non,_,rfl,B4.o,ht,rfl,by show x.di.length<50000;lia,by show x.pa.length<50000;lia,by show(bB x.pa k).length<50000;lia,λH5 pa' y O5 N f5=>?_⟩;obtain⟨B5,g5⟩:=B4.own O5 rfl rfl f5;obtain⟨N1,N2⟩:=O.noted N;have ek:(x.st.drop k).kv=bE x.st.kv k:=SSt.three_kv;refine q ev H5 (HoF a wr p h I U pa') Y r y pa' ⟨s,l,wr,p,h,I,U,B5,⟨λz=>?_,by show 0<=x.now+1;lia,m0,?_,N1,N2,?_,O.hn,O.hv1,O.fb1,O.up1 N rfl⟩,λ_=>Iff.rfl⟩ N ?_
  .show z∈Y↔(aO (x.st.drop k).kv z).isSome=true;rw[mem,ek,dj,O.ks];by_cases c:z=k
   .rw[if_pos c];exact⟨λy=>absurd c y.1,λy=>by cases y⟩
   .rw[if_neg c];exact⟨λy=>y.2,λy=>⟨c,y⟩⟩
  .show((x.di++ [(r,_)]).length:Int)=x.now+1+x.ma;rw[Qd,QY];lia
  .show((x.st.drop k).kv.length:Int)<=x.now+1;rw[ek];have:(bE x.st.kv k).length<=x.st.kv.length:=QF _ _;lia
  .exact λb o n e=>(g4.trans g5) b o (λz=>n ((g b).mpr z)) e
theorem DH {z:List (Int×V)} {p:Int×V} (h:p∈bj z m v):p∈z\/p=(m,v):=by
 unfold bj at h;split at h
 .obtain⟨q,hq,rfl⟩:=Q7.mp h;by_cases c:q.1=m
  .rw[if_pos c,<-c];exact .inr rfl
  .rw[if_neg c];exact .inl hq
 .rcases Q5.mp h with h|h
  .exact .inl h
  .exact .inr (Qa.mp h)
def rB (K:PySem.W.Frag) (t:Adr):Sp:=λvs H Q _=>∃(a:Addr) (F:Addr->Prop) (x:HSt),vs=[.ref a]/\HoA K t H a F x/\x.ho.length<4000/\
 ∀(H':Hp) (l:Addr) (ms:List Int),Same H H'->H l=none->H' l=some (.lst (ms.map V.int))->ms.Perm (x.ho.map (·.1))->ms.Pairwise (· <= ·)->Q (.ref l) H'
theorem sK (T:Txt K mg t):aV P w K mg base CX0 1 t.mj t.iN ["self"] (rB K t):=by
 refine T.E4.okl rS λ_ _ _ s H vs Q E I h=>?_;intro X;obtain⟨a,F,x,rfl,A,l1,q⟩:=h;refine⟨_,(aA (aG (av (xo I.hd) (by rfl) T.fQ dt (ae (aD (pv 0) rfl) ah))))
  ,?_⟩
 obtain⟨s,l,wr,p,h,Fs,Fl,B,O,g⟩:=A;obtain⟨dx,U⟩:=B.o.ob;exact⟨_,rfl,a,_,dx,_,_,rfl,U,T.au,T.pD,HP,h,_,x.ho.map (·.1),rfl,.inl B.o.ho,i4,λl ms z Y pw=>q _ l ms (am z) z ai Y pw⟩
def zA (K:PySem.W.Frag):Sp:=λvs H Q _=>∃(e C:Addr) (bm:List Value) (x:V),vs=[.ref e,x]/\H e=some (XN e C none)/\XCls K C bm/\NoAttr K C "moment"/\∀dx,H dx=none->Q .non (upd (upd H dx (.xd [("moment",x)])) e (XN e C (some dx)))
def nB (K:PySem.W.Frag):Sp:=zA K
theorem nP (T:Txt K mg t):aV P w K mg base CX0 1 t.eK t.eF ["self","moment"] (nB K):=by
 refine T.CK.okl nI λ_ _ _ s H vs Q E O h=>?_;intro X;obtain⟨e,C,bm,x,rfl,he,Y,z,k⟩:=h;refine aj (aS (AA (by rfl) T.wQ T.nR (ae (pv 0) (ae bI ah))))
   (aH (Ay (pv 0) (pv 1) rfl) ?_)
 intros
 exact⟨_,rfl,e,C,none,_,bm,rfl,(by show 1<=1000;decide),he,Y,_,rfl,_,rfl,e,C,bm,rfl,he,Y,z,λdx I=>k dx I⟩
theorem vd {E U:XK} {x:V} (Y:XCls K C bm) (Z:NoAttr K C "moment") (r:∀(ea:Addr) (od:Option Addr) (H':Hp),Ew H' ea od C [("moment",x)]->Same H H'->E (.ref ea) od H') {D:lq} (hi:σ[i]?=some (some x)):
  zH K (C5 C (zA K) [] U (C6 (C2 i) C4)) E D σ H:=by
 refine⟨x,hi,(by show 1<=1000;decide),λea z=>⟨ea,C,bm,x,rfl,ai,Y,Z,λdx I=>⟨rfl,ea,C,some dx,bm,rfl,ai,Y,?_⟩⟩⟩;rw[bM];have O:dx≠ea:=(ao ai I).symm;have nH:H dx=none:=by rw[ag O]at I;exact I
 refine r ea (some dx) _ ⟨ai,.inr ⟨dx,rfl,by rw[ag O,ai]⟩⟩ λb o q=>?_;rw[ag (ao q z),ag (ao q nH),ag (ao q z)];exact q
theorem Ed {f:α->V} {ms:List α} {g:Int} (h:0<=g):ox (ms.map f) (some g) none=(ms.drop g.toNat).map f:=by
 unfold ox HT.sIx;dsimp only;rw[if_neg (by lia),Xx];rcases Nat.le_total g.toNat (ms.map f).length with c|c
 .rw[Nat.min_eq_left c];exact Qr (by rw[QD];lia)
 .rw[Nat.min_eq_right c,List.drop_of_length_le c,List.drop_of_length_le (Q4 _),List.take_nil]
def qg (K:PySem.W.Frag) (t:Adr):Sp:=λvs H Q _=>∃(a:Addr) (lo:Int) (F:Addr->Prop) (x:HSt),vs=[.ref a,.int lo]/\HoA K t H a F x/\0<=lo/\
 ∀(H':Hp) (r:Addr),Same H H'->H r=none->H' r=some (.lst ((x.di.drop lo.toNat).map λe=>V.ref e.1))->Q (.ref r) H'
theorem qu (T:Txt K mg t):aV P w K mg base CX0 1 t.kO t.dU ["self","low"] (qg K t):=by
 refine T.Ev.ok qm (λvs H Q E h=>?_) (λI A outer s H vs Q E Z h=>?_)
 .obtain⟨a,lo,F,x,rfl,_⟩:=h;rfl
 .obtain⟨a,lo,F,x,rfl,A,U,q⟩:=h;refine⟨_,(aA (aG (dG gI (aD (pv 0) rfl) (fA (av (pR rfl) (by rfl) T.Gi Ag (ae (pv 1) (ae aq ah)))) fB)))
   ,?_⟩
  obtain⟨s,l,wr,p,h,Fs,Fl,B,O,g⟩:=A;obtain⟨dx,Y⟩:=B.o.ob;refine⟨_,rfl,a,_,dx,_,_,rfl,Y,T.au,T.iX,DZ,?_⟩;have e0:(if(0:Int)>lo then(0:Int)else lo)=lo:=if_neg (by lia);refine⟨_,rfl,_,_,rfl,lo,by rw[e0],wr,_,rfl,SqL.of B.o.wr,λr z=>q _ r (am z) z ?_⟩;rw[ai,Ed U]
theorem HoA.di {x:HSt} (A:HoA K t H a F x):∀e∈x.di,H e.1=some (.tup e.2):=by
 obtain⟨s,l,wr,p,h,Fs,Fl,B,O,g⟩:=A;exact B.o.dr
def qc (K:PySem.W.Frag):Sp:=zA K
theorem qq (T:Txt K mg t):aV P w K mg base CX0 1 t.gE t.gw ["self","moment"] (qc K):=by
 refine T.Er.okl qi λ_ _ _ s H vs Q E O h=>?_;intro X;obtain⟨e,C,bm,x,rfl,he,Y,z,k⟩:=h;refine aj (aS (AA (by rfl) T.wQ T.nR (ae (pv 0) (ae bI ah))))
   (aH (Ay (pv 0) (pv 1) rfl) ?_)
 intros
 exact⟨_,rfl,e,C,none,_,bm,rfl,(by show 1<=1000;decide),he,Y,_,rfl,_,rfl,e,C,bm,rfl,he,Y,z,λdx I=>k dx I⟩
def VtR (t:Adr) (H:Hp) (a:Addr) (pa:List Pk):Prop:=∃(dx p:Addr) (fs:List (Str×V)),H a=some (.ins t.az dx fs)/\fs.lookup ("past":Str)=some (.ref p)/\(∀m,NoH m->fs.lookup m=none)/\Rd H p (.dK (aN (paD pa)))/\∀e∈pa,MkA t H e.m e.l e.es
theorem HoA.vt {x:HSt} (A:HoA K t H a F x):VtR t H a x.pa:=by
 obtain⟨s,l,wr,p,h,Fs,Fl,B,O,g⟩:=A;obtain⟨dx,z⟩:=B.o.ob;exact⟨dx,p,_,z,tj,λm I=>AV I,.inl B.o.pa,B.o.mx⟩
def jV (t:Adr):Sp:=λvs H Q _=>∃(a:Addr) (k mo:Int) (pa:List Pk),vs=[.ref a,.int k,.int mo]/\VtR t H a pa/\Q (cu (bB pa k) mo) H
theorem eV (T:Txt K mg t):aV P w K mg base CX0 2 t.fv t.cS ["self","key","moment"] (jV t):=by
 refine T.zf.okl jW λ_ _ _ s H vs Q E z h=>?_;intro X;obtain⟨a,k,mo,pa,rfl,⟨dx,p,fs,O,fp,_,U,Y⟩,q⟩:=h;refine⟨_,(aA (aG (si (wD (zM (fq z) (pv 1) (aD (pv 0) rfl))) (aK (gO (fq z) (aD (pv 0) rfl) (pv 1) (λ_ _=>rfl)) T.i7 T.AJ (mO T) z.mo T.Bj .nil ay (ae (pv 2) ah)) j7)))
  ,?_⟩
 have dg:DGet H p (.int k) (aO (aN (paD pa)) (Sum.inl k)):= .inl ⟨_,Sum.inl k,U,rfl,rfl⟩;refine⟨_,rfl,_,rfl,a,_,dx,_,_,rfl,O,T.au,T.b6,fp,p,_,rfl,dg,_,rfl,?_⟩;rw[liftK_val]at dg⊢;rcases nN pa k with⟨I,n⟩|⟨e,he,ek,I,Z⟩
 .rw[fP n]at q;rw[I];exact cq q
 .rw[Z]at q;rw[I]at dg⊢;have M:=Y e he;obtain⟨dm,hm⟩:=M.ob;exact dM ⟨_,rfl,a,_,dx,_,_,rfl,O,T.au,T.b6,fp,_,rfl,p,_,rfl,dg,e.m,dm,_,rfl,hm,bg (by decide+kernel),_,rfl,e.m,e.l,e.es,mo,rfl,M,q⟩
def gZ (K:PySem.W.Frag) (t:Adr):Sp:=λvs H Q E=>∃(a:Addr) (mo:Int) (F:Addr->Prop) (x:HSt),vs=[.ref a,.int mo]/\HoA K t H a F x/\(x.fl<=mo->mo<=x.now->Q .non H)/\(mo<x.fl->RsH K t a F x H t.i9 [("moment",.int mo)] E)/\(x.fl<=mo->x.now<mo->RsH K t a F x H t.eI [("moment",.int mo)] E)
theorem cW (T:Txt K mg t):aV P w K mg base (CX1 P w) 3 t.du t.bR ["self","moment"] (gZ K t):=by
 refine T.v9.okX g7 (λvs H Q E h=>?_) (λI A outer s H vs Q E z h=>?_)
 .obtain⟨a,mo,F,x,rfl,_⟩:=h;rfl
 .obtain⟨a,mo,F,x,rfl,A,q,O,U⟩:=h;refine dn (λx=>aZ (aE fg (pv 1) (aD (pv 0) rfl) (aL _)) x aP) ?_;refine aH (gf rfl jg (yg T.Bw T.HI T.HJ (qq T) z.mo (by rfl) T.Ip T.Ej .nil ay (ae (pv 1) ah))) ?_
  intros
  refine vj (λx=>aZ (aE AD (pv 1) (aD (pv 0) rfl) (aL _)) x aP) ?_;refine aH (gf rfl jg (yg T.xM T.FJ T.FK (nP T) z.mo (by rfl) T.Gy T.CB .nil ay (ae (pv 1) ah))) ?_
  intros
  obtain⟨dx,fs,hi,Z,Y,hf⟩:=A.ins;refine⟨_,rfl,_,rfl,a,_,dx,fs,_,rfl,hi,T.au,T.kr,hf,_,_,rfl,rfl,_,rfl,?_⟩;by_cases c:mo<x.fl
  .refine i5 c ?_;exact vd T.Bw T.B6 (λea od H' ex s'=>O c ea od H' F ex (A.same s') (Fr.of_same s')) rfl
  .refine bL c ?_;refine⟨_,rfl,_,rfl,a,_,dx,fs,_,rfl,hi,T.au,T.dI,Y,_,_,rfl,rfl,_,rfl,?_⟩;by_cases d:x.now<mo
   .refine i5 d ?_;exact vd T.xM T.zV (λea od H' ex s'=>U (by lia) d ea od H' F ex (A.same s') (Fr.of_same s')) rfl
   .exact bL d (q (by lia) (by lia))
def ui (K:PySem.W.Frag) (t:Adr):Sp:=λvs H Q E=>∃(a:Addr) (k mo:Int) (F:Addr->Prop) (x:HSt),vs=[.ref a,.int k,.int mo]/\HoA K t H a F x/\(x.fl<=mo->mo<=x.now->Q (cu (bB x.pa k) mo) H)/\(mo<x.fl->RsH K t a F x H t.i9 [("moment",.int mo)] E)/\(x.fl<=mo->x.now<mo->RsH K t a F x H t.eI [("moment",.int mo)] E)
theorem uC (T:Txt K mg t):aV P w K mg base (CX1 P w) 4 t.oN t.jJ ["self","key","moment"] (ui K t):=by
 refine T.Ge.okX ut (λvs H Q E h=>?_) (λO A outer s H vs Q E z h=>?_)
 .obtain⟨a,k,mo,F,x,rfl,_⟩:=h;rfl
 .obtain⟨a,k,mo,F,x,rfl,A,q,U,Y⟩:=h;refine aj (aS (aK (pv 0) T.au T.iY (cW T) z.mo T.jc .nil AB (ae (pv 2) ah)))
    (aH (aG (aK (pv 0) T.au T.fo (eV T) z.mo T.ft .nil ay (ae (pv 1) (ae (pv 2) ah)))) ?_)
  intros
  obtain⟨dx,fs,hi,I,_⟩:=A.ins;refine⟨_,rfl,a,dx,fs,rfl,hi,I _ (by decide+kernel),_,rfl,a,mo,F,x,rfl,A,λZ g2=>?_,U,Y⟩;exact⟨_,rfl,a,dx,fs,rfl,hi,I _ (by decide+kernel),_,rfl,_,rfl,a,k,mo,x.pa,rfl,A.vt,q Z g2⟩
theorem Em (k0:∀k∈ks,0<=k):(ks.filter λz=>decide ((0:Int)<=z)).take n=ks.take n:=by
 rw[Xw.mpr λz hz=>decide_eq_true (k0 z hz)]
def wf (K:PySem.W.Frag) (t:Adr):Sp:=λvs H Q _=>∃(l p:Addr) (F:Addr->Prop) (ks:List Int),vs=[.ref l,.ref p,.int 101]/\LvA K t H l F ks/\TkU t H p/\ks.length<=3000/\(∀k∈ks,0<=k)/\
 ∀(H':Hp) (r:Addr),Same H H'->H r=none->H' r=some (.lst ((ks.take 101).map V.int))->Q (.ref r) H'
theorem wJ (T:Txt K mg t):aV P w K mg base CX0 3 t.p5 t.kB ["leaves","token","most"] (wf K t):=by
 refine T.y6.okl wq λ_ _ _ s H vs Q E z h=>?_;intro X;obtain⟨l,p,F,ks,rfl,L,⟨dx,fs,hp,I,Y,_⟩,l1,k0,q⟩:=h;refine dn (λx=>aZ (b9 (av (jN K rfl) (by rfl) T.bV bC (ae (pv 1) (ae (cm (v:= .ref t.i8) (by rfl) T.DB rfl) ah)))) x aP) ?_;refine aH (aG (aK (pv 0) T.aI T.gQ (c8 T) z.mo T.gS .nil ay (ae (aD (pv 1) rfl) (ae (pv 2) ah)))) ?_
 intros
 refine aH gN ?_
 intros
 obtain⟨dl,fl,hl,O⟩:=L.ins;exact⟨_,rfl,_,_,_,_,rfl,TyOf.ins hp T.tL T.qN.1 T.qN.2 T.qN.3 T.qN.4,T.DV,_,rfl,dM ⟨_,rfl,l,dl,fl,rfl,hl,O _ (by decide+kernel),_,rfl,p,_,dx,fs,_,rfl,hp,T.tL,T.yq,I,_,rfl,l,0,101,F,ks,rfl,L,by lia,by decide,λH' r s U z=>q H' r s U (by rw[Em k0]at z;exact z)⟩⟩
theorem xb {xs:List Int} {x:V} (h:(xs.map V.int)[i]?=some x):∃k:Int,x= .int k/\xs[i]?=some k:=by
 rw[Qc]at h;cases e:xs[i]? with
 |none=>rw[e]at h;cases h
 |some k=>rw[e]at h;cases h;exact⟨k,rfl,rfl⟩
theorem TkU.same (h:TkU t H p) (s:Same H H'):TkU t H' p:=by
 obtain⟨dx,fs,hp,r⟩:=h;exact⟨dx,fs,s _ _ hp,r⟩
def qa (t:Adr):Sp:=λvs H Q _=>∃(p:Addr) (k:Int),vs=[.ref p,.int k]/\TkU t H p/\0<=k/\∀(H':Hp) (r:Addr),Same H H'->Q (.ref r) H'
theorem qo (T:Txt K mg t):aV P w K mg base CX0 5 t.kJ t.gs ["token","key"] (qa t):=by
 refine T.tX.okl qh λ_ _ _ s H vs Q E O h=>?_;intro X;obtain⟨p,k,rfl,⟨dx,fs,hp,fa,U,_⟩,k0,q⟩:=h;refine dn (λx=>aZ (b9 (av (jN K rfl) (by rfl) T.bV bC (ae (pv 0) (ae (cm (v:= .ref t.i8) (by rfl) T.DB rfl) ah)))) x aP) ?_;refine aH (aG (Fx T.IY (pW T) O.mo (by rfl) T.DB T.Ih .nil ay (ae (aR bJ (pv 1) aq) (ae (aD (pv 0) rfl) ah)))) ?_
 intros
 refine aH gN ?_
 intros
 refine⟨_,rfl,_,_,_,_,rfl,TyOf.ins hp T.tL T.qN.1 T.qN.2 T.qN.3 T.qN.4,T.DV,_,rfl,dM ⟨_,rfl,_,_,rfl,rfl,_,rfl,p,_,dx,fs,_,rfl,hp,T.tL,T.vm,U,λr Y I Z ne=>?_⟩⟩;exact⟨r,Y,k+1,rfl,by lia,ai,λH' kp _=>⟨rfl,q H' r λb o e=>kp b o (λz=>by rw[z,I]at e;cases e) (by rw[ag (λz=>by rw[z,I]at e;cases e),ag (λz=>by rw[z,Z]at e;cases e)];exact e)⟩⟩
def qb (K:PySem.W.Frag) (t:Adr):Sp:=λvs H Q _=>∃(l p:Addr) (F:Addr->Prop) (ks:List Int),vs=[.ref l,.ref p,.int 100]/\LvA K t H l F ks/\TkU t H p/\ks.length<=3000/\(∀k∈ks,0<=k)/\
 ∀(H':Hp) (r g:Addr) (v:V),Same H H'->H r=none->H' r=some (.tup [.ref g,v])->H' g=some (.lst ((ks.take 100).map V.int))->Q (.ref r) H'
theorem qp (T:Txt K mg t):aV P w K mg base CX0 6 t.kK t.gu ["leaves","token","many"] (qb K t):=by
 refine T.tY.okl sc_keys_of_page λ_ _ _ s H vs Q E hr h=>?_;intro X;obtain⟨l,p,F,ks,rfl,L,TK,l1,k0,q⟩:=h;refine aj (aJ (i:=3) sc_keys_of_page.nd rfl (Or.inl rfl) (av (pR rfl) (by rfl) T.Gi Ag (ae (pv 2) (ae aq ah))))
   (aj (Dl (i:=4) rfl (CScope.of (M:=["key"]) (N:=["leaves","token","many","most","held","page"]) (N':=["leaves","token","many","most","held","page"]) (dsc:=ak dz) rfl rfl (by decide+kernel)) (bN (aQ (wJ T) hr.mo (by rfl) T.GA T.y6.kp T.GH .nil ay (ae (pv 0) (ae (pv 1) (ae (aR bJ (pv 3) aq) ah))))) (λ_ _ _ _ _=>(b9 (aK (pv 2) T.tL T.Gz (wM T) hr.mo T.GK .nil ay (ae (pv 0) ah)))) (λ_ _ _ _ _=>(pv 0)) sc_keys_of_page.nd rfl rfl)
   (aj (aJ (i:=5) sc_keys_of_page.nd rfl (Or.inl rfl) (dG gI (pv 4) fB (fA (pv 3))))
   (aj (aZ (aE gP (av aC (by rfl) T.bx a7 (ae (pv 4) ah)) (av aC (by rfl) T.bx a7 (ae (pv 5) ah)) (aL _))
    (aA (aG (eB (ae (pv 5) (ae j7 ah)))))
    aP)
   (aj (aZ (aE gP (av aC (by rfl) T.bx a7 (ae (pv 5) ah)) aq (aL _))
    (aA gN)
    aP)
   (aH (aG (eB (ae (pv 5) (ae (aQ (qo T) hr.mo (by rfl) T.DL T.tX.kp T.Eh .nil ay (ae (pv 1) (ae (bf aX (pv 5) (Dn zk aq) (λ_ _=>rfl)) ah))) ah)))) ?_)))))
 intros
 refine⟨_,rfl,100,0,rfl,_,rfl,_,rfl,_,rfl,_,_,rfl,rfl,l,p,F,ks,rfl,L,TK,l1,k0,λH1 g1 s1 a3 h1=>?_⟩;obtain⟨kt,U⟩:∃kt,ks.take 101=kt:=⟨_,rfl⟩;have a0:ks.take 100=kt.take 100:=by rw[<-U,List.take_take];rfl
 have kl:kt.length<=101:=by rw[<-U,Qe];lia
 have k0:∀k∈kt,0<=k:=λk hk=>k0 k (by rw[<-U]at hk;exact QP hk);rw[U]at h1;rw[a0]at q;refine⟨g1,rfl,⟨_,SqL.of h1⟩,λD hD=>?_⟩;refine jM (K:=K) (a:=g1) (xs:=kt.map V.int) (λi ys H2=>H2=upd H1 D (.lst ys)/\ys=(kt.take i).map V.int) ⟨rfl,rfl⟩ (λi ys H2 _ w=>SqL.of (by rw[w.1,ag (ao h1 hD)];exact h1)) (λi x ys H2 hx w I=>?_) (λys H2 w I=>?_)
 .obtain⟨s2,ey⟩:=w;have hi:i<(kt.map V.int).length:=(Q2.mp hx).1;obtain⟨g,rfl,eg⟩:=xb hx;have T2:TkU t H2 p:=by rw[s2];exact TK.same (s1.trans (am hD))
  obtain⟨dx,fs,hp,fa,fe,fh⟩:=id T2;refine⟨_,rfl,p,dx,fs,rfl,hp,fh,_,rfl,p,g,rfl,T2,k0 g (Q1 eg),_,rfl,dM ⟨_,rfl,CNext.mk hi I (bi (by rw[ey,Q0,Qe];lia)) ⟨by rw[s2,bM],by rw[ey,Qn,eg,Q9];rfl⟩⟩⟩
 .obtain⟨s2,ey⟩:=w;rw[Q0,Qz]at ey;have S2:Same H H2:=by rw[s2];exact s1.trans (am hD)
  rw[ey]at I;refine⟨_,rfl,_,rfl,100,rfl,D,_,rfl,SqL.of I,λO a1=>?_⟩;rw[kH (by decide),<-Zh,show(100:Int).toNat=100 from rfl];have s3:Same H2 (upd H2 O (.lst ((kt.take 100).map V.int))):=am a1;have Y:upd H2 O (.lst ((kt.take 100).map V.int)) O=some (.lst ((kt.take 100).map V.int)):=ai
  (try dsimp only)
  generalize upd H2 O (.lst ((kt.take 100).map V.int))=H3 at s3 Y⊢;refine⟨_,rfl,D,_,rfl,.inl (SqL.of (s3 _ _ I)),_,rfl,O,_,rfl,.inl (SqL.of Y),rfl,_,rfl,?_⟩;by_cases c:kt.length<=100
  .rw[Qr c]at Y q⊢;refine qv rfl ⟨_,rfl,(by show 2<=sizeLine;decide),λr Z=>?_⟩;have s4:=s3.trans (am (o:= .tup [.ref O,.non]) Z);exact q _ r O .non (S2.trans s4) (AX (S2.trans s3) Z) ai ((am Z) _ _ Y)
  .have lp:(kt.take 100).length=100:=by rw[Qe];lia
   refine bL (λz=>by have:=V.int.inj z;rw[Q0,Q0,lp]at this;lia) ?_;have a2:=TK.same (S2.trans s3);have kp:∀k∈kt.take 100,0<=k:=λk hk=>k0 k (QP hk);generalize kt.take 100=pg at Y q lp kp⊢;have ne:pg≠[]:=λz=>by rw[z]at lp;cases lp
   have pk:pg[pg.length-1]?=some (pg[pg.length-1]'(by lia)):=Q3 _;have k1:0<=pg[pg.length-1]'(by lia):=kp _ (Zr _);refine⟨_,rfl,O,_,rfl,.inl (SqL.of Y),rfl,_,rfl,bL (λz=>by have:=V.int.inj z;rw[Q0,lp]at this;cases this) ?_⟩;refine⟨_,rfl,_,rfl,_,rfl,_,rfl,O,_,_,_,rfl,rfl,SqL.of Y,Bm ne pk,p,_,rfl,a2,k1,λH4 r4 s4=>⟨(by show 2<=sizeLine;decide),λr Z=>?_⟩⟩;have s5:=s3.trans (s4.trans (am (o:= .tup [.ref O,.ref r4]) Z));exact q _ r O (.ref r4) (S2.trans s5) (AX (S2.trans (s3.trans s4)) Z) ai ((s4.trans (am Z)) _ _ Y)
theorem FH {k:Key} (h:(aN kvs)[i]?=some (k,v)):∃g:Int,k=Sum.inl g/\(kvs.map (·.1))[i]?=some g:=by
 unfold aN at h;rw[Qc]at h;rw[Qc];cases e:kvs[i]? with
 |none=>rw[e]at h;cases h
 |some p=>rw[e]at h;cases h;exact⟨p.1,rfl,rfl⟩
theorem MkA.kept {m l:Addr} {kvs:List (Key×V)} (M:MkA t H m l es) (hq:H q=some (.dK kvs)) (I:∀b o,b≠q->H b=some o->H' b=some o):MkA t H' m l es:=by
 have O:∀{b:Addr} {o:HO},H b=some o->(∀x,o≠ .dK x)->b≠q:=λe n z=>by rw[z,hq]at e;exact n _ (Option.some.inj e).symm
 obtain⟨dx,U⟩:=M.ob;exact⟨⟨dx,I _ _ (O U λ_ z=>by cases z) U⟩,I _ _ (O M.li λ_ z=>by cases z) M.li,λe he=>I _ _ (O (M.tu e he) λ_ z=>by cases z) (M.tu e he)⟩
def nC (K:PySem.W.Frag) (t:Adr):Sp:=λvs H Q _=>∃(a p:Addr) (mo:Int) (F:Addr->Prop) (x:HSt),vs=[.ref a,.int mo,.ref p,.int 100]/\HoA K t H a F x/\TkU t H p/\x.fl<=mo/\mo<=x.now/\x.pa.length<=2900/\(x.pa.map (·.k)).Nodup/\(∀e∈x.pa,0<=e.k)/\
 ∀(H':Hp) (r g:Addr) (v:V) (ts:List Tp) (ks:List Int),Same H H'->H' r=some (.tup [.ref g,v])->H' g=some (.lst (ts.map λe=>V.ref e.p))->(∀e∈ts,H' e.p=some (.tup [.int e.k,e.v])/\e.v=cu (bB x.pa e.k) mo)->bK ks->(∀z,z∈ks↔z∈x.pa.map (·.k)/\cu (bB x.pa z) mo≠ .non)->ts.map (·.k)=ks.take 100->Q (.ref r) H'
theorem nQ (T:Txt K mg t):aV P w K mg base (CX1 P w) 7 t.je t.cH ["self","moment","token","many"] (nC K t):=by
 refine T.CL.okX sc_House__page_at (λvs H Q E h=>?_) (λb8 A outer s H vs Q E hr h=>?_)
 .obtain⟨a,p,mo,F,x,rfl,_⟩:=h;rfl
 .obtain⟨a,p,mo,F,x,rfl,A,TK,m1,m2,lp,nd,k0,q⟩:=h;refine aj (aS (aK (pv 0) T.au T.iY (cW T) hr.mo T.jc .nil AB (ae (pv 1) ah)))
    (aj (aJ (i:=4) sc_House__page_at.nd rfl (Or.inl rfl) (eU T.Ca (jO T) hr.mo (by rfl) T.Cb T.tP .nil ay))
    (dn (λx=>(wE (eh PassesOwn.leaving rfl (Fw (aD (pv 0) rfl)) (bO (i:=5) sc_House__page_at.nd rfl (Or.inl rfl))
     x))) ?_))
  refine aH (aZ (aE AC (aK (pv 0) T.au T.fo (eV T) hr.mo T.ft .nil ay (ae (pv 5) (ae (pv 1) ah))) j7 (aL _))
   (aA (aS (aK (pv 4) T.aI T.uF (kj T) hr.mo T.uO .nil ay (ae (pv 5) ah))))
   aP) ?_
  intros
  refine aj (aJ (i:=6) sc_House__page_at.nd rfl (Or.inl rfl) (aQ (qp T) hr.mo (by rfl) T.DM T.tY.kp T.Ei .nil ay (ae (pv 4) (ae (pv 2) (ae (pv 3) ah)))))
    (aH (aG (eB (ae (fE rfl (CScope.of (M:=["key"]) (N:=["self","moment","token","many","then","key","page"]) (N':=["self","moment","token","many","then","","page"]) (dsc:=ak cz) rfl rfl (by decide+kernel)) (bN (bf kA (pv 6) aq (λ_ _=>rfl))) (λ_ _ _ _ _=>(eB (ae (pv 0) (ae (aK (pv 1) T.au T.fo (eV T) hr.mo T.ft .nil ay (ae (pv 0) (ae (pv 2) ah))) ah))))) (ae (bf kA (pv 6) aq (λ_ _=>rfl)) ah)))) ?_)
  intros
  obtain⟨dx,fs,hi,hm,hn,hf⟩:=A.ins;refine⟨_,rfl,a,dx,fs,rfl,hi,hm _ (by decide+kernel),_,rfl,a,mo,F,x,rfl,A,λ_ _=>?_,λz=>absurd z (by lia),λ_ z=>absurd z (by lia)⟩;refine λl dl nl a1 a2=>⟨l,dl,rfl,ai,?_,λH1 F1 L1 f1=>⟨rfl,?_⟩⟩
  .rw[ag (by first|exact a2|exact Ne.symm a2),ai]
  have o1:∀b o,H b=some o->H1 b=some o/\¬F1 b:=λb o e=>f1 b o (λz=>z.elim (λz=>by rw[z,nl]at e;cases e) λz=>by rw[z,a1]at e;cases e) (by rw[ag (ao e nl),ag (ao e a1)];exact e);obtain⟨pp,hp,fp,mx⟩:∃pp,H pp=some (.dK (aN (paD x.pa)))/\fs.lookup ("past":Str)=some (.ref pp)/\∀e∈x.pa,MkA t H e.m e.l e.es:=by
   obtain⟨s,l,wr,pp,h,Fs,Fl,B,O,g⟩:=A;obtain⟨dy,ho⟩:=B.o.ob;rw[hi]at ho;cases ho;exact⟨pp,B.o.pa,tj,B.o.mx⟩
  have ap:a≠pp:=λz=>by rw[z,hp]at hi;cases hi
  have kk:(paD x.pa).map (·.1)=x.pa.map (·.k):=by unfold paD;rw[Qq];rfl
  have vt:∀{H':Hp} {ob:Obj},H' pp=some (.frz ob (.dK (aN (paD x.pa))))->(∀b o,b≠pp->H b=some o->H' b=some o)->VtR t H' a x.pa:=λh1 kp=>⟨dx,pp,fs,kp _ _ ap hi,fp,hm,.inr ⟨_,h1⟩,λe he=>(mx e he).kept hp kp⟩;obtain⟨a3,a4⟩:=o1 _ _ hp;refine⟨pp,_,a3,_,rfl,a,_,dx,fs,_,rfl,(o1 _ _ hi).1,T.au,T.b6,fp,pp,_,rfl,a3,λob=>Cr (ob:=ob) (d:=pp) (kvs:=aN (paD x.pa)) (λi σ H'=>∃(F':Addr->Prop) (ks:List Int) (v5:Option V),σ=[some (.ref a),some (.int mo),some (.ref p),some (.int 100),some (.ref l),v5,none]/\H' pp=some (.frz ob (.dK (aN (paD x.pa))))/\¬F' pp/\LvA K t H' l F' ks/\(∀b o,b≠pp->H b=some o->H' b=some o/\¬F' b)/\∀z,z∈ks↔z∈(x.pa.map (·.k)).take i/\cu (bB x.pa z) mo≠ .non) ⟨F1,[],none,rfl,ai,a4,L1.upd a4,λb o n e=>⟨by rw[ag n];exact(o1 b o e).1,(o1 b o e).2⟩,λz=>by rw[List.take_zero];exact⟨λh=>by(cases h),λh=>by(cases h.1)⟩⟩ (λi σ H' _ w=>by obtain⟨_,_,_,_,h,_⟩:=w;exact h) (λi k v σ H' hk w=>?_) (λσ H' w=>?_)⟩
  .obtain⟨F',ks,v5,rfl,U,Y,L',o',I⟩:=w;obtain⟨g,rfl,eg⟩:=FH hk;rw[kk]at eg;obtain⟨hi',_⟩:=o' _ _ ap hi;have lk:ks.length<=2900:=by
    have:=iW (L'.rise.imp λh=>ZR h) (S:=x.pa.map (·.k)) λz hz=>QP ((I z).mp hz).1;rw[Q0]at this;lia
   have tk:∀z,z∈(x.pa.map (·.k)).take (i+1)↔z∈(x.pa.map (·.k)).take i\/z=g:=λz=>by
    rw[Qn,eg,Q5];exact or_congr Iff.rfl Qa
   refine⟨_,rfl,a,dx,fs,rfl,hi',hm _ (by decide+kernel),_,rfl,_,rfl,a,g,mo,x.pa,rfl,vt U λb o n e=>(o' b o n e).1,rfl,_,rfl,?_⟩;by_cases c:cu (bB x.pa g) mo= .non
   .rw[decide_eq_true c];refine cq ⟨F',ks,_,rfl,U,Y,L',o',λz=>?_⟩;rw[I,tk];constructor
    .rintro ⟨h1,h2⟩;exact⟨.inl h1,h2⟩
    .rintro ⟨h1|rfl,h2⟩
     .exact⟨h1,h2⟩
     .exact absurd c h2
   .rw[decide_eq_false c];obtain⟨ac,af,al,an⟩:=L'.ins;have aw:g∉ks:=λz=>by
     have h1:=((I g).mp z).1;obtain⟨j,hj,ej⟩:=QJ h1;rw[Qe]at hj;rw[ZA]at ej;obtain⟨gi,ge⟩:=Q2.mp eg;have:=ZL.mp nd j i (by lia) gi (by lia);exact this (ej.trans ge.symm)
    refine dM ⟨_,rfl,l,ac,af,rfl,al,an _ (by decide+kernel),_,rfl,l,g,F',ks,rfl,L',by lia,λ_ H2 F2 ax L2 a5 f2=>⟨F2,ax,_,rfl,(f2 _ _ Y U).1,(f2 _ _ Y U).2,L2,λb o n e=>f2 b o (o' b o n e).2 (o' b o n e).1,λz=>?_⟩,λz=>absurd z aw⟩;rw[a5,I,tk];constructor
    .rintro (rfl|⟨h1,h2⟩)
     .exact⟨.inr rfl,c⟩
     .exact⟨.inl h1,h2⟩
    .rintro ⟨h1|rfl,h2⟩
     .exact .inr ⟨h1,h2⟩
     .exact .inl rfl
  .obtain⟨F',ks,v5,rfl,U,Y,L',o',I⟩:=w;have ll:(aN (paD x.pa)).length=(x.pa.map (·.k)).length:=by rw[b7,<-kk,Q0]
   rw[ll,Qz]at I;have lk:ks.length<=2900:=by
    have:=iW (L'.rise.imp λh=>ZR h) (S:=x.pa.map (·.k)) λz hz=>((I z).mp hz).1;rw[Q0]at this;lia
   have kz:∀k∈ks,0<=k:=λk hk=>by
    obtain⟨e,he,rfl⟩:=Q7.mp ((I k).mp hk).1;exact k0 e he
   refine⟨ob,U,?_⟩;have sH:Same H (upd H' pp (.dK (aN (paD x.pa)))):=λb o e=>by
    by_cases c:b=pp
    .rw[c,ai,<-hp,<-c];exact e
    .rw[ag c];exact(o' b o c e).1
   have L2:LvA K t (upd H' pp (.dK (aN (paD x.pa)))) l F' ks:=L'.upd Y
   (try dsimp only)
   generalize upd H' pp (.dK (aN (paD x.pa)))=H2 at sH L2⊢;refine⟨_,rfl,_,rfl,_,rfl,l,p,F',ks,rfl,L2,TK.same sH,by lia,kz,λH3 r g v s3 nr hr hg=>?_⟩;obtain⟨kt,a0⟩:∃kt,ks.take 100=kt:=⟨_,rfl⟩;rw[a0]at hg;have bb:kt.length<=100:=by rw[<-a0,Qe];lia
   have aa:=sH.trans s3;have A3:=A.same aa;refine⟨_,rfl,r,_,_,_,rfl,rfl,SqT.of hr,rfl,g,rfl,⟨_,SqL.of hg⟩,λD hD=>?_⟩;refine eG (K:=K) (a:=g) (xs:=kt.map V.int) (λi ys H4=>Same H3 H4/\∃ts:List Tp,ys=ts.map (λe=>V.ref e.p)/\ts.map (·.k)=kt.take i/\∀e∈ts,e.p≠D/\H4 e.p=some (.tup [.int e.k,e.v])/\e.v=cu (bB x.pa e.k) mo) ⟨am hD,[],rfl,rfl,λe he=>absurd he QR⟩ (λi ys H4 _ w=>SqL.of (w.1 _ _ hg)) (λi y ys H4 hy w Z=>?_) (λys H4 w Z=>?_)
   .obtain⟨s4,ts,ey,ek,tu⟩:=w;have az:i<(kt.map V.int).length:=(Q2.mp hy).1;obtain⟨k,rfl,hk⟩:=xb hy;have A4:=A3.same s4;obtain⟨b1,b2,b3,b4,_⟩:=A4.ins;refine⟨_,rfl,_,rfl,a,b1,b2,rfl,b3,b4 _ (by decide+kernel),_,rfl,_,rfl,a,k,mo,x.pa,rfl,A4.vt,(by show 2<=sizeLine;decide),λb nb=>?_⟩;have bD:b≠D:=λz=>by rw[z,Z]at nb;cases nb
    have sb:Same H4 (upd H4 b (.tup [.int k,cu (bB x.pa k) mo])):=am nb;have hb:upd H4 b (.tup [.int k,cu (bB x.pa k) mo]) b=some (.tup [.int k,cu (bB x.pa k) mo]):=ai;generalize upd H4 b (.tup [.int k,cu (bB x.pa k) mo])=H6 at sb hb⊢;have tl:ts.length<=400:=by
     have:=congrArg List.length ek;rw[Q0,Qe]at this;lia
    refine CNext.mk az (sb _ _ Z) (bi (by rw[ey,Q0];lia)) ⟨cU (s4.trans sb) hD,ts++ [⟨b,k,cu (bB x.pa k) mo⟩],by rw[ey,Q9];rfl,by rw[Q9,ek,Qn,hk];rfl,λe he=>?_⟩;rcases Q5.mp he with he|he
    .obtain⟨t0,t1,t3⟩:=tu e he;exact⟨t0,by rw[ag t0];exact sb _ _ t1,t3⟩
    .rw[Qa.mp he];exact⟨bD,by rw[ag bD];exact hb,rfl⟩
   .obtain⟨s4,ts,ey,ek,tu⟩:=w;rw[Q0,Qz]at ek;rw[ey]at Z;refine⟨_,rfl,r,_,_,_,rfl,rfl,SqT.of (s4 _ _ hr),rfl,(by show 2<=sizeLine;decide),λr2 b5=>?_⟩;have s5:=am (o:= .tup [.ref D,v]) b5;exact q _ r2 D v ts ks ((aa.trans s4).trans s5) ai (s5 _ _ Z) (λe he=>⟨s5 _ _ (tu e he).2.1,(tu e he).2.2⟩) L2.rise I (by rw[ek,a0])
def RsT (H:Hp) (C:Addr) (E:XK):Prop:=∀(ea:Addr) (od:Option Addr) (H':Hp),Ew H' ea od C []->Same H H'->E (.ref ea) od H'
theorem fO {E:XK} {H0:Hp} (Y:XCls K C bm) (s:Same H H0) (k:RsT H C E) {D:lq} {x:Str}:zH K (As C (C6 (tC (.str x)) C4)) E D σ H0:=by
 refine⟨(by show 1<=1000;decide),λea z=>⟨ea,C,none,bm,rfl,ai,Y,?_⟩⟩;rw[bM];refine k ea none _ ⟨ai,.inl ⟨rfl,rfl⟩⟩ λb o q=>?_;have q:=s b o q;rw[ag (ao q z)];exact q
def dg (c:Nat):Bool:=decide (c∈sg ("0123456789":Str))
theorem GE {c:Nat} (h:dg c=true):48<=c/\c<=57:=by
 have h:c∈[48,49,50,51,52,53,54,55,56,57]:=of_decide_eq_true h;simp at h;omega (config:={})
theorem FL (c:Nat):(!(Builtin.Str.occurrences ("0123456789":Str) ⟨#[c]⟩ 0 ("0123456789":Str).length 1).isEmpty)=dg c:=StrLaws.found_one _ c
def pS (z:Str):Bool:=(decide (1<=(z.length:Int))&&decide ((z.length:Int)<=60))&&(!(decide ((sg z).head?=some 48)&&decide (z≠("0":Str))))&&(sg z).all dg
def qV:Sp:=λvs H Q _=>∃z:Str,vs=[.str z]/\z.length<=100000/\∀H',Same H H'->Q (.bl (pS z)) H'
theorem str0:("0":Str)=⟨#[48]⟩:=by decide+kernel
theorem strM:("-":Str)=⟨#[45]⟩:=by decide+kernel
theorem Aa:PySem.W.kitOne K (.type "str") (.type "str")=some true/\PySem.W.kitOne K (.type "int") (.type "str")=some false/\PySem.W.kitOne K (.type "NoneType") (.type "str")=some false/\PySem.W.kitOne K (.type "bool") (.type "str")=some false/\PySem.W.kitOne K (.type "list") (.type "str")=some false/\PySem.W.kitOne K (.type "tuple") (.type "str")=some false:=
 ⟨by kernel_rfl,by kernel_rfl,by kernel_rfl,by kernel_rfl,by kernel_rfl,by kernel_rfl⟩
theorem sw (T:Txt K mg t):aV P w K mg base CX0 1 t.lR t.iy ["text"] qV:=by
 obtain⟨Z,O⟩:=T.g_FIGURES;obtain⟨U,I⟩:=T.g_MOST_FIGURES;refine T.uT.okl rH λ_ _ _ s H vs Q E hr h=>?_;intro X;obtain⟨z,rfl,zl,q⟩:=h;refine aj (aZ (gc (ye vh vh aq (av xr (by rfl) T.bx a7 (ae (pv 0) ah)) (cm (v:= .int 60) (by rfl) I ⟨_,rfl⟩)))
    (aA (aG j9))
    aP)
   (aj (aZ (PW.pt (j5 (b9 (cJ Zf Kv Kw vn (pv 0) (ae bI ah))) (gM (aE kf (pv 0) bI (aL _)))))
    (aA (aG j9))
    aP)
   (aH (aG (av (Cv rfl) (by rfl) T.Jt HZ (ae (fE rfl (CScope.of (M:=["sign"]) (N:=["text"]) (N':=["text"]) (dsc:=ak eO) rfl rfl (by decide+kernel)) (Hg (pv 0)) (λ_ _ _ _ _=>(eS BU (pv 0) (cm (v:= .str "0123456789") (by rfl) O ⟨_,rfl⟩) rfl))) ah))) ?_))
 intros
 have big:100000<=sizeLine:=by decide
 unfold pS at q;have last:(decide (1<=(z.length:Int))&&decide ((z.length:Int)<=60))=true->(!(decide ((sg z).head?=some 48)&&decide (z≠("0":Str))))=true->∀H',Same H H'->Q (.bl (((sg z).map dg).all id)) H':=λh1 h2 H' s=>by
  have:=q H' s;rw[h1,h2,Xy,Xy]at this;rw[List.all_map];exact this
 have a0:(decide (1<=(z.length:Int))&&decide ((z.length:Int)<=60))=true->(!(decide ((sg z).head?=some 48)&&decide (z≠("0":Str))))=true->∀D,H D=none->∀ys,ys=((sg z).map dg).map V.bl->∀H2,H2=upd H D (.lst ys)->H2 D=some (.lst ys)->∃(p:Addr) (bs:List Bool),[V.ref D]=[.ref p]/\SqL K H2 p (bs.map V.bl)/\Q (.bl (bs.all id)) H2:=λh1 h2 D hD ys ey H2 e2 Y=>
  ⟨D,(sg z).map dg,rfl,SqL.of (by rw[Y,ey]),last h1 h2 H2 (by rw[e2];exact am hD)⟩
 refine⟨_,rfl,z,rfl,by lia,_,_,rfl,rfl,_,rfl,?_⟩;by_cases c1:(1:Int)<=(z.length:Int)
 .refine i5 c1 ⟨_,_,rfl,rfl,_,rfl,?_⟩;by_cases c2:(z.length:Int)<=60
  .rw[decide_eq_true c1,decide_eq_true c2]at q last a0;rw[decide_eq_true c2];refine cq ?_;refine⟨_,rfl,rfl,z,_,rfl,rfl,_,rfl,?_⟩;rw[show(Str.ofString "0")=⟨#[48]⟩ from str0,qT];have fin:(!(decide ((sg z).head?=some 48)&&decide (z≠("0":Str))))=true->∀D,H D=none->∃W:Nat->Nat->List V->Hp->Prop,(∃m,W 0 m [] (upd H D (.lst [])))/\∀i m ys H2,W i m ys H2->H2 D=some (.lst ys)->
     ((Itx z).stop i H2/\∃(p:Addr) (bs:List Bool),[V.ref D]=[.ref p]/\SqL K H2 p (bs.map V.bl)/\Q (.bl (bs.all id)) H2)\/((Itx z).go i H2/\∀x H3,(Itx z).yld i H2 x H3->tOp (λx y H Q=>∃i j,x= .str i/\y= .str j/\Q (.bl (!(Builtin.Str.occurrences j i 0 j.length 1).isEmpty)) H) (C2 0) (tC (.str "0123456789")) (some x::[some (V.str z)]) H3 λy H4=>H4 D=some (.lst ys)/\ys.length<sizeLine/\∃m',m'<m/\W (i+1) m' (ys++ [y]) (upd H4 D (.lst (ys++ [y])))):=λh2 D hD=>by
    refine Ee (z:=z) (λi ys H2=>H2=upd H D (.lst ys)/\ys=(((sg z).take i).map dg).map V.bl) ⟨rfl,rfl⟩ (λi c ys H2 hc w Y=>?_) (λys H2 w Y=>?_)
    .have hi:i<z.cps.size:=by
      rcases XI i z.cps.size with g|g
      .exact g
      .rw[Array.getElem?_eq_none g]at hc;cases hc
     have a1:(sg z)[i]?=some c:=by rw[<-hc];simp[sg]
     have l1:ys.length<=100000:=by
      rw[w.2,Q0,Q0,Qe];have:=cM z;lia
     refine⟨_,rfl,_,_,rfl,rfl,?_⟩;rw[FL];refine CNext.mk hi Y (bi (by lia)) ⟨by rw[w.1,bM],?_⟩;rw[w.2,Qn,a1,Q9,Q9];rfl
    .refine a0 rfl h2 D hD ys ?_ H2 w.1 Y;rw[w.2,Qr];have:=cM z;have:z.length=z.cps.size:=rfl;lia
   by_cases c3:(sg z).head?=some 48
   .rw[decide_eq_true c3];refine dM ⟨_,rfl,rfl,_,rfl,?_⟩;by_cases c4:z=("0":Str)
    .refine sY (by rw[c4,str0]) ?_;exact⟨_,rfl,z,rfl,λD hD=>fin (by simp[c4]) D hD⟩
    .refine Jd (λy=>c4 ((V.str.inj y).trans str0.symm)) ?_;have:=q H (Same.refl _);rw[decide_eq_true c3,decide_eq_true c4]at this;exact this
   .rw[decide_eq_false c3];refine cq ?_;exact⟨_,rfl,z,rfl,λD hD=>fin (by simp[c3]) D hD⟩
  .rw[decide_eq_false c2];refine dM ?_;rw[decide_eq_false c2,Ky]at q;exact q H (Same.refl _)
 .refine bL c1 ?_;rw[decide_eq_false c1]at q;exact⟨_,rfl,dM (q H (Same.refl _))⟩
def bel (z:Str):Bool:=decide ((sg z).head?=some 45)
def fig (z:Str):Str:=if bel z=true then Txt.slice z (some 1) none else z
def acc (z:Str):Bool:=pS (fig z)&&!(bel z&&decide (fig z=("0":Str)))
theorem FQ (z:Str):(fig z).length<=z.length:=by
 unfold fig;split
 .exact Txt.slice_le _ _ _
 .exact Q4 _
theorem xj (z:Str):sg z=if bel z=true then 45::sg (fig z)else sg (fig z):=by
 unfold fig;by_cases c:bel z=true
 .rw[if_pos c,if_pos c,x5];have h:(sg z).head?=some 45:=of_decide_eq_true c;cases e:sg z with
  |nil=>rw[e]at h;cases h
  |cons a r=>rw[e]at h;cases h;rfl
 .rw[if_neg c,if_neg c]
theorem CD {z:Str} (h:acc z=true) (hl:z.length<=640):∃n,PySem.intText? z=some n:=by
 unfold acc pS at h;rw[Qt,Qt,Qt,Qt]at h;obtain⟨⟨⟨⟨h1,_⟩,_⟩,O⟩,_⟩:=h;have ad:PySem.NumText.AllDigits (sg (fig z)):=λc hc=>GE (QB.mp O c hc);have I:sg (fig z)≠[]:=λe=>by
  have h1:=of_decide_eq_true h1;rw[cM,e]at h1;simp at h1
 have fs:=xj z;by_cases c:bel z=true
 .rw[if_pos c]at fs;exact⟨_,PySem.intText_neg fs ad I (by lia)⟩
 .rw[if_neg c]at fs;exact⟨_,PySem.intText_digits (by show PySem.NumText.AllDigits (sg z);rw[fs];exact ad) (by show sg z≠[];rw[fs];exact I) (by lia)⟩
theorem HU {z:Str} (h:pS (fig z)=true):z.length<=640:=by
 unfold pS at h;rw[Qt,Qt,Qt]at h;have h2:=of_decide_eq_true h.1.1.2;have fs:=xj z;have l1:=cM z;have I:=cM (fig z);rw[fs]at l1;split at l1
 .rw[Qf]at l1;lia
 .lia
def t7 (K:PySem.W.Frag) (t:Adr):Sp:=λvs H Q E=>(∃z:Str,vs=[.str z]/\z.length<=100000/\(acc z=true->∀n H',PySem.intText? z=some n->Same H H'->Q (.int n) H')/\(acc z=false->RsT H t.gB E))\/
 (∃(x:V) (ty:Value),vs=[x]/\TyOf K H x ty/\PySem.W.kitOne K ty (.type "str")=some false/\RsT H t.gB E)
theorem qE {t u:TS} {D:lq} (M:St->Hp->Prop) (h1:∀nx,(∀z H',M z H'->nx z H')->t {D with nx:=nx} σ H) (h2:∀z H',M z H'->u D z H'):C3 t u D σ H:=h1 (u D) h2
theorem ux (T:Txt K mg t):aV P w K mg base (CX1 P w) 2 t.oC t.jB ["text"] (t7 K t):=by
 refine T.oQ.okX sc_read_whole (λvs H Q E h=>?_) (λa0 A outer s H vs Q E hr h=>?_)
 .rcases h with⟨z,rfl,_⟩|⟨x,ty,rfl,_⟩<;>rfl
 .refine aj (aZ (gc (b9 (av eZ (by rfl) T.bV bC (ae (pv 0) (ae (nM (v:= .ty "str") (by rfl) T.Ao tN rfl) ah)))))
   (aA (gf rfl jg (iV T.b5 T.jz (by rfl) T.kX (ae bI ah))))
   aP)
     (aj (aJ (i:=1) sc_read_whole.nd rfl (Or.inl rfl) (cJ Zf Kv Kw vn (pv 0) (ae bI ah)))
     (aj (aJ (i:=2) sc_read_whole.nd rfl (Or.inl rfl) (si (b9 (pv 1)) (dG G4 (pv 0) (fA aq) fB) (pv 0)))
     (aj (aZ (PW.pt (iU (gc (b9 (aQ (sw T) hr.mo (by rfl) T.EE T.uT.kp T.EF .nil ay (ae (pv 2) ah)))) (io (PW.pt (j5 (b9 (pv 1)) (gM (aE gP (pv 2) bI (aL _))))))))
   (aA (gf rfl jg (iV T.b5 T.jz (by rfl) T.kX (ae bI ah))))
   aP)
     (aH (aG (kW uL (by rfl) T.Iu Ef (ae (pv 0) ah))) ?_))))
  intros
  have big:100000<=sizeLine:=by decide
  rcases h with⟨z,rfl,Y,q1,Z⟩|⟨x,ty,rfl,ht,hk,q⟩
  .refine⟨_,rfl,_,_,_,_,rfl,TyOf.str _,Aa.1,true,rfl,cq ?_⟩;refine⟨_,rfl,rfl,z,_,rfl,rfl,?_⟩;rw[show(Str.ofString "-")=⟨#[45]⟩ from strM,qT,show decide ((sg z).head?=some 45)=bel z from rfl];have fl:=FQ z
   (try dsimp only)
   refine qE (λO H'=>O=[some (.str z),some (.bl (bel z)),some (.str (fig z))]/\H'=H) (λnx go=>?_) (λO H' w=>?_)
   .refine⟨_,rfl,_,rfl,oh (λc=>?_) (λc=>?_)⟩
    .refine⟨_,rfl,_,rfl,z,rfl,by lia,go _ _ ⟨?_,rfl⟩⟩;unfold fig;rw[if_pos c];rfl
    .refine⟨_,rfl,go _ _ ⟨?_,rfl⟩⟩;unfold fig;rw[if_neg c];rfl
   obtain⟨U,eH⟩:=w;rw[U,eH];clear U eH;refine⟨_,rfl,fig z,rfl,by lia,λH1 s1=>⟨_,rfl,?_⟩⟩;unfold acc at q1 Z;cases ea:pS (fig z)with
   |false=>
    refine dM ?_;refine dM ?_;exact fO T.b5 s1 (Z (by rw[ea];rfl))
   |true=>
    refine cq ⟨_,rfl,_,rfl,?_⟩;have Y:=HU ea;have ok:(!(bel z&&decide (fig z=("0":Str))))=true->∃n,PySem.intText? z=some n/\∀H',Same H' H'->Same H H'->Q (.int n) H':=λh=>by
     have ac:acc z=true:=by unfold acc;rw[ea,h];rfl
     obtain⟨n,I⟩:=CD ac Y;exact⟨n,I,λH' _ s=>q1 (by rw[ea,h];rfl) n H' I s⟩
    cases eb:bel z with
    |true=>
     refine dM ⟨_,rfl,rfl,_,rfl,?_⟩;by_cases c:fig z=("0":Str)
     .refine qv (by rw[c]) ?_;exact fO T.b5 s1 (Z (by rw[ea,eb,decide_eq_true c];rfl))
     .refine bL (λy=>c (V.str.inj y)) ?_;obtain⟨n,I,k⟩:=ok (by rw[eb,decide_eq_false c];rfl);exact⟨_,rfl,z,n,rfl,I,Y,k H1 (Same.refl _) s1⟩
    |false=>
     refine cq ?_;refine cq ?_;obtain⟨n,I,k⟩:=ok (by rw[eb];rfl);exact⟨_,rfl,z,n,rfl,I,Y,k H1 (Same.refl _) s1⟩
  .refine⟨_,rfl,_,_,_,_,rfl,ht,hk,false,rfl,dM ?_⟩;exact fO T.b5 (Same.refl _) q
def wr:V->Str
 | .int i=>toString i|_=>"-"
theorem HX {c:Nat} (z:48<=c) (h1:c<=57):dg c=true:=by
 have e:sg ("0123456789":Str)=[48,49,50,51,52,53,54,55,56,57]:=by decide+kernel
 unfold dg;rw[e];refine decide_eq_true ?_;simp;lia
theorem wO (m:Nat):∀c∈(Nat.toDigits 10 m).map Char.toNat,48<=c/\c<=57:=λc hc=>by
 obtain⟨ch,z,e⟩:=Q7.mp hc;rw[<-e];exact PyProof.Rows.digit_range (Nat.isDigit_of_mem_toDigits (by decide) (by decide) z)
theorem wN (m:Nat):(Nat.toDigits 10 m).map Char.toNat≠[]:=λe=>by
 have h:0<(Nat.toDigits 10 m).length:=Nat.length_toDigits_pos;rw[Xv.mp e]at h;exact absurd h (by decide)
theorem yo (m:Nat):0<m->((Nat.toDigits 10 m).map Char.toNat).head?≠some 48:=by
 induction m using Nat.strongRecOn with
 |_ m z=>
  intro h;by_cases c:m<10
  .rw[Xc c];have d:∀d:Nat,d<10->0<d->(Nat.digitChar d).toNat≠48:=by decide
   intro e;exact d m c h (Option.some.inj e)
  .have I:m%10<10:=Nat.mod_lt m (by decide);have t:Nat.toDigits 10 (m/10)++Nat.toDigits 10 (m%10)=Nat.toDigits 10 (10*(m/10)+m%10):=K9 (by decide) (by lia) I;rw[Nat.div_add_mod]at t;rw[<-t,Q9];have:=z (m/10) (by lia) (by lia);cases q:(Nat.toDigits 10 (m/10)).map Char.toNat with
   |nil=>exact absurd q (wN _)
   |cons a r=>rw[q]at this;exact this
theorem yR:∀c:Nat,48<=c->c<=57->(Nat.digitChar (c-48)).toNat=c:=by
 intro c z h1;obtain⟨d,rfl⟩:∃d,c=48+d:=⟨c-48,by lia⟩;have h:∀d:Nat,d<10->(Nat.digitChar (48+d-48)).toNat=48+d:=by decide
 exact h d (by lia)
theorem yS (n:Nat):∀L:List Nat,L.length=n->(∀c∈L,48<=c/\c<=57)->L≠[]->(L.head?=some 48->L=[48])->(Nat.toDigits 10 (PySem.NumText.digitsVal L)).map Char.toNat=L/\PySem.NumText.digitsVal L<10^n:=by
 induction n with
 |zero=>intro L hl _ I;exact absurd (Zt hl) I
 |succ n ih=>
  intro L hl ad I hd;obtain⟨M,c,rfl⟩:∃M c,L=M++ [c]:=⟨L.dropLast,L.getLast I,(List.dropLast_concat_getLast I).symm⟩;obtain⟨c0,U⟩:=ad c (by simp);have Y:M.length=n:=by simpa using hl
  rw[PySem.NumText.digitsVal_snoc];by_cases O:M=[]
  .subst O;have e0:PySem.NumText.digitsVal []=0:=rfl;rw[e0,Nat.zero_mul,X3];constructor
   .rw[Xc (by lia)];show[(Nat.digitChar (c-48)).toNat]=[]++ [c];rw[yR c c0 U];rfl
   .have:n=0:=by simpa using Y.symm
    subst this;show c-48<10^1;lia
  .have Z:M.head?≠some 48:=λz=>by
    have z':(M++ [c]).head?=some 48:=by rw[List.head?_append,z];rfl
    have:=hd z';cases M with
    |nil=>exact O rfl
    |cons a r=>simp at this
   obtain⟨h1,h2⟩:=ih M Y (λx hx=>ad x (by simp[hx])) O (λz=>absurd z Z);have pos:0<PySem.NumText.digitsVal M:=by
    rcases QV (PySem.NumText.digitsVal M)with z|z
    .rw[z]at h1;refine absurd ?_ Z;rw[<-h1];decide
    .exact z
   have t:Nat.toDigits 10 (PySem.NumText.digitsVal M)++Nat.toDigits 10 (c-48)=Nat.toDigits 10 (10*PySem.NumText.digitsVal M+(c-48)):=K9 (by decide) pos (by lia);constructor
   .rw[ZP,<-t,Q9,h1,Xc (by lia)];show M++ [(Nat.digitChar (c-48)).toNat]=M++ [c];rw[yR c c0 U]
   .rw[ZH];lia
theorem xE {z:Str} (h:pS z=true):1<=z.length/\z.length<=60/\((sg z).head?=some 48->z=("0":Str))/\∀c∈sg z,48<=c/\c<=57:=by
 unfold pS at h;rw[Qt,Qt,Qt]at h;obtain⟨⟨⟨h1,h2⟩,I⟩,O⟩:=h;have h1:=of_decide_eq_true h1;have h2:=of_decide_eq_true h2;refine⟨by lia,by lia,λU=>?_,λc hc=>GE (QB.mp O c hc)⟩;rw[decide_eq_true U,Xy,Bool.not_eq_true']at I;exact Classical.not_not.mp (of_decide_eq_false I)
theorem Ah {z:Str} (h:pS z=true):∃n:Int,PySem.intText? z=some n/\0<=n/\n<10^60/\wr (.int n)=z:=by
 obtain⟨l1,Y,O,ad⟩:=xE h;have I:sg z≠[]:=λe=>by
  rw[cM,e]at l1;exact absurd l1 (by decide)
 have Z:=cM z;obtain⟨U,b2⟩:=yS (sg z).length (sg z) rfl ad I λq=>by
  have:=O q;rw[this];decide+kernel
 have r:PySem.intText? z=some ((PySem.NumText.digitsVal (sg z):Nat):Int):=PySem.intText_digits ad I (by lia);refine⟨_,r,Xz _,?_,oZ ?_⟩
 .have:=Xq (show 0<10 by decide) (show(sg z).length<=60 by lia);have:PySem.NumText.digitsVal (sg z)<10^60:=by lia
  exact_mod_cast this
 .rw[show sg (wr (.int ((PySem.NumText.digitsVal (sg z):Nat):Int)))=(Nat.toDigits 10 (PySem.NumText.digitsVal (sg z))).map Char.toNat from PySem.W.KIN.signs_num _];exact U
def uk (K:PySem.W.Frag) (t:Adr):Sp:=λvs H Q _=>∃(a:Addr) (k:Int) (v:V) (F:Addr->Prop) (x:HSt),vs=[.ref a,.int k]/\HoA K t H a F x/\0<=k/\aO x.st.kv k=some v/\∀H' F',HoA K t H' a F' x->Fr F F' H H'->Q v H'
theorem lK (T:Txt K mg t):aV P w K mg base CX0 5 t.oP t.jL ["self","key"] (uk K t):=by
 refine T.Gg.okl uv λ_ _ _ s H vs Q E Z h=>?_;intro X;obtain⟨a,k,v,F,x,rfl,A,k0,Y,q⟩:=h;refine⟨_,(aA (aG (aK (aD (pv 0) rfl) T.ax T.FF (uB T) Z.mo T.FZ .nil ay (ae (pv 1) ah))))
  ,?_⟩
 obtain⟨s,l,wr,p,h,Fs,Fl,B,O,g⟩:=A;obtain⟨dx,ho⟩:=B.o.ob;obtain⟨ds,fs,hs,hm⟩:=B.sl.ins;refine⟨_,rfl,a,_,dx,_,_,rfl,ho,T.au,T.br,pJ,s,ds,fs,rfl,hs,hm _ (by decide+kernel),_,rfl,s,k,Fs,x.st,rfl,B.sl,k0,λv' I H1 U S1 f1=>?_,λz=>by rw[Y]at z;cases z⟩;rw[Y]at I;cases I;obtain⟨B1,g1⟩:=B.slots S1 f1;exact q H1 (HoF a wr p h U Fl x.pa) ⟨s,l,wr,p,h,U,Fl,B1,O,λ_=>Iff.rfl⟩ λb o n e=>g1 b o (λz=>n ((g b).mpr z)) e
def rq (K:PySem.W.Frag) (t:Adr):Sp:=λvs H Q _=>∃(a:Addr) (F:Addr->Prop) (x:HSt),vs=[.ref a]/\HoA K t H a F x/\∀H' F',HoA K t H' a F' x->Fr F F' H H'->(∀dx fs l,H a=some (.ins t.az dx fs)->fs.lookup ("leaves":Str)=some (.ref l)->∃Fl,LvA K t H' l Fl x.ks)->Q (.int x.st.kv.length) H'
theorem gj (T:Txt K mg t):aV P w K mg base CX0 2 t.mh t.iK ["self"] (rq K t):=by
 refine T.E2.okl rQ λ_ _ _ s H vs Q E hr h=>?_;intro X;obtain⟨a,F,x,rfl,A,q⟩:=h;refine⟨_,(aA (aG (bq (aD (pv 0) rfl) T.ax T.EA (sF T) hr.mo T.EJ .nil ay)))
  ,?_⟩
 obtain⟨s,l,wr,p,h,Fs,Fl,B,O,g⟩:=A;obtain⟨dx,U⟩:=B.o.ob;obtain⟨ds,fs,hs,hm⟩:=B.sl.ins;refine⟨_,rfl,a,_,dx,_,_,rfl,U,T.au,T.br,pJ,s,ds,fs,rfl,hs,hm _ (by decide+kernel),s,Fs,x.st,rfl,B.sl,λH1 I S1 f1=>?_⟩;obtain⟨Y,g1⟩:=B.slots S1 f1;refine q H1 (HoF a wr p h I Fl x.pa) ⟨s,l,wr,p,h,I,Fl,Y,O,λ_=>Iff.rfl⟩ (λb o n e=>g1 b o (λz=>n ((g b).mpr z)) e) λdy fy ly Z e2=>?_;rw[U]at Z;obtain⟨_,_,rfl⟩:=HO.ins.inj (Option.some.inj Z);rw[xc]at e2;cases e2;exact⟨Fl,Y.lv⟩
theorem Da (x:String):sg (Str.ofString x)=x.toList.map Char.toNat:=by
 rw[Str.ofString_eq_toList]
theorem tQ {z:Str} (h:acc z=true):∃n:Int,PySem.intText? z=some n/\-(10^60)<n/\n<10^60/\Str.ofString (toString n)=z/\z.length<=61:=by
 by_cases ha:pS z=true
 .obtain⟨n,r,n0,Z,e⟩:=Ah ha;obtain⟨_,l2,_⟩:=xE ha;exact⟨n,r,by lia,Z,e,by lia⟩
 have ac:=h;unfold acc at h;rw[Qt]at h;obtain⟨hf,O⟩:=h;obtain⟨l1,l2,z0,ad⟩:=xE hf;have U:sg (fig z)≠[]:=λe=>by
  rw[cM,e]at l1;exact absurd l1 (by decide)
 have fs:=xj z;have c:bel z=true:=by
  cases c:bel z with
  |true=>rfl
  |false=>
   unfold fig at hf;rw[c,if_neg Qj]at hf;exact absurd hf ha
 rw[c,Xy,Bool.not_eq_true']at O;have Y:=of_decide_eq_false O;rw[if_pos c]at fs;obtain⟨I,b2⟩:=yS (sg (fig z)).length (sg (fig z)) rfl ad U λq=>absurd (z0 q) Y;have lf:=cM (fig z);have lz:z.length=(fig z).length+1:=by rw[cM z,fs,Qf,lf]
 have pos:0<PySem.NumText.digitsVal (sg (fig z)):=by
  rcases QV (PySem.NumText.digitsVal (sg (fig z)))with q|q
  .rw[q]at I;refine absurd (oZ ?_) Y;rw[<-I];decide+kernel
  .exact q
 have lt:PySem.NumText.digitsVal (sg (fig z))<10^60:=Qs b2 (Xq (by decide) (by lia));have rd:=PySem.intText_neg fs ad U (by lia);generalize PySem.NumText.digitsVal (sg (fig z))=m at rd I pos lt;refine⟨_,rd,by lia,by lia,oZ ?_,by lia⟩;obtain⟨k,rfl⟩:∃k,m=k+1:=⟨m-1,by lia⟩;rw[Da,fs,<-I];show("-"++toString (k+1)).toList.map Char.toNat=_;rw[String.toList_append,Q9];have e:sg (Str.ofString (toString ((k+1:Nat):Int)))=(Nat.toDigits 10 (k+1)).map Char.toNat:=PySem.W.KIN.signs_num (k+1);rw[Da]at e;exact congrArg (45:: ·) e
theorem qB {i:Int} (I: -(10^60)<i) (h1:i<10^60):i.natAbs.log2<1920:=by
 rcases QV i.natAbs with z|z
 .rw[z];decide
 .refine(Nat.log2_lt (XC z)).mpr ?_;have:i.natAbs<10^60:=by lia
  exact Nat.lt_trans this (Qs (show 10^60<2^200 by decide) (Xq (by decide) (by decide)))
theorem qC {i:Int} (z: -(10^60)<i) (h1:i<10^60):(Str.ofString (toString i)).length<=61:=by
 have h:(toString i).length<=60+1:=PySem.int_text_length_le10 (by decide) (by lia);rw[Str.ofString_eq_toList];show((toString i).toList.map Char.toNat).toArray.size<=61;rw[Qh,Q0];exact h
def rwT (p:Int×Int):Str:=Str.ofString (toString p.1)++(" ":Str)++Str.ofString (toString p.2)
def pV (z:Str):Option (Int×Int):=match Txt.split z (" ":Str)with
 | [a,b]=>if acc a=true then if acc b=true then match PySem.intText? a,PySem.intText? b with
  |some k,some v=>some (k,v)
  |_,_=>none else none else none
 |_=>none
def bW:Int->List Str->Option (List (Int×Int))
 |_,[]=>some []
 |last,z::r=>match pV z with
  |none=>none
  |some p=>if last<p.1 then(bW p.1 r).map (p:: ·)else none
def rdT (z:Str):Option (List (Int×Int)):=if z=("":Str)then some []else bW (-1) (Txt.split z ("\n":Str))
theorem HoA.lvs {x:HSt} (A:HoA K t H a F x):∃(dx:Addr) (fs:List (Str×V)) (l:Addr) (Fl:Addr->Prop),H a=some (.ins t.az dx fs)/\fs.lookup ("leaves":Str)=some (.ref l)/\LvA K t H l Fl x.ks:=by
 obtain⟨s,l,wr,p,h,Fs,Fl,B,O,g⟩:=A;obtain⟨dx,z⟩:=B.o.ob;exact⟨dx,_,l,Fl,z,xc,B.lv⟩
theorem wz {p:Int×Int} (h: -(10^60)<p.1/\p.1<10^60/\-(10^60)<p.2/\p.2<10^60):(rwT p).length<=123:=by
 unfold rwT;rw[jT,jT];have h1:=qC h.1 h.2.1;have h2:=qC h.2.2.1 h.2.2.2;have z:(" ":Str).length=1:=by decide+kernel
 lia
def BG:Sp:=λvs H Q _=>∃k v:Int,vs=[.int k,.int v]/\(-(10^60)<k/\k<10^60/\-(10^60)<v/\v<10^60)/\Q (.str (rwT (k,v))) H
theorem BW (T:Txt K mg t):aV P w K mg base CX0 1 t.y4 t.tJ ["key","value"] BG:=by
 refine T.Ep.okl BJ λ_ _ _ s H vs Q E z h=>?_;intro X;obtain⟨k,v,rfl,b,q⟩:=h;refine⟨_,(aA (aG (Hl (pv 0) (pv 1))))
  ,?_⟩
 have l1:=wz (p:=(k,v)) b;have I:(rwT (k,v)).length=(Str.ofString (toString k)++(" ":Str)).length+(Str.ofString (toString v)).length:=jT _ _;have big:1000<=sizeLine:=by decide
 exact⟨_,rfl,k,rfl,qB b.1 b.2.1,by lia,_,rfl,v,rfl,qB b.2.2.1 b.2.2.2,by show(rwT (k,v)).length<=sizeLine;lia,q⟩
structure HoP (K:PySem.W.Frag) (t:Adr) (H:Hp) (a:Addr) (F:Addr->Prop) (x:HSt) (ps:List (Int×Int)):Prop where
 A:HoA K t H a F x
 ks:x.ks=ps.map (·.1)
 kv:∀p∈ps,aO x.st.kv p.1=some (.int p.2)
 ln:x.st.kv.length=ps.length
 bd:∀p∈ps,0<=p.1/\p.1<10^60/\-(10^60)<p.2/\p.2<10^60
 le:ps.length<=3000
theorem HoP.to {x:HSt} (J:HoP K t H a F x ps) (A:HoA K t H' a F' x):HoP K t H' a F' x ps:=⟨A,J.ks,J.kv,J.ln,J.bd,J.le⟩
def zw (K:PySem.W.Frag) (t:Adr):Sp:=λvs H Q _=>∃(a:Addr) (F:Addr->Prop) (x:HSt) (ps:List (Int×Int)),vs=[.ref a]/\HoP K t H a F x ps/\∀(H':Hp) (F':Addr->Prop) (l:Addr),HoP K t H' a F' x ps->Fr F F' H H'->H' l=some (.lst ((ps.map rwT).map V.str))->Q (.ref l) H'
theorem zP (T:Txt K mg t):aV P w K mg base CX0 6 t.vV t.pO ["house"] (zw K t):=by
 refine T.CI.okl sc_rows_of λ_ _ _ s H vs Q E hr h=>?_;intro X;obtain⟨a,F,x,ps,rfl,J,q⟩:=h;refine aj (aJ (i:=1) sc_rows_of.nd rfl (Or.inl rfl) (aK (aD (pv 0) rfl) T.aI T.gQ (c8 T) hr.mo T.gS .nil ay (ae aq (ae (bq (pv 0) T.au T.lL (gj T) hr.mo T.lQ .nil ay) ah))))
   (aH (aG (fE rfl (CScope.of (M:=["key"]) (N:=["house","keys"]) (N':=["house","keys"]) (dsc:=ak kQ) rfl rfl (by decide+kernel)) (bN (pv 1)) (λ_ _ _ _ _=>(aQ (BW T) hr.mo (by rfl) T.Jc T.Ep.kp T.Jp .nil ay (ae (pv 0) (ae (aK (pv 1) T.au T.wT (lK T) hr.mo T.xC .nil ay (ae (pv 0) ah)) ah)))))) ?_)
 intros
 obtain⟨dx,fs,l,Fl,ho,hl,L⟩:=J.A.lvs;obtain⟨dL,fL,hL,a1⟩:=L.ins;obtain⟨dh,fh,hh,a2,_⟩:=J.A.ins;refine⟨_,rfl,a,_,dx,fs,_,rfl,ho,T.au,T.cY,hl,l,dL,fL,rfl,hL,a1 _ (by decide+kernel),_,rfl,a,dh,fh,rfl,hh,a2 _ (by decide+kernel),a,F,x,rfl,J.A,λH1 F1 A1 f1 lv=>?_⟩;obtain⟨a3,L1⟩:=lv dx fs l ho hl;have J1:=J.to A1;have lk:x.ks.length<=3000:=by rw[J.ks,Q0];exact J.le
 have ef:(x.ks.filter λz=>decide (0<=z))=ps.map (·.1):=by
  rw[Xw.mpr λz hz=>?_,J.ks];rw[J.ks]at hz;obtain⟨p,hp,rfl⟩:=Q7.mp hz;exact decide_eq_true (J.bd p hp).1
 refine⟨l,0,_,a3,x.ks,rfl,L1,by lia,by lia,λH2 g s2 ng hg=>?_⟩;rw[ef,J.ln,show((ps.length:Int)).toNat=ps.length from rfl,Qr (by rw[Q0];exact Q4 _)]at hg;have A2:=A1.same s2;have f2:Fr F F1 H H2:=f1.trans (Fr.of_same s2);have a4:¬F1 g:=A1.out ng
 (try dsimp only)
 refine⟨_,rfl,g,rfl,⟨_,SqL.of hg⟩,λD hD=>?_⟩;refine eG (K:=K) (a:=g) (xs:=(ps.map (·.1)).map V.int) (λi ys H3=>∃(O:Addr->Prop),HoA K t H3 a O x/\Fr F1 O H2 H3/\¬O D/\ys=((ps.take i).map rwT).map V.str) ⟨F1,A2.same (am hD),Fr.of_same (am hD),A2.out hD,by rw[List.take_zero];rfl⟩ (λi ys H3 _ w=>?_) (λi y ys H3 hy w I=>?_) (λys H3 w I=>?_)
 .obtain⟨O,Y,U,_⟩:=w;exact SqL.of (U _ _ a4 hg).1
 .obtain⟨O,Y,U,nD,rfl⟩:=w;have hi:i<((ps.map (·.1)).map V.int).length:=(Q2.mp hy).1;obtain⟨k,rfl,hk⟩:=xb hy;rw[Qc]at hk;cases c:ps[i]? with
  |none=>rw[c]at hk;cases hk
  |some p=>
   rw[c]at hk;cases hk;have pm:=Q1 c;have bd:=J.bd p pm;obtain⟨d3,a5,aa,ac,_⟩:=Y.ins;refine⟨_,rfl,_,rfl,a,d3,a5,rfl,aa,ac _ (by decide+kernel),_,rfl,a,p.1,_,O,x,rfl,Y,bd.1,J.kv p pm,λH4 F4 A4 f4=>⟨p.1,p.2,rfl,⟨by lia,bd.2.1,bd.2.2⟩,?_⟩⟩;obtain⟨Z,a0⟩:=f4 _ _ nD I;refine CNext.mk hi Z (bi (by rw[Q0,Q0,Qe];have:=J.le;lia)) ⟨F4,A4.upd a0 (λxs z=>by rw[Z]at z;cases z),?_,a0,?_⟩
   .exact λb o n e=>⟨by rw[ag (ao e hD)];exact((U.trans f4) b o n e).1,((U.trans f4) b o n e).2⟩
   .rw[Qn,c,Q9,Q9];rfl
 .obtain⟨O,Y,U,nD,rfl⟩:=w;rw[Q0,Q0,Qz]at I;exact q H3 O D (J.to Y) (f2.trans U) I
theorem zr {m:Nat}:∀{ws:List Str},(∀x∈ws,x.length<=m)->(ws.map (·.length)).sum<=ws.length*m
 | [],_=>by simp
 |a::r,h=>by
  have:=zr (ws:=r) λx hx=>h x (Q8 _ hx);have:=h a Q6;simp only[Qo,List.sum_cons,Qf,Nat.add_mul,Nat.one_mul];lia
def C8 (K:PySem.W.Frag) (t:Adr):Sp:=λvs H Q _=>∃(a:Addr) (F:Addr->Prop) (x:HSt) (ps:List (Int×Int)),vs=[.ref a]/\HoP K t H a F x ps/\∀(H':Hp) (F':Addr->Prop),HoP K t H' a F' x ps->Fr F F' H H'->Q (.str (Txt.join ("\n":Str) (ps.map rwT))) H'
theorem Dt (T:Txt K mg t):aV P w K mg base CX0 7 t.Bo t.xn ["house"] (C8 K t):=by
 refine T.xJ.okl Db λ_ _ _ s H vs Q E z h=>?_;intro X;obtain⟨a,F,x,ps,rfl,J,q⟩:=h;refine⟨_,(aA (aG (cJ Zf PySem.F.slot_str_join PySem.F.type_str_join AF bI (ae (aQ (zP T) z.mo (by rfl) T.Iq T.CI.kp T.Ir .nil ay (ae (pv 0) ah)) ah))))
  ,?_⟩
 refine⟨rfl,_,rfl,a,F,x,ps,rfl,J,λH1 F1 l I O hl=>⟨"\n",l,ps.map rwT,rfl,rfl,SqL.of hl,by decide+kernel,?_,q H1 F1 I O⟩⟩;have h1:=zr (m:=123) (ws:=ps.map rwT) λy hy=>by
  obtain⟨p,hp,rfl⟩:=Q7.mp hy;have b:=J.bd p hp;exact wz ⟨by lia,b.2⟩
 have h2:=J.le;rw[Q0]at h1⊢;lia
theorem DP:∀{l:List Nat} {x:Nat},x∈l->x<=l.sum
 | [],_,h=>absurd h QR
 |a::r,x,h=>by
  rw[List.sum_cons];rcases Qg.mp h with rfl|h
  .lia
  .have:=DP h;lia
theorem xV {z d y:Str} (hd:1<=d.length) (h:y∈Txt.split z d):y.length<=z.length:=by
 have w:=PyProof.Rows.split_weight z d hd;have:y.length<=((Txt.split z d).map (·.length)).sum:=DP (QS (f:=λx:Str=>x.length) h);have:=Xf h;lia
theorem RsT.on {E:XK} (k:RsT H C E) (s:Same H H'):RsT H' C E:=λea od H2 hx z=>k ea od H2 hx (s.trans z)
theorem BM {y:Str} {ws:List Str} (e:Txt.split y (" ":Str)=ws) (h:ws.length≠2):pV y=none:=by
 unfold pV;rw[e];split
 .exact absurd rfl h
 .rfl
theorem iT {y a b:Str} (e:Txt.split y (" ":Str)=[a,b]):pV y=if acc a=true then if acc b=true then match PySem.intText? a,PySem.intText? b with
  |some k,some v=>some (k,v)
  |_,_=>none else none else none:=by
 unfold pV;rw[e]
theorem rZ {last:Int} {y:Str} {r:List Str} (h:pV y=none):bW last (y::r)=none:=by
 unfold bW;rw[h]
theorem Fk {last:Int} {y a b:Str} {r:List Str} (e:Txt.split y (" ":Str)=[a,b]) (ha:acc a=true) (ra:PySem.intText? a=some k) (hl:¬last<k):bW last (y::r)=none:=by
 unfold bW;rw[iT e,if_pos ha,ra];by_cases hb:acc b=true
 .obtain⟨v,rv,_⟩:=tQ hb;rw[if_pos hb,rv];exact if_neg hl
 .rw[if_neg hb]
theorem Hb {last v:Int} {y a b:Str} {r:List Str} (e:Txt.split y (" ":Str)=[a,b]) (ha:acc a=true) (ra:PySem.intText? a=some k) (hb:acc b=true) (rb:PySem.intText? b=some v) (hl:last<k):bW last (y::r)=(bW k r).map ((k,v):: ·):=by
 conv=>lhs;unfold bW
 rw[iT e,if_pos ha,if_pos hb,ra,rb];exact if_pos hl
theorem Du {i:Int} (h0: -(10^60)<i) (h1:i<10^60):acc (Str.ofString (toString i))=true/\PySem.intText? (Str.ofString (toString i))=some i/\∀c∈sg (Str.ofString (toString i)),c=45\/(48<=c/\c<=57):=by
 have dl:∀m:Nat,m<10^60->((Nat.toDigits 10 m).map Char.toNat).length<=60:=λm h=>by rw[Q0];exact(Nat.length_toDigits_le_iff (by decide) (by decide)).mpr h
 have aF:∀{z:Str} {m:Nat},m<10^60->sg z=(Nat.toDigits 10 m).map Char.toNat->pS z=true:=λ{z m} hm e=>by
  have ad:=wO m;have O:=yo m;have I:=wN m;have ln:=dl m hm;rw[<-e]at ad O I ln;have l1:1<=z.length:=by
   rw[cM];cases q:sg z with
   |nil=>exact absurd q I
   |cons a r=>simp
  have l2:z.length<=60:=by rw[cM];exact ln
  unfold pS;rw[decide_eq_true (show(1:Int)<=(z.length:Int) by lia),decide_eq_true (show(z.length:Int)<=60 by lia),QB.mpr λc hc=>HX (ad c hc).1 (ad c hc).2];by_cases c:(sg z).head?=some 48
  .have z0:z=("0":Str):=by
    rcases QV m with y|y
    .rw[y]at e;refine oZ (e.trans ?_);decide+kernel
    .exact absurd c (O y)
   rw[decide_eq_false (show ¬z≠("0":Str) from λq=>q z0),Ky];rfl
  .rw[decide_eq_false c];rfl
 rcases Int.lt_or_le i 0 with neg|pos
 .obtain⟨k,rfl⟩:∃k:Nat,i= -((k+1:Nat):Int):=⟨i.natAbs-1,by lia⟩;have e:sg (Str.ofString (toString ((k+1:Nat):Int)))=(Nat.toDigits 10 (k+1)).map Char.toNat:=PySem.W.KIN.signs_num (k+1);have es:sg (Str.ofString (toString (-((k+1:Nat):Int))))=45::(Nat.toDigits 10 (k+1)).map Char.toNat:=by
   rw[Da]at e⊢;show("-"++toString (k+1)).toList.map Char.toNat=_;rw[String.toList_append,Q9];exact congrArg (45:: ·) e
  generalize Str.ofString (toString (-((k+1:Nat):Int)))=z at es;have U:bel z=true:=decide_eq_true (by rw[es];rfl);have fs:=xj z;rw[if_pos U,es]at fs;have fs':sg (fig z)=(Nat.toDigits 10 (k+1)).map Char.toNat:=(List.cons.inj fs).2.symm;have Y:=aF (by lia) fs';have ad:=wO (k+1);have I:=wN (k+1);have Z:PySem.NumText.digitsVal ((Nat.toDigits 10 (k+1)).map Char.toNat)=k+1:=PySem.W.KIN.val_back _;have nz:fig z≠("0":Str):=λq=>by
   have O:=yo (k+1) (by lia);rw[<-fs',q]at O;exact O (by decide+kernel)
  have lz:z.length<=61:=by
   have:=dl (k+1) (by lia);rw[cM,es,Qf];lia
  refine⟨?_,?_,λc hc=>?_⟩
  .unfold acc;rw[Y,U,decide_eq_false nz];rfl
  .rw[PySem.intText_neg es ad I (by lia),Z]
  .rw[es]at hc;rcases Qg.mp hc with h|h
   .exact .inl h
   .exact .inr (ad c h)
 .obtain⟨m,rfl⟩:=Z2 pos;have es:sg (Str.ofString (toString (m:Int)))=(Nat.toDigits 10 m).map Char.toNat:=PySem.W.KIN.signs_num m;generalize Str.ofString (toString (m:Int))=z at es;have ad:=wO m;have I:=wN m;have Z:PySem.NumText.digitsVal ((Nat.toDigits 10 m).map Char.toNat)=m:=PySem.W.KIN.val_back _;have Y:=aF (by lia) es;have lz:z.length<=61:=by
   have:=dl m (by lia);rw[cM,es];lia
  have hd:(sg z).head?≠some 45:=λq=>by
   rw[es]at q;have:=ad 45 (List.mem_of_mem_head? q);lia
  have U:bel z=false:=decide_eq_false hd;have fz:fig z=z:=by unfold fig;rw[U];rfl
  refine⟨?_,?_,λc hc=> .inr (ad c (by rw[<-es];exact hc))⟩
  .unfold acc;rw[fz,Y,U];rfl
  .have r:=PySem.intText_digits (x:=z) (by show PySem.NumText.AllDigits (sg z);rw[es];exact ad) (by show sg z≠[];rw[es];exact I) (by lia);rw[r];show some ((PySem.NumText.digitsVal (sg z):Nat):Int)=some (m:Int);rw[es,Z]
theorem pj {p:Int×Int} (h: -(10^60)<p.1/\p.1<10^60/\-(10^60)<p.2/\p.2<10^60):pV (rwT p)=some p/\10∉sg (rwT p):=by
 obtain⟨Y,r1,O⟩:=Du h.1 h.2.1;obtain⟨Z,r2,U⟩:=Du h.2.2.1 h.2.2.2;have I:∀{z:Str},(∀c∈sg z,c=45\/(48<=c/\c<=57))->∀c∈sg z,c≠32/\c≠10:=λ{z} hz c hc=>by
  rcases hz c hc with e|e<;>lia
 have e:rwT p=Txt.join ⟨#[32]⟩ [Str.ofString (toString p.1),Str.ofString (toString p.2)]:=rfl;have sp:Txt.split (rwT p) (" ":Str)=[Str.ofString (toString p.1),Str.ofString (toString p.2)]:=by
  rw[e];refine qU (c:=32) (List.cons_ne_nil _ _) λa ha=>?_;rcases Qg.mp ha with rfl|ha
  .exact λq=>(I O 32 q).1 rfl
  .rw[Qa.mp ha];exact λq=>(I U 32 q).1 rfl
 refine⟨?_,?_⟩
 .rw[iT sp,if_pos Y,if_pos Z,r1,r2]
 .rw[e,w6,qD];intro q;unfold jn at q;rcases Q5.mp q with q|q
  .exact(I O 10 q).2 rfl
  .rcases Qg.mp q with q|q
   .cases q
   .exact(I U 10 (by simpa[jn]using q)).2 rfl
theorem rY:∀{ps:List (Int×Int)} {last:Int},(∀p∈ps,0<=p.1/\p.1<10^60/\-(10^60)<p.2/\p.2<10^60)->bK (ps.map (·.1))->(∀p∈ps,last<p.1)->bW last (ps.map rwT)=some ps
 | [],_,_,_,_=>rfl
 |p::r,last,hb,z,hl=>by
  have b:=hb p Q6;have z:=Zl.mp z;have I:=rY (ps:=r) (last:=p.1) (λq hq=>hb q (Q8 _ hq)) z.2 λq hq=>z.1 _ (QS hq);show bW last (rwT p::r.map rwT)=_;unfold bW;rw[(pj ⟨by lia,b.2.1,b.2.2.1,b.2.2.2⟩).1];show(if last<p.1 then(bW p.1 (r.map rwT)).map (p:: ·)else none)=_;rw[if_pos (hl p Q6),I];rfl
theorem Dh (hb:∀p∈ps,0<=p.1/\p.1<10^60/\-(10^60)<p.2/\p.2<10^60) (z:bK (ps.map (·.1))):rdT (Txt.join ("\n":Str) (ps.map rwT))=some ps/\(ps≠[]->Txt.split (Txt.join ("\n":Str) (ps.map rwT)) ("\n":Str)=ps.map rwT):=by
 have sp:ps≠[]->Txt.split (Txt.join ("\n":Str) (ps.map rwT)) ("\n":Str)=ps.map rwT:=λI=>qU (c:=10) (λq=>I (Xv.mp q)) λa ha=>by
  obtain⟨p,hp,rfl⟩:=Q7.mp ha;have b:=hb p hp;exact(pj ⟨by lia,b.2.1,b.2.2.1,b.2.2.2⟩).2
 refine⟨?_,sp⟩;unfold rdT;by_cases c:ps=[]
 .subst c;rfl
 .by_cases e:Txt.join ("\n":Str) (ps.map rwT)=("":Str)
  .have s:=sp c;rw[e]at s;have:Txt.split ("":Str) ("\n":Str)=[("":Str)]:=by decide+kernel
   rw[this]at s;obtain⟨p,r,rfl⟩:∃p r,ps=p::r:=by
    cases ps with
    |nil=>exact absurd rfl c
    |cons p r=>exact⟨p,r,rfl⟩
   have b:=hb p Q6;have h1:=(pj (p:=p) ⟨by lia,b.2.1,b.2.2.1,b.2.2.2⟩).1;rw[<-(List.cons.inj s).1]at h1;have h2:pV ("":Str)=none:=by decide+kernel
   rw[h2]at h1;cases h1
  .rw[if_neg e,sp c];exact rY hb z λp hp=>by have:=(hb p hp).1;lia
structure Rd64 (x:HSt) (ps:List (Int×Int)):Prop where
 now:x.now=ps.length
 fl:x.fl=0
 ma:x.ma=0
 ho:x.ho=[]
 st:x.st=ps.foldl (λst p=>st.put p.1 (.int p.2)) SSt.new
 di:x.di.map (·.2)=ps.map λp=> [V.str "put",.int p.1,.int p.2]
 ml:∀(i:Nat) (p:Int×Int),ps[i]?=some p->∃q,bB x.pa p.1=[⟨q,(i:Int)+1,.int p.2⟩]
 pk:∀k,k∈x.pa.map (·.k)↔k∈ps.map (·.1)
theorem Rd64.new:Rd64 HSt.new []:=⟨rfl,rfl,rfl,rfl,rfl,rfl,(λi p h=>by cases h),λk=>⟨(λh=>by cases h),(λh=>by cases h)⟩⟩
theorem Rd64.put {x:HSt} (R:Rd64 x ps) {v:Int} {z:List Int} (lt:∀p∈ps,p.1<k) (N:Noted x.pa pa' k ⟨q,x.now+1,.int v⟩):Rd64 {x with now:=x.now+1,st:=x.st.put k (.int v),ks:=z,di:=x.di++ [(r,[.str "put",.int k,.int v])],pa:=pa'} (ps++ [(k,v)]):=by
 have O:k∉ps.map (·.1):=λh=>by
  obtain⟨p,hp,e⟩:=Q7.mp h;have:=lt p hp;lia
 have I:k∉x.pa.map (·.k):=λh=>O ((R.pk k).mp h);refine⟨?_,R.fl,R.ma,R.ho,?_,?_,λi p hp=>?_,λj=>?_⟩
 .show x.now+1=_;rw[R.now,Qd];rfl
 .show x.st.put k (.int v)=_;rw[R.st,XQ];rfl
 .show(x.di++ [(r,[V.str "put",V.int k,V.int v])]).map Prod.snd=_;rw[Q9,show x.di.map Prod.snd=_ from R.di,Q9];rfl
 .show ∃q,bB pa' p.1=_;rw[N.of];rcases XI i ps.length with h|h
  .rw[QW h]at hp;have:=lt p (Q1 hp);rw[if_neg (by lia)];exact R.ml i p hp
  .rw[QU h]at hp;obtain⟨h1,h2⟩:=Q2.mp hp;rw[QY]at h1;obtain rfl:i=ps.length:=by lia
   have e:p=(k,v):=by rw[<-h2];simp
   rw[e,if_pos rfl,fP I,<-R.now];exact⟨q,rfl⟩
 .show j∈pa'.map (·.k)↔_;rw[N.ky,if_neg I,Q5,Q9,Q5,R.pk];rfl
def t9 (K:PySem.W.Frag) (t:Adr):Sp:=λvs H Q E=>(∃z:Str,vs=[.str z]/\z.length<=100000/\(Txt.split z ("\n":Str)).length<=3000/\(∀ps,rdT z=some ps->∀(H':Hp) (a:Addr) (F:Addr->Prop) (x:HSt),HoP K t H' a F x ps->Rd64 x ps->(∀b o,H b=some o->H' b=some o/\¬F b)->Q (.ref a) H')/\(rdT z=none->RsT H t.gB E))\/
 (∃(x:V) (ty:Value),vs=[x]/\TyOf K H x ty/\PySem.W.kitOne K ty (.type "str")=some false/\RsT H t.gB E)
theorem HoA.rise {x:HSt} (A:HoA K t H a F x):bK x.ks:=by
 obtain⟨_,_,_,_,_,_,L⟩:=A.lvs;exact L.rise
theorem HoP.put {x x':HSt} {v:Int} (J:HoP K t H a F x ps) (A:HoA K t H' a F' x') (e:x'.st=x.st.put k (.int v)) (U:bK (ps.map (·.1))) (lt:∀p∈ps,p.1<k) (b:0<=k/\k<10^60/\-(10^60)<v/\v<10^60) (l:ps.length<3000):HoP K t H' a F' x' (ps++ [(k,v)])/\bK ((ps++ [(k,v)]).map (·.1)):=by
 have O:x'.st.kv=bj x.st.kv k (.int v):=by rw[e];exact SSt.three_kv
 have Y:aO x.st.kv k=none:=by
  cases c:aO x.st.kv k with
  |none=>rfl
  |some w=>
   have h:=(J.A.ok.ks k).mpr (by rw[c];rfl);rw[J.ks]at h;obtain⟨p,hp,ep⟩:=Q7.mp h;have:=lt p hp;lia
 have I:bK ((ps++ [(k,v)]).map (·.1)):=by
  rw[Q9];refine Qk.mpr ⟨U,Z3 _ _,λy hy z hz=>?_⟩;obtain⟨p,hp,rfl⟩:=Q7.mp hy;rw[Qa.mp hz];exact lt p hp
 refine⟨⟨A,j3 A.rise I λz=>?_,λp hp=>?_,?_,λp hp=>?_,?_⟩,I⟩
 .rw[A.ok.ks z,O,cT,Q9,Q5];by_cases c:z=k
  .rw[if_pos c];exact⟨λ_=> .inr (Qa.mpr c),λ_=>rfl⟩
  .rw[if_neg c,<-J.A.ok.ks z,J.ks];exact⟨.inl,λh=>h.elim id λh=>absurd (Qa.mp h) c⟩
 .rw[O,cT];rcases Q5.mp hp with hp|hp
  .rw[if_neg λc=>by have:=lt p hp;lia];exact J.kv p hp
  .rw[Qa.mp hp,if_pos rfl]
 .rw[O,yd _ Y,Qd,Qd,J.ln];rfl
 .rcases Q5.mp hp with hp|hp
  .exact J.bd p hp
  .rw[Qa.mp hp];exact b
 .rw[Qd];exact l
theorem uy (T:Txt K mg t):aV P w K mg base (CX1 P w) 6 t.oE t.jC ["text"] (t9 K t):=by
 refine T.oR.okX sc_read_house (λvs H Q E h=>?_) (λal A outer s H vs Q E hr h=>?_)
 .rcases h with⟨z,rfl,_⟩|⟨x,ty,rfl,_⟩<;>rfl
 .refine aj (aZ (gc (b9 (av eZ (by rfl) T.bV bC (ae (pv 0) (ae (nM (v:= .ty "str") (by rfl) T.Ao tN rfl) ah)))))
   (aA (gf rfl jg (iV T.b5 T.jz (by rfl) T.kX (ae bI ah))))
   aP)
     (aj (aJ (i:=1) sc_read_house.nd rfl (Or.inl rfl) (eU T.DA (km T) hr.mo (by rfl) T.yA T.uP .nil ay))
     (aj (aZ (aE gP (pv 0) bI (aL _))
   (aA (aG (pv 1)))
   aP)
     (aj (aJ (i:=2) sc_read_house.nd rfl (Or.inl rfl) (Dn zk aq))
     (dn (λx=>(eh PassesOwn.leaving rfl (bN (cJ Zf PySem.F.slot_str_split PySem.F.type_str_split yr (pv 0) (ae bI ah))) (bO (i:=3) sc_read_house.nd rfl (Or.inl rfl))
      x)) ?_))))
  refine aj (aJ (i:=4) sc_read_house.nd rfl (Or.inl rfl) (cJ Zf PySem.F.slot_str_split PySem.F.type_str_split yr (pv 3) (ae bI ah)))
    (aj (aZ (aE kf (av aC (by rfl) T.bx a7 (ae (pv 4) ah)) aq (aL _))
   (aA (gf rfl jg (iV T.b5 T.jz (by rfl) T.kX (ae bI ah))))
   aP)
     (aj (aJ (i:=5) sc_read_house.nd rfl (Or.inl rfl) (aQ (ux T) hr.mo (by rfl) T.wU T.oQ.kp T.xv .nil AB (ae (bf aX (pv 4) aq (λ_ _=>rfl)) ah)))
     (aj (aZ (aE vh (pv 5) (pv 2) (aL _))
   (aA (gf rfl jg (iV T.b5 T.jz (by rfl) T.kX (ae bI ah))))
   aP)
     (aj (aS (aK (pv 1) T.au T.nY (ir T) hr.mo T.oA .nil ay (ae (pv 5) (ae (aQ (ux T) hr.mo (by rfl) T.wU T.oQ.kp T.xv .nil AB (ae (bf aX (pv 4) aq (λ_ _=>rfl)) ah)) ah))))
     (aH (aJ (i:=2) sc_read_house.nd rfl (Or.inl rfl) (pv 5)) ?_)))))
  intros
  refine aH (aG (pv 1)) ?_
  intros
  rcases h with⟨z,rfl,zl,zn,q1,I⟩|⟨x,ty,rfl,ht,hk,q⟩
  case inr=>
   refine⟨_,rfl,_,_,_,_,rfl,ht,hk,false,rfl,dM ?_⟩;exact fO T.b5 (Same.refl _) q
  refine⟨_,rfl,_,_,_,_,rfl,TyOf.str _,Aa.1,true,rfl,cq ?_⟩;unfold gH
  (try dsimp only)
  refine λa dx na nd an=>⟨a,dx,rfl,ai,λH1 F1 A1 f1=>⟨rfl,?_⟩⟩;have o1:∀b o,H b=some o->H1 b=some o/\¬F1 b:=λb o e=>f1 b o (ao e na) (by rw[ag (ao e na),ag (ao e nd)];exact e);have J1:HoP K t H1 a F1 HSt.new []:=⟨A1,rfl,(λp hp=>absurd hp QR),rfl,(λp hp=>absurd hp QR),by decide⟩
  (try dsimp only)
  refine⟨_,rfl,rfl,_,rfl,?_⟩;by_cases ze:z=("":Str)
  .refine qv (by rw[ze]) ⟨_,rfl,q1 [] (by unfold rdT;rw[if_pos ze]) H1 a F1 _ J1 Rd64.new o1⟩
  refine bL (λy=>ze (V.str.inj y)) ?_
  (try dsimp only)
  unfold rdT at q1 I;rw[if_neg ze]at q1 I;refine⟨_,rfl,?_⟩
  (try dsimp only)
  refine⟨_,rfl,rfl,_,_,rfl,rfl,by decide+kernel,zl,λl nl=>?_⟩;rw[show(Str.ofString "\n")=("\n":Str) from rfl];have wl:∀y∈Txt.split z ("\n":Str),y.length<=100000:=λy hy=>QL (xV (by decide+kernel) hy) zl;generalize Txt.split z ("\n":Str)=zs at wl zn q1 I⊢;have s2:=am (o:= .lst (zs.map V.str)) nl;have h2:upd H1 l (.lst (zs.map V.str)) l=some (.lst (zs.map V.str)):=ai;have a4:¬F1 l:=A1.out nl;have J2:=J1.to (A1.same s2);generalize upd H1 l (.lst (zs.map V.str))=H2 at s2 h2 J2⊢;have o2:∀b o,H b=some o->H2 b=some o/\¬F1 b:=λb o e=>⟨s2 _ _ (o1 b o e).1,(o1 b o e).2⟩;refine⟨l,rfl,⟨_,SqL.of h2⟩,i6 (K:=K) (a:=l) (xs:=zs.map V.str) (λi σ H'=>∃(F':Addr->Prop) (x':HSt) (ps:List (Int×Int)) (last:Int) (v3 v4 v5:Option V),σ=[some (.str z),some (.ref a),some (.int last),v3,v4,v5]/\HoP K t H' a F' x' ps/\Rd64 x' ps/\bK (ps.map (·.1))/\(∀p∈ps,p.1<=last)/\-1<=last/\ps.length=i/\x'.now+x'.ma<=i/\bW (-1) zs=(bW last (zs.drop i)).map (ps++ ·)/\H' l=some (.lst (zs.map V.str))/\¬F' l/\∀b o,H b=some o->H' b=some o/\¬F' b) ?_ (λi σ H' _ w=>?_) (λi u σ H' hu w=>?_) (λσ H' w=>?_)⟩
  .refine⟨F1,_,[],-1,none,none,none,rfl,J2,Rd64.new,List.Pairwise.nil,(λp hp=>absurd hp QR),by decide,rfl,by decide,?_,h2,a4,o2⟩;rw[Zk];cases bW (-1) zs<;>rfl
  .obtain⟨F',x',ps,last,v3,v4,v5,rfl,J,R,up,le,l1,ln,mo,O,hl,U,o'⟩:=w;exact SqL.of hl
  .obtain⟨F',x',ps,last,v3,v4,v5,rfl,J,R,up,le,l1,ln,mo,O,hl,U,o'⟩:=w;have sm:Same H H':=λb o e=>(o' b o e).1;rw[Qc]at hu;cases cy:zs[i]? with
   |none=>rw[cy]at hu;cases hu
   |some y=>
    rw[cy]at hu;cases hu;have hi:=(Q2.mp cy).1;have dy:zs.drop i=y::zs.drop (i+1):=by
     rw[QQ hi,(Q2.mp cy).2]
    rw[dy]at O;have yl:=wl y (Q1 cy);have no:bW last (y::zs.drop (i+1))=none->bW (-1) zs=none:=λh=>by rw[O,h];rfl
    unfold pZ
    (try dsimp only)
    refine⟨_,rfl,rfl,_,_,rfl,rfl,by decide+kernel,yl,λlw nw=>?_⟩;rw[show(Str.ofString " ")=(" ":Str) from rfl];have ww:∀w∈Txt.split y (" ":Str),w.length<=100000:=λw hw=>QL (xV (by decide+kernel) hw) yl;generalize es:Txt.split y (" ":Str)=ws at ww⊢;have s3:=am (o:= .lst (ws.map V.str)) nw;have h3:upd H' lw (.lst (ws.map V.str)) lw=some (.lst (ws.map V.str)):=ai;have J3:=J.to (J.A.same s3);have ap:¬F' lw:=J.A.out nw;generalize upd H' lw (.lst (ws.map V.str))=H3 at s3 h3 J3⊢;have Y:=sm.trans s3
    (try dsimp only)
    refine⟨_,rfl,lw,_,rfl,.inl (SqL.of h3),rfl,_,rfl,?_⟩;by_cases Z:ws.length=2
    .refine sY (by rw[Q0,Z];rfl) ?_;obtain⟨w0,w1,rfl⟩:∃w0 w1,ws=[w0,w1]:=by
      rcases ws with _|⟨w0,_|⟨w1,_|⟨w2,r⟩⟩⟩
      .cases Z
      .cases Z
      .exact⟨_,_,rfl⟩
      .simp at Z
     (try dsimp only)
     refine⟨_,rfl,lw,_,_,_,rfl,rfl,SqL.of h3,rfl,.inl ⟨w0,rfl,ww w0 Q6,λha k H4 rk s4=>?_,λha=>(I (no (rZ (by rw[iT es,if_neg (by rw[ha];decide)])))).on Y⟩⟩;have a0:=Y.trans s4;have J4:=J3.to (J3.A.same s4);have h4:=s4 _ _ h3
     (try dsimp only)
     refine⟨_,rfl,_,rfl,_,_,rfl,rfl,_,rfl,oh (λc=>?_) (λc=>?_)⟩
     .have c:=of_decide_eq_true c;exact fO T.b5 a0 (I (no (Fk es ha rk (by lia))))
     .have c:last<k:=by
       rcases Int.lt_or_le last k with g|g
       .exact g
       .exact absurd (decide_eq_true g) c
      (try dsimp only)
      obtain⟨dh,fh,hh,a5,_⟩:=J4.A.ins;refine⟨_,rfl,a,dh,fh,rfl,hh,a5 _ (by decide+kernel),_,rfl,_,rfl,lw,_,_,_,rfl,rfl,SqL.of h4,rfl,.inl ⟨w1,rfl,ww w1 (Q8 _ Q6),λhb v H5 rv s5=>?_,λhb=>(I (no (rZ (by rw[iT es,if_pos ha,if_neg (by rw[hb];decide)])))).on a0⟩⟩;have J5:=J4.to (J4.A.same s5);obtain⟨k',a1,_,k1,_⟩:=tQ ha;obtain⟨v',a2,v0,v1,_⟩:=tQ hb;rw[rk]at a1;rw[rv]at a2;cases a1;cases a2;refine⟨a,k,v,F',x',rfl,J5.A,by lia,by lia,λH6 F6 aw r6 q6 ax A6 N6 f6=>?_⟩;obtain⟨J6,aa⟩:=J5.put (k:=k) (v:=v) A6 rfl up (λp hp=>by have:=le p hp;lia) ⟨by lia,k1,v0,v1⟩ (by lia);have a3:=(s3.trans s4).trans s5;obtain⟨ac,af⟩:=f6 _ _ U (a3 _ _ hl)
      (try dsimp only)
      refine⟨_,rfl,F6,_,ps++ [(k,v)],k,_,_,_,rfl,J6,R.put (λp hp=>by have:=le p hp;lia) N6,aa,λp hp=>?_,by lia,by rw[Qd,ln];rfl,by show x'.now+1+x'.ma<=_;lia,?_,ac,af,λb o e=>f6 _ _ (o' b o e).2 (a3 _ _ (o' b o e).1)⟩
      .rcases Q5.mp hp with hp|hp
       .have:=le p hp;lia
       .rw[Qa.mp hp];exact X8 _
      .rw[O,Hb es ha rk hb rv c];cases bW k (zs.drop (i+1))with
       |none=>rfl
       |some r=>show some (ps++(k,v)::r)=some (ps++ [(k,v)]++r);rw[Qm];rfl
    .exact HG (λe=>Z (by have:=V.int.inj e;rw[Q0]at this;lia)) (fO T.b5 Y (I (no (rZ (BM es Z)))))
  .obtain⟨F',x',ps,last,v3,v4,v5,rfl,J,R,up,le,l1,ln,mo,O,hl,U,o'⟩:=w;rw[Q0,List.drop_length]at O;exact⟨_,rfl,q1 ps (by rw[O];show some (ps++ [])=_;rw[Xg]) H' a F' x' J R o'⟩
def drw (c k:Int):Int:=((c+7919*k+1)*48271%2147483647)*(((c+7919*k+1)*48271%2147483647)/1009+69621)%2147483647
def uc:Sp:=λvs H Q _=>∃c k:Int,vs=[.int c,.int k]/\Q (.int (drw c k)) H
theorem iq (T:Txt K mg t):aV P w K mg base CX0 1 t.oH t.jE ["_law_cell","_law_k"] uc:=by
 refine T.bY.okl sc__law_drawn λ_ _ _ s H vs Q E hr h=>?_;intro X;obtain⟨c,k,rfl,q⟩:=h;refine aj (aJ (i:=2) sc__law_drawn.nd rfl (Or.inl rfl) (aR cf (aR gg (aR bJ (aR bJ (pv 0) (aR gg aq (pv 1))) aq) aq) aq))
   (aH (aG (aR cf (aR gg (pv 2) (aR bJ (aR jw (pv 2) aq) aq)) aq)) ?_)
 intros
 have I:(0:Int)<2147483647:=by decide
 have U:∀z:Int,0<=z%2147483647/\z%2147483647<2147483647:=λz=>⟨QC _ (by decide),QE _ (by decide)⟩;refine⟨_,rfl,_,rfl,_,_,rfl,rfl,.inl ⟨by decide,by decide⟩,_,_,rfl,rfl,_,_,rfl,rfl,_,_,rfl,rfl,.inr ⟨by decide,by decide⟩,_,_,rfl,rfl,I,?_⟩;unfold drw at q;dsimp only;generalize ((c+7919*k+1)*48271)=O at q⊢;obtain⟨Y,Z⟩:=U O;generalize O%2147483647=z1 at Y Z q⊢;exact⟨_,rfl,_,rfl,_,_,rfl,rfl,⟨by decide,by decide⟩,_,_,rfl,rfl,_,_,rfl,rfl,.inl ⟨by lia,by lia⟩,_,_,rfl,rfl,I,q⟩
def xY (K:PySem.W.Frag):Sp:=λvs H Q _=>∃c:Int,vs=[.int c]/\∀(H':Hp) (z:Int),Same H H'->0<=z->z<10^40->Q (.int z) H'
theorem yk (T:Txt K mg t):aV P w K mg base CX0 2 t.tT t.mX ["_law_cell"] (xY K):=by
 refine T.Al.okl sc__law_key λ_ _ _ s H vs Q E Y h=>?_;intro X;obtain⟨c,rfl,q⟩:=h;refine aj (aJ (i:=1) sc__law_key.nd rfl (Or.inl rfl) (aQ (iq T) Y.mo (by rfl) T.cG T.bY.kp T.cI .nil ay (ae (pv 0) (ae aq ah))))
   (aj (aJ (i:=2) sc__law_key.nd rfl (Or.inl rfl) (aR cf (aQ (iq T) Y.mo (by rfl) T.cG T.bY.kp T.cI .nil ay (ae (pv 0) (ae aq ah))) aq))
   (aH (aG (bf aX (dH (ae (aR cf (pv 1) aq) (ae (aR cf (pv 1) aq) (ae (aR bJ (aR cf (pv 1) aq) (aR gg aq (aR cf (aR jw (pv 1) aq) aq))) (ae (aR cf (pv 0) (aR mM (aR zN aq aq) aq)) ah))))) (pv 2) (λ_ _=>rfl))) ?_))
 intros
 refine⟨_,rfl,c,1,rfl,?_⟩
 (try dsimp only)
 generalize drw c 1=n;refine⟨_,rfl,c,2,rfl,_,_,rfl,rfl,(by show(0:Int)<4;decide),?_⟩
 (try dsimp only)
 have I:(0:Int)<10^(40:Int).toNat-100:=by decide
 have O:(10:Int)^(40:Int).toNat=10^40:=rfl;have U:∀(z m:Int),0<m->0<=z%m/\z%m<m:=λz m h=>⟨QC _ (Z7 h),QE _ h⟩;have a1:=U n 10 (by decide);have a2:=U n 61 (by decide);have a3:=U n 6 (by decide);have a4:=U (n/6) 5 (by decide);have Z:=U c _ I;rw[O]at Z;obtain⟨z,hz,z0,z1⟩:=IU (c:=drw c 2) (n:=4) (L:=[.int (n%10),.int (n%61),.int (n%6+65536*(n/6%5)),.int (c%(10^(40:Int).toNat-100))]) (P:=λm=>0<=m/\m<10^40) ⟨⟨by lia,by lia⟩,⟨by lia,by lia⟩,⟨by lia,by lia⟩,⟨Z.1,by rw[O];lia⟩,trivial⟩ rfl (by decide);refine⟨_,rfl,_,_,rfl,rfl,(by show(0:Int)<10;decide),_,rfl,_,_,rfl,rfl,(by show(0:Int)<61;decide),_,rfl,_,_,rfl,rfl,(by show(0:Int)<6;decide),_,rfl,_,_,rfl,rfl,⟨by decide,by decide⟩,_,_,rfl,rfl,(by show(0:Int)<5;decide),_,_,rfl,rfl,.inl ⟨by decide,by decide⟩,_,_,rfl,rfl,_,rfl,_,_,rfl,rfl,⟨by decide,by decide,by decide⟩,_,_,rfl,rfl,_,_,rfl,rfl,I,(by show 4<=sizeLine;decide),λp np=>?_⟩;exact⟨_,rfl,p,_,_,_,rfl,rfl,SqL.of ai,hz,q _ z (am np) z0 z1⟩
def vlu (c:Int):Int:=if drw c 3%2=0 then drw c 4%7-3 else c*31%(2*10^(40:Int).toNat-1)-(10^(40:Int).toNat-1)
theorem GR (c:Int): -(10^40)<vlu c/\vlu c<10^40:=by
 unfold vlu;have z:(10:Int)^(40:Int).toNat=10^40:=rfl;split
 .have:=QC (drw c 4) (show(7:Int)≠0 by decide);have:=QE (drw c 4) (show(0:Int)<7 by decide);exact⟨by lia,by lia⟩
 .have I:(0:Int)<2*10^(40:Int).toNat-1:=by decide
  have:=QC (c*31) (Z7 I);have:=QE (c*31) I;rw[z]at*;exact⟨by lia,by lia⟩
def ua:Sp:=λvs H Q _=>∃c:Int,vs=[.int c]/\Q (.int (vlu c)) H
theorem uz (T:Txt K mg t):aV P w K mg base CX0 2 t.oG t.jD ["_law_cell"] ua:=by
 refine T.oS.okl uq λ_ _ _ s H vs Q E I h=>?_;intro X;obtain⟨c,rfl,q⟩:=h;refine dn (λx=>aZ (aE gP (aR cf (aQ (iq T) I.mo (by rfl) T.cG T.bY.kp T.cI .nil ay (ae (pv 0) (ae aq ah))) aq) aq (aL _)) x aP) ?_;refine aH (aG (aR mM (aR cf (aQ (iq T) I.mo (by rfl) T.cG T.bY.kp T.cI .nil ay (ae (pv 0) (ae aq ah))) aq) aq)) ?_
 intros
 refine aH (aG (aR mM (aR cf (aR gg (pv 0) aq) (aR mM (aR gg aq (aR zN aq aq)) aq)) (aR mM (aR zN aq aq) aq))) ?_
 intros
 unfold vlu at q;refine⟨_,rfl,c,3,rfl,_,_,rfl,rfl,(by show(0:Int)<2;decide),rfl,_,rfl,oh (λz=>?_) (λz=>?_)⟩
 .rw[if_pos (V.int.inj (of_decide_eq_true z))]at q;exact⟨_,rfl,c,4,rfl,_,_,rfl,rfl,(by show(0:Int)<7;decide),_,_,rfl,rfl,q⟩
 .rw[if_neg λy=>z (decide_eq_true (congrArg V.int y))]at q;exact⟨_,rfl,_,_,rfl,rfl,.inr ⟨by decide,by decide⟩,_,_,rfl,rfl,⟨by decide,by decide,by decide⟩,_,_,rfl,rfl,.inl ⟨by decide,by decide⟩,_,_,rfl,rfl,_,_,rfl,rfl,(by show(0:Int)<2*10^(40:Int).toNat-1;decide),_,_,rfl,rfl,⟨by decide,by decide,by decide⟩,_,_,rfl,rfl,_,_,rfl,rfl,q⟩
def Wh (F:Addr->Prop) (d:Addr):Addr->Prop:=λb=>F b\/b=d
theorem Fr.wh {d:Addr} (f:Fr F F' H H'):Fr (Wh F d) (Wh F' d) H H':=λb o n I=>⟨(f b o (λz=>n (.inl z)) I).1,λz=>z.elim (f b o (λz=>n (.inl z)) I).2 λz=>n (.inr z)⟩
theorem Fr.wd {d:Addr}:Fr (Wh F d) (Wh F d) H (upd H d o):=λb o n I=>⟨by rw[ag λz=>n (.inr z)];exact I,n⟩
def Gh (p:Int×V):Prop:=0<=p.1/\p.1<10^41/\∃i:Int,p.2= .int i/\-(10^40)<i/\i<10^40
structure J64 (K:PySem.W.Frag) (t:Adr) (H:Hp) (a d:Addr) (F:Addr->Prop) (x:HSt):Prop where
 A:HoA K t H a F x
 di:H d=some (.dK (aN x.st.kv))
 nF:¬F d
 bd:∀p∈x.st.kv,Gh p
 ma:x.ma=0
theorem J64.same {d:Addr} {x:HSt} (J:J64 K t H a d F x) (s:Same H H'):J64 K t H' a d F x:=⟨J.A.same s,s _ _ J.di,J.nF,J.bd,J.ma⟩
theorem Ib {kv:List (Int×V)} {i:Int} (h:∀p∈kv,Gh p) (b:Gh (k,.int i)):∀p∈bj kv k (.int i),Gh p:=λp hp=>by
 rcases DH hp with h1|h1
 .exact h p h1
 .rw[h1];exact b
def wk (K:PySem.W.Frag) (t:Adr):Sp:=λvs H Q _=>∃(a d:Addr) (c:Int) (F:Addr->Prop) (x:HSt),vs=[.ref a,.ref d,.int c]/\J64 K t H a d F x/\x.now<=2000/\
 ∀(H':Hp) (F':Addr->Prop) (x':HSt),J64 K t H' a d F' x'->x'.now<=x.now+30->(x'.st.kv.length<=x.st.kv.length+1\/x'.st.kv.length<=230)->Fr (Wh F d) (Wh F' d) H H'->Q .non H'
theorem wL (T:Txt K mg t):aV P w K mg base CX0 7 t.p8 t.kE ["_law_house","_law_plain","_law_cell"] (wk K t):=by
 refine T.y9.okl sc__law_deed λ_ _ _ s H vs Q E I h=>?_;intro X;obtain⟨a,d,c,F,x,rfl,J,l1,q⟩:=h;refine aj (aJ (i:=3) sc__law_deed.nd rfl (Or.inl rfl) (aR cf (aQ (iq T) I.mo (by rfl) T.cG T.bY.kp T.cI .nil ay (ae (pv 2) (ae aq ah))) aq))
   (aj (aJ (i:=4) sc__law_deed.nd rfl (Or.inl rfl) (aQ (yk T) I.mo (by rfl) T.Hw T.Al.kp T.Ig .nil ay (ae (pv 2) ah)))
   (aj (aJ (i:=5) sc__law_deed.nd rfl (Or.inl rfl) (av (fI I.hd) (by rfl) T.fQ dt (ae (mL QH Zv ZS qF (pv 1)) ah)))
   (dn (λx=>aZ (PW.pt (j5 (aE fg (pv 3) aq (aL _)) (gM (aE (Do K rfl I.u20) (pv 5) (dH ah) (aL _))))) x aP) ?_)))
 refine aj (aJ (i:=4) sc__law_deed.nd rfl (Or.inl rfl) (bf aX (pv 5) (aR cf (aQ (iq T) I.mo (by rfl) T.cG T.bY.kp T.cI .nil ay (ae (pv 2) (ae aq ah))) (av aC (by rfl) T.bx a7 (ae (pv 5) ah))) (λ_ _=>rfl)))
   (aj (aS (aK (pv 0) T.au T.uG (ko T) I.mo T.uQ .nil ay (ae (pv 4) ah)))
   (aj (aS (cJ QH Xk PySem.F.type_dict_pop AG (pv 1) (ae (pv 4) ah)))
   (aH kS ?_)))
 intros
 refine aj (aJ (i:=6) sc__law_deed.nd rfl (Or.inl rfl) aq)
   (dn (λx=>aZ (PW.pt (j5 (aE gP (pv 3) aq (aL _)) (gM (aE fg (av vN (by rfl) T.bx a7 (ae (pv 1) ah)) aq (aL _))))) x aP) ?_)
 refine aH (aJ (i:=6) sc__law_deed.nd rfl (Or.inl rfl) (aR bJ aq (aR cf (aQ (iq T) I.mo (by rfl) T.cG T.bY.kp T.cI .nil ay (ae (pv 2) (ae aq ah))) aq))) ?_
 intros
 refine vj (λx=>(eh PassesOwn.never rfl (kU (by rfl) T.qz (ae (pv 6) ah)) (bO (i:=7) sc__law_deed.nd rfl (Or.inl rfl))
    x)) ?_
 refine aj (aS (aK (pv 0) T.au T.nY (ir T) I.mo T.oA .nil ay (ae (aR bJ (pv 4) (aR gg aq (pv 7))) (ae (aQ (uz T) I.mo (by rfl) T.wW T.oS.kp T.xy .nil ay (ae (aR bJ (pv 2) (pv 7)) ah)) ah))))
   (aH (wF (fq I) (pv 1) (aR bJ (pv 4) (aR gg aq (pv 7))) (aQ (uz T) I.mo (by rfl) T.wW T.oS.kp T.xy .nil ay (ae (aR bJ (pv 2) (pv 7)) ah)) rfl) ?_)
 intros
 have m0:=J.ma;have n0:=J.A.ok.n0;have sl:=J.A.ok.sl;refine⟨_,rfl,c,5,rfl,_,_,rfl,rfl,(by show(0:Int)<10;decide),?_⟩
 (try dsimp only)
 generalize drw c 5%10=way;refine⟨_,rfl,c,rfl,λH1 ky s1 k0 k1=>?_⟩;have J1:=J.same s1
 (try dsimp only)
 refine⟨_,rfl,.inr (.inr (.inl ⟨rfl,.inl ⟨_,J1.di⟩⟩)),d,_,rfl,rfl,J1.di,λvw nv=>⟨vw,d,_,x.st.kv.map (·.1),rfl,ai,am nv _ _ J1.di,i4,λO ms nl pm pw=>?_⟩⟩;have s3:=(am (o:=vwK vw d) nv).trans (am (o:= .lst (ms.map V.int)) nl);have hl:upd (upd H1 vw (vwK vw d)) O (.lst (ms.map V.int)) O=some (.lst (ms.map V.int)):=ai
 (try dsimp only)
 generalize upd (upd H1 vw (vwK vw d)) O (.lst (ms.map V.int))=H3 at s3 hl⊢;have J3:=J1.same s3;have Z:=s1.trans s3;clear nv nl s3 J1 s1;refine qE (λσ H'=>σ=[some (.ref a),some (.ref d),some (.int c),some (.int way),some (.int ky),some (.ref O),none,none]/\Same H3 H') (λnx Y=>?_) (λσ H4 w=>?_)
 .refine⟨_,rfl,_,_,rfl,rfl,_,rfl,oh (λz=>?_) (λz=>cq (Y _ _ ⟨rfl,Same.refl _⟩))⟩;refine⟨_,rfl,Qi _,λr0 a0=>⟨O,r0,_,rfl,rfl,SqL.of (am a0 _ _ hl),SqL.of ai,_,rfl,?_⟩⟩;have s5:=am (o:= .lst []) a0;generalize upd H3 r0 (.lst [])=H5 at s5⊢;by_cases em:ms=[]
  .rw[em];exact cq (Y _ _ ⟨rfl,s5⟩)
  .have a2:(ms.map V.int).isEmpty=false:=by
    cases ms with
    |nil=>exact absurd rfl em
    |cons g r=>rfl
   rw[a2];have J5:=J3.same s5;have a1:=s5 _ _ hl;have p0:(0:Int)<((ms.map V.int).length:Int):=by
    cases ms with
    |nil=>exact absurd rfl em
    |cons g r=>simp
   have z0:=QC (drw c 6) (Z7 p0);have z1:=QE (drw c 6) p0;obtain⟨y,hy,ey⟩:∃y,y∈ms/\atI (ms.map V.int) (drw c 6%((ms.map V.int).length:Int))=some (.int y):=by
    rw[Q0]at z0 z1⊢;refine⟨_,?_,tM z0 z1⟩;rw[Ql,Q3 (by lia)];exact Zr _
   have hg:y∈x.st.kv.map (·.1):=pm.mem_iff.mp hy;obtain⟨v,ev⟩:=X9.mp (mem_keys.mp hg);obtain⟨p,hp,ep⟩:=Q7.mp hg;have y0:0<=y:=by rw[<-ep];exact(J.bd p hp).1
   obtain⟨a3,a4,a5,aa,_⟩:=J5.A.ins;refine dM ⟨_,rfl,_,rfl,c,6,rfl,_,rfl,O,_,rfl,.inl (SqL.of a1),_,_,rfl,rfl,p0,O,_,_,_,rfl,rfl,SqL.of a1,ey,?_⟩
   (try dsimp only)
   refine⟨_,rfl,a,a3,a4,rfl,a5,aa _ (by decide+kernel),_,rfl,a,y,F,x,rfl,J5.A,y0,by lia,λ_ H7 F7 ap r7 q7 aw A7 N7 f7=>?_,λz=>by rw[ev]at z;cases z⟩;obtain⟨d7,n7⟩:=f7 _ _ J5.nF J5.di
   (try dsimp only)
   refine⟨_,rfl,.inr (.inr (.inl ⟨rfl,.inl ⟨_,d7⟩⟩)),_,rfl,d,_,Sum.inl y,v,rfl,rfl,d7,liftK_val.trans ev,?_⟩;rw[sS];have ek:(x.st.drop y).kv=bE x.st.kv y:=SSt.three_kv;refine q _ F7 _ ⟨A7.upd n7 (λxs z=>by rw[d7]at z;cases z),(by rw[ai];exact congrArg (λkv=>some (HO.dK (aN kv))) ek.symm),n7,λp hp=>?_,m0⟩ (by show x.now+1<=_;lia) (.inl (by show(x.st.drop y).kv.length<=_;rw[ek];unfold bE;have:=QF (λp:Int×V=>decide (p.1≠y)) x.st.kv;exact Nat.le_succ_of_le (QF _ _))) (((Fr.of_same (Z.trans s5)).trans f7.wh).trans Fr.wd);change p∈(x.st.drop y).kv at hp;rw[ek]at hp;exact J.bd p (X1.mp hp).1
 obtain⟨rfl,s4⟩:=w;have J4:=J3.same s4;have ac:=Z.trans s4;clear J3 Z hl pm pw;refine qE (λσ H'=>σ=[some (.ref a),some (.ref d),some (.int c),some (.int way),some (.int ky),some (.ref O),some (.int 1),none]/\H'=H4) (λnx Y=>Y _ _ ⟨rfl,rfl⟩) (λσ H6 w=>?_);obtain⟨rfl,rfl⟩:=w;refine qE (λσ H'=>∃m:Int,1<=m/\m<=30/\(m=1\/x.st.kv.length<200)/\σ=[some (.ref a),some (.ref d),some (.int c),some (.int way),some (.int ky),some (.ref O),some (.int m),none]/\H'=H6) (λnx Y=>?_) (λσ H7 w=>?_)
 .refine⟨_,rfl,rfl,_,rfl,oh (λ_=>?_) (λ_=>cq (Y _ _ ⟨1,by decide,by decide,.inl rfl,rfl,rfl⟩))⟩;refine⟨_,rfl,d,_,rfl,J4.di,_,_,rfl,rfl,_,rfl,oh (λlt=>?_) (λ_=>Y _ _ ⟨1,by decide,by decide,.inl rfl,rfl,rfl⟩)⟩;have e0:=QC (drw c 6) (show(30:Int)≠0 by decide);have e1:=QE (drw c 6) (show(0:Int)<30 by decide);exact⟨_,rfl,c,6,rfl,_,_,rfl,rfl,(by show(0:Int)<30;decide),_,_,rfl,rfl,Y _ _ ⟨1+drw c 6%30,by lia,by lia,.inr (by have lt:=of_decide_eq_true lt;rw[b7]at lt;lia),rfl,rfl⟩⟩
 obtain⟨m,g0,g1,g2,rfl,rfl⟩:=w;refine⟨_,rfl,m,rfl,by lia,by lia,tD (n:=m.toNat) (λj σ H'=>∃(F':Addr->Prop) (x':HSt) (v7:Option V),σ=[some (.ref a),some (.ref d),some (.int c),some (.int way),some (.int ky),some (.ref O),some (.int m),v7]/\J64 K t H' a d F' x'/\x'.now<=x.now+j/\x'.st.kv.length<=x.st.kv.length+j/\Fr (Wh F d) (Wh F' d) H H') ⟨F,x,none,rfl,J4,by lia,by lia,Fr.of_same ac⟩ (λj σ H7 hj w=>?_) (λσ H7 w=>?_)⟩
 .obtain⟨F',x',v7,rfl,U,nw,nk,f'⟩:=w;obtain⟨af,fs',hi',al,_⟩:=U.A.ins;have an:=U.ma;have k2:0<=ky+3*(0+(j:Int))/\ky+3*(0+(j:Int))<10^41:=⟨by lia,by lia⟩;obtain⟨v,ev⟩:∃v,vlu (c+(0+(j:Int)))=v:=⟨_,rfl⟩;have vb:=GR (c+(0+(j:Int)));rw[ev]at vb;refine⟨_,rfl,a,af,fs',rfl,hi',al _ (by decide+kernel),_,rfl,_,rfl,_,_,rfl,rfl,.inl ⟨by decide,by decide⟩,_,_,rfl,rfl,_,rfl,_,rfl,_,_,rfl,rfl,c+(0+(j:Int)),rfl,a,ky+3*(0+(j:Int)),_,F',x',rfl,U.A,k2.1,by lia,λH8 F8 ax r8 q8 az A8 N8 f8=>?_⟩;obtain⟨d8,n8⟩:=f8 _ _ U.nF U.di;have ek:(x'.st.put (ky+3*(0+(j:Int))) (.int v)).kv=bj x'.st.kv (ky+3*(0+(j:Int))) (.int v):=SSt.three_kv;rw[ev]at A8;refine⟨_,rfl,_,rfl,_,_,rfl,rfl,c+(0+(j:Int)),rfl,_,rfl,_,rfl,_,rfl,_,_,rfl,rfl,.inl ⟨by decide,by decide⟩,_,_,rfl,rfl,d,_,rfl,DPut.k (k:=Sum.inl (ky+3*(0+(j:Int)))) d8 (by rw[b7];have:=U.A.ok.sl;exact bi (by lia)),?_⟩;rw[iZ,ev];refine⟨F8,_,_,rfl,⟨A8.upd n8 (λxs z=>by rw[d8]at z;cases z),(by rw[ai];exact congrArg (λkv=>some (HO.dK (aN kv))) ek.symm),n8,λp hp=>?_,an⟩,by show x'.now+1<=_;lia,by show(x'.st.put _ (.int v)).kv.length<=_;rw[ek];have:=cw x'.st.kv (ky+3*(0+(j:Int))) (.int v);lia,(f'.trans f8.wh).trans Fr.wd⟩;change p∈(x'.st.put _ (.int v)).kv at hp;rw[ek]at hp;exact Ib U.bd ⟨k2.1,k2.2,v,rfl,vb.1,vb.2⟩ p hp
 .obtain⟨F',x',v7,rfl,U,nw,nk,f'⟩:=w;exact q H7 F' x' U (by lia) (by lia) f'
theorem HoA.sl {x:HSt} (A:HoA K t H a F x):∃(dx:Addr) (fs:List (Str×V)) (s ds:Addr) (I:List (Str×V)) (Fs:Addr->Prop),H a=some (.ins t.az dx fs)/\fs.lookup ("slots":Str)=some (.ref s)/\H s=some (.ins t.aU ds I)/\(∀m,NoM m->I.lookup m=none)/\SlA K t H s Fs x.st/\∀H' Fs',SlA K t H' s Fs' x.st->Fr Fs Fs' H H'->∃F',HoA K t H' a F' x/\Fr F F' H H':=by
 obtain⟨s,l,wr,p,h,Fs,Fl,B,O,g⟩:=A;obtain⟨dx,U⟩:=B.o.ob;obtain⟨ds,fs,Y,Z⟩:=B.sl.ins;refine⟨dx,_,s,ds,fs,Fs,U,pJ,Y,Z,B.sl,λH' Fs' S' f'=>?_⟩;obtain⟨B1,g1⟩:=B.slots S' f';exact⟨_,⟨s,l,wr,p,h,Fs',Fl,B1,O,λ_=>Iff.rfl⟩,λb o n e=>g1 b o (λz=>n ((g b).mpr z)) e⟩
theorem HoA.apart {z:Addr->Prop} {x:HSt} (A:HoA K t H a F x) (S:SlA K t H b G st) (I:∀c,F c->¬G c) (f:Fr G z H H'):HoA K t H' a F x/\∀c,F c->¬z c:=by
 refine⟨A.keep (λc hc=>?_) λc xs e=>(f c _ (S.notup e) e).1,λc hc=>?_⟩
 .obtain⟨o,e,_⟩:=A.dom hc;rw[e,(f c o (I c hc) e).1]
 .obtain⟨o,e,_⟩:=A.dom hc;exact(f c o (I c hc) e).2
theorem SlA.apart (S:SlA K t H b G st) (I:∀c,F c->¬G c) (f:Fr F F' H H'):SlA K t H' b G st/\∀c,F' c->¬G c:=by
 have k:∀c,G c->H' c=H c/\¬F' c:=λc hc=>by
  obtain⟨o,e⟩:=S.dom hc;obtain⟨O,n⟩:=f c o (λz=>I c z hc) e;exact⟨O.trans e.symm,n⟩
 exact⟨S.frame λc hc=>(k c hc).1,λc hc U=>(k c U).2 hc⟩
theorem AU {ns:List Int}:∀v∈ns.map V.int,Fl v:=λv z=>by
 obtain⟨i,_,rfl⟩:=Q7.mp z;trivial
theorem HoA.pkd {x:HSt} (A:HoA K t H a F x):(x.pa.map (·.k)).Nodup:=by
 obtain⟨s,l,wr,p,h,Fs,Fl,B,O,g⟩:=A;exact B.o.kd
theorem Df {z:List Tp} (iv:∀e∈ts,∃i:Int,e.v= .int i) (Z:ts.map Tp.kv=z.map Tp.kv):(ts.map λe=>V.ref e.p).length=(z.map λe=>V.ref e.p).length/\∀{H:Hp},(∀e∈ts,H e.p=some (.tup [.int e.k,e.v]))->(∀e∈z,H e.p=some (.tup [.int e.k,e.v]))->∀(j:Nat) (u v:V),(ts.map λe=>V.ref e.p)[j]?=some u->(z.map λe=>V.ref e.p)[j]?=some v->Alk K H 4 u v:=by
 refine⟨by have:=congrArg List.length Z;simpa using this,λ{H} h1 h2 j u v hu I=>?_⟩;rw[Qc]at hu I;cases O:ts[j]? with
 |none=>rw[O]at hu;cases hu
 |some x=>
  cases U:z[j]? with
  |none=>rw[U]at I;cases I
  |some y=>
   rw[O]at hu;rw[U]at I;cases hu;cases I;have ee:=congrArg (λl:List (Int×V)=>l[j]?) Z;rw[Qc,Qc,O,U]at ee;have e3:x.kv=y.kv:=Option.some.inj ee;have e4:x.k=y.k:=congrArg Prod.fst e3;have e5:x.v=y.v:=congrArg Prod.snd e3;have hx:=Q1 O;obtain⟨i,ei⟩:=iv x hx;have t1:=h1 x hx;have Y:=h2 y (Q1 U);rw[<-e4,<-e5]at Y;rw[ei]at t1 Y;refine .inr ⟨_,_,_,_,rfl,rfl,.inr ⟨SqT.of t1,SqT.of Y⟩,rfl,λj u v hu I=>?_⟩;rcases j with _|_|j
   .cases hu;cases I;exact .inl ⟨True.intro,rfl⟩
   .cases hu;cases I;exact .inl ⟨True.intro,rfl⟩
   .cases hu
theorem kv_k {f:Int->V} {l:List Tp} (h:∀e∈l,e.v=f e.k):l.map Tp.kv=(l.map (·.k)).map λk=>(k,f k):=by
 rw[Qq];exact QM λe he=>by
  show(e.k,e.v)=(e.k,f e.k);rw[h e he]
structure P64 (K:PySem.W.Frag) (t:Adr) (H:Hp) (a l d:Addr) (F:Addr->Prop) (x:HSt) (ps:List (Int×Int)) (kv:List (Int×V)):Prop where
 A:HoA K t H a F x
 R:Rd64 x ps
 li:H l=some (.lst ((ps.map (·.1)).map V.int))
 di:H d=some (.dK (aN kv))
 nl:¬F l
 nd:¬F d
 kv:∀p∈ps,aO kv p.1=some (.int p.2)
 bd:∀p∈ps,0<=p.1/\p.1<10^60/\-(10^60)<p.2/\p.2<10^60
 up:bK (ps.map (·.1))
 ln:ps.length<=2000
theorem P64.same {l d:Addr} {x:HSt} {kv:List (Int×V)} (J:P64 K t H a l d F x ps kv) (s:Same H H'):P64 K t H' a l d F x ps kv:=⟨J.A.same s,J.R,s _ _ J.li,s _ _ J.di,J.nl,J.nd,J.kv,J.bd,J.up,J.ln⟩
def wj (K:PySem.W.Frag) (t:Adr):Sp:=λvs H Q _=>∃(a l d:Addr) (F:Addr->Prop) (x:HSt) (ps:List (Int×Int)) (kv:List (Int×V)),vs=[.ref a,.ref l,.ref d]/\P64 K t H a l d F x ps kv/\∀(H':Hp) (F':Addr->Prop),HoA K t H' a F' x->Fr F F' H H'->Q (.bl true) H'
theorem BP:(ps.foldl (λst p=>st.put p.1 (.int p.2)) SSt.new).kv.length<=ps.length:=by
 have h:∀(ps:List (Int×Int)) (st:SSt),(ps.foldl (λst p=>st.put p.1 (.int p.2)) st).kv.length<=st.kv.length+ps.length:=λps=>by
  induction ps with
  |nil=>intro st;exact Q4 _
  |cons p r z=>
   intro st;have e:(st.put p.1 (.int p.2)).kv=bj st.kv p.1 (.int p.2):=SSt.three_kv;have h1:=z (st.put p.1 (.int p.2));have h2:=cw st.kv p.1 (.int p.2);rw[e]at h1;rw[K3,Qf];lia
 have:=h ps SSt.new;rwa [show SSt.new.kv.length=0 from rfl,X3]at this
theorem xG (h1:H a=some (.tup xs)) (h2:H b=some (.tup xs)) (fl:∀v∈xs,Fl v):Alk K H (n+1) (.ref a) (.ref b):=
 .inr ⟨a,b,xs,xs,rfl,rfl,.inr ⟨SqT.of h1,SqT.of h2⟩,rfl,λj u v hu z=>by
  rw[hu]at z;cases z;have:=fl u (Q1 hu);cases n with
  |zero=>exact⟨this,rfl⟩
  |succ n=>exact .inl ⟨this,rfl⟩⟩
theorem wK (T:Txt K mg t):aV P w K mg base CX0 8 t.p7 t.kD ["_law_house","_law_keys","_law_plain"] (wj K t):=by
 refine T.y7.okl sc__law_past λ_ _ _ s H vs Q E I h=>?_;intro X;obtain⟨a,l,d,F,x,ps,kv,rfl,J,q⟩:=h;refine aj (aJ (i:=3) sc__law_past.nd rfl (Or.inl rfl) (eU T.Dz (kg T) I.mo (by rfl) T.DD T.uM .nil ay))
   (dn (λx=>(eh PassesOwn.never rfl (kU (by rfl) T.qz (ae (av aC (by rfl) T.bx a7 (ae (pv 1) ah)) ah)) (bO (i:=4) sc__law_past.nd rfl (Or.inl rfl))
    x)) ?_)
 refine aj (aJ (i:=5) sc__law_past.nd rfl (Or.inl rfl) (gO (fq I) (pv 2) (bf aX (pv 1) (pv 4) (λ_ _=>rfl)) (λ_ _=>rfl)))
   (aj (aS (aK (pv 3) T.ax T.wR (lI T) I.mo T.xA .nil ay (ae (bf aX (pv 1) (pv 4) (λ_ _=>rfl)) (ae (pv 5) ah))))
   (aj (aZ (PW.pt (iU (aE (zO K rfl I.u20) (aK (pv 0) T.au T.DI (qt T) I.mo T.Ek .nil ay (ae (bf aX (pv 1) (pv 4) (λ_ _=>rfl)) ah)) (dH (ae (eB (ae (aR bJ (pv 4) aq) (ae (pv 5) ah))) ah)) (aL _)) (io (aE AC (aK (pv 0) T.au T.nW (uC T) I.mo T.oz .nil pA (ae (bf aX (pv 1) (pv 4) (λ_ _=>rfl)) (ae (pv 4) ah))) j7 (aL _)))))
    (aA (aG j9))
    aP)
   (aH (aZ (PW.pt (iU (aE kf (aK (pv 0) T.au T.nW (uC T) I.mo T.oz .nil pA (ae (bf aX (pv 1) (pv 4) (λ_ _=>rfl)) (ae (aR bJ (pv 4) aq) ah))) (pv 5) (aL _)) (io (aE kf (aK (pv 0) T.au T.nW (uC T) I.mo T.oz .nil pA (ae (bf aX (pv 1) (pv 4) (λ_ _=>rfl)) (ae (av aC (by rfl) T.bx a7 (ae (pv 1) ah)) ah))) (pv 5) (aL _)))))
    (aA (aG j9))
    aP) ?_)))
 intros
 refine aj (aZ (PW.pt (iU (aE (Dp K rfl I.u20) (bq (aD (pv 0) rfl) T.ax T.iw (gh T) I.mo T.iQ .nil ay) (bq (pv 3) T.ax T.iw (gh T) I.mo T.iQ .nil ay) (aL _)) (io (aE kf (bq (aD (pv 0) rfl) T.ax T.sQ (qr T) I.mo T.tO .nil ay) (bq (pv 3) T.ax T.sQ (qr T) I.mo T.tO .nil ay) (aL _)))))
    (aA (aG j9))
    aP)
   (aH (aG (eS (Ho K rfl I.u20) (bf kA (aK (pv 0) T.au T.Cc (nQ T) I.mo T.CC .nil pA (ae (av aC (by rfl) T.bx a7 (ae (pv 1) ah)) (ae (eU T.IY (pW T) I.mo (by rfl) T.DB T.yZ.choose_spec.1 T.yZ.choose_spec.2 ay) (ae aq ah)))) aq (λ_ _=>rfl)) (fE rfl (CScope.of (M:=["_law_key_here"]) (N:=["_law_house","_law_keys","_law_plain","_law_beside","_law_k","_law_value_here"]) (N':=["_law_house","_law_keys","_law_plain","_law_beside","_law_k","_law_value_here"]) (dsc:=ak gL) rfl rfl (by decide+kernel)) (bN (dG gI (pv 1) fB (fA aq))) (λ_ _ _ _ _=>(eB (ae (pv 0) (ae (gO (fq I) (pv 3) (pv 0) (λ_ _=>rfl)) ah))))) (aL _))) ?_)
 intros
 refine λb db nb bt bv=>⟨b,db,rfl,ai,?_,λH1 G A1 f1=>⟨rfl,?_⟩⟩
 .rw[ag (by first|exact bv|exact Ne.symm bv),ai]
 have o1:∀c o,H c=some o->H1 c=some o/\¬G c:=λc o e=>f1 c o (λz=>z.elim (λz=>by rw[z,nb]at e;cases e) λz=>by rw[z,bt]at e;cases e) (by rw[ag (ao e nb),ag (ao e bt)];exact e);have J1:=J.same λc o e=>(o1 c o e).1;have ct:∀c,F c->¬G c:=λc hc=>by
  obtain⟨o,e,_⟩:=J.A.dom hc;exact(o1 c o e).2
 have gl:=(o1 _ _ J.li).2;have gd:=(o1 _ _ J.di).2;have ln:=J.ln
 (try dsimp only)
 refine⟨_,rfl,l,_,rfl,.inl (SqL.of J1.li),(ps.length:Int),(by rw[Q0,Q0]),by lia,by lia,tD (n:=ps.length) (λi σ H'=>∃(G':Addr->Prop) (v4 v5:Option V),σ=[some (.ref a),some (.ref l),some (.ref d),some (.ref b),v4,v5]/\P64 K t H' a l d F x ps kv/\SlA K t H' b G' ((ps.take i).foldl (λst p=>st.put p.1 (.int p.2)) SSt.new)/\(∀c,F c->¬G' c)/\¬G' l/\¬G' d/\∀c o,H c=some o->H' c=some o/\¬G' c) ⟨G,none,none,rfl,J1,A1,ct,gl,gd,o1⟩ (λi σ H' hi w=>?_) (λσ H' w=>?_)⟩
 .obtain⟨G',v4,v5,rfl,J',S',ap,aw,az,Y⟩:=w;obtain⟨p,hp⟩:∃p,ps[i]?=some p:=⟨_,Q3 hi⟩;have pm:=Q1 hp;have pb:=J.bd p pm;have Z:atI ((ps.map (·.1)).map V.int) (0+(i:Int))=some (.int p.1):=by
   rw[tM (by lia) (by rw[Q0];lia),show(0+(i:Int)).toNat=i by lia,Ql,Qc,hp];rfl
  have dg:DGet H' d (.int p.1) (some (.int p.2)):=by
   have:=DGet.k (k:=Sum.inl p.1) J'.di;rwa [liftK_val.trans (J.kv p pm)]at this
  obtain⟨b1,b2,b3,b4⟩:=S'.ins;have kl:=BP (ps:=ps.take i);rw[Qe]at kl;refine⟨_,rfl,_,rfl,_,rfl,l,_,_,_,rfl,rfl,SqL.of J'.li,Z,d,_,rfl,dg,?_⟩
  (try dsimp only)
  refine⟨_,rfl,b,b1,b2,rfl,b3,b4 _ (by decide+kernel),_,rfl,_,rfl,l,_,_,_,rfl,rfl,SqL.of J'.li,Z,_,rfl,b,p.1,p.2,G',_,rfl,S',pb.1,by lia,λH2 G2 S2 f2=>?_⟩;obtain⟨A2,cx⟩:=J'.A.apart S' ap f2;obtain⟨l2,cy⟩:=f2 _ _ aw J'.li;obtain⟨d2,d0⟩:=f2 _ _ az J'.di;have J2:P64 K t H2 a l d F x ps kv:=⟨A2,J.R,l2,d2,J.nl,J.nd,J.kv,J.bd,J.up,J.ln⟩;have S2:SlA K t H2 b G2 ((ps.take (i+1)).foldl (λst p=>st.put p.1 (.int p.2)) SSt.new):=by
   rw[Qn,hp,XQ];exact S2
  obtain⟨mq,em⟩:=J.R.ml i p hp;obtain⟨d1,d3,d4,d5,_⟩:=A2.ins
  (try dsimp only)
  refine⟨_,rfl,a,d1,d3,rfl,d4,d5 _ (by decide+kernel),_,rfl,_,rfl,l,_,_,_,rfl,rfl,SqL.of l2,Z,a,p.1,F,x,rfl,A2,λH3 r3 s3 n3 h3=>?_⟩;rw[em]at h3;have tm:=s3 _ _ (A2.tu (k:=p.1) (e:=⟨mq,(i:Int)+1,.int p.2⟩) (by rw[em];exact Q6));refine⟨_,rfl,_,_,rfl,rfl,_,rfl,(by show 2<=sizeLine;decide),λtp d8=>⟨(by show 1<=sizeLine;decide),λlp b5=>?_⟩⟩;rw[show(0+(i:Int)+1)=(i:Int)+1 by lia]at b5⊢;have s4:=(am (o:= .tup [.int ((i:Int)+1),.int p.2]) d8).trans (am (o:= .lst [.ref tp]) b5);have h4:upd (upd H3 tp (.tup [.int ((i:Int)+1),.int p.2])) lp (.lst [.ref tp]) lp=some (.lst [.ref tp]):=ai;have h5:upd (upd H3 tp (.tup [.int ((i:Int)+1),.int p.2])) lp (.lst [.ref tp]) tp=some (.tup [.int ((i:Int)+1),.int p.2]):=am b5 _ _ ai;generalize upd (upd H3 tp (.tup [.int ((i:Int)+1),.int p.2])) lp (.lst [.ref tp])=H4 at s4 h4 h5⊢;refine⟨r3,lp,_,_,rfl,rfl,.inl ⟨SqL.of (s4 _ _ h3),SqL.of h4⟩,rfl,λj u v hu hv=>?_,_,rfl,cq ?_⟩
  .cases j with
   |zero=>cases hu;cases hv;exact xG (s4 _ _ tm) h5 (λv hv=>by simp at hv;rcases hv with rfl|rfl<;>trivial)
   |succ j=>cases hu
  have O:=s3.trans s4;have A4:=A2.same O;obtain⟨b6,b8,a0,bb,_⟩:=A4.ins;have now:=J.R.now;have da:=J.R.fl;have wv:∀m:Int,cu (bB x.pa p.1) m=if(i:Int)+1<=m then .int p.2 else .non:=λm=>by
   rw[em];unfold cu;by_cases c:(i:Int)+1<=m
   .simp[c]
   .simp[c]
  refine⟨_,rfl,a,b6,b8,rfl,a0,bb _ (by decide+kernel),_,rfl,_,rfl,l,_,_,_,rfl,rfl,SqL.of (O _ _ l2),Z,_,rfl,a,p.1,_,F,x,rfl,A4,λ_ _=>?_,(λz=>absurd z (by lia)),(λ_ z=>absurd z (by lia))⟩;rw[wv,if_neg (by lia)];refine⟨rfl,_,rfl,Je rfl ?_⟩
  (try unfold gH)
  (try dsimp only)
  refine⟨_,rfl,a,b6,b8,rfl,a0,bb _ (by decide+kernel),_,rfl,_,rfl,l,_,_,_,rfl,rfl,SqL.of (O _ _ l2),Z,_,rfl,_,_,rfl,rfl,a,p.1,_,F,x,rfl,A4,λ_ _=>?_,(λz=>absurd z (by lia)),(λ_ z=>absurd z (by lia))⟩;rw[wv,if_pos (by lia)];refine⟨_,rfl,rfl,_,rfl,?_⟩;rw[decide_eq_true rfl];refine cq ?_;refine⟨_,rfl,a,b6,b8,rfl,a0,bb _ (by decide+kernel),_,rfl,_,rfl,l,_,_,_,rfl,rfl,SqL.of (O _ _ l2),Z,_,rfl,l,_,rfl,.inl (SqL.of (O _ _ l2)),a,p.1,(ps.length:Int),F,x,(by rw[Q0,Q0];rfl),A4,λ_ _=>?_,(λz=>absurd z (by lia)),(λ_ z=>absurd z (by lia))⟩;rw[wv,if_pos (by lia)];refine⟨_,rfl,rfl,_,rfl,?_⟩;rw[decide_eq_true rfl];refine cq ?_;have J4:=J2.same O;exact⟨G2,_,_,rfl,J4,S2.same O,cx,cy,d0,λc o e=>⟨O _ _ (f2 c o (Y c o e).2 (Y c o e).1).1,(f2 c o (Y c o e).2 (Y c o e).1).2⟩⟩
 .obtain⟨G',v4,v5,rfl,J',S',ap,aw,az,Y⟩:=w;rw[Qz]at S'
  (try unfold gH)
  (try dsimp only)
  obtain⟨dc,de,bw,df,bz,dh,dm,dr,du,dv,c0,a1⟩:=J'.A.sl;refine⟨_,rfl,a,_,dc,de,_,rfl,dm,T.au,T.br,dr,bw,df,bz,rfl,du,dv _ (by decide+kernel),bw,dh,x.st,rfl,c0,λH6 dy r6 S6 f6 n6 fb h6=>?_⟩;obtain⟨F6,A6,g6⟩:=a1 H6 dy S6 f6;obtain⟨a2,c1⟩:=S'.apart ap g6;obtain⟨b1,b2,b3,b4⟩:=a2.ins;have st:x.st=ps.foldl (λst p=>st.put p.1 (.int p.2)) SSt.new:=J.R.st;rw[<-st]at a2 S';refine⟨_,rfl,b,b1,b2,rfl,b3,b4 _ (by decide+kernel),b,G',x.st,rfl,a2,λH7 G7 r7 S7 f7 n7 fe h7=>?_⟩;obtain⟨A7,c2⟩:=A6.apart a2 c1 f7;have e0:=S'.out n6;obtain⟨l6,e5⟩:=g6 _ _ J.nl J'.li;obtain⟨d6,e6⟩:=g6 _ _ J.nd J'.di;obtain⟨l7,e7⟩:=f7 _ _ aw l6;obtain⟨d7,e8⟩:=f7 _ _ az d6;refine⟨r6,r7,_,rfl,rfl,SqL.of (f7 _ _ e0 h6).1,SqL.of h7,AU,_,rfl,cq ?_⟩;obtain⟨e9,ea,c3,eb,c4,ec,ed,ee,ef,eg,c5,a3⟩:=A7.sl;refine⟨_,rfl,a,_,e9,ea,_,rfl,ed,T.au,T.br,ee,c3,eb,c4,rfl,ef,eg _ (by decide+kernel),c3,ec,x.st,rfl,c5,λH9 ei S9 f9=>?_⟩;obtain⟨F9,A9,g9⟩:=a3 H9 ei S9 f9;obtain⟨af,c9⟩:=S7.apart c2 g9;obtain⟨ej,el,en,eo⟩:=af.ins;refine⟨_,rfl,b,ej,el,rfl,en,eo _ (by decide+kernel),b,G7,x.st,rfl,af,λH10 ff eq a4=>?_⟩;obtain⟨ca,fa⟩:=A9.apart af c9 a4;obtain⟨l9,er⟩:=g9 _ _ e5 l7;obtain⟨d9,eu⟩:=g9 _ _ e6 d7;obtain⟨cb,_⟩:=a4 _ _ e7 l9;obtain⟨ev,_⟩:=a4 _ _ e8 d9;refine⟨rfl,_,rfl,?_⟩;rw[decide_eq_true rfl];refine cq ?_;have ce:Fr F F9 H H10:=λc o n e=>by
   obtain⟨e1,m1⟩:=Y c o e;obtain⟨e2,n2⟩:=g6 c o n e1;obtain⟨e3,m3⟩:=f7 c o m1 e2;obtain⟨e4,n4⟩:=g9 c o n2 e3;exact⟨(a4 c o m3 e4).1,n4⟩
  have be:P64 K t H10 a l d F9 x ps kv:=⟨ca,J.R,cb,ev,er,eu,J.kv,J.bd,J.up,J.ln⟩;clear eq a4 ca af c9 S9 f9 c5 a3 A7 c2 S7 f7 a2 c1 A6 g6 c0 a1 S' J' J1 A1
  (try unfold gH)
  (try dsimp only)
  have now:=J.R.now;have da:=J.R.fl;have pl:=be.A.ok.pl;have ew:∀e∈x.pa,0<=e.k:=λe he=>by
   obtain⟨y,hy,ey⟩:=Q7.mp ((J.R.pk e.k).mp (QS he));rw[<-ey];exact(J.bd y hy).1
  obtain⟨dx,fs,hi,hm,_⟩:=be.A.ins;refine⟨_,rfl,a,dx,fs,rfl,hi,hm _ (by decide+kernel),_,rfl,l,_,rfl,.inl (SqL.of cb),λp dp np ez fh=>⟨p,dp,0,rfl,by decide,ai,λH11 kp TK=>⟨rfl,?_⟩⟩⟩;have cg:Same H10 H11:=λc o e=>kp c o (λz=>by rw[z,np]at e;cases e) (by rw[ag (λz=>by rw[z,np]at e;cases e),ag (λz=>by rw[z,ez]at e;cases e)];exact e);have bh:=be.same cg;refine⟨a,p,(ps.length:Int),F9,x,(by rw[Q0,Q0];rfl),bh.A,TK rfl,by lia,by lia,by lia,bh.A.pkd,ew,λal r g v ts ks ci I hg tu ri me ek=>?_⟩;have ck:=bh.same ci;refine⟨r,_,_,_,rfl,rfl,SqT.of I,rfl,?_⟩;refine⟨_,rfl,100,rfl,l,_,rfl,SqL.of ck.li,λp2 f0=>?_⟩;rw[kH (by decide),<-Zh,<-Zh,show(100:Int).toNat=100 from rfl];have bl:Same al (upd al p2 (.lst (((ps.take 100).map (·.1)).map V.int))):=am f0;have an:upd al p2 (.lst (((ps.take 100).map (·.1)).map V.int)) p2=some (.lst (((ps.take 100).map (·.1)).map V.int)):=ai;generalize upd al p2 (.lst (((ps.take 100).map (·.1)).map V.int))=f3 at bl an⊢;have co:=ck.same bl;have va:∀y∈ps,cu (bB x.pa y.1) (ps.length:Int)= .int y.2:=λy hy=>by
   obtain⟨i,hi⟩:=Z6.mp hy;obtain⟨mq,em⟩:=J.R.ml i y hi;have:=(Q2.mp hi).1;rw[em];unfold cu;have c:(i:Int)+1<=(ps.length:Int):=by lia
   simp[c]
  have f4:ks=ps.map (·.1):=j3 ri J.up λz=>by
   rw[me,J.R.pk];refine⟨λh=>h.1,λh=>⟨h,λy=>?_⟩⟩;obtain⟨q',f5,rfl⟩:=Q7.mp h;rw[va q' f5]at y;cases y
  have et:ts.map Tp.kv=(ps.take 100).map λy=>(y.1,V.int y.2):=by
   rw[kv_k (f:=λk=>cu (bB x.pa k) (ps.length:Int)) λe he=>(tu e he).2,ek,f4,<-Zh,Qq];exact QM λy hy=>by
    show(y.1,cu (bB x.pa y.1) (ps.length:Int))=(y.1,V.int y.2);rw[va y (QP hy)]
  have tl:(ps.take 100).length<=100:=by rw[Qe];lia
  have tb:∀y∈ps.take 100,aO kv y.1=some (.int y.2):=λy hy=>J.kv y (QP hy);generalize ps.take 100=pt at an et tl tb⊢;refine⟨p2,rfl,⟨_,SqL.of an⟩,λD hD=>?_⟩;refine eG (K:=K) (a:=p2) (xs:=(pt.map (·.1)).map V.int) (λi ys H4=>Same f3 H4/\∃U:List Tp,ys=U.map (λe=>V.ref e.p)/\U.map Tp.kv=(pt.take i).map (λy=>(y.1,V.int y.2))/\∀e∈U,e.p≠D/\H4 e.p=some (.tup [.int e.k,e.v])) ⟨am hD,[],rfl,rfl,λe he=>absurd he QR⟩ (λi ys H4 _ w=>SqL.of (w.1 _ _ an)) (λi y ys H4 hy w a5=>?_) (λys H4 w a5=>?_)
  .obtain⟨s4,U,ey,ac,bn⟩:=w;have a0:i<((pt.map (·.1)).map V.int).length:=(Q2.mp hy).1;have f8:i<pt.length:=by rwa [Q0,Q0]at a0
   obtain⟨y',bo⟩:∃y',pt[i]?=some y':=⟨_,Q3 f8⟩;rw[Qc,Qc,bo]at hy;cases hy;have dg:DGet H4 d (.int y'.1) (some (.int y'.2)):=by
    have:=DGet.k (k:=Sum.inl y'.1) (s4 _ _ co.di);rwa [liftK_val.trans (tb y' (Q1 bo))]at this
   refine⟨_,rfl,_,rfl,_,rfl,d,_,rfl,dg,(by show 2<=sizeLine;decide),λu nu=>?_⟩;have uD:u≠D:=λz=>by rw[z,a5]at nu;cases nu
   have su:Same H4 (upd H4 u (.tup [.int y'.1,.int y'.2])):=am nu;have hu:upd H4 u (.tup [.int y'.1,.int y'.2]) u=some (.tup [.int y'.1,.int y'.2]):=ai;generalize upd H4 u (.tup [.int y'.1,.int y'.2])=H6 at su hu⊢;have fi:U.length<=100:=by
    have:=congrArg List.length ac;rw[Q0,Q0,Qe]at this;lia
   refine CNext.mk a0 (su _ _ a5) (bi (by rw[ey,Q0];lia)) ⟨cU (s4.trans su) hD,U++ [⟨u,y'.1,.int y'.2⟩],by rw[ey,Q9];rfl,by rw[Q9,ac,Qn,bo,Q9];rfl,λe he=>?_⟩;rcases Q5.mp he with he|he
   .obtain⟨t0,t1⟩:=bn e he;exact⟨t0,by rw[ag t0];exact su _ _ t1⟩
   .rw[Qa.mp he];exact⟨uD,by rw[ag uD];exact hu⟩
  .obtain⟨s4,U,ey,ac,bn⟩:=w;rw[Q0,Q0,Qz]at ac;rw[ey]at a5;have iv:∀e∈ts,∃i:Int,e.v= .int i:=λe he=>by
    obtain⟨y,_,ey⟩:=Q7.mp (et▸QS (f:=Tp.kv) he);exact⟨y.2,(congrArg Prod.snd ey).symm⟩
   obtain⟨la,aa⟩:=Df (K:=K) iv (et.trans ac.symm);have bp:=bl.trans s4;exact⟨g,D,_,_,rfl,rfl,.inl ⟨SqL.of (bp _ _ hg),SqL.of a5⟩,la,aa (λe he=>bp _ _ (tu e he).1) (λe he=>(bn e he).2),q _ F9 (co.A.same s4) (ce.trans (Fr.of_same ((cg.trans ci).trans bp)))⟩
def ky2 (H:Hp) (b:Addr):List Int:=match H b with
 |some (.tup [.int i,.int j])=> [i,j]
 |_=> []
def kv2 (H:Hp) (b:Addr):Int×V:=match H b with
 |some (.tup [.int i,.int j])=>(i,.int j)
 |_=>(0,.non)
section
variable {x:Addr} {i j:Int} {as bs cs:List Addr}
theorem z8 (h:H b=some (.tup [.int i,.int j])):ky2 H b=[i,j]:=by
 unfold ky2;rw[h]
theorem wZ (h:H b=some (.tup [.int i,.int j])):kv2 H b=(i,.int j):=by
 unfold kv2;rw[h]
theorem IH (h:∀x∈as,∃i j:Int,H x=some (.tup [.int i,.int j])) (z:bs.Perm as) (O:((as.map (kv2 H)).map (·.1)).Nodup) (pw:bs.Pairwise (λa b=>HT.lexLt (ky2 H b) (ky2 H a)=false)):(bs.map (kv2 H)).Pairwise (λp q=>p.1<q.1):=by
 have U:((bs.map (kv2 H)).map (·.1)).Nodup:=((z.map _).map _).nodup_iff.mpr O;refine Qp.mpr ((pw.and (Qp.mp (Qp.mp U))).imp_of_mem λ{x y} hx hy h2=>?_);obtain⟨i,j,ex⟩:=h x (z.mem_iff.mp hx);obtain⟨i',Y,I⟩:=h y (z.mem_iff.mp hy);obtain⟨h1,h2⟩:=h2;rw[wZ ex,wZ I]at h2⊢;have h2:i≠i':=h2;show i<i';rw[z8 ex,z8 I,HT.lexLt_cons,if_neg (Ne.symm h2)]at h1;have:=of_decide_eq_false h1;lia
end
theorem zI (h:L.Pairwise (λp q=>p.1<q.1)) (I:bK (ps.map (·.1))) (O:∀k v,(k,v)∈L↔∃p∈ps,k=p.1/\v= .int p.2):L=ps.map λp=>(p.1,V.int p.2):=by
 have h2:(ps.map λp=>(p.1,V.int p.2)).Pairwise (λp q=>p.1<q.1):=Qp.mpr (Qp.mp I);refine List.Perm.eq_of_pairwise (le:=λp q:Int×V=>p.1<q.1) (λa b _ _ h1 h2=>absurd h1 (by lia)) h h2 ((KC (h.imp λ{a b} h e=>by rw[e]at h;lia) (h2.imp λ{a b} h e=>by rw[e]at h;lia)).mpr λz=>?_);obtain⟨k,v⟩:=z;rw[O,Q7];constructor
 .rintro ⟨p,hp,rfl,rfl⟩;exact⟨p,hp,rfl⟩
 .rintro ⟨p,hp,e⟩;cases e;exact⟨p,hp,rfl,rfl⟩
structure A64 (K:PySem.W.Frag) (t:Adr) (H:Hp) (a d:Addr) (F:Addr->Prop) (x:HSt) (ps:List (Int×Int)) (kv:List (Int×V)):Prop where
 J:HoP K t H a F x ps
 R:Rd64 x ps
 di:H d=some (.dK (aN kv))
 nd:¬F d
 pm:(ps.map λp=>(p.1,V.int p.2)).Perm kv
 up:bK (ps.map (·.1))
 ln:ps.length<=400
theorem A64.kn {d:Addr} {x:HSt} {kv:List (Int×V)} (B:A64 K t H a d F x ps kv):(kv.map (·.1)).Perm (ps.map (·.1))/\(kv.map (·.1)).Nodup/\∀p∈ps,aO kv p.1=some (.int p.2):=by
 have e:(ps.map λp=>(p.1,V.int p.2)).map (·.1)=ps.map (·.1):=by rw[Qq];rfl
 have h1:=B.pm.map (·.1);rw[e]at h1;have z:(kv.map (·.1)).Nodup:=h1.nodup_iff.mp (B.up.imp λh=>ZR h);refine⟨h1.symm,z,λp hp=>bT z (B.pm.mem_iff.mp (QS hp))⟩
def ud (K:PySem.W.Frag) (t:Adr):Sp:=λvs H Q _=>∃(a d:Addr) (F:Addr->Prop) (x:HSt) (ps:List (Int×Int)) (kv:List (Int×V)),vs=[.ref a,.ref d]/\A64 K t H a d F x ps kv/\∀(H':Hp) (F':Addr->Prop),HoA K t H' a F' x->Fr F F' H H'->Q (.bl true) H'
theorem uA (T:Txt K mg t):aV P w K mg base CX0 9 t.oI t.jF ["_law_house","_law_plain"] (ud K t):=by
 refine T.oU.okl sc__law_alike λ_ _ _ s H vs Q E I h=>?_;intro X;obtain⟨a,d,F,x,ps,kv,rfl,B,q⟩:=h;refine aj (aJ (i:=2) sc__law_alike.nd rfl (Or.inl rfl) (av (fI I.hd) (by rfl) T.fQ dt (ae (mL QH Zv ZS qF (pv 1)) ah)))
   (aj (aZ (PW.pt (iU (aE kf (aD (pv 0) rfl) (av aC (by rfl) T.bx a7 (ae (pv 2) ah)) (aL _)) (iU (aE kf (bq (pv 0) T.au T.lL (gj T) I.mo T.lQ .nil ay) (av aC (by rfl) T.bx a7 (ae (pv 2) ah)) (aL _)) (iU (aE kf (aD (pv 0) rfl) aq (aL _)) (io (aE (Do K rfl I.u20) (bq (pv 0) T.au T.ED (sK T) I.mo T.EN .nil ay) (dH ah) (aL _)))))))
    (aA (aG j9))
    aP)
   (aj (aZ (aE (zO K rfl I.u20) (bq (pv 0) T.au T.DJ (qu T) I.mo T.qy.choose_spec.1 T.qy.choose_spec.2 ay) (fE rfl (CScope.of (M:=["_law_key_here"]) (N:=["_law_house","_law_plain","_law_keys","_law_key_here"]) (N':=["_law_house","_law_plain","_law_keys",""]) (dsc:=ak fw) rfl rfl (by decide+kernel)) (bN (pv 2)) (λ_ _ _ _ _=>(eB (ae bI (ae (pv 0) (ae (gO (fq I) (pv 2) (pv 0) (λ_ _=>rfl)) ah)))))) (aL _))
    (aA (aG j9))
    aP)
   (aj (aZ (PW.pt (iU (aE (Dp K rfl I.u20) (aK (aD (pv 0) rfl) T.aI T.gQ (c8 T) I.mo T.gS .nil ay (ae aq (ae aq ah))) (pv 2) (aL _)) (io (aE (zO K rfl I.u20) (av xp (by rfl) T.fQ dt (ae (aK (aD (pv 0) rfl) T.ax T.Ez (sE T) I.mo T.EI .nil ay (ae aq (ae aq ah))) ah)) (av (uI I.hd) (by rfl) T.fQ dt (ae (mL QH ZN Xb sM (pv 1)) ah)) (aL _)))))
    (aA (aG j9))
    aP)
   (dn (λx=>(eh PassesOwn.never rfl (bN (pv 2)) (bO (i:=3) sc__law_alike.nd rfl (Or.inl rfl))
    x)) ?_))))
 refine aH (aZ (aE kf (aK (pv 0) T.au T.wT (lK T) I.mo T.xC .nil ay (ae (pv 3) ah)) (gO (fq I) (pv 1) (pv 3) (λ_ _=>rfl)) (aL _))
    (aA (aG j9))
    aP) ?_
 intros
 refine aH (aG (aQ (wK T) I.mo (by rfl) T.GB T.y7.kp T.GI .nil ay (ae (pv 0) (ae (pv 2) (ae (pv 1) ah))))) ?_
 intros
 obtain⟨kn,knd,vl⟩:=B.kn;refine⟨_,rfl,.inr (.inr (.inl ⟨rfl,.inl ⟨_,B.di⟩⟩)),d,_,rfl,rfl,B.di,λvw nv=>⟨vw,d,_,kv.map (·.1),rfl,ai,am nv _ _ B.di,i4,λl ms nl pm pw=>?_⟩⟩;have s1:=(am (o:=vwK vw d) nv).trans (am (o:= .lst (ms.map V.int)) nl);have h1:upd (upd H vw (vwK vw d)) l (.lst (ms.map V.int)) l=some (.lst (ms.map V.int)):=ai;have af:H l=none:=xh (am (o:=vwK vw d) nv) nl
 (try dsimp only)
 generalize upd (upd H vw (vwK vw d)) l (.lst (ms.map V.int))=H1 at s1 h1⊢;have em:ms=ps.map (·.1):=by
  have r:bK ms:=pw.imp₂ (λa b h1 h2=>Int.lt_iff_le_and_ne.mpr ⟨h1,h2⟩) ((pm.trans kn).nodup_iff.mpr (B.up.imp λh=>ZR h));exact j3 r B.up λz=>(pm.trans kn).mem_iff
 subst em;have J1:P64 K t H1 a l d F x ps kv:=⟨B.J.A.same s1,B.R,h1,s1 _ _ B.di,B.J.A.out af,B.nd,vl,B.J.bd,B.up,by have:=B.ln;lia⟩;have ln:=B.ln;have xl:=B.J.ln;have xk:=B.J.ks;have now:=B.R.now;clear nv nl af pm pw h1;obtain⟨dx,fs,hi,hm,a1,a2⟩:=J1.A.ins;refine⟨_,rfl,a,_,dx,fs,_,rfl,hi,T.au,T.dI,a1,_,rfl,l,_,rfl,.inl (SqL.of J1.li),rfl,_,rfl,sY (by rw[Q0,Q0,now]) ?_⟩;refine⟨_,rfl,a,dx,fs,rfl,hi,hm _ (by decide+kernel),a,F,x,rfl,J1.A,λH2 F2 A2 f2 _=>?_⟩;obtain⟨l2,a3⟩:=f2 _ _ J1.nl J1.li;obtain⟨d2,a4⟩:=f2 _ _ J1.nd J1.di;have J2:P64 K t H2 a l d F2 x ps kv:=⟨A2,B.R,l2,d2,a3,a4,vl,B.J.bd,B.up,J1.ln⟩;refine⟨_,rfl,l,_,rfl,.inl (SqL.of l2),rfl,_,rfl,sY (by rw[Q0,Q0,xl]) ?_⟩;obtain⟨dx,fs,hi,hm,a1,a2⟩:=A2.ins;refine⟨_,rfl,a,_,dx,fs,_,rfl,hi,T.au,T.kr,a2,rfl,_,rfl,sY (by rw[B.R.fl]) ?_⟩;refine⟨_,rfl,a,dx,fs,rfl,hi,hm _ (by decide+kernel),a,F2,x,rfl,A2,by rw[B.R.ho];decide,λH3 l3 bn s3 n3 h3 bo _=>?_⟩;have e3:bn=[]:=by
  have:=bo.length_eq;rw[B.R.ho]at this;exact Zt this
 subst e3;refine⟨Qi _,λr0 n0=>⟨l3,r0,_,rfl,rfl,SqL.of (am n0 _ _ h3),SqL.of ai,_,rfl,cq ?_⟩⟩;have s4:=s3.trans (am (o:= .lst []) n0);generalize upd H3 r0 (.lst [])=H4 at s4⊢;have J4:=J2.same s4;have al:Fr F F2 H H4:=((Fr.of_same s1).trans f2).trans (Fr.of_same s4);obtain⟨dx,fs,hi,hm,a1,a2⟩:=J4.A.ins
 (try unfold gH)
 (try dsimp only)
 refine⟨_,rfl,a,dx,fs,rfl,hi,hm _ (by decide+kernel),a,0,F2,x,rfl,J4.A,by decide,λH5 r5 s5 n5 h5=>?_⟩;have J5:=J4.same s5;refine⟨_,rfl,l,rfl,⟨_,SqL.of J5.li⟩,λD hD=>?_⟩;refine eG (K:=K) (a:=l) (xs:=(ps.map (·.1)).map V.int) (λi ys H6=>Same H5 H6/\∃us:List Addr,ys=us.map V.ref/\us.length=i/\∀(j:Nat) (u:Addr),us[j]?=some u->u≠D/\∃p,ps[j]?=some p/\H6 u=some (.tup [.str "put",.int p.1,.int p.2])) ⟨am hD,[],rfl,rfl,λj u hu=>by cases hu⟩ (λi ys H6 _ w=>SqL.of (w.1 _ _ J5.li)) (λi y ys H6 hy w U=>?_) (λys H6 w U=>?_)
 .obtain⟨s6,us,ey,ul,tu⟩:=w;have an:i<((ps.map (·.1)).map V.int).length:=(Q2.mp hy).1;have bp:i<ps.length:=by rwa [Q0,Q0]at an
  obtain⟨p,hp⟩:∃p,ps[i]?=some p:=⟨_,Q3 bp⟩;rw[Qc,Qc,hp]at hy;cases hy;have dg:DGet H6 d (.int p.1) (some (.int p.2)):=by
   have:=DGet.k (k:=Sum.inl p.1) (s6 _ _ J5.di);rwa [liftK_val.trans (vl p (Q1 hp))]at this
  refine⟨_,rfl,_,rfl,_,rfl,d,_,rfl,dg,(by show 3<=sizeLine;decide),λu nu=>?_⟩;have uD:u≠D:=λz=>by rw[z,U]at nu;cases nu
  have su:Same H6 (upd H6 u (.tup [.str "put",.int p.1,.int p.2])):=am nu;have hu:upd H6 u (.tup [.str "put",.int p.1,.int p.2]) u=some (.tup [.str "put",.int p.1,.int p.2]):=ai;generalize upd H6 u (.tup [.str "put",.int p.1,.int p.2])=H7 at su hu⊢;refine CNext.mk an (su _ _ U) (bi (by rw[ey,Q0];lia)) ⟨cU (s6.trans su) hD,us++ [u],by rw[ey,Q9];rfl,by rw[Qd,ul];rfl,λj w' hw=>?_⟩;rcases XI j us.length with h|h
  .rw[QW h]at hw;obtain⟨t0,p',t1,t2⟩:=tu j w' hw;exact⟨t0,p',t1,by rw[ag t0];exact su _ _ t2⟩
  .rw[QU h]at hw;obtain⟨h1,h2⟩:=Q2.mp hw;rw[QY]at h1;obtain rfl:j=us.length:=by lia
   have e:w'=u:=by rw[<-h2];simp
   rw[e,ul];exact⟨uD,p,hp,by rw[ag uD];exact hu⟩
 obtain⟨s6,us,ey,ul,tu⟩:=w;rw[Q0,Q0]at ul;rw[ey]at U;rw[show(0:Int).toNat=0 from rfl,Zk]at h5;have bt:x.di.length=ps.length:=by have:=congrArg List.length B.R.di;rwa [Q0,Q0]at this
 refine⟨r5,D,_,_,rfl,rfl,.inl ⟨SqL.of (s6 _ _ h5),SqL.of U⟩,by rw[Q0,Q0,bt,ul],λj u v hu Y=>?_,_,rfl,cq ?_⟩
 .rw[Qc]at hu Y;obtain⟨e,he,rfl⟩:=Qw.mp hu;obtain⟨w',hw,rfl⟩:=Qw.mp Y;obtain⟨_,p,hp,t2⟩:=tu j w' hw;have e2:e.2=[.str "put",.int p.1,.int p.2]:=by
   have:=congrArg (·[j]?) B.R.di;simp only[Qc,he,hp,Zw]at this;exact Option.some.inj this
  have t1:=s6 _ _ (J5.A.di e (Q1 he));rw[e2]at t1;exact xG t1 t2 (λv Y=>by simp at Y;rcases Y with rfl|rfl|rfl<;>trivial)
 have J6:=J5.same s6;have ap:=al.trans (Fr.of_same (s5.trans s6));clear J5 J4 J1 tu U s6 s5 s4 h5 al f2 s1
 (try unfold gH)
 (try dsimp only)
 obtain⟨dx,fs,lv,Fl,hi,bv,L6⟩:=J6.A.lvs;obtain⟨dl,bw,bz,c0⟩:=L6.ins;have kl:x.ks.length=ps.length:=by rw[xk,Q0]
 refine⟨_,rfl,a,_,dx,fs,_,rfl,hi,T.au,T.cY,bv,lv,dl,bw,rfl,bz,c0 _ (by decide+kernel),lv,0,400,Fl,x.ks,rfl,L6,by lia,by decide,λH7 r7 s7 n7 h7=>?_⟩;rw[Xw.mpr λz hz=>decide_eq_true (by rw[xk]at hz;obtain⟨p,hp,rfl⟩:=Q7.mp hz;exact(B.J.bd p hp).1),Qr (by show x.ks.length<=400;lia),xk]at h7;have J7:=J6.same s7;refine⟨_,rfl,r7,l,_,rfl,rfl,SqL.of h7,SqL.of J7.li,AU,_,rfl,cq ?_⟩;obtain⟨c1,c2,aw,c3,az,c4,c5,c9,ca,cb,ce,a5⟩:=J7.A.sl;have xm:∀(k:Int) (v:V),(k,v)∈x.st.kv↔∃p∈ps,k=p.1/\v= .int p.2:=λk v=>by
  have nd:(x.st.kv.map (·.1)).Nodup:=by
   obtain⟨s,l,wr,p,h,Fs,Fl,B',O,g⟩:=J7.A;obtain⟨_,_,_,_,nd,_⟩:=B'.sl;exact nd
  constructor
  .intro h;have hk:k∈x.ks:=(J7.A.ok.ks k).mpr (by rw[bT nd h];rfl);rw[xk]at hk;obtain⟨p,hp,rfl⟩:=Q7.mp hk;have e:=B.J.kv p hp;rw[bT nd h]at e;exact⟨p,hp,rfl,Option.some.inj e⟩
  .rintro ⟨p,hp,rfl,rfl⟩;exact eX (B.J.kv p hp)
 refine⟨_,rfl,a,_,c1,c2,_,rfl,c5,T.au,T.br,c9,aw,c3,az,rfl,ca,cb _ (by decide+kernel),aw,0,65536,c4,x.st,rfl,ce,by lia,(λp hp=>by obtain⟨y,_,_,e⟩:=(xm p.1 p.2).mp hp;exact⟨_,e⟩),λZ cg l8 ts S9 f9 d1 _ h8 t8 ci b1=>?_⟩;obtain⟨F9,A9,g9⟩:=a5 Z cg S9 f9;have b2:=(ap.trans (Fr.of_same s7)).trans g9;obtain⟨ck,b3⟩:=g9 _ _ J7.nl J7.li;obtain⟨co,b4⟩:=g9 _ _ J7.nd J7.di;have J8:P64 K t Z a l d F9 x ps kv:=⟨A9,B.R,ck,co,b3,b4,vl,B.J.bd,B.up,J7.ln⟩;have tv:∀e∈ts,∃p∈ps,e.k=p.1/\e.v= .int p.2:=λe he=>(xm e.k e.v).mp ((b1 e.k e.v).mp (QS (f:=Tp.kv) he)).1;have t2:∀y∈ts.map (·.p),∃i j:Int,Z y=some (.tup [.int i,.int j]):=λy hy=>by
  obtain⟨e,he,rfl⟩:=Q7.mp hy;obtain⟨p,_,_,ev⟩:=tv e he;have:=(t8 e he).1;rw[ev]at this;exact⟨_,_,this⟩
 have tk:(ts.map (·.p)).map (kv2 Z)=ts.map Tp.kv:=by
  rw[Qq];refine QM λe he=>?_;obtain⟨p,_,ek,ev⟩:=tv e he;have:=(t8 e he).1;rw[ev]at this;show kv2 Z e.p=(e.k,e.v);rw[wZ this,ev]
 refine⟨l8,ts.map (·.p),ky2 Z,rfl,SqL.of (by rw[Qq];exact h8),λy hy=>?_,λl9 bs n9 aa ct=>?_⟩
 .obtain⟨i,j,e⟩:=t2 y hy;exact⟨i,j,e,z8 e⟩
 have cx:(((ts.map (·.p)).map (kv2 Z)).map (·.1)).Nodup:=by
  rw[tk];exact Qp.mpr (ci.imp λ{p q} h e=>by rcases h with h|⟨_,h⟩<;>(rw[e]at h;lia))
 have sb:=IH t2 aa cx ct;have eb:bs.map (kv2 Z)=ps.map λp=>(p.1,V.int p.2):=zI sb B.up λk v=>by
  rw[(aa.map (kv2 Z)).mem_iff,tk,b1,xm];exact⟨λh=>h.1,λh=>⟨h,(zK k).1,(zK k).2⟩⟩
 have s9:=am (o:= .lst (bs.map V.ref)) n9;have h9:upd Z l9 (.lst (bs.map V.ref)) l9=some (.lst (bs.map V.ref)):=ai;generalize upd Z l9 (.lst (bs.map V.ref))=H9 at s9 h9⊢;have J9:=J8.same s9;obtain⟨ns,en,pn⟩:∃ns:List (Int×Int),aN kv=ivs ns/\ns.Perm ps:=by
  let g:Int×V->Int×Int:=λp=>(p.1,match p.2 with| .int i=>i|_=>0)
  have e1:(ps.map λp=>(p.1,V.int p.2)).map g=ps:=by rw[Qq];exact X4 ps
  have pp:=B.pm.map g;rw[e1]at pp;refine⟨kv.map g,?_,pp.symm⟩;unfold aN ivs;rw[Qq];refine QM λp hp=>?_;obtain⟨y,_,rfl⟩:=Q7.mp (B.pm.mem_iff.mpr hp);rfl
 refine⟨_,rfl,.inr (.inr (.inl ⟨rfl,.inl ⟨_,J9.di⟩⟩)),d,_,rfl,rfl,J9.di,λvw nv=>⟨vw,d,ns,rfl,ai,by rw[<-en];exact am nv _ _ J9.di,λH10 cy es b5 d3 b6 te b8 bb=>?_⟩⟩;have a0:=(am (o:=vwO vw d) nv).trans b5;have pe:(es.map (·.2)).Perm ps:=b8.trans pn;have d0:(ps.map (·.1)).Nodup:=B.up.imp λh=>ZR h;have ne:((es.map (·.2)).map (·.1)).Nodup:=(pe.map (·.1)).nodup_iff.mpr d0;have re:(es.map (·.2)).Pairwise (λp q=>p.1<q.1):=(bb.and (Qp.mp ne)).imp λ{p q} h=>by
  obtain⟨h1,h2⟩:=h;rw[HT.lexLt_cons,if_neg (Ne.symm h2)]at h1;have:=of_decide_eq_false h1;lia
 have ee:es.map (·.2)=ps:=List.Perm.eq_of_pairwise (le:=λp q:Int×Int=>p.1<q.1) (λa b _ _ h1 h2=>absurd h1 (by lia)) re (Qp.mp B.up) pe;have bl:bs.length=ps.length:=by have:=congrArg List.length eb;rwa [Q0,Q0]at this
 have el:es.length=ps.length:=by have:=congrArg List.length ee;rwa [Q0]at this
 refine⟨l9,cy,_,_,rfl,rfl,.inl ⟨SqL.of (a0 _ _ h9),SqL.of b6⟩,by rw[Q0,Q0,bl,el],λj u v hu Y=>?_,_,rfl,cq ?_⟩
 .rw[Qc]at hu Y;obtain⟨y,hy,rfl⟩:=Qw.mp hu;obtain⟨e,he,rfl⟩:=Qw.mp Y;obtain⟨i',j',ey⟩:=t2 y (aa.mem_iff.mp (Q1 hy));have e1:=congrArg (·[j]?) eb;have e2:=congrArg (·[j]?) ee;simp only[Qc,hy,he,Zw,wZ ey]at e1 e2;rw[<-e2]at e1;simp only[Zw,Option.some.injEq,Prod.mk.injEq,V.int.injEq]at e1;have t3:=(te e (Q1 he)).2;rw[<-e1.1,<-e1.2]at t3;exact xG (a0 _ _ (s9 _ _ ey)) t3 (λv Y=>by simp at Y;rcases Y with rfl|rfl<;>trivial)
 have be:=J9.same a0;have bh:=b2.trans (Fr.of_same (s9.trans a0));clear J9 J8 J7 J6 te b6 b5 a0 b2 ap
 (try unfold gH)
 (try dsimp only)
 refine⟨_,rfl,l,rfl,⟨_,SqL.of be.li⟩,i6 (K:=K) (a:=l) (xs:=(ps.map (·.1)).map V.int) (λi σ H'=>∃(F':Addr->Prop) (v3:Option V),σ=[some (.ref a),some (.ref d),some (.ref l),v3]/\P64 K t H' a l d F' x ps kv/\Fr F F' H H') ⟨F9,none,rfl,be,bh⟩ (λi σ H' _ w=>by obtain⟨_,_,_,w,_⟩:=w;exact SqL.of w.li) (λi z σ H' hz w=>?_) (λσ H' w=>?_)⟩
 .obtain⟨F',v3,rfl,J',ac⟩:=w;rw[Qc,Qc]at hz;obtain⟨k,hk,rfl⟩:=Qw.mp hz;obtain⟨p,hp,rfl⟩:=Qw.mp hk;have pm:=Q1 hp;have dg:∀{H':Hp},H' d=some (.dK (aN kv))->DGet H' d (.int p.1) (some (.int p.2)):=λh=>by
   have:=DGet.k (k:=Sum.inl p.1) h;rwa [liftK_val.trans (vl p pm)]at this
  obtain⟨dx,fs,hi,hm,_⟩:=J'.A.ins;refine⟨_,rfl,a,dx,fs,rfl,hi,hm _ (by decide+kernel),_,rfl,a,p.1,.int p.2,F',x,rfl,J'.A,(B.J.bd p pm).1,B.J.kv p pm,λH2 F2 A2 f2=>?_⟩;obtain⟨l2,a3⟩:=f2 _ _ J'.nl J'.li;obtain⟨d2,a4⟩:=f2 _ _ J'.nd J'.di;refine⟨_,rfl,_,rfl,d,_,rfl,dg d2,rfl,_,rfl,?_⟩;rw[decide_eq_true rfl];exact cq ⟨F2,_,rfl,⟨A2,B.R,l2,d2,a3,a4,vl,B.J.bd,B.up,J'.ln⟩,ac.trans f2⟩
 .obtain⟨F',v3,rfl,J',ac⟩:=w
  (try unfold gH)
  (try dsimp only)
  exact⟨_,rfl,_,rfl,_,rfl,a,l,d,F',x,ps,kv,rfl,J',λH2 F2 A2 f2=>q H2 F2 A2 (ac.trans f2)⟩
theorem FI {d:Str} (s1:d.length=1) (ws:List Str):(Txt.join d ws).length<=(ws.map (·.length)).sum+ws.length:=by
 rw[w6];cases ws with
 |nil=>exact ZG rfl
 |cons a r=>
  rw[PyProof.Rows.len_join_cons,s1];simp only[Qo,List.sum_cons,Qf];lia
theorem HoA.apartH {I:Addr->Prop} {x y:HSt} (A:HoA K t H a F x) (B:HoA K t H b G y) (O:∀c,F c->¬G c) (f:Fr G I H H'):HoA K t H' a F x/\∀c,F c->¬I c:=by
 refine⟨A.keep (λc hc=>?_) λc xs e=>(f c _ (λz=>?_) e).1,λc hc=>?_⟩
 .obtain⟨o,e,_⟩:=A.dom hc;rw[e,(f c o (O c hc) e).1]
 .obtain⟨o,U,n⟩:=B.dom z;rw[e]at U;exact n _ (Option.some.inj U).symm
 .obtain⟨o,e,_⟩:=A.dom hc;exact(f c o (O c hc) e).2
def yG:V->Int
 | .int i=>i
 |_=>0
theorem J64.pairs {d:Addr} {x:HSt} {ms:List Int} (J:J64 K t H a d F x) (U:ms.Perm (x.st.kv.map (·.1))) (pw:ms.Pairwise (· <= ·)) (ln:x.st.kv.length<=400):∃ps:List (Int×Int),ms=ps.map (·.1)/\HoP K t H a F x ps/\(ps.map λp=>(p.1,V.int p.2)).Perm x.st.kv/\bK (ps.map (·.1))/\∀p∈ps,aO x.st.kv p.1=some (.int p.2):=by
 have I:(x.st.kv.map (·.1)).Nodup:=by
  obtain⟨s,l,wr,p,h,Fs,Fl,B',O,g⟩:=J.A;obtain⟨_,_,_,_,I,_⟩:=B'.sl;exact I
 have Y:(ms.map λk=>(k,yG ((aO x.st.kv k).getD .non))).map (·.1)=ms:=by rw[Qq];exact X4 ms
 have vv:∀k∈ms,∃i:Int,aO x.st.kv k=some (.int i)/\(k,V.int i)∈x.st.kv:=λk hk=>by
  obtain⟨p,hp,rfl⟩:=Q7.mp (U.mem_iff.mp hk);obtain⟨_,_,i,Z,_⟩:=J.bd p hp;have e:p=(p.1,V.int i):=by rw[<-Z]
  exact⟨i,bT I (by rw[<-e];exact hp),by rw[<-e];exact hp⟩
 have kv:∀p∈ms.map (λk=>(k,yG ((aO x.st.kv k).getD .non))),aO x.st.kv p.1=some (.int p.2):=λp hp=>by
  obtain⟨k,hk,rfl⟩:=Q7.mp hp;obtain⟨i,e,_⟩:=vv k hk;show aO x.st.kv k=some (.int (yG ((aO x.st.kv k).getD .non)));rw[e];rfl
 have up:bK ms:=pw.imp₂ (λa b h1 h2=>Int.lt_iff_le_and_ne.mpr ⟨h1,h2⟩) (U.nodup_iff.mpr I);have ml:ms.length=x.st.kv.length:=by have:=U.length_eq;rwa [Q0]at this
 have a0:bK ((ms.map λk=>(k,yG ((aO x.st.kv k).getD .non))).map (·.1)):=by rw[Y];exact up
 refine⟨ms.map λk=>(k,yG ((aO x.st.kv k).getD .non)),Y.symm,⟨J.A,?_,kv,by rw[Q0,ml],λp hp=>?_,by rw[Q0,ml];lia⟩,?_,a0,kv⟩
 .rw[Y];exact j3 J.A.rise up λz=>by rw[J.A.ok.ks z,<-mem_keys];exact U.mem_iff.symm
 .have:=kv p hp;obtain⟨b1,b2,i,Z,b3,b4⟩:=J.bd _ (eX this);have Z:p.2=i:=V.int.inj Z;exact⟨b1,by lia,by lia,by lia⟩
 .have n1:(((ms.map λk=>(k,yG ((aO x.st.kv k).getD .non))).map λp=>(p.1,V.int p.2)).map (·.1)).Nodup:=by
   rw[Qq];show((ms.map λk=>(k,yG ((aO x.st.kv k).getD .non))).map (·.1)).Nodup;rw[Y];exact U.nodup_iff.mpr I
  refine(KC ((Qp.mp n1).imp λ{a b} h e=>h (by rw[e])) ((Qp.mp I).imp λ{a b} h e=>h (by rw[e]))).mpr λz=>?_;obtain⟨k,v⟩:=z;constructor
  .intro h;obtain⟨p,hp,e⟩:=Q7.mp h;cases e;exact eX (kv p hp)
  .intro h;have hk:k∈ms:=U.mem_iff.mpr (QS (f:=(·.1)) h);obtain⟨i,e,_⟩:=vv k hk;rw[bT I h]at e;refine Q7.mpr ⟨_,Q7.mpr ⟨k,hk,rfl⟩,?_⟩;show(k,V.int (yG ((aO x.st.kv k).getD .non)))=(k,v);rw[bT I h,Option.some.inj e];rfl
def C9 (K:PySem.W.Frag):Sp:=λvs H Q _=>∃(a:Addr) (ns:List Int),vs=[.ref a]/\SqL K H a (ns.map V.int)/\ns.length<=63/\∀H',Q (.bl true) H'
theorem Hs (T:Txt K mg t):aV P w K mg base CX0 10 t.GL t.Be ["_law_script"] (C9 K):=by
 refine T.Jq.okl sc_law λ_ _ _ s H vs Q E I h=>?_;intro X;obtain⟨sc,ns,rfl,hS,ct,q⟩:=h;refine aj (aJ (i:=1) sc_law.nd rfl (Or.inl rfl) (eU T.DA (km T) I.mo (by rfl) T.yA T.uP .nil ay))
   (aj (aJ (i:=2) sc_law.nd rfl (Or.inr rfl) j8)
   (dn (λx=>(eh PassesOwn.never rfl (bN (dG gI (pv 0) fB (fA aq))) (bO (i:=3) sc_law.nd rfl (Or.inl rfl))
    x)) ?_))
 refine aH (aS (aQ (wL T) I.mo (by rfl) T.GC T.y9.kp T.GJ .nil ay (ae (pv 1) (ae (pv 2) (ae (pv 3) ah))))) ?_
 intros
 refine aj (aJ (i:=4) sc_law.nd rfl (Or.inl rfl) (cJ Zf PySem.F.slot_str_join PySem.F.type_str_join AF bI (ae (fE rfl (CScope.of (M:=["_law_key_here"]) (N:=["_law_script","_law_house","_law_plain","_law_cell","_law_text","_law_found","_law_other","_law_key_here"]) (N':=["_law_script","_law_house","_law_plain","_law_cell","_law_text","_law_found","_law_other",""]) (dsc:=ak At) rfl rfl (by decide+kernel)) (bN (av (fI I.hd) (by rfl) T.fQ dt (ae (mL QH Zv ZS qF (pv 2)) ah))) (λ_ _ _ _ _=>(aR sk (aR sk (kW oy (by rfl) T.Ao tN (ae (pv 0) ah)) bI) (kW oy (by rfl) T.Ao tN (ae (gO (fq I) (pv 3) (pv 0) (λ_ _=>rfl)) ah))))) ah)))
   (aj (aJ (i:=5) sc_law.nd rfl (Or.inl rfl) (aQ (Dt T) I.mo (by rfl) T.AM T.xJ.kp T.Bh .nil ay (ae (pv 1) ah)))
   (aj (aZ (PW.pt (iU (gc (b9 (av eZ (by rfl) T.bV bC (ae (pv 5) (ae (nM (v:= .ty "str") (by rfl) T.Ao tN rfl) ah))))) (io (aE kf (pv 5) (pv 4) (aL _)))))
    (aA (aG j9))
    aP)
   (aj (aJ (i:=6) sc_law.nd rfl (Or.inl rfl) (aQ (uy T) I.mo (by rfl) T.wV T.oR.kp T.xw .nil pA (ae (pv 4) ah)))
   (aj (aZ (PW.pt (iU (gc (b9 (av (jN K rfl) (by rfl) T.bV bC (ae (pv 6) (ae (cm (v:= .ref t.az) (by rfl) T.yA rfl) ah))))) (iU (gc (b9 (aQ (uA T) I.mo (by rfl) T.wX T.oU.kp T.xz .nil ay (ae (pv 6) (ae (pv 2) ah))))) (io (aE kf (aQ (Dt T) I.mo (by rfl) T.AM T.xJ.kp T.Bh .nil ay (ae (pv 6) ah)) (pv 4) (aL _))))))
    (aA (aG j9))
    aP)
   (aj (aS (aK (pv 6) T.au T.nY (ir T) I.mo T.oA .nil ay (ae aq (ae aq ah))))
   (aj (eh PassesOwn.never rfl (bN (dG gI (av (fI I.hd) (by rfl) T.fQ dt (ae (mL QH Zv ZS qF (pv 2)) ah)) fB (fA aq))) (bO (i:=7) sc_law.nd rfl (Or.inl rfl))
    (aA (aS (aK (pv 6) T.au T.uG (ko T) I.mo T.uQ .nil ay (ae (pv 7) ah)))))
   (aH (aG (pz (eS gP (aQ (Dt T) I.mo (by rfl) T.AM T.xJ.kp T.Bh .nil ay (ae (pv 1) ah)) (pv 4) (aL _)) (pz (eS gP (bq (pv 1) T.au T.lL (gj T) I.mo T.lQ .nil ay) (av vN (by rfl) T.bx a7 (ae (pv 2) ah)) (aL _)) (pq (aQ (uA T) I.mo (by rfl) T.wX T.oU.kp T.xz .nil ay (ae (aQ (uy T) I.mo (by rfl) T.wV T.oR.kp T.xw .nil pA (ae (pv 4) ah)) (ae (pv 2) ah))))))) ?_)))))))
 intros
 refine λa dx na nd bz=>⟨a,dx,rfl,ai,λH1 F1 A1 f1=>⟨rfl,λd n1=>?_⟩⟩;have c1:SqF K F1 H1 sc (ns.map V.int):=((SqF.of (F:=λb=>b=a) hS λo e z=>by rw[z,na]at e;cases e).fr (Fr.of_same (cU (am nd) na))).fr f1;have sd:=am (o:= .dK []) n1;have J0:J64 K t (upd H1 d (.dK [])) a d F1 HSt.new:=⟨A1.same sd,ai,A1.out n1,(λp hp=>by cases hp),rfl⟩;have c2:SqF K F1 (upd H1 d (.dK [])) sc (ns.map V.int):=c1.new n1
 (try dsimp only)
 generalize upd H1 d (.dK [])=H2 at J0 c2⊢;clear c1 f1 A1 n1 na nd bz hS sd;refine⟨_,rfl,30,rfl,sc,_,rfl,c2.sq,λp1 U=>?_⟩;obtain⟨cs,aw,d0⟩:∃cs:List Int,ox (ns.map V.int) none (some 30)=cs.map V.int/\cs.length<=30:=by
  refine⟨ns.take 30,by rw[kH (by decide),<-Zh];rfl,by rw[Qe];lia⟩
 rw[aw];have s3:=am (o:= .lst (cs.map V.int)) U;have J3:=J0.same s3;have o1:¬Wh F1 d p1:=λz=>z.elim (J0.A.out U) λz=>by rw[z,J0.di]at U;cases U
 have h1:upd H2 p1 (.lst (cs.map V.int)) p1=some (.lst (cs.map V.int)):=ai;generalize upd H2 p1 (.lst (cs.map V.int))=H3 at J3 h1⊢;clear J0 c2 s3 U aw;refine⟨p1,rfl,⟨_,SqL.of h1⟩,i6 (K:=K) (a:=p1) (xs:=cs.map V.int) (λi σ H'=>∃(v3:Option V) (F:Addr->Prop) (x:HSt),σ=[some (.ref sc),some (.ref a),some (.ref d),v3,none,none,none,none]/\J64 K t H' a d F x/\x.now<=30*(i:Int)/\x.st.kv.length<=230+i/\H' p1=some (.lst (cs.map V.int))/\¬Wh F d p1)
  ⟨_,F1,HSt.new,rfl,J3,by decide,by decide,h1,o1⟩ (λi σ H' _ w=>by obtain⟨_,_,_,_,_,_,_,e,_⟩:=w;exact SqL.of e) (λi z σ H' hz w'=>?_) (λσ H' w'=>?_)⟩
 .obtain⟨v3,F,x,rfl,J,l1,l2,hp,op⟩:=w';have hi:=(Q2.mp hz).1;rw[Q0]at hi;obtain⟨c,_,rfl⟩:=Q7.mp (Q1 hz);refine⟨_,rfl,_,rfl,_,rfl,a,d,c,F,x,rfl,J,by lia,λH4 F4 x4 J4 n4 k4 f4=>?_⟩;exact⟨_,F4,x4,rfl,J4,by lia,by lia,(f4 _ _ op hp).1,(f4 _ _ op hp).2⟩
 obtain⟨v3,F,x,rfl,J,l1,l2,-,-⟩:=w';rw[Q0]at l1 l2;have l1:x.now<=900:=by lia
 have l2:x.st.kv.length<=260:=by lia
 clear h1 o1 J3
 (try unfold gH)
 (try dsimp only)
 refine⟨rfl,_,rfl,.inr (.inr (.inl ⟨rfl,.inl ⟨_,J.di⟩⟩)),d,_,rfl,rfl,J.di,λO nv=>⟨O,d,_,x.st.kv.map (·.1),rfl,ai,am nv _ _ J.di,i4,λl ms nl pm pw=>?_⟩⟩;obtain⟨ps,em,P0,pp,up,vl⟩:=J.pairs pm pw (by lia);have s1:=(am (o:=vwK O d) nv).trans (am (o:= .lst (ms.map V.int)) nl);have h1:upd (upd H' O (vwK O d)) l (.lst (ms.map V.int)) l=some (.lst (ms.map V.int)):=ai;generalize upd (upd H' O (vwK O d)) l (.lst (ms.map V.int))=H1 at s1 h1⊢;subst em;have J1:=J.same s1;have P1:=P0.to J1.A;clear nv nl pm pw P0;have pl:ps.length<=260:=by have:=P1.ln;lia
 have rl:∀p∈ps,(rwT p).length<=123:=λp hp=>by
  have b:=P1.bd p hp;exact wz ⟨by lia,b.2⟩
 have big:1000<=sizeLine:=by decide
 refine⟨l,rfl,⟨_,SqL.of h1⟩,λD hD=>?_⟩;refine eG (K:=K) (a:=l) (xs:=(ps.map (·.1)).map V.int) (λi ys H6=>H6=upd H1 D (.lst ys)/\ys=((ps.take i).map rwT).map V.str) ⟨rfl,rfl⟩ (λi ys H6 _ w=>SqL.of (by rw[w.1,ag (ao h1 hD)];exact h1)) (λi y ys H6 hy w Y=>?_) (λys H6 w Y=>?_)
 .obtain⟨s6,ey⟩:=w;have ax:i<((ps.map (·.1)).map V.int).length:=(Q2.mp hy).1;have aa:i<ps.length:=by rwa [Q0,Q0]at ax
  obtain⟨p,hp⟩:∃p,ps[i]?=some p:=⟨_,Q3 aa⟩;rw[Qc,Qc,hp]at hy;cases hy;have pm:=Q1 hp;have b:=P1.bd p pm;have d6:H6 d=some (.dK (aN x.st.kv)):=by rw[s6];exact am hD _ _ J1.di
  have dg:DGet H6 d (.int p.1) (some (.int p.2)):=by
   have:=DGet.k (k:=Sum.inl p.1) d6;rwa [liftK_val.trans (vl p pm)]at this
  have e1:=qC (i:=p.1) (by lia) b.2.1;have e2:=qC (i:=p.2) b.2.2.1 b.2.2.2;have e3:(Str.ofString (toString p.1)++(" ":Str)).length=(Str.ofString (toString p.1)).length+(" ":Str).length:=jT _ _;have e4:(" ":Str).length=1:=by decide+kernel
  refine⟨_,rfl,p.1,rfl,qB (by lia) b.2.1,_,_,rfl,rfl,by lia,_,rfl,_,rfl,d,_,rfl,dg,p.2,rfl,qB b.2.2.1 b.2.2.2,_,_,rfl,rfl,by lia,CNext.mk ax Y (bi (by rw[ey,Q0,Q0,Qe];lia)) ⟨by rw[s6,bM],?_⟩⟩;rw[ey,Qn,hp,Q9,Q9];rfl
 obtain⟨s6,ey⟩:=w;rw[Q0,Q0,Qz]at ey;rw[ey]at Y;have S6:Same H1 H6:=by rw[s6];exact am hD
 have J6:=J1.same S6;have P6:=P1.to J6.A;have jl:=zr (m:=123) (ws:=ps.map rwT) λy hy=>by
  obtain⟨p,hp,rfl⟩:=Q7.mp hy;exact rl p hp
 rw[Q0]at jl;refine⟨"\n",D,ps.map rwT,rfl,rfl,SqL.of Y,by decide+kernel,by rw[Q0];lia,?_⟩;have zl:(Txt.join ("\n":Str) (ps.map rwT)).length<=100000:=by
  have:=FI (d:=("\n":Str)) (by decide+kernel) (ps.map rwT);rw[Q0]at this;lia
 obtain⟨rz,rs⟩:=Dh (λp hp=>P1.bd p hp) up;have zn:(Txt.split (Txt.join ("\n":Str) (ps.map rwT)) ("\n":Str)).length<=3000:=by
  by_cases c:ps=[]
  .rw[c];decide+kernel
  .rw[rs c,Q0];lia
 rw[show(Str.ofString "\n")=("\n":Str) from rfl];obtain⟨z,ez⟩:∃z,Txt.join ("\n":Str) (ps.map rwT)=z:=⟨_,rfl⟩;rw[ez]at zl rz zn⊢;clear rs jl J J1 P1 h1 Y hD S6 s1
 (try dsimp only)
 refine⟨_,rfl,a,F,x,ps,rfl,P6,λH7 F7 P7 f7=>?_⟩;rw[ez];obtain⟨d7,c0⟩:=f7 _ _ J6.nF J6.di;refine⟨_,rfl,_,_,_,_,rfl,TyOf.str _,Aa.1,true,rfl,cq ?_⟩;refine⟨_,rfl,_,rfl,rfl,_,rfl,sY rfl ?_⟩
 (try unfold gH)
 (try dsimp only)
 refine⟨_,rfl,.inl ⟨z,rfl,zl,zn,λps' ac H8 b G y P8 R8 o8=>?_,λhn=>by rw[rz]at hn;cases hn⟩⟩;obtain rfl:ps=ps':=Option.some.inj (rz.symm.trans ac);obtain⟨db,fb,c3,d1,_⟩:=P8.A.ins;have A8:=P7.A.same λc o e=>(o8 c o e).1;have b1:∀c,F7 c->¬G c:=λc hc=>by
  obtain⟨o,e,_⟩:=P7.A.dom hc;exact(o8 c o e).2
 obtain⟨d8,af⟩:=o8 _ _ d7
 (try dsimp only)
 refine⟨_,rfl,_,_,_,_,rfl,TyOf.ins c3 T.au T.qO.1 T.qO.2 T.qO.3 T.qO.4,T.DW,_,rfl,cq ?_⟩;refine⟨_,rfl,_,rfl,b,d,G,y,ps,x.st.kv,rfl,⟨P8,R8,d8,af,pp,up,by lia⟩,λH9 G9 B9 f9=>?_⟩;obtain⟨A9,b2⟩:=A8.apartH P8.A b1 f9;obtain⟨d9,b3⟩:=f9 _ _ af d8;refine⟨true,rfl,cq ?_⟩;refine⟨_,rfl,b,G9,y,ps,rfl,P8.to B9,λH10 c4 Z al=>?_⟩;rw[ez];obtain⟨c5,b4⟩:=A9.apartH B9 b2 al;obtain⟨c9,b5⟩:=al _ _ b3 d9;refine⟨_,rfl,rfl,_,rfl,sY rfl ?_⟩;clear A9 b2 d9 b3 f9 al B9 P8 o8 A8 b1 d8 af
 (try unfold gH)
 (try dsimp only)
 obtain⟨dx,fs,hi,hm,_⟩:=Z.A.ins;have yn:=R8.now;have ym:=R8.ma;refine⟨_,rfl,b,dx,fs,rfl,hi,hm _ (by decide+kernel),b,7,7,c4,y,rfl,Z.A,by decide,by lia,λH11 ca cx d4 d5 cy an _ b6=>?_⟩;obtain⟨bb,a4⟩:=c5.apartH Z.A b4 b6;obtain⟨a0,a5⟩:=b6 _ _ b5 c9;have vb:∀p∈ps,(aO (y.st.put 7 (.int 7)).kv p.1).isSome=true:=λp hp=>by
  rw[show(y.st.put 7 (.int 7)).kv=bj y.st.kv 7 (.int 7) from SSt.three_kv,cT];split
  .rfl
  .rw[Z.kv p hp];rfl
 (try unfold gH)
 (try dsimp only)
 refine⟨_,rfl,.inr (.inr (.inl ⟨rfl,.inl ⟨_,a0⟩⟩)),d,_,rfl,rfl,a0,λO nv=>⟨O,d,_,x.st.kv.map (·.1),rfl,ai,am nv _ _ a0,i4,λl2 ms nl pm pw=>?_⟩⟩;have ap:=(am (o:=vwK O d) nv).trans (am (o:= .lst (ms.map V.int)) nl);have be:upd (upd H11 O (vwK O d)) l2 (.lst (ms.map V.int)) l2=some (.lst (ms.map V.int)):=ai;generalize upd (upd H11 O (vwK O d)) l2 (.lst (ms.map V.int))=bh at ap be⊢;refine⟨3,rfl,l2,_,rfl,SqL.of be,λp2 bl=>?_⟩;rw[kH (by decide),<-Zh,show(3:Int).toNat=3 from rfl];have bn:(x.st.kv.map (·.1)).Perm (ps.map (·.1)):=by
  have h:=pp.map (·.1);rw[show(ps.map λp=>(p.1,V.int p.2)).map (·.1)=ps.map (·.1) by rw[Qq];rfl]at h;exact h.symm
 have cb:(ps.map (·.1)).Nodup:=up.imp λh=>ZR h;have bo:(ms.take 3).Nodup:=((pm.trans bn).nodup_iff.mpr cb).sublist (XD _ _);have a3:∀k∈ms.take 3,0<=k/\(aO (y.st.put 7 (.int 7)).kv k).isSome=true:=λk hk=>by
  obtain⟨p,hp,rfl⟩:=Q7.mp ((pm.trans bn).mem_iff.mp (QP hk));exact⟨(Z.bd p hp).1,vb p hp⟩
 have ce:(ms.take 3).length<=3:=by rw[Qe];lia
 have a1:=ap.trans (am (o:= .lst ((ms.take 3).map V.int)) bl);have a2:upd bh p2 (.lst ((ms.take 3).map V.int)) p2=some (.lst ((ms.take 3).map V.int)):=ai;have bp:H11 p2=none:=xh ap bl;generalize upd bh p2 (.lst ((ms.take 3).map V.int))=da at a1 a2⊢;generalize ms.take 3=mt at bo a3 ce a2⊢;refine⟨p2,rfl,⟨_,SqL.of a2⟩,i6 (K:=K) (a:=p2) (xs:=mt.map V.int) (λi σ H'=>∃(G':Addr->Prop) (y':HSt) (v7:Option V),σ=[some (.ref sc),some (.ref a),some (.ref d),v3,some (.str z),some (.str z),some (.ref b),v7]/\HoA K t H' b G' y'/\y'.now+y'.ma<=300+i/\(∀k∈mt.drop i,(aO y'.st.kv k).isSome=true)/\HoA K t H' a F7 x/\(∀c,F7 c->¬G' c)/\H' d=some (.dK (aN x.st.kv))/\¬G' d/\H' p2=some (.lst (mt.map V.int))/\¬G' p2)
  ⟨ca,_,none,rfl,an.same a1,(by show y.now+1+y.ma<=300+((0:Nat):Int);lia),λk hk=>(a3 k hk).2,bb.same a1,a4,a1 _ _ a0,a5,a2,an.out bp⟩ (λi σ H' _ w=>by obtain⟨_,_,_,_,_,_,_,_,_,_,_,e,_⟩:=w;exact SqL.of e) (λi u σ H' hu w=>?_) (λσ H' w=>?_)⟩
 .obtain⟨G',y',v7,rfl,B',nn,vk,A',br,d',bt,h',bv⟩:=w;rw[Qc]at hu;obtain⟨k,hk,rfl⟩:=Qw.mp hu;have aa:=(Q2.mp hk).1;have dr:mt.drop i=k::mt.drop (i+1):=by rw[QQ aa,(Q2.mp hk).2]
  have nk:k∉mt.drop (i+1):=by
   have:=bo.sublist (List.drop_sublist i mt);rw[dr,QN]at this;exact this.1
  obtain⟨dx,fs,hi,hm,_⟩:=B'.ins;have bw:=vk k (by rw[dr];exact Q6);refine⟨_,rfl,b,dx,fs,rfl,hi,hm _ (by decide+kernel),_,rfl,b,k,G',y',rfl,B',(a3 k (Q1 hk)).1,by lia,λ_ H2 G2 dc r2 q2 de B2 N2 f2=>?_,λe=>by rw[e]at bw;cases bw⟩;obtain⟨A2,cg⟩:=A'.apartH B' br f2;obtain⟨d2,ci⟩:=f2 _ _ bt d';obtain⟨h2,ck⟩:=f2 _ _ bv h';refine⟨G2,_,_,rfl,B2,(by show y'.now+1+y'.ma<=_;lia),λj hj=>?_,A2,cg,d2,ci,h2,ck⟩;show(aO (y'.st.drop k).kv j).isSome=true;rw[show(y'.st.drop k).kv=bE y'.st.kv k from SSt.three_kv,dj,if_neg (show ¬j=k from λe=>nk (by rw[<-e];exact hj))];exact vk j (by rw[dr];exact Q8 _ hj)
 obtain⟨G',y',v7,rfl,B',nn,vk,A',br,d',bt,h',bv⟩:=w;clear an bb a4 a0 a5 a1 a2 bp a3
 (try unfold gH)
 (try dsimp only)
 refine⟨_,rfl,a,F7,x,ps,rfl,P7.to A',λH2 F2 P2 f2=>?_⟩;rw[ez];obtain⟨d2,co⟩:=f2 _ _ c0 d';refine⟨_,rfl,rfl,?_⟩;refine⟨_,rfl,qv rfl ?_⟩;obtain⟨dx,fs,hi,hm,_⟩:=P2.A.ins;refine⟨_,rfl,a,dx,fs,rfl,hi,hm _ (by decide+kernel),a,F2,x,rfl,P2.A,λH3 F3 A3 f3 _=>?_⟩;obtain⟨d3,df⟩:=f3 _ _ co d2;refine⟨_,rfl,d,_,rfl,d3,rfl,_,rfl,qv (by rw[b7]) ?_⟩;refine⟨_,rfl,.inl ⟨z,rfl,zl,zn,λps' ac H8 b8 G8 y8 P8 R9 o8=>?_,λhn=>by rw[rz]at hn;cases hn⟩⟩;obtain rfl:ps=ps':=Option.some.inj (rz.symm.trans ac);exact⟨_,rfl,b8,d,G8,y8,ps,x.st.kv,rfl,⟨P8,R9,(o8 _ _ d3).1,(o8 _ _ d3).2,pp,up,by lia⟩,λH9 _ _ _=>q H9⟩
end
end SW
namespace ZK
open PySem PySem.W SW L2
theorem fM {P:Params} {x qual:Str} {st:Stmt} {a:Addr} {kV I O z ct:Value} {U:Option Addr} (l:(K P).lookup a=some (f (D x qual st N kV I O U z ct)):=by kernel_rfl) (c:codeIn (K P) z qual=true:=by kernel_rfl) (k:keepIn (K P) (.ref a)=true:=by kernel_rfl):Fun (K P) x qual st a (D x qual st N kV I O U z ct):=HR l c k
theorem nA {P:Params} {C:Addr} {x:Str} (h:findIn (K P) (.ref C) x=some none:=by kernel_rfl):NoAttr (K P) C x:=h
theorem fT {P:Params} {x qual:Str} {st:Stmt} {a b:Addr} {kV I O z ct:Value} {U:Option Addr} (l:(K P).lookup a=some (f (D x qual st (R b) kV I O U z ct)):=by kernel_rfl) (c:codeIn (K P) z qual=true:=by kernel_rfl) (k:keepIn (K P) (.ref a)=true:=by kernel_rfl):Im (K P) x qual st b a (D x qual st (R b) kV I O U z ct):=AW l c k
theorem fU {P:Params} {x qual:Str} {st:Stmt} {a b:Addr} {kV I O z ct:Value} {U:Option Addr} (l:(K P).lookup a=some (f (D x qual st (R b) kV I O U z ct)):=by kernel_rfl) (c:codeIn (K P) z qual=true:=by kernel_rfl) (k:keepIn (K P) (.ref a)=true:=by kernel_rfl):FunD (K P) x qual st a (D x qual st (R b) kV I O U z ct):=(AW l c k).1
theorem Ij {P:Params}:(K P).lookup 233=some ⟨(T "tuple"),none,.seq #[(.int 0 479),N] 0, #[]⟩:=by kernel_rfl
theorem T607 {P:Params}:(K P).lookup 607=some ⟨(T "tuple"),none,.seq #[(.int 0 967)] 0, #[]⟩:=by kernel_rfl
theorem T657 {P:Params}:(K P).lookup 657=some ⟨(T "tuple"),none,.seq #[(.int 10 1022)] 0, #[]⟩:=by kernel_rfl
end ZK
namespace SW
open PySem L2
set_option maxHeartbeats 0
variable {α:Type} {YP:World->Heap->Prop}
theorem us1 {us:List α} (hl:us.length=1):∃z,us=[z]:=by rcases us with _|⟨z,_|⟨y,t⟩⟩<;>first|exact⟨_,rfl⟩|simp at hl
theorem us2 {us:List α} (hl:us.length=2):∃z I,us=[z,I]:=by rcases us with _|⟨z,_|⟨I,_|⟨y,t⟩⟩⟩<;>first|exact⟨_,_,rfl⟩|simp at hl
theorem us3 {us:List α} (hl:us.length=3):∃z I O,us=[z,I,O]:=by rcases us with _|⟨z,_|⟨I,_|⟨O,_|⟨y,t⟩⟩⟩⟩<;>first|exact⟨_,_,_,rfl⟩|simp at hl
theorem us4 {us:List α} (hl:us.length=4):∃z I O U,us=[z,I,O,U]:=by rcases us with _|⟨z,_|⟨I,_|⟨O,_|⟨U,_|⟨y,t⟩⟩⟩⟩⟩<;>first|exact⟨_,_,_,_,rfl⟩|simp at hl
open ZK in
theorem txt {P:Params} {h:Heap} {mg:Str->Option Value} (X:(ZK.K P).In h) (G:h.Ns mainGlobals mg):Txt (ZK.K P) mg ZK.t:=by
 constructor
 case g_BITS=>exact⟨348,Zq X G (by kernel_rfl)⟩
 case g_PLACES=>exact⟨350,Zq X G (by kernel_rfl)⟩
 case g_MOST_IN_LEAF=>exact⟨562,Zq X G (by kernel_rfl)⟩
 case g_LEAST_IN_TWO=>exact⟨564,Zq X G (by kernel_rfl)⟩
 case g_LEAST_SIZE=>exact⟨738,Zq X G (by kernel_rfl)⟩
 case g_GREATEST_SIZE=>exact⟨740,Zq X G (by kernel_rfl)⟩
 case g_FIGURES=>exact⟨1074,Zq X G (by kernel_rfl)⟩
 case g_MOST_FIGURES=>exact⟨1076,Zq X G (by kernel_rfl)⟩
 all_goals first
  |exact ZK.fM
  |exact Zq X G (by kernel_rfl)
  |exact⟨(by kernel_rfl),(by kernel_rfl),(by kernel_rfl)⟩
  |exact .all λus hl=>by obtain⟨_,_,rfl⟩:=us2 hl;rfl
  |exact .all λus hl=>by obtain⟨_,rfl⟩:=us1 hl;rfl
  |exact ZK.nA
  |exact⟨(by kernel_rfl),(by kernel_rfl),(by kernel_rfl),(by kernel_rfl)⟩
  |exact PySem.W.mg_none_of X G (by kernel_rfl)
  |exact .all λus hl=>by obtain⟨_,_,_,rfl⟩:=us3 hl;rfl
  |exact DU (by kernel_rfl) (by kernel_rfl) (by kernel_rfl) (λz=>absurd z (by decide))
  |exact⟨⟨_,_,_,_,_,_,_,_,_,_,_,_,_,_,(by rfl)⟩,⟨[ZK.t.bH],rfl⟩,(by kernel_rfl),(by kernel_rfl),(by kernel_rfl),(by kernel_rfl)⟩
  |exact(by kernel_rfl)
  |exact ZK.fU
  |exact DU (by kernel_rfl) (by kernel_rfl) (by kernel_rfl) (λ_=>rfl)
  |exact .all λus hl=>by obtain⟨_,_,_,_,rfl⟩:=us4 hl;rfl
  |exact m5 (ds:=[]) 2 rfl (fT (a:=614)) T607 λ_ _ _ _ _ _ us hl=>by obtain⟨_,_,rfl⟩:=us2 hl;exact⟨_,rfl,rfl⟩
  |exact m5 (ds:=[]) 3 rfl (fT (a:=240)) Ij λ_ _ _ _ _ _ us hl=>by obtain⟨_,_,_,rfl⟩:=us3 hl;exact⟨_,rfl,rfl⟩
  |exact m5 (ds:=[]) 4 rfl (fT (a:=662)) T657 λ_ _ _ _ _ _ us hl=>by obtain⟨_,_,_,_,rfl⟩:=us4 hl;exact⟨_,rfl,rfl⟩
  |exact⟨_,m5 (ds:=[(.int 0 479),N]) 1 rfl (fT (a:=240)) Ij λ_ _ _ _ _ _ us hl=>by obtain⟨_,rfl⟩:=us1 hl;exact⟨_,rfl,rfl⟩,(.cons ⟨_,rfl⟩ (.cons rfl .nil))⟩
  |exact⟨_,m5 (ds:=[(.int 0 967)]) 1 rfl (fT (a:=614)) T607 λ_ _ _ _ _ _ us hl=>by obtain⟨_,rfl⟩:=us1 hl;exact⟨_,rfl,rfl⟩,(.cons ⟨_,rfl⟩ .nil)⟩
  |exact⟨_,m5 (ds:=[(.int 10 1022)]) 3 rfl (fT (a:=662)) T657 λ_ _ _ _ _ _ us hl=>by obtain⟨_,_,_,rfl⟩:=us3 hl;exact⟨_,rfl,rfl⟩,(.cons ⟨_,rfl⟩ .nil)⟩
  |exact⟨_,m5 (ds:=[N]) 2 rfl (fT (a:=240)) Ij λ_ _ _ _ _ _ us hl=>by obtain⟨_,_,rfl⟩:=us2 hl;exact⟨_,rfl,rfl⟩,(.cons rfl .nil)⟩
  |exact⟨⟨_,_,_,_,_,_,_,_,_,_,_,_,_,_,(by rfl)⟩,⟨[],rfl⟩,(by kernel_rfl),(by kernel_rfl),(by kernel_rfl),(by kernel_rfl)⟩
theorem walk {l:PySem.W.OpenLaw} {q:Program} {loose:List Str} {XP:(Str->Option Value)->Heap->Prop} {d:DefRec} {K:Params->PySem.W.Frag} (U:l.most=some 63) (I:d.params.defaults=[])
  (Y:∀(w:World) (h:Heap),YP w h->(K w.params).In h) (hd:d.name="law")
  (F:∀(w:World) (mg:Str->Option Value) (h:Heap),(K w.params).In h->h.Ns mainGlobals mg->∃t,Txt (K w.params) mg t):
  PySem.W.WalkO q loose XP YP l.row.toRowW d [] (λf vs=>PySem.call f vs):=by
 refine L2.walk_of (n:=63) (k:=10) (x:="_law_script") (CX:=λ_=>CX0) (sp:=λw=>C9 (K w.params)) U (by decide) I ⟨rfl,by decide,by decide⟩ Y (λw mg fa h Z G O=>?_) (λ_ _ a ns hl _ hS=>⟨a,ns,rfl,hS,hl,λ_=>rfl⟩) λ_ _ _ _ _ z=>z;obtain⟨t,T⟩:=F w mg h Z G;have e:=O.symm.trans ((congrArg mg hd).trans T.Ju);cases e;obtain⟨oc,od,kV,a0,pm,an,a1,ct,a2,e1,lk,a3⟩:=T.Jq.ex;refine⟨t.Be,λs u=>?_,λbase _ _=>Hs T⟩;rw[e1];exact .of_eq rfl
end SW
open PySem PySem.W PyProof.Rows
set_option maxRecDepth 100000 in
set_option maxHeartbeats 0 in
theorem PySem.Challenge.cw_staywalk_k64_a_house_as_a_text_holds : PySem.Challenge.rw_staywalk_k64_a_house_as_a_text.Holds := by
 w_on
 refine holds_law ZK.said λsaid=>?_;refine holds_open (q:=ZK.q) (loose:=["Up","Down"]) (Xt:=λs=>xlAt ZK.q [] s&&recOk (RowW.records (OpenRow.toRowW (OpenLaw.row PySem.Challenge.rw_staywalk_k64_a_house_as_a_text))) s) (XP:=XL ZK.q []) (Yf:=Hook.obs ZK.H) (Ya:=Hook.val ZK.H) (YP:=Hook.says ZK.H) ZK.left (Hook.of ZK.H) (Hook.keeps ZK.H) (λs e=>xl_of s (Bool.and_eq_true_iff.mp e).1) XL.keeps (by rfl) (by rfl) (by rfl) (λs e=>recFacts_of (Bool.and_eq_true_iff.mp e).2) (by rfl) (by first|assumption|decide+kernel) (by decide+kernel) ⟨rfl,rfl,rfl,rfl,rfl,by decide+kernel⟩ ?hw ?hc
 (case hw=>w_witness2)
 exact SW.walk (l:=PySem.Challenge.rw_staywalk_k64_a_house_as_a_text) rfl rfl (λw h Y=>kIn_of Y) rfl λw mg h KX G=>⟨_,SW.txt KX G⟩
#print axioms PySem.Challenge.cw_staywalk_k64_a_house_as_a_text_holds
