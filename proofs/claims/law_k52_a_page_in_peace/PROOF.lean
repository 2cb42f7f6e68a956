import PyProof.Rows.All
import PySem.Challenge.RW_staywalk_k52_a_page_in_peace
import KE.KFromBytes
import KE.KIntText
import KE.KPairComp
import KE.KSortTup
import KE.KIsAll
import KE.KDictSum
import KE.KRevIter
import KE.KRevSl
import KE.KEqDict
import KE.LcSums
import KE.KDictOf
set_option Elab.async false
set_option linter.all false
set_option maxRecDepth 100000
set_option maxHeartbeats 0
abbrev Q0:=@List.length_map
abbrev Q1:=@List.mem_of_getElem?
abbrev Q2:=@List.getElem?_eq_some_iff
abbrev Q3:=@List.getElem?_eq_getElem
abbrev Q4:=@Nat.le_refl
abbrev Q5:=@List.mem_append
abbrev Q6:=@Array.length_toList
abbrev Q7:=@List.mem_singleton
abbrev Q8:=@List.length_take
abbrev Q9:=@List.mem_cons_self
abbrev Qa:=@List.length_append
abbrev Qb:=@Int.emod_lt_of_pos
abbrev Qc:=@List.map_append
abbrev Qd:=@List.mem_cons_of_mem
abbrev Qe:=@Int.emod_nonneg
abbrev Qf:=@List.size_toArray
abbrev Qg:=@List.mem_cons
abbrev Qh:=@List.mem_map
abbrev Qi:=@Bool.false_ne_true
abbrev Qj:=@Nat.zero_le
abbrev Qk:=@List.pairwise_append
abbrev Ql:=@List.append_assoc
abbrev Qm:=@List.getD_eq_getElem?_getD
abbrev Qn:=@List.getElem?_map
abbrev Qo:=@List.length_filter_le
abbrev Qp:=@List.length_cons
abbrev Qq:=@PySem.F.plainAttrs_list
abbrev Qr:=@List.take_add_one
abbrev Qs:=@List.map_cons
abbrev Qt:=@List.take_of_length_le
abbrev Qu:=@List.map_map
abbrev Qv:=@List.mem_append_right
abbrev Qw:=@Array.getElem?_toList
abbrev Qx:=@Nat.lt_of_lt_of_le
abbrev Qy:=@List.getElem?_set
abbrev Qz:=@List.getElem_of_mem
abbrev QA:=@List.length_drop
abbrev QB:=@List.filter_append
abbrev QC:=@Nat.ne_of_lt
abbrev QD:=@Nat.le_trans
abbrev QE:=@Bool.and_eq_true_iff
abbrev QF:=@List.take_length
abbrev QG:=@Array.toList_append
abbrev QH:=@List.mem_filter
abbrev QI:=@List.length_set
abbrev QJ:=@List.take_append_drop
abbrev QK:=@Bool.and_eq_true
abbrev QL:=@Nat.max_eq_right
abbrev QM:=@List.nodup_cons
abbrev QN:=@Int.toNat_natCast
abbrev QO:=@List.pairwise_map
abbrev QP:=@Bool.eq_false_iff
abbrev QQ:=@PySem.F.plainAttrs_dict
abbrev QR:=@Int.ne_of_gt
abbrev QS:=@List.all_eq_true
abbrev QT:=@List.not_mem_nil
abbrev QU:=@List.extract_eq_take_drop
abbrev QV:=@PySem.F.slot_list_append
abbrev QW:=@PySem.F.type_list_append
abbrev QX:=@PySem.W.kia_one
abbrev QY:=@List.mem_of_mem_take
abbrev QZ:=@List.length_pos_iff
abbrev Z0:=@List.mem_map_of_mem
abbrev Z1:=@List.length_reverse
abbrev Z2:=@List.drop_eq_getElem_cons
abbrev Z3:=@List.pairwise_iff_getElem
abbrev Z4:=@List.length_singleton
abbrev Z5:=@List.pairwise_cons
abbrev Z6:=@List.mem_of_mem_eraseIdx
abbrev Z7:=@List.map_take
abbrev Z8:=@Array.toList_extract
abbrev Z9:=@List.drop_zero
abbrev Za:=@Int.eq_ofNat_of_zero_le
abbrev Zb:=@List.pairwise_singleton
abbrev Zc:=@List.flatten_cons
abbrev Zd:=@List.map_congr_left
abbrev Ze:=@List.flatten_append
abbrev Zf:=@Option.map_eq_some_iff
abbrev Zg:=@List.drop_eq_nil_of_le
abbrev Zh:=@List.getElem_mem
abbrev Zi:=@List.getElem?_append_right
abbrev Zj:=@List.nodup_nil
abbrev Zk:=@Bool.false_eq_true
abbrev Zl:=@List.length_replicate
abbrev Zm:=@List.getElem?_append_left
abbrev Zn:=@List.getElem?_eq_none_iff
abbrev Zo:=@List.ne_nil_of_length_pos
abbrev Zp:=@Nat.le_of_lt
abbrev Zq:=@Nat.le_of_eq
abbrev Zr:=@List.mem_iff_getElem
abbrev Zs:=@List.getElem_take
abbrev Zt:=@Int.le_refl
abbrev Zu:=@Nat.lt_irrefl
abbrev Zv:=@List.eq_of_mem_replicate
abbrev Zw:=@Nat.lt_succ_self
abbrev Zx:=@Nat.le_succ
abbrev Zy:=@Nat.eq_zero_or_pos
abbrev Zz:=@PySem.W.mg_of
abbrev ZA:=@PySem.W.methodCall_KW
abbrev ZB:=@List.getElem_drop
abbrev ZC:=@Bool.false_and
abbrev ZD:=@List.mem_of_mem_drop
abbrev ZE:=@List.lookup_cons
abbrev ZF:=@List.mem_flatMap
abbrev ZG:=@List.mem_reverse
abbrev ZH:=@PySem.F.slot_list_extend
abbrev ZI:=@PySem.F.type_list_extend
abbrev ZJ:=@List.map_drop
abbrev ZL:=@List.append_nil
abbrev ZM:=@List.find?_cons
abbrev ZN:=@List.nil_append
abbrev ZO:=@PySem.W.callWith_K
abbrev ZP:=@Nat.pow_succ
abbrev ZQ:=@Nat.add_zero
abbrev ZR:=@List.filter_eq_nil_iff
abbrev ZS:=@List.perm_append_comm
abbrev ZT:=@List.filter_cons
abbrev ZU:=@List.any_cons
abbrev ZV:=@Bool.true_and
abbrev ZW:=@Array.toArray_toList
abbrev ZX:=@List.mem_append_left
abbrev ZY:=@Array.push_eq_append
abbrev ZZ:=@List.length_nil
abbrev X0:=@Nat.min_eq_left
abbrev X1:=@Int.lt_ediv_add_one_mul_self
abbrev X2:=@Nat.mul_comm
abbrev X3:=@Nat.lt_of_le_of_lt
abbrev X4:=@List.getElem?_drop
abbrev X5:=@Array.perm_iff_toList_perm
abbrev X6:=@Int.mul_nonneg
abbrev X7:=@List.take_sublist
abbrev X8:=@Option.isSome_iff_exists
abbrev X9:=@List.getElem?_take_of_lt
abbrev Xa:=@PySem.F.slot_dict_values
abbrev Xb:=@List.take_nil
abbrev Xc:=@PySem.F.slot_dict_items
abbrev Xd:=@List.length_eq_zero_iff
abbrev Xe:=@List.getElem?_cons_succ
abbrev Xf:=@List.getElem?_set_self
abbrev Xg:=@Nat.div_div_eq_div_mul
abbrev Xh:=@Int.mul_comm
abbrev Xi:=@Bool.eq_iff_iff
abbrev Xj:=@Option.map_some
abbrev Xk:=@PySem.F.slot_dict_pop
abbrev Xl:=@Int.mul_ediv_add_emod
abbrev Xm:=@Array.getElem_push_lt
abbrev Xn:=@List.pairwise_reverse
abbrev Xo:=@List.drop_drop
abbrev Xp:=@List.getElem?_append
abbrev Xq:=@List.length_eraseIdx
abbrev Xr:=@List.filterMap_cons
abbrev Xs:=@PySem.W.plainGet_of
abbrev Xu:=@PySem.W.callWith_K0
abbrev Xv:=@Int.toNat_of_nonneg
abbrev Xw:=@List.take_succ_cons
abbrev Xx:=@Int.natCast_nonneg
abbrev Xy:=@Nat.lt_or_eq_of_le
abbrev Xz:=@List.eraseIdx_append_of_length_le
abbrev XA:=@Nat.ne_of_gt
abbrev XB:=@List.map_nil
abbrev XC:=@Option.isSome_map
abbrev XD:=@Int.le_of_lt
abbrev XE:=@Nat.zero_add
abbrev XF:=@Array.toList_push
abbrev XG:=@Nat.lt_succ_of_lt
abbrev XH:=@List.map_id'
abbrev XI:=@List.filter_congr
abbrev XJ:=@List.nodup_append
abbrev XM:=@List.eraseIdxIfInBounds_toArray
abbrev XN:=@PySem.W.kat_cons
abbrev XO:=@List.mem_flatten
abbrev XQ:=@Nat.min_eq_right
abbrev XR:=@Int.mul_le_mul_of_nonneg_right
abbrev XS:=@Int.mul_le_mul_of_nonneg_left
abbrev XT:=@List.take_append_of_le_length
abbrev XU:=@List.of_mem_zip
abbrev XV:=@Nat.not_lt_zero
abbrev XW:=@PySem.F.slot_dict_setdefault
abbrev XX:=@Int.ediv_nonneg
abbrev XY:=@PySem.W.kat_yes
abbrev XZ:=@List.mem_range
abbrev V0:=@Int.fdiv_eq_ediv_of_nonneg
abbrev V1:=@Array.toList_setIfInBounds
abbrev V2:=@PySem.W.kat_go
abbrev V3:=@PySem.W.kat_no
namespace L2
open PySem PySem.Spec PyProof.Rows
noncomputable def aJ (s:Stmt) (j:Nat):Stmt:=match s with
 | .ClassDef _ _ _ body _ _ _ _ _ _ _=>body.getD j (.Pass ⟨0,0,0,0⟩)
 |_=> .Pass ⟨0,0,0,0⟩
noncomputable def gO (s:Stmt):Arguments:=match s with
 | .FunctionDef _ a _ _ _ _ _ _ _ _=>a
 |_=>{posonlyargs:=[],args:=[],vararg:=none,kwonlyargs:=[],kw_defaults:=[],kwarg:=none,defaults:=[]}
noncomputable def dR (s:Stmt):List Stmt:=match s with
 | .FunctionDef _ _ b _ _ _ _ _ _ _=>b
 |_=> []
noncomputable def aj (s:Stmt):Scope:=match s with
 | .FunctionDef _ _ _ _ _ _ sc _ _ _=>sc
 |_=>{kind:= .function,names:=[],isGenerator:=false,isCoroutine:=false}
end L2
namespace HD
open PySem PySem.W
noncomputable def GZ (p:Program) (w:World) (n₀:Nat) (ann:Option Value):Nat->SharedT->Thread->Option SharedT
 |0,_,_=>none
 |n+1,s,t=>match through t with
  |true=>some s
  |false=>match Fast.tw6613529449190102663 n₀ ann t with
   |false=>none
   |true=>match Fast.tw10156331382660048174 (Fast.tw11892475500146522536 Fast.tw14364793385576792824) p w s t with
    |some (s',t')=>GZ p w n₀ ann n s' t'
    |none=>none
theorem BZ {p:Program} {w:World} {z:Nat} {G:Option Value}:∀{n:Nat} {s s':SharedT} {t:Thread},GZ p w z G n s t=some s'->topRun treeTable p w z G n s.abs t=some s'.abs
 |0,_,_,_,h=>by cases h
 |n+1,s,s',t,h=>by
  unfold GZ at h;rw[<-Fast.te6613529449190102663,<-Fast.te10156331382660048174,<-Fast.te11892475500146522536,<-Fast.te14364793385576792824]at h;unfold topRun;cases I:through t with
  |true=>rw[I]at h;cases h;rfl
  |false=>
   rw[I]at h;cases hk:stepOk z G t with
   |false=>rw[hk]at h;cases h
   |true=>
    rw[hk]at h;cases hs:stepT (denote treeTable) p w s t with
    |none=>rw[hs]at h;cases h
    |some x=>
     obtain⟨O,U⟩:=x;rw[hs]at h;show(match step (denote treeTable) p w s.abs t with| .go s' t'=>topRun treeTable p w z G n s' t'| .halt _ _=>none)=_;rw[stepT_spec hs];exact BZ h
noncomputable def Fg:List Obj->BT->Nat->Option (BT×Nat)
 | [],t,n=>some (t,n)
 |o::r,t,n=>match ((t.ins n o).get n).isSome with
  |true=>Fg r (t.ins n o) (n+1)
  |false=>none
theorem Cg {z:Life}:∀{l:List Obj} {t t':BT} {n n':Nat},Fg l t n=some (t',n')->absHeap t' n' z=⟨(absHeap t n z).objs++l.toArray,z⟩
 | [],t,t',n,n',h=>by
  cases h;rw[Array.append_empty];rfl
 |o::r,t,t',n,n',h=>by
  unfold Fg at h;cases g:((t.ins n o).get n).isSome with
  |false=>rw[g]at h;cases h
  |true=>
   rw[g]at h;rw[Cg h,absHeap_ins g];show Heap.mk _ _=Heap.mk _ _;congr 1;show(absHeap t n z).objs.push o++r.toArray=_;rw[<-Array.append_singleton,Array.append_assoc];congr 1;simp
noncomputable def toT (s:Shared):Option SharedT:=match Fg s.heap.objs.toList .nil 0 with
 |some (t,n)=>some ⟨t,n,s.heap.life,s.gens,s.drawn,s.toks,s.os⟩
 |none=>none
theorem IU {s:Shared} {S:SharedT} (h:toT s=some S):S.abs=s:=by
 unfold toT at h;cases e:Fg s.heap.objs.toList .nil 0 with
 |none=>rw[e]at h;cases h
 |some x=>
  obtain⟨t,n⟩:=x;rw[e]at h;cases h;obtain⟨⟨G,z⟩,gens,drawn,toks,os⟩:=s;show Shared.mk (absHeap t n z) _ _ _ _=_;rw[Cg e];show Shared.mk (Heap.mk (#[]++G.toList.toArray) z) _ _ _ _=_;rw[ZW,Array.empty_append]
noncomputable def JU (p:Program) (w:World) (N:Nat) (s₀:Shared):Option Shared:=match toT s₀ with
 |some S=>(GZ p w S.n (s₀.heap.nsMap mainGlobals "__annotations__") N S (topStub p)).map SharedT.abs
 |none=>none
theorem HC {p:Program} {w:World} {N:Nat} {s₀ s₁:Shared} (h:JU p w N s₀=some s₁):topRun treeTable p w s₀.heap.objs.size (s₀.heap.nsMap mainGlobals "__annotations__") N s₀ (topStub p)=some s₁:=by
 unfold JU at h;cases e:toT s₀ with
 |none=>rw[e]at h;cases h
 |some S=>
  rw[e]at h;obtain⟨I,h1,rfl⟩:=Zf.mp h;have z:=IU e;have G:S.n=s₀.heap.objs.size:=by
   rw[<-z];exact(absHeap_size _ _ _).symm
  rw[G]at h1;have:=BZ h1;rw[z]at this;exact this
noncomputable def endP (p:Program) (w:World) (N:Nat):Option Shared:=((Fast.tw10274390034422433532 Fast.tw14364793385576792824 (opening p) w N (start (opening p)).1 (start (opening p)).2).bind (Fast.tw14289696077712309145 p)).bind λs₀=>match s₀.heap.isNs mainGlobals&&s₀.gens.size==0 with
 |true=>(JU p w N s₀).bind λs₁=>match staticsOk (importedModules p.main.body) s₀.heap s₁.heap&&namesBound p s₁.heap&&gensDone s₁&&laidKept s₀.heap s₁.heap with
  |true=>some s₁
  |false=>none
 |false=>none
noncomputable def lA (p q:Program) (N:Nat) (w:World):=(endP p w N).map λs=>(Fast.tw5160383126252970620 (R.mapR (λx=>x.name) (Fast.tw3399658132070893891 q)) (Fast.tw5991557255702980513 q) [] {s with gens:= #[]},s.heap.bltView)
noncomputable def lB (p q:Program) (loose:List Str) (Xt:Shared->Bool) (N:Nat) (w:World):=(endP p w N).map λs=>(Fast.tw10880121769531294198 s.heap (Fast.tw821141287760084731 q loose) (R.mapR (λx=>x.name) (Fast.tw3399658132070893891 q)) (R.mapR (λx=>x.fst) (Fast.tw7409074990110511671 q)) (R.mapR (λx=>x.name) (Fast.tw13664370479719496447 q (Fast.tw821141287760084731 q loose)))&&Fast.tw14722251495701143533 s.heap (importedModules p.main.body)&&s.heap.isNs mainGlobals&&s.heap.isNs builtinsNs&&Fast.tw10994771534591457954 q s.heap&&Xt s&&(s.gens.size==0),Fast.tw479339242167458305 q s)
noncomputable def lC (p q:Program) (loose:List Str) (N:Nat) (w:World):=(endP p w N).map λs=>(Fast.tw16090120013241838585 q (Fast.tw3247288618530077131 q) s,Fast.tw2386780881361962483 q (Fast.tw821141287760084731 q loose) s,Fast.tw11698064438423848299 q loose s,Fast.tw7317090234206586261 q s,Fast.tw7369524293546568484 q loose s)
theorem left_of {p q:Program} {loose:List Str} {Xt:Shared->Bool} {α:Type} {Yf:Shared->α} {Ya:World->α} {N:Nat} (O:∀w,lA p q N w=some ((openGood q loose).1,(openGood q loose).2.1)) (U:∀w,lB p q loose Xt N w=some (true,true)) (Y:∀w,lC p q loose N w=some (openGood q loose).2.2.2.2) (hD:∀w,(endP p w N).map Yf=some (Ya w)):LeftO p q loose Xt Yf Ya N:=λw=>by
 obtain⟨s₁,e,a⟩:=Zf.mp (O w);obtain⟨_,e2,b⟩:=Zf.mp (U w);rw[e]at e2;cases e2;obtain⟨_,z,c⟩:=Zf.mp (Y w);rw[e]at z;cases z;obtain⟨_,G,d⟩:=Zf.mp (hD w);rw[e]at G;cases G;obtain⟨Z,a2⟩:=Prod.mk.inj a;obtain⟨b1,b2⟩:=Prod.mk.inj b;have g:Fast.tw4187177175401517315 q loose (importedModules p.main.body) Xt true s₁=openGood q loose:=by
  exact Prod.ext Z (Prod.ext a2 (Prod.ext b1 (Prod.ext b2 c)))
 rw[<-Fast.te4187177175401517315]at g;unfold endP at e;rw[<-Fast.te10274390034422433532,<-Fast.te14364793385576792824,<-Fast.te14289696077712309145]at e;obtain⟨s₀,h0,e⟩:=Option.bind_eq_some_iff.mp e;unfold openEnds fencedOpening;rw[h0];show(topFrom treeTable p w N s₀).map _=_;unfold topFrom;cases I:(s₀.heap.isNs mainGlobals&&s₀.gens.size==0)with
 |false=>rw[I]at e;cases e
 |true=>
  rw[I]at e;obtain⟨s₂,h1,e⟩:=Option.bind_eq_some_iff.mp e;show Option.map _ ((topRun treeTable p w s₀.heap.objs.size (s₀.heap.nsMap mainGlobals "__annotations__") N s₀ (topStub p)).bind _)=_;rw[HC h1];cases hs:(staticsOk (importedModules p.main.body) s₀.heap s₂.heap&&namesBound p s₂.heap&&gensDone s₂&&laidKept s₀.heap s₂.heap)with
  |false=>rw[hs]at e;cases e
  |true=>
   rw[hs]at e;cases e;show Option.map _ (match (staticsOk (importedModules p.main.body) s₀.heap s₁.heap&&namesBound p s₁.heap&&gensDone s₁&&laidKept s₀.heap s₁.heap)with|true=>some s₁|false=>none)=_;rw[hs];show some (_,_)=some (_,_);rw[g,d]
end HD
namespace SW
open PySem L2
set_option maxHeartbeats 0
noncomputable def top (i:Nat):Stmt:=PySem.Challenge.pw_staywalk_k52_a_page_in_peace.main.body.getD i (.Pass ⟨0,0,0,0⟩)
noncomputable abbrev nW:Stmt:=aJ (top 5) 0
noncomputable abbrev nV:Stmt:=aJ (top 6) 0
noncomputable abbrev lT:Stmt:=aJ (top 7) 0
noncomputable abbrev jJ:Stmt:=aJ (top 8) 0
noncomputable abbrev uE:Stmt:=top 12
noncomputable abbrev re:Stmt:=top 13
noncomputable abbrev oY:Stmt:=top 14
noncomputable abbrev q9:Stmt:=top 15
noncomputable abbrev jZ:Stmt:=top 16
noncomputable abbrev rc:Stmt:=top 17
noncomputable abbrev oZ:Stmt:=top 19
noncomputable abbrev rh:Stmt:=top 21
noncomputable abbrev qZ:Stmt:=top 22
noncomputable abbrev i8:Stmt:=aJ (top 23) 0
noncomputable abbrev g8:Stmt:=aJ (top 23) 1
noncomputable abbrev gf:Stmt:=aJ (top 24) 0
noncomputable abbrev fz:Stmt:=aJ (top 24) 1
noncomputable abbrev o0:Stmt:=aJ (top 25) 0
noncomputable abbrev lR:Stmt:=aJ (top 25) 1
noncomputable abbrev kr:Stmt:=aJ (top 26) 0
noncomputable abbrev jk:Stmt:=aJ (top 26) 1
noncomputable abbrev Ey:Stmt:=top 29
noncomputable abbrev f8:Stmt:=top 30
noncomputable abbrev eD:Stmt:=top 31
noncomputable abbrev eE:Stmt:=top 32
noncomputable abbrev lO:Stmt:=top 33
noncomputable abbrev gY:Stmt:=top 34
noncomputable abbrev rf:Stmt:=top 36
noncomputable abbrev kh:Stmt:=aJ (top 38) 0
noncomputable abbrev kg:Stmt:=aJ (top 38) 1
noncomputable abbrev f9:Stmt:=aJ (top 38) 3
noncomputable abbrev hX:Stmt:=aJ (top 39) 0
noncomputable abbrev dw:Stmt:=aJ (top 39) 1
noncomputable abbrev du:Stmt:=aJ (top 39) 2
noncomputable abbrev cQ:Stmt:=aJ (top 39) 3
noncomputable abbrev fv:Stmt:=aJ (top 39) 4
noncomputable abbrev cw:Stmt:=aJ (top 39) 5
noncomputable abbrev hZ:Stmt:=aJ (top 39) 7
noncomputable abbrev fw:Stmt:=aJ (top 39) 8
noncomputable abbrev gd:Stmt:=aJ (top 39) 9
noncomputable abbrev hV:Stmt:=aJ (top 39) 10
noncomputable abbrev gb:Stmt:=aJ (top 39) 11
noncomputable abbrev g9:Stmt:=aJ (top 43) 0
noncomputable abbrev fO:Stmt:=aJ (top 43) 1
noncomputable abbrev eI:Stmt:=aJ (top 43) 2
noncomputable abbrev jg:Stmt:=aJ (top 43) 3
noncomputable abbrev lV:Stmt:=aJ (top 43) 4
noncomputable abbrev cC:Stmt:=aJ (top 43) 6
noncomputable abbrev b7:Stmt:=aJ (top 43) 7
noncomputable abbrev eG:Stmt:=aJ (top 43) 8
noncomputable abbrev dn:Stmt:=aJ (top 43) 9
noncomputable abbrev cP:Stmt:=aJ (top 43) 10
noncomputable abbrev jf:Stmt:=aJ (top 45) 0
noncomputable abbrev je:Stmt:=aJ (top 45) 1
noncomputable abbrev iR:Stmt:=top 49
noncomputable abbrev jc:Stmt:=aJ (top 50) 0
noncomputable abbrev j8:Stmt:=aJ (top 50) 1
noncomputable abbrev jd:Stmt:=aJ (top 50) 2
noncomputable abbrev kf:Stmt:=aJ (top 50) 3
noncomputable abbrev j9:Stmt:=aJ (top 50) 4
noncomputable abbrev fN:Stmt:=aJ (top 50) 6
noncomputable abbrev lU:Stmt:=aJ (top 50) 7
noncomputable abbrev dI:Stmt:=aJ (top 50) 9
noncomputable abbrev i9:Stmt:=aJ (top 50) 10
noncomputable abbrev fu:Stmt:=aJ (top 50) 11
noncomputable abbrev eF:Stmt:=aJ (top 50) 12
noncomputable abbrev dS:Stmt:=aJ (top 50) 13
noncomputable abbrev dU:Stmt:=aJ (top 50) 14
noncomputable abbrev jh:Stmt:=aJ (top 52) 0
noncomputable abbrev ko:Stmt:=aJ (top 52) 1
noncomputable abbrev ji:Stmt:=aJ (top 52) 2
noncomputable abbrev kq:Stmt:=aJ (top 52) 3
noncomputable abbrev pT:Stmt:=aJ (top 52) 4
noncomputable abbrev eJ:Stmt:=aJ (top 52) 6
noncomputable abbrev hJ:Stmt:=aJ (top 52) 7
noncomputable abbrev jj:Stmt:=aJ (top 52) 15
noncomputable abbrev g7:Stmt:=top 54
noncomputable abbrev j5:Stmt:=top 55
noncomputable abbrev j4:Stmt:=top 56
noncomputable abbrev gZ:Stmt:=top 57
noncomputable abbrev lQ:Stmt:=top 58
noncomputable abbrev j6:Stmt:=top 59
noncomputable abbrev dj:Stmt:=top 60
noncomputable abbrev g6:Stmt:=top 61
noncomputable abbrev j3:Stmt:=top 62
noncomputable abbrev j7:Stmt:=top 63
noncomputable abbrev j2:Stmt:=top 64
noncomputable abbrev lP:Stmt:=top 65
noncomputable abbrev zy:Stmt:=top 66
set_option genSizeOf false in
set_option genInjectivity false in
structure Adr where
 GA:Addr
 oy:FuncData
 Gz:Addr
 ox:FuncData
 F6:Addr
 mK:FuncData
 DO:Addr
 jQ:FuncData
 Ap:Addr
 vk:FuncData
 xS:Addr
 rV:FuncData
 vA:Addr
 pB:FuncData
 xQ:Addr
 rS:FuncData
 qu:Addr
 kE:FuncData
 xR:Addr
 rT:FuncData
 vB:Addr
 pC:FuncData
 xU:Addr
 rX:FuncData
 xP:Addr
 rR:FuncData
 jG:Addr
 jr:FuncData
 c6:Addr
 iH:FuncData
 lg:Addr
 cr:FuncData
 jX:Addr
 fK:FuncData
 vD:Addr
 iG:FuncData
 sH:Addr
 mJ:FuncData
 qJ:Addr
 e7:FuncData
 oQ:Addr
 jE:FuncData
 IK:Addr
 Ae:FuncData
 kX:Addr
 gr:FuncData
 mU:Addr
 iC:FuncData
 mV:Addr
 iD:FuncData
 sC:Addr
 mF:FuncData
 mT:Addr
 iB:FuncData
 xT:Addr
 rW:FuncData
 qG:Addr
 kP:FuncData
 qF:Addr
 kO:FuncData
 kY:Addr
 gs:FuncData
 m5:Addr
 fc:FuncData
 gI:Addr
 dG:FuncData
 gH:Addr
 b8:FuncData
 f7:Addr
 cY:FuncData
 jV:Addr
 fI:FuncData
 fk:Addr
 cx:FuncData
 m6:Addr
 iK:FuncData
 jW:Addr
 fJ:FuncData
 k7:Addr
 gv:FuncData
 m4:Addr
 iJ:FuncData
 kZ:Addr
 gu:FuncData
 mY:Addr
 iI:FuncData
 oM:Addr
 jA:FuncData
 i6:Addr
 eX:FuncData
 oK:Addr
 jz:FuncData
 vF:Addr
 mM:FuncData
 i5:Addr
 eV:FuncData
 gG:Addr
 dF:FuncData
 i4:Addr
 eU:FuncData
 gF:Addr
 dE:FuncData
 fZ:Addr
 cX:FuncData
 oJ:Addr
 jy:FuncData
 oH:Addr
 jx:FuncData
 sE:Addr
 mG:FuncData
 oE:Addr
 jv:FuncData
 qC:Addr
 kL:FuncData
 oG:Addr
 jw:FuncData
 qE:Addr
 kN:FuncData
 qD:Addr
 kM:FuncData
 oC:Addr
 ju:FuncData
 vE:Addr
 mL:FuncData
 oB:Addr
 jt:FuncData
 oA:Addr
 js:FuncData
 jU:Addr
 fH:FuncData
 iZ:Addr
 eT:FuncData
 iM:Addr
 dW:FuncData
 iN:Addr
 dX:FuncData
 oN:Addr
 jB:FuncData
 qH:Addr
 kQ:FuncData
 oO:Addr
 jC:FuncData
 qI:Addr
 kR:FuncData
 y3:Addr
 qp:FuncData
 i7:Addr
 eY:FuncData
 mZ:Addr
 eZ:FuncData
 oP:Addr
 jD:FuncData
 mX:Addr
 iF:FuncData
 qz:Addr
 kI:FuncData
 qy:Addr
 kH:FuncData
 vC:Addr
 pD:FuncData
 sG:Addr
 mI:FuncData
 qA:Addr
 kJ:FuncData
 gE:Addr
 dD:FuncData
 mW:Addr
 iE:FuncData
 qw:Addr
 kG:FuncData
 qB:Addr
 kK:FuncData
 qv:Addr
 kF:FuncData
 sF:Addr
 mH:FuncData
 IJ:Addr
 Cv:FuncData
 b5:Addr
 nO:Addr
 Al:Addr
 Cy:Addr
 Cw:Addr
 Ak:Addr
 vq:Addr
 fS:Addr
 aU:Addr
 dh:Addr
 bY:Addr
 cZ:Addr
 a7:Addr
 bB:Addr
 fV:Addr
 aZ:Addr
 aL:Addr
end SW
namespace ZK
open PySem PySem.W SW L2
noncomputable abbrev N:Value:= .none
noncomputable abbrev B (b:Bool):Value:= .bool b
noncomputable abbrev I (i:Int):Value:= .int i 0
noncomputable abbrev S (x:Str) (t:Nat):Value:= .str x t
noncomputable abbrev F (t:Nat):Value:= .str "/claim/cut.py" t
noncomputable abbrev R (a:Addr):Value:= .ref a
noncomputable abbrev T (n:String):Value:= .type n
noncomputable abbrev E (P:Params) (x:Str) (t:Nat) (v:Value):DictEntry:=⟨PyData.keyHash P x,.str x t,v⟩
noncomputable abbrev c (vs:List Value):Obj:=⟨.type "code",none,.fields vs.toArray, #[]⟩
noncomputable abbrev o (n:Str) (a:Nat) (m:Str) (b d:Nat) (e g h i j:Int) (k:Addr) (l:Int) (r s t u:Addr) (v w:Int) (x:Nat):Obj:=c [S n a,S m b,F d,I e,I g,I h,I i,I j,R k,B true,I l,R r,N,R s,R t,R u,I v,I w,F x]
noncomputable abbrev D (nm qn:Str) (s:Stmt) (df kV dc pm:Value) (an:Option Addr) (cd ct:Value):FuncData:=fnOf nm qn (gO s) (dR s) (aj s) df kV dc pm an cd ct
noncomputable abbrev f (d:FuncData):Obj:=⟨.type "function",none,.func d, #[]⟩
noncomputable def t:Adr:=⟨72,D "__init__" "NoKey.__init__" nW N N N (S "staywalk.errors" 194) none (R 71) N,91,D "__init__" "Twice.__init__" nV N N N (S "staywalk.errors" 194) none (R 90) N,110,D "__init__" "TooOld.__init__" lT N N N (S "staywalk.errors" 194) none (R 109) N,129,D "__init__" "NoMoment.__init__" jJ N N N (S "staywalk.errors" 194) none (R 128) N,141,D "turned" "turned" uE N N N (S "staywalk.bits" 346) none (R 140) N,148,D "mark_of" "mark_of" re N N N (S "staywalk.bits" 346) none (R 147) N,155,D "place_of" "place_of" oY N N N (S "staywalk.bits" 346) none (R 154) N,162,D "slot_of" "slot_of" q9 N N N (S "staywalk.bits" 346) none (R 161) N,169,D "stretch_of" "stretch_of" jZ N N N (S "staywalk.bits" 346) none (R 168) N,176,D "slot_at" "slot_at" rc N N N (S "staywalk.bits" 346) none (R 175) N,183,D "is_whole" "is_whole" oZ N N N (S "staywalk.wholes" 401) none (R 182) N,190,D "is_from" "is_from" rh N N N (S "staywalk.tokens" 410) none (R 189) N,197,D "word_of" "word_of" qZ N N N (S "staywalk.tokens" 410) none (R 196) N,211,D "__init__" "Token.__init__" i8 N N N (S "staywalk.tokens" 410) none (R 210) N,218,D "words" "Token.words" g8 N N N (S "staywalk.tokens" 410) none (R 217) N,240,D "__init__" "BySlots.__init__" gf (R 233) N N (S "staywalk.tokens" 410) none (R 239) N,247,D "holds" "BySlots.holds" fz N N N (S "staywalk.tokens" 410) none (R 246) N,267,D "__init__" "Up.__init__" o0 (R 260) N N (S "staywalk.tokens" 410) none (R 266) N,274,D "holds" "Up.holds" lR N N N (S "staywalk.tokens" 410) none (R 273) N,294,D "__init__" "Down.__init__" kr (R 287) N N (S "staywalk.tokens" 410) none (R 293) N,301,D "holds" "Down.holds" jk N N N (S "staywalk.tokens" 410) none (R 300) N,312,D "ask" "ask" Ey (R 307) N N (S "staywalk.asks" 570) none (R 311) N,319,D "page_by_slots" "page_by_slots" f8 N N N (S "staywalk.asks" 570) none (R 318) N,324,D "page_by_keys" "page_by_keys" eD N N N (S "staywalk.asks" 570) none (R 323) N,329,D "keys_of_page" "keys_of_page" eE N N N (S "staywalk.asks" 570) none (R 328) N,336,D "keys_near" "keys_near" lO N N N (S "staywalk.asks" 570) none (R 335) N,343,D "token_behind" "token_behind" gY N N N (S "staywalk.asks" 570) none (R 342) N,350,D "is_left" "is_left" rf N N N (S "staywalk.copier" 623) none (R 349) N,371,D "__init__" "Page.__init__" kh N N N (S "staywalk.copier" 623) none (R 370) N,378,D "read" "Page.read" kg N N N (S "staywalk.copier" 623) none (R 377) N,392,D "outcome" "Page.outcome" f9 N N N (S "staywalk.copier" 623) none (R 391) N,414,D "__init__" "Copier.__init__" hX (R 407) N N (S "staywalk.copier" 623) none (R 413) N,421,D "open_page" "Copier.open_page" dw N N N (S "staywalk.copier" 623) none (R 420) N,429,D "read_page" "Copier.read_page" du (R 422) N N (S "staywalk.copier" 623) none (R 428) N,436,D "close_page" "Copier.close_page" cQ N N N (S "staywalk.copier" 623) none (R 435) N,443,D "follow" "Copier.follow" fv N N N (S "staywalk.copier" 623) none (R 442) N,450,D "follow_mark" "Copier.follow_mark" cw N N N (S "staywalk.copier" 623) none (R 449) N,464,D "copy" "Copier.copy" hZ N N N (S "staywalk.copier" 623) none (R 463) N,471,D "covers" "Copier.covers" fw N N N (S "staywalk.copier" 623) none (R 470) N,478,D "place" "Copier.place" gd N N N (S "staywalk.copier" 623) none (R 477) N,485,D "left" "Copier.left" hV N N N (S "staywalk.copier" 623) none (R 484) N,492,D "total" "Copier.total" gb N N N (S "staywalk.copier" 623) none (R 491) N,520,D "__init__" "Leaves.__init__" g9 N N N (S "staywalk.leaves" 834) none (R 519) N,525,D "add" "Leaves.add" fO N N N (S "staywalk.leaves" 834) none (R 524) N,532,D "discard" "Leaves.discard" eI N N N (S "staywalk.leaves" 834) none (R 531) N,539,D "has" "Leaves.has" jg N N N (S "staywalk.leaves" 834) none (R 538) N,544,D "many" "Leaves.many" lV N N N (S "staywalk.leaves" 834) none (R 543) N,556,D "from_on" "Leaves.from_on" cC N N N (S "staywalk.leaves" 834) none (R 555) N,561,D "down_from" "Leaves.down_from" b7 N N N (S "staywalk.leaves" 834) none (R 560) N,568,D "leaf_of" "Leaves.leaf_of" eG N N N (S "staywalk.leaves" 834) none (R 567) N,575,D "part_leaf" "Leaves.part_leaf" dn N N N (S "staywalk.leaves" 834) none (R 574) N,582,D "join_small" "Leaves.join_small" cP N N N (S "staywalk.leaves" 834) none (R 581) N,603,D "__init__" "Makes.__init__" jf N N N (S "staywalk.makes" 947) none (R 602) N,610,D "note" "Makes.note" je N N N (S "staywalk.makes" 947) none (R 609) N,643,D "empty_row" "empty_row" iR N N N (S "staywalk.slots" 1010) none (R 642) N,657,D "__init__" "Slots.__init__" jc N N N (S "staywalk.slots" 1010) none (R 656) N,664,D "put" "Slots.put" j8 N N N (S "staywalk.slots" 1010) none (R 663) N,671,D "drop" "Slots.drop" jd N N N (S "staywalk.slots" 1010) none (R 670) N,678,D "get" "Slots.get" kf N N N (S "staywalk.slots" 1010) none (R 677) N,685,D "has" "Slots.has" j9 N N N (S "staywalk.slots" 1010) none (R 684) N,697,D "rows" "Slots.rows" fN N N N (S "staywalk.slots" 1010) none (R 696) N,704,D "moved" "Slots.moved" lU N N N (S "staywalk.slots" 1010) none (R 703) N,716,D "span" "Slots.span" dI N N N (S "staywalk.slots" 1010) none (R 715) N,723,D "stop" "Slots.stop" i9 N N N (S "staywalk.slots" 1010) none (R 722) N,730,D "cell_of" "Slots.cell_of" fu N N N (S "staywalk.slots" 1010) none (R 729) N,737,D "lying_at" "Slots.lying_at" eF N N N (S "staywalk.slots" 1010) none (R 736) N,744,D "move_slot" "Slots.move_slot" dS N N N (S "staywalk.slots" 1010) none (R 743) N,751,D "begin_row" "Slots.begin_row" dU N N N (S "staywalk.slots" 1010) none (R 750) N,772,D "__init__" "House.__init__" jh N N N (S "staywalk.house" 1173) none (R 771) N,779,D "put" "House.put" ko N N N (S "staywalk.house" 1173) none (R 778) N,786,D "drop" "House.drop" ji N N N (S "staywalk.house" 1173) none (R 785) N,793,D "get" "House.get" kq N N N (S "staywalk.house" 1173) none (R 792) N,800,D "has" "House.has" pT N N N (S "staywalk.house" 1173) none (R 799) N,814,D "lay_mark" "House.lay_mark" eJ N N N (S "staywalk.house" 1173) none (R 813) N,822,D "diary" "House.diary" hJ (R 815) N N (S "staywalk.house" 1173) none (R 821) N,879,D "done" "House.done" jj N N N (S "staywalk.house" 1173) none (R 878) N,907,D "_law_cell_at" "_law_cell_at" g7 N N N (S "law_staywalk_k52_a_page_in_peace" 1350) none (R 906) N,914,D "_law_mixed" "_law_mixed" j5 N N N (S "law_staywalk_k52_a_page_in_peace" 1350) none (R 913) N,921,D "_law_place" "_law_place" j4 N N N (S "law_staywalk_k52_a_page_in_peace" 1350) none (R 920) N,926,D "_law_run" "_law_run" gZ N N N (S "law_staywalk_k52_a_page_in_peace" 1350) none (R 925) N,933,D "_law_deed" "_law_deed" lQ N N N (S "law_staywalk_k52_a_page_in_peace" 1350) none (R 932) N,940,D "_law_house" "_law_house" j6 N N N (S "law_staywalk_k52_a_page_in_peace" 1350) none (R 939) N,947,D "_law_numbers_told" "_law_numbers_told" dj N N N (S "law_staywalk_k52_a_page_in_peace" 1350) none (R 946) N,954,D "_law_numbers" "_law_numbers" g6 N N N (S "law_staywalk_k52_a_page_in_peace" 1350) none (R 953) N,961,D "_law_token" "_law_token" j3 N N N (S "law_staywalk_k52_a_page_in_peace" 1350) none (R 960) N,968,D "_law_holds" "_law_holds" j7 N N N (S "law_staywalk_k52_a_page_in_peace" 1350) none (R 967) N,975,D "_law_words" "_law_words" j2 N N N (S "law_staywalk_k52_a_page_in_peace" 1350) none (R 974) N,982,D "_law_read" "_law_read" lP N N N (S "law_staywalk_k52_a_page_in_peace" 1350) none (R 981) N,987,D "law" "law" zy N N N (S "law_staywalk_k52_a_page_in_peace" 1350) none (R 986) N,31,44,56,75,94,113,132,221,250,277,304,395,502,585,634,754,896⟩
noncomputable def K:Params->Frag:=λP=>(nat_lit 2,⟨N,none,.dict #[] 0, #[]⟩)::
(nat_lit 3,⟨(T "dict"),none,.dict #[E P "__name__" 165 (S "law_staywalk_k52_a_page_in_peace" 1350),E P "__doc__" 166 N,E P "__package__" 167 N,E P "__loader__" 168 (.builtin "__main__.__loader__#opaque"),E P "__spec__" 169 N,E P "__annotations__" 170 (R 6),E P "__builtins__" 171 (R 4),E P "__file__" 173 (S "/claim/cut.py" 172),E P "__cached__" 174 N,E P "_wall" 193 (R 21),E P "WalkError" 213 (R 31),E P "NoToken" 229 (R 44),E P "OutOfTurn" 245 (R 56),E P "NoKey" 270 (R 75),E P "Twice" 295 (R 94),E P "TooOld" 320 (R 113),E P "NoMoment" 345 (R 132),E P "BITS" 349 (.int 16 348),E P "PLACES" 351 (.int 65536 350),E P "turned" 361 (R 141),E P "mark_of" 368 (R 148),E P "place_of" 375 (R 155),E P "slot_of" 383 (R 162),E P "stretch_of" 392 (R 169),E P "slot_at" 400 (R 176),E P "is_whole" 409 (R 183),E P "is_from" 419 (R 190),E P "word_of" 426 (R 197),E P "Token" 466 (R 221),E P "BySlots" 501 (R 250),E P "Up" 535 (R 277),E P "Down" 569 (R 304),E P "STRETCHES_A_KEY" 573 (.int 4 572),E P "ask" 580 (R 312),E P "page_by_slots" 593 (R 319),E P "page_by_keys" 599 (R 324),E P "keys_of_page" 605 (R 329),E P "keys_near" 614 (R 336),E P "token_behind" 622 (R 343),E P "is_left" 632 (R 350),E P "change" 640 (R 357),E P "Page" 700 (R 395),E P "Copier" 833 (R 502),E P "MOST_IN_LEAF" 837 (.int 8 836),E P "LEAST_IN_TWO" 839 (.int 5 838),E P "Leaves" 946 (R 585),E P "Makes" 1009 (R 634),E P "LEAST_SIZE" 1013 (.int 4 1012),E P "GREATEST_SIZE" 1015 (.int 256 1014),E P "empty_row" 1021 (R 643),E P "Slots" 1172 (R 754),E P "House" 1349 (R 896),E P "_law_cell_at" 1359 (R 907),E P "_law_mixed" 1368 (R 914),E P "_law_place" 1378 (R 921),E P "_law_run" 1384 (R 926),E P "_law_deed" 1396 (R 933),E P "_law_house" 1406 (R 940),E P "_law_numbers_told" 1416 (R 947),E P "_law_numbers" 1428 (R 954),E P "_law_token" 1435 (R 961),E P "_law_holds" 1446 (R 968),E P "_law_words" 1453 (R 975),E P "_law_read" 1464 (R 982),E P "law" 1470 (R 987)] 65, #[]⟩)::
(nat_lit 30,⟨(T "dict"),none,.dict #[E P "__module__" 203 (S "staywalk.errors" 194),E P "__firstlineno__" 207 (.int 5 206),E P "__static_attributes__" 208 (R 29),E P "__weakref__" 210 (R 32),E P "__doc__" 211 N] 3, #[]⟩)::
(nat_lit 31,⟨(T "type"),none,.cls ⟨"WalkError",[(T "ValueError")],[(R 31),(T "ValueError"),(T "Exception"),(T "BaseException"),(T "object")],30,"WalkError",true,[],[(R 44),(R 56),(R 75),(R 94),(R 113),(R 132)],false,none,false⟩, #[some (R 22),none,some (S "WalkError" 196),some (S "WalkError" 204),some (.builtin "ValueError.__new__"),some (B true)]⟩)::
(nat_lit 43,⟨(T "dict"),none,.dict #[E P "__module__" 221 (S "staywalk.errors" 194),E P "__firstlineno__" 225 (.int 7 224),E P "__static_attributes__" 226 (R 42),E P "__doc__" 227 N] 2, #[]⟩)::
(nat_lit 44,⟨(T "type"),none,.cls ⟨"NoToken",[(R 31)],[(R 44),(R 31),(T "ValueError"),(T "Exception"),(T "BaseException"),(T "object")],43,"NoToken",true,[],[],false,none,false⟩, #[some (R 35),none,some (S "NoToken" 214),some (S "NoToken" 222),some (.builtin "ValueError.__new__"),some (B true)]⟩)::
(nat_lit 55,⟨(T "dict"),none,.dict #[E P "__module__" 237 (S "staywalk.errors" 194),E P "__firstlineno__" 241 (.int 9 240),E P "__static_attributes__" 242 (R 54),E P "__doc__" 243 N] 2, #[]⟩)::
(nat_lit 56,⟨(T "type"),none,.cls ⟨"OutOfTurn",[(R 31)],[(R 56),(R 31),(T "ValueError"),(T "Exception"),(T "BaseException"),(T "object")],55,"OutOfTurn",true,[],[],false,none,false⟩, #[some (R 47),none,some (S "OutOfTurn" 230),some (S "OutOfTurn" 238),some (.builtin "ValueError.__new__"),some (B true)]⟩)::
(nat_lit 71,o "__init__" 258 "NoKey.__init__" 259 260 13 2 0 0 3 66 181 67 68 69 70 263 13 264)::
(nat_lit 72,f t.oy)::
(nat_lit 74,⟨(T "dict"),none,.dict #[E P "__module__" 253 (S "staywalk.errors" 194),E P "__firstlineno__" 257 (.int 11 256),E P "__init__" 265 (R 72),E P "__static_attributes__" 267 (R 73),E P "__doc__" 268 N] 2, #[]⟩)::
(nat_lit 75,⟨(T "type"),none,.cls ⟨"NoKey",[(R 31)],[(R 75),(R 31),(T "ValueError"),(T "Exception"),(T "BaseException"),(T "object")],74,"NoKey",true,[],[],false,none,false⟩, #[some (R 59),none,some (S "NoKey" 246),some (S "NoKey" 254),some (.builtin "ValueError.__new__"),some (B true)]⟩)::
(nat_lit 90,o "__init__" 283 "Twice.__init__" 284 285 18 2 0 0 3 85 181 86 87 88 89 288 18 289)::
(nat_lit 91,f t.ox)::
(nat_lit 93,⟨(T "dict"),none,.dict #[E P "__module__" 278 (S "staywalk.errors" 194),E P "__firstlineno__" 282 (.int 16 281),E P "__init__" 290 (R 91),E P "__static_attributes__" 292 (R 92),E P "__doc__" 293 N] 2, #[]⟩)::
(nat_lit 94,⟨(T "type"),none,.cls ⟨"Twice",[(R 31)],[(R 94),(R 31),(T "ValueError"),(T "Exception"),(T "BaseException"),(T "object")],93,"Twice",true,[],[],false,none,false⟩, #[some (R 78),none,some (S "Twice" 271),some (S "Twice" 279),some (.builtin "ValueError.__new__"),some (B true)]⟩)::
(nat_lit 109,o "__init__" 308 "TooOld.__init__" 309 310 23 2 0 0 3 104 181 105 106 107 108 313 23 314)::
(nat_lit 110,f t.mK)::
(nat_lit 112,⟨(T "dict"),none,.dict #[E P "__module__" 303 (S "staywalk.errors" 194),E P "__firstlineno__" 307 (.int 21 306),E P "__init__" 315 (R 110),E P "__static_attributes__" 317 (R 111),E P "__doc__" 318 N] 2, #[]⟩)::
(nat_lit 113,⟨(T "type"),none,.cls ⟨"TooOld",[(R 31)],[(R 113),(R 31),(T "ValueError"),(T "Exception"),(T "BaseException"),(T "object")],112,"TooOld",true,[],[],false,none,false⟩, #[some (R 97),none,some (S "TooOld" 296),some (S "TooOld" 304),some (.builtin "ValueError.__new__"),some (B true)]⟩)::
(nat_lit 128,o "__init__" 333 "NoMoment.__init__" 334 335 28 2 0 0 3 123 181 124 125 126 127 338 28 339)::
(nat_lit 129,f t.jQ)::
(nat_lit 131,⟨(T "dict"),none,.dict #[E P "__module__" 328 (S "staywalk.errors" 194),E P "__firstlineno__" 332 (.int 26 331),E P "__init__" 340 (R 129),E P "__static_attributes__" 342 (R 130),E P "__doc__" 343 N] 2, #[]⟩)::
(nat_lit 132,⟨(T "type"),none,.cls ⟨"NoMoment",[(R 31)],[(R 132),(R 31),(T "ValueError"),(T "Exception"),(T "BaseException"),(T "object")],131,"NoMoment",true,[],[],false,none,false⟩, #[some (R 116),none,some (S "NoMoment" 321),some (S "NoMoment" 329),some (.builtin "ValueError.__new__"),some (B true)]⟩)::
(nat_lit 140,o "turned" 352 "turned" 353 354 34 1 0 0 3 135 181 136 137 138 139 359 34 360)::
(nat_lit 141,f t.vk)::
(nat_lit 147,o "mark_of" 362 "mark_of" 363 364 41 1 0 0 3 142 181 143 144 145 146 366 41 367)::
(nat_lit 148,f t.rV)::
(nat_lit 154,o "place_of" 369 "place_of" 370 371 43 1 0 0 3 149 181 150 151 152 153 373 43 374)::
(nat_lit 155,f t.pB)::
(nat_lit 161,o "slot_of" 376 "slot_of" 377 378 45 2 0 0 3 156 181 157 158 159 160 381 45 382)::
(nat_lit 162,f t.rS)::
(nat_lit 168,o "stretch_of" 384 "stretch_of" 385 386 47 2 0 0 3 163 181 164 165 166 167 390 47 391)::
(nat_lit 169,f t.kE)::
(nat_lit 175,o "slot_at" 393 "slot_at" 394 395 50 2 0 0 3 170 181 171 172 173 174 398 50 399)::
(nat_lit 176,f t.rT)::
(nat_lit 182,o "is_whole" 403 "is_whole" 404 405 53 1 0 0 3 177 181 178 179 180 181 407 53 408)::
(nat_lit 183,f t.pC)::
(nat_lit 189,o "is_from" 412 "is_from" 413 414 56 2 0 0 3 184 181 185 186 187 188 417 56 418)::
(nat_lit 190,f t.rX)::
(nat_lit 196,o "word_of" 420 "word_of" 421 422 58 1 0 0 3 191 181 192 193 194 195 424 58 425)::
(nat_lit 197,f t.rR)::
(nat_lit 210,o "__init__" 439 "Token.__init__" 440 441 62 4 0 0 3 205 181 206 207 208 209 446 62 447)::
(nat_lit 211,f t.jr)::
(nat_lit 217,o "words" 449 "Token.words" 450 451 67 1 0 0 3 212 181 213 214 215 216 453 67 454)::
(nat_lit 218,f t.iH)::
(nat_lit 220,⟨(T "dict"),none,.dict #[E P "__module__" 434 (S "staywalk.tokens" 410),E P "__firstlineno__" 438 (.int 60 437),E P "__init__" 448 (R 211),E P "words" 455 (R 218),E P "__static_attributes__" 459 (R 219),E P "__dict__" 461 (R 222),E P "__weakref__" 463 (R 223),E P "__doc__" 464 N] 4, #[]⟩)::
(nat_lit 221,⟨(T "type"),none,.cls ⟨"Token",[(T "object")],[(R 221),(T "object")],220,"Token",true,[],[(R 250),(R 277),(R 304)],false,none,false⟩, #[none,none,some (S "Token" 427),some (S "Token" 435),some (.builtin "object.__new__"),some (B true)]⟩)::
(nat_lit 233,⟨(T "tuple"),none,.seq #[(.int 0 479),(.int 65536 480)] 0, #[]⟩)::
(nat_lit 239,o "__init__" 481 "BySlots.__init__" 482 483 71 3 0 0 3 234 181 235 236 237 238 487 71 488)::
(nat_lit 240,f t.cr)::
(nat_lit 246,o "holds" 490 "BySlots.holds" 491 492 76 2 0 0 3 241 181 242 243 244 245 495 76 496)::
(nat_lit 247,f t.fK)::
(nat_lit 249,⟨(T "dict"),none,.dict #[E P "__module__" 474 (S "staywalk.tokens" 410),E P "__firstlineno__" 478 (.int 69 477),E P "__init__" 489 (R 240),E P "holds" 497 (R 247),E P "__static_attributes__" 498 (R 248),E P "__doc__" 499 N] 2, #[]⟩)::
(nat_lit 250,⟨(T "type"),none,.cls ⟨"BySlots",[(R 221)],[(R 250),(R 221),(T "object")],249,"BySlots",true,[],[],false,none,false⟩, #[some (R 226),none,some (S "BySlots" 467),some (S "BySlots" 475),some (.builtin "object.__new__"),some (B true)]⟩)::
(nat_lit 260,⟨(T "tuple"),none,.seq #[(.int 0 514),N] 0, #[]⟩)::
(nat_lit 266,o "__init__" 515 "Up.__init__" 516 517 80 3 0 0 3 261 181 262 263 264 265 521 80 522)::
(nat_lit 267,f t.iG)::
(nat_lit 273,o "holds" 524 "Up.holds" 525 526 85 2 0 0 3 268 181 269 270 271 272 529 85 530)::
(nat_lit 274,f t.mJ)::
(nat_lit 276,⟨(T "dict"),none,.dict #[E P "__module__" 509 (S "staywalk.tokens" 410),E P "__firstlineno__" 513 (.int 78 512),E P "__init__" 523 (R 267),E P "holds" 531 (R 274),E P "__static_attributes__" 532 (R 275),E P "__doc__" 533 N] 2, #[]⟩)::
(nat_lit 277,⟨(T "type"),none,.cls ⟨"Up",[(R 221)],[(R 277),(R 221),(T "object")],276,"Up",true,[],[],false,none,false⟩, #[some (R 253),none,some (S "Up" 502),some (S "Up" 510),some (.builtin "object.__new__"),some (B true)]⟩)::
(nat_lit 287,⟨(T "tuple"),none,.seq #[N,(.int 0 548)] 0, #[]⟩)::
(nat_lit 293,o "__init__" 549 "Down.__init__" 550 551 89 3 0 0 3 288 181 289 290 291 292 555 89 556)::
(nat_lit 294,f t.e7)::
(nat_lit 300,o "holds" 558 "Down.holds" 559 560 94 2 0 0 3 295 181 296 297 298 299 563 94 564)::
(nat_lit 301,f t.jE)::
(nat_lit 303,⟨(T "dict"),none,.dict #[E P "__module__" 543 (S "staywalk.tokens" 410),E P "__firstlineno__" 547 (.int 87 546),E P "__init__" 557 (R 294),E P "holds" 565 (R 301),E P "__static_attributes__" 566 (R 302),E P "__doc__" 567 N] 2, #[]⟩)::
(nat_lit 304,⟨(T "type"),none,.cls ⟨"Down",[(R 221)],[(R 304),(R 221),(T "object")],303,"Down",true,[],[],false,none,false⟩, #[some (R 280),none,some (S "Down" 536),some (S "Down" 544),some (.builtin "object.__new__"),some (B true)]⟩)::
(nat_lit 307,⟨(T "tuple"),none,.seq #[(.int 10 574),N] 0, #[]⟩)::
(nat_lit 311,c [(S "ask" 575),(S "ask" 576),(F 577),(I 98),(I 4),(I 0),(I 0),(I 3),(R 308),(B true),(I 181),(R 309),N,N,N,(R 310),(I 578),(I 98),(F 579)])::
(nat_lit 312,f t.Ae)::
(nat_lit 318,o "page_by_slots" 581 "page_by_slots" 582 583 106 3 0 0 3 313 181 314 315 316 317 591 106 592)::
(nat_lit 319,f t.gr)::
(nat_lit 323,c [(S "page_by_keys" 594),(S "page_by_keys" 595),(F 596),(I 120),(I 3),(I 0),(I 0),(I 3),(R 320),(B true),(I 181),(R 321),N,N,N,(R 322),(I 597),(I 120),(F 598)])::
(nat_lit 324,f t.iC)::
(nat_lit 328,c [(S "keys_of_page" 600),(S "keys_of_page" 601),(F 602),(I 123),(I 3),(I 0),(I 0),(I 3),(R 325),(B true),(I 181),(R 326),N,N,N,(R 327),(I 603),(I 123),(F 604)])::
(nat_lit 329,f t.iD)::
(nat_lit 335,o "keys_near" 606 "keys_near" 607 608 132 3 0 0 3 330 181 331 332 333 334 612 132 613)::
(nat_lit 336,f t.mF)::
(nat_lit 342,o "token_behind" 615 "token_behind" 616 617 136 2 0 0 3 337 181 338 339 340 341 620 136 621)::
(nat_lit 343,f t.iB)::
(nat_lit 349,o "is_left" 625 "is_left" 626 627 141 2 0 0 3 344 181 345 346 347 348 630 141 631)::
(nat_lit 350,f t.rW)::
(nat_lit 370,o "__init__" 653 "Page.__init__" 654 655 150 2 0 0 3 365 181 366 367 368 369 658 150 659)::
(nat_lit 371,f t.kP)::
(nat_lit 377,o "read" 661 "Page.read" 662 663 157 3 0 0 3 372 181 373 374 375 376 668 157 669)::
(nat_lit 378,f t.kO)::
(nat_lit 391,o "outcome" 679 "Page.outcome" 680 681 165 1 0 0 3 386 181 387 388 389 390 685 165 686)::
(nat_lit 392,f t.gs)::
(nat_lit 394,⟨(T "dict"),none,.dict #[E P "__module__" 648 (S "staywalk.copier" 623),E P "__firstlineno__" 652 (.int 148 651),E P "__init__" 660 (R 371),E P "read" 670 (R 378),E P "in_piece" 678 (R 385),E P "outcome" 687 (R 392),E P "__static_attributes__" 693 (R 393),E P "__dict__" 695 (R 396),E P "__weakref__" 697 (R 397),E P "__doc__" 698 N] 4, #[]⟩)::
(nat_lit 395,⟨(T "type"),none,.cls ⟨"Page",[(T "object")],[(R 395),(T "object")],394,"Page",true,[],[],false,none,false⟩, #[none,none,some (S "Page" 641),some (S "Page" 649),some (.builtin "object.__new__"),some (B true)]⟩)::
(nat_lit 407,⟨(T "tuple"),none,.seq #[N] 0, #[]⟩)::
(nat_lit 413,o "__init__" 713 "Copier.__init__" 714 715 172 4 0 0 3 408 181 409 410 411 412 720 172 721)::
(nat_lit 414,f t.fc)::
(nat_lit 420,o "open_page" 723 "Copier.open_page" 724 725 182 1 0 0 3 415 181 416 417 418 419 727 182 728)::
(nat_lit 421,f t.dG)::
(nat_lit 422,⟨(T "tuple"),none,.seq #[(.int 10 730)] 0, #[]⟩)::
(nat_lit 428,o "read_page" 731 "Copier.read_page" 732 733 190 2 0 0 3 423 181 424 425 426 427 737 190 738)::
(nat_lit 429,f t.b8)::
(nat_lit 435,o "close_page" 740 "Copier.close_page" 741 742 197 1 0 0 3 430 181 431 432 433 434 745 197 746)::
(nat_lit 436,f t.cY)::
(nat_lit 442,o "follow" 748 "Copier.follow" 749 750 204 2 0 0 3 437 181 438 439 440 441 755 204 756)::
(nat_lit 443,f t.fI)::
(nat_lit 449,o "follow_mark" 758 "Copier.follow_mark" 759 760 214 2 0 0 3 444 181 445 446 447 448 764 214 765)::
(nat_lit 450,f t.cx)::
(nat_lit 463,o "copy" 777 "Copier.copy" 778 779 230 1 0 0 3 458 181 459 460 461 462 781 230 782)::
(nat_lit 464,f t.iK)::
(nat_lit 470,o "covers" 784 "Copier.covers" 785 786 233 2 0 0 3 465 181 466 467 468 469 789 233 790)::
(nat_lit 471,f t.fJ)::
(nat_lit 477,o "place" 792 "Copier.place" 793 794 236 1 0 0 3 472 181 473 474 475 476 796 236 797)::
(nat_lit 478,f t.gv)::
(nat_lit 484,o "left" 799 "Copier.left" 800 801 239 1 0 0 3 479 181 480 481 482 483 803 239 804)::
(nat_lit 485,f t.iJ)::
(nat_lit 491,o "total" 806 "Copier.total" 807 808 242 1 0 0 3 486 181 487 488 489 490 810 242 811)::
(nat_lit 492,f t.gu)::
(nat_lit 501,⟨(T "dict"),none,.dict #[E P "__module__" 708 (S "staywalk.copier" 623),E P "__firstlineno__" 712 (.int 170 711),E P "__init__" 722 (R 414),E P "open_page" 729 (R 421),E P "read_page" 739 (R 429),E P "close_page" 747 (R 436),E P "follow" 757 (R 443),E P "follow_mark" 766 (R 450),E P "follow_change" 776 (R 457),E P "copy" 783 (R 464),E P "covers" 791 (R 471),E P "place" 798 (R 478),E P "left" 805 (R 485),E P "total" 812 (R 492),E P "stopped" 819 (R 499),E P "__static_attributes__" 826 (R 500),E P "__dict__" 828 (R 503),E P "__weakref__" 830 (R 504),E P "__doc__" 831 N] 4, #[]⟩)::
(nat_lit 502,⟨(T "type"),none,.cls ⟨"Copier",[(T "object")],[(R 502),(T "object")],501,"Copier",true,[],[],false,none,false⟩, #[none,none,some (S "Copier" 701),some (S "Copier" 709),some (.builtin "object.__new__"),some (B true)]⟩)::
(nat_lit 519,o "__init__" 852 "Leaves.__init__" 853 854 252 1 0 0 3 514 181 515 516 517 518 856 252 857)::
(nat_lit 520,f t.iI)::
(nat_lit 524,c [(S "add" 859),(S "Leaves.add" 860),(F 861),(I 255),(I 2),(I 0),(I 0),(I 3),(R 521),(B true),(I 181),(R 522),N,N,N,(R 523),(I 862),(I 255),(F 863)])::
(nat_lit 525,f t.jA)::
(nat_lit 531,o "discard" 865 "Leaves.discard" 866 867 267 2 0 0 3 526 181 527 528 529 530 871 267 872)::
(nat_lit 532,f t.eX)::
(nat_lit 538,o "has" 874 "Leaves.has" 875 876 278 2 0 0 3 533 181 534 535 536 537 880 278 881)::
(nat_lit 539,f t.jz)::
(nat_lit 543,c [(S "many" 883),(S "Leaves.many" 884),(F 885),(I 282),(I 1),(I 0),(I 0),(I 3),(R 540),(B true),(I 181),(R 541),N,N,N,(R 542),(I 886),(I 282),(F 887)])::
(nat_lit 544,f t.mM)::
(nat_lit 555,c [(S "from_on" 896),(S "Leaves.from_on" 897),(F 898),(I 288),(I 3),(I 0),(I 0),(I 3),(R 552),(B true),(I 181),(R 553),N,N,N,(R 554),(I 899),(I 288),(F 900)])::
(nat_lit 556,f t.eV)::
(nat_lit 560,c [(S "down_from" 902),(S "Leaves.down_from" 903),(F 904),(I 296),(I 3),(I 0),(I 0),(I 3),(R 557),(B true),(I 181),(R 558),N,N,N,(R 559),(I 905),(I 296),(F 906)])::
(nat_lit 561,f t.dF)::
(nat_lit 567,o "leaf_of" 908 "Leaves.leaf_of" 909 910 306 2 0 0 3 562 181 563 564 565 566 916 306 917)::
(nat_lit 568,f t.eU)::
(nat_lit 574,o "part_leaf" 919 "Leaves.part_leaf" 920 921 317 2 0 0 3 569 181 570 571 572 573 926 317 927)::
(nat_lit 575,f t.dE)::
(nat_lit 581,o "join_small" 929 "Leaves.join_small" 930 931 323 2 0 0 3 576 181 577 578 579 580 935 323 936)::
(nat_lit 582,f t.cX)::
(nat_lit 584,⟨(T "dict"),none,.dict #[E P "__module__" 847 (S "staywalk.leaves" 834),E P "__firstlineno__" 851 (.int 250 850),E P "__init__" 858 (R 520),E P "add" 864 (R 525),E P "discard" 873 (R 532),E P "has" 882 (R 539),E P "many" 888 (R 544),E P "all_of" 895 (R 551),E P "from_on" 901 (R 556),E P "down_from" 907 (R 561),E P "leaf_of" 918 (R 568),E P "part_leaf" 928 (R 575),E P "join_small" 937 (R 582),E P "__static_attributes__" 939 (R 583),E P "__dict__" 941 (R 586),E P "__weakref__" 943 (R 587),E P "__doc__" 944 N] 4, #[]⟩)::
(nat_lit 585,⟨(T "type"),none,.cls ⟨"Leaves",[(T "object")],[(R 585),(T "object")],584,"Leaves",true,[],[],false,none,false⟩, #[none,none,some (S "Leaves" 840),some (S "Leaves" 848),some (.builtin "object.__new__"),some (B true)]⟩)::
(nat_lit 602,o "__init__" 961 "Makes.__init__" 962 963 333 1 0 0 3 597 181 598 599 600 601 965 333 966)::
(nat_lit 603,f t.jy)::
(nat_lit 609,o "note" 968 "Makes.note" 969 970 336 3 0 0 3 604 181 605 606 607 608 974 336 975)::
(nat_lit 610,f t.jx)::
(nat_lit 633,⟨(T "dict"),none,.dict #[E P "__module__" 956 (S "staywalk.makes" 947),E P "__firstlineno__" 960 (.int 331 959),E P "__init__" 967 (R 603),E P "note" 976 (R 610),E P "all_told" 983 (R 617),E P "value_at" 992 (R 624),E P "sweep" 1000 (R 631),E P "__static_attributes__" 1002 (R 632),E P "__dict__" 1004 (R 635),E P "__weakref__" 1006 (R 636),E P "__doc__" 1007 N] 4, #[]⟩)::
(nat_lit 634,⟨(T "type"),none,.cls ⟨"Makes",[(T "object")],[(R 634),(T "object")],633,"Makes",true,[],[],false,none,false⟩, #[none,none,some (S "Makes" 949),some (S "Makes" 957),some (.builtin "object.__new__"),some (B true)]⟩)::
(nat_lit 642,c [(S "empty_row" 1016),(S "empty_row" 1017),(F 1018),(I 353),(I 1),(I 0),(I 0),(I 3),(R 639),(B true),(I 181),(R 640),N,N,N,(R 641),(I 1019),(I 353),(F 1020)])::
(nat_lit 643,f t.mG)::
(nat_lit 656,o "__init__" 1034 "Slots.__init__" 1035 1036 357 1 0 0 3 651 181 652 653 654 655 1038 357 1039)::
(nat_lit 657,f t.jv)::
(nat_lit 663,o "put" 1041 "Slots.put" 1042 1043 362 3 0 0 3 658 181 659 660 661 662 1048 362 1049)::
(nat_lit 664,f t.kL)::
(nat_lit 670,o "drop" 1051 "Slots.drop" 1052 1053 370 2 0 0 3 665 181 666 667 668 669 1056 370 1057)::
(nat_lit 671,f t.jw)::
(nat_lit 677,o "get" 1059 "Slots.get" 1060 1061 378 2 0 0 3 672 181 673 674 675 676 1065 378 1066)::
(nat_lit 678,f t.kN)::
(nat_lit 684,o "has" 1068 "Slots.has" 1069 1070 384 2 0 0 3 679 181 680 681 682 683 1073 384 1074)::
(nat_lit 685,f t.kM)::
(nat_lit 696,c [(S "rows" 1083),(S "Slots.rows" 1084),(F 1085),(I 390),(I 1),(I 0),(I 0),(I 3),(R 693),(B true),(I 181),(R 694),N,N,N,(R 695),(I 1086),(I 390),(F 1087)])::
(nat_lit 697,f t.ju)::
(nat_lit 703,o "moved" 1089 "Slots.moved" 1090 1091 393 1 0 0 3 698 181 699 700 701 702 1093 393 1094)::
(nat_lit 704,f t.mL)::
(nat_lit 715,c [(S "span" 1103),(S "Slots.span" 1104),(F 1105),(I 399),(I 3),(I 0),(I 0),(I 3),(R 712),(B true),(I 181),(R 713),N,N,N,(R 714),(I 1106),(I 399),(F 1107)])::
(nat_lit 716,f t.jt)::
(nat_lit 722,o "stop" 1109 "Slots.stop" 1110 1111 409 2 0 0 3 717 181 718 719 720 721 1115 409 1116)::
(nat_lit 723,f t.js)::
(nat_lit 729,o "cell_of" 1118 "Slots.cell_of" 1119 1120 413 2 0 0 3 724 181 725 726 727 728 1126 413 1127)::
(nat_lit 730,f t.fH)::
(nat_lit 736,o "lying_at" 1129 "Slots.lying_at" 1130 1131 421 2 0 0 3 731 181 732 733 734 735 1140 421 1141)::
(nat_lit 737,f t.eT)::
(nat_lit 743,o "move_slot" 1143 "Slots.move_slot" 1144 1145 430 1 0 0 3 738 181 739 740 741 742 1151 430 1152)::
(nat_lit 744,f t.dW)::
(nat_lit 750,o "begin_row" 1154 "Slots.begin_row" 1155 1156 443 1 0 0 3 745 181 746 747 748 749 1159 443 1160)::
(nat_lit 751,f t.dX)::
(nat_lit 753,⟨(T "dict"),none,.dict #[E P "__module__" 1029 (S "staywalk.slots" 1010),E P "__firstlineno__" 1033 (.int 355 1032),E P "__init__" 1040 (R 657),E P "put" 1050 (R 664),E P "drop" 1058 (R 671),E P "get" 1067 (R 678),E P "has" 1075 (R 685),E P "many" 1082 (R 692),E P "rows" 1088 (R 697),E P "moved" 1095 (R 704),E P "cells" 1102 (R 711),E P "span" 1108 (R 716),E P "stop" 1117 (R 723),E P "cell_of" 1128 (R 730),E P "lying_at" 1142 (R 737),E P "move_slot" 1153 (R 744),E P "begin_row" 1161 (R 751),E P "__static_attributes__" 1165 (R 752),E P "__dict__" 1167 (R 755),E P "__weakref__" 1169 (R 756),E P "__doc__" 1170 N] 4, #[]⟩)::
(nat_lit 754,⟨(T "type"),none,.cls ⟨"Slots",[(T "object")],[(R 754),(T "object")],753,"Slots",true,[],[],false,none,false⟩, #[none,none,some (S "Slots" 1022),some (S "Slots" 1030),some (.builtin "object.__new__"),some (B true)]⟩)::
(nat_lit 771,o "__init__" 1187 "House.__init__" 1188 1189 454 1 0 0 3 766 181 767 768 769 770 1191 454 1192)::
(nat_lit 772,f t.jB)::
(nat_lit 778,o "put" 1194 "House.put" 1195 1196 464 3 0 0 3 773 181 774 775 776 777 1200 464 1201)::
(nat_lit 779,f t.kQ)::
(nat_lit 785,o "drop" 1203 "House.drop" 1204 1205 470 2 0 0 3 780 181 781 782 783 784 1208 470 1209)::
(nat_lit 786,f t.jC)::
(nat_lit 792,o "get" 1211 "House.get" 1212 1213 475 2 0 0 3 787 181 788 789 790 791 1216 475 1217)::
(nat_lit 793,f t.kR)::
(nat_lit 799,o "has" 1219 "House.has" 1220 1221 478 2 0 0 3 794 181 795 796 797 798 1224 478 1225)::
(nat_lit 800,f t.qp)::
(nat_lit 813,o "lay_mark" 1234 "House.lay_mark" 1235 1236 484 1 0 0 3 808 181 809 810 811 812 1238 484 1239)::
(nat_lit 814,f t.eY)::
(nat_lit 815,⟨(T "tuple"),none,.seq #[(.int 0 1241)] 0, #[]⟩)::
(nat_lit 821,o "diary" 1242 "House.diary" 1243 1244 489 2 0 0 3 816 181 817 818 819 820 1247 489 1248)::
(nat_lit 822,f t.eZ)::
(nat_lit 878,o "done" 1307 "House.done" 1308 1309 514 3 0 0 3 873 181 874 875 876 877 1314 514 1315)::
(nat_lit 879,f t.jD)::
(nat_lit 895,⟨(T "dict"),none,.dict #[E P "__module__" 1182 (S "staywalk.house" 1173),E P "__firstlineno__" 1186 (.int 452 1185),E P "__init__" 1193 (R 772),E P "put" 1202 (R 779),E P "drop" 1210 (R 786),E P "get" 1218 (R 793),E P "has" 1226 (R 800),E P "many" 1233 (R 807),E P "lay_mark" 1240 (R 814),E P "diary" 1249 (R 822),E P "makes" 1257 (R 829),E P "hold" 1264 (R 836),E P "let_go" 1272 (R 843),E P "held" 1279 (R 850),E P "sweep" 1286 (R 857),E P "was" 1295 (R 864),E P "page_at" 1306 (R 872),E P "done" 1316 (R 879),E P "refuse_outside" 1324 (R 886),E P "value_then" 1333 (R 893),E P "__static_attributes__" 1342 (R 894),E P "__dict__" 1344 (R 897),E P "__weakref__" 1346 (R 898),E P "__doc__" 1347 N] 4, #[]⟩)::
(nat_lit 896,⟨(T "type"),none,.cls ⟨"House",[(T "object")],[(R 896),(T "object")],895,"House",true,[],[],false,none,false⟩, #[none,none,some (S "House" 1175),some (S "House" 1183),some (.builtin "object.__new__"),some (B true)]⟩)::
(nat_lit 906,o "_law_cell_at" 1352 "_law_cell_at" 1353 1354 530 2 0 0 3 901 181 902 903 904 905 1357 530 1358)::
(nat_lit 907,f t.iF)::
(nat_lit 913,o "_law_mixed" 1360 "_law_mixed" 1361 1362 534 2 0 0 3 908 181 909 910 911 912 1366 534 1367)::
(nat_lit 914,f t.kI)::
(nat_lit 920,o "_law_place" 1369 "_law_place" 1370 1371 537 1 0 0 3 915 181 916 917 918 919 1376 537 1377)::
(nat_lit 921,f t.kH)::
(nat_lit 925,c [(S "_law_run" 1379),(S "_law_run" 1380),(F 1381),(I 544),(I 1),(I 0),(I 0),(I 3),(R 922),(B true),(I 181),(R 923),N,N,N,(R 924),(I 1382),(I 544),(F 1383)])::
(nat_lit 926,f t.pD)::
(nat_lit 932,o "_law_deed" 1385 "_law_deed" 1386 1387 561 3 0 0 3 927 181 928 929 930 931 1394 561 1395)::
(nat_lit 933,f t.mI)::
(nat_lit 939,o "_law_house" 1397 "_law_house" 1398 1399 574 1 0 0 3 934 181 935 936 937 938 1404 574 1405)::
(nat_lit 940,f t.kJ)::
(nat_lit 946,o "_law_numbers_told" 1407 "_law_numbers_told" 1408 1409 580 2 0 0 3 941 181 942 943 944 945 1414 580 1415)::
(nat_lit 947,f t.dD)::
(nat_lit 953,o "_law_numbers" 1417 "_law_numbers" 1418 1419 591 2 0 0 3 948 181 949 950 951 952 1426 591 1427)::
(nat_lit 954,f t.iE)::
(nat_lit 960,o "_law_token" 1429 "_law_token" 1430 1431 609 1 0 0 3 955 181 956 957 958 959 1433 609 1434)::
(nat_lit 961,f t.kG)::
(nat_lit 967,o "_law_holds" 1436 "_law_holds" 1437 1438 615 2 0 0 3 962 181 963 964 965 966 1444 615 1445)::
(nat_lit 968,f t.kK)::
(nat_lit 974,o "_law_words" 1447 "_law_words" 1448 1449 622 1 0 0 3 969 181 970 971 972 973 1451 622 1452)::
(nat_lit 975,f t.kF)::
(nat_lit 981,o "_law_read" 1454 "_law_read" 1455 1456 626 4 0 0 3 976 181 977 978 979 980 1462 626 1463)::
(nat_lit 982,f t.mH)::
(nat_lit 986,c [(S "law" 1465),(S "law" 1466),(F 1467),(I 631),(I 1),(I 0),(I 0),(I 3),(R 983),(B true),(I 181),(R 984),N,N,N,(R 985),(I 1468),(I 631),(F 1469)])::
(nat_lit 987,f t.Cv)::[]
noncomputable abbrev as:List Addr:=[2,3,30,31,43,44,55,56,71,72,74,75,90,91,93,94,109,110,112,113,128,129,131,132,140,141,147,148,154,155,161,162,168,169,175,176,182,183,189,190,196,197,210,211,217,218,220,221,233,239,240,246,247,249,250,260,266,267,273,274,276,277,287,293,294,300,301,303,304,307,311,312,318,319,323,324,328,329,335,336,342,343,349,350,370,371,377,378,391,392,394,395,407,413,414,420,421,422,428,429,435,436,442,443,449,450,463,464,470,471,477,478,484,485,491,492,501,502,519,520,524,525,531,532,538,539,543,544,555,556,560,561,567,568,574,575,581,582,584,585,602,603,609,610,633,634,642,643,656,657,663,664,670,671,677,678,684,685,696,697,703,704,715,716,722,723,729,730,736,737,743,744,750,751,753,754,771,772,778,779,785,786,792,793,799,800,813,814,815,821,822,878,879,895,896,906,907,913,914,920,921,925,926,932,933,939,940,946,947,953,954,960,961,967,968,974,975,981,982,986,987]
noncomputable abbrev p:Program:=PySem.Challenge.pw_staywalk_k52_a_page_in_peace
noncomputable abbrev q:Program:=view p [0,2,3,4,5,6,7,8,10,11,12,13,14,15,16,17,19,21,22,23,24,25,26,28,30,31,32,33,34,36,37,38,39,41,42,43,45,47,48,49,50,52,54,55,56,57,58,59,60,61,62,63,64,65,66]
noncomputable abbrev H:Hook:=kHook K as λ_=>rfl
theorem said:OpenLaw.wellSaid PySem.Challenge.rw_staywalk_k52_a_page_in_peace=true:=by
 rw[Fast.te9446332074065402090]
 kernel_rfl
noncomputable abbrev M:Nat:=14300
noncomputable abbrev L:List Str:=["BySlots","Up","Down","ask"]
noncomputable abbrev X:Shared->Bool:=λs=>xlAt q [] s&&recOk [] s
theorem lA:∀w,HD.lA p q M w=some ((openGood q L).1,(openGood q L).2.1):=λw=>by kernel_rfl
theorem lB:∀w,HD.lB p q L X M w=some (true,true):=λw=>by kernel_rfl
theorem lC:∀w,HD.lC p q L M w=some (openGood q L).2.2.2.2:=λw=>by kernel_rfl
theorem lD:∀w,(HD.endP p w M).map (Hook.obs H)=some (Hook.val H w):=λw=>by kernel_rfl
theorem left:LeftO p q L X (Hook.obs H) (Hook.val H) M:=HD.left_of lA lB lC lD
end ZK
namespace L2
open PySem PySem.Spec PyProof.Rows
abbrev Key:=Sum Int Str
def mD:Key->Value->Bool
 | .inl k,v=>Value.isInt k v
 | .inr x,v=>Value.isStrOf x v
def keyH (w:World):Key->Int
 | .inl k=>hashInt k
 | .inr x=>hashStr w x
theorem bZ:∀{k:Key} {v:Value},mD k v=true->(∃i t,k=Sum.inl i/\v=Value.int i t)\/(∃x t,k=Sum.inr x/\v=Value.str x t)
 | .inl i,v,h=>by
  obtain⟨t,e⟩:=Value.isInt_shape (k:=i) (v:=v) h;exact .inl ⟨i,t,rfl,e⟩
 | .inr x,v,h=>by
  obtain⟨t,e⟩:=Value.isStrOf_shape (x:=x) (v:=v) h;exact .inr ⟨x,t,rfl,e⟩
theorem Dq (i:Int) (t:Tok):mD (.inl i) (.int i t)=true:=by simp[mD,Value.isInt]
theorem Dp (x:Str) (t:Tok):mD (.inr x) (.str x t)=true:=by simp[mD,Value.isStrOf]
theorem JI (a b:Int):decide ((Sum.inl a:Key)=Sum.inl b)=(a==b):=by
 by_cases e:a=b
 .subst e;simp
 .have h:¬(Sum.inl a:Key)=Sum.inl b:=λq=>e (Sum.inl.inj q);rw[decide_eq_false h];exact(beq_eq_false_iff_ne.mpr e).symm
theorem JF (a b:Str):decide ((Sum.inr a:Key)=Sum.inr b)=decide (a=b):=by
 by_cases e:a=b
 .subst e;simp
 .have h:¬(Sum.inr a:Key)=Sum.inr b:=λq=>e (Sum.inr.inj q);rw[decide_eq_false h,decide_eq_false e]
theorem JH (a:Int) (b:Str):decide ((Sum.inl a:Key)=Sum.inr b)=false:=decide_eq_false (λq=>nomatch q)
theorem JG (a:Str) (b:Int):decide ((Sum.inr a:Key)=Sum.inl b)=false:=decide_eq_false (λq=>nomatch q)
def a8 (prog:Program) (w:World):PySem.KeyKind prog w Key where
 is:=mD
 hash:=keyH w
 inj:=λv a b ha hb=>by
  rcases bZ ha with⟨i,t,rfl,rfl⟩|⟨x,t,rfl,rfl⟩
  .rcases bZ hb with⟨j,u,rfl,e⟩|⟨y,u,rfl,e⟩
   .injection e with e1 _;rw[e1]
   .exact nomatch e
  .rcases bZ hb with⟨j,u,rfl,e⟩|⟨y,u,rfl,e⟩
   .exact nomatch e
   .injection e with e1 _;rw[e1]
 byValue:=λk v h=>by
  rcases bZ h with⟨i,t,rfl,rfl⟩|⟨x,t,rfl,rfl⟩<;>rfl
 pyHash:=λhv h=>by
  rcases bZ hv with⟨i,t,rfl,rfl⟩|⟨x,t,rfl,rfl⟩
  .exact wpAny_pyHash_int h
  .exact wpAny_pyHash_str h
 eqBool:=λhu hv h=>by
  rcases bZ hu with⟨i,t,rfl,rfl⟩|⟨x,t,rfl,rfl⟩
  .rcases bZ hv with⟨j,u,rfl,rfl⟩|⟨y,u,rfl,rfl⟩
   .rw[JI]at h;exact wpAny_eqBool_int h
   .rw[JH]at h;exact SeqAt.EqAt.int_str i t y u _ _ _ _ h
  .rcases bZ hv with⟨j,u,rfl,rfl⟩|⟨y,u,rfl,rfl⟩
   .rw[JG]at h;exact SeqAt.EqAt.str_int x t j u _ _ _ _ h
   .rw[JF]at h;exact wpAny_eqBool_str h
 «strs»:=λk x t v h=>by
  rcases bZ h with⟨i,u,rfl,e⟩|⟨y,u,rfl,e⟩
  .exact nomatch e
  .injection e with e1 _;subst e1;cases v<;>rfl
theorem Br (prog:Program) (w:World) (k:Key) (v:Value):(a8 prog w).is k v=mD k v:=rfl
theorem zS (prog:Program) (w:World) (i:Int) (t:Tok):(a8 prog w).is (.inl i) (.int i t)=true:=Dq i t
theorem zR (prog:Program) (w:World) (x:Str) (t:Tok):(a8 prog w).is (.inr x) (.str x t)=true:=Dp x t
end L2
namespace L2
open PySem PySem.Spec PyProof.Rows
inductive V where
 |non|bl (b:Bool)|int (i:Int)|str (x:Str)|byt (b:Array UInt8)|flt (b:UInt64)|ref (a:Addr)|ty (n:String)
 deriving DecidableEq
variable {a b:Addr} {o u:HO} {h h':Heap} {H:Hp} {P:Program} {w:World}
def RelV:V->Value->Prop
 | .non,u=>u=Value.none
 | .bl b,u=>u=Value.bool b
 | .int i,u=>∃t,u=Value.int i t
 | .str x,u=>∃t,u=Value.str x t
 | .byt b,u=>∃t,u=Value.bytes b t
 | .flt b,u=>∃t,u=Value.float b t
 | .ref a,u=>u=Value.ref a
 | .ty n,u=>u=Value.type n
abbrev Vals:List V->List Value->Prop:=Paired RelV
theorem Vals.length {xs:List V} {us:List Value} (r:Vals xs us):xs.length=us.length:=Paired.length r
theorem Vals.get:∀{xs:List V} {us:List Value} {i:Nat} {x:V},Vals xs us->xs[i]?=some x->∃u,us[i]?=some u/\RelV x u
 |_,_,_,_,.nil,e=>by simp at e
 |_,_,0,_,.cons r _,e=>by simp at e;subst e;exact⟨_,rfl,r⟩
 |_,_,i+1,x,.cons _ t,e=>by
  obtain⟨u,h1,h2⟩:=Vals.get (i:=i) (x:=x) t (by simpa using e);exact⟨u,by simpa using h1,h2⟩
theorem Vals.set {x:V} {u:Value} (r:RelV x u):∀{xs:List V} {us:List Value} (i:Nat),Vals xs us->Vals (xs.set i x) (us.set i u)
 |_,_,_,.nil=> .nil
 |_,_,0,.cons _ t=> .cons r t
 |_,_,i+1,.cons q t=> .cons q (Vals.set r i t)
theorem Vals.append:∀{xs ys:List V} {us z:List Value},Vals xs us->Vals ys z->Vals (xs++ys) (us++z)
 |_,_,_,_,.nil,s=>s
 |_,_,_,_,.cons r t,s=> .cons r (Vals.append t s)
theorem Vals.take:∀{xs:List V} {us:List Value} (n:Nat),Vals xs us->Vals (xs.take n) (us.take n)
 |_,_,0,_=> .nil
 |_,_,_+1,.nil=> .nil
 |_,_,n+1,.cons r t=> .cons r (Vals.take n t)
theorem Vals.drop:∀{xs:List V} {us:List Value} (n:Nat),Vals xs us->Vals (xs.drop n) (us.drop n)
 |_,_,0,r=>r
 |_,_,_+1,.nil=> .nil
 |_,_,n+1,.cons _ t=>Vals.drop n t
def RelO:Option V->Option Value->Prop
 |some v,some u=>RelV v u
 |none,none=>True
 |_,_=>False
def KV {κ:Type}:List (κ×V)->List (κ×Value)->Prop:=Paired λ(p:κ×V) (q:κ×Value)=>p.1=q.1/\RelV p.2 q.2
def kV:Key->V
 | .inl i=> .int i
 | .inr x=> .str x
inductive HO where
 |lst (xs:List V)
 |tup (xs:List V)
 |dK (kvs:List (Key×V))|dT (kvs:List (List Key×V))
 |set (S:Int->Bool) (n:Nat)
 |ins (C dx:Addr) (fs:List (Str×V))
 |own (x:Addr)
 |xd (fs:List (Str×V))
 |met (f x:Addr)
 |rng (lo hi:Int)
 |frz (o:Obj) (u:HO)
 |tbl (ps:Array Value)
 |ext (φ:Heap->Prop)
abbrev Hp:=Addr->Option HO
def upd (H:Hp) (a:Addr) (o:HO):Hp:=λb=>if b=a then some o else H b
theorem ac:upd H a o a=some o:=by unfold upd;rw[if_pos rfl]
theorem ae (h:b≠a):upd H a o b=H b:=by unfold upd;rw[if_neg h]
theorem bG:upd (upd H a o) a u=upd H a u:=by
 funext b;unfold upd;split<;>rfl
theorem cq (h:H a=some o) (h':H b=some u) (d:o≠u):a≠b:=by
 intro e;subst e;rw[h]at h';exact d (Option.some.inj h')
theorem ak (h:H a=some o) (h':H b=none):a≠b:=by
 intro e;subst e;rw[h]at h';cases h'
section
variable (P:Program) (w:World)
def ObjOk (H:Hp) (h:Heap) (a:Addr):HO->Prop
 | .lst xs=>xs.length<=sizeLine/\∃(its:List Value) (n:Nat),Vals xs its/\h.get? a=some {cls:= .type "list",data:= .seq its.toArray n}
 | .tup xs=>xs.length<=sizeLine/\∃its:List Value,Vals xs its/\IsTup h a its.toArray
 | .dK kvs=>kvs.length<=sizeLine/\(a==sysModules)=false/\∃vs,KV kvs vs/\h.DictOf (a8 P w) a vs
 | .dT kvs=>kvs.length<=sizeLine/\(a==sysModules)=false/\∃xs:List (List Key×Addr×Value),
   Paired (λ(p:List Key×V) (q:List Key×Addr×Value)=>p.1=q.1/\H q.2.1=some (.tup (p.1.map kV))/\RelV p.2 q.2.2) kvs xs/\
   ∃o es ep,h.get? a=some o/\o.ExactDict/\o.data= .dict es ep/\es.toList=xs.map (entryOfKey (tupleKind (a8 P w)))/\(xs.map (·.1)).Nodup
 | .set S n=>h.SetOf (intKind P w) a S n
 | .ins C dx fs=>H dx=some (.own a)/\fs.length<=1000/\dx≠a/\h.get? a=some (PySem.W.instObj C dx)/\
   ∃mA,h.Ns1 dx mA/\(∀f,RelO (fs.lookup f) (mA f))/\PySem.Within mA (fs.map (·.1))
 | .own _=>∃o,h.get? a=some o
 | .xd fs=>∃mA,h.Ns1 a mA/\∀f,RelO (fs.lookup f) (mA f)
 | .rng lo hi=>∃t u v,h.get? a=some {cls:= .type "range",data:= .fields #[.int lo t,.int hi u,.int 1 v]}
 | .frz o u=>h.get? a=some o/\ObjOk H h a u
 | .tbl ps=>h.get? a=some {cls:= .none,data:= .fields ps}
 | .met f x=>h.get? a=some (PySem.W.methodObj (.ref f) (.ref x))
 | .ext φ=>φ h/\(∃o,h.get? a=some o)/\∀h1 h2:Heap,φ h1->(∀o,h1.get? a=some o->h2.get? a=some o)->φ h2
def HOk (H:Hp) (h:Heap):Prop:=∀a o,H a=some o->ObjOk P w H h a o
end
section
variable {H':Hp}
theorem ObjOk.lt (x:ObjOk P w H h a o):a<h.objs.size:=by
 cases o with
 |lst xs=>obtain⟨_,_,_,_,e⟩:=x;exact Heap.lt_size e
 |tup xs=>obtain⟨_,_,_,p⟩:=x;exact p.lt
 |dK kvs=>obtain⟨_,_,_,_,o,_,_,e,_⟩:=x;exact Heap.lt_size e
 |dT kvs=>obtain⟨_,_,_,_,o,_,_,e,_⟩:=x;exact Heap.lt_size e
 |set S n=>obtain⟨o,_,_,_,e,_⟩:=x;exact Heap.lt_size e
 |ins C dx fs=>obtain⟨_,_,_,e,_⟩:=x;exact Heap.lt_size e
 |own y=>obtain⟨_,e⟩:=x;exact Heap.lt_size e
 |xd fs=>obtain⟨_,⟨_,_,_,e,_⟩,_⟩:=x;exact Heap.lt_size e
 |rng lo hi=>obtain⟨_,_,_,e⟩:=x;exact Heap.lt_size e
 |frz ob u=>obtain⟨e,_⟩:=x;exact Heap.lt_size e
 |tbl ps=>exact Heap.lt_size (show h.get? a=some _ from x)
 |met f y=>exact Heap.lt_size (show h.get? a=some _ from x)
 |ext z=>obtain⟨_,⟨_,e⟩,_⟩:=x;exact Heap.lt_size e
theorem Paired.mapP {α β:Type} {F G:α->β->Prop}:∀{z:List α} {I:List β},Paired F z I->(∀a b,F a b->G a b)->Paired G z I
 |_,_,.nil,_=> .nil
 |_,_,.cons r t,f=> .cons (f _ _ r) (Paired.mapP t f)
theorem ObjOk.stay (x:ObjOk P w H h a o) (k:∀b u,(b=a\/H b=some (.own a))->h.get? b=some u->h'.get? b=some u)
  (I:∀b,H b=some (.own a)->H' b=some (.own a)) (O:∀b xs,H b=some (.tup xs)->H' b=some (.tup xs)):ObjOk P w H' h' a o:=by
 induction o with
 |lst xs=>obtain⟨z,its,n,r,e⟩:=x;exact⟨z,its,n,r,k _ _ (.inl rfl) e⟩
 |tup xs=>obtain⟨z,its,r,ob,e,c⟩:=x;exact⟨z,its,r,ob,k _ _ (.inl rfl) e,c⟩
 |dK kvs=>obtain⟨z,y,vs,r,ob,es,ep,e,c⟩:=x;exact⟨z,y,vs,r,ob,es,ep,k _ _ (.inl rfl) e,c⟩
 |dT kvs=>
  obtain⟨z,y,xs,r,ob,es,ep,e,c⟩:=x;exact⟨z,y,xs,Paired.mapP r λp q z=>⟨z.1,O _ _ z.2.1,z.2.2⟩,ob,es,ep,k _ _ (.inl rfl) e,c⟩
 |set S n=>obtain⟨ob,es,ep,t,e,c⟩:=x;exact⟨ob,es,ep,t,k _ _ (.inl rfl) e,c⟩
 |ins C dx fs=>
  obtain⟨d,z,U,e,mA,⟨G,es,ep,e2,c⟩,r⟩:=x;exact⟨I _ d,z,U,k _ _ (.inl rfl) e,mA,⟨G,es,ep,k _ _ (.inr d) e2,c⟩,r⟩
 |own y=>obtain⟨ob,e⟩:=x;exact⟨ob,k _ _ (.inl rfl) e⟩
 |xd fs=>obtain⟨mA,⟨G,es,ep,e,c⟩,r⟩:=x;exact⟨mA,⟨G,es,ep,k _ _ (.inl rfl) e,c⟩,r⟩
 |rng lo hi=>obtain⟨t,u,v,e⟩:=x;exact⟨t,u,v,k _ _ (.inl rfl) e⟩
 |frz ob u Y=>obtain⟨e,q⟩:=x;exact⟨k _ _ (.inl rfl) e,Y q⟩
 |tbl ps=>
  have e:h.get? a=some {cls:= .none,data:= .fields ps}:=x;show h'.get? a=some {cls:= .none,data:= .fields ps};exact k a _ (.inl rfl) e
 |met f y=>
  have e:h.get? a=some (PySem.W.methodObj (.ref f) (.ref y)):=x;show h'.get? a=some (PySem.W.methodObj (.ref f) (.ref y));exact k a _ (.inl rfl) e
 |ext Z=>obtain⟨p,⟨o,e⟩,st⟩:=x;exact⟨st _ _ p λo q=>k _ _ (.inl rfl) q,⟨o,k _ _ (.inl rfl) e⟩,st⟩
theorem HOk.lt (x:HOk P w H h) (e:H a=some o):a<h.objs.size:=(x a o e).lt
theorem HOk.fresh (x:HOk P w H h) (e:h.objs.size<=a):H a=none:=by
 cases q:H a with
 |none=>rfl
 |some u=>exact absurd (Qx (x.lt q) e) (Zu _)
theorem HOk.kept (x:HOk P w H h) (k:∀b u,h.get? b=some u->h'.get? b=some u):HOk P w H h':=λa o e=>
 (x a o e).stay (λb u _ q=>k b u q) (λ_ q=>q) λ_ _ q=>q
theorem HOk.laid (x:HOk P w H h) (k:∀b u,h.get? b=some u->h'.get? b=some u) (G:h.objs.size<=a) (new:ObjOk P w (upd H a o) h' a o):HOk P w (upd H a o) h':=λb u e=>by
 have z:=x.fresh G;by_cases hb:b=a
 .subst hb;rw[ac]at e;cases e;exact new
 .rw[ae hb]at e;exact(x b u e).stay (λc v _ q=>k c v q) (λc q=>by rw[ae (ak q z)];exact q) λc xs q=>by rw[ae (ak q z)];exact q
end
def Rd (H:Hp) (a:Addr) (u:HO):Prop:=H a=some u\/∃o,H a=some (.frz o u)
theorem Rd.ok (r:Rd H a u) (x:HOk P w H h):ObjOk P w H h a u:=by
 rcases r with r|⟨o,r⟩
 .exact x a u r
 .obtain⟨_,q⟩:=x a _ r;exact q
def Mut:Option HO->Prop
 |some (.lst _)=>True
 |some (.dK _)=>True
 |some (.dT _)=>True
 |some (.set _ _)=>True
 |some (.ins _ _ _)=>True
 |some (.ext _)=>True
 |_=>False
section
variable {x e:Addr} {o':HO}
theorem HOk.write (ok:HOk P w H h) (U:Mut (H x)) (he:e=x\/H e=some (.own x)) (k:∀b u,b≠e->h.get? b=some u->h'.get? b=some u) (Y:∃u,h'.get? e=some u)
  (new:ObjOk P w (upd H x o') h' x o'):HOk P w (upd H x o') h':=λb u q=>by
 have I:∀c y,H c=some (.own y)->c≠x:=λc y r z=>by subst z;rw[r]at U;exact U
 have O:∀c xs,H c=some (.tup xs)->c≠x:=λc xs r z=>by subst z;rw[r]at U;exact U
 by_cases hb:b=x
 .subst hb;rw[ac]at q;cases q;exact new
 .rw[ae hb]at q;by_cases G:b=e
  .have Z:H b=some (.own x):=by
    rcases he with z|z
    .exact absurd (G.trans z) hb
    .rw[G];exact z
   rw[q]at Z;cases Z;obtain⟨v,hv⟩:=Y;exact⟨v,by rw[G];exact hv⟩
  .refine(ok b u q).stay (λc v hc r=>k c v ?_ r) (λc r=>by rw[ae (I c b r)];exact r) λc xs r=>by rw[ae (O c xs r)];exact r
   rcases hc with rfl|hc
   .exact G
   .rintro rfl;rcases he with z|z
    .exact I c b hc z
    .rw[hc]at z;cases z;exact hb rfl
end
structure Un (fs ex:List Addr) (H H':Hp) (h h':Heap):Prop where
 keep:∀b o,h.get? b=some o->H b=none->b∉fs->b∉ex->h'.get? b=some o
 slot:∀b o,h.get? b=some o->H b=none->b∈fs->b∉ex->∃sl,h'.get? b=some {o with slots:=sl}
 free:∀b o,h.get? b=some o->H b=none->b∉ex->H' b=none
 there:∀b o,h.get? b=some o->b∉ex->∃o',h'.get? b=some o'
 tups:∀b xs,H b=some (.tup xs)->H' b=some (.tup xs)
 frzs:∀b o u,H b=some (.frz o u)->H' b=some (.frz o u)
 tbls:∀b ps,H b=some (.tbl ps)->∃more,H' b=some (.tbl (ps++more))
section
variable {fs fs' ex ex':List Addr} {H1 H2:Hp} {h1 h2:Heap} {x e:Addr}
theorem Un.any (u:Un fs ex H H1 h h1) {ob:Obj} (q:h.get? b=some ob) (n:H b=none) (hx:b∉ex):∃z,h1.get? b=some {ob with slots:=z}:=by
 by_cases hb:b∈fs
 .exact u.slot b ob q n hb hx
 .exact⟨ob.slots,u.keep b ob q n hb hx⟩
theorem Un.kept (k:∀b u,h.get? b=some u->h'.get? b=some u):Un fs ex H H h h':=
 ⟨λb ob q _ _ _=>k b ob q,λb ob q _ _ _=>⟨ob.slots,k b ob q⟩,λ_ _ _ n _=>n,λb ob q _=>⟨ob,k b ob q⟩,λ_ _ q=>q,λ_ _ _ q=>q,λ_ ps q=>⟨#[],by rw[q];simp⟩⟩
theorem Un.refl:Un fs ex H H h h:=Un.kept λ_ _ q=>q
theorem Un.laid (k:∀b u,h.get? b=some u->h'.get? b=some u) (G:h.objs.size<=a) (z:H a=none):Un fs ex H (upd H a o) h h' where
 keep:=λb u q _ _ _=>k b u q
 slot:=λb u q _ _ _=>⟨u.slots,k b u q⟩
 free:=λb u q n _=>by rw[ae (QC (Qx (Heap.lt_size q) G))];exact n
 there:=λb u q _=>⟨u,k b u q⟩
 tups:=λb xs q=>by rw[ae (ak q z)];exact q
 frzs:=λb u xs q=>by rw[ae (ak q z)];exact q
 tbls:=λb ps q=>⟨#[],by rw[ae (ak q z),q];simp⟩
theorem Un.write (I:Mut (H x)) (he:e=x\/H e=some (.own x)) (k:∀b u,b≠e->h.get? b=some u->h'.get? b=some u) (O:∃u,h'.get? e=some u):Un fs ex H (upd H x o) h h':=by
 have hx:∀b,H b=none->b≠x:=λb n z=>by subst z;rw[n]at I;exact I
 have hb:∀b,H b=none->b≠e:=λb n z=>by
  subst z;rcases he with r|r
  .exact hx b n r
  .rw[n]at r;cases r
 have U:∀b u,H b=some u->¬Mut (some u)->b≠x:=λb u q Y z=>by subst z;rw[q]at I;exact Y I
 refine⟨λb u q n _ _=>k b u (hb b n) q,λb u q n _ _=>⟨u.slots,k b u (hb b n) q⟩,λb u q n _=>by rw[ae (hx b n)];exact n,λb u q _=>?_,
  λb xs q=>by rw[ae (U b _ q λz=>z)];exact q,λb u xs q=>by rw[ae (U b _ q λz=>z)];exact q,λb ps q=>⟨#[],by rw[ae (U b _ q λz=>z),q];simp⟩⟩
 by_cases G:b=e
 .subst G;exact O
 .exact⟨u,k b u G q⟩
end
def trk (h:Heap) (H:Hp):List Addr:=(List.range h.objs.size).filter λa=>(H a).isSome
def yJ (h:Heap) (H:Hp):Heap:=PySem.W.hideAll h (trk h H)
theorem Dv (h:Heap) (H:Hp):(yJ h H).objs.size=h.objs.size:=PySem.W.hideAll_size _ _
theorem Fq {o:Obj} (e:h.get? b=some o) (n:H b=none):(yJ h H).get? b=some o:=
 PySem.W.hideAll_get _ e λz=>by
  have q:(H b).isSome=true:=(QH.mp z).2;rw[n]at q;simp at q
theorem Hf {o:Obj} (e:(yJ h H).get? b=some o):h.get? b=some o/\H b=none:=by
 have G:h.get? b=some o:=PySem.W.of_hideAll (trk h H) e;refine⟨G,?_⟩;cases q:H b with
 |none=>rfl
 |some x=>
  have I:b∈trk h H:=QH.mpr ⟨XZ.mpr (Heap.lt_size G),by simp[q]⟩;have z:(yJ h H).get? b=none:=PySem.W.hideAll_none (trk h H) I;rw[z]at e;cases e
end L2
namespace L2
open PySem PySem.Spec PyProof.Rows
variable {C a b dx f it:Addr} {A:Around} {g':Array GenState} {CX:CXT} {op:CmpOp} {X:Cx} {d':Drawn} {c e tg:Expr} {fd:FuncData} {base h h':Heap} {H H':Hp} {lo:Int} {g:Int->Int->Int} {pins:List (Addr×Obj)} {kw:List (Str×Value)} {ch fp:List Addr} {outer:List Env} {es:List Expr} {body:List Stmt} {N ps:List Str} {vs xs:List V} {us:List Value} {M:Model} {i j n t':Nat} {o:Option Value} {p pos pos':Pos} {P prog:Program} {K:PySem.W.Frag} {r:R2} {R:Result->Shared->Prop} {scope:Scope} {s s':Shared} {sp:Sp} {σ:St} {m name qual x:Str} {t ta te:TE} {tb:TS} {tc:TT} {v y:V} {u:Value} {E Q:Value->Shared->Prop} {rd:V->V->Hp->VK->Prop} {w:World}
section
structure Mod (K:PySem.W.Frag) (mg:Str->Option Value) (base:Heap):Prop where
 kin:K.In base
 glob:base.Ns mainGlobals mg
 blt:∃mb,base.Ns builtinsNs mb/\∀x:Str,x≠"__name__"->mb x=bootBuiltins x
 nolimit:base.NoLimit
/-- the context: a def's body (or a comprehension's block) running. base: fixed through the whole law; s₀, H₀: the entry; outer: the frames whose slots others may change (a def's callers); stack: all frames that run;
  ex:iterators that were made ahead of the entry and are walked here (a comprehension's);fn:the names whose cells were made at the entry (a def:all;a comprehension's block:its own);calm:not within an except suite;pn:pins that every state bears;xe:what is wanted of an exception that leaves the code-/
structure Cx where
 prog:Program
 w:World
 K:PySem.W.Frag
 mg:Str->Option Value
 base:Heap
 A:Around
 N:List Str
 s₀:Shared
 H₀:Hp
 env:Env
 outer:List Env
 stack:List Env
 ex:List Addr
 fn:Str->Bool
 calm:Bool
 pn:List (Addr×Obj)
 xe:Value->Shared->Prop
def frs (l:List Env):List Addr:=l.filterMap (·.frame)
abbrev Cx.fs (X:Cx):List Addr:=frs X.outer
def Vis (sc:Scope) (x:Str):Prop:=sc.names.lookup x=some .local\/sc.names.lookup x=some .cell\/sc.names.lookup x=some .free
def Loc (sc:Scope) (x:Str):Prop:=sc.names.lookup x=some .local\/sc.names.lookup x=some .cell
def Look (env:Env) (h:Heap) (m:Str->Option Value) (x:Str) (u:Value):Prop:=
 (env.kindOf x=some .local/\m x=some u)\/((env.kindOf x=some .cell\/env.kindOf x=some .free)/\∃c,env.cells.lookup x=some c/\h.IsCell c (some u))
structure Cx.Ok (X:Cx):Prop where
 mod:Mod X.K X.mg X.base
 kind:X.env.scope.kind= .function
 glob:X.env.globals=mainGlobals
 blt:X.env.builtins=builtinsNs
 above:X.s₀.heap.objs.size<=X.env.locals
 inj:∀x y c,X.env.cells.lookup x=some c->X.env.cells.lookup y=some c->x=y
 has:∀x,(X.env.kindOf x=some .cell\/X.env.kindOf x=some .free)->∃c,X.env.cells.lookup x=some c
 cab:∀x c,X.fn x=true->X.env.cells.lookup x=some c->X.s₀.heap.objs.size<=c
 hd:X.calm=true->X.A.handled=none
 frames:X.A.frames=some X.stack
 stk:X.stack=X.outer\/(X.stack=X.env::X.outer/\X.env.frame=some X.env.locals)
 exf:∀b∈X.ex,b≠X.env.locals/\∀x c,X.env.cells.lookup x=some c->c≠b
 bs:∀b o,X.base.get? b=some o->X.s₀.heap.get? b=some o/\X.H₀ b=none
 bsz:X.base.objs.size<=X.s₀.heap.objs.size
 noex:∀b o,X.base.get? b=some o->b∉X.ex
 exfs:∀b∈X.ex,b∉X.fs
 funs:X.s₀.heap.FunFrames X.base X.outer
 frf:∀b∈X.fs,X.H₀ b=none
structure Inv (X:Cx) (pins:List (Addr×Obj)) (σ:List (Option V)) (H:Hp) (s:Shared):Prop where
 ok:X.Ok
 os:s.os=X.s₀.os
 bare:AllBare s.gens
 base:Un X.fs X.ex X.H₀ H X.s₀.heap s.heap
 loc:∃m,s.heap.Ns X.env.locals m/\∀(i:Nat) (x:Str) (v:V),X.N[i]?=some x->σ[i]?=some (some v)->Vis X.env.scope x->∃u,RelV v u/\Look X.env s.heap m x u
 cell:∀x c,X.env.cells.lookup x=some c->∃v,s.heap.IsCell c v
 free:H X.env.locals=none
 freeC:∀x c,X.env.cells.lookup x=some c->H c=none
 pin:∀p∈X.pn++pins,s.heap.get? p.1=some p.2/\H p.1=none/\p.1≠X.env.locals/\p.1∉X.fs/\∀v,p.2.data≠ .cell v
 hok:HOk X.prog X.w H s.heap
 len:σ.length=X.N.length
section
variable {σ:List (Option V)}
theorem Cx.Ok.nofr (ok:X.Ok) {o:Obj} (e:X.base.get? b=some o):b∉X.fs:=λhb=>by
 have:=(ok.funs.mem hb).1;rw[e]at this;cases this
theorem Inv.bs (I:Inv X pins σ H s):∀b o,X.base.get? b=some o->s.heap.get? b=some o/\H b=none:=λb o e=>
 ⟨I.base.keep b o (I.ok.bs b o e).1 (I.ok.bs b o e).2 (I.ok.nofr e) (I.ok.noex b o e),I.base.free b o (I.ok.bs b o e).1 (I.ok.bs b o e).2 (I.ok.noex b o e)⟩
theorem Inv.bk (I:Inv X pins σ H s):∀b o,X.base.get? b=some o->s.heap.get? b=some o:=λb o e=>(I.bs b o e).1
theorem Inv.mod (I:Inv X pins σ H s):Mod X.K X.mg X.base:=I.ok.mod
theorem Inv.kIn (I:Inv X pins σ H s):X.K.In s.heap:=I.ok.mod.kin.keeps I.bk
theorem Inv.lt (I:Inv X pins σ H s):X.env.locals<s.heap.objs.size:=let⟨_,hn,_⟩:=I.loc;hn.lt
theorem Inv.sz (I:Inv X pins σ H s):X.s₀.heap.objs.size<=s.heap.objs.size:=QD I.ok.above (Zp I.lt)
theorem Inv.nofs (I:Inv X pins σ H s) (h:s.heap.objs.size<=a):a∉X.fs:=λhb=>by
 obtain⟨_,o,z,_⟩:=I.ok.funs.mem hb;exact absurd (Qx (Heap.lt_size z) (QD I.sz h)) (Zu _)
theorem Inv.cne (I:Inv X pins σ H s):∀x c,X.env.cells.lookup x=some c->c≠X.env.locals:=λx c e z=>by
 obtain⟨v,o,U,hd⟩:=I.cell x c e;obtain⟨m,⟨o',es,ep,G,O,_⟩,_⟩:=I.loc;rw[z,G]at U;cases U;rw[O]at hd;cases hd
theorem Inv.funs (I:Inv X pins σ H s):s.heap.FunFrames X.base X.outer:=by
 have all:∀(l:List Env),(∀b∈frs l,b∈X.fs)->X.s₀.heap.FunFrames X.base l->s.heap.FunFrames X.base l:=by
  intro l
  induction l with
  |nil=>intro _ _;trivial
  |cons env r O=>
   intro hs hl;obtain⟨hk,⟨L,o,hf,U,Y,hd⟩,Z⟩:=hl;have G:L∈X.fs:=hs L (by unfold frs;rw[Xr,hf];exact Q9);obtain⟨sl,e⟩:=I.base.slot L o Y (I.ok.frf L G) G λz=>I.ok.exfs L z G;exact⟨hk,⟨L,_,hf,U,e,hd⟩,O (λb hb=>hs b (by unfold frs;rw[Xr,hf];exact Qd _ hb)) Z⟩
 exact all X.outer (λ_ hb=>hb) I.ok.funs
theorem Inv.stack (I:Inv X pins σ H s):s.heap.FunFrames X.base X.stack:=by
 rcases I.ok.stk with e|⟨e,hf⟩
 .rw[e];exact I.funs
 .rw[e];obtain⟨m,z,_⟩:=I.loc;refine .cons (by rw[I.ok.kind];decide) hf z ?_ I.funs;exact Heap.get?_none_of_le (QD I.ok.bsz I.ok.above)
theorem Inv.stkSub (I:Inv X pins σ H s):∀b∈frs X.stack,b∈X.env.locals::X.fs:=λb hb=>by
 rcases I.ok.stk with e|⟨e,hf⟩
 .rw[e]at hb;exact Qd _ hb
 .rw[e]at hb;unfold frs at hb;rw[Xr,hf]at hb;exact hb
theorem Inv.stkFree (I:Inv X pins σ H s):∀b∈frs X.stack,H b=none:=λb hb=>by
 rcases Qg.mp (I.stkSub b hb)with e|hb
 .rw[e];exact I.free
 .obtain⟨_,o,G,_⟩:=I.ok.funs.mem hb;exact I.base.free b o G (I.ok.frf b hb) λz=>I.ok.exfs b z hb
theorem Inv.step (I:Inv X pins σ H s)
  (G:∀b∈ch,(b∈X.ex\/X.s₀.heap.objs.size<=b)/\b≠X.env.locals/\(∀x c,X.env.cells.lookup x=some c->c≠b)/\∀p∈X.pn++pins,p.1≠b)
  (keep:∀b o,b≠X.env.locals->b∉X.fs->b∉ch->s.heap.get? b=some o->H b=none->h'.get? b=some o)
  (slot:∀b o,b≠X.env.locals->b∈X.fs->b∉ch->s.heap.get? b=some o->H b=none->∃sl,h'.get? b=some {o with slots:=sl}) (free:∀b o,b∉ch->s.heap.get? b=some o->H b=none->H' b=none)
  (there:∀b o,b∉ch->s.heap.get? b=some o->∃o',h'.get? b=some o')
  (tups:∀b xs,H b=some (.tup xs)->H' b=some (.tup xs)) (frzs:∀b o u,H b=some (.frz o u)->H' b=some (.frz o u)) (tbls:∀b ps,H b=some (.tbl ps)->∃more,H' b=some (.tbl (ps++more)))
  (ns:∀m,s.heap.Ns X.env.locals m->h'.Ns X.env.locals m) (hok:HOk X.prog X.w H' h') (hg:AllBare g'):
  Inv X pins σ H' {s with heap:=h',gens:=g',drawn:=d',toks:=t'}:=by
 have a0:∀b o,X.s₀.heap.get? b=some o->b≠X.env.locals:=λb o e=>QC (Qx (Heap.lt_size e) I.ok.above);have Y:∀b o,X.s₀.heap.get? b=some o->b∉X.ex->b∉ch:=λb o e hx hb=>by
  rcases(G b hb).1 with z|z
  .exact hx z
  .exact absurd (Qx (Heap.lt_size e) z) (Zu _)
 have O:∀x c,X.env.cells.lookup x=some c->∀v,s.heap.IsCell c v->h'.IsCell c v:=λx c e v ⟨o,ho,hd⟩=>by
  have U:c∉ch:=λz=>(G c z).2.2.1 x c e rfl;by_cases hc:c∈X.fs
  .obtain⟨sl,q⟩:=slot c o (I.cne x c e) hc U ho (I.freeC x c e);exact⟨_,q,hd⟩
  .exact⟨o,keep c o (I.cne x c e) hc U ho (I.freeC x c e),hd⟩
 refine⟨I.ok,I.os,hg,⟨λb o e n hb hx=>?_,λb o e n hb hx=>?_,λb o e n hx=>?_,λb o e hx=>?_,λb xs e=>tups b xs (I.base.tups b xs e),λb o xs e=>frzs b o xs (I.base.frzs b o xs e),λb ps e=>?_⟩,?_,λx c e=>?_,?_,λx c e=>?_,λp hp=>?_,hok,I.len⟩
 .exact keep b o (a0 b o e) hb (Y b o e hx) (I.base.keep b o e n hb hx) (I.base.free b o e n hx)
 .obtain⟨sl,Z⟩:=I.base.slot b o e n hb hx;obtain⟨a1,e2⟩:=slot b _ (a0 b o e) hb (Y b o e hx) Z (I.base.free b o e n hx);exact⟨a1,e2⟩
 .obtain⟨o',Z⟩:=I.base.there b o e hx;exact free b o' (Y b o e hx) Z (I.base.free b o e n hx)
 .obtain⟨o',Z⟩:=I.base.there b o e hx;exact there b o' (Y b o e hx) Z
 .obtain⟨m1,Z⟩:=I.base.tbls b ps e;obtain⟨m2,e2⟩:=tbls b _ Z;exact⟨m1++m2,by rw[e2,Array.append_assoc]⟩
 .obtain⟨m,hn,hl⟩:=I.loc;refine⟨m,ns m hn,λi x v Z e2 e3=>?_⟩;obtain⟨u,r,l⟩:=hl i x v Z e2 e3;refine⟨u,r,?_⟩;rcases l with l|⟨k,c,e,z⟩
  .exact .inl l
  .exact .inr ⟨k,c,e,O x c e _ z⟩
 .obtain⟨v,z⟩:=I.cell x c e;exact⟨v,O x c e v z⟩
 .obtain⟨m,⟨o,_,_,ho,_⟩,_⟩:=I.loc;exact free _ o (λz=>(G _ z).2.1 rfl) ho I.free
 .obtain⟨v,o,ho,hd⟩:=I.cell x c e;exact free c o (λz=>(G c z).2.2.1 x c e rfl) ho (I.freeC x c e)
 .obtain⟨e,n,ne,nf,d⟩:=I.pin p hp;have U:p.1∉ch:=λz=>(G p.1 z).2.2.2 p hp rfl;exact⟨keep p.1 p.2 ne nf U e n,free p.1 p.2 U e n,ne,nf,d⟩
theorem Inv.un (I:Inv X pins σ H s) (u:Un X.fs [] H H' s.heap h') (hok:HOk X.prog X.w H' h'):Inv X pins σ H' {s with heap:=h',toks:=t'}:=by
 obtain⟨m,⟨o,es,ep,Y,r⟩,_⟩:=id I.loc;obtain⟨sl,Z⟩:=u.any Y I.free (by simp);exact I.step (g':=s.gens) (d':=s.drawn) (ch:=[]) (λ_ z=>nomatch z) (λb o _ hb _ e n=>u.keep b o e n hb (by simp)) (λb o _ hb _ e n=>u.slot b o e n hb (by simp)) (λb o _ e n=>u.free b o e n (by simp)) (λb o _ e=>u.there b o e (by simp)) u.tups u.frzs u.tbls (λm' hm=>by
  obtain⟨o',O,U,G,r'⟩:=hm;rw[Y]at G;cases G;exact⟨_,O,U,Z,r'⟩) hok I.bare
theorem Inv.call (I:Inv X pins σ H s) (u:Un (frs X.stack) ch H H' s.heap h') (hok:HOk X.prog X.w H' h') (hg:AllBare g')
  (G:∀b∈ch,(b∈X.ex\/X.s₀.heap.objs.size<=b)/\b≠X.env.locals/\(∀x c,X.env.cells.lookup x=some c->c≠b)/\∀p∈X.pn++pins,p.1≠b):
  Inv X pins σ H' {s with heap:=h',gens:=g',drawn:=d',toks:=t'}:=by
 obtain⟨m,⟨o,es,ep,ho,r⟩,_⟩:=id I.loc;obtain⟨sl,U⟩:=u.any ho I.free λz=>(G _ z).2.1 rfl;exact I.step (ch:=ch) G (λb o U hb hc e n=>u.keep b o e n (λz=>(Qg.mp (I.stkSub b z)).elim U hb) hc) (λb o _ _ hc e n=>u.any e n hc) (λb o hc e n=>u.free b o e n hc) (λb o hc e=>u.there b o e hc) u.tups u.frzs u.tbls (λm' hm=>by
  obtain⟨o',Y,Z,O,r'⟩:=hm;rw[ho]at O;cases O;exact⟨_,Y,Z,U,r'⟩) hok hg
theorem Inv.turned (I:Inv X pins σ H s) (k:∀b o,b≠it->s.heap.get? b=some o->h'.get? b=some o) (U:H it=none) (O:it≠X.env.locals)
  (h1:it∈X.ex\/X.s₀.heap.objs.size<=it) (h2:∀x c,X.env.cells.lookup x=some c->c≠it) (Y:∀p∈X.pn++pins,p.1≠it):Inv X pins σ H {s with heap:=h',toks:=t'}:=by
 have G:∀b u,H b=some u->b≠it:=λb u e z=>by rw[z,U]at e;cases e
 refine I.step (g':=s.gens) (d':=s.drawn) (ch:=[it]) (λb hb=>?_) (λb o _ _ hc e _=>k b o (λz=>hc (by simp[z])) e) (λb o _ _ hc e _=>⟨o.slots,k b o (λz=>hc (by simp[z])) e⟩) (λ_ _ _ _ n=>n)
  (λb o hc e=>⟨o,k b o (λz=>hc (by simp[z])) e⟩) (λ_ _ e=>e) (λ_ _ _ e=>e) (λb ps e=>⟨#[],by rw[e];simp⟩) (λm Z=>?_) (λb u e=>?_) I.bare
 .have e:b=it:=by simpa using hb
  subst e;exact⟨h1,O,h2,Y⟩
 .obtain⟨o,es,ep,ho,r⟩:=Z;exact⟨o,es,ep,k _ o (Ne.symm O) ho,r⟩
 .refine(I.hok b u e).stay (λc v hc q=>k c v ?_ q) (λ_ q=>q) λ_ _ q=>q;rcases hc with z|z
  .rw[z];exact G b u e
  .exact G c _ z
theorem Inv.tok (I:Inv X pins σ H s) (t:Nat):Inv X pins σ H {s with toks:=t}:=I.un (h':=s.heap) (t':=t) Un.refl I.hok
theorem Inv.kept (I:Inv X pins σ H s) (k:∀b u,s.heap.get? b=some u->h'.get? b=some u):Inv X pins σ H {s with heap:=h',toks:=t'}:=I.un (Un.kept k) (I.hok.kept k)
theorem Inv.laid {o:HO} (I:Inv X pins σ H s) (k:∀b u,s.heap.get? b=some u->h'.get? b=some u) (z:s.heap.objs.size<=a) (new:ObjOk X.prog X.w (upd H a o) h' a o):
  Inv X pins σ (upd H a o) {s with heap:=h',toks:=t'}:=I.un (Un.laid k z (I.hok.fresh z)) (I.hok.laid k z new)
theorem Inv.write {x e:Addr} {o:HO} (I:Inv X pins σ H s) (G:Mut (H x)) (he:e=x\/H e=some (.own x)) (k:∀b u,b≠e->s.heap.get? b=some u->h'.get? b=some u) (z:∃u,h'.get? e=some u)
  (new:ObjOk X.prog X.w (upd H x o) h' x o):Inv X pins σ (upd H x o) {s with heap:=h',toks:=t'}:=I.un (Un.write G he k z) (I.hok.write G he k z new)
theorem Inv.pins_of {G:List (Addr×Obj)} (I:Inv X pins σ H s) (h:∀p∈G,s.heap.get? p.1=some p.2/\H p.1=none/\p.1≠X.env.locals/\p.1∉X.fs/\∀v,p.2.data≠ .cell v):Inv X G σ H s:=
 ⟨I.ok,I.os,I.bare,I.base,I.loc,I.cell,I.free,I.freeC,λp O=>(Q5.mp O).elim (λz=>I.pin p (ZX _ z)) (h p),I.hok,I.len⟩
theorem zL (hN:N.Nodup) (a:N[i]?=some x) (b:N[j]?=some x):i=j:=by
 obtain⟨h1,z⟩:=Q2.mp a;obtain⟨h2,e2⟩:=Q2.mp b;exact(List.getElem_inj hN).mp (z.trans e2.symm)
theorem xb {Q:Unit->Shared->Prop} (I:Inv X pins σ H s) (hN:X.N.Nodup) (hi:X.N[i]?=some x) (hx:Loc X.env.scope x) (r:RelV v u)
  (h:∀s',Inv X pins (σ.set i (some v)) H s'->(∃a,Heap.SameBut a s.heap s'.heap/\(a=X.env.locals\/X.env.cells.lookup x=some a))->Q () s') (hf:X.fn x=true\/X.env.scope.names.lookup x=some .local:=by first|exact .inl rfl|exact .inr rfl|assumption):wpAny M A (storeName X.env x u) Q E s:=by
 obtain⟨m,hn,hl⟩:=id I.loc;have a1:(X.env.scope.kind== .class||(X.env.scope.kind== .module&&X.env.locals !=X.env.globals))=false:=by rw[I.ok.kind];rfl
 have Y:i<σ.length:=by rw[I.len];exact(Q2.mp hi).1
 have cne:=I.cne;have G:∀{a:Addr} {h':Heap},(∃o,s.heap.get? a=some o/\H a=none)->Heap.SameBut a s.heap h'->HOk X.prog X.w H h':=λ{a h'} ha hs b ob e=>by
  obtain⟨_,_,U⟩:=ha;refine(I.hok b ob e).stay (λc w' hc q=>(hs.2 c ?_).trans q) (λ_ q=>q) λ_ _ q=>q;rintro rfl;rcases hc with rfl|hc
  .rw[U]at e;cases e
  .rw[U]at hc;cases hc
 rcases hx with hk|hk
 .refine wpAny_storeName_local hk hn (λh' a7 hs=>?_) a1;obtain⟨oL,_,_,ab,_⟩:=id hn;refine h _ ⟨I.ok,I.os,I.bare,⟨λb o e n hb hx=>?_,λb o e n hb hx=>?_,I.base.free,λb o e hx=>?_,I.base.tups,I.base.frzs,I.base.tbls⟩,⟨_,a7,λj y v' O e2 e3=>?_⟩,λy c e=>?_,I.free,I.freeC,λp hp=>?_,G ⟨oL,ab,I.free⟩ hs,by simpa using I.len⟩ ⟨_,hs,.inl rfl⟩
  .exact(hs.2 b (QC (Qx (Heap.lt_size e) I.ok.above))).trans (I.base.keep b o e n hb hx)
  .obtain⟨sl,O⟩:=I.base.slot b o e n hb hx;exact⟨sl,(hs.2 b (QC (Qx (Heap.lt_size e) I.ok.above))).trans O⟩
  .obtain⟨o',O⟩:=I.base.there b o e hx;exact⟨o',(hs.2 b (QC (Qx (Heap.lt_size e) I.ok.above))).trans O⟩
  .by_cases Z:j=i
   .subst Z;rw[hi]at O;cases O;rw[Xf Y]at e2;cases e2;exact⟨u,r,.inl ⟨hk,by simp⟩⟩
   .rw[List.getElem?_set_ne (Ne.symm Z)]at e2;obtain⟨u',r',q⟩:=hl j y v' O e2 e3;refine⟨u',r',?_⟩;rcases q with⟨k,e⟩|⟨k,c,e,z⟩
    .refine .inl ⟨k,?_⟩;have:y≠x:=λe=>Z (zL hN O (e▸hi));simp[this,e]
    .exact .inr ⟨k,c,e,z.sameBut hs (cne y c e)⟩
  .obtain⟨w',z⟩:=I.cell y c e;exact⟨w',z.sameBut hs (cne y c e)⟩
  .obtain⟨e,n,ne,nf,d⟩:=I.pin p hp;exact⟨(hs.2 p.1 ne).trans e,n,ne,nf,d⟩
 .have a0:X.fn x=true:=by
   rcases hf with z|z
   .exact z
   .rw[z]at hk;cases hk
  obtain⟨c,hc⟩:=I.ok.has x (.inl hk);obtain⟨w',z⟩:=I.cell x c hc;refine wpAny_storeName_cell I.ok.kind hk hc z (λh' a2 hs=>?_);obtain⟨oc,a3,a4⟩:=id z;refine h {s with heap:=h'} ⟨I.ok,I.os,I.bare,⟨λb o e n hb hx=>?_,λb o e n hb hx=>?_,I.base.free,λb o e hx=>?_,I.base.tups,I.base.frzs,I.base.tbls⟩,⟨m,hn.sameBut hs (Ne.symm (cne x c hc)),λj y v' O e2 e3=>?_⟩,λy c' e=>?_,I.free,I.freeC,λp hp=>?_,G ⟨oc,a3,I.freeC x c hc⟩ hs,by simpa using I.len⟩ ⟨c,hs,.inr hc⟩
  .exact(hs.2 b (QC (Qx (Heap.lt_size e) (I.ok.cab x c a0 hc)))).trans (I.base.keep b o e n hb hx)
  .obtain⟨sl,O⟩:=I.base.slot b o e n hb hx;exact⟨sl,(hs.2 b (QC (Qx (Heap.lt_size e) (I.ok.cab x c a0 hc)))).trans O⟩
  .obtain⟨o',O⟩:=I.base.there b o e hx;exact⟨o',(hs.2 b (QC (Qx (Heap.lt_size e) (I.ok.cab x c a0 hc)))).trans O⟩
  .by_cases Z:j=i
   .subst Z;rw[hi]at O;cases O;rw[Xf Y]at e2;cases e2;exact⟨u,r,.inr ⟨.inl hk,c,hc,a2⟩⟩
   .rw[List.getElem?_set_ne (Ne.symm Z)]at e2;obtain⟨u',r',q⟩:=hl j y v' O e2 e3;refine⟨u',r',?_⟩;rcases q with q|⟨k,c',e,z'⟩
    .exact .inl q
    .refine .inr ⟨k,c',e,z'.sameBut hs ?_⟩;rintro rfl;exact Z (zL hN O (I.ok.inj _ _ _ e hc▸hi))
  .by_cases a5:c'=c
   .subst a5;exact⟨_,a2⟩
   .obtain⟨w2,z2⟩:=I.cell y c' e;exact⟨w2,z2.sameBut hs a5⟩
  .obtain⟨e,n,ne,nf,d⟩:=I.pin p hp;refine⟨(hs.2 p.1 ?_).trans e,n,ne,nf,d⟩;intro q;rw[q,a3]at e;have q':oc=p.2:=Option.some.inj e;exact d w' (by rw[<-q'];exact a4)
theorem t9 {Q:Unit->Shared->Prop} (I:Inv X pins σ H s) (hN:X.N.Nodup) (hi:X.N[i]?=some x) (hx:Loc X.env.scope x) (r:RelV v u)
  (h:∀s',Inv X pins (σ.set i (some v)) H s'->Q () s') (hf:X.fn x=true\/X.env.scope.names.lookup x=some .local:=by first|exact .inl rfl|exact .inr rfl|assumption):wpAny M A (storeName X.env x u) Q E s:=
 xb I hN hi hx r (λs' z _=>h s' z) hf
theorem Inv.call' (I:Inv X pins σ H s) (G:s'.os=s.os) (u:Un (frs X.stack) ch H H' s.heap s'.heap) (hok:HOk X.prog X.w H' s'.heap) (O:AllBare s'.gens)
  (z:∀b∈ch,(b∈X.ex\/X.s₀.heap.objs.size<=b)/\b≠X.env.locals/\(∀x c,X.env.cells.lookup x=some c->c≠b)/\∀p∈X.pn++pins,p.1≠b):Inv X pins σ H' s':=by
 obtain⟨h',g',d',t',o'⟩:=s';have e:o'=s.os:=G;subst e;exact I.call (g':=g') (t':=t') (d':=d') u hok O z
end
abbrev XK:=Value->Option Addr->Hp->Prop
abbrev St:=List (Option V)
abbrev VK:=V->Hp->Prop
abbrev TE:=St->Hp->VK->Prop
abbrev TT:=St->Hp->(Bool->Hp->Prop)->Prop
abbrev TA:=St->Hp->(List V->Hp->Prop)->Prop
structure qN where
 nx:St->Hp->Prop
 rt:VK
 bk:St->Hp->Prop:=λ_ _=>False
 ct:St->Hp->Prop:=λ_ _=>False
abbrev TS:=qN->St->Hp->Prop
def EP (X:Cx) (pins:List (Addr×Obj)) (σ:St) (Q:VK) (u:Value) (s':Shared):Prop:=∃v H',Inv X pins σ H' s'/\RelV v u/\Q v H'
def TP (X:Cx) (pins:List (Addr×Obj)) (σ:St) (Q:Bool->Hp->Prop) (b:Bool) (s':Shared):Prop:=∃H',Inv X pins σ H' s'/\Q b H'
def AP (X:Cx) (pins:List (Addr×Obj)) (σ:St) (Q:List V->Hp->Prop) (us:List Value) (s':Shared):Prop:=∃vs H',Inv X pins σ H' s'/\Vals vs us/\Q vs H'
def SP (X:Cx) (pins:List (Addr×Obj)) (D:qN) (f:Flow) (s':Shared):Prop:=
 match f with
 | .next=>∃σ' H',Inv X pins σ' H' s'/\D.nx σ' H'
 | .brk=>∃σ' H',Inv X pins σ' H' s'/\D.bk σ' H'
 | .cont=>∃σ' H',Inv X pins σ' H' s'/\D.ct σ' H'
 | .ret u=>∃v σ' H',Inv X pins σ' H' s'/\RelV v u/\D.rt v H'
def PE (X:Cx) (e:Expr) (t:TE):Prop:=
 ∀(pins:List (Addr×Obj)) (s:Shared) (σ:St) (H:Hp) (Q:VK),Inv X pins σ H s->t σ H Q->wpAny (model X.prog X.w) X.A (eval e X.env) (EP X pins σ Q) X.xe s
def PT (X:Cx) (e:Expr) (t:TT):Prop:=
 ∀(pins:List (Addr×Obj)) (s:Shared) (σ:St) (H:Hp) (Q:Bool->Hp->Prop),Inv X pins σ H s->t σ H Q->wpAny (model X.prog X.w) X.A (isTrue e X.env (eval e X.env)) (TP X pins σ Q) X.xe s
def PW (X:Cx) (e:Expr) (t:TT):Prop:=
 ∀(whole:Sem Value) (pins:List (Addr×Obj)) (s:Shared) (σ:St) (H:Hp) (Q:Bool->Hp->Prop),Inv X pins σ H s->t σ H Q->wpAny (model X.prog X.w) X.A (isTrue e X.env whole) (TP X pins σ Q) X.xe s
theorem PW.pt {t:TT} (h:PW X e t):PT X e t:=h _
def PA (X:Cx) (es:List Expr) (t:TA):Prop:=
 ∀(pos:Pos) (pins:List (Addr×Obj)) (s:Shared) (σ:St) (H:Hp) (Q:List V->Hp->Prop),Inv X pins σ H s->t σ H Q->wpAny (model X.prog X.w) X.A (spliced (backTo pos (starEach es X.env))) (AP X pins σ Q) X.xe s
def PS (X:Cx) (st:Stmt) (t:TS):Prop:=
 ∀(pins:List (Addr×Obj)) (s:Shared) (σ:St) (H:Hp) (D:qN),Inv X pins σ H s->t D σ H->wpAny (model X.prog X.w) X.A (exec st X.env) (SP X pins D) X.xe s
def PSs (X:Cx) (st:List Stmt) (t:TS):Prop:=
 ∀(pins:List (Addr×Obj)) (s:Shared) (σ:St) (H:Hp) (D:qN),Inv X pins σ H s->t D σ H->wpAny (model X.prog X.w) X.A (execs st X.env) (SP X pins D) X.xe s
theorem thn {α:Type} {t:Sem α} {Q Q':α->Shared->Prop} (h:wpAny M A t Q E s) (z:∀a s,Q a s->Q' a s):wpAny M A t Q' E s:=wpAny_mono h z λ_ _ x=>x
end
section
section
inductive IY (i:Nat) (σ:St) (H:Hp) (Q:VK):Prop
 |mk (v:_) (_:σ[i]?=some (some v)) (_:Q v H)
def tC (v:V):TE:=λ_ H Q=>Q v H
theorem Jr {i:Nat} (hN:X.N[i]?=some x) (hv:Vis X.env.scope x) (hd:(x==("__debug__":Str))=false:=by decide) (G:(x==("__classdict__":Str))=false:=by decide):PE X (.Name x pos) (IY i):=by
 intro pins s σ H Q I h;obtain⟨v,e,h⟩:=h;obtain⟨m,O,hl⟩:=I.loc;obtain⟨u,r,l⟩:=hl i x v hN e hv;have fin:EP X pins σ Q u s:=⟨v,H,I,r,h⟩;rcases l with⟨hk,U⟩|⟨hk,c,hc,z⟩
 .exact wpAny_Name (wpAny_loadName_local I.ok.kind hk O U fin) hd
 .rcases hk with hk|hk
  .exact wpAny_Name (wpAny_loadName_cell I.ok.kind hk hc z fin) hd
  .exact wpAny_Name (wpAny_loadName_free I.ok.kind hk hc z fin G) hd
theorem af {i j pos}:PE X (.Constant (.int i) j pos) (tC (.int i)):=λ_ _ _ H _ I h=>wpAny_Constant_int ⟨.int i,H,I.tok _,⟨_,rfl⟩,h⟩
theorem uJ {b j pos}:PE X (.Constant (.bool b) j pos) (tC (.bl b)):=λ_ _ _ H _ I h=>Constant_bool ⟨.bl b,H,I,rfl,h⟩
theorem bg {j pos}:PE X (.Constant .none j pos) (tC .non):=λ_ _ _ H _ I h=>Constant_none ⟨.non,H,I,rfl,h⟩
theorem gh {x j pos}:PE X (.Constant (.str x) j pos) (tC (.str x)):=λ_ _ _ H _ I h=>Calls.Constant_str ⟨.str x,H,I.tok _,⟨_,rfl⟩,h⟩
def Gl (X:Cx) (x:Str):Prop:=X.env.kindOf x=some .globalImplicit
theorem qe {σ:St} {H:Hp} {Q:Value->Shared->Prop} (I:Inv X pins σ H s) (z:Gl X x) (G:X.mg x=some u) (h:Q u s)
  (hd:(x==("__debug__":Str))=false:=by decide):wpAny (model X.prog X.w) X.A (eval (.Name x pos) X.env) Q E s:=
 Calls.Name_function_global I.ok.kind z (Calls.loadGlobal_global (by rw[I.ok.glob];exact I.mod.glob.keeps I.bk) G h) hd
theorem rM {σ:St} {H:Hp} {Q:Value->Shared->Prop} (I:Inv X pins σ H s) (z:Gl X x) (G:X.mg x=none) (hv:bootBuiltins x=some u) (h:Q u s)
  (O:x≠"__name__":=by decide) (hd:(x==("__debug__":Str))=false:=by decide):wpAny (model X.prog X.w) X.A (eval (.Name x pos) X.env) Q E s:=by
 obtain⟨U,h1,h2⟩:=I.mod.blt;exact Calls.Name_function_global I.ok.kind z (Calls.loadGlobal_builtin (by rw[I.ok.glob];exact I.mod.glob.keeps I.bk) G (by rw[I.ok.blt];exact h1.keeps I.bk) ((h2 x O).trans hv) h) hd
theorem cG {v:V} (z:Gl X x) (G:X.mg x=some u) (r:RelV v u) (hd:(x==("__debug__":Str))=false:=by decide):PE X (.Name x pos) (tC v):=
 λ_ _ _ H _ I h=>qe I z G ⟨v,H,I,r,h⟩ hd
theorem B6 {v:V} (z:Gl X x) (G:X.mg x=none) (hv:bootBuiltins x=some u) (r:RelV v u) (O:x≠"__name__":=by decide) (hd:(x==("__debug__":Str))=false:=by decide):PE X (.Name x pos) (tC v):=
 λ_ _ _ H _ I h=>rM I z G hv ⟨v,H,I,r,h⟩ O hd
variable {a b:Expr} {tb:TE}
def PC (X:Cx) (op:CmpOp) (a b:Expr) (t:TE):Prop:=
 ∀(pins:List (Addr×Obj)) (s:Shared) (σ:St) (H:Hp) (Q:VK),Inv X pins σ H s->t σ H Q->
  wpAny (model X.prog X.w) X.A (eval a X.env) (λv s₁=>wpAny (model X.prog X.w) X.A (eval b X.env) (λu s₂=>wpAny (model X.prog X.w) X.A (compareOp op v u) (EP X pins σ Q) X.xe s₂) X.xe s₁) X.xe s
inductive tBR (Q:Bool->Hp->Prop) (x:V) (H1:Hp):Prop
 |mk (c:_) (_:x= .bl c) (_:Q c H1)
def tB (t:TE):TT:=λσ H Q=>t σ H λx H1=>tBR Q x H1
theorem Js (h:PC X op a b t) (h1:behindInMarks op b=false:=by first|exact nobehind _ (by decide) (by decide)|rfl):PE X (.Compare a [op] [b] pos) t:=λpins s σ H Q I hw=>wpAny_Compare1 (h pins s σ H Q I hw) h1
theorem Bg (h:PC X op a b t) (h1:behindInMarks op b=false:=by first|exact nobehind _ (by decide) (by decide)|rfl):PT X (.Compare a [op] [b] pos) (tB t):=by
 intro pins s σ H Q I hw;refine wpAny_isTrue_Compare1 (thn (h pins s σ H _ I hw) λv s1 h1=>thn h1 λu U h2=>thn h2 λc s3 z=>?_) h1;obtain⟨x,H1,G,r1,O⟩:=z;obtain⟨d,rfl,q⟩:=O;cases r1;exact wpAny_truthy_bool ⟨H1,G,q⟩
theorem eK (h:PE X e t) (he:∀z,isTrue e X.env z=(do let v<-z;standAt e.pos;holding [v] (truthy v)):=by intro _;rfl):PT X e (tB t):=by
 intro pins s σ H Q I hw;refine isTrue_plain (thn (h pins s σ H _ I hw) λv s1 G=>?_) (he _);obtain⟨x,H1,O,r1,U⟩:=G;obtain⟨d,rfl,q⟩:=U;cases r1;exact wpAny_truthy_bool ⟨H1,O,q⟩
variable {tA tB':TT} {rest:List Expr}
def tAnd (t u:TT):TT:=λσ H Q=>t σ H λc H1=>if c=true then u σ H1 Q else Q false H1
def tOr (t u:TT):TT:=λσ H Q=>t σ H λc H1=>if c=true then Q true H1 else u σ H1 Q
def tNot (t:TT):TT:=λσ H Q=>t σ H λc H1=>Q (!c) H1
theorem dO (ha:PT X a tA):PW X (.BoolOp .And [a] pos) tA:=by
 intro wh pins s σ H Q I h;refine isTrue_and (thn (ha pins s σ H Q I h) λc s1 e=>?_);cases c with
 |true=>exact isTrue_and_nil e
 |false=>exact e
theorem fA (ha:PT X a tA):PW X (.BoolOp .Or [a] pos) tA:=by
 intro wh pins s σ H Q I h;refine isTrue_or (thn (ha pins s σ H Q I h) λc s1 e=>?_);cases c with
 |false=>exact isTrue_or_nil e
 |true=>exact e
theorem fB (ha:PT X a tA) (hb:PW X (.BoolOp .And (b::rest) pos) tB'):PW X (.BoolOp .And (a::b::rest) pos) (tAnd tA tB'):=by
 intro wh pins s σ H Q I h;refine isTrue_and (thn (ha pins s σ H _ I h) λc s1 ⟨H1,z,G⟩=>?_);cases c with
 |true=>exact hb wh pins s1 σ H1 Q z G
 |false=>exact⟨H1,z,G⟩
theorem ie (ha:PT X a tA) (hb:PW X (.BoolOp .Or (b::rest) pos) tB'):PW X (.BoolOp .Or (a::b::rest) pos) (tOr tA tB'):=by
 intro wh pins s σ H Q I h;refine isTrue_or (thn (ha pins s σ H _ I h) λc s1 ⟨H1,z,G⟩=>?_);cases c with
 |true=>exact⟨H1,z,G⟩
 |false=>exact hb wh pins s1 σ H1 Q z G
theorem rp (ha:PT X a tA):PT X (.UnaryOp .Not a pos) (tNot tA):=by
 intro pins s σ H Q I h;exact isTrue_not (ha pins s σ H (λc H1=>Q (!c) H1) I h)
def Ky (ta tb:TE):TE:=λσ H Q=>ta σ H λx H1=>∃c,x= .bl c/\if c=true then tb σ H1 Q else Q (.bl false) H1
def tOrV (ta tb:TE):TE:=λσ H Q=>ta σ H λx H1=>∃c,x= .bl c/\if c=true then Q (.bl true) H1 else tb σ H1 Q
def Kr (ta:TE):TE:=λσ H Q=>ta σ H λx H1=>∃c,x= .bl c/\Q (.bl (!c)) H1
theorem cT {op} (h:PE X a t):PE X (.BoolOp op [a] pos) t:=λpins s σ H Q I hw=>BoolOp_one (h pins s σ H Q I hw)
theorem gi (ha:PE X a ta) (hb:PE X (.BoolOp .And (b::rest) pos) tb):PE X (.BoolOp .And (a::b::rest) pos) (Ky ta tb):=by
 intro pins s σ H Q I h;refine BoolOp_and (thn (ha pins s σ H _ I h) λv s1 G=>?_);obtain⟨x,H1,O,r1,z⟩:=G;obtain⟨c,rfl,z⟩:=z;cases r1;refine wpAny_truthy_bool ?_;cases c with
 |true=>exact hb pins s1 σ H1 Q O z
 |false=>exact⟨.bl false,H1,O,rfl,z⟩
theorem zF (ha:PE X a ta) (hb:PE X (.BoolOp .Or (b::rest) pos) tb):PE X (.BoolOp .Or (a::b::rest) pos) (tOrV ta tb):=by
 intro pins s σ H Q I h;refine BoolOp_or (thn (ha pins s σ H _ I h) λv s1 G=>?_);obtain⟨x,H1,O,r1,z⟩:=G;obtain⟨c,rfl,z⟩:=z;cases r1;refine wpAny_truthy_bool ?_;cases c with
 |false=>exact hb pins s1 σ H1 Q O z
 |true=>exact⟨.bl true,H1,O,rfl,z⟩
theorem Bj (ha:PE X a ta):PE X (.UnaryOp .Not a pos) (Kr ta):=by
 intro pins s σ H Q I h;refine UnaryOp_ (thn (ha pins s σ H _ I h) λv s1 z=>?_);obtain⟨x,H1,O,r1,G⟩:=z;obtain⟨c,rfl,G⟩:=G;cases r1;exact not_of (wpAny_truthy_bool ⟨.bl (!c),H1,O,rfl,G⟩)
def tIf (t:TT) (ta tb:TE):TE:=λσ H Q=>t σ H λc H1=>if c=true then ta σ H1 Q else tb σ H1 Q
theorem EL (hc:PT X c tA) (ha:PE X a ta) (hb:PE X b tb):PE X (.IfExp c a b pos) (tIf tA ta tb):=by
 intro pins s σ H Q I h;refine wpAny_IfExp (thn (hc pins s σ H _ I h) λd s1 ⟨H1,z,G⟩=>?_);cases d with
 |true=>exact ha pins s1 σ H1 Q z G
 |false=>exact hb pins s1 σ H1 Q z G
end
end
section
def SqL (K:PySem.W.Frag) (H:Hp) (a:Addr) (xs:List V):Prop:=
 Rd H a (.lst xs)\/
  ∃(o:Obj) (its:Array Value) (n:Nat),K.lookup a=some o/\o.cls= .type "list"/\o.dict=none/\o.data= .seq its n/\its.size<=sizeLine/\Vals xs its.toList
def SqT (K:PySem.W.Frag) (H:Hp) (a:Addr) (xs:List V):Prop:=
 Rd H a (.tup xs)\/
  ∃(o:Obj) (its:Array Value) (n:Nat),K.lookup a=some o/\o.cls= .type "tuple"/\o.data= .seq its n/\its.size<=sizeLine/\Vals xs its.toList
def absV:Value->Option V
 | .none=>some .non
 | .bool b=>some (.bl b)
 | .int i _=>some (.int i)
 | .str x _=>some (.str x)
 | .bytes b _=>some (.byt b)
 | .float b _=>some (.flt b)
 | .ref a=>some (.ref a)
 | .type n=>some (.ty n)
 |_=>none
theorem RelV.abs {x:V} (r:RelV x u):absV u=some x:=by
 cases x with
 |non=>cases r;rfl
 |bl _=>cases r;rfl
 |int _=>obtain⟨t,rfl⟩:=r;rfl
 |str _=>obtain⟨t,rfl⟩:=r;rfl
 |byt _=>obtain⟨t,rfl⟩:=r;rfl
 |flt _=>obtain⟨t,rfl⟩:=r;rfl
 |ref _=>cases r;rfl
 |ty _=>cases r;rfl
theorem RelV.inj {x:V} (r:RelV x u) (q:RelV y u):x=y:=Option.some.inj (r.abs.symm.trans q.abs)
theorem Vals.inj:∀{xs ys:List V} {us:List Value},Vals xs us->Vals ys us->xs=ys
 |_,_,_,.nil,.nil=>rfl
 |_,_,_,.cons r t,.cons r' t'=>by rw[r.inj r',Vals.inj t t']
section
variable {ys:List V}
theorem SqL.of (h:H a=some (.lst xs)):SqL K H a xs:= .inl (.inl h)
theorem SqT.of (h:H a=some (.tup xs)):SqT K H a xs:= .inl (.inl h)
theorem Inv.list (I:Inv X pins σ H s) (h:SqL X.K H a xs):∃its:List Value,Vals xs its/\PlainL s.heap a its.toArray/\xs.length<=sizeLine:=by
 rcases h with h|⟨o,its,n,hk,hc,hd,hs,hz,r⟩
 .obtain⟨z,its,n,r,e⟩:=h.ok I.hok;exact⟨its,r,⟨_,n,e,rfl,rfl,rfl⟩,z⟩
 .refine⟨its.toList,r,⟨o,n,I.kIn a o hk,hc,hd,by simpa using hs⟩,?_⟩;have e:=r.length;simp only[Q6]at e;lia
theorem Inv.tuple (I:Inv X pins σ H s) (h:SqT X.K H a xs):∃its:List Value,Vals xs its/\IsTup s.heap a its.toArray/\xs.length<=sizeLine:=by
 rcases h with h|⟨o,its,n,hk,hc,hs,hz,r⟩
 .obtain⟨z,its,r,p⟩:=h.ok I.hok;exact⟨its,r,p,z⟩
 .refine⟨its.toList,r,⟨o,I.kIn a o hk,hc,n,by simpa using hs⟩,?_⟩;have e:=r.length;simp only[Q6]at e;lia
theorem Inv.list_inj (I:Inv X pins σ H s) (h:SqL X.K H a xs) (h':SqL X.K H a ys):xs=ys:=by
 obtain⟨its,r,⟨o,n,e,_,_,d⟩,_⟩:=I.list h;obtain⟨its',r',⟨o',n',z,_,_,d'⟩,_⟩:=I.list h';rw[e]at z;cases z;rw[d]at d';injection d' with d1 _;have:its=its':=by simpa using congrArg Array.toList d1
 subst this;exact r.inj r'
end
abbrev Cx.wish (X:Cx) (E:Value->Shared->Prop):Cx:={X with xe:=E}
abbrev Cx.nox (X:Cx):Cx:=X.wish λ_ _=>False
theorem Cx.Ok.wish (ok:X.Ok) (E:Value->Shared->Prop):(X.wish E).Ok:=
 ⟨ok.mod,ok.kind,ok.glob,ok.blt,ok.above,ok.inj,ok.has,ok.cab,ok.hd,ok.frames,ok.stk,ok.exf,ok.bs,ok.bsz,ok.noex,ok.exfs,ok.funs,ok.frf⟩
theorem Cx.Ok.unwish (ok:(X.wish E).Ok):X.Ok:=
 ⟨ok.mod,ok.kind,ok.glob,ok.blt,ok.above,ok.inj,ok.has,ok.cab,ok.hd,ok.frames,ok.stk,ok.exf,ok.bs,ok.bsz,ok.noex,ok.exfs,ok.funs,ok.frf⟩
section
theorem Inv.wish (I:Inv X pins σ H s) (E:Value->Shared->Prop):Inv (X.wish E) pins σ H s:=⟨I.ok.wish E,I.os,I.bare,I.base,I.loc,I.cell,I.free,I.freeC,I.pin,I.hok,I.len⟩
theorem Inv.unwish (I:Inv (X.wish E) pins σ H s):Inv X pins σ H s:=⟨I.ok.unwish,I.os,I.bare,I.base,I.loc,I.cell,I.free,I.freeC,I.pin,I.hok,I.len⟩
theorem SP.unwish {D:qN} {f:Flow} (h:SP (X.wish E) pins D f s'):SP X pins D f s':=by
 cases f with
 |next=>obtain⟨z,H',I,q⟩:=h;exact⟨z,H',I.unwish,q⟩
 |brk=>obtain⟨z,H',I,q⟩:=h;exact⟨z,H',I.unwish,q⟩
 |cont=>obtain⟨z,H',I,q⟩:=h;exact⟨z,H',I.unwish,q⟩
 |ret u=>obtain⟨v,z,H',I,r,q⟩:=h;exact⟨v,z,H',I.unwish,r,q⟩
theorem PSs.nox {st:List Stmt} {t:TS} (h:PSs X.nox st t):PSs X st t:=λpins s σ H D I hw=>
 wpAny_mono (h pins s σ H D (I.wish _) hw) (λ_ _ q=>q.unwish) λ_ _ z=>False.elim z
end
section
variable {st:Stmt} {rest:List Stmt} {t u:TS}
def t7:TS:=λD σ H=>D.nx σ H
def zl (t u:TS):TS:=λD σ H=>t {D with nx:=u D} σ H
theorem aI:PSs X [] t7:=λ_ _ σ H _ I h=>wpAny_execs_nil ⟨σ,H,I,h⟩
theorem pW (h1:PS X st t) (h2:PSs X rest u):PSs X (st::rest) (zl t u):=by
 intro pins s σ H D I h;refine wpAny_execs_cons (thn (h1 pins s σ H {D with nx:=u D} I h) λf s1 q=>?_);cases f with
 |next=>
  obtain⟨z,H',G,q⟩:=q;exact h2 pins s1 z H' D G q
 |ret v=>exact q
 |brk=>exact q
 |cont=>exact q
theorem aB (h1:PS X st t):PSs X [st] t:=by
 intro pins s σ H D I h;refine wpAny_execs_cons (thn (h1 pins s σ H D I h) λf s1 q=>?_);cases f with
 |next=>exact wpAny_execs_nil q
 |ret v=>exact q
 |brk=>exact q
 |cont=>exact q
def Je:TS:=λD σ H=>D.bk σ H
theorem EJ:PS X (.Break pos) Je:=λ_ _ σ H _ I h=>wpAny_Break ⟨σ,H,I,h⟩
theorem Inv.quiet (I:Inv X pins σ H s):interactive X.env=false:=by simp[interactive,I.ok.kind]
def Kt (te:TE):TS:=λD σ H=>te σ H λ_ H1=>D.nx σ H1
theorem aS (he:PE X e te) (hs:swapsWith e none pos.line X.env=pure false:=by rfl):PS X (.Expr e pos) (Kt te):=by
 intro pins s σ H D I h;exact wpAny_Expr_any (thn (he pins s σ H _ I h) λv s1 ⟨x,H1,z,r1,G⟩=>⟨σ,H1,z,G⟩) I.quiet hs
def tRet (te:TE):TS:=λD σ H=>te σ H D.rt
theorem aD (he:PE X e te):PS X (.Return (some e) pos) (tRet te):=by
 intro pins s σ H D I h;exact wpAny_Return_some (thn (he pins s σ H _ I h) λv s1 ⟨x,H1,z,r1,G⟩=>⟨x,σ,H1,z,r1,G⟩)
def Kp:TS:=λD _ H=>D.rt .non H
theorem nB:PS X (.Return none pos) Kp:=λ_ _ σ H _ I h=>wpAny_Return_none ⟨.non,σ,H,I,rfl,h⟩
def tIfS (c:TT) (t u:TS):TS:=λD σ H=>c σ H λb H1=>if b=true then t D σ H1 else u D σ H1
theorem aV {a b:List Stmt} (hc:PT X c tc) (ha:PSs X a t) (hb:PSs X b u):PS X (.If c a b pos) (tIfS tc t u):=by
 intro pins s σ H D I h;refine wpAny_If (thn (hc pins s σ H _ I h) λd s1 ⟨H1,z,G⟩=>?_);cases d with
 |true=>exact ha pins s1 σ H1 D z G
 |false=>exact hb pins s1 σ H1 D z G
end
abbrev TG:=V->St->Hp->(St->Hp->Prop)->Prop
abbrev TGs:=List V->St->Hp->(St->Hp->Prop)->Prop
def PG (X:Cx) (target:Expr) (t:TG):Prop:=
 ∀(pins:List (Addr×Obj)) (s:Shared) (σ:St) (H:Hp) (v:V) (u:Value) (Q:St->Hp->Prop),Inv X pins σ H s->RelV v u->t v σ H Q->
  wpAny (model X.prog X.w) X.A (assign target X.env u) (λ_ s'=>∃σ' H',Inv X pins σ' H' s'/\Q σ' H') X.xe s
def PGs (X:Cx) (ts:List Expr) (t:TGs):Prop:=
 ∀(pins:List (Addr×Obj)) (s:Shared) (σ:St) (H:Hp) (vs:List V) (us:List Value) (Q:St->Hp->Prop),Inv X pins σ H s->Vals vs us->t vs σ H Q->
  wpAny (model X.prog X.w) X.A (assignInOrder ((assignEach ts X.env).map (·.2)) us) (λ_ s'=>∃σ' H',Inv X pins σ' H' s'/\Q σ' H') X.xe s
abbrev J7:=V->V->V->Hp->(Hp->Prop)->Prop
def PSet (X:Cx) (t:J7):Prop:=
 ∀(pins:List (Addr×Obj)) (s:Shared) (σ:St) (H:Hp) (o i v:V) (ov iv u:Value) (Q:Hp->Prop),Inv X pins σ H s->RelV o ov->RelV i iv->RelV v u->t o i v H Q->
  wpAny (model X.prog X.w) X.A (setItem ov iv u) (λ_ s'=>∃H',Inv X pins σ H' s'/\Q H') X.xe s
abbrev TIp:=V->V->Hp->VK->Prop
def PIp (X:Cx) (op:Operator) (t:TIp):Prop:=
 ∀(pins:List (Addr×Obj)) (s:Shared) (σ:St) (H:Hp) (x y:V) (v u:Value) (Q:VK),Inv X pins σ H s->RelV x v->RelV y u->t x y H Q->
  wpAny (model X.prog X.w) X.A (inplaceOp op v u) (EP X pins σ Q) X.xe s
section
abbrev mE (i:Nat):TG:=λv σ H Q=>Q (σ.set i (some v)) H
theorem bH (hN:X.N.Nodup) (hi:X.N[i]?=some x) (hx:Loc X.env.scope x) (hf:X.fn x=true\/X.env.scope.names.lookup x=some .local:=by first|exact .inl rfl|exact .inr rfl|assumption):PG X (.Name x pos) (mE i):=by
 intro pins s σ H v u Q I r h;exact wpAny_assign_Name (t9 I hN hi hx r (λs' z=>⟨_,H,z,h⟩) hf)
def gNil:TGs:=λvs σ H Q=>vs=[]/\Q σ H
inductive K4 (t:TG) (u:TGs) (vs:List V) (σ:St) (H:Hp) (Q:St->Hp->Prop):Prop
 |mk (v r:_) (_:vs=v::r) (_:t v σ H λσ' H'=>u r σ' H' Q)
theorem pX:PGs X [] gNil:=by
 intro pins s σ H vs us Q I r h;obtain⟨e,h⟩:=h;subst e;cases r;exact assignInOrder_nil ⟨σ,H,I,h⟩
theorem cR {t:TG} {u:TGs} (h1:PG X e t) (h2:PGs X es u)
  (hs:(assignEach (e::es) X.env).map (·.2)=assign e X.env::(assignEach es X.env).map (·.2):=by rfl):PGs X (e::es) (K4 t u):=by
 intro pins s σ H vs us Q I r h;obtain⟨v,vr,O,h⟩:=h;subst O;cases r with
 |cons r U=>
  rw[hs];refine assignInOrder_cons (thn (h1 pins s σ H _ _ _ I r h) λ_ s1 z=>?_);obtain⟨G,H1,Y,Z⟩:=z;exact h2 pins s1 G H1 _ _ Q Y U Z
inductive gTup (K:PySem.W.Frag) (n:Nat) (t:TGs) (v:V) (σ:St) (H:Hp) (Q:St->Hp->Prop):Prop
 |mk (a xs:_) (_:v= .ref a) (_:SqT K H a xs) (_:xs.length=n) (_:t xs σ H Q)
theorem uH {k:Nat} {t:TGs} (hc:X.calm=true) (h:PGs X es t)
  (G:(assignEach es X.env).length=n:=by rfl) (z:(assignEach es X.env).findIdx? (·.1)=none:=by rfl):PG X (.Tuple es k pos) (gTup X.K n t):=by
 intro pins s σ H v u Q I r hw;obtain⟨a,xs,O,hq,hl,hw⟩:=hw;subst O;cases r;obtain⟨its,rv,U,hz⟩:=I.tuple hq;refine assign_Tuple_tuple (I.ok.hd hc) U (by simp[G,<-hl,rv.length]) z λh' hx=>?_;have Y:Inv X pins σ H {s with heap:=h'}:=I.kept (t':=s.toks) λb o e=>hx b o (QC (Heap.lt_size e)) e;exact h pins _ σ H xs _ Q Y (by simpa using rv) hw
def gSub (to ti:TE) (t:J7):TG:=λv σ H Q=>to σ H λo H1=>ti σ H1 λi H2=>t o i v H2 λH3=>Q σ H3
theorem Bi {o i:Expr} {to U:TE} {t:J7} (Y:PE X o to) (hi:PE X i U) (hs:PSet X t)
  (ha:∀v,assign (.Subscript o i pos) X.env v=(do
   let G<-holding [v] (eval o X.env)
   let O<-holding [v,G] (eval i X.env)
   standAt pos
   holding [v,G,O] (setItem G O v)
   release [v,G,O] []):=by intro _;rfl):PG X (.Subscript o i pos) (gSub to U t):=by
 intro pins s σ H v u Q I r h;rw[ha];refine wpAny_bind (wpAny_holding (thn (Y pins s σ H _ I h) λG s1 z=>?_));obtain⟨x,H1,Z,r1,q1⟩:=z;refine wpAny_bind (wpAny_holding (thn (hi pins s1 σ H1 _ Z q1) λO s2 z=>?_));obtain⟨y,H2,I2,r2,q2⟩:=z;refine wpAny_bind (wpAny_standAt (wpAny_bind (wpAny_holding (thn (hs pins s2 σ H2 x y v G O u _ I2 r1 r2 r q2) λ_ s3 z=>?_))));obtain⟨H3,I3,q3⟩:=z;exact wpAny_release ⟨σ,H3,I3,q3⟩
def GU (te:TE) (g:TG):TS:=λD σ H=>te σ H λx H1=>g x σ H1 D.nx
theorem rq {g:TG} (he:PE X e te) (G:PG X tg g) (hs:swapsWithSole [tg] e pos.line X.env=pure false:=by rfl) (hw:swappedStores [tg] e X.env=pure none:=by rfl)
  (h1:(assignEach [tg] X.env).map (·.2)=[assign tg X.env]:=by rfl):PS X (.Assign [tg] e pos) (GU te g):=by
 intro pins s σ H D I h;refine wpAny_Assign_stores (thn (he pins s σ H _ I h) λv s1 z=>?_) hs hw;obtain⟨x,H1,O,r1,U⟩:=z;rw[h1];exact thn (G pins s1 σ H1 x v _ O r1 U) λ_ Y q=>q
theorem ay (hN:X.N.Nodup) (hi:X.N[i]?=some x) (hx:Loc X.env.scope x) (he:PE X e te) (hs:swapsWith e (some (.Name x pos')) pos.line X.env=pure false:=by rfl) (hf:X.fn x=true\/X.env.scope.names.lookup x=some .local:=by first|exact .inl rfl|exact .inr rfl|assumption):
  PS X (.Assign [.Name x pos'] e pos) (GU te (mE i)):=by
 intro pins s σ H D I h;refine wpAny_Assign_Name (thn (he pins s σ H _ I h) λv s1 z=>?_) hs;obtain⟨y,H1,G,r1,O⟩:=z;exact t9 G hN hi hx r1 (λY U=>⟨_,H1,U,O⟩) hf
inductive tAug (i:Nat) (te:TE) (ti:TIp) (D:qN) (σ:St) (H:Hp):Prop
 |mk (x:_) (_:σ[i]?=some (some x)) (_:te σ H λy H1=>ti x y H1 λz H2=>D.nx (σ.set i (some z)) H2)
theorem Bh {op:Operator} {Z:TIp} (hN:X.N.Nodup) (hi:X.N[i]?=some x) (hx:Loc X.env.scope x) (he:PE X e te) (ho:PIp X op Z) (hf:X.fn x=true\/X.env.scope.names.lookup x=some .local:=by first|exact .inl rfl|exact .inr rfl|assumption):
  PS X (.AugAssign (.Name x pos') op e pos) (tAug i te Z):=by
 intro pins s σ H D I h;obtain⟨v,e1,h⟩:=h;obtain⟨m,hn,hl⟩:=I.loc;have Y:Vis X.env.scope x:=by rcases hx with k|k;exact .inl k;exact .inr (.inl k)
 obtain⟨u,r,l⟩:=hl i x v hi e1 Y;refine wpAny_AugAssign_Name ?_;have go:wpAny (model X.prog X.w) X.A (eval e X.env) (λw s₂=>wpAny (model X.prog X.w) X.A (inplaceOp op u w) (λr U=>wpAny (model X.prog X.w) X.A (storeName X.env x r) (λ_=>SP X pins D .next) X.xe U) X.xe s₂) X.xe s:=by
  refine thn (he pins s σ H _ I h) λw s1 G=>?_;obtain⟨y,H1,I1,r1,q1⟩:=G;refine thn (ho pins s1 σ H1 v y u w _ I1 r r1 q1) λz s2 G=>?_;obtain⟨zv,H2,I2,r2,q2⟩:=G;exact t9 I2 hN hi hx r2 (λs3 I3=>⟨_,H2,I3,q2⟩) hf
 rcases l with⟨hk,hm⟩|⟨hk,c,hc,O⟩
 .exact wpAny_loadName_local I.ok.kind hk hn hm go
 .rcases hk with hk|hk
  .exact wpAny_loadName_cell I.ok.kind hk hc O go
  .rcases hx with k|k
   .have:X.env.scope.names.lookup x=some .free:=hk;rw[k]at this;cases this
   .have:X.env.scope.names.lookup x=some .free:=hk;rw[k]at this;cases this
inductive ipI (f:Int->Int->Int) (x y:V) (H:Hp) (Q:VK):Prop
 |mk (i j:_) (_:x= .int i) (_:y= .int j) (_:Q (.int (f i j)) H)
theorem Fn:PIp X .Add (ipI λi j=>i+j):=by
 intro pins s σ H x y v u Q I r1 z h;obtain⟨i,j,G,e2,q⟩:=h;subst G;subst e2;obtain⟨t,rfl⟩:=r1;obtain⟨t',rfl⟩:=z;exact iadd_int ⟨.int _,H,I.tok _,⟨_,rfl⟩,q⟩
theorem JK:PIp X .Sub (ipI λi j=>i-j):=by
 intro pins s σ H x y v u Q I r1 z h;obtain⟨i,j,G,e2,q⟩:=h;subst G;subst e2;obtain⟨t,rfl⟩:=r1;obtain⟨t',rfl⟩:=z;exact isub_int ⟨.int _,H,I.tok _,⟨_,rfl⟩,q⟩
end
section
def Ep (c:TT) (tb:TS):TS:=λD σ H=>∃W:Nat->St->Hp->Prop,(∃m,W m σ H)/\∀m σ H,W m σ H->
 c σ H λb H1=>if b=true then ∃N:St->Hp->Prop,(∀σ' H',N σ' H'->∃m',m'<m/\W m' σ' H')/\tb {D with nx:=N,ct:=N,bk:=D.nx} σ H1 else D.nx σ H1
theorem lY (hp:PassesOwn (model X.prog X.w) X.A X.env X.xe) (hc:PT X c tc) (hb:PSs X body tb):PS X (.While c body [] pos) (Ep tc tb):=by
 intro pins s σ H D I h;obtain⟨W,⟨m0,w0⟩,O⟩:=h;refine wpAny_While (codeAny_whileLoop (λn s'=>∃U H',Inv X pins U H' s'/\W n U H') ?_ m0 ⟨σ,H,I,w0⟩);rintro n s1 ⟨G,H1,I1,w1⟩;refine wpAny_passesOwn hp (thn (hc pins s1 G H1 _ I1 (O n G H1 w1)) λb s2 ⟨H2,I2,Y⟩=>?_);cases b with
 |true=>
  obtain⟨N,hN,Y⟩:=Y;rw[if_pos rfl];refine wpAny_passesOwn hp (thn (hb pins s2 G H2 _ I2 Y) λf s3 Z=>?_);cases f with
  |next=>
   obtain⟨z,H3,I3,n3⟩:=Z;obtain⟨m',hm,w3⟩:=hN z H3 n3;exact⟨m',hm,z,H3,I3,w3⟩
  |cont=>
   obtain⟨z,H3,I3,n3⟩:=Z;obtain⟨m',hm,w3⟩:=hN z H3 n3;exact⟨m',hm,z,H3,I3,w3⟩
  |brk=>exact Z
  |ret v=>exact Z
 |false=>
  rw[if_neg Qi];exact wpAny_execs_nil ⟨G,H2,I2,Y⟩
end
structure It where
 go:Nat->Hp->Prop
 yld:Nat->Hp->V->Hp->Prop
 stop:Nat->Hp->Prop
def Aq (X:Cx) (pins:List (Addr×Obj)) (H:Hp) (b:Addr):Prop:=
 H b=none/\b≠X.env.locals/\b∉X.fs/\(b∈X.ex\/X.s₀.heap.objs.size<=b)/\(∀x c,X.env.cells.lookup x=some c->c≠b)/\∀p∈X.pn++pins,p.1≠b
theorem Inv.fpOk (I:Inv X pins σ H s) (hb:s.heap.objs.size<=b) (G:H' b=none):Aq X pins H' b:=by
 refine⟨G,XA (Qx I.lt hb),I.nofs hb,.inr (QD I.sz hb),λx c e z=>?_,λp O z=>?_⟩
 .obtain⟨v,q⟩:=I.cell x c e;exact absurd (Qx q.lt (by rw[z];exact hb)) (Zu _)
 .exact absurd (Qx (Heap.lt_size (I.pin p O).1) (by rw[z];exact hb)) (Zu _)
structure BM (P:Program) (w:World) (K:PySem.W.Frag) (tg:Expr) (J:It) (fp:List Addr) (it:Addr) (tn:Nat->Heap->Prop):Prop where
 mem:it∈fp
 obj:∀i h,tn i h->∀b∈fp,∃o,h.get? b=some o/\∀v,o.data≠ .cell v
 keep:∀i h h',tn i h->(∀b∈fp,∀o,h.get? b=some o->h'.get? b=some o)->tn i h'
 item:∀(X:Cx),X.prog=P->X.w=w->X.K=K->X.calm=true->∀(i:Nat) (pins:List (Addr×Obj)) (s:Shared) (σ:St) (H:Hp) (E:Value->Shared->Prop),Inv X pins σ H s->(∀b∈fp,Aq X pins H b)->tn i s.heap->J.go i H->
  wpAny (model P w) X.A (pyNext (.ref it)) (λr s1=>∃u,r=some u/\
   wpAny (model P w) X.A (letOwnedTupleGo tg (.ref it) u) (λ_ s2=>∃x H',Inv X pins σ H' s2/\RelV x u/\J.yld i H x H'/\tn (i+1) s2.heap/\∀b∈fp,H' b=none) E s1) E s
 done:∀(X:Cx),X.prog=P->X.w=w->X.K=K->X.calm=true->∀(i:Nat) (pins:List (Addr×Obj)) (s:Shared) (σ:St) (H:Hp) (E:Value->Shared->Prop),Inv X pins σ H s->(∀b∈fp,Aq X pins H b)->tn i s.heap->J.stop i H->
  wpAny (model P w) X.A (pyNext (.ref it)) (λr s1=>r=none/\Inv X pins σ H s1) E s
 self:∀(A:Around) (i:Nat) (s:Shared) (Q:Value->Shared->Prop) (E:Value->Shared->Prop),tn i s.heap->Q (.ref it) s->wpAny (model P w) A (pyIter (.ref it)) Q E s
abbrev TI:=St->Hp->(It->Hp->Prop)->Prop
def PIE (X:Cx) (pins:List (Addr×Obj)) (σ:St) (tg:Expr) (R:It->Hp->Prop) (itv:Value) (s2:Shared):Prop:=
 ∃(it:Addr) (fp:List Addr) (tn:Nat->Heap->Prop) (J:It) (H':Hp),itv= .ref it/\Inv X pins σ H' s2/\BM X.prog X.w X.K tg J fp it tn/\tn 0 s2.heap/\(∀b∈fp,Aq X pins H' b)/\R J H'
def PI (X:Cx) (tg iter:Expr) (wi:TI):Prop:=
 ∀(pins:List (Addr×Obj)) (s:Shared) (σ:St) (H:Hp) (R:It->Hp->Prop),Inv X pins σ H s->wi σ H R->
  wpAny (model X.prog X.w) X.A (eval iter X.env) (λv s1=>wpAny (model X.prog X.w) X.A (pyIter v) (PIE X pins σ tg R) X.xe s1) X.xe s
theorem z6 {o:Obj} {n:String} {vs:Array Value} {Q:Unit->Shared->Prop} (G:s.heap.get? it=some o) (hc:o.cls= .type n) (hd:o.data= .fields vs)
  (I:["enumerate","zip","dict_itemiterator","dict_reverseitemiterator","odict_iterator","itertools.zip_longest","itertools.pairwise"].contains n=false) (z:Q () s):wpAny M A (letOwnedTupleGo tg (.ref it) u) Q E s:=by
 unfold letOwnedTupleGo;cases tg<;>first
  |exact wpAny_pure z
  |(cases u<;>first
    |exact wpAny_pure z
    |(refine wpAny_bind (wpAny_load G ?_)
      rw[hc,hd];show wpAny M A (if(["enumerate","zip","dict_itemiterator","dict_reverseitemiterator","odict_iterator","itertools.zip_longest","itertools.pairwise"].contains n&&vs[0]?==some (rawInt _))=true then _ else _) Q E s;rw[if_neg (by intro h;rw[I,ZC]at h;cases h)];exact wpAny_pure z))
def Itl (K:PySem.W.Frag) (a:Addr):It:=
 ⟨λi H=>∃xs x,SqL K H a xs/\xs[i]?=some x,λi H x H'=>H'=H/\∀xs,SqL K H a xs->xs[i]?=some x,λi H=>∃xs,SqL K H a xs/\xs.length<=i⟩
def Itr (lo:Int) (n:Nat):It:=⟨λi _=>i<n,λi H x H'=>H'=H/\x= .int (lo+i),λi _=>n<=i⟩
theorem CM (a it:Addr):BM P w K tg (Itl K a) [it] it (λi h=>h.IsListIter it a i) where
 mem:=by simp
 obj:=λi h st b hb=>by
  have e:b=it:=by simpa using hb
  subst e;obtain⟨o,e,c,d⟩:=st;exact⟨o,e,λv z=>by rw[d]at z;cases z⟩
 keep:=λi h h' st k=>st.at λo e=>k it (by simp) o e
 item:=by
  intro X G hw hK hc i pins s σ H E I hf st O;subst G hw hK;obtain⟨xs,x,hq,hx⟩:=O;obtain⟨its,rv,p,hz⟩:=I.list hq;obtain⟨u,hu,ru⟩:=rv.get hx;obtain⟨U,Y,f2,Z,f4,f5⟩:=hf it (by simp);refine wpAny_pyNext_list_item st p.isList (x:=u) (by simpa using hu) λh' st' sb=>?_;have I1:Inv X pins σ H {s with heap:=h'}:=I.turned (t':=s.toks) (λb o hb e=>(sb.2 b hb).trans e) U Y Z f4 f5;obtain⟨o,e,c,d⟩:=id st';exact⟨u,rfl,z6 (s:={s with heap:=h'}) e c d (by decide) ⟨x,H,I1,ru,⟨rfl,λys hy=>by rw[I.list_inj hy hq];exact hx⟩,st',λb hb=>(hf b hb).1⟩⟩
 done:=by
  intro X G hw hK hc i pins s σ H E I hf st O;subst G hw hK;obtain⟨xs,hq,hx⟩:=O;obtain⟨its,rv,p,hz⟩:=I.list hq;obtain⟨U,Y,f2,Z,f4,f5⟩:=hf it (by simp);have hl:=rv.length;exact wpAny_pyNext_list_end (I.ok.hd hc) st p.isList (by simp;lia) λh' eb=>⟨rfl,I.turned (t':=s.toks) (λb o hb e=>eb b o hb e) U Y Z f4 f5⟩
 self:=λ_ _ _ _ _ st h=>wpAny_pyIter_listiter st h
theorem AO (it:Addr) (lo:Int) (n:Nat):BM P w K tg (Itr lo n) [it] it (λi h=>IsRangeIter h it (lo+(i:Nat)*1) ((n:Int)-(i:Nat)) 1) where
 mem:=by simp
 obj:=λi h st b hb=>by
  have e:b=it:=by simpa using hb
  subst e;exact⟨_,st,λv z=>by
   have z':Data.fields _=Data.cell v:=z;cases z'⟩
 keep:=λi h h' st k=>k it (by simp) _ st
 item:=by
  intro X G hw hK hc i pins s σ H E I hf st O;subst G hw hK;obtain⟨U,Y,f2,Z,f4,f5⟩:=hf it (by simp);have W:=Walks.range (prog:=X.prog) (w:=X.w) (I.ok.hd hc) it lo 1 n;refine W.item i s _ _ O st λv h' tk hv st' kk=>?_;obtain⟨t,rfl⟩:=hv;have I1:Inv X pins σ H {s with heap:=h',toks:=tk}:=I.turned (λb o hb e=>kk b o (by simpa using hb) e) U Y Z f4 f5;refine⟨_,rfl,z6 (s:={s with heap:=h',toks:=tk}) (n:="range_iterator") st' rfl rfl (by decide) ⟨.int (lo+i),H,I1,⟨t,?_⟩,⟨rfl,rfl⟩,st',λb hb=>(hf b hb).1⟩⟩;rw[Int.mul_one]
 done:=by
  intro X G hw hK hc i pins s σ H E I hf st O;subst G hw hK;obtain⟨U,Y,f2,Z,f4,f5⟩:=hf it (by simp);exact wpAny_pyNext_range_end (I.ok.hd hc) st (by have:n<=i:=O;lia) λh' eb=>⟨rfl,I.turned (t':=s.toks) (λb o hb e=>eb b o hb e) U Y Z f4 f5⟩
 self:=λ_ _ _ _ _ st h=>wpAny_pyIter_rangeiter st h
end
section
section
inductive JN (K:PySem.W.Frag) (R:It->Hp->Prop) (x:V) (H1:Hp):Prop
 |mk (a:_) (_:x= .ref a) (_:(∃xs,SqL K H1 a xs)) (_:R (Itl K a) H1)
def K2 (K:PySem.W.Frag) (tl:TE):TI:=λσ H R=>tl σ H λx H1=>JN K R x H1
theorem c8 {l:Expr} {tl:TE} (hl:PE X l tl):PI X tg l (K2 X.K tl):=by
 intro pins s σ H R I h;refine thn (hl pins s σ H _ I h) λv s1 G=>?_;obtain⟨x,H1,z,r1,O⟩:=G;obtain⟨a,e,⟨xs,hq⟩,q⟩:=O;subst e;cases r1;obtain⟨its,rv,p,hz⟩:=z.list hq;refine wpAny_pyIter_list p.isList ?_;refine⟨s1.heap.objs.size,[s1.heap.objs.size],_,_,H1,rfl,z.kept (t':=s1.toks) λb o e=>Heap.get?_push_of_some _ e,CM a _,⟨_,Heap.get?_push_size _ rfl,rfl,rfl⟩,λb hb=>?_,q⟩;have e:b=s1.heap.objs.size:=by simpa using hb
 subst e;exact z.fpOk (Q4 _) (z.hok.fresh (Q4 _))
theorem EF {R:It->Hp->Prop} {hi:Int} {t u v:Tok} {z:Nat} (I:Inv X pins σ H s) (h1: -(2^62)<=lo) (h2:lo<2^62) (O: -(2^62)<=hi) (U:hi<2^62)
  (q:R (Itr lo (hi-lo).toNat) H):wpAny (model X.prog X.w) X.A (pyIter (.ref s.heap.objs.size)) (PIE X pins σ tg R) E {s with heap:=s.heap.push {cls:= .type "range",data:= .fields #[.int lo t,.int hi u,.int 1 v]},toks:=z}:=by
 refine wpAny_pyIter_range (IsRange.new ..) (small_one h1 h2 O U) ?_;have G:Inv X pins σ H {s with heap:=s.heap.push {cls:= .type "range",data:= .fields #[.int lo t,.int hi u,.int 1 v]},toks:=z}:=I.kept λb o e=>Heap.get?_push_of_some _ e;refine⟨(s.heap.push {cls:= .type "range",data:= .fields #[.int lo t,.int hi u,.int 1 v]}).objs.size,[(s.heap.push {cls:= .type "range",data:= .fields #[.int lo t,.int hi u,.int 1 v]}).objs.size],_,_,H,rfl,
  G.kept (t':=z) λb o e=>Heap.get?_push_of_some _ e,AO _ lo (hi-lo).toNat,?_,λb hb=>?_,q⟩
 .have Y:lo+((0:Nat):Int)*1=lo:=by simp
  have e2:(((hi-lo).toNat:Nat):Int)-((0:Nat):Int)=Builtin.Range.rangeSize lo hi 1:=by rw[rangeSize_one];split<;>lia
  show IsRangeIter _ _ (lo+((0:Nat):Int)*1) ((((hi-lo).toNat:Nat):Int)-((0:Nat):Int)) 1;rw[Y,e2];exact Heap.get?_push_size _ rfl
 .have e:b=(s.heap.push {cls:= .type "range",data:= .fields #[.int lo t,.int hi u,.int 1 v]}).objs.size:=by simpa using hb
  subst e;exact G.fpOk (Q4 _) (G.hok.fresh (Q4 _))
inductive JM (R:It->Hp->Prop) (vs:List V) (H1:Hp):Prop
 |mk (j:Int) (_:vs=[.int j]) (_: -(2^62)<=j) (_:j<2^62) (_:R (Itr 0 j.toNat) H1)
def K0 (ta:TA):TI:=λσ H R=>ta σ H λvs H1=>JM R vs H1
theorem gS {a:Expr} {ta:TA} (O:Gl X "range") (U:X.mg "range"=none) (ha:PA X [a] ta) (hs:starEach [a] X.env=[(false,eval a X.env)]:=by rfl):PI X tg (.Call (.Name "range" p) [a] [] pos) (K0 ta):=by
 intro pins s σ H R I h;refine Call_ (rM I O U boot_range (PyProof.Rows.callWith_type1 (thn (ha pos pins s σ H _ I h) λus s1 z=>?_) hs rfl));obtain⟨vs,H1,Y,r1,G⟩:=z;obtain⟨j,e,G,Z,q⟩:=G;subst e;cases r1 with
 |cons r rr=>
  cases rr;obtain⟨t,rfl⟩:=r;exact call_range_1 (EF Y (by lia) (by lia) G Z (by simpa using q))
def tFor (wi:TI) (g:TG) (tb:TS):TS:=λD σ H=>wi σ H λJ H1=>∃W:Nat->Nat->St->Hp->Prop,(∃m,W 0 m σ H1)/\∀i m σ H,W i m σ H->
 (J.stop i H/\D.nx σ H)\/(J.go i H/\∃N:St->Hp->Prop,(∀σ' H',N σ' H'->∃m',m'<m/\W (i+1) m' σ' H')/\∀x H',J.yld i H x H'->g x σ H' λσ2 H2=>tb {D with nx:=N,ct:=N,bk:=D.nx} σ2 H2)
def uG (fp:List Addr) (h:Heap):List (Addr×Obj):=fp.filterMap λb=>(h.get? b).map λo=>(b,o)
theorem kB {o:Obj} (hb:b∈fp) (e:h.get? b=some o):(b,o)∈uG fp h:=List.mem_filterMap.mpr ⟨b,hb,by rw[e];rfl⟩
theorem Da {p:Addr×Obj} (z:p∈uG fp h):p.1∈fp/\h.get? p.1=some p.2:=by
 obtain⟨b,hb,e⟩:=List.mem_filterMap.mp z;cases q:h.get? b with
 |none=>rw[q]at e;cases e
 |some o=>
  rw[q]at e;have G:(b,o)=p:=Option.some.inj e;subst G;exact⟨hb,q⟩
theorem Inv.pinned (I:Inv X pins σ H s) (hf:∀b∈fp,Aq X pins H b) (O:∀b∈fp,∃o,s.heap.get? b=some o/\∀v,o.data≠ .cell v):Inv X (pins++uG fp s.heap) σ H s:=
 I.pins_of λp U=>(Q5.mp U).elim (λz=>I.pin p (Qv _ z)) λz=>by
  obtain⟨hb,e⟩:=Da z;obtain⟨Y,Z,f2,_⟩:=hf p.1 hb;obtain⟨o,G,d⟩:=O p.1 hb;rw[e]at G;cases G;exact⟨e,Y,Z,f2,d⟩
theorem Inv.unpinned {pl:List (Addr×Obj)} (I:Inv X (pins++pl) σ H s):Inv X pins σ H s:=I.pins_of λp z=>I.pin p (Qv _ (ZX _ z))
theorem ii {iter:Expr} {wi:TI} {g:TG} (hp:PassesOwn (model X.prog X.w) X.A X.env X.xe) (hc:X.calm=true) (hi:PI X tg iter wi) (hg:PG X tg g) (hb:PSs X body tb)
  (hs:∀x,foldedSetIterable iter X.env x=pure x:=by intro _;rfl):PS X (.For tg iter body [] pos) (tFor wi g tb):=by
 intro pins s σ H D I h;refine wpAny_For (thn (hi pins s σ H _ I h) λv s1 h1=>thn h1 λap s2 h2=>?_) hs;obtain⟨it,fp,tn,J,H2,e,I2,T,st2,f2,W,⟨m0,w0⟩,a2⟩:=h2;subst e;have G:∀{H':Hp},(∀b∈fp,H' b=none)->∀b∈fp,Aq X pins H' b:=λhn b hb=>⟨hn b hb,(f2 b hb).2⟩;refine codeAny_forLoop_any (λn s'=>∃i O H',Inv X pins O H' s'/\tn i s'.heap/\(∀b∈fp,H' b=none)/\W i n O H') ?_ m0 ⟨0,σ,H2,I2,st2,λb hb=>(f2 b hb).1,w0⟩;rintro n s3 ⟨i,U,H3,I3,a3,a4,w3⟩;rcases a2 i n U H3 w3 with⟨a5,qn⟩|⟨go,N,hN,step⟩
 .refine wpAny_passesOwn hp (thn (T.done X rfl rfl rfl hc i pins s3 U H3 X.xe I3 (G a4) a3 a5) λr s4 ⟨hr,I4⟩=>?_);subst hr;exact wpAny_execs_nil ⟨U,H3,I4,qn⟩
 .refine wpAny_passesOwn hp (thn (T.item X rfl rfl rfl hc i pins s3 U H3 X.xe I3 (G a4) a3 go) λr s4 ⟨u,hr,h4⟩=>?_);subst hr;refine wpAny_passesOwn hp (thn h4 λ_ s5 a0=>?_);obtain⟨x,H5,I5,r5,y5,a1,a7⟩:=a0;have ab:=I5.pinned (G a7) (T.obj _ _ a1);refine wpAny_passesOwn hp (thn (hg _ s5 U H5 x u _ ab r5 (step x H5 y5)) λ_ s6 a0=>?_);obtain⟨an,H6,I6,q6⟩:=a0;refine wpAny_passesOwn hp (thn (hb _ s6 an H6 _ I6 q6) λf s7 q7=>?_);have again:∀{z:St} {Y:Hp},Inv X (pins++uG fp s5.heap) z Y s7->N z Y->∃m,m<n/\∃i O H',Inv X pins O H' s7/\tn i s7.heap/\(∀b∈fp,H' b=none)/\W i m O H':=λ{z Y} Z n7=>by
   obtain⟨m',hm,w7⟩:=hN z Y n7;refine⟨m',hm,i+1,z,Y,Z.unpinned,T.keep _ _ _ a1 λb hb o e=>(Z.pin (b,o) (Qv _ (Qv _ (kB hb e)))).1,λb hb=>?_,w7⟩;obtain⟨o,e,d⟩:=T.obj _ _ a1 b hb;exact(Z.pin (b,o) (Qv _ (Qv _ (kB hb e)))).2.1
  cases f with
  |next=>obtain⟨z,Y,Z,n7⟩:=q7;exact again Z n7
  |cont=>obtain⟨z,Y,Z,n7⟩:=q7;exact again Z n7
  |brk=>obtain⟨z,Y,Z,q7⟩:=q7;exact⟨z,Y,Z.unpinned,q7⟩
  |ret v=>obtain⟨x7,z,Y,Z,r7,q7⟩:=q7;exact⟨x7,z,Y,Z.unpinned,r7,q7⟩
end
theorem FB {g:TG} {D:qN} (Pv:Nat->St->Hp->Prop) (O:Pv 0 σ H) (hl:∀i σ H,i<=xs.length->Pv i σ H->SqL K H a xs)
  (hs:∀i x σ H,xs[i]?=some x->Pv i σ H->g x σ H λz H2=>tb {D with nx:=Pv (i+1),ct:=Pv (i+1),bk:=D.nx} z H2) (hd:∀σ H,Pv xs.length σ H->D.nx σ H):
  ∃W:Nat->Nat->St->Hp->Prop,(∃m,W 0 m σ H)/\∀i m σ H,W i m σ H->
   ((Itl K a).stop i H/\D.nx σ H)\/((Itl K a).go i H/\∃N:St->Hp->Prop,(∀G H',N G H'->∃m',m'<m/\W (i+1) m' G H')/\∀x H',(Itl K a).yld i H x H'->g x σ H' λz H2=>tb {D with nx:=N,ct:=N,bk:=D.nx} z H2):=by
 refine⟨λi m σ H=>m=xs.length-i/\i<=xs.length/\Pv i σ H,⟨xs.length,by simp,Qj _,O⟩,?_⟩;rintro i m σ H ⟨rfl,hi,p⟩;have q:=hl i σ H hi p;by_cases I:i<xs.length
 .refine .inr ⟨⟨xs,xs[i],q,by simp[I]⟩,Pv (i+1),λG H' U=>⟨xs.length-(i+1),by lia,rfl,I,U⟩,λx H' y=>?_⟩;obtain⟨e,y⟩:=y;subst e;exact hs i x σ _ (y xs q) p
 .have e:i=xs.length:=by lia
  subst e;exact .inl ⟨⟨xs,q,Q4 _⟩,hd σ H p⟩
theorem rO {g:TG} {D:qN} (Pv:Nat->St->Hp->Prop) (O:Pv 0 σ H)
  (hs:∀i σ H,i<n->Pv i σ H->g (.int (lo+i)) σ H λz H2=>tb {D with nx:=Pv (i+1),ct:=Pv (i+1),bk:=D.nx} z H2) (hd:∀σ H,Pv n σ H->D.nx σ H):
  ∃W:Nat->Nat->St->Hp->Prop,(∃m,W 0 m σ H)/\∀i m σ H,W i m σ H->
   ((Itr lo n).stop i H/\D.nx σ H)\/((Itr lo n).go i H/\∃N:St->Hp->Prop,(∀G H',N G H'->∃m',m'<m/\W (i+1) m' G H')/\∀x H',(Itr lo n).yld i H x H'->g x σ H' λz H2=>tb {D with nx:=N,ct:=N,bk:=D.nx} z H2):=by
 refine⟨λi m σ H=>m=n-i/\i<=n/\Pv i σ H,⟨n,by simp,Qj _,O⟩,?_⟩;rintro i m σ H ⟨rfl,hi,p⟩;by_cases I:i<n
 .refine .inr ⟨I,Pv (i+1),λG H' U=>⟨n-(i+1),by lia,rfl,I,U⟩,λx H' y=>?_⟩;obtain⟨e,y⟩:=y;subst e y;exact hs i σ _ I p
 .have e:i=n:=by lia
  subst e;exact .inl ⟨Q4 _,hd σ H p⟩
end
section
abbrev R2:=V->V->Hp->VK->Prop
def OpR (X:Cx) (f:Value->Value->Sem Value) (r:R2):Prop:=
 ∀(pins:List (Addr×Obj)) (s:Shared) (σ:St) (H:Hp) (x y:V) (v u:Value) (Q:VK),Inv X pins σ H s->RelV x v->RelV y u->r x y H Q->
  wpAny (model X.prog X.w) X.A (f v u) (EP X pins σ Q) X.xe s
def UnR (X:Cx) (f:Value->Sem Value) (r:V->Hp->VK->Prop):Prop:=
 ∀(pins:List (Addr×Obj)) (s:Shared) (σ:St) (H:Hp) (x:V) (v:Value) (Q:VK),Inv X pins σ H s->RelV x v->r x H Q->
  wpAny (model X.prog X.w) X.A (f v) (EP X pins σ Q) X.xe s
def fh (X:Cx) (f:Value) (r:List V->Hp->VK->Prop):Prop:=
 ∀(pins:List (Addr×Obj)) (s:Shared) (σ:St) (H:Hp) (xs:List V) (us:List Value) (Q:VK),Inv X pins σ H s->Vals xs us->r xs H Q->
  wpAny (model X.prog X.w) X.A (call f us) (EP X pins σ Q) X.xe s
def tOp (r:R2) (ta tb:TE):TE:=λσ H Q=>ta σ H λx H1=>tb σ H1 λy H2=>r x y H2 Q
def tUn (r:V->Hp->VK->Prop) (ta:TE):TE:=λσ H Q=>ta σ H λx H1=>r x H1 Q
inductive rI (C:Int->Int->Prop) (g:Int->Int->V) (x y:V) (H:Hp) (Q:VK):Prop
 |mk (i j:_) (_:x= .int i) (_:y= .int j) (_:C i j) (_:Q (g i j) H)
inductive rI0 (g:Int->Int->V) (x y:V) (H:Hp) (Q:VK):Prop
 |mk (i j:_) (_:x= .int i) (_:y= .int j) (_:Q (g i j) H)
inductive rU (g:Int->V) (x:V) (H:Hp) (Q:VK):Prop
 |mk (i:_) (_:x= .int i) (_:Q (g i) H)
section
variable {a b:Expr} {tb tc:TE}
theorem JY (ha:PE X a ta) (hb:PE X b tb) {R:V->V->Hp->Prop} (I:Inv X pins σ H s)
  (h:ta σ H λx H1=>tb σ H1 λy H2=>R x y H2) {f:Value->Value->Sem Value}
  (hf:∀v u G x y H2,Inv X pins σ H2 G->RelV x v->RelV y u->R x y H2->wpAny (model X.prog X.w) X.A (f v u) Q X.xe G):
  wpAny (model X.prog X.w) X.A (eval a X.env) (λv s₁=>wpAny (model X.prog X.w) X.A (eval b X.env) (λu s₂=>wpAny (model X.prog X.w) X.A (f v u) Q X.xe s₂) X.xe s₁) X.xe s:=by
 refine thn (ha pins s σ H _ I h) λv s1 z=>?_;obtain⟨x,H1,O,r1,U⟩:=z;refine thn (hb pins s1 σ H1 _ O U) λu G z=>?_;obtain⟨y,H2,Y,Z,q2⟩:=z;exact hf v u G x y H2 Y r1 Z q2
theorem al {op:Operator} (z:OpR X (binaryOp op) r) (ha:PE X a ta) (hb:PE X b tb):PE X (.BinOp a op b pos) (tOp r ta tb):=by
 intro pins s σ H Q I h;exact wpAny_BinOp (JY ha hb I h λv u G x y H2 O U Y q=>z pins G σ H2 x y v u Q O U Y q)
theorem EK {op:UnaryOp} {r:V->Hp->VK->Prop} (z:UnR X (unaryOp op) r) (ha:PE X a ta):PE X (.UnaryOp op a pos) (tUn r ta):=by
 intro pins s σ H Q I h;exact UnaryOp_ (thn (ha pins s σ H _ I h) λv s1 ⟨x,H1,G,r1,O⟩=>z pins s1 σ H1 x v Q G r1 O)
theorem opI {f:Value->Value->Sem Value} {C:Int->Int->Prop} 
  (rule:∀(i j:Int) (t u:Tok) (s:Shared) (Q:Value->Shared->Prop) (E:Value->Shared->Prop),C i j->Q (.int (g i j) s.toks) {s with toks:=s.toks+1}->wpAny (model X.prog X.w) X.A (f (.int i t) (.int j u)) Q E s):
  OpR X f (rI C λi j=> .int (g i j)):=by
 intro pins s σ H x y v u Q I z G h;obtain⟨i,j,rfl,rfl,hc,q⟩:=h;obtain⟨t,rfl⟩:=z;obtain⟨t',rfl⟩:=G;exact rule i j t t' s _ _ hc ⟨.int (g i j),H,I.tok _,⟨_,rfl⟩,q⟩
theorem opI0 {f:Value->Value->Sem Value} 
  (rule:∀(i j:Int) (t u:Tok) (s:Shared) (Q:Value->Shared->Prop) (E:Value->Shared->Prop),Q (.int (g i j) s.toks) {s with toks:=s.toks+1}->wpAny (model X.prog X.w) X.A (f (.int i t) (.int j u)) Q E s):
  OpR X f (rI0 λi j=> .int (g i j)):=by
 intro pins s σ H x y v u Q I z G h;obtain⟨i,j,rfl,rfl,q⟩:=h;obtain⟨t,rfl⟩:=z;obtain⟨t',rfl⟩:=G;exact rule i j t t' s _ _ ⟨.int (g i j),H,I.tok _,⟨_,rfl⟩,q⟩
theorem Hd {f:Value->Value->Sem Value} {g:Int->Int->Bool}
  (rule:∀(i j:Int) (t u:Tok) (s:Shared) (Q:Value->Shared->Prop) (E:Value->Shared->Prop),Q (.bool (g i j)) s->wpAny (model X.prog X.w) X.A (f (.int i t) (.int j u)) Q E s):
  OpR X f (rI0 λi j=> .bl (g i j)):=by
 intro pins s σ H x y v u Q I z G h;obtain⟨i,j,rfl,rfl,q⟩:=h;obtain⟨t,rfl⟩:=z;obtain⟨t',rfl⟩:=G;exact rule i j t t' s _ _ ⟨.bl (g i j),H,I,rfl,q⟩
def CDiv (i j:Int):Prop:=0<j/\j<1073741824
def CPow (i j:Int):Prop:=0<=j/\j<=1000000/\i.natAbs<2^64
def CMul (i j:Int):Prop:=(-(2^64)<i/\i<2^64)\/(-(2^64)<j/\j<2^64)
theorem CMul.ok {i j:Int} (h:CMul i j):IntMulOk i j:=by
 rcases h with⟨h1,h2⟩|⟨h1,h2⟩
 .exact .of_left (intBits_le_64 h1 h2)
 .exact .of_right (intBits_le_64 h1 h2)
theorem bp:OpR X (binaryOp .Add) (rI0 λi j=> .int (i+j)):=opI0 λ_ _ _ _ _ _ _ q=>add_int q
theorem io:OpR X (binaryOp .Sub) (rI0 λi j=> .int (i-j)):=opI0 λ_ _ _ _ _ _ _ q=>sub_int q
theorem dA:OpR X (binaryOp .Mult) (rI CMul λi j=> .int (i*j)):=opI λ_ _ _ _ _ _ _ hc q=>mul_int q hc.ok
theorem aT:OpR X (binaryOp .FloorDiv) (rI CDiv λi j=> .int (i/j)):=opI λi j _ _ _ _ _ hc q=>by
 have h1:(0:Int)<j:=hc.1;have h2:j<1073741824:=hc.2;exact floordiv_int (by lia) (by rw[V0 i (by lia)];exact q) (.inl (PyProof.noPylong_small (by lia)))
theorem aQ:OpR X (binaryOp .Mod) (rI (λ_ j=>0<j) λi j=> .int (i%j)):=opI λi j _ _ _ _ _ hc q=>by
 have h1:(0:Int)<j:=hc;exact mod_int' (by lia) (by rw[Int.fmod_eq_emod_of_nonneg i (by lia)];exact q)
theorem jn:OpR X (binaryOp .Pow) (rI CPow λi j=> .int (i^j.toNat)):=opI λ_ _ _ _ _ _ _ hc q=>pow_int_small hc.1 hc.2.1 hc.2.2 q
theorem unI {f:Value->Sem Value} {g:Int->Int}
  (rule:∀(i:Int) (t:Tok) (s:Shared) (Q:Value->Shared->Prop) (E:Value->Shared->Prop),Q (.int (g i) s.toks) {s with toks:=s.toks+1}->wpAny (model X.prog X.w) X.A (f (.int i t)) Q E s):
  UnR X f (rU λi=> .int (g i)):=by
 intro pins s σ H x v Q I z h;obtain⟨i,rfl,q⟩:=h;obtain⟨t,rfl⟩:=z;exact rule i t s _ _ ⟨.int (g i),H,I.tok _,⟨_,rfl⟩,q⟩
theorem AN:UnR X (unaryOp .USub) (rU λi=> .int (-i)):=unI λ_ _ _ _ _ q=>neg_int q
end
def scal:V->V->Bool
 | .non,.non=>true| .non,.int _=>true| .int _,.non=>true| .non,.bl _=>true| .bl _,.non=>true| .non,.str _=>true| .str _,.non=>true
 | .int _,.int _=>true| .bl _,.bl _=>true| .str _,.str _=>true| .byt _,.byt _=>true
 | .int _,.str _=>true| .str _,.int _=>true| .bl _,.str _=>true| .str _,.bl _=>true
 |_,_=>false
def rEq:R2:=λx y H Q=>scal x y=true/\Q (.bl (decide (x=y))) H
def rNe:R2:=λx y H Q=>scal x y=true/\Q (.bl (!decide (x=y))) H
theorem Cs {i j:Int}:decide (V.int i=V.int j)=(i==j):=by
 rw[Xi];simp
theorem FN {i j:Bool}:decide (V.bl i=V.bl j)=(i==j):=by
 rw[Xi];simp
theorem Cr {i j:Str}:decide (V.str i=V.str j)=(i==j):=by
 rw[Xi];simp
theorem Ct {i j:Array UInt8}:decide (V.byt i=V.byt j)=(i.toList==j.toList):=by
 rw[Xi];cases i;cases j;simp
section
variable {a b:Expr} {tb tc:TE}
theorem bi {Q:VK} {k k':Bool} (I:Inv X pins σ H s) (q:Q (.bl k) H) (e:k=k'):EP X pins σ Q (.bool k') s:=by
 subst e;exact⟨.bl k,H,I,rfl,q⟩
theorem bN:OpR X (compareOp .Eq) rEq:=by
 intro pins s σ H x y v u Q I G z h;obtain⟨hs,q⟩:=h;cases x with
 |non=>
  cases G;cases y with
  |non=>cases z;exact PySem.EqNone.eq_none_none (bi I q (by simp))
  |bl j=>cases z;exact PySem.EqNone.eq_none_bool (bi I q (by simp))
  |int j=>obtain⟨t',rfl⟩:=z;exact PySem.EqNone.eq_none_int (bi I q (by simp))
  |str j=>obtain⟨t',rfl⟩:=z;exact PySem.EqNone.eq_none_str (bi I q (by simp))
  |_=>exact absurd (show false=true from hs) Qi
 |bl i=>
  cases G;cases y with
  |non=>cases z;exact PySem.EqNone.eq_bool_none (bi I q (by simp))
  |bl j=>cases z;exact eq_bool (bi I q FN)
  |str j=>obtain⟨t',rfl⟩:=z;exact PySem.EqMixed.eq_bool_str (bi I q (by simp))
  |_=>exact absurd (show false=true from hs) Qi
 |int i=>
  obtain⟨t,rfl⟩:=G;cases y with
  |non=>cases z;exact PySem.EqNone.eq_int_none (bi I q (by simp))
  |int j=>obtain⟨t',rfl⟩:=z;exact eq_int (bi I q Cs)
  |str j=>obtain⟨t',rfl⟩:=z;exact PySem.EqMixed.eq_int_str (bi I q (by simp))
  |_=>exact absurd (show false=true from hs) Qi
 |str i=>
  obtain⟨t,rfl⟩:=G;cases y with
  |non=>cases z;exact PySem.EqNone.eq_str_none (bi I q (by simp))
  |bl j=>cases z;exact PySem.EqMixed.eq_str_bool (bi I q (by simp))
  |int j=>obtain⟨t',rfl⟩:=z;exact PySem.EqMixed.eq_str_int (bi I q (by simp))
  |str j=>obtain⟨t',rfl⟩:=z;exact eq_str (bi I q Cr)
  |_=>exact absurd (show false=true from hs) Qi
 |byt i=>
  obtain⟨t,rfl⟩:=G;cases y with
  |byt j=>obtain⟨t',rfl⟩:=z;exact PySem.W.eq_bytes (bi I q Ct)
  |_=>exact absurd (show false=true from hs) Qi
 |_=>cases y<;>exact absurd (show false=true from hs) Qi
theorem xk:OpR X (compareOp .NotEq) rNe:=by
 intro pins s σ H x y v u Q I G z h;obtain⟨hs,q⟩:=h;cases x with
 |non=>
  cases G;cases y with
  |non=>cases z;exact PySem.EqNone.ne_none_none (bi I q (by simp))
  |bl j=>cases z;exact PySem.EqNone.ne_none_bool (bi I q (by simp))
  |int j=>obtain⟨t',rfl⟩:=z;exact PySem.EqNone.ne_none_int (bi I q (by simp))
  |str j=>obtain⟨t',rfl⟩:=z;exact PySem.EqNone.ne_none_str (bi I q (by simp))
  |_=>exact absurd (show false=true from hs) Qi
 |bl i=>
  cases G;cases y with
  |non=>cases z;exact PySem.EqNone.ne_bool_none (bi I q (by simp))
  |bl j=>cases z;exact ne_bool (bi I q (congrArg not FN))
  |str j=>obtain⟨t',rfl⟩:=z;exact PySem.EqMixed.ne_bool_str (bi I q (by simp))
  |_=>exact absurd (show false=true from hs) Qi
 |int i=>
  obtain⟨t,rfl⟩:=G;cases y with
  |non=>cases z;exact PySem.EqNone.ne_int_none (bi I q (by simp))
  |int j=>obtain⟨t',rfl⟩:=z;exact ne_int (bi I q (congrArg not Cs))
  |str j=>obtain⟨t',rfl⟩:=z;exact PySem.EqMixed.ne_int_str (bi I q (by simp))
  |_=>exact absurd (show false=true from hs) Qi
 |str i=>
  obtain⟨t,rfl⟩:=G;cases y with
  |non=>cases z;exact PySem.EqNone.ne_str_none (bi I q (by simp))
  |bl j=>cases z;exact PySem.EqMixed.ne_str_bool (bi I q (by simp))
  |int j=>obtain⟨t',rfl⟩:=z;exact PySem.EqMixed.ne_str_int (bi I q (by simp))
  |str j=>obtain⟨t',rfl⟩:=z;exact ne_str (bi I q (congrArg not Cr))
  |_=>exact absurd (show false=true from hs) Qi
 |byt i=>
  obtain⟨t,rfl⟩:=G;cases y with
  |byt j=>obtain⟨t',rfl⟩:=z;exact PySem.W.ne_bytes (bi I q (congrArg not Ct))
  |_=>exact absurd (show false=true from hs) Qi
 |_=>cases y<;>exact absurd (show false=true from hs) Qi
theorem dZ:OpR X (compareOp .Lt) (rI0 λi j=> .bl (decide (i<j))):=Hd λ_ _ _ _ _ _ _ q=>lt_int q
theorem lZ:OpR X (compareOp .LtE) (rI0 λi j=> .bl (decide (i<=j))):=Hd λ_ _ _ _ _ _ _ q=>le_int q
theorem zH:OpR X (compareOp .Gt) (rI0 λi j=> .bl (decide (j<i))):=Hd λ_ _ _ _ _ _ _ q=>gt_int q
theorem xn:OpR X (compareOp .GtE) (rI0 λi j=> .bl (decide (j<=i))):=Hd λ_ _ _ _ _ _ _ q=>ge_int q
theorem cU:OpR X (compareOp .Is) (λx y H Q=>y= .non/\Q (.bl (decide (x= .non))) H):=by
 intro pins s σ H x y v u Q I z G h;obtain⟨rfl,q⟩:=h;cases G;refine is_none_gen (bi I q ?_);cases x<;>first
  |(cases z;rfl)
  |(obtain⟨t,rfl⟩:=z;rfl)
theorem p5:OpR X (compareOp .IsNot) (λx y H Q=>y= .non/\Q (.bl (!decide (x= .non))) H):=by
 intro pins s σ H x y v u Q I z G h;obtain⟨rfl,q⟩:=h;cases G;refine isnot_none_gen (bi I q ?_);cases x<;>first
  |(cases z;rfl)
  |(obtain⟨t,rfl⟩:=z;rfl)
theorem aq (b:Expr) (h:op≠ .In:=by decide) (h2:op≠ .NotIn:=by decide):behindInMarks op b=false:=by
 have z:(op==CmpOp.In)=false:=by cases op<;>first|rfl|exact absurd rfl h
 have e2:(op==CmpOp.NotIn)=false:=by cases op<;>first|rfl|exact absurd rfl h2
 cases b<;>simp[behindInMarks,z,e2]
theorem bI (z:OpR X (compareOp op) r) (ha:PE X a ta) (hb:PE X b tb) (G:behindInMarks op b=false):PE X (.Compare a [op] [b] pos) (tOp r ta tb):=by
 intro pins s σ H Q I h;exact wpAny_Compare1 (JY ha hb I h λv u O x y H2 U Y Z q=>z pins O σ H2 x y v u Q U Y Z q) G
inductive IZ (Q:Bool->Hp->Prop) (x:V) (H':Hp):Prop
 |mk (k:_) (_:x= .bl k) (_:Q k H')
def Ih (t:TE):TT:=λσ H Q=>t σ H λx H'=>IZ Q x H'
theorem ao (G:OpR X (compareOp op) r) (ha:PE X a ta) (hb:PE X b tb) (O:behindInMarks op b=false):PT X (.Compare a [op] [b] pos) (Ih (tOp r ta tb)):=by
 intro pins s σ H Q I h;refine wpAny_isTrue_Compare1 (thn (ha pins s σ H _ I h) λv s1 ⟨x,H1,U,r1,Y⟩=>thn (hb pins s1 σ H1 _ U Y) λu Z ⟨y,H2,I2,r2,q2⟩=>
  thn (G pins Z σ H2 x y v u _ I2 r1 r2 q2) λc s3 ⟨z,H3,I3,r3,k,e,q3⟩=>?_) O
 subst e;cases r3;exact wpAny_truthy_bool ⟨H3,I3,q3⟩
def Et (r r':R2) (ta tb tc:TE):TE:=λσ H Q=>ta σ H λx H1=>tb σ H1 λy H2=>r x y H2 λz H3=>∃k,z= .bl k/\
 (if k=true then tc σ H3 λw' H4=>r' y w' H4 Q else Q (.bl false) H3)
theorem EM {G:CmpOp} {r':R2} (ho:OpR X (compareOp op) r) (O:OpR X (compareOp G) r') (ha:PE X a ta) (hb:PE X b tb) (hc:PE X c tc)
  (hm:lastMarks [op,G] [b,c]=false:=by with_unfolding_all rfl):PE X (.Compare a [op,G] [b,c] pos) (Et r r' ta tb tc):=by
 intro pins s σ H Q I h;refine Compare_chain (thn (ha pins s σ H _ I h) λv s1 ⟨x,H1,I1,r1,q1⟩=>chain_link (thn (hb pins s1 σ H1 _ I1 q1) λu s2 ⟨y,H2,I2,U,q2⟩=>
  thn (ho pins s2 σ H2 x y v u _ I2 r1 U q2) λd s3 ⟨z,H3,Y,r3,k,e,Z⟩=>?_)) hm
 subst e;cases r3;refine wpAny_truthy_bool ?_;cases k with
 |false=>exact ite_ff ⟨.bl false,H3,Y,rfl,Z⟩
 |true=>exact ite_tt (chain_last (thn (hc pins s3 σ H3 _ Y Z) λw' s4 ⟨z',H4,I4,r4,q4⟩=>O pins s4 σ H4 y z' u w' Q I4 U r4 q4))
theorem EG {G:CmpOp} {r':R2} (ho:OpR X (compareOp op) r) (O:OpR X (compareOp G) r') (ha:PE X a ta) (hb:PE X b tb) (hc:PE X c tc)
  (hm:lastMarks [op,G] [b,c]=false:=by with_unfolding_all rfl):PT X (.Compare a [op,G] [b,c] pos) (Ih (Et r r' ta tb tc)):=by
 intro pins s σ H Q I h;refine isTrue_chain (thn (ha pins s σ H _ I h) λv s1 ⟨x,H1,I1,r1,q1⟩=>test_link (thn (hb pins s1 σ H1 _ I1 q1) λu s2 ⟨y,H2,I2,Y,q2⟩=>
  thn (ho pins s2 σ H2 x y v u _ I2 r1 Y q2) λd s3 ⟨z,H3,Z,r3,k,e,q3⟩=>?_)) hm
 subst e;cases r3;refine wpAny_truthy_bool ?_;cases k with
 |false=>
  obtain⟨k',e',q'⟩:=q3;cases e';exact ite_ff ⟨H3,Z,q'⟩
 |true=>
  refine ite_tt (test_last (thn (hc pins s3 σ H3 _ Z q3) λw' s4 ⟨z',H4,I4,r4,q4⟩=>thn (O pins s4 σ H4 y z' u w' _ I4 Y r4 q4) λd' s5 U=>?_));obtain⟨z2,H5,I5,r5,k2,e2,q5⟩:=U;subst e2;cases r5;exact wpAny_truthy_bool ⟨H5,I5,q5⟩
theorem u9:(sizeLine:Nat)<2^63:=by rw[sizeLine_eq];decide
theorem jI {x:V} (r:Vals [x] us):∃u,us=[u]/\RelV x u:=by
 cases r with
 |cons r1 z=>cases z;exact⟨_,rfl,r1⟩
theorem tW {x:V} (r:Vals [x,y] us):∃u w',us=[u,w']/\RelV x u/\RelV y w':=by
 cases r with
 |cons r1 z=>
  cases z with
  |cons G I=>cases I;exact⟨_,_,rfl,r1,G⟩
theorem nN (hc:X.calm=true):fh X (.builtin "max") (λxs H Q=>∃i j,xs=[.int i,.int j]/\Q (.int (if j>i then j else i)) H):=by
 intro pins s σ H xs us Q I r h;obtain⟨i,j,rfl,q⟩:=h;obtain⟨u,w',rfl,⟨t,rfl⟩,⟨t',rfl⟩⟩:=tW r;refine max_two_ints (I.ok.hd hc) λh' G k=>⟨_,H,I.kept k,?_,q⟩;by_cases z:j>i
 .rw[if_pos z,if_pos z];exact⟨_,rfl⟩
 .rw[if_neg z,if_neg z];exact⟨_,rfl⟩
theorem nM (hc:X.calm=true):fh X (.builtin "min") (λxs H Q=>∃i j,xs=[.int i,.int j]/\Q (.int (if j<i then j else i)) H):=by
 intro pins s σ H xs us Q I r h;obtain⟨i,j,rfl,q⟩:=h;obtain⟨u,w',rfl,⟨t,rfl⟩,⟨t',rfl⟩⟩:=tW r;refine min_two_ints (I.ok.hd hc) λh' G k=>⟨_,H,I.kept k,?_,q⟩;by_cases z:j<i
 .rw[if_pos z,if_pos z];exact⟨_,rfl⟩
 .rw[if_neg z,if_neg z];exact⟨_,rfl⟩
theorem yO:fh X (.type "str") (λxs H Q=>∃i,xs=[.int i]/\i.natAbs.log2<1920/\Q (.str (toString i)) H):=by
 intro pins s σ H xs us Q I r h;obtain⟨i,rfl,hz,q⟩:=h;obtain⟨u,rfl,t,rfl⟩:=jI r;exact PySem.P.str_of_int hz ⟨.str _,H,I.tok _,⟨_,rfl⟩,q⟩
end
end
section
structure ObjM (h:Heap) (x dx C:Addr) (mA:Str->Option Value):Prop where
 obj:h.get? x=some (PySem.W.instObj C dx)
 ns:h.Ns1 dx mA
 ne:dx≠x
theorem Dn {mA:Str->Option Value} (n:h.Ns1 dx mA):∃I,h.get? dx=some I/\∀name,PySem.W.lookIn name I=some (mA name):=by
 obtain⟨o,es,ep,O,hd,hk,_,U⟩:=n;refine⟨o,O,λname=>?_⟩;have e:=U name;unfold nsFind findBy at e;rw[<-Array.find?_toList]at e;unfold PySem.W.lookIn;rw[hd];dsimp only;split
 .rename_i y q
  rw[q]at e;exact congrArg some e
 .rename_i q
  rw[q]at e;have a:es.toList.any (·.refKey)=false:=by
   rw[List.any_eq_false];intro y hy;obtain⟨z,t,G⟩:=hk y (Array.mem_toList_iff.mp hy);simp[DictEntry.refKey,G]
  have a':¬es.toList.any (·.refKey)=true:=by rw[a];exact Qi
  rw[if_neg a'];exact congrArg some e
theorem ObjM.look {x:Addr} {mA:Str->Option Value} (I:ObjM h x dx C mA):∃z,PySem.W.InstAt h x (PySem.W.instObj C dx) C (some z)/\∀name,PySem.W.lookIn name z=some (mA name):=
 let⟨z,ho,hl⟩:=Dn I.ns
 ⟨z,⟨I.obj,rfl,rfl,ho⟩,hl⟩
section
variable {x:Addr} {mA:Str->Option Value} {v:Value}
theorem HA {z:Bool} (X:K.In s.heap) (I:ObjM s.heap x dx C mA) (O:PySem.W.plainGet K C name=true) (U:PySem.W.hasDictIn K C=true)
  (ha:PySem.W.findIn K (.ref C) name=some none) (hv:mA name=some v) (G:PySem.W.handedIn v=true) (h:Q v {s with toks:=s.toks+1}):
  wpAny (model prog w) A (getAttr (.ref x) name z) Q E s:=by
 obtain⟨Y,J,hl⟩:=I.look;exact PySem.W.get_value X J (Xs O).1 (PySem.W.findObj_own U ha rfl (by rw[hl,hv])) G h
theorem Fw {pl:Sem Bool} {Q:Value×List Value->Shared->Prop} (X:K.In s.heap) (I:ObjM s.heap x dx C mA) (z:PySem.W.plainGet K C name=true)
  (hf:PySem.W.findIn K (.ref C) name=some (some (.ref f))) (G:PySem.W.isFn K (.ref f)=true) (hv:mA name=none) (h:Q (.ref f,[.ref x]) s):
  wpAny (model prog w) A (getMethod (.ref x) name pl) Q E s:=by
 obtain⟨O,J,hl⟩:=I.look;exact PySem.W.method_fn X J (Xs z).1 (Xs z).2 hf (beq_iff_eq.mp G) (by show(PySem.W.lookIn name O).map (·.isSome)=some false;rw[hl,hv];rfl) h
theorem GW {ns:List Str} {Q:Unit->Shared->Prop} (X:K.In s.heap) (I:ObjM s.heap x dx C mA)
  (hs:PySem.W.findIn K (.ref C) "__setattr__"=some (some (.builtin "object.__setattr__"))) (hp:PySem.W.plainOver K C=true) (ht:PySem.W.takerIn K C name=some none) (hh:PySem.W.hasDictIn K C=true)
  (hw:PySem.Within mA ns) (hsz:ns.length<=sizeLine)
  (h:∀h',ObjM h' x dx C (λy=>if y=name then some v else mA y)->Heap.SameBut dx s.heap h'->Q () {s with heap:=h',toks:=s.toks+2}):
  wpAny (model prog w) A (setAttr (.ref x) name v) Q E s:=by
 obtain⟨od,J,hl⟩:=I.look;refine PySem.W.set_plain X J hs (PySem.W.osa_open (s:={s with toks:=s.toks+1}) (r:=none) X J hp ht λb=>?_);obtain⟨cd,hc,O⟩:=PySem.W.any_some hh;have hx:s.heap.get? x=some ⟨.ref C,some dx,.plain, #[]⟩:=I.obj;refine wpAny_bind (wpAny_pure (wpAny_bind (wpAny_bind (wpAny_loadPart hx (wpAny_bind (PySem.W.Looks.here (s:={s with toks:=s.toks+1}) (PySem.W.looks_clsIn X hc) ?_))))));rw[O];refine wpAny_pure (a:=some dx) (wpAny_bind (wpAny_pure (wpAny_bind ?_)));refine wpAny_nsSet1 (s:={s with toks:=s.toks+1}) I.ns λh' z G=>?_;obtain⟨oD,a0,a1,U,Y,Z⟩:=z.count (PySem.Within.cons name v hw);refine wpAny_bind (wpAny_lookBehind U (by rw[Y];exact pastItsLine_dict (QD Z (by rw[Qp];lia))) ?_);exact wpAny_pure (h _ ⟨(G.2 _ (Ne.symm I.ne)).trans I.obj,z,I.ne⟩ G)
theorem E7 {vs:List Value} (X:K.In s.heap) (z:PySem.W.makesIn K C=true)
  (hi:PySem.W.findIn K (.ref C) "__init__"=some (some (.ref f))) (hf:PySem.W.typeIn K (.ref f)=some (.type "function"))
  (h:codeAny (model prog w) (A.under (.builtin "type.__call__" ⟨.ref C::vs,kw⟩)) (.call (.ref f) ⟨.ref (s.heap.objs.size+1)::vs,kw⟩) (PySem.W.InitBack (s.heap.objs.size+1) R)
   {s with heap:=(s.heap.push PySem.W.emptyDict).push (PySem.W.instObj C s.heap.objs.size)}):
  codeAny (model prog w) A (.call (.ref C) ⟨vs,kw⟩) R s:=by
 obtain⟨G,g,d,t,os⟩:=s;exact PySem.W.make_core (PySem.W.makes_of X z) (PySem.W.looks_findIn X hi) (λself=>PySem.W.bind_fn X self hf) (.inl rfl) h
end
def a9 (f:Str) (v:V):List (Str×V)->List (Str×V)
 | []=> [(f,v)]
 |(g,x)::r=>if g=f then(g,v)::r else(g,x)::a9 f v r
theorem bj (f g:Str) (v:V):∀fs:List (Str×V),(a9 f v fs).lookup g=if g=f then some v else fs.lookup g
 | []=>by
  show List.lookup g [(f,v)]=_;by_cases h:g=f
  .have hb:(g==f)=true:=beq_iff_eq.mpr h;simp only[List.lookup,hb,if_pos h]
  .have hb:(g==f)=false:=beq_eq_false_iff_ne.mpr h;simp only[List.lookup,hb,if_neg h]
 |(k,x)::r=>by
  have z:=bj f g v r;rw[show a9 f v ((k,x)::r)=(if k=f then(k,v)::r else(k,x)::a9 f v r) from rfl];by_cases hk:k=f
  .rw[if_pos hk];by_cases h:g=k
   .have hb:(g==k)=true:=beq_iff_eq.mpr h;simp only[List.lookup,hb,if_pos (h.trans hk)]
   .have hb:(g==k)=false:=beq_eq_false_iff_ne.mpr h;simp only[List.lookup,hb,if_neg (λe:g=f=>h (e.trans hk.symm))]
  .rw[if_neg hk];by_cases h:g=k
   .have hb:(g==k)=true:=beq_iff_eq.mpr h;simp only[List.lookup,hb,if_neg (λe:g=f=>hk (h.symm.trans e))]
   .have hb:(g==k)=false:=beq_eq_false_iff_ne.mpr h;simp only[List.lookup,hb];exact z
theorem rN (f:Str) (v:V):∀fs:List (Str×V),f∈(a9 f v fs).map (·.1)/\∀g,g∈fs.map (·.1)->g∈(a9 f v fs).map (·.1)
 | []=>⟨by simp[a9],λg h=>by simp at h⟩
 |(k,x)::r=>by
  obtain⟨z,G⟩:=rN f v r;rw[show a9 f v ((k,x)::r)=(if k=f then(k,v)::r else(k,x)::a9 f v r) from rfl];by_cases hk:k=f
  .rw[if_pos hk];subst hk;exact⟨by simp,λg h=>by simpa using h⟩
  .rw[if_neg hk];refine⟨?_,λg h=>?_⟩
   .rw[Qs];exact Qd _ z
   .rw[Qs]at h⊢;rcases Qg.mp h with e|e
    .exact Qg.mpr (.inl e)
    .exact Qd _ (G g e)
theorem sr (f:Str) (v:V):∀fs:List (Str×V),(a9 f v fs).length<=fs.length+1
 | []=>by simp[a9]
 |(k,x)::r=>by
  have z:=sr f v r;rw[show a9 f v ((k,x)::r)=(if k=f then(k,v)::r else(k,x)::a9 f v r) from rfl];by_cases hk:k=f
  .rw[if_pos hk,Qp,Qp];lia
  .rw[if_neg hk,Qp,Qp];lia
theorem RelO.some_of (r:RelO (some v) o):∃u,o=some u/\RelV v u:=by
 cases o with
 |none=>exact(show False from r).elim
 |some u=>exact⟨u,rfl,r⟩
theorem RelO.none_of (r:RelO none o):o=none:=by
 cases o with
 |none=>rfl
 |some u=>exact(show False from r).elim
theorem Dw (r:RelV v u):PySem.W.handedIn u=true:=by
 cases v with
 |non=>cases (show u=Value.none from r);rfl
 |bl b=>cases (show u=Value.bool b from r);rfl
 |int i=>obtain⟨t,e⟩:=(show ∃t,u=Value.int i t from r);cases e;rfl
 |str x=>obtain⟨t,e⟩:=(show ∃t,u=Value.str x t from r);cases e;rfl
 |byt b=>obtain⟨t,e⟩:=(show ∃t,u=Value.bytes b t from r);cases e;rfl
 |flt b=>obtain⟨t,e⟩:=(show ∃t,u=Value.float b t from r);cases e;rfl
 |ref a=>cases (show u=Value.ref a from r);rfl
 |ty n=>cases (show u=Value.type n from r);rfl
section
variable {fs fs':List (Str×V)}
theorem ins_get (hok:HOk P w H h) (e:H a=some (.ins C dx fs)):∃mA,ObjM h a dx C mA/\(∀f,RelO (fs.lookup f) (mA f))/\PySem.Within mA (fs.map (·.1))/\fs.length<=1000/\H dx=some (.own a):=by
 obtain⟨d,z,G,ob,mA,n,r,q⟩:=(show ObjOk P w H h a (.ins C dx fs) from hok a _ e);exact⟨mA,⟨ob,n,G⟩,r,q,z,d⟩
end
structure Cls (K:PySem.W.Frag) (C:Addr):Prop where
 pg:PySem.W.plainGet K C Str.empty=true
 hd:PySem.W.hasDictIn K C=true
 po:PySem.W.plainOver K C=true
 sa:PySem.W.findIn K (.ref C) "__setattr__"=some (some (.builtin "object.__setattr__"))
theorem Cls.get (c:Cls K C) (f:Str):PySem.W.plainGet K C f=true:=c.pg
def NoAttr (K:PySem.W.Frag) (C:Addr) (f:Str):Prop:=PySem.W.findIn K (.ref C) f=some none
theorem NoAttr.taker {f:Str} (n:NoAttr K C f):PySem.W.takerIn K C f=some none:=by
 unfold PySem.W.takerIn;rw[show PySem.W.findIn K (.ref C) f=some none from n];rfl
structure bL (K:PySem.W.Frag) (C:Addr) (m:Str) (f:Addr):Prop where
 at_:PySem.W.findIn K (.ref C) m=some (some (.ref f))
 fn:PySem.W.isFn K (.ref f)=true
 kp:PySem.W.keepIn K (.ref f)=true
section
variable {fs:List (Str×V)} {f:Str}
theorem vg {b:Bool} (I:Inv X pins σ H s) (e:H a=some (.ins C dx fs)) (c:Cls X.K C) (n:NoAttr X.K C f) (l:fs.lookup f=some v)
  (h:∀u s',Inv X pins σ H s'->RelV v u->Q u s'):wpAny (model X.prog X.w) A (getAttr (.ref a) f b) Q E s:=by
 obtain⟨mA,O,r,_,_,_⟩:=ins_get I.hok e;obtain⟨u,hu,z⟩:=RelO.some_of (v:=v) (o:=mA f) (by rw[<-l];exact r f);exact HA I.kIn O (c.get f) c.hd n hu (Dw z) (h u _ (I.tok _) z)
theorem kD {g:Addr} {pl:Sem Bool} {Q:Value×List Value->Shared->Prop} (I:Inv X pins σ H s) (e:H a=some (.ins C dx fs)) (c:Cls X.K C) (k:bL X.K C m g) (l:fs.lookup m=none)
  (h:Q (.ref g,[.ref a]) s):wpAny (model X.prog X.w) A (getMethod (.ref a) m pl) Q E s:=by
 obtain⟨mA,O,r,_,_,_⟩:=ins_get I.hok e;have z:mA m=none:=RelO.none_of (by rw[<-l];exact r m);exact Fw I.kIn O (c.get m) k.at_ k.fn z h
theorem ut {Q:Unit->Shared->Prop} (I:Inv X pins σ H s) (e:H a=some (.ins C dx fs)) (c:Cls X.K C) (n:NoAttr X.K C f) (hl:fs.length<1000) (Y:RelV y u)
  (h:∀s',Inv X pins σ (upd H a (.ins C dx (a9 f y fs))) s'->Q () s'):wpAny (model X.prog X.w) A (setAttr (.ref a) f u) Q E s:=by
 obtain⟨mA,O,r,wi,_,U⟩:=ins_get I.hok e;have hz:(fs.map (·.1)).length<=sizeLine:=by rw[Q0,sizeLine_eq];lia
 refine GW I.kIn O c.sa c.po n.taker c.hd wi hz λh' G Z=>h _ ?_;have hd:∃o,h'.get? dx=some o:=let⟨o,_,_,e',_⟩:=G.ns;⟨o,e'⟩
 refine I.write (x:=a) (e:=dx) (by rw[e];exact True.intro) (.inr U) (λb q hb z=>(Z.2 b hb).trans z) hd ?_;refine⟨by rw[ae O.ne];exact U,?_,O.ne,G.obj,_,G.ns,λg=>?_,λg hg=>?_⟩
 .have:=sr f y fs;lia
 .show RelO ((a9 f y fs).lookup g) (if g=f then some u else mA g);rw[bj];by_cases q:g=f
  .rw[if_pos q,if_pos q];exact Y
  .rw[if_neg q,if_neg q];exact r g
 .by_cases q:g=f
  .rw[q];exact(rN f y fs).1
  .refine(rN f y fs).2 g (wi g λz=>hg ?_);show(if g=f then some u else mA g)=none;rw[if_neg q];exact z
theorem Inv.made (I:Inv X pins σ H s):Inv X pins σ (upd (upd H s.heap.objs.size (.own (s.heap.objs.size+1))) (s.heap.objs.size+1) (.ins C s.heap.objs.size []))
  {s with heap:=(s.heap.push PySem.W.emptyDict).push (PySem.W.instObj C s.heap.objs.size)}:=by
 have z:(s.heap.push PySem.W.emptyDict).get? s.heap.objs.size=some PySem.W.emptyDict:=Heap.get?_push_size s.heap rfl;have e2:((s.heap.push PySem.W.emptyDict).push (PySem.W.instObj C s.heap.objs.size)).get? (s.heap.objs.size+1)=some (PySem.W.instObj C s.heap.objs.size):=by
  have:=Heap.get?_push_size (s.heap.push PySem.W.emptyDict) (o:=PySem.W.instObj C s.heap.objs.size) rfl;rwa [Heap.size_push]at this
 have O:(s.heap.push PySem.W.emptyDict).Ns s.heap.objs.size (λ_=>none):=⟨PySem.W.emptyDict, #[],_,z,rfl,(λe he=>absurd he (by simp)),λ_=>rfl⟩;have U:=I.laid (a:=s.heap.objs.size) (o:= .own (s.heap.objs.size+1)) (h':=s.heap.push PySem.W.emptyDict) (t':=s.toks) (λb u q=>Heap.get?_push_of_some _ q) (Q4 _) ⟨_,z⟩;refine U.laid (a:=s.heap.objs.size+1) (o:= .ins C s.heap.objs.size []) (t':=s.toks) (λb u q=>Heap.get?_push_of_some _ q) (Zq (Heap.size_push _ _)) ?_;have G:s.heap.objs.size≠s.heap.objs.size+1:=QC (Zw _);refine⟨by rw[ae G,ac],Qj _,G,e2,λ_=>none,(Heap.Ns1.of_empty O).at λo q=>Heap.get?_push_of_some _ q,λ_=>True.intro,λy hy=>absurd rfl hy⟩
theorem HS {env:Env} {f:Str} (hb:attributeBase e f env (eval e env)=eval e env)
  (h:wpAny (model prog w) A (eval e env) (λo s₁=>wpAny (model prog w) A (getAttr o f true) Q E s₁) E s):wpAny (model prog w) A (eval (.Attribute e f pos) env) Q E s:=
 Attribute_any_ h (by rw[arm_eval_Attribute,hb])
end
inductive Ks (K:PySem.W.Frag) (f:Str) (Q:VK) (x:V) (H1:Hp):Prop
 |mk (a C dx fs v:_) (_:x= .ref a) (_:H1 a=some (.ins C dx fs)) (_:Cls K C) (_:NoAttr K C f) (_:fs.lookup f=some v) (_:Q v H1)
def tFld (K:PySem.W.Frag) (ta:TE) (f:Str):TE:=λσ H Q=>ta σ H λx H1=>Ks K f Q x H1
inductive KA (K:PySem.W.Frag) (f:Str) (D:qN) (σ:St) (y x:V) (H2:Hp):Prop
 |mk (a C dx fs:_) (_:x= .ref a) (_:H2 a=some (.ins C dx fs)) (_:Cls K C) (_:NoAttr K C f) (_:fs.length<1000) (_:D.nx σ (upd H2 a (.ins C dx (a9 f y fs))))
def sFld (K:PySem.W.Frag) (ta tv:TE) (f:Str):TS:=λD σ H=>tv σ H λy H1=>ta σ H1 λx H2=>KA K f D σ y x H2
def Kd (X:Cx) (op:Operator) (rd:V->V->Hp->VK->Prop):Prop:=
 ∀(pins:List (Addr×Obj)) (s:Shared) (σ:St) (H:Hp) (x y:V) (u v:Value) (Q:VK),Inv X pins σ H s->RelV x u->RelV y v->rd x y H Q->wpAny (model X.prog X.w) X.A (inplaceOp op u v) (EP X pins σ Q) X.xe s
inductive Ez (K:PySem.W.Frag) (tv:TE) (rd:V->V->Hp->VK->Prop) (f:Str) (D:qN) (σ:St) (x:V) (H1:Hp):Prop
 |mk (a C dx fs v:_) (_:x= .ref a) (_:H1 a=some (.ins C dx fs)) (_:Cls K C) (_:NoAttr K C f) (_:fs.lookup f=some v) (_:tv σ H1 λy H2=>rd v y H2 λz H3=>∃dx' fs',H3 a=some (.ins C dx' fs')/\fs'.length<1000/\D.nx σ (upd H3 a (.ins C dx' (a9 f z fs'))))
def GX (K:PySem.W.Frag) (ta tv:TE) (rd:V->V->Hp->VK->Prop) (f:Str):TS:=λD σ H=>ta σ H λx H1=>Ez K tv rd f D σ x H1
section
variable {o value:Expr} {f:Str} {tpos:Pos} {tv:TE}
theorem ar (he:PE X e ta) (hb:attributeBase e f X.env (eval e X.env)=eval e X.env):PE X (.Attribute e f pos) (tFld X.K ta f):=by
 intro pins s σ H Q I h;refine HS hb (thn (he pins s σ H _ I h) λu s1 z=>?_);obtain⟨x,H1,G,O,a,C,dx,fs,v,ex,U,c,n,l,q⟩:=z;subst ex;obtain rfl:u=Value.ref a:=O;exact vg G U c n l λu' s2 Y Z=>⟨v,H1,Y,Z,q⟩
theorem bc (ha:PE X o ta) (hv:PE X value tv) (hs:swapsWith value (some (.Attribute o f pos')) pos.line X.env=pure false):PS X (.Assign [.Attribute o f pos'] value pos) (sFld X.K ta tv f):=by
 intro pins s σ H D I h;refine plainObj_wpAny_Assign_Attribute (thn (hv pins s σ H _ I h) λu s1 ⟨y,H1,G,O,q⟩=>thn (ha pins s1 σ H1 _ G q) λU s2 z=>?_) hs;obtain⟨x,H2,Y,Z,a,C,dx,fs,ex,ea,c,n,l,q2⟩:=z;subst ex;obtain rfl:U=Value.ref a:=Z;exact ut Y ea c n l O λs3 I3=>⟨σ,_,I3,q2⟩
theorem gR {op:Operator} (ha:PE X o ta) (hv:PE X value tv) (O:Kd X op rd):PS X (.AugAssign (.Attribute o f tpos) op value pos) (GX X.K ta tv rd f):=by
 intro pins s σ H D I h;refine wpAny_AugAssign_AttributeAny (thn (ha pins s σ H _ I h) λY s1 G=>?_);obtain⟨x,H1,Z,rx,a,C,dx,fs,v,ex,ea,c,n,l,q⟩:=G;subst ex;obtain rfl:Y=Value.ref a:=rx;refine vg Z ea c n l λu s2 I2 ru=>thn (hv pins s2 σ H1 _ I2 q) λw3 s3 ⟨y,H2,I3,ry,q3⟩=>thn (O pins s3 σ H2 v y u w3 _ I3 ru ry q3) λw4 s4 G=>?_;obtain⟨z,H3,I4,rz,a0,fs',U,l',q4⟩:=G;exact ut I4 U c n l' rz λs5 I5=>⟨σ,_,I5,q4⟩
inductive rAdd (x y:V) (H:Hp) (Q:VK):Prop
 |mk (i j:_) (_:x= .int i) (_:y= .int j) (_:Q (.int (i+j)) H)
inductive rSub (x y:V) (H:Hp) (Q:VK):Prop
 |mk (i j:_) (_:x= .int i) (_:y= .int j) (_:Q (.int (i-j)) H)
theorem ve:Kd X .Add rAdd:=by
 rintro pins s σ H x y u v Q I z G ⟨i,j,rfl,rfl,q⟩;obtain⟨t,rfl⟩:=(show ∃t,u=Value.int i t from z);obtain⟨t',rfl⟩:=(show ∃t',v=Value.int j t' from G);exact PyProof.Rows.iadd_int ⟨.int (i+j),H,I.tok _,⟨_,rfl⟩,q⟩
theorem JL:Kd X .Sub rSub:=by
 rintro pins s σ H x y u v Q I z G ⟨i,j,rfl,rfl,q⟩;obtain⟨t,rfl⟩:=(show ∃t,u=Value.int i t from z);obtain⟨t',rfl⟩:=(show ∃t',v=Value.int j t' from G);exact PyProof.Rows.isub_int ⟨.int (i-j),H,I.tok _,⟨_,rfl⟩,q⟩
end
section
variable {c:Value} {b:Bool}
inductive TyOf (K:PySem.W.Frag) (H:Hp):V->Value->Prop where
 |non:TyOf K H .non (.type "NoneType")
 |bl (x:Bool):TyOf K H (.bl x) (.type "bool")
 |int (i:Int):TyOf K H (.int i) (.type "int")
 |str (x:Str):TyOf K H (.str x) (.type "str")
 |flt (x:UInt64):TyOf K H (.flt x) (.type "float")
 |lst {a:Addr} {xs:List V} (e:H a=some (.lst xs)):TyOf K H (.ref a) (.type "list")
 |frz {a:Addr} {o:Obj} {xs:List V} (e:H a=some (.frz o (.lst xs))):TyOf K H (.ref a) (.type "list")
 |tup {a:Addr} {xs:List V} (e:H a=some (.tup xs)):TyOf K H (.ref a) (.type "tuple")
 |dK {a:Addr} {kvs:List (Key×V)} (e:H a=some (.dK kvs)):TyOf K H (.ref a) (.type "dict")
 |dT {a:Addr} {kvs:List (List Key×V)} (e:H a=some (.dT kvs)):TyOf K H (.ref a) (.type "dict")
 |ins {a C dx:Addr} {fs:List (Str×V)} (e:H a=some (.ins C dx fs)) (cl:Cls K C) (ha:PySem.W.findIn K (.ref C) "__class__"=some (some (.builtin "object.__class__")))
   (hn:PySem.W.specialIn K (.builtin "object.__class__") "__get__"=some (some (.builtin "getset_descriptor.__get__"))) (htk:PySem.W.takesIn K (.builtin "object.__class__")=some true)
   (hm:PySem.W.mroIn K C (.type "object")=some true):TyOf K H (.ref a) (.ref C)
theorem xz {x:V} {t:Value} (I:Inv X pins σ H s) (G:RelV x u) (ty:TyOf X.K H x t) (e:PySem.W.kitOne X.K t c=some b) (h:∀Z,Q (.bool b) {s with toks:=Z}):
  wpAny (model X.prog X.w) A (call (.builtin "isinstance") [u,c]) Q E s:=by
 cases ty with
 |non=>cases (show u=Value.none from G);exact QX PySem.W.kitx_none I.kIn True.intro e (λz=>nomatch z) h
 |bl y=>cases (show u=Value.bool y from G);exact QX PySem.W.kitx_bool I.kIn True.intro e (λz=>nomatch z) h
 |int i=>obtain⟨t,q⟩:=(show ∃t,u=Value.int i t from G);cases q;exact QX PySem.W.kitx_int I.kIn True.intro e (λz=>nomatch z) h
 |str y=>obtain⟨t,q⟩:=(show ∃t,u=Value.str y t from G);cases q;exact QX PySem.W.kitx_str I.kIn True.intro e (λz=>nomatch z) h
 |flt y=>obtain⟨t,q⟩:=(show ∃t,u=Value.float y t from G);cases q;exact QX PySem.W.kitx_float I.kIn True.intro e (λz=>nomatch z) h
 | @lst a xs U=>
  cases (show u=Value.ref a from G);obtain⟨_,_,n,_,h1⟩:=(show ObjOk X.prog X.w H s.heap a (.lst xs) from I.hok a _ U);exact QX PySem.W.kitx_list I.kIn ⟨_,h1,rfl⟩ e (λz=>nomatch z) h
 | @frz a ob xs U=>
  cases (show u=Value.ref a from G);obtain⟨_,_,_,n,_,h1⟩:=(show ObjOk X.prog X.w H s.heap a (.frz ob (.lst xs)) from I.hok a _ U);exact QX PySem.W.kitx_list I.kIn ⟨_,h1,rfl⟩ e (λz=>nomatch z) h
 | @tup a xs U=>
  cases (show u=Value.ref a from G);obtain⟨_,_,_,p⟩:=(show ObjOk X.prog X.w H s.heap a (.tup xs) from I.hok a _ U);obtain⟨o,h1,h2,_⟩:=p;exact QX PySem.W.kitx_tuple I.kIn ⟨o,h1,h2⟩ e (λz=>nomatch z) h
 | @dK a kvs U=>
  cases (show u=Value.ref a from G);obtain⟨_,_,vs,_,p⟩:=(show ObjOk X.prog X.w H s.heap a (.dK kvs) from I.hok a _ U);obtain⟨o,es,ep,h1,h2,_⟩:=p;exact QX PySem.W.kitx_dict I.kIn ⟨o,h1,h2.1⟩ e (λz=>nomatch z) h
 | @dT a kvs U=>
  cases (show u=Value.ref a from G);obtain⟨_,_,xs,_,o,es,ep,h1,h2,_⟩:=(show ObjOk X.prog X.w H s.heap a (.dT kvs) from I.hok a _ U);exact QX PySem.W.kitx_dict I.kIn ⟨o,h1,h2.1⟩ e (λz=>nomatch z) h
 | @ins a C dx fs U cl ha hn Y hm=>
  cases (show u=Value.ref a from G);obtain⟨mA,O,_⟩:=ins_get I.hok U;obtain⟨od,J,_⟩:=O.look;exact QX (PySem.W.kitx_own (cl.get _) cl.hd ha hn Y hm) I.kIn J e (λz=>nomatch z) h
end
end
section
structure Room (k:Nat) (A:Around):Prop where
 hd:A.handled=none
 dp:A.depth+3*k+5<recursionLimit
 un:A.units+16*k+200<cLine
theorem Room.mono {k:Nat} (r:Room k A) (h:j<=k):Room j A:=⟨r.hd,by have:=r.dp;lia,by have:=r.un;lia⟩
theorem Room.deeper {k:Nat} (r:Room (k+1) A) (env:Env):Room k (A.deeper env):=
 ⟨r.hd,by have:=r.dp;show A.depth+1+3*k+5<_;lia,by have:=r.un;show A.units+3+16*k+200<_;lia⟩
theorem Bv:(A.under (.builtin "type.__call__" ⟨.ref C::us,kw⟩)).depth=A.depth+1:=by
 first|rfl|simp[Around.under,Code.weight,Code.isCreation,Code.isGuard,Code.isCaller,Code.frames,Code.isFrame,guardIds]
theorem Bu:(A.under (.builtin "type.__call__" ⟨.ref C::us,kw⟩)).units=A.units+1:=by
 first|rfl|simp[Around.under,Code.cUnits,Code.frames,Code.isFrame]
theorem Room.make {k:Nat} (r:Room (k+1) A) (C:Addr) (us:List Value) (kw:List (Str×Value)):Room k (A.under (.builtin "type.__call__" ⟨.ref C::us,kw⟩)):=
 ⟨r.hd,by have:=r.dp;rw[Bv];lia,by have:=r.un;rw[Bu];lia⟩
theorem Room.depth {k:Nat} (r:Room k A):A.depth<recursionLimit:=by have:=r.dp;lia
theorem Room.units {k:Nat} (r:Room k A):A.units+64<cLine:=by have:=r.un;lia
def GR:TA:=λ_ H Q=>Q [] H
def Kw (ta:TE) (tr:TA):TA:=λσ H Q=>ta σ H λx H1=>tr σ H1 λxs H2=>Q (x::xs) H2
section
variable {t:TA}
theorem ag:PA X [] GR:=λ_ _ _ _ H Q I h=>Calls.spliced_nil ⟨[],H,I,.nil,h⟩
theorem aa (ha:PE X e te) (G:PA X es t) (hs:starEach (e::es) X.env=(false,eval e X.env)::starEach es X.env:=by rfl):PA X (e::es) (Kw te t):=by
 intro pos pins s σ H Q I h;rw[hs];show wpAny _ _ (spliced ((false,eval e X.env)::backTo pos (starEach es X.env))) _ _ s;refine Calls.spliced_cons (thn (ha pins s σ H _ I h) λu s1 z=>?_);obtain⟨x,H1,O,r1,U⟩:=z;exact thn (G pos pins s1 σ H1 _ O U) λus s2 ⟨xs,H2,Y,Z,q2⟩=>⟨x::xs,H2,Y,.cons r1 Z,q2⟩
def tTup (t:TA):TE:=λσ H Q=>t σ H λxs H1=>xs.length<=sizeLine/\∀p,H1 p=none->Q (.ref p) (upd H1 p (.tup xs))
def tLst (t:TA):TE:=λσ H Q=>t σ H λxs H1=>xs.length<=sizeLine/\∀p,H1 p=none->Q (.ref p) (upd H1 p (.lst xs))
theorem bC {x1} (h:PA X es t):PE X (.Tuple es x1 pos) (tTup t):=by
 intro pins s σ H Q I hq;refine wpAny_Tuple_spliced (thn (h pos pins s σ H _ I hq) λus s1 ⟨xs,H1,G,r,z,q⟩=>⟨by rw[<-r.length];exact z,?_⟩);have hf:H1 s1.heap.objs.size=none:=G.hok.fresh (Q4 _);refine⟨.ref s1.heap.objs.size,upd H1 s1.heap.objs.size (.tup xs),G.laid (t':=s1.toks) (λb u e=>Heap.get?_push_of_some _ e) (Q4 _) ?_,rfl,q _ hf⟩;exact⟨z,us,r,⟨_,Heap.get?_push_size _ rfl,rfl,_,rfl⟩⟩
theorem bT (h:PA X es t):PE X (.List es pos) (tLst t):=by
 intro pins s σ H Q I hq;refine wpAny_List_spliced (thn (h pos pins s σ H _ I hq) λus s1 ⟨xs,H1,G,r,z,q⟩=>⟨by rw[<-r.length];exact z,?_⟩);have hf:H1 s1.heap.objs.size=none:=G.hok.fresh (Q4 _);refine⟨.ref s1.heap.objs.size,upd H1 s1.heap.objs.size (.lst xs),G.laid (t':=s1.toks) (λb u e=>Heap.get?_push_of_some _ e) (Q4 _) ?_,rfl,q _ hf⟩;exact⟨z,us,0,r,Heap.get?_push_size _ rfl⟩
end
abbrev Sp:=List V->Hp->VK->XK->Prop
abbrev CXT:=List Env->Hp->Shared->XK->Value->Shared->Prop
structure Env0 (P:Program) (w:World) (K:PySem.W.Frag) (mg:Str->Option Value) (base:Heap) (A:Around) (outer:List Env) (s:Shared) (H:Hp):Prop where
 frames:A.frames=some outer
 mod:Mod K mg base
 bs:∀b o,base.get? b=some o->s.heap.get? b=some o/\H b=none
 bsz:base.objs.size<=s.heap.objs.size
 funs:s.heap.FunFrames base outer
 frf:∀b∈frs outer,H b=none
 hok:HOk P w H s.heap
 bare:AllBare s.gens
def CE (outer:List Env) (P:Program) (w:World) (H:Hp) (s:Shared) (Q:VK) (u:Value) (s':Shared):Prop:=
 ∃v H',s'.os=s.os/\AllBare s'.gens/\Un (frs outer) [] H H' s.heap s'.heap/\HOk P w H' s'.heap/\RelV v u/\Q v H'
def CR (CX:CXT) (outer:List Env) (P:Program) (w:World) (H:Hp) (s:Shared) (Q:VK) (E:XK) (r:Result) (s':Shared):Prop:=
 match r with
 | .ok (.ret u)=>CE outer P w H s Q u s'
 | .ok _=>False
 | .error e=>CX outer H s E e s'
structure FnOk (P:Program) (w:World) (K:PySem.W.Frag) (mg:Str->Option Value) (base:Heap) (CX:CXT) (k:Nat) (f:Addr) (fd:FuncData) (ps:List Str) (sp:Sp):Prop where
 len:∀vs H Q E,sp vs H Q E->vs.length=ps.length
 run:∀(A:Around) (outer:List Env) (s:Shared) (H:Hp) (args:Args) (us:List Value) (vs:List V) (Q:VK) (E:XK),Room k A->Env0 P w K mg base A outer s H->BindsTo s fd args (ps.zip us)->Vals vs us->sp vs H Q E->
  codeAny (model P w) A (.call (.ref f) args) (CR CX outer P w H s Q E) s
theorem FnOk.mono {mg:Str->Option Value} {k:Nat} (F:FnOk P w K mg base CX j f fd ps sp) (h:j<=k):
  FnOk P w K mg base CX k f fd ps sp:=⟨F.len,λA outer s H args us vs Q E z=>F.run A outer s H args us vs Q E (z.mono h)⟩
theorem Env0.make {mg:Str->Option Value} (e:Env0 P w K mg base A outer s H) (C:Addr) (us:List Value) (kw:List (Str×Value)):
  Env0 P w K mg base (A.under (.builtin "type.__call__" ⟨.ref C::us,kw⟩)) outer s H:=⟨by first|exact e.frames|(simpa[Around.under,Code.envs,Code.isFrame,pushEnvs]using e.frames),e.mod,e.bs,e.bsz,e.funs,e.frf,e.hok,e.bare⟩
section
theorem Inv.env0 (I:Inv X pins σ H s):Env0 X.prog X.w X.K X.mg X.base X.A X.stack s H:=
 ⟨I.ok.frames,I.ok.mod,I.bs,QD I.ok.bsz I.sz,I.stack,I.stkFree,I.hok,I.bare⟩
theorem Inv.after {Q:VK} (I:Inv X pins σ H s) (h:CE X.stack X.prog X.w H s Q u s'):EP X pins σ Q u s':=by
 obtain⟨v,H',os,bare,un,hok,r,q⟩:=h;obtain⟨O,g,d,t,G⟩:=s';obtain rfl:G=s.os:=os;exact⟨v,H',I.call (h':=O) (g':=g) (d':=d) (t':=t) (ch:=[]) un hok bare (λb z=>absurd z (by simp)),r,q⟩
end
def Ik (sp:Sp) (dvs:List V) (E:XK) (t:TA):TE:=λσ H Q=>t σ H λvs H1=>sp (vs++dvs) H1 Q E
inductive Jb (C:Addr) (m:Str) (sp:Sp) (dvs:List V) (E:XK) (t:TA) (σ:St) (Q:VK) (x:V) (H1:Hp):Prop
 |mk (a dx fs:_) (_:x= .ref a) (_:H1 a=some (.ins C dx fs)) (_:fs.lookup m=none) (_:t σ H1 λvs H2=>sp (x::(vs++dvs)) H2 Q E)
def Ii (C:Addr) (m:Str) (sp:Sp) (dvs:List V) (E:XK) (ta:TE) (t:TA):TE:=λσ H Q=>ta σ H λx H1=>Jb C m sp dvs E t σ Q x H1
def Ij (C:Addr) (sp:Sp) (dvs:List V) (E:XK) (t:TA):TE:=λσ H Q=>t σ H λvs H1=>∀x dx,H1 x=none->H1 dx=none->dx≠x->
 sp (.ref x::(vs++dvs)) (upd (upd H1 dx (.own x)) x (.ins C dx [])) (λv H2=>v= .non/\Q (.ref x) H2) E
def Binds (K:PySem.W.Frag) (fd:FuncData) (ps:List Str) (ds:List Value):Prop:=
 ∀(s:Shared) (us:List Value),K.In s.heap->(us++ds).length=ps.length->BindsTo s fd ⟨us,[]⟩ (ps.zip (us++ds))
theorem Binds.all (h:∀us:List Value,us.length=ps.length->bindArgs fd ⟨us,[]⟩=pure (ps.zip us)):Binds K fd ps []:=λs us _ hl=>by
 rw[ZL]at hl⊢;exact .of_eq (h us hl)
def kU (CX:CXT) (X:Cx) (E:XK):Prop:=∀(pins:List (Addr×Obj)) (σ:St) (H:Hp) (s:Shared) (e:Value) (s':Shared),Inv X pins σ H s->CX X.stack H s E e s'->X.xe e s'
section
variable {k:Nat} {dvs:List V} {ds:List Value} {E:XK} {apos:Pos} {o:Expr} {t:TA}
theorem rj {Q:VK} (F:FnOk X.prog X.w X.K X.mg X.base CX k f fd ps sp) (G:Room k X.A) (hb:Binds X.K fd ps ds) (hd:Vals dvs ds) (hx:kU CX X E)
  (I:Inv X pins σ H s) (r:Vals vs us) (h:sp (vs++dvs) H Q E):wpAny (model X.prog X.w) X.A (call (.ref f) us) (EP X pins σ Q) X.xe s:=by
 have z:Vals (vs++dvs) (us++ds):=r.append hd;have hl:(us++ds).length=ps.length:=by rw[<-z.length];exact F.len _ _ _ _ h
 refine wpAny_call (codeAny_mono (F.run X.A X.stack s H ⟨us,[]⟩ (us++ds) (vs++dvs) Q E G I.env0 (hb s us I.kIn hl) z h) λr s' hq=>?_);cases r with
 |error e=>exact hx pins σ H s e s' I hq
 |ok fl=>
  cases fl with
  |ret u=>exact I.after hq
  |next=>exact False.elim hq
  |brk=>exact False.elim hq
  |cont=>exact False.elim hq
theorem aN (F:FnOk X.prog X.w X.K X.mg X.base CX k f fd ps sp) (U:Room k X.A) (Y:Gl X x) (Z:X.mg x=some (.ref f)) (hk:PySem.W.keepIn X.K (.ref f)=true) (hb:Binds X.K fd ps ds) (hd:Vals dvs ds) (hx:kU CX X E)
  (ha:PA X (e::es) t) (z:(x==("__debug__":Str))=false:=by decide) (he:starEach (e::es) X.env=(false,eval e X.env)::starEach es X.env:=by rfl) (G:(backTo pos (starEach es X.env)).any (·.1)=false:=by rfl):
  PE X (.Call (.Name x p) (e::es) [] pos) (Ik sp dvs E t):=by
 intro pins s σ H Q I h;refine wpAny_Call_Name_kw (qe I Y Z ?_ z);refine ZO (h₀:=X.base) I.ok.mod.kin hk (thn (ha pos pins s σ H _ I h) λus s1 ⟨vs,H1,O,r,q⟩=>⟨O.kIn,?_⟩) he G;exact rj F U hb hd hx O r q
theorem aR {pl:Sem Bool} (he:PE X o ta) (c:Cls X.K C) (U:bL X.K C m f) (F:FnOk X.prog X.w X.K X.mg X.base CX k f fd ps sp) (hr:Room k X.A) (hb:Binds X.K fd ps ds) (hd:Vals dvs ds) (hx:kU CX X E) (ha:PA X (e::es) t)
  (z:starEach (e::es) X.env=(false,eval e X.env)::starEach es X.env:=by rfl) (G:(backTo pos (starEach es X.env)).any (·.1)=false:=by rfl)
  (ht:eval (.Call (.Attribute o m apos) (e::es) [] pos) X.env=(do
   let ov<-eval o X.env
   standAt apos.atName
   let(f,first)<-holding [ov] (getMethod ov m pl)
   callWith pos f first (backTo pos (starEach (e::es) X.env)) (backToKw pos (keywordEach [] X.env))):=by rfl):
  PE X (.Call (.Attribute o m apos) (e::es) [] pos) (Ii C m sp dvs E ta t):=by
 intro pins s σ H Q I h;refine ZA (pl:=pl) (thn (he pins s σ H _ I h) λu s1 O=>?_) ht;obtain⟨x,H1,Y,rx,a,dx,fs,ex,ea,l,q⟩:=O;subst ex;obtain rfl:u=Value.ref a:=rx;refine kD Y ea c U l ?_;refine ZO (first:=[.ref a]) (h₀:=X.base) I.ok.mod.kin U.kp (thn (ha pos pins s1 σ H1 _ Y q) λus s2 ⟨vs,H2,Z,r,q2⟩=>⟨Z.kIn,?_⟩) z G;exact rj (us:= .ref a::us) (vs:= .ref a::vs) F hr hb hd hx Z (.cons rfl r) q2
theorem bx {pl:Sem Bool} (he:PE X o ta) (c:Cls X.K C) (O:bL X.K C m f) (F:FnOk X.prog X.w X.K X.mg X.base CX k f fd ps sp) (U:Room k X.A) (hb:Binds X.K fd ps ds) (hd:Vals dvs ds) (hx:kU CX X E)
  (Y:eval (.Call (.Attribute o m apos) [] [] pos) X.env=(do
   let ov<-eval o X.env
   standAt apos.atName
   let(f,first)<-holding [ov] (getMethod ov m pl)
   callWith pos f first (backTo pos (starEach [] X.env)) (backToKw pos (keywordEach [] X.env))):=by rfl):
  PE X (.Call (.Attribute o m apos) [] [] pos) (Ii C m sp dvs E ta GR):=by
 intro pins s σ H Q I h;refine ZA (pl:=pl) (thn (he pins s σ H _ I h) λu s1 z=>?_) Y;obtain⟨x,H1,G,Z,a,dx,fs,ex,ea,l,q⟩:=z;subst ex;obtain rfl:u=Value.ref a:=Z;refine kD G ea c O l ?_;exact Xu (first:=[.ref a]) G.kIn O.kp (rj (us:=[.ref a]) (vs:=[.ref a]) F U hb hd hx G (.cons rfl .nil) q)
structure Mk (K:PySem.W.Frag) (C f:Addr):Prop where
 makes:PySem.W.makesIn K C=true
 init:PySem.W.findIn K (.ref C) "__init__"=some (some (.ref f))
 fn:PySem.W.isFn K (.ref f)=true
 kp:PySem.W.keepIn K (.ref C)=true
theorem zA {Q:VK} (M:Mk X.K C f) (F:FnOk X.prog X.w X.K X.mg X.base CX k f fd ps sp) (U:Room (k+1) X.A) (hb:Binds X.K fd ps ds) (hd:Vals dvs ds)
  (hx:kU CX X E) (I:Inv X pins σ H s) (r:Vals vs us)
  (h:∀x dx,H x=none->H dx=none->dx≠x->sp (.ref x::(vs++dvs)) (upd (upd H dx (.own x)) x (.ins C dx [])) (λv H2=>v= .non/\Q (.ref x) H2) E):
  wpAny (model X.prog X.w) X.A (call (.ref C) us) (EP X pins σ Q) X.xe s:=by
 have hq:=h (s.heap.objs.size+1) s.heap.objs.size (I.hok.fresh (Zx _)) (I.hok.fresh (Q4 _)) (QC (Zw _));have G:=Inv.made (C:=C) I;have O:Vals (V.ref (s.heap.objs.size+1)::(vs++dvs)) (Value.ref (s.heap.objs.size+1)::(us++ds)):= .cons rfl (r.append hd);have hl:(Value.ref (s.heap.objs.size+1)::us++ds).length=ps.length:=by
  have e:=O.length;rw[F.len _ _ _ _ hq]at e;exact e.symm
 refine wpAny_call (E7 (f:=f) I.kIn M.makes M.init (beq_iff_eq.mp M.fn) (codeAny_mono (F.run _ X.stack _ _ ⟨Value.ref (s.heap.objs.size+1)::us,[]⟩ (Value.ref (s.heap.objs.size+1)::(us++ds)) _ _ E (U.make C us [])
  (G.env0.make C us []) (hb _ (Value.ref (s.heap.objs.size+1)::us) G.kIn hl) O hq) λr s' z=>?_))
 cases r with
 |error e=>exact hx pins σ _ _ e s' G z
 |ok fl=>
  cases fl with
  |ret u=>
   obtain⟨v,H',Y,rv,Z,q3⟩:=G.after z;subst Z;exact⟨rv,⟨V.ref (s.heap.objs.size+1),H',Y,rfl,q3⟩⟩
  |next=>exact False.elim z
  |brk=>exact False.elim z
  |cont=>exact False.elim z
theorem iU (M:Mk X.K C f) (F:FnOk X.prog X.w X.K X.mg X.base CX k f fd ps sp) (U:Room (k+1) X.A) (Y:Gl X x) (Z:X.mg x=some (.ref C)) (hb:Binds X.K fd ps ds) (hd:Vals dvs ds) (hx:kU CX X E)
  (ha:PA X (e::es) t) (z:(x==("__debug__":Str))=false:=by decide) (he:starEach (e::es) X.env=(false,eval e X.env)::starEach es X.env:=by rfl) (G:(backTo pos (starEach es X.env)).any (·.1)=false:=by rfl):
  PE X (.Call (.Name x p) (e::es) [] pos) (Ij C sp dvs E t):=by
 intro pins s σ H Q I h;refine wpAny_Call_Name_kw (qe I Y Z ?_ z);refine ZO (h₀:=X.base) I.ok.mod.kin M.kp (thn (ha pos pins s σ H _ I h) λus s1 ⟨vs,H1,O,r,q⟩=>⟨O.kIn,?_⟩) he G;exact zA M F U hb hd hx O r q
theorem pZ (M:Mk X.K C f) (F:FnOk X.prog X.w X.K X.mg X.base CX k f fd ps sp) (G:Room (k+1) X.A) (O:Gl X x) (U:X.mg x=some (.ref C)) (hb:Binds X.K fd ps ds) (hd:Vals dvs ds) (hx:kU CX X E)
  (z:(x==("__debug__":Str))=false:=by decide):PE X (.Call (.Name x p) [] [] pos) (Ij C sp dvs E GR):=by
 intro pins s σ H Q I h;refine wpAny_Call_Name_kw (qe I O U ?_ z);exact Xu I.kIn M.kp (zA (us:=[]) M F G hb hd hx I .nil h)
end
structure am (N P:List Str) (sc:Scope):Prop where
 kind:sc.kind= .function
 co:sc.isCoroutine=false
 gen:sc.isGenerator=false
 nd:N.Nodup
 pre:N.take P.length=P
 par:∀x∈P,sc.names.lookup x=some .local\/sc.names.lookup x=some .cell
 nofree:∀y∈sc.names,y.2≠ .free
theorem xK {kindOf:Str->Option NameKind} {x:Str}:∀{z:List (Str×Value)} {m:Str->Option Value},(∀v,(x,v)∉z)->bindL kindOf z m x=m x
 | [],_,_=>rfl
 |(n,v)::r,m,h=>by
  unfold bindL;rw[xK λw hw=>h w (Qd _ hw)];split
  .have:x≠n:=by rintro rfl;exact h v Q9
   simp[this]
  .rfl
theorem xM {kindOf:Str->Option NameKind} {x:Str}:∀{z:List (Str×Value)} {m:Str->Option Value},(∀v,(x,v)∉z)->bindC kindOf z m x=m x
 | [],_,_=>rfl
 |(n,v)::r,m,h=>by
  unfold bindC;rw[xM λw hw=>h w (Qd _ hw)];split
  .rfl
  .have:x≠n:=by rintro rfl;exact h v Q9
   simp[this]
theorem xL {kindOf:Str->Option NameKind} {x:Str} {v:Value}:∀{P:List Str} {vs:List Value} {i:Nat} {m:Str->Option Value},P.Nodup->P[i]?=some x->vs[i]?=some v->kindOf x=some .local->
  bindL kindOf (P.zip vs) m x=some v
 | [],_,_,_,_,h,_,_=>by simp at h
 |_::_,[],_,_,_,_,h,_=>by simp at h
 |p::P,w::vs,0,m,nd,h1,h2,hk=>by
  simp at h1 h2;subst h1;subst h2;show bindL kindOf ((p,w)::P.zip vs) m p=_;unfold bindL;rw[xK λv hv=>(QM.mp nd).1 (XU hv).1,if_pos hk];simp
 |p::P,w::vs,i+1,m,nd,h1,h2,hk=>by
  show bindL kindOf ((p,w)::P.zip vs) m x=_;unfold bindL;exact xL (i:=i) (QM.mp nd).2 (by simpa using h1) (by simpa using h2) hk
theorem xN {kindOf:Str->Option NameKind} {x:Str} {v:Value}:∀{P:List Str} {vs:List Value} {i:Nat} {m:Str->Option Value},P.Nodup->P[i]?=some x->vs[i]?=some v->kindOf x≠some .local->
  bindC kindOf (P.zip vs) m x=some v
 | [],_,_,_,_,h,_,_=>by simp at h
 |_::_,[],_,_,_,_,h,_=>by simp at h
 |p::P,w::vs,0,m,nd,h1,h2,hk=>by
  simp at h1 h2;subst h1;subst h2;show bindC kindOf ((p,w)::P.zip vs) m p=_;unfold bindC;rw[xM λv hv=>(QM.mp nd).1 (XU hv).1,if_neg hk];simp
 |p::P,w::vs,i+1,m,nd,h1,h2,hk=>by
  show bindC kindOf ((p,w)::P.zip vs) m x=_;unfold bindC;exact xN (i:=i) (QM.mp nd).2 (by simpa using h1) (by simpa using h2) hk
def start (N:List Str) (vs:List V):St:=vs.map some++List.replicate (N.length-vs.length) none
def Af (CX:CXT) (P:Program) (w:World) (K:PySem.W.Frag) (mg:Str->Option Value) (base:Heap) (N:List Str) (qual:Str) (scope:Scope) (f:Addr) (cd:Value) (A:Around) (outer:List Env) (s:Shared) (H:Hp) (E:XK):Cx where
 prog:=P
 w:=w
 K:=K
 mg:=mg
 base:=base
 A:=A.deeper (envOfC qual scope s.heap.objs.size f cd)
 N:=N
 s₀:=s
 H₀:=H
 env:=envOfC qual scope s.heap.objs.size f cd
 outer:=outer
 stack:=envOfC qual scope s.heap.objs.size f cd::outer
 ex:=[]
 calm:=true
 fn:=λ_=>true
 pn:=[]
 xe:=λe s'=>wpAny (model P w) (A.deeper (envOfC qual scope s.heap.objs.size f cd)) (leaving (envOfC qual scope s.heap.objs.size f cd) e) (λ_ s''=>CX outer H s E e s'') (λe' s''=>CX outer H s E e' s'') s'
theorem Aj {sc:Scope} (h:sc.names.lookup x=some .cell):∃c,(cellsFrom n sc.names []).lookup x=some c:=by
 have q:=PySem.W.cellsFrom_some sc.names n [] (.inl h);exact X8.mp q
theorem Dt {mg:Str->Option Value} {U:Value} {s1:Shared} {E:XK} 
  (S:am N ps scope) (hd:A.handled=none) (e0:Env0 P w K mg base A outer s H) (hl:vs.length=ps.length) (r:Vals vs us)
  (x:InCallC s s.heap.objs.size (bindL (envOfC qual scope s.heap.objs.size f U).kindOf (ps.zip us) λ_=>none) (cellsFrom (s.heap.objs.size+1) scope.names []) (bindC (envOfC qual scope s.heap.objs.size f U).kindOf (ps.zip us) λ_=>none) s1):
  Inv (Af CX P w K mg base N qual scope f U A outer s H E) [] (start N vs) H s1:=by
 have Y:ps.length<=N.length:=by have:=congrArg List.length S.pre;rw[Q8]at this;lia
 obtain⟨h1,Z,rfl,hk⟩:=x.done;have G:∀b:Addr,b∉(Af CX P w K mg base N qual scope f U A outer s H E).ex:=λb z=>absurd (show b∈([]:List Addr) from z) (by simp);refine⟨⟨e0.mod,S.kind,rfl,rfl,Q4 _,λy z c h1 h2=>?_,λy hy=>?_,λy c _ h=>?_,λ_=>hd,Around.frames_deeper e0.frames,.inr ⟨rfl,rfl⟩,λb z=>absurd z (G b),e0.bs,e0.bsz,λb _ _=>G b,λb z=>absurd z (G b),e0.funs,e0.frf⟩,
  rfl,e0.bare,Un.kept hk,⟨_,x.toInCall.ns,λi y v h1 h2 h3=>?_⟩,λy c h=>⟨_,x.cell y c h⟩,e0.hok.fresh (Q4 _),λy c h=>?_,λp I=>absurd (show p∈([]:List (Addr×Obj)) from I) (by simp),e0.hok.kept hk,?_⟩
 .exact name_of_addr x.apart (PySem.mem_of_lookup h1) (PySem.mem_of_lookup h2)
 .have hy:scope.names.lookup y=some .cell\/scope.names.lookup y=some .free:=hy;rcases hy with hy|hy
  .exact Aj hy
  .exact absurd rfl (S.nofree _ (PySem.mem_of_lookup hy))
 .exact Zp (x.above y c (PySem.mem_of_lookup h))
 .have hi:i<vs.length:=by
   unfold start at h2;by_cases hi:i<vs.length
   .exact hi
   .rw[Zi (by simpa using hi)]at h2;rw[List.getElem?_replicate]at h2;split at h2<;>cases h2
  have ha:vs[i]?=some v:=by
   unfold start at h2;rw[Zm (by simpa using hi),Qn]at h2;cases e:vs[i]? with
   |none=>rw[e]at h2;cases h2
   |some a=>rw[e]at h2;cases h2;rfl
  obtain⟨u,hu,rv⟩:=r.get ha;have I:ps[i]?=some y:=by
   rw[<-S.pre,X9 (by lia)];exact h1
  have O:ps.Nodup:=by rw[<-S.pre];exact S.nd.sublist (X7 _ _)
  refine⟨u,rv,?_⟩;rcases S.par y (Q1 I)with k|k
  .exact .inl ⟨k,xL O I hu k⟩
  .obtain⟨c,e⟩:=Aj (n:=s.heap.objs.size+1) k;refine .inr ⟨.inl k,c,e,?_⟩;have q:=x.cell y c e;rw[xN O I hu (by show scope.names.lookup y≠_;rw[k];decide)]at q;exact q
 .exact e0.hok.fresh (Zp (x.above y c (PySem.mem_of_lookup h)))
 .unfold start;show _=N.length;rw[Qa,Q0,Zl];lia
theorem ID {mg:Str->Option Value} {k:Nat} {G:Arguments} {dV kV Z pm z ct oc:Value} {an od:Option Addr}
  {a1:Array (Option Value)} (lk:K.lookup f=some ⟨oc,od,.func (PySem.W.fnOf name qual G body scope dV kV Z pm an z ct),a1⟩) (a2:PySem.W.codeIn K z qual=true) (S:am N ps scope)
  (len:∀vs H Q E,sp vs H Q E->vs.length=ps.length)
  (U:∀(A:Around) (outer:List Env) (s:Shared) (H:Hp) (vs:List V) (Q:VK) (E:XK),Room k (A.deeper (envOfC qual scope s.heap.objs.size f z))->sp vs H Q E->
   ∃t,PSs (Af CX P w K mg base N qual scope f z A outer s H E) body t/\t {nx:=λ_ H'=>Q .non H',rt:=Q} (start N vs) H):
  FnOk P w K mg base CX (k+1) f (PySem.W.fnOf name qual G body scope dV kV Z pm an z ct) ps sp:=by
 refine⟨len,λA outer s H args us vs Q E hr e0 hb r a0=>?_⟩;have hl:=len _ _ _ _ a0;have KX:K.In s.heap:=e0.mod.kin.keeps λb o e=>(e0.bs b o e).1;have a3:s.heap.NoLimit:=e0.mod.nolimit.keeps λb o e=>(e0.bs b o e).1;have Y:∀y∈ps.zip us,scope.names.lookup y.1=some .local\/(scope.names.lookup y.1=some .cell/\((cellsFrom (s.heap.objs.size+1) scope.names []).lookup y.1).isSome=true):=λ⟨n,v⟩ hy=>by
  rcases S.par n (XU hy).1 with q|q
  .exact .inl q
  .exact .inr ⟨q,PySem.W.cellsFrom_some _ _ _ (.inl q)⟩
 refine codeAny_call_function hr.depth (KX _ _ lk) rfl S.co S.gen rfl (PySem.W.codeRec_of KX a2) (hb _ _ _ _ ?_);refine wpAny_newFunctionEnv_cells S.kind Y λenv he s1 x=>?_;subst he;refine⟨a3.keeps x.toInCall.keep,codeAny_func ?_⟩;obtain⟨t,ht,hq⟩:=U A outer s H vs Q E (hr.deeper _) a0;have I:Inv (Af CX P w K mg base N qual scope f z A outer s H E) [] (start N vs) H s1:=Dt S hr.hd e0 hl r x;refine wpAny_mono (ht [] s1 (start N vs) H _ I hq) (λfl s' hs=>?_) λe s' hs=>hs;have fin:∀{O:St} {H':Hp} {v:V} {u:Value},Inv (Af CX P w K mg base N qual scope f z A outer s H E) [] O H' s'->RelV v u->Q v H'->CE outer P w H s Q u s':=
  λ{O H' v u} J rv q=>⟨v,H',J.os,J.bare,J.base,J.hok,rv,q⟩
 cases fl with
 |ret u=>
  obtain⟨v,O,H',J,rv,q⟩:=hs;exact fin J rv q
 |next=>
  obtain⟨O,H',J,q⟩:=hs;exact fin (v:=V.non) (u:=Value.none) J rfl q
 |brk=>
  obtain⟨_,_,_,q⟩:=hs;exact False.elim q
 |cont=>
  obtain⟨_,_,_,q⟩:=hs;exact False.elim q
end
section
section
variable {t:TA} {id T:String} {r:List V->Hp->VK->Prop}
def tCB (r:List V->Hp->VK->Prop) (t:TA):TE:=λσ H Q=>t σ H λvs H1=>r vs H1 Q
theorem aF (hc:fh X (.builtin id) r) (O:Gl X x) (U:X.mg x=none) (hv:bootBuiltins x=some (.builtin id)) (ha:PA X (e::es) t) (Y:x≠"__name__":=by decide) (z:(x==("__debug__":Str))=false:=by decide)
  (he:starEach (e::es) X.env=(false,eval e X.env)::starEach es X.env:=by rfl) (G:(backTo pos (starEach es X.env)).any (·.1)=false:=by rfl):PE X (.Call (.Name x p) (e::es) [] pos) (tCB r t):=by
 intro pins s σ H Q I h;refine wpAny_Call_Name_kw (rM I O U hv ?_ Y z);exact PyProof.Rows.callWith_builtin1 (thn (ha pos pins s σ H _ I h) λus s1 ⟨vs,H1,Z,r1,q1⟩=>hc pins s1 σ H1 vs us Q Z r1 q1) he G
theorem dY (hc:fh X (.type T) r) (O:Gl X x) (U:X.mg x=none) (hv:bootBuiltins x=some (.type T)) (ha:PA X (e::es) t) (Y:x≠"__name__":=by decide) (z:(x==("__debug__":Str))=false:=by decide)
  (he:starEach (e::es) X.env=(false,eval e X.env)::starEach es X.env:=by rfl) (G:(backTo pos (starEach es X.env)).any (·.1)=false:=by rfl):PE X (.Call (.Name x p) (e::es) [] pos) (tCB r t):=by
 intro pins s σ H Q I h;refine wpAny_Call_Name_kw (rM I O U hv ?_ Y z);exact PyProof.Rows.callWith_type1 (thn (ha pos pins s σ H _ I h) λus s1 ⟨vs,H1,Z,r1,q1⟩=>hc pins s1 σ H1 vs us Q Z r1 q1) he G
end
end
end L2
namespace HT
open PySem PyProof.Rows
variable {E:Value->Shared->Prop}
def lexLt:List Int->List Int->Bool
 | [],[]=>false
 | [],_::_=>true
 |_::_,[]=>false
 |x::xs,y::ys=>if x=y then lexLt xs ys else decide (x<y)
theorem lexLt_cons (x y:Int) (xs ys:List Int):lexLt (x::xs) (y::ys)=if x=y then lexLt xs ys else decide (x<y):=rfl
theorem lexLt_nil_nil:lexLt [] []=false:=rfl
theorem lexLt_nil_cons (y:Int) (ys:List Int):lexLt [] (y::ys)=true:=rfl
theorem lexLt_cons_nil (x:Int) (xs:List Int):lexLt (x::xs) []=false:=rfl
section
variable {prog:Program} {w:World} {A:Around} {s:Shared}
def sIx (n d:Nat):Option Int->Nat
 |none=>d
 |some v=>if v<0 then(v+(n:Int)).toNat else min v.toNat n
end
end HT
namespace L2
open PySem PySem.Spec PyProof.Rows
variable {a b:Addr} {A:Around} {X:Cx} {e:Expr} {h':Heap} {H H':Hp} {i:Int} {pins:List (Addr×Obj)} {kvs:List (Key×V)} {vs:List (Key×Value)} {its its':List Value} {j n t':Nat} {o:Option V} {pos:Pos} {P:Program} {s:Shared} {σ:St} {T:String} {α:Type} {v x y:V} {u:Value} {E Q:Value->Shared->Prop} {w:World}
section
abbrev TO:=St->Hp->(Option Int->Hp->Prop)->Prop
def PO (X:Cx) (e:Option Expr) (t:TO):Prop:=
 ∀(pins:List (Addr×Obj)) (s:Shared) (σ:St) (H:Hp) (Q:Option Int->Hp->Prop),Inv X pins σ H s->t σ H Q->
  wpAny (model X.prog X.w) X.A (evalPart e X.env) (λu s'=>∃o H',Inv X pins σ H' s'/\IsPart u o/\Q o H') X.xe s
def GQ:TO:=λ_ H Q=>Q none H
inductive Ja (Q:Option Int->Hp->Prop) (x:V) (H1:Hp):Prop
 |mk (i:_) (_:x= .int i) (_:Q (some i) H1)
def Kq (t:TE):TO:=λσ H Q=>t σ H λx H1=>Ja Q x H1
theorem pz {ns:List Int}:∀{us:List Value},Vals (ns.map V.int) us->IntsAre us ns:=by
 induction ns with
 |nil=>intro us r;rw[XB]at r;cases r;exact .nil
 |cons n ns z=>
  intro us r;rw[Qs]at r;cases r with
  |cons r1 G=>
   obtain⟨t,e⟩:=r1;subst e;exact .cons n t (z G)
section
variable {te:TE} {lo hi:Option Expr} {tl th:TO} {p2:Pos}
theorem iT:PO X none GQ:=by
 intro pins s σ H Q I h;rw[evalPart_none];exact wpAny_pure ⟨none,H,I,.none,h⟩
theorem fP (h:PE X e te):PO X (some e) (Kq te):=by
 intro pins s σ H Q I hw;rw[evalPart_some];refine thn (h pins s σ H _ I hw) λu s1 z=>?_;obtain⟨x,H1,G,r1,O⟩:=z;obtain⟨i,rfl,q⟩:=O;obtain⟨t,rfl⟩:=r1;exact⟨some i,H1,G,.int i t,q⟩
def SlR (X:Cx) (r:V->Option Int->Option Int->Hp->VK->Prop):Prop:=
 ∀(pins:List (Addr×Obj)) (s:Shared) (σ:St) (H:Hp) (x:V) (v vl vu:Value) (lo hi:Option Int) (sl:Addr) (Q:VK),Inv X pins σ H s->RelV x v->s.heap.IsSliceOf sl vl vu .none->IsPart vl lo->IsPart vu hi->r x lo hi H Q->
  ∃T id,typeLookup (.type T) "__getitem__"=pure (some (.builtin id))/\s.TypeIs v T/\wpAny (model X.prog X.w) X.A (getItem v (.ref sl)) (EP X pins σ Q) X.xe s
def tSl (r:V->Option Int->Option Int->Hp->VK->Prop) (te:TE) (tl th:TO):TE:=λσ H Q=>te σ H λx H1=>tl σ H1 λl H2=>th σ H2 λu H3=>r x l u H3 Q
theorem eL {r:V->Option Int->Option Int->Hp->VK->Prop} (U:SlR X r) (he:PE X e te) (hl:PO X lo tl) (hu:PO X hi th):PE X (.Subscript e (.Slice lo hi none p2) pos) (tSl r te tl th):=by
 intro pins s σ H Q I h;refine Subscript_ (thn (he pins s σ H _ I h) λv s1 z=>?_);obtain⟨x,H1,Y,r1,Z⟩:=z;refine wpAny_Slice (thn (hl pins s1 σ H1 _ Y Z) λG s2 ⟨l,H2,I2,pl,q2⟩=>thn (hu pins s2 σ H2 _ I2 q2) λO s3 z=>?_);obtain⟨u,H3,I3,pu,q3⟩:=z;rw[evalPart_none];refine wpAny_pure ?_;have I4:Inv X pins σ H3 {s3 with heap:=s3.heap.push {cls:= .type "slice",data:= .fields #[G,O,.none]}}:=I3.kept (t':=s3.toks) λb ob q=>Heap.get?_push_of_some _ q;obtain⟨T,id,hT,ht,hg⟩:=U pins {s3 with heap:=s3.heap.push {cls:= .type "slice",data:= .fields #[G,O,.none]}} σ H3 x v G O l u s3.heap.objs.size Q I4 r1 (Heap.IsSliceOf.new ..) pl pu q3;show wpAny (model X.prog X.w) X.A (subscriptTail e (.Slice lo hi none p2) v (.ref s3.heap.objs.size)) (EP X pins σ Q) X.xe {s3 with heap:=s3.heap.push {cls:= .type "slice",data:= .fields #[G,O,.none]}};exact tail_any (ops:=[.ref s3.heap.objs.size,v]) ht hT hg (by with_unfolding_all rfl)
def nS (xs:List V) (lo hi:Option Int):List V:=(xs.drop (HT.sIx xs.length 0 lo)).take (HT.sIx xs.length xs.length hi-HT.sIx xs.length 0 lo)
theorem Ah (xs:List V) (lo hi:Option Int):(nS xs lo hi).length<=xs.length:=by
 unfold nS;rw[Q8,QA];lia
end
end
section
def ixN (n:Nat) (i:Int):Option Nat:=if 0<=i then(if i<n then some i.toNat else none)else if-(n:Int)<=i then some (i+n).toNat else none
def atI {α:Type} (xs:List α) (i:Int):Option α:=(ixN xs.length i).bind λj=>xs[j]?
theorem Ck (h:ixN n i=some j):seqIndex? i n=some j/\j<n/\-(n:Int)<=i/\i<n:=by
 unfold ixN at h;by_cases z:0<=i
 .rw[if_pos z]at h;by_cases h1:i<n
  .rw[if_pos h1]at h;have e:i.toNat=j:=Option.some.inj h;exact⟨by rw[seqIndex_of z h1,e],by lia,by lia,h1⟩
  .rw[if_neg h1]at h;cases h
 .rw[if_neg z]at h;by_cases h1: -(n:Int)<=i
  .rw[if_pos h1]at h;have e:(i+n).toNat=j:=Option.some.inj h;exact⟨by rw[seqIndex_neg (by lia) h1,e],by lia,h1,by lia⟩
  .rw[if_neg h1]at h;cases h
theorem CD {xs:List α} {v:α} (h:atI xs i=some v):∃j,seqIndex? i xs.length=some j/\xs[j]?=some v/\j<xs.length/\-(xs.length:Int)<=i/\i<xs.length:=by
 unfold atI at h;cases e:ixN xs.length i with
 |none=>rw[e]at h;cases h
 |some j=>
  rw[e]at h;obtain⟨h1,h2,z,G⟩:=Ck e;exact⟨j,h1,h,h2,z,G⟩
theorem tU {xs:List α} {v:α} (h:xs[j]?=some v):atI xs (j:Int)=some v:=by
 have z:j<xs.length:=(Q2.mp h).1;have e:ixN xs.length (j:Int)=some j:=by
  unfold ixN;rw[if_pos (by lia),if_pos (by lia)];simp
 unfold atI;rw[e];exact h
def HU (b:Expr):Prop:=∀o i,subscripted b false o i=operate [o,i] (getItem o i)
def IxR (X:Cx) (r:R2):Prop:=
 ∀(value slice:Expr) (pins:List (Addr×Obj)) (s:Shared) (σ:St) (H:Hp) (x y:V) (v u:Value) (Q:VK),Inv X pins σ H s->RelV x v->RelV y u->r x y H Q->
  subscripted slice false v u=operate [v,u] (getItem v u)->wpAny (model X.prog X.w) X.A (subscriptTail value slice v u) (EP X pins σ Q) X.xe s
def MtR (X:Cx) (id:String) (r:V->List V->Hp->VK->Prop):Prop:=
 ∀(pins:List (Addr×Obj)) (s:Shared) (σ:St) (H:Hp) (x:V) (xs:List V) (v:Value) (us:List Value) (Q:VK),Inv X pins σ H s->RelV x v->Vals xs us->r x xs H Q->
  wpAny (model X.prog X.w) X.A (call (.builtin id) (v::us)) (EP X pins σ Q) X.xe s
section
variable {a b:Expr} {ta tb:TE}
theorem aX {r:R2} (z:IxR X r) (ha:PE X a ta) (hb:PE X b tb) (hs:HU b):PE X (.Subscript a b pos) (tOp r ta tb):=by
 intro pins s σ H Q I h;exact Subscript_ (JY ha hb I h λv u G x y H2 O U Y q=>z a b pins G σ H2 x y v u Q O U Y q (hs _ _))
inductive rIxL (K:PySem.W.Frag) (x y:V) (H:Hp) (Q:VK):Prop
 |mk (p xs i v:_) (_:x= .ref p) (_:y= .int i) (_:SqL K H p xs) (_:atI xs i=some v) (_:Q v H)
inductive rIxT (K:PySem.W.Frag) (x y:V) (H:Hp) (Q:VK):Prop
 |mk (p xs i v:_) (_:x= .ref p) (_:y= .int i) (_:SqT K H p xs) (_:atI xs i=some v) (_:Q v H)
theorem aW:IxR X (rIxL X.K):=by
 intro value G pins s σ H x y v u Q I rx ry h hs;obtain⟨p,xs,i,z,rfl,rfl,hq,he,q⟩:=h;cases rx;obtain⟨t,rfl⟩:=ry;obtain⟨its,r,pl,hz⟩:=I.list hq;obtain⟨j,h1,h2,h3,h4,h5⟩:=CD he;obtain⟨w,Y,O⟩:=r.get h2;have hl:=r.length;have hn:=u9;have fin:EP X pins σ Q w s:=⟨z,H,I,O,q⟩;by_cases Z:0<=i
 .have U:i.toNat=j:=by
   rw[seqIndex_of Z h5]at h1;exact Option.some.inj h1
  exact item_listR pl.isList Z (by lia) (by rw[U];simpa using Y) fin hs
 .have U:(i+(its.toArray.size:Int)).toNat=j:=by
   rw[seqIndex_neg (by lia) h4]at h1;rw[Qf,<-hl];exact Option.some.inj h1
  exact subscriptTail_builtinR (x:=w) pl.isList.typeIs slot_list_getitem.lookup
   (wpAny_getItem_list_neg (Q:=λr s'=>r=w/\EP X pins σ Q r s') pl.isList (by lia) (by rw[Qf]<;>lia) (by lia) (by rw[U];simpa using Y) ⟨rfl,fin⟩) hs
theorem bX:IxR X (rIxT X.K):=by
 intro value G pins s σ H x y v u Q I U Y h hs;obtain⟨p,xs,i,z,rfl,rfl,hq,he,q⟩:=h;cases U;obtain⟨t,rfl⟩:=Y;obtain⟨its,r,pl,hz⟩:=I.tuple hq;obtain⟨j,h1,h2,h3,h4,h5⟩:=CD he;obtain⟨w,Z,O⟩:=r.get h2;have hl:=r.length;have hn:=u9;have fin:EP X pins σ Q w s:=⟨z,H,I,O,q⟩;exact subscriptTail_builtinR (x:=w) pl.typeIs slot_tuple_getitem.lookup
  (getItem_tuple (j:=j) (Q:=λr s'=>r=w/\EP X pins σ Q r s') pl (by lia) (by lia) (by rw[Qf,<-hl];exact h1) (by simpa using Z) ⟨rfl,fin⟩) hs
theorem Bt (its:List Value) (n j:Nat) (u:Value):Obj.mapSeq (·.setIfInBounds j u) {cls:= .type "list",data:= .seq its.toArray n}={cls:= .type "list",data:= .seq (its.set j u).toArray n}:=by
 simp[Obj.mapSeq]
theorem Inv.lst {pins:List (Addr×Obj)} {σ:St} {H:Hp} {s:Shared} {p:Addr} {xs:List V} (I:Inv X pins σ H s) (h:H p=some (.lst xs)):
  ∃(its:List Value) (n:Nat),Vals xs its/\s.heap.get? p=some {cls:= .type "list",data:= .seq its.toArray n}/\xs.length<=sizeLine:=by
 obtain⟨z,its,n,r,e⟩:=I.hok p _ h;exact⟨its,n,r,e,z⟩
theorem Inv.lstUpd {p:Addr} {xs ys:List V} {n':Nat} {f:Obj->Obj} (I:Inv X pins σ H s) (h:H p=some (.lst xs))
  (z:s.heap.get? p=some {cls:= .type "list",data:= .seq its.toArray n}) (hf:f {cls:= .type "list",data:= .seq its.toArray n}={cls:= .type "list",data:= .seq its'.toArray n'}) (r:Vals ys its') (hz:ys.length<=sizeLine) (t:Nat):
  Inv X pins σ (upd H p (.lst ys)) {s with heap:=s.heap.update p f,toks:=t}:=by
 have e:(s.heap.update p f).get? p=some {cls:= .type "list",data:= .seq its'.toArray n'}:=by
  rw[Heap.get?_update_self f z (by rw[hf]<;>rfl),hf]
 refine I.write (x:=p) (e:=p) (by rw[h];trivial) (.inl rfl) (λb u hb q=>(Heap.get?_update_other _ _ (Ne.symm hb)).trans q) ⟨_,e⟩ ?_;exact⟨hz,its',n',r,e⟩
inductive KG (o i v:V) (H:Hp) (Q:Hp->Prop):Prop
 |mk (p xs k j:_) (_:o= .ref p) (_:i= .int k) (_:H p=some (.lst xs)) (_:ixN xs.length k=some j) (_:Q (upd H p (.lst (xs.set j v))))
theorem uu:PSet X KG:=by
 intro pins s σ H o i v ov iv u Q I ro ri rv h;obtain⟨p,xs,k,j,rfl,rfl,G,hj,q⟩:=h;cases ro;obtain⟨t,rfl⟩:=ri;obtain⟨its,n,r,z,hz⟩:=I.lst G;obtain⟨h1,h2,O,U⟩:=Ck hj;have hl:=r.length;have hn:=u9;have Y:Inv X pins σ (upd H p (.lst (xs.set j v))) {s with heap:=s.heap.update p (Obj.mapSeq (·.setIfInBounds j u))}:=
  I.lstUpd G z (Bt its n j u) (r.set rv j) (by rw[QI];exact hz) s.toks
 by_cases Z:0<=k
 .have hk:k.toNat=j:=by
   rw[seqIndex_of Z U]at h1;exact Option.some.inj h1
  exact PySem.W.ki_setAt z Z (by lia) (by rw[Qf,<-hl];exact U) (by rw[hk];exact⟨_,Y,q⟩)
 .have hk:(k+(its.toArray.size:Int)).toNat=j:=by
   rw[seqIndex_neg (by lia) O]at h1;rw[Qf,<-hl];exact Option.some.inj h1
  exact PySem.W.ki_setBack z (by lia) (by rw[Qf,<-hl];exact O) (by lia) (by rw[hk];exact⟨_,Y,q⟩)
theorem yf (lo hi:Option Int) (n:Nat):(sliceBounds lo hi none n).1=((HT.sIx n 0 lo:Nat):Int)/\(sliceBounds lo hi none n).2.1=((HT.sIx n n hi:Nat):Int)/\(sliceBounds lo hi none n).2.2=1:=by
 refine⟨?_,?_,rfl⟩
 .cases lo with
  |none=>simp[sliceBounds,HT.sIx]
  |some i=>
   simp only[sliceBounds,HT.sIx,Option.getD_none,show(1:Int)>0 by decide,if_true];by_cases h:i<0
   .simp only[h,if_true]<;>lia
   .simp only[h,if_false]<;>lia
 .cases hi with
  |none=>simp[sliceBounds,HT.sIx]
  |some i=>
   simp only[sliceBounds,HT.sIx,Option.getD_none,show(1:Int)>0 by decide,if_true];by_cases h:i<0
   .simp only[h,if_true]<;>lia
   .simp only[h,if_false]<;>lia
theorem we (its:List Value) (lo hi:Option Int):slicePick its.toArray lo hi none=((its.drop (HT.sIx its.length 0 lo)).take (HT.sIx its.length its.length hi-HT.sIx its.length 0 lo)).toArray:=by
 obtain⟨h1,h2,z⟩:=yf lo hi its.toArray.size;unfold slicePick;rw[h1,h2,z];simp only[sliceRange_one,pick_run,Qf]<;>rfl
inductive rSlL (K:PySem.W.Frag) (x:V) (lo hi:Option Int) (H:Hp) (Q:VK):Prop
 |mk (a xs:_) (_:x= .ref a) (_:SqL K H a xs) (_:∀p,H p=none->Q (.ref p) (upd H p (.lst (nS xs lo hi))))
theorem gK:SlR X (rSlL X.K):=by
 intro pins s σ H x v Y Z lo hi sl Q I O hs pl U h;obtain⟨a,xs,rfl,hx,q⟩:=h;cases O;obtain⟨its,r,G,hz⟩:=I.list hx;have z:=r.length;refine⟨"list",_,slot_list_getitem.lookup,G.isList.typeIs,?_⟩;refine wpAny_getItem_list_slice G.isList hs pl U .none (by simp) ?_ (by rw[Qf]<;>lia);rw[we,<-z];refine⟨.ref s.heap.objs.size,_,I.laid (t':=s.toks) (o:= .lst (nS xs lo hi)) (λb ob q=>Heap.get?_push_of_some _ q) (Q4 _) ?_,rfl,q _ (I.hok.fresh (Q4 _))⟩;exact⟨QD (Ah xs lo hi) hz,_,0,(r.drop (HT.sIx xs.length 0 lo)).take (HT.sIx xs.length xs.length hi-HT.sIx xs.length 0 lo),Heap.get?_push_size _ rfl⟩
def qm:V->Bool
 | .non=>true
 | .bl _=>true
 | .int _=>true
 | .str _=>true
 |_=>false
def eqV:V->V->Bool
 | .non,.non=>true
 | .bl a,.bl b=>a==b
 | .bl a,.int b=>(if a then 1 else 0)==b
 | .int a,.bl b=>a==(if b then 1 else 0)
 | .int a,.int b=>a==b
 | .str a,.str b=>a==b
 |_,_=>false
theorem JT {v:Value} (G:RelV y u) (z:RelV x v) (O:qm y=true) (I:qm x=true):SeqAt.EqAt A s u v (eqV y x):=by
 cases y with
 |non=>
  cases G;cases x with
  |non=>cases z;exact SeqAt.EqAt.same _
  |bl b=>cases z;exact SeqAt.EqAt.none_bool b
  |int b=>obtain⟨t,rfl⟩:=z;exact SeqAt.EqAt.none_int b t
  |str b=>obtain⟨t,rfl⟩:=z;exact SeqAt.EqAt.none_str b t
  |_=>exact absurd (show false=true from I) Qi
 |bl a=>
  cases G;cases x with
  |non=>cases z;exact SeqAt.EqAt.bool_none a
  |bl b=>cases z;exact SeqAt.EqAt.bool_bool a b
  |int b=>obtain⟨t,rfl⟩:=z;exact SeqAt.EqAt.bool_int a b t
  |str b=>obtain⟨t,rfl⟩:=z;exact SeqAt.EqAt.bool_str a b t
  |_=>exact absurd (show false=true from I) Qi
 |int a=>
  obtain⟨t',rfl⟩:=G;cases x with
  |non=>cases z;exact SeqAt.EqAt.int_none a t'
  |bl b=>cases z;exact SeqAt.EqAt.int_bool a t' b
  |int b=>obtain⟨t,rfl⟩:=z;exact SeqAt.EqAt.int_int a t' b t
  |str b=>obtain⟨t,rfl⟩:=z;exact SeqAt.EqAt.int_str a t' b t
  |_=>exact absurd (show false=true from I) Qi
 |str a=>
  obtain⟨t',rfl⟩:=G;cases x with
  |non=>cases z;exact SeqAt.EqAt.str_none a t'
  |bl b=>cases z;exact SeqAt.EqAt.str_bool a t' b
  |int b=>obtain⟨t,rfl⟩:=z;exact SeqAt.EqAt.str_int a t' b t
  |str b=>obtain⟨t,rfl⟩:=z;exact SeqAt.EqAt.str_str a t' b t
  |_=>exact absurd (show false=true from I) Qi
 |_=>exact absurd (show false=true from O) Qi
def eqU (x:V) (u:Value):Bool:=match u with
 | .none=>eqV .non x
 | .bool b=>eqV (.bl b) x
 | .int i _=>eqV (.int i) x
 | .str z _=>eqV (.str z) x
 |_=>false
theorem FF (r:RelV y u) (f:qm y=true):eqU x u=eqV y x:=by
 cases y with
 |non=>cases r;rfl
 |bl b=>cases r;rfl
 |int i=>obtain⟨t,rfl⟩:=r;rfl
 |str z=>obtain⟨t,rfl⟩:=r;rfl
 |_=>exact absurd (show false=true from f) Qi
theorem yZ {x:V}:∀{xs:List V} {us:List Value},Vals xs us->xs.all qm=true->us.any (eqU x)=xs.any λy=>eqV y x
 |_,_,.nil,_=>rfl
 |y::xs,u::us,.cons r t,f=>by
  rw[List.all_cons,QK]at f;rw[ZU,ZU,FF r f.1,yZ t f.2]
theorem u0 {A:Around} {s:Shared} {x:V} {v:Value} (z:RelV x v) (G:qm x=true):∀{xs:List V} {us:List Value},Vals xs us->xs.all qm=true->∀u∈us,SeqAt.EqAt A s u v (eqU x u)
 |_,_,.nil,_=>λu hu=>by cases hu
 |y::xs,u::us,.cons r t,f=>λI hu=>by
  rw[List.all_cons,QK]at f;rcases Qg.mp hu with rfl|hu
  .rw[FF r f.1];exact JT r z f.1 G
  .exact u0 z G t f.2 I hu
def inV (x:V) (xs:List V):Bool:=xs.any λy=>eqV y x
inductive rIn (K:PySem.W.Frag) (neg:Bool) (x y:V) (H:Hp) (Q:VK):Prop
 |mk (p xs:_) (_:y= .ref p) (_:(SqL K H p xs\/SqT K H p xs)) (_:qm x=true) (_:xs.all qm=true) (_:Q (.bl (if neg then !inV x xs else inV x xs)) H)
theorem C4:OpR X (compareOp .In) (rIn X.K false):=by
 intro pins s σ H x y v u Q I z O h;obtain⟨p,xs,rfl,hq,G,fs,q⟩:=h;cases O;rcases hq with hq|hq
 .obtain⟨its,r,pl,hz⟩:=I.list hq;refine SeqAt.in_listAt (eqU x) pl.isList (λw hw=>u0 z G r fs w (by simpa using hw)) ⟨.bl _,H,I,rfl,?_⟩;rw[show its.toArray.any (eqU x)=its.any (eqU x) by simp,yZ r fs];exact q
 .obtain⟨its,r,pl,hz⟩:=I.tuple hq;refine SeqAt.in_tupleAt (eqU x) pl (λw hw=>u0 z G r fs w (by simpa using hw)) ⟨.bl _,H,I,rfl,?_⟩;rw[show its.toArray.any (eqU x)=its.any (eqU x) by simp,yZ r fs];exact q
theorem aE:fh X (.builtin "len") (λxs H Q=>∃p ys,xs=[.ref p]/\(SqL X.K H p ys\/SqT X.K H p ys)/\Q (.int ys.length) H):=by
 intro pins s σ H xs us Q I r h;obtain⟨p,ys,rfl,hq,q⟩:=h;obtain⟨u,rfl,G⟩:=jI r;cases G;have O:=u9;rcases hq with hq|hq
 .obtain⟨its,r',pl,hz⟩:=I.list hq;have z:=r'.length;exact Calls.call_len_list pl.isList (by simp only[Qf]<;>lia) ⟨.int ys.length,H,I.tok _,⟨s.toks+1,by rw[Qf,z]⟩,q⟩
 .obtain⟨its,r',pl,hz⟩:=I.tuple hq;have z:=r'.length;exact len_tuple pl (by simp only[Qf]<;>lia) ⟨.int ys.length,H,I.tok _,⟨s.toks+1,by rw[Qf,z]⟩,q⟩
theorem qr:fh X (.type "list") (λxs H Q=>∃p ys,xs=[.ref p]/\(SqL X.K H p ys\/SqT X.K H p ys)/\∀l,H l=none->Q (.ref l) (upd H l (.lst ys))):=by
 intro pins s σ H xs us Q I r h;obtain⟨p,ys,rfl,hq,q⟩:=h;obtain⟨u,rfl,Y⟩:=jI r;cases Y;have fin:∀(its:List Value),Vals ys its->ys.length<=sizeLine->∀(h':Heap) (z:Nat),(∀b o',s.heap.get? b=some o'->h'.get? b=some o')->
   h'.get? s.heap.objs.size=some {cls:= .type "list",dict:=none,data:= .seq its.toArray z,slots:= #[]}->EP X pins σ Q (.ref s.heap.objs.size) {s with heap:=h'}:=λits r' hz h' z G e=>
  ⟨.ref s.heap.objs.size,_,I.laid (t':=s.toks) G (Q4 _) (show ObjOk X.prog X.w _ h' _ (.lst ys) from⟨hz,its,z,r',e⟩),rfl,q _ (I.hok.fresh (Q4 _))⟩
 rcases hq with hq|hq
 .obtain⟨its,r',pl,hz⟩:=I.list hq;have O:=r'.length;obtain⟨o,U,hc,n,hd⟩:=pl.isList;exact call_list_seq p (.inl rfl) U hc hd (λh' z G e=>fin its r' hz h' z G e) (by simp only[Qf]<;>lia)
 .obtain⟨its,r',pl,hz⟩:=I.tuple hq;have O:=r'.length;obtain⟨o,U,hc,n,hd⟩:=pl;exact call_list_seq p (.inr rfl) U hc hd (λh' z G e=>fin its r' hz h' z G e) (by simp only[Qf]<;>lia)
def tyV (K:PySem.W.Frag) (T:String) (x:V) (H:Hp):Prop:=match x with
 | .str _=>T="str"
 | .int _=>T="int"
 | .ref p=>(T="list"/\∃xs,SqL K H p xs)\/(T="tuple"/\∃o,K.lookup p=some o/\o.cls= .type "tuple"/\o.dict=none)\/
   (T="dict"/\((∃kvs,H p=some (.dK kvs))\/∃kvs,H p=some (.dT kvs)))\/(T="set"/\∃S n,H p=some (.set S n))
 |_=>False
theorem Ek {v:Value} (I:Inv X pins σ H s) (r:RelV x v) (ty:tyV X.K T x H):
  s.TypeIs v T/\∀a,v= .ref a->∃ob,s.heap.get? a=some ob/\ob.dict=none:=by
 cases x with
 |str z=>
  obtain⟨t,rfl⟩:=r;cases (show T="str" from ty);exact⟨typeIs_str s z t,λ_ e=>nomatch e⟩
 |int i=>
  obtain⟨t,rfl⟩:=r;cases (show T="int" from ty);exact⟨typeIs_int s i t,λ_ e=>nomatch e⟩
 |ref p=>
  cases r;rcases ty with⟨rfl,xs,hq⟩|⟨rfl,o,hk,hc,hd⟩|⟨rfl,hk⟩|⟨rfl,S,n,hk⟩
  .obtain⟨its,_,pl,_⟩:=I.list hq;refine⟨pl.isList.typeIs,λa e=>?_⟩;cases e;obtain⟨o,n,e,c,hd,_⟩:=pl;exact⟨o,e,hd⟩
  .refine⟨⟨o,I.kIn p o hk,hc⟩,λa e=>?_⟩;cases e;exact⟨o,I.kIn _ o hk,hd⟩
  .have z:∃o,s.heap.get? p=some o/\o.ExactDict:=by
    rcases hk with⟨kvs,hk⟩|⟨kvs,hk⟩
    .obtain⟨_,_,_,_,o,_,_,e,ex,_⟩:=I.hok p _ hk;exact⟨o,e,ex⟩
    .obtain⟨_,_,_,_,o,_,_,e,ex,_⟩:=I.hok p _ hk;exact⟨o,e,ex⟩
   obtain⟨o,e,ex⟩:=z;refine⟨⟨o,e,ex.1⟩,λa e2=>?_⟩;cases e2;exact⟨o,e,ex.2.1⟩
  .obtain⟨o,_,_,_,e,ex,_⟩:=I.hok p _ hk;refine⟨⟨o,e,ex.1⟩,λa e2=>?_⟩;cases e2;exact⟨o,e,ex.2.1⟩
 |_=>exact False.elim ty
def tBM0 (K:PySem.W.Frag) (T:String) (r:V->List V->Hp->VK->Prop) (to:TE):TE:=λσ H Q=>to σ H λx H1=>tyV K T x H1/\r x [] H1 Q
def tBM (K:PySem.W.Frag) (T:String) (r:V->List V->Hp->VK->Prop) (to:TE) (t:TA):TE:=λσ H Q=>to σ H λx H1=>tyV K T x H1/\t σ H1 λxs H2=>r x xs H2 Q
variable {o:Expr} {es:List Expr} {to:TE} {t:TA} {name:Str} {apos cpos:Pos} {id:String} {r:V->List V->Hp->VK->Prop}
theorem uI (pa:PlainAttrs T) (slot:Slot T name id) (O:typeOf (.builtin id)=pure (.type "method_descriptor")) (Z:MtR X id r) (ho:PE X o to)
  (z:attributeBase o name X.env (eval o X.env)=eval o X.env:=by rfl) (G:(apos.endLine==cpos.line)=true:=by rfl):PE X (.Call (.Attribute o name apos) [] [] cpos) (tBM0 X.K T r to):=by
 intro pins s σ H Q I h;refine wpAny_Call_method0_late z G (thn (ho pins s σ H _ I h) λv s1 U=>?_);obtain⟨x,H1,Y,r1,ty,q1⟩:=U;obtain⟨h1,h2⟩:=Ek Y r1 ty;exact⟨T,id,pa,slot,O,h1,h2,Calls.callWith_builtin rfl (PySem.evalArgs_none (Z pins s1 σ H1 x [] v [] Q Y r1 .nil q1))⟩
theorem dJ (pa:PlainAttrs T) (slot:Slot T name id) (Y:typeOf (.builtin id)=pure (.type "method_descriptor")) (hm:MtR X id r) (ho:PE X o to) (ha:PA X (e::es) t)
  (G:attributeBase o name X.env (eval o X.env)=eval o X.env:=by rfl)
  (U:((backTo cpos (starEach (e::es) X.env)).all (λx=>!x.1)&&(backToKw cpos (keywordEach [] X.env)).all (λx=>x.1.isSome)
   &&decide ((e::es).length+([]:List Keyword).length+(if([]:List Keyword).isEmpty then 0 else 1)<30))=true:=by rfl)
  (O:(apos.endLine==cpos.line)=true:=by rfl) (hs:starEach (e::es) X.env=(false,eval e X.env)::starEach es X.env:=by rfl) (z:(backTo cpos (starEach es X.env)).any (·.1)=false:=by rfl):
  PE X (.Call (.Attribute o name apos) (e::es) [] cpos) (tBM X.K T r to t):=by
 intro pins s σ H Q I h;refine wpAny_Call_method_late G U O rfl (thn (ho pins s σ H _ I h) λv s1 Z=>?_);obtain⟨x,H1,I1,r1,ty,q1⟩:=Z;obtain⟨h1,h2⟩:=Ek I1 r1 ty;refine⟨T,id,pa,slot,Y,h1,h2,?_⟩;have hA:=ha cpos pins s1 σ H1 _ I1 q1;rw[hs]at hA⊢;refine Calls.callWith_builtin (by show(false||(backTo cpos (starEach es X.env)).any (·.1))=false;rw[z]<;>rfl) (Calls.evalArgs_plain ?_);exact thn hA λus s2 ⟨vs,H2,I2,r2,q2⟩=>hm pins s2 σ H2 x vs v us Q I2 r1 r2 q2
end
end
section
def MtM (X:Cx) (id:String) (r:V->List V->Hp->VK->Prop):Prop:=
 ∀(pins:List (Addr×Obj)) (s:Shared) (σ:St) (H:Hp) (x:V) (xs:List V) (v:Value) (us:List Value) (Q:VK),Inv X pins σ H s->RelV x v->Vals xs us->r x xs H Q->
  wpAny (model X.prog X.w) X.A (call (.builtin id) (v::us)) (EP X pins σ Q) X.xe s
theorem Vals.one:∀{x:V} {us:List Value},Vals [x] us->∃u,us=[u]/\RelV x u
 |_,_,.cons r .nil=>⟨_,rfl,r⟩
theorem Vals.two:∀{x y:V} {us:List Value},Vals [x,y] us->∃u v,us=[u,v]/\RelV x u/\RelV y v
 |_,_,_,.cons r (.cons q .nil)=>⟨_,_,rfl,r,q⟩
theorem Vals.zero:∀{us:List Value},Vals [] us->us=[]
 |_,.nil=>rfl
theorem Vals.eraseIdx:∀{xs:List V} {us:List Value} (i:Nat),Vals xs us->Vals (xs.eraseIdx i) (us.eraseIdx i)
 |_,_,_,.nil=> .nil
 |_,_,0,.cons _ t=>t
 |_,_,i+1,.cons r t=> .cons r (Vals.eraseIdx i t)
theorem rL {α:Type}:∀(l:List α) (i:Nat),(l.eraseIdx i).length<=l.length
 | [],_=>Q4 _
 |_::_,0=>Zx _
 |_::r,i+1=>Nat.succ_le_succ (rL r i)
section
variable {l:Addr} {xs ys zs:List V}
theorem Inv.lset {f:Array Value->Array Value} (I:Inv X pins σ H s) (z:H l=some (.lst xs))
  (e:s.heap.get? l=some {cls:= .type "list",data:= .seq its.toArray n}) (hf:f its.toArray=its'.toArray) (hv:Vals ys its') (hz:ys.length<=sizeLine):
  Inv X pins σ (upd H l (.lst ys)) {s with heap:=s.heap.update l (Obj.mapSeq f),toks:=t'}:=by
 have q:=PySem.IsL.update e f;rw[hf]at q;refine I.write (x:=l) (e:=l) (by rw[z];exact trivial) (.inl rfl) (λb' u hb hu=>(Heap.get?_update_other s.heap (Obj.mapSeq f) (Ne.symm hb)).trans hu) ⟨_,q⟩ ?_;exact⟨hz,its',_,hv,q⟩
theorem Inv.lnew (I:Inv X pins σ H s) (hv:Vals ys its) (hz:ys.length<=sizeLine):
  Inv X pins σ (upd H s.heap.objs.size (.lst ys)) {s with heap:=s.heap.push {cls:= .type "list",data:= .seq its.toArray},toks:=t'}:=
 I.laid (λ_ _ q=>Heap.get?_push_of_some _ q) (Q4 _) ⟨hz,its,0,hv,Heap.get?_push_size _ rfl⟩
theorem Inv.fresh (I:Inv X pins σ H s):H s.heap.objs.size=none:=I.hok.fresh (Q4 _)
theorem Inv.lstM (I:Inv X pins σ H s) (G:H l=some (.lst xs)):xs.length<=sizeLine/\∃(its:List Value) (n:Nat),Vals xs its/\xs.length=its.length/\s.heap.get? l=some {cls:= .type "list",data:= .seq its.toArray n}:=by
 obtain⟨z,its,n,r,e⟩:=I.hok l _ G;exact⟨z,its,n,r,r.length,e⟩
theorem EU (h:n<=sizeLine):Builtin.List.listTooLong n=false:=by
 unfold Builtin.List.listTooLong;exact decide_eq_false (by lia)
end
section
inductive G7 (x:V) (vs:List V) (H:Hp) (Q:VK):Prop
 |mk (l xs y:_) (_:x= .ref l) (_:vs=[y]) (_:H l=some (.lst xs)) (_:xs.length<sizeLine) (_:Q .non (upd H l (.lst (xs++ [y]))))
theorem d7:MtM X "list.append" G7:=by
 intro pins s σ H x vs v us Q I O rv h;obtain⟨l,xs,y,rfl,rfl,G,hz,q⟩:=h;cases O;obtain⟨u,rfl,U⟩:=rv.one;obtain⟨z,its,n,r,hl,e⟩:=I.lstM G;refine call_meets F.slot_list_append ⟨_,e,rfl⟩ F.entry_list_append (F.args_list_append_2 _ _) (PySem.list_append l its.toArray n u (by rw[Qf];lia)) ⟨e,?_⟩;refine⟨.non,_,I.lset (its':=its++ [u]) G e (by simp) (r.append (.cons U .nil)) ?_,rfl,q⟩;rw[Qa,Z4];lia
inductive G6 (x:V) (vs:List V) (H:Hp) (Q:VK):Prop
 |mk (l b xs zs:_) (_:x= .ref l) (_:vs=[.ref b]) (_:H l=some (.lst xs)) (_:H b=some (.lst zs)) (_:xs.length+zs.length<=sizeLine) (_:Q .non (upd H l (.lst (xs++zs))))
theorem nC:MtM X "list.extend" G6:=by
 intro pins s σ H x vs v us Q I Y rv h;obtain⟨l,b,xs,zs,rfl,rfl,U,Z,hz,q⟩:=h;cases Y;obtain⟨u,rfl,ru⟩:=rv.one;cases ru;obtain⟨z,its,n,r,hl,e⟩:=I.lstM U;obtain⟨z2,G,n2,r2,a0,e2⟩:=I.lstM Z;have hsz:its.toArray.size+G.toArray.size<=sizeLine:=by rw[Qf,Qf];lia
 have O:¬(!its.toArray.isEmpty&&Builtin.List.listTooLong (its.toArray.size+G.toArray.size))=true:=by
  rw[EU hsz,Bool.and_false];exact Qi
 refine call_meets F.slot_list_extend ⟨_,e,rfl⟩ F.entry_list_extend (F.args_list_extend_2 _ _)
  (AutoSeq1.list_extend_list_list_0 l its.toArray n b G.toArray n2 O (by rw[Qf];lia) (by lia)) ⟨e,e2,?_⟩
 refine⟨.non,_,I.lset (its':=its++G) U e (by simp) (r.append r2) ?_,rfl,q⟩;rw[Qa];lia
inductive Jk (x:V) (vs:List V) (H:Hp) (Q:VK):Prop
 |mk (l xs i k y:_) (_:x= .ref l) (_:vs=[.int i]) (_:H l=some (.lst xs)) (_: -(2^63)<=i) (_:i<2^63) (_:seqIndex? i xs.length=some k) (_:xs[k]?=some y) (_:Q y (upd H l (.lst (xs.eraseIdx k))))
theorem zM:MtM X "list.pop" Jk:=by
 intro pins s σ H x vs v us Q I U rv h;obtain⟨l,xs,i,k,y,rfl,rfl,O,h1,h2,hk,hy,q⟩:=h;cases U;obtain⟨u,rfl,Y⟩:=rv.one;obtain⟨t,rfl⟩:=Y;obtain⟨z,its,n,r,hl,e⟩:=I.lstM O;obtain⟨w,hw,G⟩:=r.get hy;refine call_meets F.slot_list_pop ⟨_,e,rfl⟩ F.entry_list_pop (F.args_list_pop_2 _ _)
  (MeetsSeq.list_pop_at l its.toArray n i t k w (fitsIndex_both h1 h2) (by rw[Qf,<-hl];exact hk) (by rw[<-Qw];exact hw) (by rw[Qf];lia)) ⟨e,?_⟩
 refine⟨y,_,I.lset (its':=its.eraseIdx k) O e ?_ (r.eraseIdx k) ?_,G,q⟩
 .show its.toArray.eraseIdxIfInBounds k=(its.eraseIdx k).toArray;rw[XM]
 .have:=rL xs k;lia
inductive Jm (x:V) (vs:List V) (H:Hp) (Q:VK):Prop
 |mk (l xs:_) (_:x= .ref l) (_:vs=[]) (_:H l=some (.lst xs)) (_:Q .non (upd H l (.lst [])))
theorem EZ:MtM X "list.clear" Jm:=by
 intro pins s σ H x vs v us Q I U rv h;obtain⟨l,xs,rfl,rfl,O,q⟩:=h;cases U;have G:=rv.zero;subst G;obtain⟨z,its,n,r,hl,e⟩:=I.lstM O;refine call_meets F.slot_list_clear ⟨_,e,rfl⟩ F.entry_list_clear (F.args_list_clear_1 _) (AutoSeq1.list_clear_list_0 l its.toArray n (by rw[Qf];lia)) ⟨e,?_⟩;exact⟨.non,_,I.lset (its':=[]) (ys:=[]) O e rfl .nil (Qj _),rfl,q⟩
inductive rCat (x y:V) (H:Hp) (Q:VK):Prop
 |mk (l b xs zs:_) (_:x= .ref l) (_:y= .ref b) (_:H l=some (.lst xs)) (_:H b=some (.lst zs)) (_:xs.length+zs.length<=sizeLine) (_:∀p,H p=none->Q (.ref p) (upd H p (.lst (xs++zs))))
theorem ER:OpR X (binaryOp .Add) rCat:=by
 intro pins s σ H x y v u Q I O U h;obtain⟨l,b,xs,zs,rfl,rfl,Y,Z,hz,q⟩:=h;cases O;cases U;obtain⟨z,its,n,r,hl,e⟩:=I.lstM Y;obtain⟨z2,G,n2,r2,a0,e2⟩:=I.lstM Z;refine PySem.P.add_list e e2 ?_ (by rw[Qf,Qf];lia);have ea:its.toArray++G.toArray=(its++G).toArray:=by simp
 rw[ea];exact⟨.ref _,_,I.lnew (t':=s.toks) (r.append r2) (by rw[Qa];lia),rfl,q _ I.fresh⟩
end
end
section
section
variable {κ:Type} [DecidableEq κ]
def aP (kvs:List (κ×V)) (k:κ):Option V:=(kvs.find? λkv=>decide (kv.1=k)).map (·.2)
def bz (kvs:List (κ×V)) (k:κ) (v:V):List (κ×V):=
 if(kvs.any λkv=>decide (kv.1=k))=true then kvs.map (λkv=>if kv.1=k then(kv.1,v)else kv)else kvs++ [(k,v)]
def bW (kvs:List (κ×V)) (k:κ):List (κ×V):=kvs.filter λkv=>decide (kv.1≠k)
theorem lH {k:κ}:aP ([]:List (κ×V)) k=none:=rfl
theorem bq {p:κ×V} {r:List (κ×V)} {k:κ} (e:p.1=k):aP (p::r) k=some p.2:=by simp[aP,ZM,e]
theorem bn {p:κ×V} {r:List (κ×V)} {k:κ} (e:¬p.1=k):aP (p::r) k=aP r k:=by simp[aP,ZM,e]
theorem cO (k:κ):∀kvs:List (κ×V),(kvs.any λkv=>decide (kv.1=k))=(aP kvs k).isSome
 | []=>rfl
 |p::r=>by
  rw[ZU];by_cases e:p.1=k
  .simp only[bq e,decide_eq_true e,Bool.true_or,Option.isSome_some]
  .rw[bn e,decide_eq_false e,Bool.false_or];exact cO k r
theorem zh (k j:κ) (y:V):∀kvs:List (κ×V),aP (kvs.map λkv=>if kv.1=k then(kv.1,y)else kv) j=(aP kvs j).map λx=>if j=k then y else x
 | []=>rfl
 |p::r=>by
  have G:=zh k j y r;rw[Qs];by_cases h:p.1=k
  .rw[if_pos h];by_cases e:p.1=j
   .rw[bq (p:=(p.1,y)) e,bq e,Xj,if_pos (e.symm.trans h)]
   .rw[bn (p:=(p.1,y)) e,bn e,G]
  .rw[if_neg h];by_cases e:p.1=j
   .rw[bq (p:=p) e,bq e,Xj,if_neg (λz=>h (e.trans z))]
   .rw[bn (p:=p) e,bn e,G]
theorem wY (k j:κ) (y:V):∀kvs:List (κ×V),aP kvs k=none->aP (kvs++ [(k,y)]) j=if j=k then some y else aP kvs j
 | [],_=>by
  by_cases e:k=j
  .rw[if_pos e.symm];exact bq (p:=(k,y)) e
  .rw[if_neg (λz=>e z.symm)];exact bn (p:=(k,y)) e
 |p::r,hn=>by
  rw[List.cons_append];have hk:¬p.1=k:=λz=>by rw[bq z]at hn;cases hn
  rw[bn hk]at hn;have G:=wY k j y r hn;by_cases e:p.1=j
  .rw[bq e,bq e,if_neg (λz=>hk (e.trans z))]
  .rw[bn e,bn e,G]
theorem gW (kvs:List (κ×V)) (k j:κ) (y:V):aP (bz kvs k y) j=if j=k then some y else aP kvs j:=by
 unfold bz;by_cases a:(kvs.any λkv=>decide (kv.1=k))=true
 .rw[if_pos a,zh];rw[cO]at a;by_cases e:j=k
  .obtain⟨x,hx⟩:=X8.mp a;rw[if_pos e,e,hx,Xj,if_pos rfl]
  .rw[if_neg e];cases aP kvs j with
   |none=>rfl
   |some x=>rw[Xj,if_neg e]
 .rw[if_neg a];refine wY k j y kvs ?_;rw[cO]at a;cases q:aP kvs k with
  |none=>rfl
  |some x=>rw[q]at a;exact(a rfl).elim
theorem cn (kvs:List (κ×V)) (k:κ) (v:V):(bz kvs k v).length<=kvs.length+1:=by
 unfold bz;split
 .rw[Q0];lia
 .rw[Qa,Qp,ZZ];lia
theorem zD {kvs:List (κ×V)} {k:κ} (v:V) (h:aP kvs k=none):bz kvs k v=kvs++ [(k,v)]:=by
 unfold bz;rw[cO,h];exact if_neg (by decide)
theorem RelO.isSome_eq {u:Option Value} (r:RelO o u):o.isSome=u.isSome:=by
 cases o with
 |none=>cases u with
  |none=>rfl
  |some _=>exact(show False from r).elim
 |some _=>cases u with
  |none=>exact(show False from r).elim
  |some _=>rfl
theorem KV.val {kvs:List (κ×V)} {vs:List (κ×Value)} (r:KV kvs vs) (k:κ):RelO (aP kvs k) (valueAt vs k):=by
 unfold KV at r
 induction r with
 |nil=>exact True.intro
 | @cons p q ps qs h t I=>
  obtain⟨h1,h2⟩:=h;by_cases e:p.1=k
  .have G:q.1=k:=h1.symm.trans e;have b:valueAt (q::qs) k=some q.2:=by simp[valueAt,ZM,G]
   rw[bq e,b];exact h2
  .have G:¬q.1=k:=λz=>e (h1.trans z);have b:valueAt (q::qs) k=valueAt qs k:=by simp[valueAt,ZM,G]
   rw[bn e,b];exact I
theorem KV.any {kvs:List (κ×V)} {vs:List (κ×Value)} (r:KV kvs vs) (k:κ):(kvs.any λkv=>decide (kv.1=k))=vs.any λkv=>decide (kv.1=k):=by
 unfold KV at r
 induction r with
 |nil=>rfl
 |cons h t z=>rw[ZU,ZU,z,h.1]
theorem KV.repl {kvs:List (κ×V)} {vs:List (κ×Value)} (r:KV kvs vs) (k:κ) (G:RelV y u):
  KV (kvs.map λkv=>if kv.1=k then(kv.1,y)else kv) (vs.map λkv=>if kv.1=k then(kv.1,u)else kv):=by
 unfold KV at r⊢
 induction r with
 |nil=>exact .nil
 | @cons p q ps qs h t I=>
  rw[Qs,Qs];refine .cons ?_ I;obtain⟨h1,h2⟩:=h;by_cases e:p.1=k
  .rw[if_pos e,if_pos (h1.symm.trans e)];exact⟨h1,G⟩
  .rw[if_neg e,if_neg (λz=>e (h1.trans z))];exact⟨h1,h2⟩
theorem KV.put {kvs:List (κ×V)} {vs:List (κ×Value)} (r:KV kvs vs) (k:κ) (z:RelV y u):KV (bz kvs k y) (stored vs k u):=by
 unfold bz stored;rw[r.any k];by_cases e:(vs.any λkv=>decide (kv.1=k))=true
 .rw[if_pos e,if_pos e];exact r.repl k z
 .rw[if_neg e,if_neg e];exact Paired.snoc r ⟨rfl,z⟩
theorem KV.drop {kvs:List (κ×V)} {vs:List (κ×Value)} (r:KV kvs vs) (k:κ):KV (bW kvs k) (without vs k):=by
 unfold KV at r⊢;unfold bW without
 induction r with
 |nil=>exact .nil
 | @cons p q ps qs h t G=>
  obtain⟨h1,h2⟩:=h;rw[ZT,ZT];by_cases e:p.1=k
  .have a:¬decide (p.1≠k)=true:=by simp[e]
   have b:¬decide (q.1≠k)=true:=by simp[h1.symm.trans e]
   rw[if_neg a,if_neg b];exact G
  .have I:¬q.1=k:=λz=>e (h1.trans z);have a:decide (p.1≠k)=true:=by simp[e]
   have b:decide (q.1≠k)=true:=by simp[I]
   rw[if_pos a,if_pos b];exact .cons ⟨h1,h2⟩ G
theorem KV.length {kvs:List (κ×V)} {vs:List (κ×Value)} (r:KV kvs vs):kvs.length=vs.length:=Paired.length r
theorem FG (kvs:List (κ×V)) (k:κ):(bW kvs k).length<=kvs.length:=Qo _ _
end
theorem ss {k:Key} (r:RelV (kV k) u):(a8 P w).is k u=true:=by
 cases k with
 |inl i=>obtain⟨t,e⟩:=(show ∃t,u=Value.int i t from r);subst e;exact zS P w i t
 |inr x=>obtain⟨t,e⟩:=(show ∃t,u=Value.str x t from r);subst e;exact zR P w x t
theorem xy {P:Program} {w:World}:∀{ks:List Key} {us:List Value},Vals (ks.map kV) us->ItemsAre (a8 P w) ks us
 | [],_,r=>by rw[XB]at r;cases r;exact .nil
 |k::ks,_,r=>by
  rw[Qs]at r;cases r with
  |cons h t=>exact .cons (ss h) (xy t)
abbrev KT (H:Hp):List (List Key×V)->List (List Key×Addr×Value)->Prop:=Paired λp q=>p.1=q.1/\H q.2.1=some (.tup (p.1.map kV))/\RelV p.2 q.2.2
theorem KT.val {kvs:List (List Key×V)} {xs:List (List Key×Addr×Value)} (r:KT H kvs xs) (k:List Key):RelO (aP kvs k) ((atKey xs k).map (·.2)):=by
 induction r with
 |nil=>exact True.intro
 | @cons p q ps qs h t I=>
  obtain⟨h1,_,h2⟩:=h;by_cases e:p.1=k
  .have G:q.1=k:=h1.symm.trans e;have b:atKey (q::qs) k=some q.2:=by simp[atKey,ZM,G]
   rw[bq e,b];exact h2
  .have G:¬q.1=k:=λz=>e (h1.trans z);have b:atKey (q::qs) k=atKey qs k:=by simp[atKey,ZM,G]
   rw[bn e,b];exact I
theorem KT.repl {kvs:List (List Key×V)} {xs:List (List Key×Addr×Value)} (r:KT H kvs xs) (k:List Key) (G:RelV y u):
  KT H (kvs.map λkv=>if kv.1=k then(kv.1,y)else kv) (xs.map (putAt k u)):=by
 induction r with
 |nil=>exact .nil
 | @cons p q ps qs h t I=>
  rw[Qs,Qs];refine .cons ?_ I;obtain⟨h1,h2,O⟩:=h;unfold putAt;by_cases e:p.1=k
  .rw[if_pos e,if_pos (h1.symm.trans e)];exact⟨h1,h2,G⟩
  .rw[if_neg e,if_neg (λz=>e (h1.trans z))];exact⟨h1,h2,O⟩
theorem KT.put {kvs:List (List Key×V)} {xs:List (List Key×Addr×Value)} (r:KT H kvs xs) (k:List Key) (hb:H b=some (.tup (k.map kV))) (z:RelV y u):
  KT H (bz kvs k y) (storedH xs k b u):=by
 have e:(kvs.any λkv=>decide (kv.1=k))=(atKey xs k).isSome:=by
  rw[cO,(r.val k).isSome_eq,XC]
 unfold bz storedH;rw[e];by_cases q:(atKey xs k).isSome=true
 .rw[if_pos q,if_pos q];exact r.repl k z
 .rw[if_neg q,if_neg q];exact Paired.snoc r ⟨rfl,hb,z⟩
theorem KT.keeps {kvs:List (List Key×V)} {xs:List (List Key×Addr×Value)} (r:KT H kvs xs) (G:∀b ys,H b=some (.tup ys)->H' b=some (.tup ys)):KT H' kvs xs:=
 Paired.mapP r λ_ _ z=>⟨z.1,G _ _ z.2.1,z.2.2⟩
section
variable {h:Heap}
theorem Io {u:HO} (ok:HOk P w H h) (e:Rd H a u):ObjOk P w H h a u:=e.ok ok
theorem ou (ok:HOk P w H h) (e:Rd H a (.dK kvs)):kvs.length<=sizeLine/\(a==sysModules)=false/\∃vs,KV kvs vs/\h.DictOf (a8 P w) a vs:=
 show ObjOk P w H h a (.dK kvs) from Io ok e
theorem jP (ok:HOk P w H h) (e:H a=some (.dK kvs)):kvs.length<=sizeLine/\(a==sysModules)=false/\∃vs,KV kvs vs/\h.DictOf (a8 P w) a vs:=ou ok (.inl e)
theorem vb {ks:List Key} (ok:HOk P w H h) (e:H a=some (.tup (ks.map kV))):(tupleKind (a8 P w)).is h ks a:=by
 obtain⟨_,its,r,o,h1,h2,n,z⟩:=(show ObjOk P w H h a (.tup (ks.map kV)) from ok a _ e);exact⟨o,its.toArray,n,h1,h2,z,by simpa using xy r⟩
theorem z8 {kvs:List (List Key×V)} (ok:HOk P w H h) (e:Rd H a (.dT kvs)):kvs.length<=sizeLine/\(a==sysModules)=false/\
  ∃xs,KT H kvs xs/\h.DictOfH (tupleKind (a8 P w)) a xs:=by
 obtain⟨z,y,xs,r,o,es,ep,h1,h2,G,I,O⟩:=(show ObjOk P w H h a (.dT kvs) from Io ok e);refine⟨z,y,xs,r,o,es,ep,h1,h2,G,I,λx hx=>?_,O⟩;have all:∀{l:List (List Key×V)} {m:List (List Key×Addr×Value)},KT H l m->∀x∈m,(tupleKind (a8 P w)).is h x.1 x.2.1:=by
  intro l m q
  induction q with
  |nil=>intro x hx;exact nomatch hx
  | @cons p q ps qs hq t U=>
   intro x hx;rcases Qg.mp hx with e|hx
   .subst e;exact vb ok (by rw[<-hq.1];exact hq.2.1)
   .exact U x hx
 exact all r x hx
theorem K5 {kvs:List (List Key×V)} (ok:HOk P w H h) (e:H a=some (.dT kvs)):kvs.length<=sizeLine/\(a==sysModules)=false/\
  ∃xs,KT H kvs xs/\h.DictOfH (tupleKind (a8 P w)) a xs:=z8 ok (.inl e)
end
def DGet (H:Hp) (a:Addr) (y:V) (r:Option V):Prop:=
 (∃kvs k,Rd H a (.dK kvs)/\y=kV k/\r=aP kvs k)\/∃kvs k b,Rd H a (.dT kvs)/\y= .ref b/\H b=some (.tup (k.map kV))/\r=aP kvs k
def DPut (H:Hp) (a:Addr) (y v:V) (H':Hp):Prop:=
 (∃kvs k,H a=some (.dK kvs)/\y=kV k/\kvs.length<sizeLine/\H'=upd H a (.dK (bz kvs k v)))\/
 ∃kvs k b,H a=some (.dT kvs)/\y= .ref b/\H b=some (.tup (k.map kV))/\kvs.length<sizeLine/\H'=upd H a (.dT (bz kvs k v))
theorem DGet.k {k:Key} (e:H a=some (.dK kvs)):DGet H a (kV k) (aP kvs k):= .inl ⟨kvs,k,.inl e,rfl,rfl⟩
theorem DPut.k {k:Key} (e:H a=some (.dK kvs)) (hl:kvs.length<sizeLine):DPut H a (kV k) v (upd H a (.dK (bz kvs k v))):= .inl ⟨kvs,k,e,rfl,hl,rfl⟩
section
variable {r:Value}
theorem Inv.big (I:Inv X pins σ H s):sysModules<s.heap.objs.size:=by
 have h:mainGlobals<s.heap.objs.size:=(I.mod.glob.keeps I.bk).lt;exact Nat.lt_trans (by decide) h
theorem DE (hu:A.units+1<cLine) (I:Inv X pins σ H s) (g:DGet H a y (some v)) (Z:RelV y u) (h:∀w' s',Inv X pins σ H s'->RelV v w'->Q w' s'):
  wpAny (model X.prog X.w) A (getItem (.ref a) u) Q E s:=by
 rcases g with⟨kvs,k,e,U,l⟩|⟨kvs,k,b,e,U,eb,l⟩
 .subst U;obtain⟨z,hd,vs,G,dd⟩:=ou I.hok e;obtain⟨w',hw,O⟩:=RelO.some_of (v:=v) (o:=valueAt vs k) (by rw[l];exact G.val k);exact wpAny_getItem_of (ss Z) dd.mapOf hw (h w' _ (I.tok _) O)
 .subst U;cases (show u=Value.ref b from Z);obtain⟨z,hd,xs,G,dd⟩:=z8 I.hok e;obtain⟨w',hw,O⟩:=RelO.some_of (v:=v) (o:=(atKey xs k).map (·.2)) (by rw[l];exact G.val k);obtain⟨p,hp,Y⟩:=Zf.mp hw;refine wpAny_getItem_heap (tupleKind_room_in1 hu) (vb I.hok eb) dd hp ?_;rw[Y];exact h w' _ (I.tok _) O
theorem d_in (hu:A.units+1<cLine) (I:Inv X pins σ H s) (g:DGet H a y o) (U:RelV y u) (h:∀s',Inv X pins σ H s'->Q (.bool o.isSome) s'):
  wpAny (model X.prog X.w) A (compareOp .In u (.ref a)) Q E s:=by
 rcases g with⟨kvs,k,e,O,l⟩|⟨kvs,k,b,e,O,Y,l⟩
 .subst O;obtain⟨z,hd,vs,G,dd⟩:=ou I.hok e;refine wpAny_in_of (ss U) hd dd.mapOf ?_;rw[<-(G.val k).isSome_eq,<-l];exact h _ (I.tok _)
 .subst O;cases (show u=Value.ref b from U);obtain⟨z,hd,xs,G,dd⟩:=z8 I.hok e;refine wpAny_in_heap (tupleKind_room_in1 hu) (vb I.hok Y) hd dd ?_;have q:=(G.val k).isSome_eq;rw[XC]at q;rw[<-q,<-l];exact h _ (I.tok _)
theorem HE (hu:A.units+1<cLine) (I:Inv X pins σ H s) (g:DGet H a y o) (U:RelV y u) (h:∀s',Inv X pins σ H s'->Q (.bool (!o.isSome)) s'):
  wpAny (model X.prog X.w) A (compareOp .NotIn u (.ref a)) Q E s:=by
 rcases g with⟨kvs,k,e,O,l⟩|⟨kvs,k,b,e,O,Y,l⟩
 .subst O;obtain⟨z,hd,vs,G,dd⟩:=ou I.hok e;refine wpAny_notIn_of (ss U) hd dd.mapOf ?_;rw[<-(G.val k).isSome_eq,<-l];exact h _ (I.tok _)
 .subst O;cases (show u=Value.ref b from U);obtain⟨z,hd,xs,G,dd⟩:=z8 I.hok e;refine wpAny_notIn_heap (tupleKind_room_in1 hu) (vb I.hok Y) hd dd ?_;have q:=(G.val k).isSome_eq;rw[XC]at q;rw[<-q,<-l];exact h _ (I.tok _)
theorem qo {ob:HO} (I:Inv X pins σ H s) (G:Mut (H a)) (hs:Heap.SameBut a s.heap h') (he:∃q,h'.get? a=some q) (new:ObjOk X.prog X.w (upd H a ob) h' a ob):
  Inv X pins σ (upd H a ob) {s with heap:=h',toks:=t'}:=
 I.write (x:=a) (e:=a) G (.inl rfl) (λb q hb z=>(hs.2 b hb).trans z) he new
theorem yN (z:kvs.length<=sizeLine) (hd:(a==sysModules)=false) (G:KV kvs vs) (dd:h'.DictOf (a8 P w) a vs):
  ObjOk P w H' h' a (.dK kvs):=⟨z,hd,vs,G,dd⟩
theorem DD {Q:Unit->Shared->Prop} (hu:A.units+1<cLine) (I:Inv X pins σ H s) (g:DPut H a y v H') (Z:RelV y u) (rv:RelV v r) (h:∀s',Inv X pins σ H' s'->Q () s'):
  wpAny (model X.prog X.w) A (setItem (.ref a) u r) Q E s:=by
 rcases g with⟨kvs,k,e,U,l,Y⟩|⟨kvs,k,b,e,U,eb,l,Y⟩
 .subst U Y;obtain⟨z,hd,vs,G,dd⟩:=jP I.hok e;have hz:vs.length<=sizeLine:=by rw[<-G.length];exact z
  have hl:(bz kvs k v).length<=sizeLine:=by have:=cn kvs k v;lia
  refine wpAny_setItem_pairs (hsz:=hz) (ss Z) dd λh' O hs=>h _ ?_;have he:∃q,h'.get? a=some q:=let⟨q,_,_,hq,_⟩:=O;⟨q,hq⟩
  exact qo I (by rw[e];exact True.intro) hs he (yN hl hd (G.put k rv) O)
 .subst U Y;cases (show u=Value.ref b from Z);obtain⟨z,hd,xs,G,dd⟩:=K5 I.hok e;have hz:xs.length<=sizeLine:=by rw[<-Paired.length G];exact z
  have hl:(bz kvs k v).length<=sizeLine:=by have:=cn kvs k v;lia
  refine wpAny_setItem_heap (hsz:=hz) (tupleKind_room_in1 hu) (vb I.hok eb) dd λh' O hs=>h _ ?_;obtain⟨q,es,ep,hq,h2,h3,h4,_,h5⟩:=O;refine qo I (by rw[e];exact True.intro) hs ⟨q,hq⟩ ⟨hl,hd,_,(G.put k eb rv).keeps λc ys ec=>?_,q,es,ep,hq,h2,h3,h4,h5⟩;rw[ae (cq ec e (λz=>nomatch z))];exact ec
end
section
variable {k:Key}
theorem K7 {more:List Value} (I:Inv X pins σ H s) (e:H a=some (.dK kvs)) (U:RelV (kV k) u) (l:aP kvs k=some v) (Z:more=[]\/∃x,more=[x])
  (h:∀w' s',Inv X pins σ (upd H a (.dK (bW kvs k))) s'->RelV v w'->Q w' s'):wpAny (model X.prog X.w) A (call (.builtin "dict.pop") (.ref a::u::more)) Q E s:=by
 obtain⟨z,hd,vs,G,dd⟩:=jP I.hok e;obtain⟨w',hw,Y⟩:=RelO.some_of (v:=v) (o:=valueAt vs k) (by rw[<-l];exact G.val k);have hp:(keyPart u).isSome=true:=by
  cases k with
  |inl i=>obtain⟨t,q⟩:=(show ∃t,u=Value.int i t from U);subst q;rfl
  |inr x=>obtain⟨t,q⟩:=(show ∃t,u=Value.str x t from U);subst q;rfl
 have ha:argsOk "dict.pop" ⟨.ref a::u::more,[]⟩:=by
  rcases Z with q|⟨x,q⟩
  .subst q;exact PySem.F.args_dict_pop_2 _ _
  .subst q;exact PySem.F.args_dict_pop_3 _ _ _
 refine call_meetsIn Xk dd.typeIs PySem.F.entry_dict_pop ha (meets_dict_pop_there (a8 X.prog X.w) a (ss U) more Z hp)
  ⟨vs,w',dd,by rw[<-G.length];exact z,hw,λh' O hs=>h w' _ ?_ Y⟩
 have he:∃q,h'.get? a=some q:=let⟨q,_,_,hq,_⟩:=O;⟨q,hq⟩
 exact qo I (by rw[e];exact True.intro) hs he (yN (QD (FG kvs k) z) hd (G.drop k) O)
theorem K8 (I:Inv X pins σ H s) (e:Rd H a (.dK kvs)) (h:∀t s',Inv X pins σ H s'->Q (.int kvs.length t) s'):wpAny (model X.prog X.w) A (call (.builtin "len") [.ref a]) Q E s:=by
 obtain⟨z,hd,vs,G,dd⟩:=ou I.hok e;refine call_len_dict hd dd (by rw[<-G.length];rw[sizeLine_eq]at z;lia) ?_;rw[<-G.length];exact h _ _ (I.tok _)
end
def NoSl (i:Expr):Prop:=∀ov iv,subscripted i false ov iv=operate [ov,iv] (getItem ov iv)
theorem GV {prog:Program} {env:Env} {value z:Expr} {id:String} 
  (hl:typeLookup (.type T) "__getitem__"=pure (some (.builtin id))) (hs:NoSl z)
  (h:wpAny (model prog w) A (eval value env) (λo s₁=>wpAny (model prog w) A (eval z env) (λi s₂=>s₂.TypeIs o T/\wpAny (model prog w) A (getItem o i) Q E s₂) E s₁) E s):
  wpAny (model prog w) A (eval (.Subscript value z pos) env) Q E s:=by
 refine Subscript_ (wpAny_mono h (λo s₁ h₁=>wpAny_mono h₁ (λi s₂ G=>?_) λ_ _ x=>x) λ_ _ x=>x);obtain⟨U,G⟩:=G;unfold subscriptTail;refine wpAny_bind ?_;rw[getitemInPython_of_ne U.not_modules];refine wpAny_bind (wpAny_specialOf U hl ?_);have fin:wpAny (model prog w) A (subscripted z false o i) (λr I=>wpAny (model prog w) A (letTemporaryGo value o r>>=λ_=>pure r) Q E I) E s₂:=by
  rw[hs o i];exact wpAny_operating (wpAny_mono G (λr I O=>wpAny_bind (wpAny_letTemporaryGo (wpAny_pure O))) λ_ _ x=>x)
 first
  |exact wpAny_pure (wpAny_bind fin)
  |exact wpAny_bind (wpAny_pure (wpAny_bind fin))
  |exact wpAny_bind fin
theorem Ad (I:Inv X pins σ H s) (g:DGet H a y o):s.TypeIs (.ref a) "dict":=by
 rcases g with⟨kvs,k,e,_,_⟩|⟨kvs,k,b,e,_,_,_⟩
 .obtain⟨_,_,vs,_,dd⟩:=ou I.hok e;exact dd.typeIs
 .obtain⟨_,_,xs,_,dd⟩:=z8 I.hok e;exact dd.typeIs
inductive Jd (Q:VK) (x y:V) (H2:Hp):Prop
 |mk (a v:_) (_:x= .ref a) (_:DGet H2 a y (some v)) (_:Q v H2)
def Kv (td ty:TE):TE:=λσ H Q=>td σ H λx H1=>ty σ H1 λy H2=>Jd Q x y H2
inductive Ku (Q:VK) (y x:V) (H2:Hp):Prop
 |mk (a o:_) (_:x= .ref a) (_:DGet H2 a y o) (_:Q (.bl o.isSome) H2)
def tDIn (ty td:TE):TE:=λσ H Q=>ty σ H λy H1=>td σ H1 λx H2=>Ku Q y x H2
def GT (ty td:TE):TE:=λσ H Q=>ty σ H λy H1=>td σ H1 λx H2=>∃a o,x= .ref a/\DGet H2 a y o/\Q (.bl (!o.isSome)) H2
inductive Ji (D:qN) (σ:St) (v x y:V) (H3:Hp):Prop
 |mk (a H4:_) (_:x= .ref a) (_:DPut H3 a y v H4) (_:D.nx σ H4)
def KB (td ty tv:TE):TS:=λD σ H=>tv σ H λv H1=>td σ H1 λx H2=>ty σ H2 λy H3=>Ji D σ v x y H3
section
variable {o i value:Expr} {pos' tpos:Pos} {td ty tv:TE}
theorem Hb (hu:X.A.units+1<cLine) (U:PE X o td) (hi:PE X i ty) (hs:NoSl i):PE X (.Subscript o i pos) (Kv td ty):=by
 intro pins s σ H Q I h;refine GV PySem.F.slot_dict_getitem.lookup hs (thn (U pins s σ H _ I h) λu s1 ⟨x,H1,Y,Z,q1⟩=>thn (hi pins s1 σ H1 _ Y q1) λiv s2 z=>?_);obtain⟨y,H2,O,ry,a,v,ex,g,q2⟩:=z;subst ex;obtain rfl:u=Value.ref a:=Z;exact⟨Ad O g,DE hu O g ry λw' s3 I3 G=>⟨v,H2,I3,G,q2⟩⟩
theorem EN (hu:X.A.units+1<cLine) (hi:PE X i ty) (G:PE X o td):PC X .In i o (tDIn ty td):=by
 intro pins s σ H Q I h;refine thn (hi pins s σ H _ I h) λiv s1 ⟨y,H1,O,U,Y⟩=>thn (G pins s1 σ H1 _ O Y) λu s2 z=>?_;obtain⟨x,H2,Z,rx,a,ov,ex,g,q2⟩:=z;subst ex;obtain rfl:u=Value.ref a:=rx;exact d_in hu Z g U λs3 I3=>⟨.bl ov.isSome,H2,I3,rfl,q2⟩
theorem xi (hu:X.A.units+1<cLine) (hi:PE X i ty) (G:PE X o td):PC X .NotIn i o (GT ty td):=by
 intro pins s σ H Q I h;refine thn (hi pins s σ H _ I h) λiv s1 ⟨y,H1,O,U,Y⟩=>thn (G pins s1 σ H1 _ O Y) λu s2 z=>?_;obtain⟨x,H2,Z,rx,a,ov,ex,g,q2⟩:=z;subst ex;obtain rfl:u=Value.ref a:=rx;exact HE hu Z g U λs3 I3=>⟨.bl (!ov.isSome),H2,I3,rfl,q2⟩
theorem yr (hu:X.A.units+1<cLine) (G:PE X o td) (hi:PE X i ty) (hv:PE X value tv) (hs:swapsWith value (some (.Subscript o i pos')) pos.line X.env=pure false):
  PS X (.Assign [.Subscript o i pos'] value pos) (KB td ty tv):=by
 intro pins s σ H D I h;refine wpAny_Assign_Subscript (thn (hv pins s σ H _ I h) λr s1 ⟨v,H1,O,rv,U⟩=>thn (G pins s1 σ H1 _ O U) λu Y ⟨x,H2,Z,rx,q2⟩=>thn (hi pins Y σ H2 _ Z q2) λiv s3 z=>?_) hs;obtain⟨y,H3,I3,ry,a,H4,ex,g,q3⟩:=z;subst ex;obtain rfl:u=Value.ref a:=rx;exact DD hu I3 g ry rv λs4 I4=>⟨σ,H4,I4,q3⟩
end
theorem vj (h:Heap) (hb:sysModules<h.objs.size):ObjOk P w H (h.push {cls:= .type "dict",data:= .dict #[]}) h.objs.size (.dK []):=
 ⟨Qj _,beq_eq_false_iff_ne.mpr (Ne.symm (QC hb)),[],.nil,Heap.DictOf.new h⟩
def Jc:TE:=λ_ H Q=>∀p,H p=none->Q (.ref p) (upd H p (.dK []))
section
theorem eO:PE X (.Dict [] [] pos) Jc:=λpins s σ H Q I h=>
 wpAny_Dict_empty ⟨.ref s.heap.objs.size,_,I.laid (a:=s.heap.objs.size) (o:= .dK []) (t':=s.toks) (λ_ _ q=>Heap.get?_push_of_some _ q) (Q4 _) (vj s.heap I.big),rfl,h _ (I.hok.fresh (Q4 _))⟩
end
end
end L2
namespace Att
open PySem PySem.W PySem.Calls PyProof.Rows
variable {h:Heap} {n:Nat} {l:OpenLaw} {P:Params} {YP:World->Heap->Prop}
theorem tJ:∀(ns:List Int) (vs:List Value),WellAll P h vs (ns.map WData.int)->IntsAre vs ns:=by
 intro ns
 induction ns with
 |nil=>
  intro vs w;rw[XB]at w;cases w;exact .nil
 |cons n ns z=>
  intro vs w;rw[Qs]at w;cases w with
  |cons a b=>
   cases a;exact .cons _ _ (z _ b)
theorem CS (hn:l.most=some n) {args:List WData} {z:List Value}
  (G:l.row.toRowW.claim.pre args=true) (Z:WellAll P h z args):
  ∃a vs ns,z=[Value.ref a]/\args=[WData.list (ns.map WData.int)]/\h.get? a=some {cls:= .type "list",data:= .seq vs.toArray}/\IntsAre vs ns/\ns.length<=n:=by
 have a0:WShape.hasAll [] args [.list .int]=true:=(pre_splitW G).1;have hc:l.pre.holds [] {args:=args}=true:=(pre_splitW G).2;obtain⟨d,r,rfl,h1,h2⟩:=hasAllW_cons a0;obtain rfl:=hasAllW_nil h2;obtain⟨xs,rfl,h3⟩:=hasW_list h1;obtain⟨ns,rfl⟩:=items_int h3;have I:ns.length<=n:=by
  unfold OpenLaw.pre at hc;have U:(WTm.not (.lt (.lit (.int (n:Int))) (.len (.arg 0)))).holds [] {args:=[.list (ns.map .int)]}=true:=by
   have U:=(holds_andW hc).1;rw[hn]at U;exact U
  have Y:=condW_of U (w_not (w_lt w_lit (w_len_list (w_arg rfl))));rw[Q0]at Y;refine Nat.le_of_not_lt λq=>?_;have q':(n:Int)<((ns.length:Nat):Int):=by lia
  first
   |(rw[decide_eq_true q']at Y;exact absurd Y (by decide))
   |(simp at Y;lia)
 cases Z with
 |cons w1 w2=>
  cases w2;cases w1 with
  |list ho O=>exact⟨_,_,ns,rfl,rfl,ho,tJ ns _ O,I⟩
theorem CV (l:OpenLaw) (args:List WData):l.row.toRowW.claim.post args (.bool true) args=true:=
 postW_of (r:=l.row.toRowW) (X:=(true==true))
  (show WShape.has [] (.bool true) .bool=true by first|rfl|decide|simp[WShape.has,WShape.arms,WShape.armsAll])
  (show(WTm.eq .res (.lit (.bool true))).value [] {args:=args,res:=some (.bool true),after:=args}=some (.bool (true==true)) from w_eq_bool (w_res rfl) w_lit) rfl
theorem attach_call {q:Program} {loose:List Str} {XP:(Str->Option Value)->Heap->Prop} {d:DefRec}
  (hn:l.most=some n) (a1:d.params.defaults=[])
  (call:∀(w:World) (s₀ s₁:Shared) (mg mb:Str->Option Value) (O:Addr) (o:Obj) (pm cd z:Value) (a:Addr) (vs:List Value) (ns:List Int),
   Ground q loose [] XP w s₀ mg mb s₁.heap->YP w s₁.heap->
   s₁.heap.get? O=some o->o.data= .func (docDef d.name d.params d.body d.scope pm cd z)->s₁.heap.CodeRec cd d.name->mg d.name=some (.ref O)->
   s₁.heap.get? a=some {cls:= .type "list",data:= .seq vs.toArray}->IntsAre vs ns->ns.length<=n->s₁.gens= #[]->
   codeAny (model l.prog w) callerA (.call (.ref O) ⟨[.ref a],[]⟩) (λr s'=>r= .ok (.ret (.bool true))/\OldK s₁.heap s'.heap/\s'.os=s₁.os/\AllBare s'.gens) s₁):
  WalkO q loose XP YP l.row.toRowW d [] (λf vs=>PySem.call f vs):=by
 intro w s₀ s₁ mg mb G Y O o pm cd z dV kV ho hd a2 hD a3 hg args a5 as U a7 ab a4 an;obtain rfl:dV= .none:=Dflts.none hD a1;obtain rfl:kV= .none:=Dflts.noKw hD;obtain⟨a,vs,ns,rfl,rfl,Z,I,a0⟩:=CS hn U a4;refine enter_call (codeAny_mono (call w s₀ s₁ mg mb O o pm cd z a vs ns G Y ho (fd_plain hd) a2 a3 Z I a0 hg) λr s' hq=>?_);obtain⟨rfl,h2,h3,h4⟩:=hq;exact⟨.inl ⟨.bool true,.bool true,[],rfl,λ_=>rfl,.bool true,CV l _,λ_=>⟨List.Pairwise.nil,λ_ hm=>(nomatch hm)⟩⟩,h2,h3,h4⟩
end Att
namespace L2
open PySem PySem.Spec PyProof.Rows
variable {a f:Addr} {X:Cx} {fd:FuncData} {base:Heap} {H:Hp} {ns:List Int} {N:List Str} {n:Nat} {P:Program} {A B c:Prop} {K:PySem.W.Frag} {sp:Sp} {σ:St} {st:Stmt} {qual x:Str} {nx:St->Hp->Prop} {g:TG} {tb:TS} {Φ:TS->Prop} {F:TS->TS->TS} {rt:VK} {w:World} {YP:World->Heap->Prop}
section
theorem wX:∀{vs:List Value} {ns:List Int},IntsAre vs ns->Vals (ns.map V.int) vs
 |_,_,.nil=> .nil
 |_,_,.cons n t h=> .cons ⟨t,rfl⟩ (wX h)
def Kc (H:Hp):Prop:=∀b,H b=none\/∃o xs,H b=some (.frz o (.lst xs))
theorem Fh {mg mb:Str->Option Value} {CX:CXT} {k:Nat} {fa:Addr} {s₁:Shared} {vs:List Value} 
  (KX:K.In s₁.heap) (Y:s₁.heap.Ns mainGlobals mg) (hb:s₁.heap.Ns builtinsNs mb) (a3:∀x:Str,x≠"__name__"->mb x=bootBuiltins x) (Z:s₁.heap.NoLimit) (hg:s₁.gens= #[])
  (ha:s₁.heap.get? a=some {cls:= .type "list",data:= .seq vs.toArray}) (hi:IntsAre vs ns) (hl:ns.length<=sizeLine) (hr:Room k callerA)
  (F:∀base:Heap,K.In base->base.Ns mainGlobals mg->FnOk P w K mg base CX k fa fd [x] sp) (U:∀(s:Shared) (u:Value),BindsTo s fd ⟨[u],[]⟩ [(x,u)])
  (a4:∀H:Hp,Kc H->SqL K H a (ns.map V.int)->sp [.ref a] H (λv _=>v= .bl true) λ_ _ _=>False)
  (a5:∀H e s',CX [] H s₁ (λ_ _ _=>False) e s'->False):
  codeAny (model P w) callerA (.call (.ref fa) ⟨[.ref a],[]⟩) (λr s'=>r= .ok (.ret (.bool true))/\OldK s₁.heap s'.heap/\s'.os=s₁.os/\AllBare s'.gens) s₁:=by
 have rv:=wX hi;have a0:=hi.length;have O:∀H:Hp,Kc H->SqL K H a (ns.map V.int)->HOk P w H s₁.heap->(∀b,H b≠none->b=a)->(H a≠none->K.lookup a=none)->
   codeAny (model P w) callerA (.call (.ref fa) ⟨[.ref a],[]⟩) (λr s'=>r= .ok (.ret (.bool true))/\OldK s₁.heap s'.heap/\s'.os=s₁.os/\AllBare s'.gens) s₁:=by
  intro H hO hS hok hA hK;have G:∀{b:Addr} {o:Obj},s₁.heap.get? b=some o->H b=none->(yJ s₁.heap H).get? b=some o:=λe n=>Fq e n;have a7:∀{b:Addr} {o:Obj} {es:Array DictEntry} {ep:Nat},s₁.heap.get? b=some o->o.data= .dict es ep->H b=none:=λ{b o es ep} e d=>by
   cases q:H b with
   |none=>rfl
   |some u=>
    have e':b=a:=hA b (by rw[q];simp);subst e';rw[ha]at e;cases e;have d':Data.seq vs.toArray _=Data.dict es ep:=d;cases d'
  have I:∀{b:Addr} {m:Str->Option Value},s₁.heap.Ns b m->(yJ s₁.heap H).Ns b m:=λ{b m} ⟨o,es,ep,e,d,r⟩=>⟨o,es,ep,G e (a7 e d),d,r⟩;have a1:K.In (yJ s₁.heap H):=λb o e=>G (KX b o e) (by
   cases q:H b with
   |none=>rfl
   |some u=>
    have e':b=a:=hA b (by rw[q];simp);subst e';rw[hK (by rw[q];simp)]at e;cases e)
  have hM:Mod K mg (yJ s₁.heap H):=⟨a1,I Y,⟨mb,I hb,a3⟩,let⟨mc,h1,h2⟩:=Z;⟨mc,I h1,h2⟩⟩;have e0:Env0 P w K mg (yJ s₁.heap H) callerA [] s₁ H:=⟨rfl,hM,λb o e=>Hf e,Zq (Dv _ _),trivial,λb hb=>absurd (show b∈([]:List Addr) from hb) (by simp),hok,.of_eq hg⟩;refine codeAny_mono ((F _ a1 (I Y)).run callerA [] s₁ H ⟨[.ref a],[]⟩ [.ref a] [.ref a] _ _ hr e0 (U s₁ (.ref a)) (.cons rfl .nil) (a4 H hO hS)) λr s' h=>?_;cases r with
  |error e=>exact(a5 H e s' h).elim
  |ok fl=>
   cases fl with
   |next=>exact False.elim h
   |brk=>exact False.elim h
   |cont=>exact False.elim h
   |ret u=>
    obtain⟨v,H',os,bare,un,a2,r',q⟩:=h;have q':v= .bl true:=q;subst q';obtain rfl:u=Value.bool true:=r';refine⟨rfl,OldK.of_keep λb o e=>?_,os,bare⟩;cases q:H b with
    |none=>exact un.keep b o e q (by intro z;exact absurd (show b∈([]:List Addr) from z) (by simp)) (by simp)
    |some u=>
     rcases hO b with z|⟨ob,xs,z⟩
     .rw[q]at z;cases z
     .have z2:=un.frzs b ob _ z;obtain⟨e1,_⟩:=hok b _ z;obtain⟨e2,_⟩:=a2 b _ z2;rw[e]at e1;cases e1;exact e2
 cases hk:K.lookup a with
 |some o=>
  have e:=KX a o hk;rw[ha]at e;cases e;refine O (λ_=>none) (λ_=> .inl rfl) (.inr ⟨_,vs.toArray,_,hk,rfl,rfl,rfl,by rw[Qf,a0];exact hl,by simpa using rv⟩) (λb u z=>by have z':(none:Option HO)=some u:=z;cases z') (λb z=>absurd rfl z) λz=>absurd rfl z
 |none=>
  refine O (λb=>if b=a then some (.frz {cls:= .type "list",data:= .seq vs.toArray} (.lst (ns.map V.int)))else none) (λb=>?_) (.inl (.inr ⟨{cls:= .type "list",data:= .seq vs.toArray},if_pos rfl⟩)) (λb u z=>?_) (λb z=>?_) λ_=>hk
  .by_cases hb:b=a
   .exact .inr ⟨_,_,if_pos hb⟩
   .exact .inl (if_neg hb)
  .by_cases hb:b=a
   .have z':=(if_pos hb).symm.trans z;cases z';subst hb;exact⟨ha,by rw[Q0];exact hl,vs,_,rv,ha⟩
   .have z':=(if_neg hb).symm.trans z;cases z'
  .by_cases hb:b=a
   .exact hb
   .exact absurd (if_neg hb) z
end
section
theorem walk_of {l:PySem.W.OpenLaw} {k:Nat} {q:Program} {loose:List Str} {XP:(Str->Option Value)->Heap->Prop} {d:DefRec} {K:Params->PySem.W.Frag} {CX:World->CXT} {sp:World->Sp} 
  (hn:l.most=some n) (Z:n<=sizeLine) (a0:d.params.defaults=[]) (hr:Room k callerA)
  (hY:∀(w:World) (h:Heap),YP w h->(K w.params).In h)
  (F:∀(w:World) (mg:Str->Option Value) (U:Addr) (h:Heap),(K w.params).In h->h.Ns mainGlobals mg->mg d.name=some (.ref U)->
   ∃fd:FuncData,(∀(s:Shared) (u:Value),BindsTo s fd ⟨[u],[]⟩ [(x,u)])/\
    ∀base:Heap,(K w.params).In base->base.Ns mainGlobals mg->FnOk l.prog w (K w.params) mg base (CX w) k U fd [x] (sp w))
  (a1:∀(w:World) (H:Hp) (a:Addr) (ns:List Int),ns.length<=n->Kc H->SqL (K w.params) H a (ns.map V.int)->sp w [.ref a] H (λv _=>v= .bl true) λ_ _ _=>False)
  (a2:∀(w:World) (H:Hp) (s:Shared) (e:Value) (s':Shared),CX w [] H s (λ_ _ _=>False) e s'->False):
  PySem.W.WalkO q loose XP YP l.row.toRowW d [] (λf vs=>PySem.call f vs):=by
 refine Att.attach_call hn a0 λw s₀ s₁ mg mb U o pm cd a4 a vs ns G Y ho hd a5 a3 O I z hg=>?_;have KX:=hY w _ Y;obtain⟨fd,hb,hF⟩:=F w mg U _ KX G.T.g a3;exact Fh KX G.T.g G.T.b G.T.builtins G.T.nolimit hg O I (QD z Z) hr hF hb (λH hO hS=>a1 w H a ns z hO hS) λH e s'=>a2 w H s₁ e s'
end
section
abbrev CX0:CXT:=λ_ _ _ _ _ _=>False
abbrev E0:XK:=λ_ _ _=>False
theorem az:kU CX0 X E0:=λ_ _ _ _ _ _ _ h=>h.elim
structure Fun (K:PySem.W.Frag) (x qual:Str) (st:Stmt) (f:Addr) (fd:FuncData):Prop where
 ex:∃(oc:Value) (od:Option Addr) (kV doc pm:Value) (an:Option Addr) (cdv ct:Value) (osl:Array (Option Value)),
  fd=PySem.W.fnOf x qual (gO st) (dR st) (aj st) .none kV doc pm an cdv ct/\K.lookup f=some ⟨oc,od,.func fd,osl⟩/\PySem.W.codeIn K cdv qual=true
 kp:PySem.W.keepIn K (.ref f)=true
section
variable {mg:Str->Option Value}
theorem Fun.ok {ps:List Str} {k:Nat} (F:Fun K x qual st f fd) (S:am N ps (aj st)) (len:∀vs H Q E,sp vs H Q E->vs.length=ps.length)
  (G:∀(z:Value) (A:Around) (outer:List Env) (s:Shared) (H:Hp) (vs:List V) (Q:VK) (E:XK),Room k (A.deeper (envOfC qual (aj st) s.heap.objs.size f z))->sp vs H Q E->
   ∃t,PSs (Af CX0 P w K mg base N qual (aj st) f z A outer s H E).nox (dR st) t/\t {nx:=λ_ H'=>Q .non H',rt:=Q} (start N vs) H):FnOk P w K mg base CX0 (k+1) f fd ps sp:=by
 obtain⟨oc,od,kV,U,pm,an,z,ct,Y,rfl,Z,I⟩:=F.ex;refine ID Z I S len λA outer s H vs Q E hr O=>?_;obtain⟨t,h,q⟩:=G z A outer s H vs Q E hr O;exact⟨t,h.nox,q⟩
theorem JS {Y:Value} {Z O:Option Addr} {I:Array (Option Value)} {kV G U z ct:Value} (l:K.lookup f=some ⟨Y,Z,.func (PySem.W.fnOf x qual (gO st) (dR st) (aj st) .none kV G U O z ct),I⟩)
  (c:PySem.W.codeIn K z qual=true) (k:PySem.W.keepIn K (.ref f)=true):Fun K x qual st f (PySem.W.fnOf x qual (gO st) (dR st) (aj st) .none kV G U O z ct):=⟨⟨Y,Z,kV,G,U,O,z,ct,I,rfl,l,c⟩,k⟩
end
theorem su {A:Around} {k:Nat} (z:Room k A):A.units+1<cLine:=X3 (Nat.add_le_add_left (by decide:1<=64) _) z.units
theorem cu (h:n<=1000):n<sizeLine:=X3 h (by decide)
section
theorem pv (i:Nat) {pos:Pos} (hN:X.N[i]?=some x:=by rfl) (hv:Vis X.env.scope x:=by first|exact Or.inl rfl|exact Or.inr (Or.inl rfl)|exact Or.inr (Or.inr rfl)) (hd:(x==("__debug__":Str))=false:=by decide)
  (z:(x==("__classdict__":Str))=false:=by decide):PE X (.Name x pos) (IY i):=Jr hN hv hd z
end
theorem cM (h:B):if false=true then A else B:=by
 rw[if_neg Qi];exact h
theorem db (h:A):if true=true then A else B:=by
 rw[if_pos rfl];exact h
theorem bK [Decidable c] (h1:c->A) (h2:¬c->B):if c then A else B:=by
 by_cases h:c
 .rw[if_pos h];exact h1 h
 .rw[if_neg h];exact h2 h
theorem oo [Decidable c] (hc:c) (h:B):if(!decide c)=true then A else B:=by
 rw[decide_eq_true hc];exact cM h
def Same (H H':Hp):Prop:=∀b o,H b=some o->H' b=some o
theorem Same.refl (H:Hp):Same H H:=λ_ _ h=>h
theorem Same.trans {H1 H2:Hp} (a:Same H H1) (b:Same H1 H2):Same H H2:=λc o h=>b c o (a c o h)
end
section
section
theorem DI:fh X (.builtin "len") (λxs H Q=>∃a kvs,xs=[V.ref a]/\H a=some (.dK kvs)/\Q (.int kvs.length) H):=by
 intro pins s σ H xs us Q I r h;obtain⟨a,kvs,rfl,ha,q⟩:=h;obtain⟨u,rfl,z⟩:=jI r;cases z;exact K8 I (.inl ha) λt s' G=>⟨.int kvs.length,H,G,⟨t,rfl⟩,q⟩
end
section
variable {κ:Type} [DecidableEq κ]
theorem Ei {kvs:List (κ×V)} {k:κ} (h:aP kvs k=none):¬k∈kvs.map (·.1):=by
 intro m;obtain⟨p,z,e⟩:=Qh.mp m;have q:(kvs.any λkv=>decide (kv.1=k))=true:=List.any_eq_true.mpr ⟨p,z,decide_eq_true e⟩;rw[cO,h]at q;exact absurd q (by simp)
theorem tN {kvs:List (κ×V)} {k:κ} {v:V} (h:aP kvs k=some v):k∈kvs.map (·.1):=by
 have q:(kvs.any λkv=>decide (kv.1=k))=true:=by
  rw[cO,h]
  all_goals rfl
 obtain⟨p,z,e⟩:=List.any_eq_true.mp q;exact Qh.mpr ⟨p,z,of_decide_eq_true e⟩
theorem B8:∀{l:List κ} {k:κ},l.Nodup->¬k∈l->(l++ [k]).Nodup
 | [],k,_,_=>by simp
 |a::r,k,h,hk=>by
  obtain⟨h1,h2⟩:=QM.mp h;show(a::(r++ [k])).Nodup;refine QM.mpr ⟨λm=>?_,B8 h2 λm=>hk (Qg.mpr (Or.inr m))⟩;rcases Q5.mp m with q|q
  .exact h1 q
  .exact hk (Qg.mpr (Or.inl (Q7.mp q).symm))
theorem Hg {kvs:List (κ×V)} {k:κ} (v:V) (z:(kvs.map (·.1)).Nodup) (h:aP kvs k=none):((bz kvs k v).map (·.1)).Nodup:=by
 rw[zD v h,Qc];exact B8 z (Ei h)
theorem rQ {p:κ×V} {r:List (κ×V)} {k:κ} (e:p.1=k):bW (p::r) k=bW r k:=by
 unfold bW;rw[ZT,if_neg (by simp[e])]
theorem nK {p:κ×V} {r:List (κ×V)} {k:κ} (e:¬p.1=k):bW (p::r) k=p::bW r k:=by
 unfold bW;rw[ZT,if_pos (by simp[e])]
theorem Ab:∀{kvs:List (κ×V)} {k:κ},¬k∈kvs.map (·.1)->bW kvs k=kvs
 | [],_,_=>rfl
 |p::r,k,h=>by
  have h':¬k∈r.map (·.1):=λm=>by
   obtain⟨q,hq,e⟩:=Qh.mp m;exact h (Qh.mpr ⟨q,Qg.mpr (Or.inr hq),e⟩)
  rw[nK λe=>h (Qh.mpr ⟨p,Qg.mpr (Or.inl rfl),e⟩),Ab h']
theorem xE {kvs:List (κ×V)} {k:κ} {p:κ×V} (h:p∈bW kvs k):p∈kvs:=(QH.mp h).1
theorem p9:∀{kvs:List (κ×V)} {k:κ},(kvs.map (·.1)).Nodup->((bW kvs k).map (·.1)).Nodup
 | [],_,_=>Zj
 |p::r,k,h=>by
  have h:(p.1::r.map (·.1)).Nodup:=h;obtain⟨h1,h2⟩:=QM.mp h;by_cases e:p.1=k
  .rw[rQ e];exact p9 h2
  .rw[nK e];show(p.1::(bW r k).map (·.1)).Nodup;refine QM.mpr ⟨λm=>h1 ?_,p9 h2⟩;obtain⟨q,hq,z⟩:=Qh.mp m;exact Qh.mpr ⟨q,xE hq,z⟩
theorem xF:∀{kvs:List (κ×V)} {k:κ},(kvs.map (·.1)).Nodup->k∈kvs.map (·.1)->(bW kvs k).length+1=kvs.length
 | [],_,_,m=>by simp at m
 |p::r,k,h,m=>by
  have h:(p.1::r.map (·.1)).Nodup:=h;have m:k=p.1\/k∈r.map (·.1):=Qg.mp m;obtain⟨h1,h2⟩:=QM.mp h;by_cases e:p.1=k
  .subst e;rw[rQ rfl,Ab h1]
   all_goals rfl
  .have m':k∈r.map (·.1):=m.resolve_left λz=>e z.symm;have q:=xF h2 m';rw[nK e,Qp,Qp];lia
end
end
section
theorem bh:bootBuiltins "len"=some (.builtin "len"):=by decide+kernel
theorem dM:bootBuiltins "isinstance"=some (.builtin "isinstance"):=by decide+kernel
theorem rY:bootBuiltins "min"=some (.builtin "min"):=by decide+kernel
theorem xJ:bootBuiltins "sorted"=some (.builtin "sorted"):=by decide+kernel
theorem JX:bootBuiltins "int"=some (.type "int"):=by decide+kernel
theorem HG:bootBuiltins "bool"=some (.type "bool"):=by decide+kernel
theorem JW:bootBuiltins "str"=some (.type "str"):=by decide+kernel
theorem yR:bootBuiltins "max"=some (.builtin "max"):=by decide+kernel
theorem yS:bootBuiltins "list"=some (.type "list"):=by decide+kernel
theorem tT:bootBuiltins "dict"=some (.type "dict"):=by decide+kernel
theorem JB:PySem.W.kitOne K (.type "int") (.type "int")=some true:=by kernel_rfl
theorem JC:PySem.W.kitOne K (.type "int") (.type "bool")=some false:=by kernel_rfl
theorem JD:PySem.W.kitOne K (.type "bool") (.type "int")=some true:=by kernel_rfl
theorem JE:PySem.W.kitOne K (.type "bool") (.type "bool")=some true:=by kernel_rfl
theorem JA:PySem.W.kitOne K (.type "NoneType") (.type "int")=some false:=by kernel_rfl
theorem Jz:PySem.W.kitOne K (.type "str") (.type "int")=some false:=by kernel_rfl
theorem lE [Decidable c] (hc:c) (h:A):if decide c=true then A else B:=by
 rw[decide_eq_true hc];exact db h
theorem bf [Decidable c] (hc:¬c) (h:B):if decide c=true then A else B:=by
 rw[decide_eq_false hc];exact cM h
theorem nI {xs:List V} (Pv:Nat->St->Hp->Prop) (I:Pv 0 σ H) (hl:∀i σ H,i<=xs.length->Pv i σ H->SqL K H a xs)
  (hs:∀i x σ H,xs[i]?=some x->Pv i σ H->g x σ H λz H2=>tb ⟨Pv (i+1),rt,nx,Pv (i+1)⟩ z H2) (hd:∀σ H,Pv xs.length σ H->nx σ H):
  ∃W:Nat->Nat->St->Hp->Prop,(∃m,W 0 m σ H)/\∀i m σ H,W i m σ H->
   ((Itl K a).stop i H/\nx σ H)\/((Itl K a).go i H/\∃N:St->Hp->Prop,(∀G H',N G H'->∃m',m'<m/\W (i+1) m' G H')/\∀x H',(Itl K a).yld i H x H'->g x σ H' λz H2=>tb ⟨N,rt,nx,N⟩ z H2):=
 FB (D:=⟨nx,rt,λ_ _=>False,λ_ _=>False⟩) Pv I hl hs hd
theorem BD {lo:Int} (Pv:Nat->St->Hp->Prop) (I:Pv 0 σ H)
  (hs:∀i σ H,i<n->Pv i σ H->g (.int (lo+i)) σ H λz H2=>tb ⟨Pv (i+1),rt,nx,Pv (i+1)⟩ z H2) (hd:∀σ H,Pv n σ H->nx σ H):
  ∃W:Nat->Nat->St->Hp->Prop,(∃m,W 0 m σ H)/\∀i m σ H,W i m σ H->
   ((Itr lo n).stop i H/\nx σ H)\/((Itr lo n).go i H/\∃N:St->Hp->Prop,(∀G H',N G H'->∃m',m'<m/\W (i+1) m' G H')/\∀x H',(Itr lo n).yld i H x H'->g x σ H' λz H2=>tb ⟨N,rt,nx,N⟩ z H2):=
 rO (D:=⟨nx,rt,λ_ _=>False,λ_ _=>False⟩) Pv I hs hd
theorem vn {k:Int} (G:0<=k) (h:k<(ns.length:Int)):atI (ns.map V.int) k=some (.int (ns.getD k.toNat 0)):=by
 obtain⟨j,rfl⟩:=Za G;refine tU ?_;have z:j<ns.length:=by lia
 rw[Qn,Q3 z,QN,Qm,Q3 z];rfl
theorem FQ {k:Int} (h:¬k<(ns.length:Int)):ns.getD k.toNat 0=0:=by
 rw[Qm,List.getElem?_eq_none (by lia)];rfl
section
theorem sv:fh X (.builtin "isinstance") (λxs H Q=>∃x n t b,xs=[x,.ty n]/\TyOf X.K H x t/\PySem.W.kitOne X.K t (.type n)=some b/\Q (.bl b) H):=by
 intro pins s σ H xs us Q I r h;obtain⟨x,n,t,b,rfl,ty,e,q⟩:=h;obtain⟨u,w',rfl,G,z⟩:=tW r;cases (show w'=Value.type n from z);exact xz I G ty e λO=>⟨.bl b,H,I.tok _,rfl,q⟩
theorem xl:OpR X (compareOp .IsNot) (λx y H Q=>∃a b,x= .bl a/\y= .bl b/\Q (.bl (a !=b)) H):=by
 intro pins s σ H x y v u Q I z G h;obtain⟨a,b,rfl,rfl,q⟩:=h;cases z;cases G;exact isnot_bool (bi I q rfl)
end
theorem fsc {P:List Str} {sc:Scope} (a:sc.kind= .function:=by rfl) (b:sc.isCoroutine=false:=by rfl) (c:sc.isGenerator=false:=by rfl) (d:N.Nodup:=by decide+kernel) (e:N.take P.length=P:=by rfl) (f:∀x∈P,sc.names.lookup x=some .local\/sc.names.lookup x=some .cell:=by decide+kernel) (g:∀y∈sc.names,y.2≠ .free:=by decide+kernel):am N P sc:=⟨a,b,c,d,e,f,g⟩
theorem Room.mo {j k:Nat} {A:Around} (r:Room k A) (h:j<=k:=by decide):Room j A:=r.mono h
theorem Fun.okl {mg:Str->Option Value} {ps:List Str} {k:Nat} (F:Fun K x qual st f fd) (S:am N ps (aj st))
  (z:∀(G:Value) (A:Around) (outer:List Env) (s:Shared) (H:Hp) (vs:List V) (Q:VK) (E:XK),Room k (A.deeper (envOfC qual (aj st) s.heap.objs.size f G))->sp vs H Q E->
   let X:=(Af CX0 P w K mg base N qual (aj st) f G A outer s H E).nox
   ∃t,PSs X (dR st) t/\t {nx:=λ_ H'=>Q .non H',rt:=Q} (start N vs) H)
  (len:∀vs H Q E,sp vs H Q E->vs.length=ps.length:=by intro _ _ _ _ h;repeat (first|(obtain⟨rfl,_⟩:=h;exact rfl)|obtain⟨_,h⟩:=h)):FnOk P w K mg base CX0 (k+1) f fd ps sp:=F.ok S len z
section
variable {rest A B:List Stmt} {t:TS}
theorem aA (h:PS X st t) (k:Φ t):∃v,PSs X [st] v/\Φ v:=⟨_,aB h,k⟩
theorem ah (h:PS X st t) (k:∃u,PSs X rest u/\(let B:=u;Φ (zl t B))):∃v,PSs X (st::rest) v/\Φ v:=by
 obtain⟨u,hu,k⟩:=k;exact⟨_,pW h hu,k⟩
theorem uV {F:TS->TS} (z:∀{x},PSs X A x->PS X st (F x)) (k:∃a,PSs X A a/\(let b:=a;Φ (F b))):∃v,PSs X [st] v/\Φ v:=by
 obtain⟨a,ha,k⟩:=k;exact⟨_,aB (z ha),k⟩
theorem bV {F:TS->TS} (z:∀{x},PSs X A x->PS X st (F x)) (k:∃a,PSs X A a/\(let b:=a;∃u,PSs X rest u/\(let B:=u;Φ (zl (F b) B)))):∃v,PSs X (st::rest) v/\Φ v:=by
 obtain⟨a,ha,u,hu,k⟩:=k;exact⟨_,pW (z ha) hu,k⟩
theorem Iv (z:∀{x y},PSs X A x->PSs X B y->PS X st (F x y)) (k:∃a,PSs X A a/\(let b:=a;∃c,PSs X B c/\(let d:=c;Φ (F b d)))):∃v,PSs X [st] v/\Φ v:=by
 obtain⟨a,ha,c,hc,k⟩:=k;exact⟨_,aB (z ha hc),k⟩
theorem KM (z:∀{x y},PSs X A x->PSs X B y->PS X st (F x y)) (k:∃a,PSs X A a/\(let b:=a;∃c,PSs X B c/\(let d:=c;∃u,PSs X rest u/\(let B:=u;Φ (zl (F b d) B))))):∃v,PSs X (st::rest) v/\Φ v:=by
 obtain⟨a,ha,c,hc,u,hu,k⟩:=k;exact⟨_,pW (z ha hc) hu,k⟩
end
end
end L2
namespace SW
variable {m n:Int} {a b:Nat}
def rv:Nat->Nat->Nat
 |0,_=>0
 |k+1,n=>(n%2)*2^k+rv k (n/2)
theorem BY:∀(k n:Nat),rv k n<2^k
 |0,_=>by simp[rv]
 |k+1,n=>by
  have h:=BY k (n/2);have m:n%2<2:=Nat.mod_lt _ (by decide);have e:rv (k+1) n=(n%2)*2^k+rv k (n/2):=rfl;have p:2^(k+1)=2*2^k:=by rw[ZP,X2]
  rw[e,p];rcases Nat.mod_two_eq_zero_or_one n with z|z<;>rw[z]<;>lia
theorem ym:∀(k n:Nat),rv (k+1) n=rv k n*2+(n/2^k)%2
 |0,n=>by simp[rv]
 |k+1,n=>by
  have h:=ym k (n/2);have z:rv (k+2) n=(n%2)*2^(k+1)+rv (k+1) (n/2):=rfl;have e2:rv (k+1) n=(n%2)*2^k+rv k (n/2):=rfl;have d:n/2/2^k=n/2^(k+1):=by
   rw[Xg,ZP,X2]
  rw[z,e2,h,d,ZP];rw[Nat.add_mul,Nat.mul_assoc];lia
theorem EC:∀(k n:Nat),rv k (n%2^k)=rv k n
 |0,_=>rfl
 |k+1,n=>by
  have p:2^(k+1)=2*2^k:=by rw[ZP,X2]
  have z:n%2^(k+1)%2=n%2:=by
   rw[p];exact Nat.mod_mul_right_mod n 2 (2^k)
  have e2:n%2^(k+1)/2=n/2%2^k:=by
   rw[p];exact Nat.mod_mul_right_div_self n 2 (2^k)
  show(n%2^(k+1)%2)*2^k+rv k (n%2^(k+1)/2)=(n%2)*2^k+rv k (n/2);rw[z,e2,EC k (n/2)]
theorem BX:∀k,rv k 0=0
 |0=>rfl
 |k+1=>by show(0%2)*2^k+rv k (0/2)=0;rw[Nat.zero_div,BX k];simp
theorem uF:∀(a b n:Nat),rv (a+b) n=rv a n*2^b+rv b (n/2^a)
 |0,b,n=>by simp[rv]
 |a+1,b,n=>by
  have h:=uF a b (n/2);have e:a+1+b=(a+b)+1:=by lia
  have d:n/2/2^a=n/2^(a+1):=by
   rw[Xg,ZP,X2]
  rw[e];show(n%2)*2^(a+b)+rv (a+b) (n/2)=((n%2)*2^a+rv a (n/2))*2^b+_;rw[h,d,Nat.add_mul,Nat.mul_assoc,<-Nat.pow_add];lia
theorem EB:∀(k n:Nat),rv k (rv k n)=n%2^k
 |0,n=>by simp[rv,Nat.mod_one]
 |k+1,n=>by
  have e:rv (k+1) n=rv k n*2+(n/2^k)%2:=ym k n;have z:(rv k n*2+(n/2^k)%2)%2=(n/2^k)%2:=by lia
  have e2:(rv k n*2+(n/2^k)%2)/2=rv k n:=by lia
  rw[e];show(rv k n*2+(n/2^k)%2)%2*2^k+rv k ((rv k n*2+(n/2^k)%2)/2)=n%2^(k+1);rw[z,e2,EB k n,ZP,Nat.mod_mul,X2 (2^k)];lia
theorem Jj {n:Nat}:rv (a+b) n/2^b=rv a n:=by
 have l:=BY b (n/2^a);rw[uF a b n,X2,Nat.mul_add_div (Nat.two_pow_pos b),Nat.div_eq_of_lt l,ZQ]
theorem GY {s:Nat} (h:s<2^a):rv (a+b) s=rv a s*2^b:=by
 rw[uF a b s,Nat.div_eq_of_lt h,BX,ZQ]
@[irreducible] def tz (n:Int):Int:=((rv 16 n.toNat:Nat):Int)
@[irreducible] def rz (a:Nat) (n:Int):Int:=((rv a n.toNat:Nat):Int)
theorem qP (n:Int):0<=tz n:=by unfold tz;exact Xx _
theorem Ie (n:Int):tz n<65536:=by
 have h:=BY 16 n.toNat;have e:(2:Nat)^16=65536:=by decide
 unfold tz;lia
theorem BV (z:0<=n) (h1:n<65536):tz (tz n)=n:=by
 have h:=EB 16 n.toNat;have e:(2:Nat)^16=65536:=by decide
 unfold tz;rw[QN,h,e];lia
theorem IS (z:0<=n) (h1:n<65536) (k0:0<=m) (G:m<65536) (e:tz n=tz m):n=m:=by
 rw[<-BV z h1,<-BV k0 G,e]
theorem wZ (i:Nat) (m:Nat):((rv i m:Nat):Int)*2+((m/2^i:Nat):Int)%2=((rv (i+1) m:Nat):Int):=by
 rw[ym];lia
theorem w5 (i:Nat) (m:Nat):((m/2^i:Nat):Int)/2=((m/2^(i+1):Nat):Int):=by
 have d:m/2^i/2=m/2^(i+1):=by rw[Xg,ZP]
 rw[<-d];lia
theorem CT (a:Nat) (n:Int):0<=rz a n:=by unfold rz;exact Xx _
theorem KD (a:Nat) (n:Int):rz a n<2^a:=by
 have h:=BY a n.toNat;unfold rz;have c:((rv a n.toNat:Nat):Int)<((2^a:Nat):Int):=by exact_mod_cast h
 simpa using c
theorem KC (a:Nat) (G:0<=n) (h1:n<2^a):rz a (rz a n)=n:=by
 obtain⟨m,rfl⟩:=Za G;have h:=EB a m;have z:m<2^a:=by exact_mod_cast h1
 unfold rz;rw[QN,QN,h,Nat.mod_eq_of_lt z]
theorem GP (z:a+b=16) {s:Int} (I:0<=s) (h1:s<2^a):tz s=rz a s*2^b:=by
 obtain⟨m,rfl⟩:=Za I;have G:m<2^a:=by exact_mod_cast h1
 have h:=GY (b:=b) G;rw[z]at h;unfold tz rz;rw[QN,h];simp
theorem IR (z:a+b=16) (G:0<=m):tz m/2^b=rz a (m%2^a):=by
 obtain⟨n,rfl⟩:=Za G;have h:=Jj (a:=a) (b:=b) (n:=n);rw[z]at h;have e:((n:Int)%2^a).toNat=n%2^a:=by
  have c:((n:Int)%2^a)=((n%2^a:Nat):Int):=by simp
  rw[c,QN]
 unfold tz rz;rw[QN,e,EC,<-h];simp
structure Row (S:Int) (a b:Nat):Prop where
 ab:a+b=16
 lo:2<=a
 hi:a<=9
 eq:S=2^a
section
variable {S:Int} (R:Row S a b)
include R
theorem Row.mul:S*2^b=65536:=by
 rw[R.eq,<-Int.pow_add,R.ab];decide
theorem Row.wpos:(0:Int)<2^b:=Int.pow_pos (by decide)
theorem Row.pos:0<S:=by rw[R.eq];exact Int.pow_pos (by decide)
theorem Row.width:65536/S=2^b:=by
 rw[<-R.mul,Int.mul_ediv_cancel_left _ (QR R.pos)]
theorem Row.wpos':0<65536/S:=by rw[R.width];exact R.wpos
theorem Row.slot {s:Int} (G:0<=s) (h1:s<S):tz s=2^b*rz a s/\0<=rz a s/\rz a s<S/\rz a (rz a s)=s:=by
 have z:s<2^a:=by rw[<-R.eq];exact h1
 refine⟨by rw[GP R.ab G z,Xh],CT _ _,by rw[R.eq];exact KD _ _,KC _ G z⟩
theorem Row.top (z:0<=m):2^b*rz a (m%S)<=tz m/\tz m<2^b*rz a (m%S)+2^b:=by
 have d:=IR R.ab z;rw[<-R.eq]at d;have e:=Xl (tz m) (2^b);have p:=Qe (tz m) (QR R.wpos);have q:=Qb (tz m) R.wpos;rw[d]at e;lia
theorem Row.mod0 (m:Int):0<=m%S:=Qe _ (QR R.pos)
theorem Row.mod1 (m:Int):m%S<S:=Qb _ R.pos
theorem Row.between {W x y p:Int} (z:0<W) (G:W*x<=p) (h1:p<W*x+W) (k0:W*y<=p) (I:p<W*y+W):x=y:=by
 rcases Int.lt_trichotomy x y with h|h|h
 .have:W*(x+1)<=W*y:=XS (by lia) (XD z);rw[Int.mul_add]at this;lia
 .exact h
 .have:W*(y+1)<=W*x:=XS (by lia) (XD z);rw[Int.mul_add]at this;lia
theorem Row.st_has (z:0<=m):tz (m%S)<=tz m/\tz m<tz (m%S)+65536/S:=by
 obtain⟨e,_⟩:=R.slot (R.mod0 m) (R.mod1 m);have t:=R.top z;rw[R.width,e];exact t
end
theorem o7 {k:Nat} (h:k<=6):Row (4*2^k) (k+2) (14-k):=by
 refine⟨by lia,by lia,by lia,?_⟩;rw[Int.pow_add];lia
end SW
namespace L2
open PySem PySem.Spec PyProof.Rows
section
end
section
end
section
theorem Ej {H:Hp} {a:Addr} {o:HO} (h:H a=some o):upd H a o=H:=by
 funext b;by_cases z:b=a
 .subst z;rw[ac,h]
 .rw[ae z]
end
section
abbrev sd:List Value:=[.type "ValueError",.type "Exception",.type "BaseException",.type "object"]
def Kg (bm:List Value):Prop:=∃ups:List Addr,bm=ups.map Value.ref++sd
structure BL (K:PySem.W.Frag) (C:Addr) (bm:List Value):Prop where
 ob:∃nm q N bs sn sub ab col dd k0 k1 k2 k3 k5,K.lookup C=some (excClassObj nm q C N bs bm true sn sub ab col dd k0 k1 k2 k3 k5 "ValueError.__new__")
 mro:Kg bm
 kp:PySem.W.keepIn K (.ref C)=true
 ga:PySem.W.findIn K (.ref C) "__getattribute__"=some (some (.builtin "BaseException.__getattribute__"))
 gn:PySem.W.findIn K (.ref C) "__getattr__"=some none
 sa:PySem.W.findIn K (.ref C) "__setattr__"=some (some (.builtin "object.__setattr__"))
end
section
end
end L2
namespace L2
open PySem PySem.Spec PyProof.Rows PySem.W
end L2
namespace L2
open PySem PySem.Spec PyProof.Rows PySem.W
variable {E:Value->Shared->Prop}
section
variable {prog:Program} {w:World} {A:Around} {s:Shared} {K:PySem.W.Frag} {e C:Addr} {bm:List Value}
structure XIs (K:PySem.W.Frag) (C:Addr):Prop where
 ha:findIn K (.ref C) "__class__"=some (some (.builtin "object.__class__"))
 hn:specialIn K (.builtin "object.__class__") "__get__"=some (some (.builtin "getset_descriptor.__get__"))
 tk:takesIn K (.builtin "object.__class__")=some true
 hm:mroIn K C (.type "object")=some true
end
end L2
namespace L2
open PySem PySem.Spec PyProof.Rows PySem.W
section
variable {X:Cx} {pins:List (Addr×Obj)} {σ:St} {H:Hp} {s:Shared}
theorem kT (K:PySem.W.Frag) (hK:X.K=K):fh X (.builtin "isinstance") (λxs H Q=>∃x D t b,xs=[x,.ref D]/\TyOf K H x t/\kitOne K t (.ref D)=some b/\Q (.bl b) H):=by
 subst hK;intro pins s σ H xs us Q I r h;obtain⟨x,D,t,b,rfl,ty,e,q⟩:=h;obtain⟨u,w',rfl,G,z⟩:=tW r;cases (show w'=Value.ref D from z);exact xz I G ty e λO=>⟨.bl b,H,I.tok _,rfl,q⟩
end
end L2
namespace L2
open PySem PySem.Spec PyProof.Rows PySem.W
end L2
namespace L2
open PySem PySem.Spec PyProof.Rows PySem.W
structure F7 (K:PySem.W.Frag) (C:Addr) (m:Str) (v:Value):Prop where
 sp:specialIn K (.ref C) "__getattribute__"=some (some (.builtin "type.__getattribute__"))
 rd:readsIn K C (.type "type")=true
 at_:findCls K (.ref C) (.type "type") m=some (.val v)
section
variable {X:Cx} {pins:List (Addr×Obj)} {σ:St} {H:Hp} {s:Shared}
variable {CX:CXT} {k:Nat} {f C:Addr} {fd:FuncData} {ps:List Str} {sp:Sp} {dvs:List V} {ds:List Value} {E:XK} {x m:Str} {p pos apos:Pos} {e o:Expr} {es:List Expr} {ta:TE} {t:TA} {bm:List Value}
theorem yu {pl:Sem Bool} (Y:Gl X x) (Z:X.mg x=some (.ref C)) (hc:F7 X.K C m (.ref f)) (hk:PySem.W.keepIn X.K (.ref f)=true) (F:FnOk X.prog X.w X.K X.mg X.base CX k f fd ps sp) (hr:Room k X.A) (hb:Binds X.K fd ps ds) (hd:Vals dvs ds) (hx:kU CX X E) (ha:PA X (e::es) t)
  (z:(x==("__debug__":Str))=false:=by decide)
  (G:starEach (e::es) X.env=(false,eval e X.env)::starEach es X.env:=by rfl) (O:(backTo pos (starEach es X.env)).any (·.1)=false:=by rfl)
  (ht:eval (.Call (.Attribute (.Name x p) m apos) (e::es) [] pos) X.env=(do
   let ov<-eval (.Name x p) X.env
   standAt apos.atName
   let(f,first)<-holding [ov] (getMethod ov m pl)
   callWith pos f first (backTo pos (starEach (e::es) X.env)) (backToKw pos (keywordEach [] X.env))):=by rfl):
  PE X (.Call (.Attribute (.Name x p) m apos) (e::es) [] pos) (Ik sp dvs E t):=by
 intro pins s σ H Q I h;refine ZA (pl:=pl) (qe I Y Z ?_ z) ht;refine method_cls I.kIn hc.sp (cls_value I.kIn hc.rd hc.at_ rfl ?_);refine ZO (first:=[]) (h₀:=X.base) I.ok.mod.kin hk (thn (ha pos pins _ σ H _ (I.tok _) h) λus s2 ⟨vs,H2,U,r,q2⟩=>⟨U.kIn,?_⟩) G O;exact rj F hr hb hd hx U r q2
end
end L2
namespace L2
open PySem PySem.Spec PyProof.Rows PySem.W
end L2
namespace L2
open PySem PySem.Spec PyProof.Rows PySem.W
end L2
namespace L2
open PySem PySem.Spec PyProof.Rows PySem.W
end L2
namespace L2
open PySem PySem.Spec PyProof.Rows PySem.W
variable {T:Addr}
def iO (K:PySem.W.Frag) (fd:FuncData) (ps:List Str) (dvs:List V):Prop:=∃ds,Binds K fd ps ds/\Vals dvs ds
structure FunD (K:PySem.W.Frag) (x qual:Str) (st:Stmt) (f:Addr) (fd:FuncData):Prop where
 ex:∃(oc:Value) (od:Option Addr) (dV kV doc pm:Value) (an:Option Addr) (cdv ct:Value) (osl:Array (Option Value)),
  fd=fnOf x qual (gO st) (dR st) (aj st) dV kV doc pm an cdv ct/\K.lookup f=some ⟨oc,od,.func fd,osl⟩/\codeIn K cdv qual=true
 kp:keepIn K (.ref f)=true
section
variable {P:Program} {w:World} {K:PySem.W.Frag} {mg:Str->Option Value} {base:Heap} {x qual:Str} {st:Stmt} {f:Addr} {fd:FuncData} {N ps:List Str} {k:Nat} {sp:Sp}
theorem FunD.ok (F:FunD K x qual st f fd) (S:am N ps (aj st)) (len:∀vs H Q E,sp vs H Q E->vs.length=ps.length)
  (G:∀(z:Value) (A:Around) (outer:List Env) (s:Shared) (H:Hp) (vs:List V) (Q:VK) (E:XK),Room k (A.deeper (envOfC qual (aj st) s.heap.objs.size f z))->sp vs H Q E->
   ∃t,PSs (Af CX0 P w K mg base N qual (aj st) f z A outer s H E).nox (dR st) t/\t {nx:=λ_ H'=>Q .non H',rt:=Q} (start N vs) H):FnOk P w K mg base CX0 (k+1) f fd ps sp:=by
 obtain⟨oc,od,dV,kV,U,pm,an,z,ct,Y,rfl,Z,I⟩:=F.ex;refine ID Z I S len λA outer s H vs Q E hr O=>?_;obtain⟨t,h,q⟩:=G z A outer s H vs Q E hr O;exact⟨t,h.nox,q⟩
structure Ke (K:PySem.W.Frag) (x qual:Str) (st:Stmt) (T f:Addr) (fd:FuncData):Prop where
 toD:FunD K x qual st f fd
 ex:∃(kV doc pm:Value) (an:Option Addr) (cdv ct:Value),fd=fnOf x qual (gO st) (dR st) (aj st) (.ref T) kV doc pm an cdv ct
theorem Cn {Y:Value} {Z O:Option Addr} {I:Array (Option Value)} {kV G U z ct:Value} (l:K.lookup f=some ⟨Y,Z,.func (fnOf x qual (gO st) (dR st) (aj st) (.ref T) kV G U O z ct),I⟩)
  (c:codeIn K z qual=true) (k:keepIn K (.ref f)=true):Ke K x qual st T f (fnOf x qual (gO st) (dR st) (aj st) (.ref T) kV G U O z ct):=⟨⟨⟨Y,Z,_,kV,G,U,O,z,ct,I,rfl,l,c⟩,k⟩,⟨kV,G,U,O,z,ct,rfl⟩⟩
theorem cy {dd:Option Addr} {items:Array Value} {n:Nat} {U:Array (Option Value)} {ds:List Value} (g:Nat) (Z:g+ds.length=ps.length) (F:Ke K x qual st T f fd) (Y:K.lookup T=some ⟨.type "tuple",dd,.seq items n,U⟩)
  (h:∀(kV z I:Value) (O:Option Addr) (G ct:Value) (us:List Value),us.length=g->∃k,bindArgs (fnOf x qual (gO st) (dR st) (aj st) (.ref T) kV z I O G ct) ⟨us,[]⟩=seqItems? (.ref T)>>=k/\k (some items)=pure (ps.zip (us++ds))):
  Binds K fd ps ds:=by
 obtain⟨kV,z,I,O,G,ct,rfl⟩:=F.ex;intro s us X hl;obtain⟨k,h1,h2⟩:=h kV z I O G ct us (by rw[Qa]at hl;lia);exact BindsTo.of_defaults rfl (X _ _ Y) rfl h1 h2
end
end L2
namespace L2
open PySem PySem.Spec PyProof.Rows
section
end
section
end
end L2
namespace L2
open PySem PySem.Spec PyProof.Rows SeqAt
section
variable {X:Cx}
theorem cE {st:Stmt}:PS X st (λ_ _ _=>False):=λ_ _ _ _ _ _ h=>h.elim
theorem PlainL.isL {h:Heap} {a:Addr} {xs:Array Value} (p:PlainL h a xs):h.IsList a xs:=by
 obtain⟨o,n,e,c,_,d⟩:=p;exact⟨o,e,c,n,d⟩
end
end L2
namespace L2
open PySem PySem.Spec PyProof.Rows SeqAt
def Fl:V->Prop
 | .int _=>True| .str _=>True| .non=>True|_=>False
section
variable {X:Cx} {pins:List (Addr×Obj)} {σ:St} {H:Hp} {s:Shared}
theorem yM {A:Around} {x:V} {u v:Value} (h:Fl x) (r1:RelV x u) (z:RelV x v):EqAt A s u v true:=by
 cases x with
 |int n=>
  obtain⟨G,rfl⟩:=r1;obtain⟨I,rfl⟩:=z;have:=EqAt.int_int (A:=A) (s:=s) n G n I;rwa [beq_self_eq_true]at this
 |str n=>
  obtain⟨G,rfl⟩:=r1;obtain⟨I,rfl⟩:=z;have:=EqAt.str_str (A:=A) (s:=s) n G n I;rwa [beq_self_eq_true]at this
 |non=>
  cases (show u=Value.none from r1);cases (show v=Value.none from z);exact EqAt.same _
 |_=>exact h.elim
end
end L2
namespace L2
open PySem PySem.Spec PyProof.Rows SeqAt
def Alk (K:PySem.W.Frag) (H:Hp):Nat->V->V->Prop
 |0,x,y=>Fl x/\x=y
 |n+1,x,y=>(Fl x/\x=y)\/∃a b xs ys,x= .ref a/\y= .ref b/\(SqL K H a xs/\SqL K H b ys\/SqT K H a xs/\SqT K H b ys)/\xs.length=ys.length/\∀(j:Nat) (u v:V),xs[j]?=some u->ys[j]?=some v->Alk K H n u v
theorem vz:∀{xs:List V} {us:List Value},Vals xs us->∀(j:Nat) (h:j<us.length),∃x,xs[j]?=some x/\RelV x us[j]
 |_,_,.nil,_,h=>absurd h (XV _)
 |_,_,.cons r _,0,_=>⟨_,rfl,r⟩
 |_,_,.cons _ r,j+1,h=>vz r j (Nat.lt_of_succ_lt_succ h)
section
variable {X:Cx} {pins:List (Addr×Obj)} {σ:St} {H:Hp} {s:Shared}
theorem FZ (I:Inv X pins σ H s):∀(n:Nat) {A:Around} {x y:V} {u v:Value},A.units+n<cLine->Alk X.K H n x y->RelV x u->RelV y v->EqAt A s u v true
 |0,_,_,_,_,_,_,⟨f,e⟩,r1,r2=>yM f r1 (e▸r2)
 |n+1,A,x,y,u,v,hu,h,r1,r2=>by
  rcases h with⟨f,e⟩|⟨a,b,xs,ys,rfl,rfl,o,l,g⟩
  .exact yM f r1 (e▸r2)
  cases r1;cases r2;by_cases e:a=b
  .subst e;exact EqAt.same _
  have it:∀{us vs:List Value},Vals xs us->Vals ys vs->∀(j:Nat) (h1:j<us.length) (h2:j<vs.length),EqAt A.in1 s us[j] vs[j] true:=λz G j h1 h2=>by
   obtain⟨x,U,Y⟩:=vz z j h1;obtain⟨y,e2,Z⟩:=vz G j h2;exact FZ I n (by show A.units+1+n<cLine;lia) (g j x y U e2) Y Z
  refine EqAt.of_refs e ?_;rcases o with⟨h1,h2⟩|⟨h1,h2⟩
  .obtain⟨i1,z,O,_⟩:=I.list h1;obtain⟨i2,G,p2,_⟩:=I.list h2;have:=RcAt.lists (A:=A) (e:=λ_=>true) (PlainL.isL O) (PlainL.isL p2) (by simpa[<-z.length,<-G.length]using l) (by lia) (λj a b=>by simpa using it z G j (by simpa using a) (by simpa using b));rw[QS.mpr λ_ _=>rfl]at this;exact this
  .obtain⟨i1,z,O,_⟩:=I.tuple h1;obtain⟨i2,G,p2,_⟩:=I.tuple h2;have:=RcAt.tuples (A:=A) (e:=λ_=>true) O p2 (by lia) (λj a b=>by simpa using it z G j (by simpa using a) (by simpa using b));rw[QS.mpr λ_ _=>rfl]at this;simpa[<-z.length,<-G.length,l]using this
inductive rAlk (K:PySem.W.Frag) (f:Bool) (x y:V) (H:Hp) (Q:VK):Prop
 |mk (a b:Addr) (xs ys:List V) (_:x= .ref a) (_:y= .ref b) (_:(SqL K H a xs/\SqL K H b ys\/SqT K H a xs/\SqT K H b ys)) (_:xs.length=ys.length) (_:(∀(j:Nat) (u v:V),xs[j]?=some u->ys[j]?=some v->Alk K H 4 u v)) (_:Q (.bl (!f)) H)
theorem EQ (K:PySem.W.Frag) (hK:X.K=K) (hu:X.A.units+20<cLine):OpR X (compareOp .NotEq) (rAlk K true):=by
 subst hK;intro pins s σ H x y v u Q I Z ry h;obtain⟨a,b,xs,ys,rfl,rfl,o,l,g,q⟩:=h;cases Z;cases ry;have it:∀{us vs:List Value},Vals xs us->Vals ys vs->∀(j:Nat) (h1:j<us.length) (h2:j<vs.length),EqAt X.A.in1 s us[j] vs[j] true:=λz G j h1 h2=>by
  obtain⟨x,e1,q1⟩:=vz z j h1;obtain⟨y,e2,q2⟩:=vz G j h2;exact FZ I 4 (by show X.A.units+1+4<cLine;lia) (g j x y e1 e2) q1 q2
 rcases o with⟨h1,h2⟩|⟨h1,h2⟩
 .obtain⟨U,z,O,_⟩:=I.list h1;obtain⟨Y,G,p2,_⟩:=I.list h2;have:=RcNeAt.lists (A:=X.A) (e:=λ_=>true) (PlainL.isL O) (PlainL.isL p2) (by simpa[<-z.length,<-G.length]using l) (by lia) (λj a b=>by simpa using it z G j (by simpa using a) (by simpa using b));rw[QS.mpr λ_ _=>rfl]at this;exact this _ _ _ _ ⟨.bl _,H,I,rfl,q⟩
 .obtain⟨U,z,O,_⟩:=I.tuple h1;obtain⟨Y,G,p2,_⟩:=I.tuple h2;have:=RcNeAt.tuples (A:=X.A) (e:=λ_=>true) O p2 (by lia) (λj a b=>by simpa using it z G j (by simpa using a) (by simpa using b));rw[QS.mpr λ_ _=>rfl,show(true&&U.toArray.size==Y.toArray.size)=true by simp[<-z.length,<-G.length,l]]at this;exact this _ _ _ _ ⟨.bl _,H,I,rfl,q⟩
end
end L2
namespace L2
open PySem PySem.Spec PyProof.Rows
variable {D:Addr->Sp->Prop} {X:Cx} {o:HO} {H:Hp} {kk:Nat}
theorem fX {x y:V} {A B:Prop} (e:x=y) (h:A):if decide (x=y)=true then A else B:=by
 rw[decide_eq_true e];exact db h
theorem ai {p:Addr} (h:H p=none):Same H (upd H p o):=λb u e=>by
 rw[ae (ak e h)];exact e
def AllI (P:Int->Prop):List V->Prop
 | []=>True
 | .int m::r=>P m/\AllI P r
 |_::_=>False
theorem AllI.ints {P:Int->Prop}:∀{L:List V},AllI P L->∃ns:List Int,L=ns.map V.int/\∀m∈ns,P m
 | [],_=>⟨[],rfl,λ_ z=>nomatch z⟩
 | .int m::r,h=>by
  obtain⟨ns,e,q⟩:=AllI.ints h.2;refine⟨m::ns,by rw[e];rfl,λx hx=>?_⟩;rcases Qg.mp hx with rfl|hx
  .exact h.1
  .exact q x hx
theorem xh {P:Int->Prop} {L:List V} {c n:Int} (h:AllI P L) (I:(L.length:Int)=n) (G:0<n):∃m,atI L (c%n)=some (.int m)/\P m:=by
 obtain⟨ns,e,q⟩:=h.ints;subst e;have a:=Qe c (QR G);have b:=Qb c G;rw[Q0]at I;have z:(c%n).toNat<ns.length:=by lia
 refine⟨_,vn a (by lia),q _ ?_⟩;rw[Qm,Q3 z];exact Zh z
theorem bP {H':Hp} {l:Addr} (s:Same H H') (n:H l=none):Same H (upd H' l o):=λb u e=>by
 rw[ae (ak e n)];exact s b u e
theorem Fj {K:PySem.W.Frag} {C D:Addr} {b:Bool} (h1:PySem.W.typeIn K (.ref D)=some (.type "type")) (h2:PySem.W.isClsIn K D=true) (I:PySem.W.subIn K (.ref C) (.ref D)=some b) (G:C=D->b=true):
  PySem.W.kitOne K (.ref C) (.ref D)=some b:=by
 unfold PySem.W.kitOne;by_cases z:((Value.ref C:Value)== .ref D)=true
 .rw[if_pos z,G (Value.ref.inj (beq_iff_eq.mp z))]
 .rw[if_neg z];show(if((PySem.W.clsIn K D).isSome&&PySem.W.typeIn K (.ref D)==some (.type "type"))=true then PySem.W.subIn K (.ref C) (.ref D)else none)=some b;have:(PySem.W.clsIn K D).isSome=true:=h2;rw[if_pos (by rw[this,h1];simp),I]
def Lb (_ j:Int):Prop:=0<j/\j.natAbs.log2<9000
theorem zI:OpR X (binaryOp .FloorDiv) (rI Lb λi j=> .int (i/j)):=opI λi j _ _ _ _ _ hc q=>by
 have h1:(0:Int)<j:=hc.1;exact floordiv_int (by lia) (by rw[V0 i (by lia)];exact q) (.inl (PyProof.noPylong_of_log2 hc.2))
theorem Room.u20 {k:Nat} {A:Around} (r:Room k A):A.units+20<cLine:=by have:=r.un;lia
section
variable {k:Nat} {f C:Addr} {fd:FuncData} {ps:List Str} {sp:Sp} {dvs:List V} {ds:List Value} {E:XK} {x m:Str} {p pos apos:Pos} {e o:Expr} {es:List Expr} {ta:TE} {t:TA}
def DV (X:Cx) (kk:Nat) (m:Str) (C:Addr) (sp:Sp):Prop:=Cls X.K C/\∃f fd ps,bL X.K C m f/\FnOk X.prog X.w X.K X.mg X.base CX0 kk f fd ps sp/\Binds X.K fd ps []
def D1 (C:Addr) (sp:Sp):Addr->Sp->Prop:=λC' sp'=>C'=C/\sp'=sp
def DOr (D D':Addr->Sp->Prop):Addr->Sp->Prop:=λC sp=>D C sp\/D' C sp
theorem b4 (c:Cls X.K C) (G:bL X.K C m f) (F:FnOk X.prog X.w X.K X.mg X.base CX0 k f fd ps sp) (hb:Binds X.K fd ps []) (hk:k<=kk):∀z sp',D1 C sp z sp'->DV X kk m z sp':=λz sp' h=>by
 obtain⟨rfl,rfl⟩:=h;exact⟨c,f,fd,ps,G,F.mono hk,hb⟩
theorem gN {G:Addr->Sp->Prop} (h:∀C sp,D C sp->DV X kk m C sp) (h':∀C sp,G C sp->DV X kk m C sp):∀C sp,DOr D G C sp->DV X kk m C sp:=λC sp z=>z.elim (h C sp) (h' C sp)
inductive GS (D:Addr->Sp->Prop) (m:Str) (t:TA) (σ:St) (Q:VK) (x:V) (H1:Hp):Prop
 |mk (a C dx fs sp:_) (_:x= .ref a) (_:H1 a=some (.ins C dx fs)) (_:fs.lookup m=none) (_:D C sp) (_:t σ H1 λvs H2=>sp (x::vs) H2 Q E0)
def Er (D:Addr->Sp->Prop) (m:Str) (ta:TE) (t:TA):TE:=λσ H Q=>ta σ H λx H1=>GS D m t σ Q x H1
theorem pY {pl:Sem Bool} (hD:∀C sp,D C sp->DV X kk m C sp) (hr:Room kk X.A) (he:PE X o ta) (ha:PA X (e::es) t)
  (z:starEach (e::es) X.env=(false,eval e X.env)::starEach es X.env:=by rfl) (G:(backTo pos (starEach es X.env)).any (·.1)=false:=by rfl)
  (ht:eval (.Call (.Attribute o m apos) (e::es) [] pos) X.env=(do
   let ov<-eval o X.env
   standAt apos.atName
   let(f,first)<-holding [ov] (getMethod ov m pl)
   callWith pos f first (backTo pos (starEach (e::es) X.env)) (backToKw pos (keywordEach [] X.env))):=by rfl):
  PE X (.Call (.Attribute o m apos) (e::es) [] pos) (Er D m ta t):=by
 intro pins s σ H Q I h;refine ZA (pl:=pl) (thn (he pins s σ H _ I h) λu s1 O=>?_) ht;obtain⟨x,H1,U,rx,a,C,dx,fs,sp,ex,ea,l,d,q⟩:=O;subst ex;obtain rfl:u=Value.ref a:=rx;obtain⟨c,f,fd,ps,Y,F,hb⟩:=hD C sp d;refine kD U ea c Y l ?_;refine ZO (first:=[.ref a]) (h₀:=X.base) I.ok.mod.kin Y.kp (thn (ha pos pins s1 σ H1 _ U q) λus s2 ⟨vs,H2,Z,r,q2⟩=>⟨Z.kIn,?_⟩) z G;exact rj (us:= .ref a::us) (vs:= .ref a::vs) (dvs:=[]) F hr hb .nil az Z (.cons rfl r) (by rw[ZL];exact q2)
theorem C2 {pl:Sem Bool} (hD:∀C sp,D C sp->DV X kk m C sp) (U:Room kk X.A) (he:PE X o ta)
  (Y:eval (.Call (.Attribute o m apos) [] [] pos) X.env=(do
   let ov<-eval o X.env
   standAt apos.atName
   let(f,first)<-holding [ov] (getMethod ov m pl)
   callWith pos f first (backTo pos (starEach [] X.env)) (backToKw pos (keywordEach [] X.env))):=by rfl):
  PE X (.Call (.Attribute o m apos) [] [] pos) (Er D m ta GR):=by
 intro pins s σ H Q I h;refine ZA (pl:=pl) (thn (he pins s σ H _ I h) λu s1 z=>?_) Y;obtain⟨x,H1,G,Z,a,C,dx,fs,sp,ex,ea,l,d,q⟩:=z;subst ex;obtain rfl:u=Value.ref a:=Z;obtain⟨c,f,fd,ps,O,F,hb⟩:=hD C sp d;refine kD G ea c O l ?_;refine Xu (first:=[.ref a]) G.kIn O.kp ?_;exact rj (us:=[.ref a]) (vs:=[.ref a]) (dvs:=[]) F U hb .nil az G (.cons rfl .nil) q
end
end L2
namespace Srt
open PySem PyProof.Rows
variable {xs ys:Array Keyed} {blt:Keyed->Keyed->Bool} {e hi i j lo n nrem:Nat} {st:SortSt} {γ:Type} {Q:Unit->SortSt->Prop} {E:Value->Shared->Prop}
abbrev dk:Keyed:=(Value.none,Value.none)
def g (xs:Array Keyed) (i:Nat):Keyed:=xs[i]?.getD dk
theorem dC (h:i<xs.size):xs[i]?=some (g xs i):=by
 unfold g;rw[getElem?_pos xs i h];rfl
theorem qj (h:xs[i]?=ys[j]?):g xs i=g ys j:=by unfold g;rw[h]
theorem xA (h:i<xs.size):g xs i∈xs:=by
 have e:=dC h;exact Array.mem_of_getElem? e
structure Cmp (blt:Keyed->Keyed->Bool):Prop where
 asym:∀x y,blt x y=true->blt y x=false
 tr:∀x y z,blt y x=false->blt z y=false->blt z x=false
section
variable (C:Cmp blt)
abbrev le (blt:Keyed->Keyed->Bool) (x y:Keyed):Prop:=blt y x=false
include C
theorem Cmp.trans {x y z:Keyed} (h1:le blt x y) (h2:le blt y z):le blt x z:=C.tr x y z h1 h2
theorem Cmp.of_lt {x y:Keyed} (h:blt x y=true):le blt x y:=C.asym _ _ h
end
def On (blt:Keyed->Keyed->Bool) (xs:Array Keyed) (lo hi:Nat):Prop:=∀i j,lo<=i->i<j->j<hi->le blt (g xs i) (g xs j)
def Off (blt:Keyed->Keyed->Bool) (xs:Array Keyed) (lo hi:Nat):Prop:=∀i j,lo<=i->i<j->j<hi->le blt (g xs j) (g xs i)
theorem On.one:On blt xs lo (lo+1):=λi j h1 h2 z=>by lia
theorem Off.one:Off blt xs lo (lo+1):=λi j h1 h2 z=>by lia
theorem On.congr (h:On blt xs lo hi) (e:∀k,lo<=k->k<hi->g ys k=g xs k):On blt ys lo hi:=λi j h1 h2 z=>by
 rw[e i h1 (by lia),e j (by lia) z];exact h i j h1 h2 z
theorem On.sub {z hi':Nat} (h:On blt xs lo hi) (h1:lo<=z) (h2:hi'<=hi):On blt xs z hi':=λi j a b c=>h i j (by lia) b (by lia)
section
variable (C:Cmp blt)
include C
theorem On.snoc (h:On blt xs lo (lo+n)) (I:1<=n) (e:le blt (g xs (lo+n-1)) (g xs (lo+n))):On blt xs lo (lo+(n+1)):=λi j h1 h2 O=>by
 by_cases z:j<lo+n
 .exact h i j h1 h2 z
 .have G:j=lo+n:=by lia
  subst G;by_cases y:i=lo+n-1
  .subst y;exact e
  .exact C.trans (h i (lo+n-1) h1 (by lia) (by lia)) e
theorem Off.snoc (h:Off blt xs lo (lo+n)) (I:1<=n) (e:le blt (g xs (lo+n)) (g xs (lo+n-1))):Off blt xs lo (lo+(n+1)):=λi j h1 h2 O=>by
 by_cases z:j<lo+n
 .exact h i j h1 h2 z
 .have G:j=lo+n:=by lia
  subst G;by_cases y:i=lo+n-1
  .subst y;exact e
  .exact C.trans e (h i (lo+n-1) h1 (by lia) (by lia))
end
theorem Fy (z:j<=xs.size) (k:Nat):g (mirror xs i j ((j-i)/2)) k=if i<=k/\k<j then g xs (i+j-1-k)else g xs k:=by
 have e:=getElem?_mirror_all (i:=i) z k;by_cases h1:i<=k/\k<j
 .rw[if_pos h1]at e⊢;exact qj e
 .rw[if_neg h1]at e⊢;exact qj e
theorem Fz {src d:Nat} (hs:src<xs.size) (hd:d<=src) (k:Nat):g (bubble xs src d) k=if k=src-d then g xs src else if src-d<k/\k<=src then g xs (k-1)else g xs k:=by
 have e:=getElem?_bubble hs d hd k;by_cases h1:k=src-d
 .rw[if_pos h1]at e⊢;exact qj e
 .rw[if_neg h1]at e⊢;by_cases h2:src-d<k/\k<=src
  .rw[if_pos h2]at e⊢;exact qj e
  .rw[if_neg h2]at e⊢;exact qj e
section
variable {prog:Program} {w:World} {A:Around} {s:Shared} {a₀:Array Keyed} {κ:SortKind}
def y4 (prog:Program) (w:World) (A:Around) (E:Value->Shared->Prop) (s:Shared) (a₀:Array Keyed) (κ:SortKind) (blt:Keyed->Keyed->Bool):Prop:=
 ∀(x y:Keyed) (st:SortSt) (Q:Option Bool->SortSt->Prop),x∈a₀->y∈a₀->kindOf st=κ->Q (some (blt x y)) st->wpS (model prog w) A E s (lt' x y) Q st
structure Base (a₀:Array Keyed) (κ:SortKind) (st:SortSt):Prop where
 kind:kindOf st=κ
 fine:failedOf st=none
 perm:(arrOf st).Perm a₀
theorem Base.size (B:Base a₀ κ st):(arrOf st).size=a₀.size:=B.perm.size_eq
theorem Base.mem (B:Base a₀ κ st) (h:i<a₀.size):g (arrOf st) i∈a₀:=(B.perm.mem_iff).mp (xA (by rw[B.size];exact h))
variable (L:y4 prog w A E s a₀ κ blt)
include L
theorem pK {Q:Option Bool->SortSt->Prop} (B:Base a₀ κ st) (hi:i<a₀.size) (z:j<a₀.size) (h:Q (some (blt (g (arrOf st) i) (g (arrOf st) j))) st):
  wpS (model prog w) A E s (ltAt' i j) Q st:=by
 rw[ltAt'_eq];refine wpS_bind (wpS_get ?_);show wpS _ _ _ _ (do let x<-elem' (arrOf st) i;let y<-elem' (arrOf st) j;lt' x y) Q st;rw[elem'_eq,elem'_eq,dC (by rw[B.size];exact hi),dC (by rw[B.size];exact z)];refine wpS_bind (wpS_pure (wpS_bind (wpS_pure ?_)));exact L _ _ st Q (B.mem hi) (B.mem z) B.kind h
omit L in
theorem Eh {α:Type} {m m':StateT SortSt Sem α} {Q:α->SortSt->Prop} (e:m=m') (h:wpS (model prog w) A E s m' Q st):wpS (model prog w) A E s m Q st:=by rw[e];exact h
abbrev Keep (lo:Nat) (xs ys:Array Keyed):Prop:=∀k,k<lo->g ys k=g xs k
theorem gV (B:Base a₀ κ st) (z:j<=a₀.size)
  (h:∀st',Base a₀ κ st'->pendingOf st'=pendingOf st->(∀k,g (arrOf st') k=if i<=k/\k<j then g (arrOf st) (i+j-1-k)else g (arrOf st) k)->Q () st'):
  wpS (model prog w) A E s (reverseSlice' i j) Q st:=by
 rw[reverseSlice'_eq];refine wpS_modify (h _ ⟨B.kind,B.fine,(mirror_perm _ _ _ _).trans B.perm⟩ rfl λk=>?_);exact Fy (by rw[B.size];exact z) k
theorem Eg {a:Nat} {f:Nat->Option γ×Nat->StateT SortSt Sem (ForInStep (Option γ×Nat))} {Q:Option γ×Nat->SortSt->Prop} (C:Cmp blt) (B:Base a₀ κ st) (ha:1<=a) (G:a<=nrem) (hz:lo+nrem<=a₀.size) (hs:On blt (arrOf st) lo (lo+a))
  (hf:∀(i n:Nat) (R:ForInStep (Option γ×Nat)->SortSt->Prop),n<nrem->1<=n->(blt (g (arrOf st) (lo+n)) (g (arrOf st) (lo+n-1))=true->R (.done (none,n)) st)->(blt (g (arrOf st) (lo+n)) (g (arrOf st) (lo+n-1))=false->R (.yield (none,n+1)) st)->wpS (model prog w) A E s (f i (none,n)) R st)
  (h:∀n,a<=n->n<=nrem->On blt (arrOf st) lo (lo+n)->(n<nrem->blt (g (arrOf st) (lo+n)) (g (arrOf st) (lo+n-1))=true)->Q (none,n) st):
  wpS (model prog w) A E s (forIn [a:nrem] (none,a) f) Q st:=by
 refine wpS_forRange (I:=λi c st'=>st'=st/\c=(none,i)/\a<=i/\i<=nrem/\On blt (arrOf st) lo (lo+i)) ?_ ?_ ⟨rfl,rfl,Q4 _,G,hs⟩
 .rintro i c st' h1 h2 ⟨rfl,rfl,U,Y,O⟩;refine hf i i _ h2 (by lia) (λe=>?_) (λe=>?_)
  .exact h i U Y O λ_=>e
  .exact⟨rfl,rfl,by lia,by lia,O.snoc C (by lia) e⟩
 .rintro c st' ⟨rfl,rfl,U,Y,O⟩;have e:max a nrem=nrem:=QL G;rw[e]at O⊢;exact h nrem G (Q4 _) O λz=>absurd z (Zu _)
omit L in
theorem rG {b:Nat} (hb:lo<=b) (h:Off blt xs lo e) (o:On blt xs b e) (hy:∀k,g ys k=if b<=k/\k<e then g xs (b+e-1-k)else g xs k):Off blt ys lo e:=λi j h1 h2 z=>by
 rw[hy i,hy j];by_cases G:b<=j
 .rw[if_pos ⟨G,z⟩];by_cases I:b<=i
  .rw[if_pos ⟨I,by lia⟩];exact o _ _ (by lia) (by lia) (by lia)
  .rw[if_neg (by lia)];exact h _ _ h1 (by lia) (by lia)
 .rw[if_neg (by lia),if_neg (by lia)];exact h i j h1 h2 z
omit L in
theorem Ju (h:Off blt xs lo e) (hy:∀k,g ys k=if lo<=k/\k<e then g xs (lo+e-1-k)else g xs k):On blt ys lo e:=λi j h1 h2 z=>by
 rw[hy i,hy j,if_pos ⟨h1,by lia⟩,if_pos ⟨by lia,z⟩];exact h _ _ (by lia) (by lia) (by lia)
omit L in
theorem He (h:On blt xs lo e) (hy:∀k,g ys k=if lo<=k/\k<e then g xs (lo+e-1-k)else g xs k):Off blt ys lo e:=λi j h1 h2 z=>by
 rw[hy i,hy j,if_pos (show lo<=j/\j<e by lia),if_pos (show lo<=i/\i<e by lia)];exact h _ _ (by lia) (by lia) (by lia)
def FY (lo:Nat):Nat->Option (Option Nat)×Nat->StateT SortSt Sem (ForInStep (Option (Option Nat)×Nat)):=λ_ __s=>do
 let __x<-ltAt' (lo+__s.snd) (lo+__s.snd-1)
 match __x with
 |some smaller=>if smaller=true then pure (ForInStep.done (none,__s.snd))else pure (ForInStep.yield (none,__s.snd+1))
 |_=>pure (ForInStep.done (some none,__s.snd))
def xa (lo n nrem:Nat):StateT SortSt Sem (Option Nat):=do
 reverseSlice' lo (lo+n)
 let __s<-forIn [n:nrem] (none,n) (FY lo)
 match __s.fst with
 |some r=>pure r
 |none=>pure (some __s.snd)
def Cq (lo:Nat):Nat->Option (Option Nat)×Nat×Nat->StateT SortSt Sem (ForInStep (Option (Option Nat)×Nat×Nat)):=λ_ __s=>do
 let __x<-ltAt' (lo+__s.snd.fst) (lo+__s.snd.fst-1)
 match __x with
 |some smaller=>
  if smaller=true then
   if __s.snd.snd>0 then do
    reverseSlice' (lo+__s.snd.fst-(__s.snd.snd+1)) (lo+__s.snd.fst)
    pure (ForInStep.yield (none,__s.snd.fst+1,0))
   else pure (ForInStep.yield (none,__s.snd.fst+1,0))
  else do
   let __x<-ltAt' (lo+__s.snd.fst-1) (lo+__s.snd.fst)
   match __x with
   |some larger=>
    if larger=true then pure (ForInStep.done (none,__s.snd.fst,__s.snd.snd))
    else pure (ForInStep.yield (none,__s.snd.fst+1,__s.snd.snd+1))
   |_=>pure (ForInStep.done (some none,__s.snd.fst,__s.snd.snd))
 |_=>pure (ForInStep.done (some none,__s.snd.fst,__s.snd.snd))
def xG (lo n nrem:Nat):StateT SortSt Sem (Option Nat):=do
 liftM (rule "list.sort.descending-run")
 let __s<-forIn [n+1:nrem] (none,n+1,0) (Cq lo)
 match __s.fst with
 |some r=>pure r
 |none=>
  if __s.snd.snd>0 then do
   reverseSlice' (lo+__s.snd.fst-(__s.snd.snd+1)) (lo+__s.snd.fst)
   xa lo __s.snd.fst nrem
  else xa lo __s.snd.fst nrem
theorem BS {R:ForInStep (Option (Option Nat)×Nat)->SortSt->Prop} (B:Base a₀ κ st) (hz:lo+nrem<=a₀.size) (G:n<nrem) (h1:1<=n)
  (z:blt (g (arrOf st) (lo+n)) (g (arrOf st) (lo+n-1))=true->R (.done (none,n)) st) (hf:blt (g (arrOf st) (lo+n)) (g (arrOf st) (lo+n-1))=false->R (.yield (none,n+1)) st):wpS (model prog w) A E s (FY lo i (none,n)) R st:=by
 unfold FY;refine wpS_bind (pK L B (by dsimp only;lia) (by dsimp only;lia) ?_);dsimp only;cases e:blt (g (arrOf st) (lo+n)) (g (arrOf st) (lo+n-1))with
 |true=>exact wpS_pure (z e)
 |false=>exact wpS_pure (hf e)
theorem pJ {Q:Option Nat->SortSt->Prop} (C:Cmp blt) (B:Base a₀ κ st) (h1:1<=n) (z:n<=nrem) (hz:lo+nrem<=a₀.size) (I:Off blt (arrOf st) lo (lo+n))
  (h:∀m st',Base a₀ κ st'->pendingOf st'=pendingOf st->1<=m->m<=nrem->On blt (arrOf st') lo (lo+m)->Keep lo (arrOf st) (arrOf st')->Q (some m) st'):wpS (model prog w) A E s (xa lo n nrem) Q st:=by
 unfold xa;refine wpS_bind (gV L B (by lia) λst' G O hy=>?_);refine wpS_bind (Eg L C G h1 z hz (Ju I hy) (λi n R z h1 U hf=>BS L G (i:=i) hz z h1 U hf) (λm ha Y hs _=>?_));exact wpS_pure (h m st' G O (by lia) Y hs λk hk=>by rw[hy k,if_neg (by lia)])
theorem zg {Q:Option Nat->SortSt->Prop} (C:Cmp blt) (B:Base a₀ κ st) (h1:1<=n) (hn:n+1<=nrem) (hz:lo+nrem<=a₀.size) (ho:Off blt (arrOf st) lo (lo+(n+1)))
  (h:∀m st',Base a₀ κ st'->pendingOf st'=pendingOf st->1<=m->m<=nrem->On blt (arrOf st') lo (lo+m)->Keep lo (arrOf st) (arrOf st')->Q (some m) st'):wpS (model prog w) A E s (xG lo n nrem) Q st:=by
 unfold xG;refine wpS_bind (wpS_lift (wpAny_rule ⟨rfl,?_⟩));refine wpS_bind (wpS_forRange (I:=λi c st'=>∃q,c=(none,i,q)/\Base a₀ κ st'/\pendingOf st'=pendingOf st/\Keep lo (arrOf st) (arrOf st')/\n+1<=i/\i<=nrem/\q+1<=i/\Off blt (arrOf st') lo (lo+i)/\On blt (arrOf st') (lo+i-(q+1)) (lo+i)) ?_ ?_
  ⟨0,rfl,B,rfl,λ_ _=>rfl,Q4 _,hn,by lia,ho,λi j a b c=>by lia⟩)
 .rintro i c st' a2 a3 ⟨q,rfl,B',hp,hk,h2,h3,h4,O,on⟩;unfold Cq;refine wpS_bind (pK L B' (by dsimp only;lia) (by dsimp only;lia) ?_);dsimp only;cases e:blt (g (arrOf st') (lo+i)) (g (arrOf st') (lo+i-1))with
  |true=>
   by_cases q0:q>0
   .rw[if_pos rfl,if_pos q0];refine wpS_bind (gV L B' (by lia) λst2 B2 Z hy=>?_);refine wpS_pure ⟨0,rfl,B2,Z.trans hp,λk G=>by rw[hy k,if_neg (by lia)];exact hk k G,by lia,by lia,by lia,?_,λi j a b c=>by lia⟩;refine(rG (by lia) O on hy).snoc C (by lia) ?_;rw[hy,hy,if_neg (by lia),if_pos (by lia)];have z:lo+i-(q+1)+(lo+i)-1-(lo+i-1)=lo+i-(q+1):=by lia
    rw[z];exact C.trans (C.of_lt e) (O _ _ (by lia) (by lia) (by lia))
   .rw[if_pos rfl,if_neg q0];exact wpS_pure ⟨0,rfl,B',hp,hk,by lia,by lia,by lia,O.snoc C (by lia) (C.of_lt e),λi j a b c=>by lia⟩
  |false=>
   simp only[Zk,if_false];refine wpS_bind (pK L B' (by lia) (by lia) ?_);dsimp only;cases e2:blt (g (arrOf st') (lo+i-1)) (g (arrOf st') (lo+i))with
   |true=>
    simp only[if_true];refine wpS_pure ?_;dsimp only;by_cases q0:q>0
    .rw[if_pos q0];refine wpS_bind (gV L B' (by lia) λst2 B2 Z hy=>?_);refine pJ L C B2 (by lia) h3 hz (rG (by lia) O on hy) λm U B3 Y a b c d=>h m U B3 (Y.trans (Z.trans hp)) a b c λk G=>?_;rw[d k G,hy k,if_neg (by lia)];exact hk k G
    .rw[if_neg q0];exact pJ L C B' (by lia) h3 hz O λm U B3 Y a b c d=>h m U B3 (Y.trans hp) a b c λk G=>(d k G).trans (hk k G)
   |false=>
    simp only[Zk,if_false];refine wpS_pure ⟨q+1,rfl,B',hp,hk,by lia,by lia,by lia,O.snoc C (by lia) e2,?_⟩;have z:lo+(i+1)-(q+1+1)=lo+i-(q+1):=by lia
    rw[z];intro x y hx hy a4;by_cases a0:y<lo+i
    .exact on x y hx hy a0
    .have ey:y=lo+i:=by lia
     subst ey;by_cases a1:x=lo+i-1
     .subst a1;exact e
     .exact C.trans (on x (lo+i-1) hx (by lia) (by lia)) e
 .rintro c st' ⟨q,rfl,B',hp,hk,h2,h3,h4,O,on⟩;have em:max (n+1) nrem=nrem:=QL hn;rw[em]at h3 h4 O on⊢;dsimp only;by_cases q0:q>0
  .rw[if_pos q0];refine wpS_bind (gV L B' (by lia) λst2 B2 Z hy=>?_);refine pJ L C B2 (by lia) h3 hz (rG (by lia) O on hy) λm U B3 Y a b c d=>h m U B3 (Y.trans (Z.trans hp)) a b c λk G=>?_;rw[d k G,hy k,if_neg (by lia)];exact hk k G
  .rw[if_neg q0];exact pJ L C B' (by lia) h3 hz O λm U B3 Y a b c d=>h m U B3 (Y.trans hp) a b c λk G=>(d k G).trans (hk k G)
theorem Ef {Q:Option Nat->SortSt->Prop} (C:Cmp blt) (B:Base a₀ κ st) (h1:1<=nrem) (hz:lo+nrem<=a₀.size)
  (h:∀n st',Base a₀ κ st'->pendingOf st'=pendingOf st->1<=n->n<=nrem->On blt (arrOf st') lo (lo+n)->Keep lo (arrOf st) (arrOf st')->Q (some n) st'):wpS (model prog w) A E s (countRun' lo nrem) Q st:=by
 rw[countRun'_eq];dsimp only;refine wpS_bind (Eg L C B (Q4 1) h1 hz On.one (λi n R U h1 ht hf=>BS L B (i:=i) hz U h1 ht hf) (λn ha U hs Y=>?_));dsimp only;by_cases en:n=nrem
 .subst en;simp only[beq_self_eq_true,if_true];exact wpS_pure (h n st B rfl ha U hs λ_ _=>rfl)
 .have eb:(n==nrem)=false:=beq_eq_false_iff_ne.mpr en;simp only[eb,Zk,if_false];have G:=Y (by lia);by_cases n1:n>1
  .rw[if_pos n1];refine wpS_bind (pK L B (by lia) (by lia) ?_);dsimp only;cases e:blt (g (arrOf st) lo) (g (arrOf st) (lo+n-1))with
   |true=>
    simp only[if_true];exact wpS_pure (h n st B rfl ha U hs λ_ _=>rfl)
   |false=>
    simp only[Zk,if_false];refine wpS_bind (gV L B (by lia) λst2 B2 Z hy=>?_);have a0:Off blt (arrOf st2) lo (lo+(n+1)):=by
     refine(He hs hy).snoc C ha ?_;rw[hy,hy,if_neg (by lia),if_pos (by lia)];have z:lo+(lo+n)-1-(lo+n-1)=lo:=by lia
     rw[z];exact C.trans (C.of_lt G) e
    refine Eh (m':=xG lo n nrem) (by
      unfold xG xa FY Cq;congr 1;funext _u;congr 1;funext s2;obtain⟨O,n2,q2⟩:=s2;cases O with
      |some O=>rfl
      |none=>
       dsimp only;split
       .congr 1;funext _v;congr 1;funext _w;congr 1;funext s3;obtain⟨I,n3⟩:=s3;cases I<;>rfl
       .congr 1;funext _w;congr 1;funext s3;obtain⟨I,n3⟩:=s3;cases I<;>rfl) (zg L C B2 ha (by lia) hz a0 λm a1 B3 a2 a b c d=>h m a1 B3 (a2.trans Z) a b c λk hk=>by rw[d k hk,hy k,if_neg (by lia)])
  .rw[if_neg n1];have e1:n=1:=by lia
   subst e1;refine Eh (m':=xG lo 1 nrem) (by
      unfold xG xa FY Cq;congr 1;funext _u;congr 1;funext s2;obtain⟨O,n2,q2⟩:=s2;cases O with
      |some O=>rfl
      |none=>
       dsimp only;split
       .congr 1;funext _v;congr 1;funext _w;congr 1;funext s3;obtain⟨I,n3⟩:=s3;cases I<;>rfl
       .congr 1;funext _w;congr 1;funext s3;obtain⟨I,n3⟩:=s3;cases I<;>rfl) (zg L C B ha (by lia) hz (Off.one.snoc C (Q4 1) (C.of_lt G)) h)
omit L in
theorem BR {k l:Nat} (B:Base a₀ κ st) (hk:k<a₀.size) (hl:l<=k)
  (h:∀st',Base a₀ κ st'->pendingOf st'=pendingOf st->(∀j,g (arrOf st') j=if j=l then g (arrOf st) k else if l<j/\j<=k then g (arrOf st) (j-1)else g (arrOf st) j)->Q () st'):
  wpS (model prog w) A E s (moveDown' k l) Q st:=by
 rw[moveDown'_eq];refine wpS_modify (h _ ⟨B.kind,B.fine,(bubble_perm _ _ _).trans B.perm⟩ rfl λj=>?_);have e:=Fz (xs:=arrOf st) (src:=k) (d:=k-l) (by rw[B.size];exact hk) (by lia) j;have z:k-(k-l)=l:=by lia
 rw[z]at e;exact e
theorem CK {ok:Nat} {Q:Bool->SortSt->Prop} (C:Cmp blt) (B:Base a₀ κ st) (h1:1<=ok) (hok:ok<=n) (hz:lo+n<=a₀.size) (hs:On blt (arrOf st) lo (lo+ok))
  (h:∀st',Base a₀ κ st'->pendingOf st'=pendingOf st->On blt (arrOf st') lo (lo+n)->Keep lo (arrOf st) (arrOf st')->Q true st'):wpS (model prog w) A E s (binarySort' lo n ok) Q st:=by
 rw[binarySort'_eq];dsimp only;have em:max ok 1=ok:=Nat.max_eq_left h1;rw[em];refine wpS_bind (wpS_forRange (I:=λi c st'=>c=(none,())/\Base a₀ κ st'/\pendingOf st'=pendingOf st/\Keep lo (arrOf st) (arrOf st')/\ok<=i/\i<=n/\On blt (arrOf st') lo (lo+i)) ?_ ?_
  ⟨rfl,B,rfl,λ_ _=>rfl,Q4 _,hok,hs⟩)
 .rintro k c st' a7 ab ⟨rfl,Y,hp,hk,h2,h3,G⟩;refine wpS_bind (wpS_forRange (I:=λi c st2=>st2=st'/\∃l r,c=(none,l,r)/\l<=r/\r<=k/\r-l<=k-i/\(∀j,j<l->le blt (g (arrOf st') (lo+j)) (g (arrOf st') (lo+k)))/\(∀j,r<=j->j<k->le blt (g (arrOf st') (lo+k)) (g (arrOf st') (lo+j)))) ?_ ?_
   ⟨rfl,0,k,rfl,Qj _,Q4 _,Q4 _,λj hj=>absurd hj (XV _),λj a b=>by lia⟩)
  .rintro i c st2 an ap ⟨rfl,l,r,rfl,a0,a3,hm,z,above⟩;dsimp only;by_cases Z:l>=r
   .rw[if_pos Z];refine wpS_pure ?_;dsimp only;have a4:l=r:=by lia
    refine wpS_bind (BR Y (by lia) (by lia) λa5 B3 O hy=>wpS_pure ⟨rfl,B3,O.trans hp,λq hq=>?_,by lia,by lia,?_⟩)
    .rw[hy q,if_neg (by lia),if_neg (by lia)];exact hk q hq
    .intro a b ha U hb;rw[hy a,hy b];by_cases b1:b=lo+l
     .rw[if_pos b1,if_neg (by lia),if_neg (by lia)];have:=z (a-lo) (by lia);rwa [show lo+(a-lo)=a by lia]at this
     .rw[if_neg b1];by_cases b2:lo+l<b/\b<=lo+k
      .rw[if_pos b2];by_cases a1:a=lo+l
       .rw[if_pos a1];have:=above (b-1-lo) (by lia) (by lia);rwa [show lo+(b-1-lo)=b-1 by lia]at this
       .rw[if_neg a1];by_cases a2:lo+l<a/\a<=lo+k
        .rw[if_pos a2];exact G _ _ (by lia) (by lia) (by lia)
        .rw[if_neg a2];exact G _ _ (by lia) (by lia) (by lia)
      .rw[if_neg b2,if_neg (by lia),if_neg (by lia)];exact G _ _ ha U (by lia)
   .rw[if_neg Z];refine wpS_bind (pK L Y (by lia) (by lia) ?_);dsimp only;cases e:blt (g (arrOf st2) (lo+k)) (g (arrOf st2) (lo+(l+r)/2))with
    |true=>
     rw[if_pos rfl];refine wpS_pure ⟨rfl,l,(l+r)/2,rfl,by lia,by lia,by lia,z,λj a b=>?_⟩;by_cases ej:j=(l+r)/2
     .subst ej;exact C.of_lt e
     .exact C.trans (C.of_lt e) (G _ _ (by lia) (by lia) (by lia))
    |false=>
     rw[if_neg (by decide)];refine wpS_pure ⟨rfl,(l+r)/2+1,r,rfl,by lia,by lia,by lia,λj a=>?_,above⟩;by_cases ej:j=(l+r)/2
     .subst ej;exact e
     .exact C.trans (G _ _ (by lia) (by lia) (by lia)) e
  .rintro c st2 ⟨rfl,l,r,rfl,a0,a3,hm,z,above⟩;have ek:max 0 k=k:=QL (Qj _);rw[ek]at hm;have a4:l=r:=by lia
   dsimp only;refine wpS_bind (BR Y (by lia) (by lia) λa5 B3 O hy=>wpS_pure ⟨rfl,B3,O.trans hp,λq hq=>?_,by lia,by lia,?_⟩)
   .rw[hy q,if_neg (by lia),if_neg (by lia)];exact hk q hq
   .intro a b ha U hb;rw[hy a,hy b];by_cases b1:b=lo+l
    .rw[if_pos b1,if_neg (by lia),if_neg (by lia)];have:=z (a-lo) (by lia);rwa [show lo+(a-lo)=a by lia]at this
    .rw[if_neg b1];by_cases b2:lo+l<b/\b<=lo+k
     .rw[if_pos b2];by_cases a1:a=lo+l
      .rw[if_pos a1];have:=above (b-1-lo) (by lia) (by lia);rwa [show lo+(b-1-lo)=b-1 by lia]at this
      .rw[if_neg a1];by_cases a2:lo+l<a/\a<=lo+k
       .rw[if_pos a2];exact G _ _ (by lia) (by lia) (by lia)
       .rw[if_neg a2];exact G _ _ (by lia) (by lia) (by lia)
     .rw[if_neg b2,if_neg (by lia),if_neg (by lia)];exact G _ _ ha U (by lia)
 .rintro c st' ⟨rfl,Y,hp,hk,h2,h3,G⟩;have e:max ok n=n:=QL hok;rw[e]at G;exact wpS_pure (h st' Y hp G hk)
def HB:Bool->Keyed->Array Keyed->Nat->Nat->Nat->StateT SortSt Sem (Option Nat):=sortPriv%PySem.Builtin.gallop
omit L in
theorem wV {f:Nat->Option γ×Nat×Nat->StateT SortSt Sem (ForInStep (Option γ×Nat×Nat))} {Q:Option γ×Nat×Nat->SortSt->Prop} (G:Nat->Bool) (mono:∀i j,i<=j->j<n->G j=true->G i=true)
  (hf:∀(i lo hi:Nat) (R:ForInStep (Option γ×Nat×Nat)->SortSt->Prop),hi<=n->(lo>=hi->R (.done (none,lo,hi)) st)->(lo<hi->G (lo+(hi-lo)/2)=true->R (.yield (none,lo+(hi-lo)/2+1,hi)) st)->(lo<hi->G (lo+(hi-lo)/2)=false->R (.yield (none,lo,lo+(hi-lo)/2)) st)->wpS (model prog w) A E s (f i (none,lo,hi)) R st)
  (h1:lo<=hi) (h2:hi<=n) (ht:∀i,i<lo->G i=true) (hF:∀i,hi<=i->i<n->G i=false)
  (h:∀k,k<=n->(∀i,i<k->G i=true)->(∀i,k<=i->i<n->G i=false)->Q (none,k,k) st):wpS (model prog w) A E s (forIn [0:n] (none,lo,hi) f) Q st:=by
 refine wpS_forRange (I:=λi c st'=>st'=st/\∃lo hi,c=(none,lo,hi)/\lo<=hi/\hi<=n/\hi-lo<=n-i/\(∀i,i<lo->G i=true)/\(∀i,hi<=i->i<n->G i=false)) ?_ ?_
  ⟨rfl,lo,hi,rfl,h1,h2,by lia,ht,hF⟩
 .rintro i c st' a0 a1 ⟨rfl,lo,hi,rfl,g1,O,Z,U,Y⟩;refine hf i lo hi _ O (λz=>?_) (λz e=>?_) (λz e=>?_)
  .have e:lo=hi:=by lia
   subst e;exact h lo O U Y
  .exact⟨rfl,_,_,rfl,by lia,O,by lia,λj hj=>mono j _ (by lia) (by lia) e,Y⟩
  .refine⟨rfl,_,_,rfl,by lia,by lia,by lia,U,λj a b=>?_⟩;cases q:G j with
   |false=>rfl
   |true=>rw[mono _ j a b q]at e;cases e
 .rintro c st' ⟨rfl,lo,hi,rfl,g1,O,Z,U,Y⟩;have em:max 0 n=n:=QL (Qj _);rw[em]at Z;have e:lo=hi:=by lia
  subst e;exact h lo O U Y
theorem gP {left:Bool} {key:Keyed} {arr:Array Keyed} {base hint:Nat} {Q:Option Nat->SortSt->Prop} (hK:kindOf st=κ) (hk:key∈a₀) (ha:∀i,i<n->base+i<arr.size/\g arr (base+i)∈a₀) (hh:hint<n)
  (U:Nat->Bool) (a7:∀i,i<n->U i=if left=true then blt (g arr (base+i)) key else !blt key (g arr (base+i))) (mono:∀i j,i<=j->j<n->U j=true->U i=true)
  (h:∀k,k<=n->(∀i,i<k->U i=true)->(∀i,k<=i->i<n->U i=false)->Q (some k) st):wpS (model prog w) A E s (HB left key arr base n hint) Q st:=by
 have a0:∀(i:Nat) (R:Option Bool->SortSt->Prop),i<n->R (some (U i)) st->wpS (model prog w) A E s (elem' arr (base+i)>>=λx=>if left=true then lt' x key else lt' key x>>=λr=>pure (r.map λx=>!x)) R st:=by
  intro i R hi q;obtain⟨h1,h2⟩:=ha i hi;rw[elem'_eq,dC h1];refine wpS_bind (wpS_pure ?_);have e:=a7 i hi;cases left with
  |true=>
   rw[if_pos rfl]at e⊢;exact L _ _ st R h2 hk hK (by rw[<-e];exact q)
  |false=>
   rw[if_neg (by decide)]at e⊢;refine wpS_bind (L _ _ st _ hk h2 hK (wpS_pure ?_));show R (some (!blt key (g arr (base+i)))) st;rw[<-e];exact q
 refine wpS_bind ?_;dsimp only;refine a0 hint _ hh ?_;dsimp only;cases e0:U hint with
 |true=>
  rw[if_pos rfl];refine wpS_bind (wpS_mono (wpS_forRange (I:=λi c st'=>st'=st/\∃O G,c=(none,O,G)/\O<G/\i+1<=G/\hint+O<n/\U (hint+O)=true)
   (Q:=λc st'=>st'=st/\∃O G,c=(none,O,G)/\O<G/\hint+O<n/\U (hint+O)=true/\(n-hint<=G\/(hint+G<n/\U (hint+G)=false))) ?_ ?_ ⟨rfl,0,1,rfl,by lia,by lia,by lia,e0⟩) ?_)
  .rintro i c st' ab an ⟨rfl,O,G,rfl,a1,a2,Z,Y⟩;dsimp only;by_cases z:G>=n-hint
   .rw[if_pos z];exact wpS_pure ⟨rfl,O,G,rfl,a1,Z,Y,.inl z⟩
   .rw[if_neg z];refine wpS_bind (a0 (hint+G) _ (by lia) ?_);dsimp only;cases e:U (hint+G)with
    |false=>
     rw[if_pos (by decide)];exact wpS_pure ⟨rfl,O,G,rfl,a1,Z,Y,.inr ⟨by lia,e⟩⟩
    |true=>
     rw[if_neg (by decide)];exact wpS_pure ⟨rfl,G,2*G+1,rfl,by lia,by lia,by lia,e⟩
  .rintro c st' ⟨rfl,O,G,rfl,a1,a2,Z,Y⟩;have em:max 0 n=n:=QL (Qj _);rw[em]at a2;exact⟨rfl,O,G,rfl,a1,Z,Y,.inl (by lia)⟩
  .rintro c st' ⟨rfl,O,G,rfl,a1,Z,Y,a5⟩;dsimp only;refine wpS_bind (wV U mono (λi lo hi R hn c1 c2 c3=>?_) (by lia) (by lia) (λi hi=>mono i (hint+O) (by lia) Z Y) (λi h1 h2=>?_) λk h1 h2 h3=>?_)
   .dsimp only;by_cases z:lo>=hi
    .rw[if_pos z];exact wpS_pure (c1 z)
    .rw[if_neg z];refine wpS_bind (a0 _ _ (by lia) ?_);dsimp only;cases e:U (lo+(hi-lo)/2)with
     |true=>rw[if_pos rfl];exact wpS_pure (c2 (by lia) e)
     |false=>rw[if_neg (by decide)];exact wpS_pure (c3 (by lia) e)
   .rcases a5 with z|⟨z1,z2⟩
    .lia
    .cases q:U i with
     |false=>rfl
     |true=>rw[mono (hint+G) i (by lia) h2 q]at z2;cases z2
   .exact wpS_pure (h k h1 h2 h3)
 |false=>
  rw[if_neg (by decide)];refine wpS_bind (wpS_mono (wpS_forRange (I:=λi c st'=>st'=st/\∃O G,c=(none,O,G)/\O<G/\i+1<=G/\O<=hint/\U (hint-O)=false)
   (Q:=λc st'=>st'=st/\∃O G,c=(none,O,G)/\O<G/\O<=hint/\U (hint-O)=false/\(hint+1<=G\/(G<=hint/\U (hint-G)=true))) ?_ ?_ ⟨rfl,0,1,rfl,by lia,by lia,by lia,e0⟩) ?_)
  .rintro i c st' ab an ⟨rfl,O,G,rfl,a1,a2,Z,Y⟩;dsimp only;by_cases z:G>=hint+1
   .rw[if_pos z];exact wpS_pure ⟨rfl,O,G,rfl,a1,Z,Y,.inl z⟩
   .rw[if_neg z];refine wpS_bind (a0 (hint-G) _ (by lia) ?_);dsimp only;cases e:U (hint-G)with
    |true=>
     rw[if_pos rfl];exact wpS_pure ⟨rfl,O,G,rfl,a1,Z,Y,.inr ⟨by lia,e⟩⟩
    |false=>
     rw[if_neg (by decide)];exact wpS_pure ⟨rfl,G,2*G+1,rfl,by lia,by lia,by lia,e⟩
  .rintro c st' ⟨rfl,O,G,rfl,a1,a2,Z,Y⟩;have em:max 0 n=n:=QL (Qj _);rw[em]at a2;exact⟨rfl,O,G,rfl,a1,Z,Y,.inl (by lia)⟩
  .rintro c st' ⟨rfl,O,G,rfl,a1,Z,Y,a5⟩;dsimp only;refine wpS_bind (wV U mono (λi lo hi R hn c1 c2 c3=>?_) (by lia) (by lia) (λi hi=>?_) (λi h1 h2=>?_) λk h1 h2 h3=>?_)
   .dsimp only;by_cases z:lo>=hi
    .rw[if_pos z];exact wpS_pure (c1 z)
    .rw[if_neg z];refine wpS_bind (a0 _ _ (by lia) ?_);dsimp only;cases e:U (lo+(hi-lo)/2)with
     |true=>rw[if_pos rfl];exact wpS_pure (c2 (by lia) e)
     |false=>rw[if_neg (by decide)];exact wpS_pure (c3 (by lia) e)
   .rcases a5 with z|⟨z1,z2⟩
    .lia
    .exact mono i (hint-G) (by lia) (by lia) z2
   .cases q:U i with
    |false=>rfl
    |true=>rw[mono (hint-O) i (by lia) h2 q]at Y;cases Y
   .exact wpS_pure (h k h1 h2 h3)
end
end Srt
namespace Srt
open PySem PyProof.Rows
variable {A:Around} {a₀:Array Keyed} {x:Keyed} {blt:Keyed->Keyed->Bool} {R:Keyed->SortSt->Prop} {all o ra rb:List Keyed} {i n:Nat} {prog:Program} {B:Prop} {s:Shared} {κ:SortKind} {st:SortSt} {α:Type} {Q:Unit->SortSt->Prop} {E:Value->Shared->Prop} {w:World}
def E3:Array Keyed->Array Keyed->StateT SortSt Sem (Array Keyed):=sortPriv%PySem.Builtin.mergeLo
def E4:Array Keyed->Array Keyed->StateT SortSt Sem (Array Keyed):=sortPriv%PySem.Builtin.mergeHi
section
abbrev PW (blt:Keyed->Keyed->Bool) (l:List Keyed):Prop:=l.Pairwise (le blt)
structure Lo (blt:Keyed->Keyed->Bool) (all o ra rb:List Keyed):Prop where
 perm:(o++(ra++rb)).Perm all
 srt:PW blt o
 low:∀x∈o,∀y∈ra++rb,le blt x y
theorem Lo.a {G:List Keyed} (h:Lo blt all o (G++ra) rb) (hs:PW blt (G++ra)) (hc:∀x∈G,∀y∈rb,le blt x y):Lo blt all (o++G) ra rb where
 perm:=by
  refine List.Perm.trans ?_ h.perm;rw[Ql,Ql]
 srt:=Qk.mpr ⟨h.srt,(Qk.mp hs).1,λx hx y hy=>h.low x hx y (by simp[hy])⟩
 low:=λx hx y hy=>by
  rcases Q5.mp hx with q|q
  .exact h.low x q y (by rcases Q5.mp hy with z|z<;>simp[z])
  .rcases Q5.mp hy with z|z
   .exact(Qk.mp hs).2.2 x q y z
   .exact hc x q y z
theorem Lo.b {G:List Keyed} (h:Lo blt all o ra (G++rb)) (hs:PW blt (G++rb)) (hc:∀x∈G,∀y∈ra,le blt x y):Lo blt all (o++G) ra rb where
 perm:=by
  refine List.Perm.trans ?_ h.perm;rw[Ql];refine List.Perm.append_left o ?_;rw[<-Ql,<-Ql];exact List.Perm.append_right rb ZS
 srt:=Qk.mpr ⟨h.srt,(Qk.mp hs).1,λx hx y hy=>h.low x hx y (by simp[hy])⟩
 low:=λx hx y hy=>by
  rcases Q5.mp hx with q|q
  .exact h.low x q y (by rcases Q5.mp hy with z|z<;>simp[z])
  .rcases Q5.mp hy with z|z
   .exact hc x q y z
   .exact(Qk.mp hs).2.2 x q y z
theorem Lo.endA (h:Lo blt all o ra []) (hs:PW blt ra):(o++ra).Perm all/\PW blt (o++ra):=
 ⟨by simpa using h.perm,Qk.mpr ⟨h.srt,hs,λx hx y hy=>h.low x hx y (by simp[hy])⟩⟩
theorem Lo.endB {z:Keyed} (h:Lo blt all o [z] rb) (hs:PW blt rb) (hz:∀x∈rb,le blt x z):(o++(rb++ [z])).Perm all/\PW blt (o++(rb++ [z])):=by
 refine⟨List.Perm.trans (List.Perm.append_left o ZS) h.perm,Qk.mpr ⟨h.srt,Qk.mpr ⟨hs,Zb _ _,λx hx y hy=>?_⟩,λx hx y hy=>h.low x hx y ?_⟩⟩
 .rw[Q7.mp hy];exact hz x hx
 .rcases Q5.mp hy with q|q<;>simp_all
theorem vi {a:Array Keyed} (h:i<a.size):a.toList.drop i=g a i::a.toList.drop (i+1):=by
 have e:=dC h;rw[<-Qw]at e;obtain⟨h1,h2⟩:=Q2.mp e;rw[Z2 h1,h2]
theorem kC {a:Array Keyed} (h:x∈a.toList.drop i):∃j,i<=j/\j<a.size/\x=g a j:=by
 obtain⟨k,hk,e⟩:=Zr.mp h;rw[QA]at hk;have hs:i+k<a.size:=by rw[<-Q6];lia
 refine⟨i+k,by lia,hs,?_⟩;have e2:=dC hs;rw[<-Qw]at e2;rw[ZB]at e;rw[Q3 (by rw[Q6];exact hs)]at e2;rw[<-e];exact Option.some.inj e2
theorem ig {a:Array Keyed} (h:On blt a 0 a.size) (i:Nat):PW blt (a.toList.drop i):=by
 refine Z3.mpr λj k G hk I=>?_;rw[QA,Q6]at G hk;have z:=dC (xs:=a) (i:=i+j) (by lia);have e2:=dC (xs:=a) (i:=i+k) (by lia);rw[<-Qw,Q3 (by rw[Q6];lia)]at z e2;rw[ZB,ZB,Option.some.inj z,Option.some.inj e2];exact h _ _ (Qj _) (by lia) (by lia)
theorem ES {a:Array Keyed} (h:PW blt a.toList):On blt a 0 a.size:=λi j _ z I=>by
 have G:=dC (xs:=a) (i:=i) (by lia);have e2:=dC (xs:=a) (i:=j) I;rw[<-Qw,Q3 (by rw[Q6];lia)]at G e2;rw[<-Option.some.inj G,<-Option.some.inj e2];exact Z3.mp h i j _ _ z
theorem qq (a:Array Keyed) (i k:Nat):(a.extract i (i+k)).toList=(a.toList.drop i).take k:=by
 rw[Z8,QU];congr 1;lia
theorem gQ (a:Array Keyed) (i:Nat):(a.extract i).toList=a.toList.drop i:=by
 rw[Z8,QU,Qt];rw[QA,Q6];exact Q4 _
theorem Aa (l:List Keyed) (i k:Nat):l.drop i=(l.drop i).take k++l.drop (i+k):=by
 rw[<-Xo,QJ]
end
theorem Ch {P H:α->Prop} (body:(∀x,H x->P x)->B) (last:∀x,H x->P x):B:=body last
theorem qf {β:Type} {P H:α->β->Prop} (body:(∀x y,H x y->P x y)->B) (last:∀x y,H x y->P x y):B:=body last
structure Like (st st':SortSt):Prop where
 kind:kindOf st'=kindOf st
 arr:arrOf st'=arrOf st
 pend:pendingOf st'=pendingOf st
 fail:failedOf st'=failedOf st
theorem Like.refl (st:SortSt):Like st st:=⟨rfl,rfl,rfl,rfl⟩
section
theorem bM {arr:Array Keyed} (h:i<arr.size) (q:R (g arr i) st):wpS (model prog w) A E s (elem' arr i) R st:=by
 rw[elem'_eq,dC h];exact wpS_pure q
def AZ:Nat->StateT SortSt Sem Unit:=sortPriv%PySem.Builtin.setMinGallop
theorem Ee {m:Nat} (h:∀st',Like st st'->Q () st'):wpS (model prog w) A E s (AZ m) Q st:=wpS_modify (h _ ⟨rfl,rfl,rfl,rfl⟩)
variable (L:y4 prog w A E s a₀ κ blt)
include L
theorem AK {a b:Array Keyed} {Q:Array Keyed->SortSt->Prop} (C:Cmp blt) (hK:kindOf st=κ) (hm:∀x,x∈a.toList++b.toList->x∈a₀) (oa:On blt a 0 a.size) (ob:On blt b 0 b.size) (ha:0<a.size) (hb:0<b.size)
  (a7:blt (g b 0) (g a 0)=true) (b2:∀j,j<b.size->blt (g b j) (g a (a.size-1))=true)
  (h:∀res st',Like st st'->res.toList.Perm (a.toList++b.toList)->PW blt res.toList->Q res st'):wpS (model prog w) A E s (E3 a b) Q st:=by
 have ma:∀i,i<a.size->g a i∈a₀:=λi hi=>hm _ (by have:=xA hi;simp[this]);have mb:∀i,i<b.size->g b i∈a₀:=λi hi=>hm _ (by have:=xA hi;simp[this]);have b5:∀(o:List Keyed) (G:Nat) (st':SortSt) (res:Array Keyed),Like st st'->Lo blt (a.toList++b.toList) o (a.toList.drop G) []->res.toList=o++a.toList.drop G->Q res st':=λo G st' res lk lo e=>by
  obtain⟨p1,p2⟩:=lo.endA (ig oa G);exact h res st' lk (by rw[e];exact p1) (by rw[e];exact p2)
 have b8:∀(o:List Keyed) (O:Nat) (st':SortSt) (res:Array Keyed),Like st st'->Lo blt (a.toList++b.toList) o (a.toList.drop (a.size-1)) (b.toList.drop O)->res.toList=o++(b.toList.drop O++a.toList.drop (a.size-1))->Q res st':=λo O st' res lk lo e=>by
  have ez:a.toList.drop (a.size-1)=[g a (a.size-1)]:=by
   rw[vi (by lia),Zg (by rw[Q6];lia)]
  rw[ez]at lo e;obtain⟨p1,p2⟩:=lo.endB (ig ob O) (λx hx=>by
   obtain⟨j,_,hj,rfl⟩:=kC hx;exact C.of_lt (b2 j hj))
  exact h res st' lk (by rw[e];exact p1) (by rw[e];exact p2)
 have ab:∀(out:Array Keyed) (G O k:Nat),G+k<=a.size->O<b.size->Lo blt (a.toList++b.toList) out.toList (a.toList.drop G) (b.toList.drop O)->(∀i,i<k->blt (g b O) (g a (G+i))=false)->
   Lo blt (a.toList++b.toList) (out++a.extract G (G+k)).toList (a.toList.drop (G+k)) (b.toList.drop O):=λout G O k h1 h2 lo hk=>by
  rw[QG,qq];have pa:=ig oa G;rw[Aa a.toList G k]at lo pa;refine lo.a pa λx hx y hy=>?_;obtain⟨i,hi,e⟩:=Zr.mp hx;rw[Q8,QA,Q6]at hi;have ex:x=g a (G+i):=by
   have e2:=dC (xs:=a) (i:=G+i) (by lia);rw[<-Qw,Q3 (by rw[Q6];lia)]at e2;rw[Zs,ZB]at e;rw[<-e];exact Option.some.inj e2
  obtain⟨j,be,b9,rfl⟩:=kC hy;have l1:le blt x (g b O):=by rw[ex];exact hk i (by lia)
  by_cases ej:j=O
  .rw[ej];exact l1
  .exact C.trans l1 (ob O j (Qj _) (by lia) b9)
 have an:∀(out:Array Keyed) (G O k:Nat),O+k<=b.size->G<a.size->Lo blt (a.toList++b.toList) out.toList (a.toList.drop G) (b.toList.drop O)->(∀i,i<k->blt (g b (O+i)) (g a G)=true)->
   Lo blt (a.toList++b.toList) (out++b.extract O (O+k)).toList (a.toList.drop G) (b.toList.drop (O+k)):=λout G O k h1 h2 lo hk=>by
  rw[QG,qq];have pb:=ig ob O;rw[Aa b.toList O k]at lo pb;refine lo.b pb λx hx y hy=>?_;obtain⟨i,hi,e⟩:=Zr.mp hx;rw[Q8,QA,Q6]at hi;have ex:x=g b (O+i):=by
   have e2:=dC (xs:=b) (i:=O+i) (by lia);rw[<-Qw,Q3 (by rw[Q6];lia)]at e2;rw[Zs,ZB]at e;rw[<-e];exact Option.some.inj e2
  obtain⟨j,be,b9,rfl⟩:=kC hy;have l1:le blt x (g a G):=by rw[ex];exact C.of_lt (hk i (by lia))
  by_cases ej:j=G
  .rw[ej];exact l1
  .exact C.trans l1 (oa G j (Qj _) (by lia) b9)
 have one:∀(x:Array Keyed) (i:Nat),i<x.size->(x.extract i (i+1))= #[g x i]:=λx i hi=>by
  apply Array.ext';rw[qq,vi hi];rfl
 have ba:∀(out:Array Keyed) (G O:Nat),G<a.size->O<b.size->Lo blt (a.toList++b.toList) out.toList (a.toList.drop G) (b.toList.drop O)->blt (g b O) (g a G)=true->
   Lo blt (a.toList++b.toList) (out.push (g b O)).toList (a.toList.drop G) (b.toList.drop (O+1)):=λout G O h1 h2 lo hk=>by
  have:=an out G O 1 (by lia) h1 lo λi hi=>by rw[show O+i=O by lia];exact hk
  rwa [one b O h2,<-ZY]at this
 have bb:∀(out:Array Keyed) (G O:Nat),G<a.size->O<b.size->Lo blt (a.toList++b.toList) out.toList (a.toList.drop G) (b.toList.drop O)->blt (g b O) (g a G)=false->
   Lo blt (a.toList++b.toList) (out.push (g a G)).toList (a.toList.drop (G+1)) (b.toList.drop O):=λout G O h1 h2 lo hk=>by
  have:=ab out G O 1 (by lia) h2 lo λi hi=>by rw[show G+i=G by lia];exact hk
  rwa [one a G h1,<-ZY]at this
 have endA:∀(out:Array Keyed) (G O:Nat) (st':SortSt),Like st st'->b.size<=O->Lo blt (a.toList++b.toList) out.toList (a.toList.drop G) (b.toList.drop O)->Q (out++a.extract G++b.extract O) st':=λout G O st' lk hb lo=>by
  have en:b.toList.drop O=[]:=Zg (by rw[Q6];lia);rw[en]at lo;refine b5 _ G st' _ lk lo ?_;rw[QG,QG,gQ,gQ,en,ZL]
 have endB:∀(out:Array Keyed) (G O:Nat) (st':SortSt),Like st st'->G+1=a.size->Lo blt (a.toList++b.toList) out.toList (a.toList.drop G) (b.toList.drop O)->Q (out++b.extract O++a.extract G) st':=λout G O st' lk ha lo=>by
  have en:G=a.size-1:=by lia
  refine b8 out.toList O st' _ lk (by rw[<-en];exact lo) ?_;rw[QG,QG,gQ,gQ,<-en,Ql]
 have bl:∀(ka:Nat) (x:Keyed) (i j:Nat),i<=j->ka+j<a.size->(!blt x (g a (ka+j)))=true->(!blt x (g a (ka+i)))=true:=λka x i j h1 h2 h3=>by
  have h3:blt x (g a (ka+j))=false:=by simpa using h3
  by_cases e:i=j
  .subst e;simpa using h3
  .have:=C.trans (oa (ka+i) (ka+j) (Qj _) (by lia) h2) h3;simpa using this
 have bo:∀(U:Nat) (x:Keyed) (i j:Nat),i<=j->U+j<b.size->blt (g b (U+j)) x=true->blt (g b (U+i)) x=true:=λU x i j h1 h2 h3=>by
  by_cases e:i=j
  .subst e;exact h3
  .have q:=ob (U+i) (U+j) (Qj _) (by lia) h2;cases z:blt (g b (U+i)) x with
   |true=>rfl
   |false=>
    have f:blt (g b (U+j)) x=false:=C.trans z q;rw[h3]at f;cases f
 refine wpS_bind ?_;dsimp only;refine wpS_lift (wpAny_rule ⟨rfl,?_⟩);refine wpS_bind (bM hb ?_);have start:Lo blt (a.toList++b.toList) [g b 0] (a.toList.drop 0) (b.toList.drop 1):=by
  have l0:Lo blt (a.toList++b.toList) [] (a.toList.drop 0) ([g b 0]++b.toList.drop 1):=by
   refine⟨?_,List.Pairwise.nil,λx hx=>absurd hx QT⟩;have e:=vi hb;rw[Z9]at e;rw[Z9,ZN,List.singleton_append,<-e]
  have:=l0.b (by have:=ig ob 0;rw[vi hb]at this;exact this) (λx hx y hy=>by
   rw[Q7.mp hx];obtain⟨j,_,hj,rfl⟩:=kC hy;by_cases j0:j=0
   .rw[j0];exact C.of_lt a7
   .exact C.trans (C.of_lt a7) (oa 0 j (Q4 _) (by lia) hj))
  simpa using this
 by_cases b1:1=b.size
 .have eb:(1==b.size)=true:=beq_iff_eq.mpr b1;rw[if_pos eb];refine wpS_pure ?_;have en:b.toList.drop 1=[]:=Zg (by rw[Q6];lia);rw[en]at start;refine b5 _ 0 st _ (Like.refl _) start ?_;simp[b1]
 .have eb:¬(1==b.size)=true:=by simpa using b1
  rw[if_neg eb];by_cases a1:0+1=a.size
  .have ea:(0+1==a.size)=true:=beq_iff_eq.mpr a1;rw[if_pos ea];refine wpS_pure ?_;have e0:a.size-1=0:=by lia
   refine b8 [g b 0] 1 st _ (Like.refl _) (by rw[e0];exact start) ?_;rw[e0,QG,QG,gQ,gQ,Ql]
  .have ea:¬(0+1==a.size)=true:=by simpa using a1
   rw[if_neg ea];refine wpS_bind (wpS_get ?_);refine wpS_bind (wpS_mono (wpS_forRange (I:=λi c st'=>Like st st'/\∃out G O mg,c=(none,out,G,O,mg)/\G+1<a.size/\O<b.size/\i<=G+O/\Lo blt (a.toList++b.toList) out.toList (a.toList.drop G) (b.toList.drop O))
    (Q:=λc st'=>∃res,c.1=some res/\Q res st') ?_ ?_ ⟨Like.refl _, #[g b 0],0,1,_,rfl,by lia,by lia,by lia,start⟩) ?_)
   .rintro i c st' ce cf ⟨lk,out,G,O,mg,rfl,c4,hb1,hi,lo⟩;have ca:kindOf st'=κ:=lk.kind.trans hK;refine wpS_bind (wpS_mono (wpS_forRange (I:=λj c st2=>st2=st'/\∃out ja jb p q,c=(none,out,ja,jb,p,q)/\ja+1<a.size/\jb<b.size/\G+O<=ja+jb/\Lo blt (a.toList++b.toList) out.toList (a.toList.drop ja) (b.toList.drop jb))
     (Q:=λc st2=>st2=st'/\((∃res,c.1=some res/\Q res st')\/∃out ja jb p q,c=(none,out,ja,jb,p,q)/\ja+1<a.size/\jb<b.size/\G+O<=ja+jb/\Lo blt (a.toList++b.toList) out.toList (a.toList.drop ja) (b.toList.drop jb))) ?_ ?_
     ⟨rfl,out,G,O,0,0,rfl,c4,hb1,Q4 _,lo⟩) ?_)
    .rintro j c st2 be b9 ⟨rfl,out,ja,jb,p,q,rfl,aw,Y,a3,lo⟩;dsimp only;refine wpS_bind (bM Y (wpS_bind (bM (by lia) (wpS_bind (L _ _ _ _ (mb jb Y) (ma ja (by lia)) ca ?_)))));dsimp only;cases e:blt (g b jb) (g a ja)with
     |true=>
      rw[if_pos rfl];have a4:=ba out ja jb (by lia) Y lo e;refine wpS_bind (bM Y ?_);by_cases z:jb+1=b.size
      .rw[if_pos (beq_iff_eq.mpr z)];exact wpS_pure ⟨rfl,.inl ⟨_,rfl,endA _ ja (jb+1) _ lk (by lia) a4⟩⟩
      .rw[if_neg (by simpa using z)];by_cases y:q+1>=mg
       .rw[if_pos y];exact wpS_pure ⟨rfl,.inr ⟨_,_,_,_,_,rfl,aw,by lia,by lia,a4⟩⟩
       .rw[if_neg y];exact wpS_pure ⟨rfl,_,_,_,_,_,rfl,aw,by lia,by lia,a4⟩
     |false=>
      rw[if_neg (by decide)];have a4:=bb out ja jb (by lia) Y lo e;refine wpS_bind (bM (by lia) ?_);by_cases z:ja+1+1=a.size
      .rw[if_pos (beq_iff_eq.mpr z)];exact wpS_pure ⟨rfl,.inl ⟨_,rfl,endB _ (ja+1) jb _ lk z a4⟩⟩
      .rw[if_neg (by simpa using z)];by_cases y:p+1>=mg
       .rw[if_pos y];exact wpS_pure ⟨rfl,.inr ⟨_,_,_,_,_,rfl,by lia,Y,by lia,a4⟩⟩
       .rw[if_neg y];exact wpS_pure ⟨rfl,_,_,_,_,_,rfl,by lia,Y,by lia,a4⟩
    .rintro c st2 ⟨rfl,out,ja,jb,p,q,rfl,aw,Y,a3,lo⟩;exact⟨rfl,.inr ⟨_,_,_,_,_,rfl,aw,Y,a3,lo⟩⟩
    .rintro ⟨r,c⟩ st2 ⟨rfl,⟨res,e,q⟩|⟨out,ja,jb,p,q,e,aw,Y,a3,lo⟩⟩
     .dsimp only at e;subst e;exact wpS_pure ⟨res,rfl,q⟩
     .obtain⟨rfl,rfl⟩:=Prod.mk.inj e;dsimp only;refine wpS_bind (wpS_lift (wpAny_rule ⟨rfl,?_⟩));refine wpS_bind (wpS_mono (wpS_forRange (I:=λj c a5=>Like st a5/\∃out ka U m' p q,c=(none,out,ka,U,m',p,q)/\ka+1<a.size/\U<b.size/\G+O+j<=ka+U/\Lo blt (a.toList++b.toList) out.toList (a.toList.drop ka) (b.toList.drop U))
       (Q:=λc a5=>Like st a5/\((∃res,c.1=some res/\Q res a5)\/∃out ka U m' p q,c=(none,out,ka,U,m',p,q)/\ka+1<a.size/\U<b.size/\G+O+1<=ka+U/\Lo blt (a.toList++b.toList) out.toList (a.toList.drop ka) (b.toList.drop U))) ?_ ?_
       ⟨lk,out,ja,jb,_,_,_,rfl,aw,Y,by lia,lo⟩) ?_)
      .rintro j c a5 be b9 ⟨ap,out,ka,U,m',p,q,rfl,bt,a2,a3,lo⟩;dsimp only;apply Ch (α:=Nat) (H:=λ_=>True)
       .intro key;by_cases m1:m'>1
        .rw[if_pos m1];generalize m'-1=mm;exact key mm trivial
        .rw[if_neg m1];exact key m' trivial
       intro mm _;refine wpS_bind (Ee λst4 a0=>?_);have Z:Like st st4:=⟨a0.kind.trans ap.kind,a0.arr.trans ap.arr,a0.pend.trans ap.pend,a0.fail.trans ap.fail⟩;have c5:kindOf st4=κ:=Z.kind.trans hK;refine wpS_bind (bM a2 ?_);refine wpS_bind (gP L c5 (mb U a2) (λi hi=>⟨by lia,ma _ (by lia)⟩) (by lia) (λi=>!blt (g b U) (g a (ka+i))) (λi hi=>rfl) (λi j h1 h2 h3=>bl ka _ i j h1 (by lia) h3) λk cg c6 cb=>?_);dsimp only;have cd:k<a.size-ka:=by
        rcases Nat.lt_or_ge k (a.size-ka)with z|z
        .exact z
        .have f:=c6 (a.size-1-ka) (by lia);rw[show ka+(a.size-1-ka)=a.size-1 by lia,b2 U a2]at f;cases f
       have c9:∀i,i<k->blt (g b U) (g a (ka+i))=false:=λi hi=>by have:=c6 i hi;simpa using this
       have bw:blt (g b U) (g a (ka+k))=true:=by have:=cb k (Q4 _) cd;simpa using this
       apply qf (H:=λ(kc:Nat) (o':Array Keyed)=>ka<=kc/\kc+1<a.size/\Lo blt (a.toList++b.toList) o'.toList (a.toList.drop kc) (b.toList.drop U)/\blt (g b U) (g a kc)=true)
       .intro key;by_cases k0:k>0
        .rw[if_pos k0];have lo1:=ab out ka U k (by lia) a2 lo c9;by_cases z:ka+k+1=a.size
         .rw[if_pos (beq_iff_eq.mpr z)];exact wpS_pure ⟨Z,.inl ⟨_,rfl,endB _ (ka+k) U _ Z z lo1⟩⟩
         have zz:¬ka+k=a.size:=by lia
         rw[if_neg (by simpa using z),if_neg (by simpa using zz)];have k5:ka<=ka+k/\ka+k+1<a.size:=by lia
         have bv:=bw;generalize out++a.extract ka (ka+k)=o' at lo1⊢;generalize ka+k=kc at lo1 bv k5⊢;exact key kc o' ⟨k5.1,k5.2,lo1,bv⟩
        .rw[if_neg k0];have bv:=bw;rw[show k=0 by lia,ZQ]at bv;exact key ka out ⟨Q4 _,by lia,lo,bv⟩
       intro kc o' hc;obtain⟨c1,c2,lo1,bw⟩:=hc;refine wpS_bind (bM a2 ?_);have c0:=ba _ kc U (by lia) a2 lo1 bw;by_cases z2:U+1=b.size
       .rw[if_pos (beq_iff_eq.mpr z2)];exact wpS_pure ⟨Z,.inl ⟨_,rfl,endA _ kc (U+1) _ Z (by lia) c0⟩⟩
       rw[if_neg (by simpa using z2)];refine wpS_bind (bM (by lia) ?_);refine wpS_bind (gP L c5 (ma _ (by lia)) (λi hi=>⟨by lia,mb _ (by lia)⟩) (by lia) (λi=>blt (g b (U+1+i)) (g a kc)) (λi hi=>rfl) (λi j h1 h2 h3=>bo (U+1) _ i j h1 (by lia) h3) λk2 h1 h2 h3=>?_);dsimp only;apply qf (H:=λ(kd:Nat) (o2:Array Keyed)=>U+1<=kd/\kd<b.size/\Lo blt (a.toList++b.toList) o2.toList (a.toList.drop kc) (b.toList.drop kd)/\blt (g b kd) (g a kc)=false)
       .intro key;by_cases q0:k2>0
        .rw[if_pos q0];have ax:=an _ kc (U+1) k2 (by lia) (by lia) c0 h2;by_cases z3:U+1+k2=b.size
         .rw[if_pos (beq_iff_eq.mpr z3)];exact wpS_pure ⟨Z,.inl ⟨_,rfl,endA _ kc (U+1+k2) _ Z (by lia) ax⟩⟩
         rw[if_neg (by simpa using z3)];have w3:=h3 k2 (Q4 _) (by lia);have k5:U+1<=U+1+k2/\U+1+k2<b.size:=by lia
         generalize o'.push (g b U)++b.extract (U+1) (U+1+k2)=o2 at ax⊢;generalize U+1+k2=kd at ax w3 k5⊢;exact key kd o2 ⟨k5.1,k5.2,ax,w3⟩
        .rw[if_neg q0];have w3:blt (g b (U+1)) (g a kc)=false:=h3 0 (by lia) (by lia);have k5:U+1<b.size:=by lia
         exact key (U+1) _ ⟨Q4 _,k5,c0,w3⟩
       intro kd o2 hd;obtain⟨d1,d2,ax,w3⟩:=hd;refine wpS_bind (bM (by lia) ?_);have c3:=bb _ kc kd (by lia) (by lia) ax w3;by_cases z4:kc+1+1=a.size
       .rw[if_pos (beq_iff_eq.mpr z4)];exact wpS_pure ⟨Z,.inl ⟨_,rfl,endB _ (kc+1) kd _ Z z4 c3⟩⟩
       rw[if_neg (by simpa using z4)];split
       .exact wpS_pure ⟨Z,.inr ⟨_,_,_,_,_,_,rfl,by lia,by lia,by lia,c3⟩⟩
       .exact wpS_pure ⟨Z,_,_,_,_,_,_,rfl,by lia,by lia,by lia,c3⟩
      .rintro c a5 ⟨a0,out,ka,U,m',p,q,rfl,bt,a2,a3,lo⟩;have em:max 0 (a.size+b.size)=a.size+b.size:=QL (Qj _);rw[em]at a3;lia
      .rintro ⟨r,c⟩ a5 ⟨a0,⟨res,e,q⟩|⟨out,ka,U,m',p,q,e,bt,a2,a3,lo⟩⟩
       .dsimp only at e;subst e;exact wpS_pure ⟨res,rfl,q⟩
       .obtain⟨rfl,rfl⟩:=Prod.mk.inj e;dsimp only;refine wpS_bind (wpS_modify (wpS_pure ⟨⟨a0.kind,a0.arr,a0.pend,a0.fail⟩,_,_,_,_,rfl,bt,a2,by lia,lo⟩))
   .rintro c st' ⟨lk,out,G,O,mg,rfl,c4,hb1,hi,lo⟩;have em:max 0 (a.size+b.size)=a.size+b.size:=QL (Qj _);rw[em]at hi;lia
   .rintro ⟨r,c⟩ st' ⟨res,e,q⟩;dsimp only at e;subst e;exact wpS_pure q
end
section
structure Hi (blt:Keyed->Keyed->Bool) (all o ra rb:List Keyed):Prop where
 perm:((ra++rb)++o).Perm all
 srt:PW blt o
 high:∀x∈ra++rb,∀y∈o,le blt x y
theorem Hi.a {G:List Keyed} (h:Hi blt all o (ra++G) rb) (hs:PW blt (ra++G)) (hc:∀x∈rb,∀y∈G,le blt x y):Hi blt all (G++o) ra rb where
 perm:=by
  refine List.Perm.trans ?_ h.perm;rw[<-Ql];refine List.Perm.append_right o ?_;rw[Ql,Ql];exact List.Perm.append_left ra ZS
 srt:=Qk.mpr ⟨(Qk.mp hs).2.1,h.srt,λx hx y hy=>h.high x (by simp[hx]) y hy⟩
 high:=λx hx y hy=>by
  rcases Q5.mp hy with q|q
  .rcases Q5.mp hx with z|z
   .exact(Qk.mp hs).2.2 x z y q
   .exact hc x z y q
  .exact h.high x (by rcases Q5.mp hx with z|z<;>simp[z]) y q
theorem Hi.b {G:List Keyed} (h:Hi blt all o ra (rb++G)) (hs:PW blt (rb++G)) (hc:∀x∈ra,∀y∈G,le blt x y):Hi blt all (G++o) ra rb where
 perm:=by
  refine List.Perm.trans ?_ h.perm;rw[<-Ql];refine List.Perm.append_right o ?_;rw[Ql]
 srt:=Qk.mpr ⟨(Qk.mp hs).2.1,h.srt,λx hx y hy=>h.high x (by simp[hx]) y hy⟩
 high:=λx hx y hy=>by
  rcases Q5.mp hy with q|q
  .rcases Q5.mp hx with z|z
   .exact hc x z y q
   .exact(Qk.mp hs).2.2 x z y q
  .exact h.high x (by rcases Q5.mp hx with z|z<;>simp[z]) y q
theorem Eo {a:Array Keyed} (h:i<a.size):a.toList.take (i+1)=a.toList.take i++ [g a i]:=by
 have e:=dC h;rw[<-Qw]at e;rw[Qr,e];rfl
theorem iz {a:Array Keyed} (h:x∈a.toList.take n):∃j,j<n/\j<a.size/\x=g a j:=by
 obtain⟨k,hk,e⟩:=Zr.mp h;rw[Q8,Q6]at hk;refine⟨k,by lia,by lia,?_⟩;have e2:=dC (xs:=a) (i:=k) (by lia);rw[<-Qw,Q3 (by rw[Q6];lia)]at e2;rw[Zs]at e;rw[<-e];exact Option.some.inj e2
theorem d9 {a:Array Keyed} (h:x∈(a.extract i n).toList):∃j,i<=j/\j<n/\j<a.size/\x=g a j:=by
 rw[Z8,QU]at h;obtain⟨k,hk,e⟩:=Zr.mp h;rw[Q8,QA,Q6]at hk;refine⟨i+k,by lia,by lia,by lia,?_⟩;have e2:=dC (xs:=a) (i:=i+k) (by lia);rw[<-Qw,Q3 (by rw[Q6];lia)]at e2;rw[Zs,ZB]at e;rw[<-e];exact Option.some.inj e2
theorem nu {a:Array Keyed} (h:On blt a 0 a.size) (n:Nat):PW blt (a.toList.take n):=by
 have:=ig h 0;rw[Z9]at this;exact List.Pairwise.sublist (X7 _ _) this
theorem zk {a:Array Keyed} (h:i<=n):a.toList.take n=a.toList.take i++(a.extract i n).toList:=by
 rw[Z8,QU];obtain⟨k,rfl⟩:∃k,n=i+k:=⟨n-i,by lia⟩;rw[List.take_add,show i+k-i=k by lia]
theorem HF (a:Array Keyed) (n:Nat):(a.extract 0 n).toList=a.toList.take n:=by
 rw[Z8,QU,Z9,Nat.sub_zero]
end
section
variable (L:y4 prog w A E s a₀ κ blt)
include L
theorem AL {a b:Array Keyed} {Q:Array Keyed->SortSt->Prop} (C:Cmp blt) (hK:kindOf st=κ) (hm:∀x,x∈a.toList++b.toList->x∈a₀) (oa:On blt a 0 a.size) (ob:On blt b 0 b.size) (ha:0<a.size) (hb:0<b.size)
  (a7:blt (g b 0) (g a 0)=true) (c0:∀j,j<b.size->blt (g b j) (g a (a.size-1))=true)
  (h:∀res st',Like st st'->res.toList.Perm (a.toList++b.toList)->PW blt res.toList->Q res st'):wpS (model prog w) A E s (E4 a b) Q st:=by
 have ma:∀i,i<a.size->g a i∈a₀:=λi hi=>hm _ (by have:=xA hi;simp[this]);have mb:∀i,i<b.size->g b i∈a₀:=λi hi=>hm _ (by have:=xA hi;simp[this]);have ab:∀i,i<a.size->blt (g b 0) (g a i)=true:=λi hi=>by
  by_cases i0:i=0
  .rw[i0];exact a7
  .cases z:blt (g b 0) (g a i)with
   |true=>rfl
   |false=>
    have f:blt (g b 0) (g a 0)=false:=C.trans (oa 0 i (Q4 _) (by lia) hi) z;rw[a7]at f;cases f
 have an:∀(out:Array Keyed) (G O k:Nat),k<=G->G<=a.size->1<=O->O<=b.size->Hi blt (a.toList++b.toList) out.reverse.toList (a.toList.take G) (b.toList.take O)->(∀i,k<=i->i<G->blt (g b (O-1)) (g a i)=true)->
   Hi blt (a.toList++b.toList) (out++(a.extract k G).reverse).reverse.toList (a.toList.take k) (b.toList.take O):=λout G O k h1 h2 h3 h4 lo hk=>by
  have er:(out++(a.extract k G).reverse).reverse.toList=(a.extract k G).toList++out.reverse.toList:=by simp
  have pa:=nu oa G;rw[zk h1]at lo pa;rw[er];refine lo.a pa λx hx y hy=>?_;obtain⟨i,b9,ba,ci,rfl⟩:=d9 hy;obtain⟨j,bv,bb,rfl⟩:=iz hx;have l1:=C.of_lt (hk i b9 ba);by_cases ej:j=O-1
  .rw[ej];exact l1
  .exact C.trans (ob j (O-1) (Qj _) (by lia) (by lia)) l1
 have ap:∀(out:Array Keyed) (G O k:Nat),k<=O->O<=b.size->1<=G->G<=a.size->Hi blt (a.toList++b.toList) out.reverse.toList (a.toList.take G) (b.toList.take O)->(∀i,k<=i->i<O->blt (g b i) (g a (G-1))=false)->
   Hi blt (a.toList++b.toList) (out++(b.extract k O).reverse).reverse.toList (a.toList.take G) (b.toList.take k):=λout G O k h1 h2 h3 h4 lo hk=>by
  have er:(out++(b.extract k O).reverse).reverse.toList=(b.extract k O).toList++out.reverse.toList:=by simp
  have pb:=nu ob O;rw[zk h1]at lo pb;rw[er];refine lo.b pb λx hx y hy=>?_;obtain⟨i,b9,ba,ci,rfl⟩:=d9 hy;obtain⟨j,bv,bb,rfl⟩:=iz hx;have l1:le blt (g a (G-1)) (g b i):=hk i b9 ba;by_cases ej:j=G-1
  .rw[ej];exact l1
  .exact C.trans (oa j (G-1) (Qj _) (by lia) (by lia)) l1
 have one:∀(x:Array Keyed) (i:Nat),i<x.size->(x.extract i (i+1)).reverse= #[g x i]:=λx i hi=>by
  have:x.extract i (i+1)= #[g x i]:=by
   apply Array.ext';rw[qq,vi hi];rfl
  rw[this];rfl
 have be:∀(out:Array Keyed) (G O:Nat),1<=G->G<=a.size->1<=O->O<=b.size->Hi blt (a.toList++b.toList) out.reverse.toList (a.toList.take G) (b.toList.take O)->blt (g b (O-1)) (g a (G-1))=true->
   Hi blt (a.toList++b.toList) (out.push (g a (G-1))).reverse.toList (a.toList.take (G-1)) (b.toList.take O):=λout G O h1 h2 h3 h4 lo hk=>by
  have:=an out G O (G-1) (by lia) h2 h3 h4 lo λi hi hj=>by rw[show i=G-1 by lia];exact hk
  rwa [show a.extract (G-1) G=a.extract (G-1) (G-1+1) by rw[show G-1+1=G by lia],one a (G-1) (by lia),<-ZY]at this
 have bl:∀(out:Array Keyed) (G O:Nat),1<=G->G<=a.size->1<=O->O<=b.size->Hi blt (a.toList++b.toList) out.reverse.toList (a.toList.take G) (b.toList.take O)->blt (g b (O-1)) (g a (G-1))=false->
   Hi blt (a.toList++b.toList) (out.push (g b (O-1))).reverse.toList (a.toList.take G) (b.toList.take (O-1)):=λout G O h1 h2 h3 h4 lo hk=>by
  have:=ap out G O (O-1) (by lia) h4 h1 h2 lo λi hi hj=>by rw[show i=O-1 by lia];exact hk
  rwa [show b.extract (O-1) O=b.extract (O-1) (O-1+1) by rw[show O-1+1=O by lia],one b (O-1) (by lia),<-ZY]at this
 have endA:∀(out:Array Keyed) (G O:Nat) (st':SortSt),Like st st'->G=0->O<=b.size->Hi blt (a.toList++b.toList) out.reverse.toList (a.toList.take G) (b.toList.take O)->Q (a.extract 0 G++b.extract 0 O++out.reverse) st':=λout G O st' lk hn c3 lo=>by
  subst hn;have e:(a.extract 0 0++b.extract 0 O++out.reverse).toList=b.toList.take O++out.reverse.toList:=by
   rw[QG,QG,HF,HF];rfl
  refine h _ st' lk ?_ ?_
  .rw[e];exact lo.perm
  .rw[e];exact Qk.mpr ⟨nu ob O,lo.srt,λx hx y hy=>lo.high x (by simp[hx]) y hy⟩
 have endB:∀(out:Array Keyed) (G O:Nat) (st':SortSt),Like st st'->O=1->G<=a.size->Hi blt (a.toList++b.toList) out.reverse.toList (a.toList.take G) (b.toList.take O)->Q (b.extract 0 O++a.extract 0 G++out.reverse) st':=λout G O st' lk hn c4 lo=>by
  subst hn;have e:(b.extract 0 1++a.extract 0 G++out.reverse).toList=(b.toList.take 1++a.toList.take G)++out.reverse.toList:=by
   rw[QG,QG,HF,HF]
  refine h _ st' lk ?_ ?_
  .rw[e];exact List.Perm.trans (List.Perm.append_right _ ZS) lo.perm
  .rw[e];refine Qk.mpr ⟨Qk.mpr ⟨nu ob 1,nu oa G,λx hx y hy=>?_⟩,lo.srt,λx hx y hy=>lo.high x ?_ y hy⟩
   .obtain⟨i,b9,ba,rfl⟩:=iz hx;obtain⟨j,bv,bb,rfl⟩:=iz hy;rw[show i=0 by lia];exact C.of_lt (ab j bb)
   .rcases Q5.mp hx with z|z
    .exact Q5.mpr (.inr z)
    .exact Q5.mpr (.inl z)
 have c5:∀(ka:Nat) (x:Keyed) (i j:Nat),i<=j->ka+j<a.size->(!blt x (g a (ka+j)))=true->(!blt x (g a (ka+i)))=true:=λka x i j h1 h2 h3=>by
  have h3:blt x (g a (ka+j))=false:=by simpa using h3
  by_cases e:i=j
  .subst e;simpa using h3
  .have:=C.trans (oa (ka+i) (ka+j) (Qj _) (by lia) h2) h3;simpa using this
 have c6:∀(U:Nat) (x:Keyed) (i j:Nat),i<=j->U+j<b.size->blt (g b (U+j)) x=true->blt (g b (U+i)) x=true:=λU x i j h1 h2 h3=>by
  by_cases e:i=j
  .subst e;exact h3
  .have q:=ob (U+i) (U+j) (Qj _) (by lia) h2;cases z:blt (g b (U+i)) x with
   |true=>rfl
   |false=>
    have f:blt (g b (U+j)) x=false:=C.trans z q;rw[h3]at f;cases f
 refine wpS_bind ?_;dsimp only;refine wpS_lift (wpAny_rule ⟨rfl,?_⟩);refine wpS_bind (bM (by lia) ?_);have start:Hi blt (a.toList++b.toList) (#[g a (a.size-1)]:Array Keyed).reverse.toList (a.toList.take (a.size-1)) (b.toList.take b.size):=by
  have l0:Hi blt (a.toList++b.toList) [] (a.toList.take (a.size-1)++ [g a (a.size-1)]) (b.toList.take b.size):=by
   refine⟨?_,List.Pairwise.nil,λx _ y hy=>absurd hy QT⟩;rw[<-Eo (by lia),show a.size-1+1=a.size by lia,ZL];have e1:a.toList.take a.size=a.toList:=Qt (by rw[Q6];exact Q4 _);have e2:b.toList.take b.size=b.toList:=Qt (by rw[Q6];exact Q4 _);rw[e1,e2]
  have:=l0.a (by rw[<-Eo (by lia)];exact nu oa _) (λx hx y hy=>by
   rw[Q7.mp hy];obtain⟨j,_,hj,rfl⟩:=iz hx;exact C.of_lt (c0 j hj))
  exact this
 by_cases a1:a.size-1=0
 .rw[if_pos (beq_iff_eq.mpr a1)];exact wpS_pure (endA _ (a.size-1) b.size st (Like.refl _) a1 (Q4 _) start)
 .rw[if_neg (by simpa using a1)];by_cases b1:b.size=1
  .rw[if_pos (beq_iff_eq.mpr b1)];exact wpS_pure (endB _ (a.size-1) b.size st (Like.refl _) b1 (by lia) start)
  .rw[if_neg (by simpa using b1)];refine wpS_bind (wpS_get ?_);refine wpS_bind (wpS_mono (wpS_forRange (I:=λi c st'=>Like st st'/\∃G O out mg,c=(none,G,O,out,mg)/\1<=G/\G<=a.size/\2<=O/\O<=b.size/\G+O+i<=a.size+b.size/\Hi blt (a.toList++b.toList) out.reverse.toList (a.toList.take G) (b.toList.take O))
    (Q:=λc st'=>∃res,c.1=some res/\Q res st') ?_ ?_ ⟨Like.refl _,_,_, #[g a (a.size-1)],_,rfl,by lia,by lia,by lia,Q4 _,by lia,start⟩) ?_)
   .rintro i c st' b9 ba ⟨lk,G,O,out,mg,rfl,ce,c4,hb1,c3,hi,lo⟩;have cj:kindOf st'=κ:=lk.kind.trans hK;refine wpS_bind (wpS_mono (wpS_forRange (I:=λj c st2=>st2=st'/\∃ja jb out p q,c=(none,ja,jb,out,p,q)/\1<=ja/\ja<=a.size/\2<=jb/\jb<=b.size/\ja+jb<=G+O/\Hi blt (a.toList++b.toList) out.reverse.toList (a.toList.take ja) (b.toList.take jb))
     (Q:=λc st2=>st2=st'/\((∃res,c.1=some res/\Q res st')\/∃ja jb out p q,c=(none,ja,jb,out,p,q)/\1<=ja/\ja<=a.size/\2<=jb/\jb<=b.size/\ja+jb<=G+O/\Hi blt (a.toList++b.toList) out.reverse.toList (a.toList.take ja) (b.toList.take jb))) ?_ ?_
     ⟨rfl,G,O,out,0,0,rfl,ce,c4,hb1,c3,Q4 _,lo⟩) ?_)
    .rintro j c st2 bv bb ⟨rfl,ja,jb,out,p,q,rfl,b2,Y,b5,Z,a3,lo⟩;dsimp only;refine wpS_bind (bM (by lia) (wpS_bind (bM (by lia) (wpS_bind (L _ _ _ _ (mb (jb-1) (by lia)) (ma (ja-1) (by lia)) cj ?_)))));dsimp only;cases e:blt (g b (jb-1)) (g a (ja-1))with
     |true=>
      rw[if_pos rfl];have a4:=be out ja jb (by lia) Y (by lia) Z lo e;refine wpS_bind (bM (by lia) ?_);by_cases z:ja-1=0
      .rw[if_pos (beq_iff_eq.mpr z)];exact wpS_pure ⟨rfl,.inl ⟨_,rfl,endA _ (ja-1) jb _ lk z Z a4⟩⟩
      .rw[if_neg (by simpa using z)];by_cases y:p+1>=mg
       .rw[if_pos y];exact wpS_pure ⟨rfl,.inr ⟨_,_,_,_,_,rfl,by lia,by lia,b5,Z,by lia,a4⟩⟩
       .rw[if_neg y];exact wpS_pure ⟨rfl,_,_,_,_,_,rfl,by lia,by lia,b5,Z,by lia,a4⟩
     |false=>
      rw[if_neg (by decide)];have a4:=bl out ja jb (by lia) Y (by lia) Z lo e;refine wpS_bind (bM (by lia) ?_);by_cases z:jb-1=1
      .rw[if_pos (beq_iff_eq.mpr z)];exact wpS_pure ⟨rfl,.inl ⟨_,rfl,endB _ ja (jb-1) _ lk z Y a4⟩⟩
      .rw[if_neg (by simpa using z)];by_cases y:q+1>=mg
       .rw[if_pos y];exact wpS_pure ⟨rfl,.inr ⟨_,_,_,_,_,rfl,b2,Y,by lia,by lia,by lia,a4⟩⟩
       .rw[if_neg y];exact wpS_pure ⟨rfl,_,_,_,_,_,rfl,b2,Y,by lia,by lia,by lia,a4⟩
    .rintro c st2 ⟨rfl,ja,jb,out,p,q,rfl,b2,Y,b5,Z,a3,lo⟩;exact⟨rfl,.inr ⟨_,_,_,_,_,rfl,b2,Y,b5,Z,a3,lo⟩⟩
    .rintro ⟨r,c⟩ st2 ⟨rfl,⟨res,e,q⟩|⟨ja,jb,out,p,q,e,b2,Y,b5,Z,a3,lo⟩⟩
     .dsimp only at e;subst e;exact wpS_pure ⟨res,rfl,q⟩
     .obtain⟨rfl,rfl⟩:=Prod.mk.inj e;dsimp only;refine wpS_bind (wpS_lift (wpAny_rule ⟨rfl,?_⟩));refine wpS_bind (wpS_mono (wpS_forRange (I:=λj c a5=>Like st a5/\∃ka U out m' p q,c=(none,ka,U,out,m',p,q)/\1<=ka/\ka<=a.size/\2<=U/\U<=b.size/\ka+U+j<=G+O/\Hi blt (a.toList++b.toList) out.reverse.toList (a.toList.take ka) (b.toList.take U))
       (Q:=λc a5=>Like st a5/\((∃res,c.1=some res/\Q res a5)\/∃ka U out m' p q,c=(none,ka,U,out,m',p,q)/\1<=ka/\ka<=a.size/\2<=U/\U<=b.size/\ka+U+1<=G+O/\Hi blt (a.toList++b.toList) out.reverse.toList (a.toList.take ka) (b.toList.take U))) ?_ ?_
       ⟨lk,ja,jb,out,_,_,_,rfl,b2,Y,b5,Z,by lia,lo⟩) ?_)
      .rintro j c a5 bv bb ⟨aw,ka,U,out,m',p,q,rfl,c9,bo,ca,bt,a3,lo⟩;dsimp only;apply Ch (α:=Nat) (H:=λ_=>True)
       .intro key;by_cases m1:m'>1
        .rw[if_pos m1];generalize m'-1=mm;exact key mm trivial
        .rw[if_neg m1];exact key m' trivial
       intro mm _;refine wpS_bind (Ee λst4 a2=>?_);have a0:Like st st4:=⟨a2.kind.trans aw.kind,a2.arr.trans aw.arr,a2.pend.trans aw.pend,a2.fail.trans aw.fail⟩;have cf:kindOf st4=κ:=a0.kind.trans hK;refine wpS_bind (bM (by lia) ?_);refine wpS_bind (gP L cf (mb (U-1) (by lia)) (λi hi=>⟨by lia,ma _ (by lia)⟩) (by lia) (λi=>!blt (g b (U-1)) (g a (0+i))) (λi hi=>rfl) (λi j h1 h2 h3=>c5 0 _ i j h1 (by lia) h3) λk cr ck cm=>?_);dsimp only;have ax:∀i,i<k->blt (g b (U-1)) (g a i)=false:=λi hi=>by have f:=ck i hi;rw[XE]at f;simpa using f
       have cg:∀i,k<=i->i<ka->blt (g b (U-1)) (g a i)=true:=λi hi hj=>by have f:=cm i hi hj;rw[XE]at f;simpa using f
       apply qf (H:=λ(kc:Nat) (o':Array Keyed)=>0<kc/\kc<=ka/\(∀i,i<kc->blt (g b (U-1)) (g a i)=false)/\Hi blt (a.toList++b.toList) o'.reverse.toList (a.toList.take kc) (b.toList.take U))
       .intro key;by_cases k0:ka-k>0
        .rw[if_pos k0];have lo1:=an out ka U k (by lia) (by lia) (by lia) (by lia) lo cg;by_cases z:k=0
         .rw[if_pos (beq_iff_eq.mpr z)];exact wpS_pure ⟨a0,.inl ⟨_,rfl,endA _ k U _ a0 z (by lia) lo1⟩⟩
         rw[if_neg (by simpa using z)];generalize out++(a.extract k ka).reverse=o' at lo1⊢;obtain⟨kc,ek⟩:∃kc,kc=k:=⟨_,rfl⟩;rw[<-ek]at lo1⊢;exact key kc o' ⟨by lia,by lia,by rw[ek];exact ax,lo1⟩
        .rw[if_neg k0];have e0:k=ka:=by lia
         rw[e0];exact key ka out ⟨by lia,Q4 _,by rw[<-e0];exact ax,lo⟩
       intro kc o' hc;obtain⟨c1,c2,ax,lo1⟩:=hc;refine wpS_bind (bM (by lia) ?_);have cb:=bl _ kc U (by lia) (by lia) (by lia) (by lia) lo1 (ax (kc-1) (by lia));by_cases z2:U-1=1
       .rw[if_pos (beq_iff_eq.mpr z2)];exact wpS_pure ⟨a0,.inl ⟨_,rfl,endB _ kc (U-1) _ a0 z2 (by lia) cb⟩⟩
       rw[if_neg (by simpa using z2)];refine wpS_bind (bM (by lia) ?_);refine wpS_bind (gP L cf (ma _ (by lia)) (λi hi=>⟨by lia,mb _ (by lia)⟩) (by lia) (λi=>blt (g b (0+i)) (g a (kc-1))) (λi hi=>rfl) (λi j h1 h2 h3=>c6 0 _ i j h1 (by lia) h3) λk2 h1 h2 h3=>?_);dsimp only;have cs:0<k2:=by
        rcases Zy k2 with z|z
        .have f:blt (g b (0+0)) (g a (kc-1))=false:=h3 0 (by lia) (by lia);rw[ZQ,ab (kc-1) (by lia)]at f;cases f
        .exact z
       have bw:∀i,i<k2->blt (g b i) (g a (kc-1))=true:=λi hi=>by have f:=h2 i hi;rwa [XE]at f
       have co:∀i,k2<=i->i<U-1->blt (g b i) (g a (kc-1))=false:=λi hi hj=>by have f:=h3 i hi hj;rwa [XE]at f
       apply qf (H:=λ(kd:Nat) (o2:Array Keyed)=>1<kd/\kd<=U-1/\(∀i,i<kd->blt (g b i) (g a (kc-1))=true)/\Hi blt (a.toList++b.toList) o2.reverse.toList (a.toList.take kc) (b.toList.take kd))
       .intro key;by_cases q0:U-1-k2>0
        .rw[if_pos q0];have b8:=ap _ kc (U-1) k2 (by lia) (by lia) (by lia) (by lia) cb co;by_cases z3:k2=1
         .rw[if_pos (beq_iff_eq.mpr z3)];exact wpS_pure ⟨a0,.inl ⟨_,rfl,endB _ kc k2 _ a0 z3 (by lia) b8⟩⟩
         have zz:¬k2=0:=by lia
         rw[if_neg (by simpa using z3),if_neg (by simpa using zz)];generalize o'.push (g b (U-1))++(b.extract k2 (U-1)).reverse=o2 at b8⊢;obtain⟨kd,ed⟩:∃kd,kd=k2:=⟨_,rfl⟩;rw[<-ed]at b8⊢;exact key kd o2 ⟨by lia,by lia,by rw[ed];exact bw,b8⟩
        .rw[if_neg q0];have e2:k2=U-1:=by lia
         rw[e2];exact key (U-1) _ ⟨by lia,Q4 _,by rw[<-e2];exact bw,cb⟩
       intro kd o2 hd;obtain⟨d1,d2,bw,b8⟩:=hd;refine wpS_bind (bM (by lia) ?_);have cd:=be _ kc kd (by lia) (by lia) (by lia) (by lia) b8 (bw (kd-1) (by lia));by_cases z4:kc-1=0
       .rw[if_pos (beq_iff_eq.mpr z4)];exact wpS_pure ⟨a0,.inl ⟨_,rfl,endA _ (kc-1) kd _ a0 z4 (by lia) cd⟩⟩
       rw[if_neg (by simpa using z4)];split
       .exact wpS_pure ⟨a0,.inr ⟨_,_,_,_,_,_,rfl,by lia,by lia,by lia,by lia,by lia,cd⟩⟩
       .exact wpS_pure ⟨a0,_,_,_,_,_,_,rfl,by lia,by lia,by lia,by lia,by lia,cd⟩
      .rintro c a5 ⟨a2,ka,U,out,m',p,q,rfl,c9,bo,ca,bt,a3,lo⟩;have em:max 0 (a.size+b.size)=a.size+b.size:=QL (Qj _);rw[em]at a3;lia
      .rintro ⟨r,c⟩ a5 ⟨a2,⟨res,e,q⟩|⟨ka,U,out,m',p,q,e,c9,bo,ca,bt,a3,lo⟩⟩
       .dsimp only at e;subst e;exact wpS_pure ⟨res,rfl,q⟩
       .obtain⟨rfl,rfl⟩:=Prod.mk.inj e;dsimp only;refine wpS_bind (wpS_modify (wpS_pure ⟨⟨a2.kind,a2.arr,a2.pend,a2.fail⟩,_,_,_,_,rfl,c9,bo,ca,bt,by lia,lo⟩))
   .rintro c st' ⟨lk,G,O,out,mg,rfl,ce,c4,hb1,c3,hi,lo⟩;have em:max 0 (a.size+b.size)=a.size+b.size:=QL (Qj _);rw[em]at hi;lia
   .rintro ⟨r,c⟩ st' ⟨res,e,q⟩;dsimp only at e;subst e;exact wpS_pure q
end
end Srt
namespace Srt
open PySem PyProof.Rows
variable {A:Around} {p:Array (Nat×Nat×Nat)} {arr a₀ m xs:Array Keyed} {Q:Bool->SortSt->Prop} {blt:Keyed->Keyed->Bool} {l:List (Nat×Nat×Nat)} {at_ i lo n:Nat} {prog:Program} {s:Shared} {κ:SortKind} {st:SortSt} {α:Type} {E:Value->Shared->Prop} {w:World}
section
def lay (arr:Array Keyed) (at_:Nat) (m:Array Keyed):Array Keyed:=m.toList.zipIdx.foldl (λa p=>a.setIfInBounds (at_+p.2) p.1) arr
theorem Ff:∀(l:List Keyed) (j:Nat) (arr:Array Keyed) (at_:Nat),at_+j+l.length<=arr.size->
  ((l.zipIdx j).foldl (λa p=>a.setIfInBounds (at_+p.2) p.1) arr).toList=arr.toList.take (at_+j)++l++arr.toList.drop (at_+j+l.length)
 | [],j,arr,at_,h=>by simp
 |x::l,j,arr,at_,h=>by
  rw[List.zipIdx_cons,List.foldl_cons];have hl:at_+j<arr.size:=by simp at h;lia
  have z:=Ff l (j+1) (arr.setIfInBounds (at_+j) x) at_ (by simp at h⊢;lia)
  rw[z,V1];have G:(arr.toList.set (at_+j) x).take (at_+(j+1))=arr.toList.take (at_+j)++ [x]:=by
   rw[show at_+(j+1)=at_+j+1 by lia,Qr,List.take_set_of_le (Q4 _),Xf (by rw[Q6];exact hl)];rfl
  have e2:(arr.toList.set (at_+j) x).drop (at_+(j+1)+l.length)=arr.toList.drop (at_+j+(x::l).length):=by
   rw[List.drop_set_of_lt (by lia)];congr 1;simp;lia
  rw[G,e2,Ql,Ql,Ql];rfl
theorem zX (h:at_+m.size<=arr.size):(lay arr at_ m).toList=arr.toList.take at_++m.toList++arr.toList.drop (at_+m.size):=by
 have:=Ff m.toList 0 arr at_ (by simpa using h)
 simpa[lay]using this
theorem yL (xs:Array Keyed) (k:Nat):g xs k=(xs.toList[k]?).getD dk:=by unfold g;rw[Qw]
theorem K3 (h:at_+m.size<=arr.size) (k:Nat):g (lay arr at_ m) k=if at_<=k/\k<at_+m.size then g m (k-at_)else g arr k:=by
 rw[yL,zX h];have l1:(arr.toList.take at_).length=at_:=by rw[Q8,Q6];lia
 by_cases a:k<at_
 .rw[if_neg (by lia),Ql,Zm (by lia),X9 a,<-yL]
 .by_cases b:k<at_+m.size
  .rw[if_pos ⟨by lia,b⟩,Ql,Zi (by lia),l1,Zm (by rw[Q6];lia),<-yL]
  .rw[if_neg (by lia),Zi (by rw[Qa,l1,Q6];lia),Qa,l1,Q6,X4,show at_+m.size+(k-(at_+m.size))=k by lia,<-yL]
theorem Fe (h:at_+m.size<=arr.size) (p:m.toList.Perm ((arr.toList.drop at_).take m.size)):(lay arr at_ m).Perm arr:=by
 rw[X5,zX h];have e:arr.toList=arr.toList.take at_++((arr.toList.drop at_).take m.size++arr.toList.drop (at_+m.size)):=by
  rw[<-Xo,QJ,QJ]
 refine List.Perm.trans ?_ (List.Perm.of_eq e.symm);rw[Ql];exact List.Perm.append_left _ (List.Perm.append_right _ p)
theorem ot (h:n<=arr.size) {k:Nat} (hk:k<n-i):g (arr.extract i n) k=g arr (i+k):=by
 unfold g;rw[Array.getElem?_extract,if_pos (by lia)]
theorem ur (h:n<=arr.size):(arr.extract i n).size=n-i:=by rw[Array.size_extract];lia
theorem yw (h:n<=arr.size) (o:On blt arr i n):On blt (arr.extract i n) 0 (arr.extract i n).size:=λa b _ z hb=>by
 rw[ur h]at hb;rw[ot h (by lia),ot h hb];exact o _ _ (by lia) (by lia) (by lia)
end
section
theorem GO {x:SortSt} {Q:PUnit->SortSt->Prop} (h:Q ⟨⟩ x):wpS (model prog w) A E s (set x:StateT SortSt Sem PUnit) Q st:=by
 unfold wpS;rw[StateT.run_set];exact wpAny_pure ⟨rfl,h⟩
variable (L:y4 prog w A E s a₀ κ blt)
include L
theorem AM {G I pa sb U pb:Nat} (C:Cmp blt) (B:Base a₀ κ st) (hi:(pendingOf st)[i]?=some (G,I,pa)) (O:(pendingOf st)[i+1]?=some (sb,U,pb)) (hb:sb=G+I) (h1:1<=I) (h2:1<=U) (hz:sb+U<=a₀.size)
  (oa:On blt (arrOf st) G (G+I)) (ob:On blt (arrOf st) sb (sb+U))
  (h:∀st',Base a₀ κ st'->pendingOf st'=((pendingOf st).setIfInBounds i (G,I+U,pa)).eraseIdxIfInBounds (i+1)->On blt (arrOf st') G (G+(I+U))->(∀k,k<G\/G+(I+U)<=k->g (arrOf st') k=g (arrOf st) k)->Q true st'):
  wpS (model prog w) A E s (mergeAt' i) Q st:=by
 subst hb;have hsz:=B.size;have b5:((sortPriv%PySem.Builtin.SortState.a) st).size=a₀.size:=B.size;refine wpS_bind (wpS_get ?_);dsimp only;rw[hi,O];dsimp only;refine wpS_bind (GO ?_);have B1:Base a₀ κ (SortSt.mk' (kindOf st) (arrOf st) (((pendingOf st).setIfInBounds i (G,I+U,pa)).eraseIdxIfInBounds (i+1)) (gallopOf st) (failedOf st)):=⟨B.kind,B.fine,B.perm⟩;refine wpS_bind (bM (by lia) ?_);refine wpS_bind (gP L B1.kind (B.mem (by lia)) (λj O=>⟨by lia,B.mem (by lia)⟩) (by lia) (λj=>!blt (g (arrOf st) (G+I)) (g (arrOf st) (G+j))) (λj O=>rfl) (λx y h3 h4 h5=>?_) λk b8 aw ax=>?_)
 .have h5:blt (g (arrOf st) (G+I)) (g (arrOf st) (G+y))=false:=by simpa using h5
  by_cases e:x=y
  .subst e;simpa using h5
  .have:=C.trans (oa (G+x) (G+y) (by lia) (by lia) (by lia)) h5;simpa using this
 .dsimp only;have low:∀j,j<k->le blt (g (arrOf st) (G+j)) (g (arrOf st) (G+I)):=λj O=>by have:=aw j O;simpa using this
  have up:∀j,k<=j->j<I->blt (g (arrOf st) (G+I)) (g (arrOf st) (G+j))=true:=λj O b1=>by have:=ax j O b1;simpa using this
  have a2:∀j x,j<k->G+I<=x->x<G+I+U->le blt (g (arrOf st) (G+j)) (g (arrOf st) x):=λj x O hx Z=>by
   by_cases e:x=G+I
   .rw[e];exact low j O
   .exact C.trans (low j O) (ob (G+I) x (Q4 _) (by lia) Z)
  by_cases n0:I-k=0
  .rw[if_pos (beq_iff_eq.mpr n0)];refine wpS_pure (h _ B1 rfl (λx y hx a0 hy=>?_) λ_ _=>rfl);by_cases c:y<G+I
   .exact oa x y hx a0 c
   .by_cases d:x<G+I
    .have:=a2 (x-G) y (by lia) (by lia) (by lia);rwa [show G+(x-G)=x by lia]at this
    .exact ob x y (by lia) a0 (by lia)
  .rw[if_neg (by simpa using n0)];refine wpS_bind (bM (by lia) ?_);rw[show G+k+(I-k)-1=G+I-1 by lia];refine wpS_bind (gP L B1.kind (B.mem (by lia)) (λj O=>⟨by lia,B.mem (by lia)⟩) (by lia) (λj=>blt (g (arrOf st) (G+I+j)) (g (arrOf st) (G+I-1))) (λj O=>rfl) (λx y h3 h4 h5=>?_) λm b9 b2 a7=>?_)
   .by_cases e:x=y
    .subst e;exact h5
    .cases z:blt (g (arrOf st) (G+I+x)) (g (arrOf st) (G+I-1))with
     |true=>rfl
     |false=>
      have f:blt (g (arrOf st) (G+I+y)) (g (arrOf st) (G+I-1))=false:=C.trans z (ob (G+I+x) (G+I+y) (by lia) (by lia) (by lia));rw[h5]at f;cases f
   .dsimp only;have a3:∀j,j<m->blt (g (arrOf st) (G+I+j)) (g (arrOf st) (G+I-1))=true:=b2;have first:blt (g (arrOf st) (G+I+0)) (g (arrOf st) (G+k+0))=true:=by
     rw[ZQ,ZQ];exact up k (Q4 _) (by lia)
    have mp:0<m:=by
     rcases Zy m with z|z
     .have f:blt (g (arrOf st) (G+I+0)) (g (arrOf st) (G+I-1))=false:=a7 0 (by lia) (by lia);have q:=up (I-1) (by lia) (by lia);rw[show G+(I-1)=G+I-1 by lia]at q;rw[ZQ,q]at f;cases f
     .exact z
    have high:∀x,G+I+m<=x->x<G+I+U->le blt (g (arrOf st) (G+I-1)) (g (arrOf st) x):=λx hx Z=>by
     have f:blt (g (arrOf st) (G+I+(x-(G+I)))) (g (arrOf st) (G+I-1))=false:=a7 (x-(G+I)) (by lia) (by lia);rwa [show G+I+(x-(G+I))=x by lia]at f
    have a1:∀y x,G<=y->y<G+I->G+I+m<=x->x<G+I+U->le blt (g (arrOf st) y) (g (arrOf st) x):=λy x hy ba hx Z=>by
     by_cases e:y=G+I-1
     .rw[e];exact high x hx Z
     .exact C.trans (oa y (G+I-1) hy (by lia) (by lia)) (high x hx Z)
    rw[if_neg (by have:¬m=0:=by lia
                  simpa using this)]
    have sx:((arrOf st).extract (G+k) (G+I)).size=G+I-(G+k):=ur (by lia);have sy:((arrOf st).extract (G+I) (G+I+m)).size=G+I+m-(G+I):=ur (by lia);have ab:On blt (arrOf st) (G+k) (G+I):=oa.sub (by lia) (by lia);have an:On blt (arrOf st) (G+I) (G+I+m):=ob.sub (by lia) (by lia);have a4:∀(res:Array Keyed) (st2:SortSt),Like (SortSt.mk' (kindOf st) (arrOf st) (((pendingOf st).setIfInBounds i (G,I+U,pa)).eraseIdxIfInBounds (i+1)) (gallopOf st) (failedOf st)) st2->res.toList.Perm (((arrOf st).extract (G+k) (G+I)).toList++((arrOf st).extract (G+I) (G+I+m)).toList)->PW blt res.toList->
      wpS (model prog w) A E s (modify (λs=>SortSt.mk' (kindOf s) (lay (arrOf s) (G+k) res) (pendingOf s) (gallopOf s) (failedOf s))>>=λ_=>get>>=λx=>pure (failedOf x).isNone) Q st2:=λres st2 Y pm pw=>by
     have rs:res.size=I-k+m:=by
      have:=pm.length_eq;rw[Qa,Q6,Q6,Q6,sx,sy]at this;lia
     have rm:∀j,j<res.size->∃x,G+k<=x/\x<G+I+m/\g res j=g (arrOf st) x:=λj O=>by
      have mem:g res j∈res.toList:=by have:=xA O;simpa using this
      rcases Q5.mp (pm.mem_iff.mp mem)with q|q
      .obtain⟨x,x1,x2,_,x4⟩:=d9 q;exact⟨x,by lia,by lia,x4⟩
      .obtain⟨x,x1,x2,_,x4⟩:=d9 q;exact⟨x,by lia,by lia,x4⟩
     have ap:G+k+res.size<=(arrOf st2).size:=by rw[Y.arr];show G+k+res.size<=(arrOf st).size;lia
     refine wpS_bind (wpS_modify ?_);refine wpS_bind (wpS_get (wpS_pure ?_));have hg:∀x,g (lay (arrOf st2) (G+k) res) x=if G+k<=x/\x<G+k+res.size then g res (x-(G+k))else g (arrOf st) x:=λx=>by
      rw[K3 ap,Y.arr]
     have ef:(failedOf st2).isNone=true:=by
      rw[Y.fail];show(failedOf st).isNone=true;rw[B.fine];rfl
     show Q (failedOf st2).isNone _;rw[ef];have on:=ES pw;refine h _ ⟨Y.kind.trans B.kind,Y.fail.trans B.fine,?_⟩ Y.pend ?_ ?_
     .refine(Fe ap ?_).trans (by rw[Y.arr];exact B.perm);rw[Y.arr];show res.toList.Perm (((arrOf st).toList.drop (G+k)).take res.size);refine pm.trans (List.Perm.of_eq ?_);rw[Z8,Z8,QU,QU,rs,show G+I-(G+k)=I-k by lia,show G+I+m-(G+I)=m by lia,List.take_add,Xo,show G+k+(I-k)=G+I by lia]
     .intro x y hx a0 hy;show le blt (g (lay (arrOf st2) (G+k) res) x) (g (lay (arrOf st2) (G+k) res) y);rw[hg x,hg y];by_cases y1:G+k<=y/\y<G+k+res.size
      .rw[if_pos y1];by_cases x1:G+k<=x/\x<G+k+res.size
       .rw[if_pos x1];exact on _ _ (Qj _) (by lia) (by lia)
       .rw[if_neg x1];obtain⟨z,z1,z2,z3⟩:=rm (y-(G+k)) (by lia);rw[z3];by_cases zz:z<G+I
        .exact oa x z hx (by lia) zz
        .have:=a2 (x-G) z (by lia) (by lia) (by lia);rwa [show G+(x-G)=x by lia]at this
      .rw[if_neg y1];by_cases x1:G+k<=x/\x<G+k+res.size
       .rw[if_pos x1];obtain⟨z,z1,z2,z3⟩:=rm (x-(G+k)) (by lia);rw[z3];by_cases zz:z<G+I
        .exact a1 z y (by lia) zz (by lia) (by lia)
        .exact ob z y (by lia) (by lia) (by lia)
       .rw[if_neg x1];by_cases yy:y<G+I
        .exact oa x y hx a0 yy
        .by_cases xx:x<G+I
         .exact a1 x y hx xx (by lia) (by lia)
         .exact ob x y (by lia) a0 (by lia)
     .intro x hx;show g (lay (arrOf st2) (G+k) res) x=g (arrOf st) x;rw[hg x,if_neg (by lia)]
    by_cases c:I-k<=m
    .rw[if_pos c];refine wpS_bind (AK L C B1.kind (λx hx=>?_) (yw (by lia) ab) (yw (by lia) an) (by rw[sx];lia) (by rw[sy];lia) ?_ ?_ λres st2 Y pm pw=>?_)
     .rcases Q5.mp hx with q|q
      .obtain⟨j,_,_,a5,rfl⟩:=d9 q;exact B.mem (by lia)
      .obtain⟨j,_,_,a5,rfl⟩:=d9 q;exact B.mem (by lia)
     .rw[ot (by lia) (by lia),ot (by lia) (by lia)];exact first
     .intro j O;rw[sy]at O;rw[sx,ot (by lia) (by lia),ot (by lia) (by lia),show G+k+(G+I-(G+k)-1)=G+I-1 by lia];exact a3 j (by lia)
     .exact a4 res st2 Y pm pw
    .rw[if_neg c];refine wpS_bind (AL L C B1.kind (λx hx=>?_) (yw (by lia) ab) (yw (by lia) an) (by rw[sx];lia) (by rw[sy];lia) ?_ ?_ λres st2 Y pm pw=>?_)
     .rcases Q5.mp hx with q|q
      .obtain⟨j,_,_,a5,rfl⟩:=d9 q;exact B.mem (by lia)
      .obtain⟨j,_,_,a5,rfl⟩:=d9 q;exact B.mem (by lia)
     .rw[ot (by lia) (by lia),ot (by lia) (by lia)];exact first
     .intro j O;rw[sy]at O;rw[sx,ot (by lia) (by lia),ot (by lia) (by lia),show G+k+(G+I-(G+k)-1)=G+I-1 by lia];exact a3 j (by lia)
     .exact a4 res st2 Y pm pw
end
section
def Stack (blt:Keyed->Keyed->Bool) (xs:Array Keyed):List (Nat×Nat×Nat)->Nat->Nat->Prop
 | [],f,t=>f=t
 |(st,len,_)::r,f,t=>st=f/\1<=len/\On blt xs st (st+len)/\Stack blt xs r (st+len) t
theorem Stack.le {xs:Array Keyed}:∀{l:List (Nat×Nat×Nat)} {f t:Nat},Stack blt xs l f t->f+l.length<=t
 | [],f,t,h=>by cases h;simp
 |(st,len,p)::r,f,t,h=>by
  obtain⟨rfl,h1,_,z⟩:=h;have:=Stack.le z;simp;lia
theorem Stack.app {xs:Array Keyed}:∀{l r:List (Nat×Nat×Nat)} {f t:Nat},Stack blt xs (l++r) f t↔∃m,Stack blt xs l f m/\Stack blt xs r m t
 | [],r,f,t=>⟨λh=>⟨f,rfl,h⟩,λ⟨m,e,h⟩=>by cases e;exact h⟩
 |(st,len,p)::l,r,f,t=>by
  constructor
  .rintro ⟨h1,h2,z,G⟩;obtain⟨m,a,b⟩:=Stack.app.mp G;exact⟨m,⟨h1,h2,z,a⟩,b⟩
  .rintro ⟨m,⟨h1,h2,z,a⟩,b⟩;exact⟨h1,h2,z,Stack.app.mpr ⟨m,a,b⟩⟩
theorem Stack.congr {ys:Array Keyed}:∀{l:List (Nat×Nat×Nat)} {f t:Nat},Stack blt xs l f t->(∀k,f<=k->k<t->g ys k=g xs k)->Stack blt ys l f t
 | [],f,t,h,_=>h
 |(st,len,p)::r,f,t,h,e=>by
  obtain⟨rfl,h1,h2,z⟩:=h;have:=z.le;exact⟨rfl,h1,h2.congr λk a b=>e k a (by lia),z.congr λk a b=>e k (by lia) b⟩
theorem Stack.pw {a b p q:Nat} {f t:Nat} (h:Stack blt xs (l++ [(a,b,p)]) f t):Stack blt xs (l++ [(a,b,q)]) f t:=by
 obtain⟨m,h1,h2⟩:=Stack.app.mp h;exact Stack.app.mpr ⟨m,h1,h2⟩
theorem ku {q:Nat} (S:Stack blt xs p.toList 0 lo) (h:1<=n) (o:On blt xs lo (lo+n)):Stack blt xs (p.push (lo,n,q)).toList 0 (lo+n):=by
 rw[XF];exact Stack.app.mpr ⟨lo,S,rfl,h,o,rfl⟩
theorem zQ (q:Array α) (x:α) (f:α->α):(q.push x).modify ((q.push x).size-1) f=q.push (f x):=by
 have e:(q.push x).size-1=q.size:=by simp
 rw[e];apply Array.ext
 .simp
 .intro i h1 h2;rw[Array.getElem_modify];by_cases hi:q.size=i
  .subst hi;simp
  .rw[if_neg hi];have:i<q.size:=by simp at h2;lia
   rw[Xm this,Xm this]
theorem qb {pw:Nat} (z:1<=p.size) (S:Stack blt xs p.toList 0 lo):Stack blt xs (p.modify (p.size-1) λx=>(x.1,x.2.1,pw)).toList 0 lo:=by
 obtain⟨q,x,rfl⟩:∃q x,p=q.push x:=⟨p.pop,p[p.size-1],by
  apply Array.ext
  .simp;lia
  .intro i h1 h2;by_cases hi:i<p.pop.size
   .rw[Xm hi];simp
   .have:i=p.size-1:=by simp at h2 hi;lia
    subst this;rw[Array.getElem_push];rw[dif_neg (by simp)]⟩
 rw[zQ,XF];rw[XF]at S;obtain⟨a,b,c⟩:=x;exact S.pw
theorem Ew {l:List α} {x y:α} (h1:l[i]?=some x) (h2:l[i+1]?=some y):∃p r,l=p++x::y::r/\p.length=i:=by
 obtain⟨I,O⟩:=Q2.mp h1;obtain⟨U,e2⟩:=Q2.mp h2;refine⟨l.take i,l.drop (i+2),?_,by rw[Q8];lia⟩;have z:=Z2 I;have G:=Z2 U;rw[O]at z;rw[e2]at G
 calc l=l.take i++l.drop i:=(QJ _ _).symm
  _=_:=by rw[z,G]
theorem FE {p r:List α} {x y v:α}:((p++x::y::r).set p.length v).eraseIdx (p.length+1)=p++v::r:=by
 rw[List.set_append_right _ _ (Q4 _),Nat.sub_self];rw[Xz (by lia),show p.length+1-p.length=1 by lia];rfl
end
section
variable (L:y4 prog w A E s a₀ κ blt)
include L
theorem qO (C:Cmp blt) (B:Base a₀ κ st) (S:Stack blt (arrOf st) (pendingOf st).toList 0 lo) (a0:lo<=a₀.size) (hi:i+1<(pendingOf st).size)
  (h:∀st',Base a₀ κ st'->Stack blt (arrOf st') (pendingOf st').toList 0 lo->(pendingOf st').size+1=(pendingOf st).size->(∀k,lo<=k->g (arrOf st') k=g (arrOf st) k)->Q true st'):
  wpS (model prog w) A E s (mergeAt' i) Q st:=by
 have O:(pendingOf st)[i]?=some ((pendingOf st)[i]'(by lia)):=getElem?_pos _ _ _;have U:(pendingOf st)[i+1]?=some ((pendingOf st)[i+1]'hi):=getElem?_pos _ _ _;obtain⟨⟨z,G,pa⟩,e1⟩:∃x,x=(pendingOf st)[i]'(by lia):=⟨_,rfl⟩;obtain⟨⟨sb,I,pb⟩,e2⟩:∃x,x=(pendingOf st)[i+1]'hi:=⟨_,rfl⟩;rw[<-e1]at O;rw[<-e2]at U;have t1:=O;have t2:=U;rw[<-Qw]at t1 t2;obtain⟨p,r,Y,pl⟩:=Ew t1 t2;rw[Y]at S;obtain⟨m,S1,S2⟩:=Stack.app.mp S;obtain⟨rfl,n1,o1,rfl,n2,o2,S3⟩:=S2;have l3:=S3.le;have l1:=S1.le;refine AM L C B O U rfl n1 n2 (by lia) o1 o2 λst' B' hp on keep=>?_;have ep:(pendingOf st').toList=p++(z,G+I,pa)::r:=by
  rw[hp,Array.toList_eraseIdxIfInBounds,V1,Y,<-pl,FE]
 have Z:∀k,k<z\/z+G+I<=k->g (arrOf st') k=g (arrOf st) k:=λk hk=>keep k (by lia);refine h st' B' ?_ ?_ λk hk=>Z k (by lia)
 .rw[ep];refine Stack.app.mpr ⟨z,S1.congr λk a b=>Z k (.inl b),rfl,by lia,on,?_⟩;rw[show z+(G+I)=z+G+I by lia];exact S3.congr λk a b=>Z k (.inr a)
 .have a:=congrArg List.length ep;have b:=congrArg List.length Y;simp at a b;lia
theorem zf {Q:Unit->SortSt->Prop} (C:Cmp blt) (B:Base a₀ κ st) (hp:pendingOf st= #[]) (h2:1<=a₀.size)
  (h:∀st',Base a₀ κ st'->On blt (arrOf st') 0 a₀.size->Q () st'):wpS (model prog w) A E s sortRuns' Q st:=by
 rw[sortRuns'_eq];refine wpS_bind (wpS_get ?_);dsimp only;have hsz:=B.size;rw[hsz];refine wpS_bind (wpS_mono (wpS_forRange
  (I:=λi c st'=>∃lo,c=(none,lo)/\i<=lo/\lo<=a₀.size/\Base a₀ κ st'/\Stack blt (arrOf st') (pendingOf st').toList 0 lo)
  (Q:=λc st'=>c=(none,a₀.size)/\Base a₀ κ st'/\Stack blt (arrOf st') (pendingOf st').toList 0 a₀.size) ?step ?fin ⟨0,rfl,Q4 _,Qj _,B,by rw[hp];exact rfl⟩) ?post)
 case fin=>
  rintro c st' ⟨lo,rfl,h1,h3,B',S⟩;have em:max 0 a₀.size=a₀.size:=QL (Qj _);rw[em]at h1;have e:lo=a₀.size:=by lia
  subst e;exact⟨rfl,B',S⟩
 case step=>
  rintro i c st' _ hi ⟨lo,rfl,h1,h3,B',S⟩;dsimp only;by_cases z:lo>=a₀.size
  .rw[if_pos z];have e:lo=a₀.size:=by lia
   subst e;exact wpS_pure ⟨rfl,B',S⟩
  .rw[if_neg z];refine wpS_bind (Ef L C B' (by lia) (by lia) λn st2 B2 p2 m1 m2 O2 k2=>?_);dsimp only;have Z:Stack blt (arrOf st2) (pendingOf st2).toList 0 lo:=by
    rw[p2];exact S.congr λk _ b=>k2 k b
   by_cases O:n<minRun' a₀.size a₀.size 0
   .rw[if_pos O];refine wpS_bind (wpS_lift (wpAny_rule ⟨rfl,?_⟩));refine wpS_bind (CK L C B2 m1 (by lia) (by lia) O2 λG B3 p3 O3 k3=>?_);rw[if_neg (by decide)];have S3:Stack blt (arrOf G) (pendingOf G).toList 0 lo:=by
     rw[p3];exact Z.congr λk _ b=>k3 k b
    generalize hn:min (a₀.size-lo) (minRun' a₀.size a₀.size 0)=n' at O3;have a2:1<=n':=by lia
    have a3:lo+n'<=a₀.size:=by lia
    refine wpS_bind (wpS_get ?_);cases eb:(pendingOf G).back? with
    |none=>
     dsimp only;exact wpS_bind (wpS_modify (wpS_pure ⟨lo+n',rfl,by lia,by lia,⟨B3.kind,B3.fine,B3.perm⟩,ku S3 (by lia) O3⟩))
    |some tt=>
     obtain⟨s1,n1,p1⟩:=tt;dsimp only;have Y:1<=(pendingOf G).size:=by
      rcases Zy (pendingOf G).size with q|q
      .rw[Array.size_eq_zero_iff.mp q]at eb;cases eb
      .exact q
     refine wpS_bind (wpS_mono (wpS_forRange (I:=λ_ c st4=>c=(none,())/\Base a₀ κ st4/\Stack blt (arrOf st4) (pendingOf st4).toList 0 lo/\On blt (arrOf st4) lo (lo+n')/\1<=(pendingOf st4).size)
      (Q:=λc st4=>c=(none,())/\Base a₀ κ st4/\Stack blt (arrOf st4) (pendingOf st4).toList 0 lo/\On blt (arrOf st4) lo (lo+n')/\1<=(pendingOf st4).size) ?_ (λ_ _ q=>q) ⟨rfl,B3,S3,O3,Y⟩) ?_)
     .rintro j c st4 _ _ ⟨rfl,U,S4,O4,z4⟩;refine wpS_bind (wpS_get ?_);by_cases big:(pendingOf st4).size>1
      .rw[if_pos big,getElem?_pos (pendingOf st4) ((pendingOf st4).size-2) (by lia)];obtain⟨⟨u1,u2,a0⟩,eu⟩:∃x,x=(pendingOf st4)[(pendingOf st4).size-2]'(by(clear big Y eb a3 a2 hn p3 O m2 m1 p2 z h3 h1 hi hsz h2 hp;omega (config:={}))):=⟨_,rfl⟩;rw[<-eu];dsimp only;split
       .exact wpS_pure ⟨rfl,U,S4,O4,z4⟩
       .refine wpS_bind (qO L C U S4 (by lia) (by lia) λa4 B5 S5 z5 k5=>?_);rw[if_neg (by decide)];exact wpS_pure ⟨rfl,B5,S5,O4.congr λk a b=>k5 k a,by lia⟩
      .rw[if_neg big];exact wpS_pure ⟨rfl,U,S4,O4,z4⟩
     .rintro c st4 ⟨rfl,U,S4,O4,z4⟩;dsimp only;refine wpS_bind (wpS_modify (wpS_bind (wpS_modify (wpS_pure ⟨lo+n',rfl,by lia,by lia,⟨U.kind,U.fine,U.perm⟩,?_⟩))));exact ku (qb z4 S4) (by lia) O4
   .rw[if_neg O];have B3:=B2;have S3:=Z;have O3:=O2;obtain⟨G,e3⟩:∃x,x=st2:=⟨_,rfl⟩;rw[<-e3]at B3 S3 O3⊢;refine wpS_bind (wpS_get ?_);cases eb:(pendingOf G).back? with
    |none=>
     dsimp only;exact wpS_bind (wpS_modify (wpS_pure ⟨lo+n,rfl,by lia,by lia,⟨B3.kind,B3.fine,B3.perm⟩,ku S3 (by lia) O3⟩))
    |some tt=>
     obtain⟨s1,n1,p1⟩:=tt;dsimp only;have Y:1<=(pendingOf G).size:=by
      rcases Zy (pendingOf G).size with q|q
      .rw[Array.size_eq_zero_iff.mp q]at eb;cases eb
      .exact q
     refine wpS_bind (wpS_mono (wpS_forRange (I:=λ_ c st4=>c=(none,())/\Base a₀ κ st4/\Stack blt (arrOf st4) (pendingOf st4).toList 0 lo/\On blt (arrOf st4) lo (lo+n)/\1<=(pendingOf st4).size)
      (Q:=λc st4=>c=(none,())/\Base a₀ κ st4/\Stack blt (arrOf st4) (pendingOf st4).toList 0 lo/\On blt (arrOf st4) lo (lo+n)/\1<=(pendingOf st4).size) ?_ (λ_ _ q=>q) ⟨rfl,B3,S3,O3,Y⟩) ?_)
     .rintro j c st4 _ _ ⟨rfl,U,S4,O4,z4⟩;refine wpS_bind (wpS_get ?_);by_cases big:(pendingOf st4).size>1
      .rw[if_pos big,getElem?_pos (pendingOf st4) ((pendingOf st4).size-2) (by lia)];obtain⟨⟨u1,u2,a0⟩,eu⟩:∃x,x=(pendingOf st4)[(pendingOf st4).size-2]'(by omega (config:={})):=⟨_,rfl⟩;rw[<-eu];dsimp only;split
       .exact wpS_pure ⟨rfl,U,S4,O4,z4⟩
       .refine wpS_bind (qO L C U S4 (by lia) (by lia) λa4 B5 S5 z5 k5=>?_);rw[if_neg (by decide)];exact wpS_pure ⟨rfl,B5,S5,O4.congr λk a b=>k5 k a,by lia⟩
      .rw[if_neg big];exact wpS_pure ⟨rfl,U,S4,O4,z4⟩
     .rintro c st4 ⟨rfl,U,S4,O4,z4⟩;dsimp only;refine wpS_bind (wpS_modify (wpS_bind (wpS_modify (wpS_pure ⟨lo+n,rfl,by lia,by lia,⟨U.kind,U.fine,U.perm⟩,?_⟩))));exact ku (qb z4 S4) (by lia) O4
 case post=>
  rintro c st' ⟨rfl,B',S⟩;dsimp only;have a1:=S.le;refine wpS_bind (wpS_mono (wpS_forRange (I:=λi c st2=>c=(none,())/\Base a₀ κ st2/\Stack blt (arrOf st2) (pendingOf st2).toList 0 a₀.size/\(pendingOf st2).size+i<=a₀.size+1)
   (Q:=λc st2=>c=(none,())/\Base a₀ κ st2/\Stack blt (arrOf st2) (pendingOf st2).toList 0 a₀.size/\(pendingOf st2).size<=1) ?_ ?_ ⟨rfl,B',S,by rw[Q6]at a1;lia⟩) ?_)
  .rintro i c st2 _ hi ⟨rfl,B2,Z,z2⟩;refine wpS_bind (wpS_get ?_);by_cases one:(pendingOf st2).size<=1
   .rw[if_pos one];exact wpS_pure ⟨rfl,B2,Z,one⟩
   .rw[if_neg one];generalize a5:(if Option.any _ _=true then(pendingOf st2).size-2-1 else(pendingOf st2).size-2)=ix;have a7:∀bb:Bool,(if bb=true then(pendingOf st2).size-2-1 else(pendingOf st2).size-2)+1<(pendingOf st2).size:=λbb=>by
     cases bb with
     |true=>rw[if_pos rfl];lia
     |false=>rw[if_neg (by decide)];lia
    have hx:ix+1<(pendingOf st2).size:=by
     rw[<-a5];exact a7 _
    refine wpS_bind (qO L C B2 Z (Q4 _) hx λG B3 S3 z3 k3=>?_);rw[if_neg (by decide)];exact wpS_pure ⟨rfl,B3,S3,by lia⟩
  .rintro c st2 ⟨rfl,B2,Z,z2⟩;have em:max 0 a₀.size=a₀.size:=QL (Qj _);rw[em]at z2;exact⟨rfl,B2,Z,by lia⟩
  .rintro c st2 ⟨rfl,B2,Z,z2⟩;dsimp only;refine wpS_pure (h st2 B2 ?_)
   match hl:(pendingOf st2).toList,Z with
   | [],Z=>
    have e:0=a₀.size:=Z;lia
   | [(a,b,p)],Z=>
    obtain⟨rfl,_,o,e⟩:=Z;have e:0+b=a₀.size:=e;rw[e]at o;exact o
   |_::_::_,_=>
    have:=congrArg List.length hl;simp at this;lia
end
end Srt
namespace Srt
open PySem PyProof.Rows
variable {blt:Keyed->Keyed->Bool} {vs:List Value} {E Q:Value->Shared->Prop}
section
variable {prog:Program} {w:World} {A:Around} {s:Shared} {κ:SortKind}
abbrev But (a:Addr) (s s':Shared):Prop:=∀b o,b≠a->s.heap.get? b=some o->s'.heap.get? b=some o
theorem xc {a:Addr} {n:Nat} {P:PySem.Fin->Shared->Prop} (I:s.heap.get? a=some (seqObj "list" vs.toArray n)) (hz:vs.length<=sizeLine) (C:Cmp blt)
  (U:∀h':Heap,But a s {s with heap:=h'}->2<=vs.length->∀Q':SortKind->Shared->Prop,Q' κ {s with heap:=h'}->wpAny (model prog w) A (keyKind' vs.toArray) Q' E {s with heap:=h'})
  (L:∀h':Heap,But a s {s with heap:=h'}->y4 prog w A E {s with heap:=h'} (pairsOf vs) κ blt)
  (h:∀out:Array Keyed,out.Perm (pairsOf vs)->PW blt out.toList->P (.done (.ret .none)) {s with heap:=sortedHeap s.heap a vs (out.map (·.2))}):wpAny (model prog w) A (Builtin.«list.sort» ⟨[.ref a],[]⟩) P E s:=by
 have hv:vs.toArray.size=vs.length:=Qf;have ha:=Heap.lt_size I;rw[list_sort_plain];refine wpAny_bind (listItems_at I rfl (wpAny_bind (listUpdate_at I rfl ?_ (hsz:=by rw[hv];exact hz))));obtain⟨e1,G⟩:∃k,(s.heap.update a (Obj.mapSeq λ_=> #[])).get? a=some (seqObj "list" #[] k):=⟨_,get?_update_seq I (λ_=> #[])⟩;refine wpAny_bind (seqEpoch_at G rfl (wpAny_bind (wpAny_newTuple ?_ (hsz:=hz))));refine wpAny_bind (wpAny_newList (wpAny_holding ?_));generalize Y:((s.heap.update a (Obj.mapSeq λ_=> #[])).push (seqObj "tuple" vs.toArray 0)).push (seqObj "list" #[] 0)=h6;have up:∀b o,(s.heap.update a (Obj.mapSeq λ_=> #[])).get? b=some o->h6.get? b=some o:=λb o e=>by
  rw[<-Y];exact Heap.get?_push_of_some _ (Heap.get?_push_of_some _ e)
 have z:=up a _ G;have but:But a s {s with heap:=h6}:=λb o hb e=>up b o (by exact(Heap.get?_update_other _ _ (Ne.symm hb)).trans e);have fin:∀out:Array Keyed,out.Perm (pairsOf vs)->PW blt out.toList->P (.done (.ret .none)) {s with heap:=h6.update a (Obj.mapSeq λ_=>out.map (·.2))}:=λout p q=>by
  have:=h out p q;unfold sortedHeap at this;rw[Y]at this;exact this
 have hsz2:∀out:Array Keyed,out.Perm (pairsOf vs)->(out.map (·.2)).size<=sizeLine+1:=λout p=>by
  have:=p.size_eq;rw[pairsOf_size]at this;rw[Array.size_map];lia
 dsimp only;by_cases h2:vs.toArray.size<2
 .rw[if_pos h2,if_pos h2];refine wpAny_bind (wpAny_pure ?_);rw[StateT.run_pure];refine wpAny_bind (wpAny_pure ?_);dsimp only;have Z:(SortSt.mk' general' (vs.toArray.zip vs.toArray) #[] 7 none|>arrOf).Perm (pairsOf vs):=Array.Perm.refl _;refine wpAny_bind (seqEpoch_at z rfl (wpAny_bind (listUpdate_at z rfl ?_ (hsz:=Qj _) (hsz2:=hsz2 _ Z))));simp only[bne_self_eq_false,Zk,if_false];refine wpAny_pure (fin _ Z ?_);have l1:(vs.toArray.zip vs.toArray).toList.length<=1:=by simp at h2⊢;lia
  show PW blt (vs.toArray.zip vs.toArray).toList;revert l1;generalize (vs.toArray.zip vs.toArray).toList=l;rcases l with _|⟨x,_|⟨y,t⟩⟩<;>intro l1<;>first|exact List.Pairwise.nil|exact Zb _ _|exact absurd l1 (Nat.not_le_of_lt (Nat.succ_lt_succ (Nat.succ_pos _)))
 .rw[if_neg h2,if_neg h2];refine wpAny_bind (U h6 but (by lia) _ ?_);refine wpAny_bind (wpAny_mono (zf (L h6 but) (st:=SortSt.mk' κ (vs.toArray.zip vs.toArray) #[] 7 none) (Q:=λ_ st'=>Base (pairsOf vs) κ st'/\On blt (arrOf st') 0 (pairsOf vs).size) C
   ⟨rfl,rfl,Array.Perm.refl _⟩ rfl (by rw[pairsOf_size];lia) λst' B O=>⟨B,O⟩) ?_ λ_ _ e=>e)
  rintro ⟨⟨⟩,st'⟩ s' ⟨rfl,B,O⟩;dsimp only;refine wpAny_bind (seqEpoch_at z rfl (wpAny_bind (listUpdate_at z rfl ?_ (hsz:=Qj _) (hsz2:=hsz2 _ B.perm))));rw[B.fine];simp only[bne_self_eq_false,Zk,if_false];refine wpAny_pure (fin _ B.perm ?_);have:=ig (a:=arrOf st') (blt:=blt) (by rw[B.size];exact O) 0;rwa [Z9]at this
theorem sorted_any {l:Addr} (hl:s.heap.IsList l vs.toArray) (hz:vs.length<=sizeLine) (C:Cmp blt)
  (G:∀h':Heap,(∀b o,s.heap.get? b=some o->h'.get? b=some o)->2<=vs.length->∀Q':SortKind->Shared->Prop,Q' κ {s with heap:=h'}->wpAny (model prog w) A.in1.in1 (keyKind' vs.toArray) Q' (λ_ _=>False) {s with heap:=h'})
  (L:∀h':Heap,(∀b o,s.heap.get? b=some o->h'.get? b=some o)->y4 prog w A.in1.in1 (λ_ _=>False) {s with heap:=h'} (pairsOf vs) κ blt)
  (h:∀out:Array Keyed,out.Perm (pairsOf vs)->PW blt out.toList->Q (.ref (s.heap.objs.size+1)) {s with heap:=sortedAll s.heap vs (out.map (·.2))}):wpAny (model prog w) A (call (.builtin "sorted") [.ref l]) Q E s:=by
 refine Calls.call_function_entry kind_sorted plain_sorted entry_sorted (args_sorted1 _) ?_;unfold Builtin.«sorted»;refine wpAny_bind (m:=checkCount "sorted" 1 1 _) (wpAny_pure (wpAny_bind (collect_list hl ?_ (hsz:=hz))));refine wpAny_bind (wpAny_newList ?_ (hsz:=hz));generalize I:(s.heap.push (seqObj "list" #[] 0)).update s.heap.objs.size (Obj.mapSeq (· ++vs.toArray))=h1;have z:h1.objs.size=s.heap.objs.size+1:=by rw[<-I,Heap.size_update,size_push']
 have O:∀b o,s.heap.get? b=some o->(h1.push (seqObj "list" vs.toArray 0)).get? b=some o:=λb o e=>by
  refine Heap.get?_push_of_some _ ?_;rw[<-I];exact(Heap.get?_update_other _ _ (Ne.symm (QC (Heap.lt_size e)))).trans (Heap.get?_push_of_some _ e)
 have new:(h1.push (seqObj "list" vs.toArray 0)).get? (s.heap.objs.size+1)=some (seqObj "list" vs.toArray 0):=by
  rw[<-z];exact Heap.get?_push_size _ rfl
 have keep:∀h':Heap,But (s.heap.objs.size+1) {s with heap:=h1.push (seqObj "list" vs.toArray 0)} {s with heap:=h'}->∀b o,s.heap.get? b=some o->h'.get? b=some o:=λh' k b o e=>
  k b o (QC (XG (Heap.lt_size e))) (O b o e)
 show wpAny _ _ _ _ _ {s with heap:=h1.push (seqObj "list" vs.toArray 0)};rw[z];refine wpAny_bind (wpAny_holding (wpAny_mono (wpAny_call_entry (E:=λ_ _=>False) slot_list_sort ⟨_,new,rfl⟩ entry_list_sort (xc (κ:=κ) (blt:=blt) new hz C (λh' k=>G h' (keep h' k)) (λh' k=>L h' (keep h' k)) λout p q=>⟨_,rfl,?_⟩) (args_list_sort _)) (λ_ _ q=>q) λ_ _ f=>f.elim));refine wpAny_pure ⟨_,rfl,?_⟩;have:=h out p q;unfold sortedAll at this;rw[I]at this;exact this
end
end Srt
namespace Srt
open PySem PyProof.Rows
variable {blt:Keyed->Keyed->Bool} {E:Value->Shared->Prop}
theorem zW:∀(a b:List Int),HT.lexLt a b=true->HT.lexLt b a=false
 | [],[],h=>rfl
 | [],_::_,_=>rfl
 |_::_,[],h=>by rw[HT.lexLt_cons_nil]at h;cases h
 |x::xs,y::ys,h=>by
  rw[HT.lexLt_cons]at h⊢;by_cases e:x=y
  .rw[if_pos e]at h;rw[if_pos e.symm];exact zW xs ys h
  .rw[if_neg e]at h;rw[if_neg (Ne.symm e)];have:=of_decide_eq_true h;exact decide_eq_false (by lia)
theorem Fd:∀(a b c:List Int),HT.lexLt b a=false->HT.lexLt c b=false->HT.lexLt c a=false
 | [],b,[],_,_=>rfl
 |x::xs,[],c,h,_=>by rw[HT.lexLt_nil_cons]at h;cases h
 |a,y::ys,[],_,h=>by rw[HT.lexLt_nil_cons]at h;cases h
 | [],_,_::_,_,_=>HT.lexLt_cons_nil _ _
 |x::xs,y::ys,z::zs,h1,h2=>by
  rw[HT.lexLt_cons]at h1 h2⊢;by_cases G:y=x
  .rw[if_pos G]at h1;by_cases e2:z=y
   .rw[if_pos e2]at h2;rw[if_pos (e2.trans G)];exact Fd xs ys zs h1 h2
   .rw[if_neg e2]at h2;rw[if_neg (by rw[<-G];exact e2)];have:=of_decide_eq_false h2;exact decide_eq_false (by lia)
  .rw[if_neg G]at h1;have O:=of_decide_eq_false h1;by_cases e2:z=y
   .rw[if_pos e2]at h2;rw[if_neg (by lia)];exact decide_eq_false (by lia)
   .rw[if_neg e2]at h2;have U:=of_decide_eq_false h2;by_cases I:z=x
    .lia
    .rw[if_neg I];exact decide_eq_false (by lia)
theorem cmp_of (k:Keyed->List Int):Cmp λp q=>HT.lexLt (k p) (k q):=⟨λx y h=>zW _ _ h,λx y z h1 h2=>Fd _ _ _ h1 h2⟩
theorem runs_of {prog:Program} {w:World} {A:Around} {s:Shared} {a₀:Array Keyed} {κ:SortKind} 
  (h:∀(x y:Keyed) (E':Value->Shared->Prop) (Q:Bool->Shared->Prop),x∈a₀->y∈a₀->Q (blt x y) s->wpAny (model prog w) A (keyLt' κ x.1 y.1) Q E' s):y4 prog w A E s a₀ κ blt:=by
 intro x y st Q hx hy hk q;rw[lt'_eq];refine wpS_bind (wpS_get ?_);rw[hk];refine wpS_bind (wpS_lift (wpAny_attempt (h x y _ _ hx hy ⟨rfl,?_⟩)));exact wpS_pure q
end Srt
namespace L2
open PySem PySem.Spec PyProof.Rows
variable {H:Hp} {pins:List (Addr×Obj)} {xs ys:List V} {its:List Value} {s:Shared} {σ:St} {u:Value}
def unV (u:Value):V:=(absV u).getD .non
theorem tX {x:V} (r:RelV x u):unV u=x:=by unfold unV;rw[r.abs];rfl
theorem xZ:∀{xs:List V} {us:List Value},Vals xs us->us.map unV=xs
 |_,_,.nil=>rfl
 |_,_,.cons r t=>by rw[Qs,tX r,xZ t]
theorem lG {us:List Value} (h:Vals xs us) (hu:u∈us):∃x∈xs,RelV x u:=by
 induction h with
 |nil=>exact absurd hu QT
 |cons r t z=>
  rcases Qg.mp hu with e|e
  .subst e;exact⟨_,Q9,r⟩
  .obtain⟨x,h1,h2⟩:=z e;exact⟨x,Qd _ h1,h2⟩
theorem x5:∀{us:List Value},(∀u∈us,RelV (unV u) u)->Vals (us.map unV) us
 | [],_=> .nil
 |u::r,h=> .cons (h u Q9) (x5 λv hv=>h v (Qd _ hv))
section
variable {X:Cx}
theorem CP {Q:VK} {p:Addr} {κ:SortKind} {ky:V->List Int} (I:Inv X pins σ H s) (hz:xs.length<=sizeLine) (rv:Vals xs its) (hl:s.heap.IsList p its.toArray)
  (Z:∀h':Heap,(∀b o,s.heap.get? b=some o->h'.get? b=some o)->2<=its.length->∀Q':SortKind->Shared->Prop,Q' κ {s with heap:=h'}->wpAny (model X.prog X.w) X.A.in1.in1 (keyKind' its.toArray) Q' (λ_ _=>False) {s with heap:=h'})
  (a0:∀h':Heap,(∀b o,s.heap.get? b=some o->h'.get? b=some o)->∀(x y:V) (u v:Value) (E':Value->Shared->Prop) (Q':Bool->Shared->Prop),x∈xs->y∈xs->RelV x u->RelV y v->Q' (HT.lexLt (ky x) (ky y)) {s with heap:=h'}->wpAny (model X.prog X.w) X.A.in1.in1 (keyLt' κ u v) Q' E' {s with heap:=h'})
  (q:∀l ys,H l=none->ys.Perm xs->ys.Pairwise (λa b=>HT.lexLt (ky b) (ky a)=false)->Q (.ref l) (upd H l (.lst ys))):
  wpAny (model X.prog X.w) X.A (call (.builtin "sorted") [.ref p]) (EP X pins σ Q) X.xe s:=by
 have hi:its.length<=sizeLine:=by rw[<-rv.length];exact hz
 have mem:∀z:Keyed,z∈pairsOf its->z.1=z.2/\z.1∈its:=λz hz=>by
  have:z∈(pairsOf its).toList:=by simpa using hz
  rw[pairsOf_toList]at this;exact mem_zip_self this
 refine Srt.sorted_any (κ:=κ) (blt:=λa b=>HT.lexLt (ky (unV a.1)) (ky (unV b.1))) hl hi (Srt.cmp_of λa=>ky (unV a.1)) Z (λh' k=>Srt.runs_of λx y E' Q' hx hy q'=>?_) λout pm pw=>?_
 .obtain⟨x',a1,G⟩:=lG rv (mem x hx).2;obtain⟨y',a2,O⟩:=lG rv (mem y hy).2;rw[tX G,tX O]at q';exact a0 h' k x' y' x.1 y.1 E' Q' a1 a2 G O q'
 .have U:out.toList.Perm (its.zip its):=by
   have:=X5.mp pm;rwa [pairsOf_toList]at this
  have Y:∀z∈out.toList,z.1=z.2/\z.1∈its:=λz hz=>mem_zip_self (U.mem_iff.mp hz);have e2:(out.map (·.2)).toList=out.toList.map (·.2):=Array.toList_map;have pv:((out.map (·.2)).toList).Perm its:=by
   rw[e2];refine(U.map _).trans (List.Perm.of_eq ?_);exact List.map_snd_zip (Q4 _)
  have hu:∀u∈(out.map (·.2)).toList,RelV (unV u) u:=λu hu=>by
   obtain⟨x,_,r⟩:=lG rv (pv.mem_iff.mp hu);rw[tX r];exact r
  have vy:=x5 hu;have fresh:H (s.heap.objs.size+1)=none:=I.hok.fresh (Zx _);have py:((out.map (·.2)).toList.map unV).Perm xs:=by
   rw[<-xZ rv];exact pv.map _
  obtain⟨e,at_⟩:=sortedAll_at s.heap its (out.map (·.2));refine⟨.ref (s.heap.objs.size+1),upd H (s.heap.objs.size+1) (.lst ((out.map (·.2)).toList.map unV)),I.laid (t':=s.toks) (λb o q=>sortedAll_old q) (Zx _) ⟨?_,_,e,vy,?_⟩,rfl,q _ _ fresh py ?_⟩
  .rw[py.length_eq];exact hz
  .rw[at_,ZW]
  .rw[e2,Qu];refine QO.mpr (pw.imp_of_mem λ{a b} ha hb h=>?_);show HT.lexLt (ky (unV b.2)) (ky (unV a.2))=false;rw[<-(Y a ha).1,<-(Y b hb).1];exact h
def yI:V->List Int
 | .int i=> [i]
 |_=> []
theorem CZ {ns:List Int} (h:ys.Perm (ns.map V.int)):∃ms:List Int,ys=ms.map V.int/\ms.Perm ns:=by
 have e:ys=(ys.map λy=>match y with| .int i=>i|_=>0).map V.int:=by
  rw[Qu];refine(XH ys).symm.trans (Zd λy hy=>?_);obtain⟨i,_,rfl⟩:=Qh.mp (h.mem_iff.mp hy);rfl
 refine⟨_,e,?_⟩;refine(h.map λy=>match y with| .int i=>i|_=>0).trans (List.Perm.of_eq ?_);rw[Qu];exact XH ns
def kRef (ky:Addr->List Int):V->List Int
 | .ref a=>ky a
 |_=> []
theorem CY {as:List Addr} (h:ys.Perm (as.map V.ref)):∃bs:List Addr,ys=bs.map V.ref/\bs.Perm as:=by
 have e:ys=(ys.map λy=>match y with| .ref i=>i|_=>0).map V.ref:=by
  rw[Qu];refine(XH ys).symm.trans (Zd λy hy=>?_);obtain⟨i,_,rfl⟩:=Qh.mp (h.mem_iff.mp hy);rfl
 refine⟨_,e,?_⟩;refine(h.map λy=>match y with| .ref i=>i|_=>0).trans (List.Perm.of_eq ?_);rw[Qu];exact XH as
theorem AR {a:Addr} (I:Inv X pins σ H s) (h:H a=some (.tup xs)) {h':Heap} (k:∀b o,s.heap.get? b=some o->h'.get? b=some o):
  ∃(o:Obj) (its:List Value) (n:Nat),Vals xs its/\h'.get? a=some o/\o.cls= .type "tuple"/\o.data= .seq its.toArray n:=by
 obtain⟨_,its,rv,o,e,c,n,d⟩:=(show ObjOk X.prog X.w H s.heap a (.tup xs) from I.hok a _ h);exact⟨o,its,n,rv,k _ _ e,c,d⟩
theorem IT {x y:V} (r:Vals [x,y] its):∃u v,its=[u,v]/\RelV x u/\RelV y v:=tW r
end
end L2
namespace Srt
open PySem PyProof.Rows
variable {blt:Keyed->Keyed->Bool} {E Q:Value->Shared->Prop}
section
variable {prog:Program} {w:World} {A:Around} {s:Shared} {κ:SortKind}
theorem sorted_src {r:Value} {G:List Value->Prop} 
  (hc:∀(R:List Value->Shared->Prop) (E':Value->Shared->Prop),(∀(h1:Heap) (z:Nat) (vs:List Value),(∀b o,s.heap.get? b=some o->h1.get? b=some o)->G vs->R vs {s with heap:=h1,toks:=z})->wpAny (model prog w) A.in1 (collect r) R E' s)
  (hz:∀vs,G vs->vs.length<=sizeLine) (C:Cmp blt)
  (I:∀(vs:List Value) (h':Heap) (z:Nat),G vs->(∀b o,s.heap.get? b=some o->h'.get? b=some o)->2<=vs.length->∀Q':SortKind->Shared->Prop,Q' κ {s with heap:=h',toks:=z}->wpAny (model prog w) A.in1.in1 (keyKind' vs.toArray) Q' (λ_ _=>False) {s with heap:=h',toks:=z})
  (L:∀(vs:List Value) (h':Heap) (z:Nat),G vs->(∀b o,s.heap.get? b=some o->h'.get? b=some o)->y4 prog w A.in1.in1 (λ_ _=>False) {s with heap:=h',toks:=z} (pairsOf vs) κ blt)
  (h:∀(vs:List Value) (h1 h2:Heap) (z e:Nat) (out:Array Keyed),G vs->(∀b o,s.heap.get? b=some o->h1.get? b=some o)->(∀b o,h1.get? b=some o->h2.get? b=some o)->h2.get? h1.objs.size=some (seqObj "list" (out.map (·.2)) e)->out.Perm (pairsOf vs)->PW blt out.toList->Q (.ref h1.objs.size) {s with heap:=h2,toks:=z}):
  wpAny (model prog w) A (call (.builtin "sorted") [r]) Q E s:=by
 refine Calls.call_function_entry kind_sorted plain_sorted entry_sorted (args_sorted1 _) ?_;unfold Builtin.«sorted»;refine wpAny_bind (m:=checkCount "sorted" 1 1 _) (wpAny_pure (wpAny_bind (hc _ _ λh1 z vs O g=>?_)));refine wpAny_bind (wpAny_newList ?_ (hsz:=hz vs g));have new:(h1.push (seqObj "list" vs.toArray 0)).get? h1.objs.size=some (seqObj "list" vs.toArray 0):=Heap.get?_push_size _ rfl;have keep:∀h':Heap,But h1.objs.size {s with heap:=h1.push (seqObj "list" vs.toArray 0),toks:=z} {s with heap:=h',toks:=z}->∀b o,s.heap.get? b=some o->h'.get? b=some o:=λh' k b o e=>
  k b o (QC (Heap.lt_size (O b o e))) (Heap.get?_push_of_some _ (O b o e))
 show wpAny _ _ _ _ _ {s with heap:=h1.push (seqObj "list" vs.toArray 0),toks:=z};refine wpAny_bind (wpAny_holding (wpAny_mono (wpAny_call_entry (E:=λ_ _=>False) slot_list_sort ⟨_,new,rfl⟩ entry_list_sort (xc (s:={s with heap:=h1.push (seqObj "list" vs.toArray 0),toks:=z}) (κ:=κ) (blt:=blt) new (hz vs g) C (λh' k=>I vs h' z g (keep h' k)) (λh' k=>L vs h' z g (keep h' k)) λout p q=>⟨_,rfl,?_⟩) (args_list_sort _)) (λ_ _ q=>q) λ_ _ f=>f.elim));refine wpAny_pure ⟨_,rfl,?_⟩;obtain⟨e,at_⟩:=sortedHeap_at (out:=out.map (·.2)) new;refine h vs h1 _ z e out g O (λb o q=>?_) at_ p q
 have lt:=Heap.lt_size q;rw[sortedHeap_old (QC lt) (by rw[size_push'];exact XG lt)];exact Heap.get?_push_of_some _ q
end
end Srt
namespace L2
open PySem PySem.Spec PyProof.Rows
variable {C D d:Addr} {X:Cx} {elt iter tg:Expr} {H H1 H4:Hp} {Fin:Hp->Prop} {J:It} {R:It->Hp->Prop} {pins:List (Addr×Obj)} {kvs:List (Key×V)} {vs:List (Key×Value)} {cl:List (Str×Addr)} {elts ifs:List Expr} {M N':List Str} {xs ys:List V} {i n:Nat} {ob:Obj} {pos px:Pos} {P:Program} {K:PySem.W.Frag} {scope:Scope} {s:Shared} {σ:St} {x y:Str} {nx:St->Hp->Prop} {B:St->VK->It->Hp->Prop} {te:TE} {g:TG} {wi:TI} {tc:TT} {Q:VK} {RR:Value->Addr->Result->Shared->Prop} {w:World}
section
section
theorem Ci {k:Key} {v:Value} (h:(a8 P w).is k v=true):RelV (kV k) v:=by
 rw[Br]at h;cases k with
 |inl i=>
  cases v with
  |int j t=>exact⟨t,by simp[mD,Value.isInt]at h;rw[h]⟩
  |_=>simp[mD,Value.isInt]at h
 |inr x=>
  cases v with
  |str y t=>exact⟨t,by simp[mD,Value.isStrOf]at h;rw[h]⟩
  |_=>simp[mD,Value.isStrOf]at h
def jO (kvs:List (Key×V)):List V:=kvs.map λp=>kV p.1
theorem tV {acc:List Value} (z:KV kvs vs) (hl:acc.length=vs.length)
  (hv:∀(j:Nat) (v:Value),acc[j]?=some v->∃k x,vs[j]?=some (k,x)/\(a8 P w).is k v=true):Vals (jO kvs) acc:=by
 induction z generalizing acc with
 |nil=>cases acc with
  |nil=>exact .nil
  |cons a b=>simp at hl
 |cons r t I=>
  rename_i p q ps qs
  cases acc with
  |nil=>simp at hl
  |cons a b=>
   refine .cons ?_ (I (by simpa using hl) λj v e=>?_)
   .obtain⟨k,x,G,e2⟩:=hv 0 a rfl;simp at G;subst G;show RelV (kV p.1) a;rw[r.1];exact Ci e2
   .exact hv (j+1) v (by simpa using e)
theorem BF (hh:X.A.handled=none):fh X (.type "list") (λxs H Q=>∃a kvs,xs=[.ref a]/\Rd H a (.dK kvs)/\∀l,H l=none->Q (.ref l) (upd H l (.lst (jO kvs)))):=by
 intro pins s σ H xs us Q I r h;obtain⟨a,kvs,rfl,hd,q⟩:=h;obtain⟨u,rfl,ru⟩:=jI r;cases ru;obtain⟨z,lo,vs,U,dd⟩:=ou I.hok hd;obtain⟨ep,Y⟩:=dd.dictAt;have Z:kvs.length=vs.length:=U.length;refine PySem.W.kdl_call (PySem.W.kdl_dict (knd:=a8 X.prog X.w) (kvs:=vs) (ep:=ep) lo) hh Y (by lia) λh' tk G c' hk hS O=>?_;have hv:Vals (jO kvs) G.toList:=tV U (by rw[Q6];exact O.1) λj v e=>O.2 j v (by rw[<-Qw];exact e);refine⟨.ref s.heap.objs.size,_,I.laid (t':=tk) hk (Q4 _) (show ObjOk X.prog X.w _ h' _ (.lst (jO kvs)) from⟨?_,G.toList,c',hv,?_⟩),rfl,q _ (I.hok.fresh (Q4 _))⟩
 .unfold jO;rw[Q0];exact z
 .rw[ZW];exact hS
theorem zr {T:String} {r:Addr} {OK:Heap->Prop} {ns:List Int} (hh:X.A.handled=none) (I:Inv X pins σ H s) (a0:KV kvs vs) (z:kvs.length<=sizeLine)
  (src:PySem.W.KdlSrc X.prog X.w T r d vs.length (λi v=>∃k x,vs[i]?=some (k,x)/\(a8 X.prog X.w).is k v=true) OK) (hok:OK s.heap) (Y:jO kvs=ns.map V.int)
  (q:∀(l:Addr) (ms:List Int),H l=none->ms.Perm ns->ms.Pairwise (· <= ·)->Q (.ref l) (upd H l (.lst (ms.map V.int)))):wpAny (model X.prog X.w) X.A (call (.builtin "sorted") [.ref r]) (EP X pins σ Q) X.xe s:=by
 have a7:kvs.length=vs.length:=a0.length;have a1:(jO kvs).length=kvs.length:=Q0 _;have O:∀its:List Value,Vals (jO kvs) its->∀v∈its,∃i t,v=Value.int i t:=λits rv v hv=>by
  obtain⟨x,hx,rx⟩:=lG rv hv;rw[Y]at hx;obtain⟨i,_,rfl⟩:=Qh.mp hx;obtain⟨t,e⟩:=rx;exact⟨i,t,e⟩
 have mem:∀(its:List Value) (z:Keyed),z∈pairsOf its->z.1=z.2/\z.1∈its:=λits z hz=>by
  have:z∈(pairsOf its).toList:=by simpa using hz
  rw[pairsOf_toList]at this;exact mem_zip_self this
 refine Srt.sorted_src (G:=λits=>Vals (jO kvs) its) (κ:=oneType') (blt:=λa b=>HT.lexLt (yI (unV a.1)) (yI (unV b.1))) (λR E' k=>?_) (λits rv=>by rw[<-rv.length,a1];exact z) (Srt.cmp_of λa=>yI (unV a.1))
  (λits h' Z rv k h2 Q' hQ=>?_) (λits h' Z rv k=>Srt.runs_of λx y E' Q' hx hy hQ=>?_) (λits h1 h2 Z e out rv k1 k2 at_ pm pw=>?_)
 .refine PySem.W.kdu_collect src hh hok (by lia) λh' Z acc hk U=>k h' Z acc.toList hk ?_;exact tV a0 (by rw[Q6];exact U.1) λj v e=>U.2 j v (by rw[<-Qw];exact e)
 .refine PySem.W.kas_kind (T:= .type "int") h2 (λv hv=>?_) (by decide+kernel) (by decide+kernel) hQ;obtain⟨i,t,rfl⟩:=O its rv v hv;exact PySem.W.Looks.of_pure rfl
 .obtain⟨i,t,e1⟩:=O its rv _ (mem its x hx).2;obtain⟨j,t',e2⟩:=O its rv _ (mem its y hy).2;rw[e1,e2]at hQ⊢;refine PySem.W.kat_lt_int ?_;have e:HT.lexLt (yI (unV (.int i t))) (yI (unV (.int j t')))=decide (i<j):=by
   show HT.lexLt [i] [j]=_;rw[HT.lexLt_cons];by_cases z:i=j
   .rw[if_pos z,HT.lexLt_nil_nil,decide_eq_false (by lia)]
   .rw[if_neg z]
  rw[e]at hQ;exact hQ
 .have a2:out.toList.Perm (its.zip its):=by
   have:=X5.mp pm;rwa [pairsOf_toList]at this
  have a3:∀z∈out.toList,z.1=z.2/\z.1∈its:=λz hz=>mem_zip_self (a2.mem_iff.mp hz);have e2:(out.map (·.2)).toList=out.toList.map (·.2):=Array.toList_map;have pv:((out.map (·.2)).toList).Perm its:=by
   rw[e2];refine(a2.map _).trans (List.Perm.of_eq ?_);exact List.map_snd_zip (Q4 _)
  have hu:∀u∈(out.map (·.2)).toList,RelV (unV u) u:=λu hu=>by
   obtain⟨x,_,r⟩:=lG rv (pv.mem_iff.mp hu);rw[tX r];exact r
  have vy:=x5 hu;have I1:Inv X pins σ H {s with heap:=h1,toks:=Z}:=I.kept k1;have py:((out.map (·.2)).toList.map unV).Perm (ns.map V.int):=by
   rw[<-Y,<-xZ rv];exact pv.map _
  have a4:((out.map (·.2)).toList.map unV).Pairwise (λa b=>HT.lexLt (yI b) (yI a)=false):=by
   rw[e2,Qu];refine QO.mpr (pw.imp_of_mem λ{a b} ha hb h=>?_);show HT.lexLt (yI (unV b.2)) (yI (unV a.2))=false;rw[<-(a3 a ha).1,<-(a3 b hb).1];exact h
  have lz:((out.map (·.2)).toList.map unV).length<=sizeLine:=by
   rw[py.length_eq,<-Y,a1];exact z
  obtain⟨ms,em,a5⟩:=CZ py;rw[em]at vy a4 lz;refine⟨.ref h1.objs.size,upd H h1.objs.size (.lst (ms.map V.int)),I1.laid (t':=Z) k2 (Q4 _) ⟨lz,_,e,vy,?_⟩,rfl,q _ _ (I1.hok.fresh (Q4 _)) a5 ?_⟩
  .rw[at_,ZW]
  .refine(QO.mp a4).imp λ{a b} h=>?_;have h:HT.lexLt [b] [a]=false:=h;rw[HT.lexLt_cons]at h;by_cases z:b=a
   .lia
   .rw[if_neg z]at h;have:=of_decide_eq_false h;lia
theorem yP (Y:X.A.handled=none):fh X (.builtin "sorted") (λxs H Q=>∃(a:Addr) (kvs:List (Key×V)) (ns:List Int),xs=[.ref a]/\Rd H a (.dK kvs)/\jO kvs=ns.map V.int/\
  ∀(l:Addr) (ms:List Int),H l=none->ms.Perm ns->ms.Pairwise (· <= ·)->Q (.ref l) (upd H l (.lst (ms.map V.int)))):=by
 intro pins s σ H xs us Q I r h;obtain⟨a,kvs,ns,rfl,hd,G,q⟩:=h;obtain⟨u,rfl,Z⟩:=jI r;cases Z;obtain⟨z,lo,vs,O,dd⟩:=ou I.hok hd;obtain⟨ep,U⟩:=dd.dictAt;exact zr Y I O z (PySem.W.kdl_dict (knd:=a8 X.prog X.w) (kvs:=vs) (ep:=ep) lo) U G q
inductive KJ (x:V) (vs:List V) (H:Hp) (Q:VK):Prop
 |mk (a kvs k v:_) (_:x= .ref a) (_:vs=[kV k]) (_:H a=some (.dK kvs)) (_:aP kvs k=some v) (_:Q v (upd H a (.dK (bW kvs k))))
theorem B9:MtR X "dict.pop" KJ:=by
 intro pins s σ H x vs v us Q I z rv h;obtain⟨a,kvs,k,y,rfl,rfl,G,hl,q⟩:=h;cases z;obtain⟨u,rfl,O⟩:=rv.one;exact K7 I G O hl (.inl rfl) λw' s' U r'=>⟨y,_,U,r',q⟩
inductive KI (K:PySem.W.Frag) (x:V) (vs:List V) (H:Hp) (Q:VK):Prop
 |mk (sep:Str) (a:Addr) (ys:List Str) (_:x= .str sep) (_:vs=[.ref a]) (_:SqL K H a (ys.map V.str)) (_:sep.length<=16) (_:(ys.map (·.length)).sum+ys.length<=1048576) (_:Q (.str (Txt.join sep ys)) H)
theorem zm:∀{ys:List Str} {its:List Value},Vals (ys.map V.str) its->StrsAre its ys
 | [],_,.nil=> .nil
 |_::_,_,.cons ⟨t,e⟩ r=>by subst e;exact .cons _ _ (zm r)
theorem Hh:MtR X "str.join" (KI X.K):=by
 intro pins s σ H x vs v us Q I z rv h;obtain⟨G,a,ys,rfl,rfl,hS,h1,h2,q⟩:=h;obtain⟨t,rfl⟩:=z;obtain⟨u,rfl,O⟩:=rv.one;cases O;obtain⟨its,r,pl,_⟩:=I.list hS;exact join_listW pl.isList (by simpa using zm r) h1 h2 λt' k=>⟨.str _,H,I.tok _,⟨t',rfl⟩,q⟩
end
end
section
theorem pG {env:Env}:∀(l:List (Str×NameKind)) (G:List (Str×Addr)),(∀p∈l,p.2= .free->∃c,env.cells.lookup p.1=some c)->
  ∃cl,(forIn l G (λp G=>if(p.2==NameKind.free)=true then cellOf env p.1>>=λa=>pure (ForInStep.yield ((p.1,a)::G))else pure (ForInStep.yield G)):Sem _)=pure cl/\
   (∀y c,cl.lookup y=some c->G.lookup y=some c\/env.cells.lookup y=some c)/\(∀y c,G.lookup y=some c->∃I,cl.lookup y=some I)/\(∀y,(y,NameKind.free)∈l->∃c,cl.lookup y=some c)
 | [],G,_=>⟨G,by rw[List.forIn_nil],λy c h=> .inl h,λy c h=>⟨c,h⟩,λy h=>nomatch h⟩
 |(n,k)::r,G,h=>by
  rw[List.forIn_cons];by_cases hk:k= .free
  .subst hk;obtain⟨c,hc⟩:=h (n,.free) Q9 rfl;have hc:env.cells.lookup n=some c:=hc;have e:cellOf env n=pure c:=by unfold cellOf;rw[hc]
   obtain⟨cl,h1,h2,O,U⟩:=pG r ((n,c)::G) λp Y=>h p (Qd _ Y);refine⟨cl,?_,λy I hy=>?_,λy I hy=>?_,λy hy=>?_⟩
   .simp only[beq_self_eq_true,if_true,e,pure_bind];exact h1
   .rcases h2 y I hy with q|q
    .rw[ZE]at q;split at q
     .rename_i z
      cases q;rw[beq_iff_eq]at z;subst z;exact .inr hc
     .exact .inl q
    .exact .inr q
   .by_cases z:y=n
    .exact O y c (by rw[ZE,z];simp)
    .exact O y I (by rw[ZE,beq_eq_false_iff_ne.mpr z];exact hy)
   .rcases Qg.mp hy with q|q
    .have Z:y=n:=(Prod.mk.inj q).1;exact O y c (by rw[ZE,Z];simp)
    .exact U y q
  .have hb:(k==NameKind.free)=false:=by simpa using hk
   obtain⟨cl,h1,h2,O,U⟩:=pG r G λp Y=>h p (Qd _ Y);refine⟨cl,?_,h2,O,λy hy=>?_⟩
   .simp only[hb,Zk,if_false,pure_bind];exact h1
   .rcases Qg.mp hy with q|q
    .exact absurd (Prod.mk.inj q).2.symm hk
    .exact U y q
theorem vm {env:Env} (h:∀p∈scope.names,p.2= .free->∃c,env.cells.lookup p.1=some c):
  ∃cl,closureFor scope env=pure cl/\(∀y c,cl.lookup y=some c->env.cells.lookup y=some c)/\(∀y,(y,NameKind.free)∈scope.names->∃c,cl.lookup y=some c):=by
 obtain⟨cl,h1,h2,_,G⟩:=pG scope.names [] h;refine⟨cl,?_,λy c hy=>(h2 y c hy).resolve_left λz=>by simp at z,G⟩;unfold closureFor;simp only[bind_pure];exact h1
def cCx (X:Cx) (M N':List Str) (scope:Scope) (cl:List (Str×Addr)) (C:Addr) (s₂:Shared) (H₂:Hp) (fp:List Addr):Cx:=
 {X with N:=M++N',s₀:=s₂,H₀:=H₂,env:=compEnvC scope cl C X.env,outer:=X.stack,stack:=X.stack,ex:=fp,fn:=λ_=>false,pn:=[],xe:=λ_ _=>False}
structure CScope (X:Cx) (M N':List Str) (scope:Scope):Prop where
 kind:scope.kind= .function
 nd:(M++N').Nodup
 ln:N'.length=X.N.length
 own:∀x∈M,scope.names.lookup x=some .local
 nocell:∀y∈scope.names,y.2≠ .cell
 names:∀y∈scope.names,y.2= .local->scope.names.lookup y.1=some .local
 free:∀y∈scope.names,y.2= .free->X.env.kindOf y.1=some .cell
 vis:∀(j:Nat) (y:Str),N'[j]?=some y->Vis (relabel scope X.env) y->X.N[j]?=some y/\(y,NameKind.free)∈scope.names/\(relabel scope X.env).names.lookup y=some .cell
 cells:∀y,((relabel scope X.env).names.lookup y=some .cell\/(relabel scope X.env).names.lookup y=some .free)->(y,NameKind.free)∈scope.names
def Am (n:Nat) (g:TG) (tc:TT) (te:TE) (σ:St) (Q:VK) (J:It) (H1:Hp):Prop:=∀D,H1 D=none->∃W:Nat->Nat->St->List V->Hp->Prop,(∃m,W 0 m (List.replicate n none++σ) [] (upd H1 D (.lst [])))/\∀i m τ ys H2,W i m τ ys H2->H2 D=some (.lst ys)->
 (J.stop i H2/\Q (.ref D) H2)\/(J.go i H2/\∀x H3,J.yld i H2 x H3->∃G:St->Hp->Prop,(∀τ2 H4,G τ2 H4->∃(Ny:VK) (Ns:Hp->Prop),(∀y H6,Ny y H6->H6 D=some (.lst ys)/\ys.length<sizeLine/\∃m',m'<m/\W (i+1) m' τ2 (ys++ [y]) (upd H6 D (.lst (ys++ [y]))))/\
  (∀H5,Ns H5->H5 D=some (.lst ys)/\∃m',m'<m/\W (i+1) m' τ2 ys H5)/\tc τ2 H4 λb H5=>if b=true then te τ2 H5 Ny else Ns H5)/\g x τ H3 G)
def Ig:TT:=λ_ H Q=>Q true H
def PTs (X:Cx) (ifs:List Expr) (tc:TT):Prop:=∀(pins:List (Addr×Obj)) (s:Shared) (σ:St) (H:Hp) (Q:Bool->Hp->Prop),Inv X pins σ H s->tc σ H Q->
 wpAny (model X.prog X.w) X.A (forIn ifs true λc r=>if r=true then do let ok<-isTrue c X.env (eval c X.env);pure (ForInStep.yield ok)else pure (ForInStep.yield r)) (λb s'=>∃H',Inv X pins σ H' s'/\Q b H') X.xe s
section
theorem G9:PTs X [] Ig:=λ_ _ _ H _ I h=>wpAny_tests_nil ⟨H,I,h⟩
theorem B0 {c:Expr} (h:PT X c tc):PTs X [c] tc:=λpins s σ H Q I q=>wpAny_tests_one (h pins s σ H Q I q)
theorem CScope.pg {s₂:Shared} {z:Hp} {fp:List Addr} (S:CScope X M N' scope) (h:M[i]?=some x):PG (cCx X M N' scope cl C s₂ z fp) (.Name x px) (mE i):=
 bH S.nd (by show(M++N')[i]?=_;rw[Zm (Q2.mp h).1];exact h) (.inl (lookup_relabel_local (S.own x (Q1 h)))) (.inr (lookup_relabel_local (S.own x (Q1 h))))
structure IN (X:Cx) (pins:List (Addr×Obj)) (H:Hp) (C:Addr):Prop where
 no:H C=none
 fr:C≠X.env.locals
 ab:X.s₀.heap.objs.size<=C
 ce:∀x c,X.env.cells.lookup x=some c->c≠C
 pi:∀p∈X.pn++pins,p.1≠C
theorem xH (hc:X.calm=true) (S:CScope X M N' scope) (hi:PI X tg iter wi)
  (hg:∀cl C s₂ a0 fp,PG (cCx X M N' scope cl C s₂ a0 fp) tg g) (bl:∀cl C s₂ a0 fp,PTs (cCx X M N' scope cl C s₂ a0 fp) ifs tc) (he:∀cl C s₂ a0 fp,PE (cCx X M N' scope cl C s₂ a0 fp) elt te)
  (a1:∀y c,cl.lookup y=some c->X.env.cells.lookup y=some c) (b1:∀y,(y,NameKind.free)∈scope.names->∃c,cl.lookup y=some c) (I:Inv X pins σ H s) (h:wi σ H R) (hB:∀J H,R J H->Am M.length g tc te σ Q J H)
  (hR:∀D C s4 H',Inv X pins σ H' s4->(∃m,s4.heap.Ns C m)->IN X pins H' C->Q (.ref D) H'->RR (.ref D) C (.ok .next) s4):
  wpAny (model X.prog X.w) X.A (eval iter X.env) (λv s1=>wpAny (model X.prog X.w) X.A (pyIter v) (λb2 U=>wpAny (model X.prog X.w) X.A (newList []) (λacc s3=>
   wpAny (model X.prog X.w) X.A (newFunctionEnv scope X.env.globals cl [] X.env.qual none .none (some X.env)) (λa7 s4=>
    codeAny (model X.prog X.w) X.A (.compStart (.ListComp elt [⟨tg,iter,ifs,0⟩] scope pos) 0 b2 acc {a7 with scope:=relabel scope X.env}) (RR acc a7.locals) s4) X.xe s3) X.xe U) X.xe s1) X.xe s:=by
 refine thn (hi pins s σ H _ I h) λv s1 h1=>thn h1 λb2 U h2=>?_;obtain⟨it,fp,tn,J,H2,e,O,T,st2,f2,h⟩:=h2;subst e;refine wpAny_newObj_type (wpAny_newFunctionEnv S.nocell (by intro y hy;simp at hy) (λh₁ Y Z=>?_) S.kind);dsimp only at Y Z⊢;generalize hD:U.heap.objs.size=D at*;generalize ap:U.heap.push {cls:= .type "list",dict:=none,data:= .seq ([]:List Value).toArray}=h3 at Y Z⊢;have a3:h3.objs.size=D+1:=by rw[<-ap,Heap.size_push,hD]
 have fD:H2 D=none:=O.hok.fresh (Zq hD);obtain⟨W,⟨m0,w0⟩,b5⟩:=hB _ _ h D fD;generalize hC:h3.objs.size=C at*;have gD:U.heap.get? D=none:=Heap.get?_none_of_le (Zq hD);have gC:U.heap.get? C=none:=Heap.get?_none_of_le (by rw[hD,a3];exact Zx _);have DC:D≠C:=by rw[a3];exact QC (Zw _)
 have bo:∀b o,U.heap.get? b=some o->h3.get? b=some o:=λb o e=>by rw[<-ap];exact Heap.get?_push_of_some _ e
 have ab:∀b o,h3.get? b=some o->h₁.get? b=some o:=λb o e=>Z.extBut b o (by intro z;have:=Heap.lt_size e;rw[z,hC]at this;exact absurd this (Zu _)) (Heap.get?_push_of_some _ e);have up:∀b o,U.heap.get? b=some o->h₁.get? b=some o:=λb o e=>ab b o (bo b o e);have oD:h₁.get? D=some {cls:= .type "list",dict:=none,data:= .seq ([]:List Value).toArray}:=ab _ _ (by rw[<-ap,<-hD];exact Heap.get?_push_size _ rfl);have a5:∀b∈fp,b≠C/\b∉frs X.stack:=λb hb=>by
  obtain⟨o,e,_⟩:=T.obj _ _ st2 b hb;refine⟨λz=>(by rw[z,gC]at e;cases e),λz=>?_⟩;rcases Qg.mp (O.stkSub b z)with q|q
  .exact(f2 b hb).2.1 q
  .exact(f2 b hb).2.2.1 q
 have fC:H2 C=none:=O.hok.fresh (by rw[hD,a3];exact Zx _);have ok:(cCx X M N' scope cl C U H2 fp).Ok:=
  {mod:=O.ok.mod,kind:=S.kind,glob:=O.ok.glob,blt:=O.ok.blt,above:=by show U.heap.objs.size<=C;rw[hD,a3];exact Zx _
   inj:=λy z c h1 h2=>O.ok.inj y z c (a1 _ _ h1) (a1 _ _ h2),has:=λy hy=>b1 y (S.cells y hy),cab:=λy c z=>by cases z
   hd:=O.ok.hd,frames:=O.ok.frames,stk:= .inl rfl,exf:=λb hb=>⟨(a5 b hb).1,λy c e=>(f2 b hb).2.2.2.2.1 y c (a1 y c e)⟩
   bs:=O.bs,bsz:=QD O.ok.bsz O.sz
   noex:=λb o e hb=>by
    rcases(f2 b hb).2.2.2.1 with q|q
    .exact O.ok.noex b o e q
    .exact absurd (Qx (Heap.lt_size e) (QD O.ok.bsz q)) (Zu _)
   exfs:=λb hb=>(a5 b hb).2,funs:=O.stack,frf:=O.stkFree}
 have c3:∀b u,H2 b=some u->b≠D:=λb u e=>ak e fD;have I3:Inv (cCx X M N' scope cl C U H2 fp) [] (List.replicate M.length none++σ) (upd H2 D (.lst [])) {U with heap:=h₁,toks:=U.toks+([]:List (Str×Value)).length}:=
  {ok:=ok,os:=rfl,bare:=O.bare,base:=Un.laid up (Zq hD) fD
   loc:=⟨_,Y,λi y v e1 e2 e3=>by
    by_cases lt:i<M.length
    .have e2:(List.replicate M.length none++σ)[i]?=some (some v):=e2;rw[Zm (by rw[Zl];exact lt),List.getElem?_replicate,if_pos lt]at e2;cases e2
    .have e1:(M++N')[i]?=some y:=e1;have e2:(List.replicate M.length none++σ)[i]?=some (some v):=e2;rw[Zi (Nat.not_lt.mp lt)]at e1;rw[Zi (by rw[Zl];exact Nat.not_lt.mp lt),Zl]at e2;generalize i-M.length=j at e1 e2;obtain⟨e1,q1,q2⟩:=S.vis j y e1 e3;have kc:=S.free _ q1 rfl;obtain⟨m,hn,hl⟩:=O.loc;obtain⟨u,r,l⟩:=hl j y v e1 e2 (.inr (.inl kc));refine⟨u,r,?_⟩;rcases l with⟨k,_⟩|⟨_,c,e,z⟩
     .rw[kc]at k;cases k
     .obtain⟨c',e'⟩:=b1 y q1;have ee:=a1 _ _ e';rw[e]at ee;cases ee;obtain⟨o,ho,hd⟩:=z;exact .inr ⟨.inl q2,c,e',o,up _ _ ho,hd⟩⟩
   cell:=λy c e=>by
    obtain⟨v,o,ho,hd⟩:=O.cell y c (a1 _ _ e);exact⟨v,o,up _ _ ho,hd⟩
   free:=by show upd H2 D (.lst []) C=none;rw[ae DC.symm];exact fC
   freeC:=λy c e=>by
    have q:=O.freeC y c (a1 _ _ e);obtain⟨v,o,ho,hd⟩:=O.cell y c (a1 _ _ e);rw[ae (λz=>by rw[z,gD]at ho;cases ho)];exact q
   pin:=λp hp=>absurd (show p∈([]:List (Addr×Obj)) from hp) (by simp)
   hok:=O.hok.laid up (Zq hD) ⟨Qj _,[],0,.nil,oD⟩
   len:=by show(List.replicate M.length none++σ).length=(M++N').length;rw[Qa,Qa,Zl,O.len,S.ln]}
 have a4:∀{H':Hp},(∀b∈fp,H' b=none)->∀b∈fp,Aq (cCx X M N' scope cl C U H2 fp) [] H' b:=λhn b hb=>
  ⟨hn b hb,(a5 b hb).1,(a5 b hb).2,.inl hb,λy c e=>(f2 b hb).2.2.2.2.1 y c (a1 _ _ e),λp hp=>absurd (show p∈([]:List (Addr×Obj)) from hp) (by simp)⟩
 have b8:tn 0 h₁:=T.keep _ _ _ st2 λb hb o e=>up b o e;have an:∀s3:Shared,s3={U with heap:=h₁,toks:=U.toks+([]:List (Str×Value)).length}->
   codeAny (model X.prog X.w) X.A (.compLoop (.ListComp elt [⟨tg,iter,ifs,0⟩] scope pos) 0 (.ref it) (.ref D) (compEnvC scope cl C X.env)) (RR (.ref D) C) s3:=by
  rintro s3 rfl;refine codeAny_loop rfl (λn s'=>∃i τ ys H',Inv (cCx X M N' scope cl C U H2 fp) [] τ H' s'/\tn i s'.heap/\(∀b∈fp,H' b=none)/\H' D=some (.lst ys)/\W i n τ ys H') ?_ m0
   ⟨0,_,[],_,I3,b8,λb hb=>by rw[ae (λz=>by obtain⟨o,e,_⟩:=T.obj _ _ st2 b hb;rw[z,gD]at e;cases e)];exact(f2 b hb).1,ac,w0⟩
  rintro n s' ⟨i,τ,ys,H',I',st',b9,bt,w'⟩;show wpAny _ X.A ((compTurn (.ListComp elt [⟨tg,iter,ifs,0⟩] scope pos) 0 (.ref it) (.ref D) (compEnvC scope cl C X.env)).onRaise (λx=>do noteFrame x (compEnvC scope cl C X.env);theTreesLotGoes x)) _ _ s';refine wpAny_noted ?_;rw[compTurn_list];refine wpAny_bind (wpAny_standAt (wpAny_bind ?_));rcases b5 i n τ ys H' w' bt with⟨ba,qn⟩|⟨go,step⟩
  .refine thn (T.done (cCx X M N' scope cl C U H2 fp) rfl rfl rfl hc i [] s' _ H' _ I' (a4 b9) st' ba) λr s4 ⟨hr,I4⟩=>?_;subst hr;refine wpAny_pure ?_;obtain⟨m,hn,_⟩:=I4.loc;have IX:Inv X pins σ H' s4:=O.call' (s':=s4) I4.os (show Un (frs X.stack) fp H2 H' U.heap s4.heap from I4.base) I4.hok I4.bare λb hb=>⟨(f2 b hb).2.2.2.1,(f2 b hb).2.1,(f2 b hb).2.2.2.2.1,(f2 b hb).2.2.2.2.2⟩;refine hR D C s4 H' IX ⟨m,hn⟩ ⟨I4.free,λz=>?_,?_,λy c e z=>?_,λp hp z=>?_⟩ qn
   .have:=O.lt;rw[<-z,a3,hD]at this;exact absurd this (Nat.not_lt.mpr (Zx _))
   .refine QD O.sz ?_;rw[hD,a3];exact Zx _
   .obtain⟨v,o,ho,_⟩:=O.cell y c e;rw[z,gC]at ho;cases ho
   .have ho:=(O.pin p hp).1;rw[z,gC]at ho;cases ho
  .refine thn (T.item (cCx X M N' scope cl C U H2 fp) rfl rfl rfl hc i [] s' _ H' _ I' (a4 b9) st' go) λr s4 ⟨u,hr,h4⟩=>?_;subst hr;refine wpAny_bind (thn h4 λ_ s5 a2=>?_);obtain⟨y,H5,I5,r5,y5,aw,bv⟩:=a2;have bw:=I5.pinned (a4 bv) (T.obj _ _ aw);obtain⟨G,hG,gq⟩:=step y H5 y5;refine wpAny_bind (wpAny_mono (hg cl C U H2 fp _ s5 _ H5 y _ _ bw r5 gq) (λ_ s6 a2=>?_) λ_ _ f=>f.elim);obtain⟨bb,H6,I6,q6⟩:=a2;have fin:∀{be:St} {H7:Hp} {s7:Shared},Inv (cCx X M N' scope cl C U H2 fp) ([]++uG fp s5.heap) be H7 s7->tn (i+1) s7.heap/\∀b∈fp,H7 b=none:=λ{be H7 s7} I7=>by
    refine⟨T.keep _ _ _ aw λb hb o e=>(I7.pin (b,o) (Qv _ (Qv _ (kB hb e)))).1,λb hb=>?_⟩;obtain⟨o,e,d⟩:=T.obj _ _ aw b hb;exact(I7.pin (b,o) (Qv _ (Qv _ (kB hb e)))).2.1
   obtain⟨Ny,Ns,hy,hn,q6⟩:=hG _ _ q6;refine wpAny_bind (wpAny_mono (bl cl C U H2 fp _ s6 _ H6 _ I6 q6) (λb s7 ⟨H7,I7,q7⟩=>?_) λ_ _ f=>f.elim);cases b with
   |false=>
    rw[if_neg Qi]at q7;obtain⟨c0,m',ax,w7⟩:=hn _ q7;exact wpAny_pure (show _/\_ from⟨rfl,m',ax,i+1,bb,ys,_,I7.unpinned,(fin I7).1,(fin I7).2,c0,w7⟩)
   |true=>
    rw[if_pos rfl]at q7;refine wpAny_bind (wpAny_bind (wpAny_mono (he cl C U H2 fp _ s7 _ H7 _ I7 q7) (λz s8 a2=>?_) λ_ _ f=>f.elim));obtain⟨y',H8,I8,r8,q8⟩:=a2;obtain⟨c1,c2,m',ax,w8⟩:=hy _ _ q8;refine wpAny_bind (wpAny_mono (d7 (X:=cCx X M N' scope cl C U H2 fp) _ s8 _ H8 (.ref D) [y'] (.ref D) [z] (λ_ H9=>H9=upd H8 D (.lst (ys++ [y']))) I8 rfl (.cons r8 .nil) ⟨D,ys,y',rfl,rfl,c1,c2,rfl⟩) (λz9 s9 a2=>?_) λ_ _ f=>f.elim);obtain⟨_,H9,I9,_,e9⟩:=a2;subst e9;exact wpAny_pure (wpAny_pure ⟨rfl,m',ax,i+1,bb,ys++ [y'],_,I9.unpinned,(fin I9).1,(fin I9).2,ac,w8⟩)
 exact codeAny_compStart_list (an _ rfl) (T.self _ 0 _ _ _ b8 (an _ rfl))
theorem Inv.loose {h':Heap} (I:Inv X pins σ H s) (l:IN X pins H C) (z:Heap.SameBut C s.heap h'):Inv X pins σ H {s with heap:=h'}:=
 I.turned (t':=s.toks) (λb o hb e=>(z.2 b hb).trans e) l.no l.fr (.inr l.ab) l.ce l.pi
section
variable {py spos:Pos}
theorem zG (hB:∀σ Q J H,B σ Q J H->Am M.length g tc te σ Q J H) (hc:X.calm=true) (S:CScope X M N' scope) (hi:PI X tg iter wi) (hg:CScope X M N' scope->∀cl C s₂ z fp,PG (cCx X M N' scope cl C s₂ z fp) tg g) (O:∀cl C s₂ z fp,PTs (cCx X M N' scope cl C s₂ z fp) ifs tc) (he:∀cl C s₂ z fp,PE (cCx X M N' scope cl C s₂ z fp) elt te)
  (hs:∀x,foldedSetIterable iter X.env x=pure x:=by intro _;rfl):PE X (.ListComp elt [⟨tg,iter,ifs,0⟩] scope pos) (λσ H Q=>wi σ H (B σ Q)):=by
 intro pins s σ H Q I h;obtain⟨cl,G,U,Y⟩:=vm (env:=X.env) (scope:=scope) λp hp hf=>I.ok.has p.1 (.inl (S.free p hp hf));rw[eval_ListComp];refine wpAny_comprehension_free (use:=none) rfl hs G S.kind S.names (xH hc S hi (hg S) O he U Y I h (hB _ _) λD C s4 H' I4 Z l q=>?_);obtain⟨m,Z⟩:=Z;exact⟨m,Z,λh' sb=>⟨.ref D,H',I4.loose l sb,rfl,q⟩⟩
theorem EH (hB:∀σ Q J H,B σ Q J H->Am M.length g tc te σ Q J H) (hc:X.calm=true) (S:CScope X M N' scope) (hi:PI X tg iter wi) (hg:CScope X M N' scope->∀cl C s₂ G fp,PG (cCx X M N' scope cl C s₂ G fp) tg g) (U:∀cl C s₂ G fp,PTs (cCx X M N' scope cl C s₂ G fp) ifs tc) (he:∀cl C s₂ G fp,PE (cCx X M N' scope cl C s₂ G fp) elt te)
  (hN:X.N.Nodup) (hy:X.N[i]?=some y) (hk:X.env.scope.names.lookup y=some .local) (Y:swapsWith (.ListComp elt [⟨tg,iter,ifs,0⟩] scope pos) (some (.Name y py)) spos.line X.env=pure true:=by rfl)
  (hs:∀x,foldedSetIterable iter X.env x=pure x:=by intro _;rfl):PS X (.Assign [.Name y py] (.ListComp elt [⟨tg,iter,ifs,0⟩] scope pos) spos) (GU (λσ H Q=>wi σ H (B σ Q)) (mE i)):=by
 intro pins s σ H D I h;obtain⟨cl,O,Z,a0⟩:=vm (env:=X.env) (scope:=scope) λp hp hf=>I.ok.has p.1 (.inl (S.free p hp hf));rw[exec_Assign_Name_used _ _ _ _ Y];refine wpAny_bind (wpAny_standAt (wpAny_bind ?_));show wpAny _ X.A (do let _<-comprehension (.ListComp elt [⟨tg,iter,ifs,0⟩] scope pos) scope X.env _ (newList []) false (eval iter X.env) (some (assign (.Name y py) X.env))) _ _ s;refine wpAny_bind (thn (wpAny_comprehension_free (use:=some (assign (.Name y py) X.env)) (Q:=λ_ s'=>SP X pins D .next s') rfl hs O S.kind S.names
  (xH (Q:=λv H'=>D.nx (σ.set i (some v)) H') hc S hi (hg S) U he Z a0 I h (hB _ _) λD' C s4 H' I4 hn l q=>?_)) λ_ s' hq=>wpAny_pure (wpAny_pure hq))
 obtain⟨m,hn⟩:=hn;show wpAny _ X.A (assign (.Name y py) X.env (.ref D')) _ _ _;refine wpAny_assign_Name (xb (v:= .ref D') I4 hN hy (.inl hk) rfl (λs5 I5 a1=>?_) (.inr hk));obtain⟨a,sb,ha⟩:=a1;have ne:C≠a:=by
  rcases ha with z|z
  .rw[z];exact l.fr
  .exact Ne.symm (l.ce _ _ z)
 exact⟨m,hn.sameBut sb ne,λh' a2=>⟨_,H',I5.loose l a2,q⟩⟩
end
def BG (te:TE) (σ:St) (Q:VK) (J:It) (H1:Hp):Prop:=∀D,H1 D=none->∃W:Nat->Nat->List V->Hp->Prop,(∃m,W 0 m [] (upd H1 D (.lst [])))/\∀i m ys H2,W i m ys H2->H2 D=some (.lst ys)->
 (J.stop i H2/\Q (.ref D) H2)\/(J.go i H2/\∀x H3,J.yld i H2 x H3->te (some x::σ) H3 λy H4=>H4 D=some (.lst ys)/\ys.length<sizeLine/\∃m',m'<m/\W (i+1) m' (ys++ [y]) (upd H4 D (.lst (ys++ [y]))))
def Kx (wi:TI) (te:TE):TE:=λσ H Q=>wi σ H (BG te σ Q)
theorem K9 (h:BG te σ Q J H1):Am 1 (mE 0) Ig te σ Q J H1:=λD hD=>by
 obtain⟨W,⟨U,Y⟩,G⟩:=h D hD;refine⟨λi m O ys H=>(∃v,O=v::σ)/\W i m ys H,⟨U,⟨none,rfl⟩,Y⟩,λi m O ys H2 w e=>?_⟩;obtain⟨⟨v,rfl⟩,w⟩:=w;rcases G i m ys H2 w e with z|⟨go,z⟩
 .exact .inl z
 .refine .inr ⟨go,λx H3 y=>⟨λI H4=>I=some x::σ/\H4=H3,λI H4 e=>?_,rfl,rfl⟩⟩;obtain⟨rfl,rfl⟩:=e;refine⟨λy H6=>H6 D=some (.lst ys)/\ys.length<sizeLine/\∃m',m'<m/\W (i+1) m' (ys++ [y]) (upd H6 D (.lst (ys++ [y]))),λ_=>False,λy H6 n=>?_,λ_ n=>n.elim,?_⟩
  .obtain⟨Z,n2,m',n3,n4⟩:=n;exact⟨Z,n2,m',n3,⟨_,rfl⟩,n4⟩
  .exact db (B:=False) (z x _ y)
theorem iV (hc:X.calm=true) (S:CScope X [x] N' scope) (hi:PI X (.Name x px) iter wi) (he:∀cl C s₂ z fp,PE (cCx X [x] N' scope cl C s₂ z fp) elt te)
  (hs:∀x,foldedSetIterable iter X.env x=pure x:=by intro _;rfl):PE X (.ListComp elt [⟨.Name x px,iter,[],0⟩] scope pos) (Kx wi te):=
 zG (B:=BG te) (λ_ _ _ _=>K9) hc S hi (λS _ _ _ _ _=>S.pg rfl) (λ_ _ _ _ _=>G9) he hs
end
def zC (scope dsc:Scope):List (Str×NameKind):=scope.names.map λp=>if(p.2==NameKind.free&&dsc.kind==ScopeKind.function&&dsc.names.lookup p.1==some NameKind.cell)=true then(p.1,NameKind.cell)else(p.1,p.2)
def IE (M N N':List Str) (dsc:Scope) (scope:Scope):Bool:=
 (scope.kind==ScopeKind.function)&&decide (M++N').Nodup&&(M.all λx=>scope.names.lookup x==some NameKind.local)&&(scope.names.all λy=>y.2 !=NameKind.cell)&&(scope.names.all λy=>y.2 !=NameKind.local||scope.names.lookup y.1==some NameKind.local)
 &&(scope.names.all λy=>y.2 !=NameKind.free||dsc.names.lookup y.1==some NameKind.cell)&&(N'.all λy=>(zC scope dsc).lookup y !=some NameKind.local&&(zC scope dsc).lookup y !=some NameKind.free)&&decide (N'.length=N.length)&&(N'.zip N).all λp=>p.1==p.2||(zC scope dsc).lookup p.1==none
theorem pU {dsc:Scope}:∀{l:List (Str×NameKind)} {y:Str} {k:NameKind},(∀p∈l,p.2≠NameKind.cell)->(l.map λp=>if(p.2==NameKind.free&&dsc.kind==ScopeKind.function&&dsc.names.lookup p.1==some NameKind.cell)=true then(p.1,NameKind.cell)else(p.1,p.2)).lookup y=some k->(k= .cell\/k= .free)->(y,NameKind.free)∈l
 | [],y,k,_,h,_=>by simp at h
 |(n,kk)::r,y,k,hn,h,hk=>by
  rw[Qs]at h;by_cases c:(kk==NameKind.free&&dsc.kind==ScopeKind.function&&dsc.names.lookup n==some NameKind.cell)=true
  .dsimp only at h;rw[if_pos c,ZE]at h;split at h
   .rename_i z
    rw[beq_iff_eq]at z;subst z;have:kk= .free:=by
     rw[QK,QK]at c;simpa using c.1.1
    rw[this];exact Q9
   .exact Qd _ (pU (λp G=>hn p (Qd _ G)) h hk)
  .dsimp only at h;rw[if_neg c,ZE]at h;split at h
   .rename_i z
    rw[beq_iff_eq]at z;subst z;cases h;rcases hk with e|e
    .exact absurd e (hn _ Q9)
    .rw[e];exact Q9
   .exact Qd _ (pU (λp G=>hn p (Qd _ G)) h hk)
theorem CScope.of {dsc:Scope} {N:List Str} (Y:X.N=N) (Z:X.env.scope=dsc) (h:IE M N N' dsc scope=true):CScope X M N' scope:=by
 unfold IE at h;simp only[QK]at h;obtain⟨⟨⟨⟨⟨⟨⟨⟨h1,h2⟩,h3⟩,h4⟩,h5⟩,h6⟩,h7⟩,h8⟩,h9⟩:=h;have I:(relabel scope X.env).names=zC scope dsc:=by rw[<-Z];rfl
 have G:∀y∈scope.names,y.2≠NameKind.cell:=λy hy=>by have:=QS.mp h4 y hy;simpa using this
 refine⟨by simpa using h1,of_decide_eq_true h2,by rw[Y];exact of_decide_eq_true h8,λx hx=>by simpa using QS.mp h3 x hx,G,λy hy e=>?_,λy hy e=>?_,λj y U v=>?_,λy e=>?_⟩
 .have:=QS.mp h5 y hy;rw[e]at this;simpa using this
 .have:=QS.mp h6 y hy;rw[e]at this;show X.env.scope.names.lookup y.1=_;rw[Z];simpa using this
 .have O:=QS.mp h7 y (Q1 U);have hz:∃z,N[j]?=some z/\(y,z)∈N'.zip N:=by
   have lj:=(Q2.mp U).1;have l8:N'.length=N.length:=of_decide_eq_true h8;refine⟨N[j]'(by lia),Q3 _,?_⟩;refine Q1 (i:=j) ?_;rw[List.getElem?_zip_eq_some];exact⟨U,Q3 _⟩
  obtain⟨z,hz,mz⟩:=hz;have e9:=QS.mp h9 _ mz;unfold Vis at v;rw[I]at v⊢;have O:¬(zC scope dsc).lookup y=some NameKind.local/\¬(zC scope dsc).lookup y=some NameKind.free:=by simpa using O
  rcases v with v|v|v
  .exact absurd v O.1
  .refine⟨?_,pU G v (.inl rfl),v⟩;rw[Y,hz];dsimp only at e9;rw[v,Bool.or_eq_true]at e9;rcases e9 with e9|e9
   .rw[beq_iff_eq]at e9;rw[e9]
   .cases e9
  .exact absurd v O.2
 .have e:(zC scope dsc).lookup y=some .cell\/(zC scope dsc).lookup y=some .free:=by rw[<-I];exact e
  rcases e with e|e
  .exact pU G e (.inl rfl)
  .exact pU G e (.inr rfl)
def CNext (n i:Nat) (ys:List V) (D:Addr) (Pv:Nat->List V->Hp->Prop):VK:=λy H4=>H4 D=some (.lst ys)/\ys.length<sizeLine/\∃m',m'<n-i/\m'=n-(i+1)/\i+1<=n/\Pv (i+1) (ys++ [y]) (upd H4 D (.lst (ys++ [y])))
theorem CNext.mk {Pv:Nat->List V->Hp->Prop} {y:V} (hi:i<n) (h1:H4 D=some (.lst ys)) (h2:ys.length<sizeLine) (z:Pv (i+1) (ys++ [y]) (upd H4 D (.lst (ys++ [y])))):CNext n i ys D Pv y H4:=
 ⟨h1,h2,n-(i+1),by lia,rfl,hi,z⟩
theorem jR {a:Addr} (Pv:Nat->List V->Hp->Prop) (z:Pv 0 [] (upd H1 D (.lst []))) (hl:∀i ys H,i<=xs.length->Pv i ys H->SqL K H a xs)
  (hs:∀i x ys H2,xs[i]?=some x->Pv i ys H2->H2 D=some (.lst ys)->te (some x::σ) H2 (CNext xs.length i ys D Pv))
  (hd:∀ys H2,Pv xs.length ys H2->H2 D=some (.lst ys)->Fin H2):
  ∃W:Nat->Nat->List V->Hp->Prop,(∃m,W 0 m [] (upd H1 D (.lst [])))/\∀i m ys H2,W i m ys H2->H2 D=some (.lst ys)->
   ((Itl K a).stop i H2/\Fin H2)\/((Itl K a).go i H2/\∀x H3,(Itl K a).yld i H2 x H3->te (some x::σ) H3 λy H4=>H4 D=some (.lst ys)/\ys.length<sizeLine/\∃m',m'<m/\W (i+1) m' (ys++ [y]) (upd H4 D (.lst (ys++ [y])))):=by
 refine⟨λi m ys H=>m=xs.length-i/\i<=xs.length/\Pv i ys H,⟨xs.length,by simp,Qj _,z⟩,?_⟩;rintro i m ys H ⟨rfl,hi,p⟩ hD;have q:=hl i ys H hi p;by_cases lt:i<xs.length
 .refine .inr ⟨⟨xs,xs[i],q,by simp[lt]⟩,λx H' y=>?_⟩;obtain⟨e,y⟩:=y;subst e;exact hs i x ys _ (y xs q) p hD
 .have e:i=xs.length:=by lia
  subst e;exact .inl ⟨⟨xs,q,Q4 _⟩,hd ys H p hD⟩
theorem pE {lo:Int} (Pv:Nat->List V->Hp->Prop) (z:Pv 0 [] (upd H1 D (.lst [])))
  (hs:∀i ys H2,i<n->Pv i ys H2->H2 D=some (.lst ys)->te (some (.int (lo+i))::σ) H2 (CNext n i ys D Pv))
  (hd:∀ys H2,Pv n ys H2->H2 D=some (.lst ys)->Fin H2):
  ∃W:Nat->Nat->List V->Hp->Prop,(∃m,W 0 m [] (upd H1 D (.lst [])))/\∀i m ys H2,W i m ys H2->H2 D=some (.lst ys)->
   ((Itr lo n).stop i H2/\Fin H2)\/((Itr lo n).go i H2/\∀x H3,(Itr lo n).yld i H2 x H3->te (some x::σ) H3 λy H4=>H4 D=some (.lst ys)/\ys.length<sizeLine/\∃m',m'<m/\W (i+1) m' (ys++ [y]) (upd H4 D (.lst (ys++ [y])))):=by
 refine⟨λi m ys H=>m=n-i/\i<=n/\Pv i ys H,⟨n,by simp,Qj _,z⟩,?_⟩;rintro i m ys H ⟨rfl,hi,p⟩ hD;by_cases lt:i<n
 .refine .inr ⟨lt,λx H' y=>?_⟩;obtain⟨e,y⟩:=y;subst e y;exact hs i ys _ lt p hD
 .have e:i=n:=by lia
  subst e;exact .inl ⟨Q4 _,hd ys H p hD⟩
end
section
def yQ (tc:TT) (te:TE) (σ:St) (Q:VK) (J:It) (H1:Hp):Prop:=∀D,H1 D=none->∃W:Nat->Nat->List V->Hp->Prop,(∃m,W 0 m [] (upd H1 D (.lst [])))/\∀i m ys H2,W i m ys H2->H2 D=some (.lst ys)->
 (J.stop i H2/\Q (.ref D) H2)\/(J.go i H2/\∀x H3,J.yld i H2 x H3->tc (some x::σ) H3 λb H4=>if b=true then te (some x::σ) H4 λy H5=>H5 D=some (.lst ys)/\ys.length<sizeLine/\∃m',m'<m/\W (i+1) m' (ys++ [y]) (upd H5 D (.lst (ys++ [y])))else H4 D=some (.lst ys)/\∃m',m'<m/\W (i+1) m' ys H4)
def Es (wi:TI) (tc:TT) (te:TE):TE:=λσ H Q=>wi σ H (yQ tc te σ Q)
theorem IF (h:yQ tc te σ Q J H1):Am 1 (mE 0) tc te σ Q J H1:=λD hD=>by
 obtain⟨W,⟨m0,w0⟩,G⟩:=h D hD;refine⟨λi m Z ys H=>(∃v,Z=v::σ)/\W i m ys H,⟨m0,⟨none,rfl⟩,w0⟩,λi m Z ys H2 w e=>?_⟩;obtain⟨⟨v,rfl⟩,w⟩:=w;rcases G i m ys H2 w e with z|⟨go,z⟩
 .exact .inl z
 .refine .inr ⟨go,λx H3 y=>⟨λI H4=>I=some x::σ/\H4=H3,λI H4 e=>?_,rfl,rfl⟩⟩;obtain⟨rfl,rfl⟩:=e;refine⟨_,_,λy H6 n=>?_,λH5 n=>?_,z x _ y⟩
  .obtain⟨O,n2,m',U,Y⟩:=n;exact⟨O,n2,m',U,⟨_,rfl⟩,Y⟩
  .obtain⟨O,m',U,Y⟩:=n;exact⟨O,m',U,⟨_,rfl⟩,Y⟩
section
theorem p4 {G:Expr} (hc:X.calm=true) (S:CScope X [x] N' scope) (hi:PI X (.Name x px) iter wi) (I:∀cl C s₂ z fp,PT (cCx X [x] N' scope cl C s₂ z fp) G tc) (he:∀cl C s₂ z fp,PE (cCx X [x] N' scope cl C s₂ z fp) elt te)
  (hs:∀x,foldedSetIterable iter X.env x=pure x:=by intro _;rfl):PE X (.ListComp elt [⟨.Name x px,iter,[G],0⟩] scope pos) (Es wi tc te):=
 zG (B:=yQ tc te) (λ_ _ _ _=>IF) hc S hi (λS _ _ _ _ _=>S.pg rfl) (λ_ _ _ _ _=>B0 (I _ _ _ _ _)) he hs
theorem EI {G:Expr} {py spos:Pos} (hc:X.calm=true) (S:CScope X [x] N' scope) (hi:PI X (.Name x px) iter wi) (I:∀cl C s₂ z fp,PT (cCx X [x] N' scope cl C s₂ z fp) G tc) (he:∀cl C s₂ z fp,PE (cCx X [x] N' scope cl C s₂ z fp) elt te)
  (hN:X.N.Nodup) (hy:X.N[i]?=some y) (hk:X.env.scope.names.lookup y=some .local) (O:swapsWith (.ListComp elt [⟨.Name x px,iter,[G],0⟩] scope pos) (some (.Name y py)) spos.line X.env=pure true:=by rfl)
  (hs:∀x,foldedSetIterable iter X.env x=pure x:=by intro _;rfl):PS X (.Assign [.Name y py] (.ListComp elt [⟨.Name x px,iter,[G],0⟩] scope pos) spos) (GU (Es wi tc te) (mE i)):=
 EH (B:=yQ tc te) (λ_ _ _ _=>IF) hc S hi (λS _ _ _ _ _=>S.pg rfl) (λ_ _ _ _ _=>B0 (I _ _ _ _ _)) he hN hy hk O hs
end
def CSkip (n i:Nat) (ys:List V) (D:Addr) (Pv:Nat->List V->Hp->Prop) (H4:Hp):Prop:=H4 D=some (.lst ys)/\∃m',m'<n-i/\m'=n-(i+1)/\i+1<=n/\Pv (i+1) ys H4
theorem CSkip.mk {Pv:Nat->List V->Hp->Prop} (hi:i<n) (h1:H4 D=some (.lst ys)) (z:Pv (i+1) ys H4):CSkip n i ys D Pv H4:=⟨h1,n-(i+1),by lia,rfl,hi,z⟩
theorem kS {a:Addr} (Pv:Nat->List V->Hp->Prop) (G:Pv 0 [] (upd H1 D (.lst []))) (hl:∀i ys H,i<=xs.length->Pv i ys H->SqL K H a xs)
  (hs:∀i x ys H2,xs[i]?=some x->Pv i ys H2->H2 D=some (.lst ys)->tc (some x::σ) H2 λb H4=>if b=true then te (some x::σ) H4 (CNext xs.length i ys D Pv)else CSkip xs.length i ys D Pv H4)
  (hd:∀ys H2,Pv xs.length ys H2->H2 D=some (.lst ys)->Fin H2):
  ∃W:Nat->Nat->List V->Hp->Prop,(∃m,W 0 m [] (upd H1 D (.lst [])))/\∀i m ys H2,W i m ys H2->H2 D=some (.lst ys)->
   ((Itl K a).stop i H2/\Fin H2)\/((Itl K a).go i H2/\∀x H3,(Itl K a).yld i H2 x H3->tc (some x::σ) H3 λb H4=>if b=true then te (some x::σ) H4 λy z=>z D=some (.lst ys)/\ys.length<sizeLine/\∃m',m'<m/\W (i+1) m' (ys++ [y]) (upd z D (.lst (ys++ [y])))else H4 D=some (.lst ys)/\∃m',m'<m/\W (i+1) m' ys H4):=by
 refine⟨λi m ys H=>m=xs.length-i/\i<=xs.length/\Pv i ys H,⟨xs.length,by simp,Qj _,G⟩,?_⟩;rintro i m ys H ⟨rfl,hi,p⟩ hD;have q:=hl i ys H hi p;by_cases lt:i<xs.length
 .refine .inr ⟨⟨xs,xs[i],q,by simp[lt]⟩,λx H' y=>?_⟩;obtain⟨e,y⟩:=y;subst e;exact hs i x ys _ (y xs q) p hD
 .have e:i=xs.length:=by lia
  subst e;exact .inl ⟨⟨xs,q,Q4 _⟩,hd ys H p hD⟩
end
section
end
section
def vwO (a d:Addr):HO:= .ext λh=>h.IsItemsView a d
def Itd (ob:Obj) (d:Addr) (kvs:List (Key×V)):It:=
 ⟨λi H=>H d=some (.frz ob (.dK kvs))/\i<kvs.length,λi H x H'=>∃p k v,x= .ref p/\H p=none/\kvs[i]?=some (k,v)/\H'=upd H p (.tup [kV k,v]),λi H=>H d=some (.frz ob (.dK kvs))/\kvs.length<=i⟩
def DObj (P:Program) (w:World) (ob:Obj) (d:Addr) (kvs:List (Key×V)) (vs:List (Key×Value)) (ep:Nat):Prop:=
 KV kvs vs/\∀h:Heap,h.get? d=some ob->h.DictAt (a8 P w) d vs ep
theorem KV.getI (h:KV kvs vs):∀{i:Nat} {k:Key} {v:V},kvs[i]?=some (k,v)->∃u,vs[i]?=some (k,u)/\RelV v u:=by
 induction h with
 |nil=>intro i k v e;simp at e
 |cons r t z=>
  rename_i p q ps qs
  intro i k v e;cases i with
  |zero=>
   simp at e;subst e;exact⟨q.2,by simp[show k=q.1 from r.1],r.2⟩
  |succ j=>
   obtain⟨u,h1,h2⟩:=z (i:=j) (by simpa using e);exact⟨u,by simpa using h1,h2⟩
theorem AQ {x1} {ep:Nat} (it:Addr) (D:DObj P w ob d kvs vs ep):
  BM P w K (.Tuple elts x1 pos) (Itd ob d kvs) [it] it (λi h=>∃ok Y,IsItemIter h it d i vs.length ep ok Y) where
 mem:=by simp
 obj:=λi h st b hb=>by
  obtain⟨ok,Y,st⟩:=st;have z:b=it:=by simpa using hb
  subst z;exact⟨_,st,λv z=>by cases z⟩
 keep:=λi h h' st k=>by
  obtain⟨ok,Y,st⟩:=st;exact⟨ok,Y,k it (by simp) _ st⟩
 item:=by
  intro X hP hw hK hc i pins s σ H E I hf st hg;subst hP hw hK;obtain⟨ok,Y,st⟩:=st;obtain⟨hq,hi⟩:=hg;have fi:=hf it (by simp);obtain⟨G,_⟩:=I.hok d _ hq;have O:=D.2 s.heap G;obtain⟨⟨k,v⟩,hx⟩:∃kv,kvs[i]?=some kv:=⟨kvs[i],by simp[hi]⟩;obtain⟨u,hu,ru⟩:=KV.getI D.1 hx;refine wpAny_pyNext_items_item st O hu λkey h' a0 g1 g3 gz g5=>⟨_,rfl,?_⟩;refine wpAny_letOwnedTupleGo_items g1 λh2 k1 k2=>?_;have rk:RelV (kV k) key:=Ci a0;have Z:H s.heap.objs.size=none:=I.hok.fresh (Q4 _);have a1:s.heap.objs.size≠it:=XA (Heap.lt_size st);have keep:∀b o,b≠it->s.heap.get? b=some o->h2.get? b=some o:=λb o z q=>(k2.2 b z).trans (g5 b o z q);have U:h2.get? s.heap.objs.size=some {cls:= .type "tuple",data:= .seq #[key,u]}:=(k2.2 _ a1).trans g3;have trk:∀b v,H b=some v->b≠it:=λb v q z=>by rw[z,fi.1]at q;cases q
  have un:Un (frs X.stack) [it] H (upd H s.heap.objs.size (.tup [kV k,v])) s.heap h2:=by
   refine⟨λb o q n hb hx=>keep b o (λz=>hx (by simp[z])) q,λb o q n hb hx=>⟨o.slots,keep b o (λz=>hx (by simp[z])) q⟩,λb o q n hx=>?_,
    λb o q hx=>⟨o,keep b o (λz=>hx (by simp[z])) q⟩,λb ys q=>?_,λb o v q=>?_,λb ps q=>⟨#[],?_⟩⟩
   .rw[ae (QC (Heap.lt_size q))];exact n
   .rw[ae (ak q Z)];exact q
   .rw[ae (ak q Z)];exact q
   .rw[ae (ak q Z),q];simp
  have hok:HOk X.prog X.w (upd H s.heap.objs.size (.tup [kV k,v])) h2:=λb v' q=>by
   by_cases z:b=s.heap.objs.size
   .subst z;rw[ac]at q;cases q;exact⟨by show 2<=sizeLine;decide,[key,u],.cons rk (.cons ru .nil),_,U,rfl,_,rfl⟩
   .rw[ae z]at q;refine(I.hok b v' q).stay (λc o hc r=>?_) (λc r=>by rw[ae (ak r Z)];exact r) λc ys r=>by rw[ae (ak r Z)];exact r
    rcases hc with rfl|hc
    .exact keep _ _ (trk _ _ q) r
    .exact keep _ _ (trk _ _ hc) r
  have I2:Inv X pins σ (upd H s.heap.objs.size (.tup [kV k,v])) {s with heap:=h2}:=I.call' (s':={s with heap:=h2}) rfl un hok I.bare λb hb=>by
   have z:Aq X pins H b:=hf b hb;exact⟨z.2.2.2.1,z.2.1,z.2.2.2.2.1,z.2.2.2.2.2⟩
  refine⟨.ref s.heap.objs.size,_,I2,rfl,⟨_,k,v,rfl,Z,hx,rfl⟩,⟨key,u,k1⟩,λb hb=>?_⟩;have z:b=it:=by simpa using hb
  subst z;rw[ae (Ne.symm a1)];exact fi.1
 done:=by
  intro X hP hw hK hc i pins s σ H E I hf st hg;subst hP hw hK;obtain⟨ok,Y,st⟩:=st;obtain⟨hq,hi⟩:=hg;obtain⟨G,_⟩:=I.hok d _ hq;have O:=D.2 s.heap G;obtain⟨f0,f1,f2,f3,f4,f5⟩:=hf it (by simp);have hl:kvs.length=vs.length:=D.1.length;exact wpAny_pyNext_items_end (I.ok.hd hc) st O (by simp;lia) λh' eb=>⟨rfl,I.turned (t':=s.toks) (λb o hb e=>eb b o hb e) f0 f1 f3 f4 f5⟩
 self:=λ_ _ _ _ _ st h=>let⟨_,_,st⟩:=st;PySem.W.kcp_self st h
section
inductive Jl (x:V) (vs:List V) (H:Hp) (Q:VK):Prop
 |mk (d kvs:_) (_:x= .ref d) (_:vs=[]) (_:H d=some (.dK kvs)) (_:∀a,H a=none->Q (.ref a) (upd H a (vwO a d)))
theorem zN:MtR X "dict.items" Jl:=by
 intro pins s σ H x vs v us Q I G rv h;obtain⟨d,kvs,rfl,rfl,hd,q⟩:=h;cases G;cases rv;obtain⟨z,lo,O,U,dd⟩:=jP I.hok hd;refine call_meetsIn Xc dd.typeIs PySem.F.entry_dict_items (PySem.F.args_dict_items_1 _) (meets_dict_items (a8 X.prog X.w) d lo) ⟨⟨O,dd⟩,?_⟩;have new:(s.heap.push {cls:= .type "dict_items",data:= .fields #[.ref d]}).get? s.heap.objs.size=some {cls:= .type "dict_items",data:= .fields #[.ref d]}:=Heap.get?_push_size _ rfl;refine⟨.ref s.heap.objs.size,_,I.laid (t':=s.toks) (λb o e=>Heap.get?_push_of_some _ e) (Q4 _) (show ObjOk X.prog X.w _ _ _ (vwO s.heap.objs.size d) from⟨⟨_,new,rfl,rfl⟩,⟨_,new⟩,λh1 h2 p k=>?_⟩),rfl,q _ (I.hok.fresh (Q4 _))⟩;obtain⟨o,e,c⟩:=p;exact⟨o,k o e,c⟩
theorem Inv.freeze {H:Hp} {d:Addr} {kvs:List (Key×V)} (I:Inv X pins σ H s) (hd:H d=some (.dK kvs)) (G:s.heap.get? d=some ob):Inv X pins σ (upd H d (.frz ob (.dK kvs))) s:=by
 have own:∀b y,H b=some (.own y)->upd H d (.frz ob (.dK kvs)) b=some (.own y):=λb y q=>by rw[ae (λz=>by rw[z,hd]at q;cases q)];exact q
 have tup:∀b xs,H b=some (.tup xs)->upd H d (.frz ob (.dK kvs)) b=some (.tup xs):=λb xs q=>by rw[ae (λz=>by rw[z,hd]at q;cases q)];exact q
 have non:∀b,H b=none->upd H d (.frz ob (.dK kvs)) b=none:=λb q=>by rw[ae (λz=>by rw[z,hd]at q;cases q)];exact q
 refine⟨I.ok,I.os,I.bare,⟨I.base.keep,I.base.slot,λb o e n hx=>non b (I.base.free b o e n hx),I.base.there,λb xs e=>tup b xs (I.base.tups b xs e),λb o u e=>?_,λb ps e=>?_⟩,I.loc,I.cell,non _ I.free,λx c e=>non c (I.freeC x c e),λp O=>?_,λb o e=>?_,I.len⟩
 .have:=I.base.frzs b o u e;rw[ae (λz=>by rw[z,hd]at this;cases this)];exact this
 .obtain⟨m,q⟩:=I.base.tbls b ps e;exact⟨m,by rw[ae (λz=>by rw[z,hd]at q;cases q)];exact q⟩
 .obtain⟨h1,h2,U⟩:=I.pin p O;exact⟨h1,non _ h2,U⟩
 .by_cases z:b=d
  .subst z;rw[ac]at e;cases e;exact⟨G,(I.hok b _ hd).stay (λ_ _ _ q=>q) (λc q=>own c b q) tup⟩
  .rw[ae z]at e;exact(I.hok b o e).stay (λ_ _ _ q=>q) (λc q=>own c b q) tup
theorem Inv.thaw {H:Hp} {d:Addr} {kvs:List (Key×V)} (I:Inv X pins σ H s) (hd:H d=some (.frz ob (.dK kvs))) (G:∀o u,X.H₀ d≠some (.frz o u)):Inv X pins σ (upd H d (.dK kvs)) s:=by
 have own:∀b y,H b=some (.own y)->upd H d (.dK kvs) b=some (.own y):=λb y q=>by rw[ae (λz=>by rw[z,hd]at q;cases q)];exact q
 have tup:∀b xs,H b=some (.tup xs)->upd H d (.dK kvs) b=some (.tup xs):=λb xs q=>by rw[ae (λz=>by rw[z,hd]at q;cases q)];exact q
 have non:∀b,H b=none->upd H d (.dK kvs) b=none:=λb q=>by rw[ae (λz=>by rw[z,hd]at q;cases q)];exact q
 refine⟨I.ok,I.os,I.bare,⟨I.base.keep,I.base.slot,λb o e n hx=>non b (I.base.free b o e n hx),I.base.there,λb xs e=>tup b xs (I.base.tups b xs e),λb o u e=>?_,λb ps e=>?_⟩,I.loc,I.cell,non _ I.free,λx c e=>non c (I.freeC x c e),λp O=>?_,λb o e=>?_,I.len⟩
 .have:=I.base.frzs b o u e;rw[ae (λz=>by rw[z]at e;exact G _ _ e)];exact this
 .obtain⟨m,q⟩:=I.base.tbls b ps e;exact⟨m,by rw[ae (λz=>by rw[z,hd]at q;cases q)];exact q⟩
 .obtain⟨h1,h2,U⟩:=I.pin p O;exact⟨h1,non _ h2,U⟩
 .by_cases z:b=d
  .subst z;rw[ac]at e;cases e;obtain⟨_,q⟩:=I.hok b _ hd;exact ObjOk.stay (show ObjOk X.prog X.w H s.heap b (.dK kvs) from q) (λ_ _ _ q=>q) (λc q=>own c b q) tup
  .rw[ae z]at e;exact(I.hok b o e).stay (λ_ _ _ q=>q) (λc q=>own c b q) tup
theorem Inv.noFrz {H:Hp} {d:Addr} {kvs:List (Key×V)} (I:Inv X pins σ H s) (hd:H d=some (.dK kvs)):∀o u,X.H₀ d≠some (.frz o u):=λo u e=>by
 have:=I.base.frzs d o u e;rw[hd]at this;cases this
def JO (te:TE):TI:=λσ H R=>te σ H λx H1=>∃a d kvs,x= .ref a/\H1 a=some (vwO a d)/\H1 d=some (.dK kvs)/\∀ob,R (Itd ob d kvs) (upd H1 d (.frz ob (.dK kvs)))
theorem zE {l:Expr} {x1} (hl:PE X l te):PI X (.Tuple elts x1 pos) l (JO te):=by
 intro pins s σ H R I h;refine thn (hl pins s σ H _ I h) λv s1 O=>?_;obtain⟨x,H1,U,r1,q1⟩:=O;obtain⟨a,d,kvs,e,ha,hd,q⟩:=q1;subst e;cases r1;obtain⟨z,lo,vs,Y,dd⟩:=jP U.hok hd;obtain⟨ep,G⟩:=dd.dictAt;obtain⟨vw,_,_⟩:=(show ObjOk X.prog X.w H1 s1.heap a (vwO a d) from U.hok a _ ha);obtain⟨ob,es,Z,rest⟩:=id G;refine wpAny_pyIter_items vw G ?_;have If:=U.freeze hd Z;refine⟨s1.heap.objs.size,[s1.heap.objs.size],_,_,_,rfl,If.kept (t':=s1.toks) λb o e=>Heap.get?_push_of_some _ e,AQ _ ⟨Y,λh e=>⟨ob,es,e,rest⟩⟩,⟨_,_,Heap.get?_push_size _ rfl⟩,λb hb=>?_,q ob⟩;have e:b=s1.heap.objs.size:=by simpa using hb
 subst e;exact If.fpOk (Q4 _) (If.hok.fresh (Q4 _))
inductive Ko (t:TS) (D:qN) (σ:St) (H:Hp):Prop
 |mk (d kvs:_) (_:H d=some (.dK kvs)) (_:t ⟨λσ' H'=>∃ob,H' d=some (.frz ob (.dK kvs))/\D.nx σ' (upd H' d (.dK kvs)),λv H'=>∃ob,H' d=some (.frz ob (.dK kvs))/\D.rt v (upd H' d (.dK kvs)),λσ' H'=>∃ob,H' d=some (.frz ob (.dK kvs))/\D.bk σ' (upd H' d (.dK kvs)),λσ' H'=>∃ob,H' d=some (.frz ob (.dK kvs))/\D.ct σ' (upd H' d (.dK kvs))⟩ σ H)
theorem yq {st:Stmt} {t:TS} (h:PS X st t):PS X st (Ko t):=by
 intro pins s σ H D I ⟨d,kvs,hd,q⟩;have U:=I.noFrz hd;refine thn (h pins s σ H _ I q) λf s1 Y=>?_;cases f with
 |next=>obtain⟨z,Z,G,ob,e,O⟩:=Y;exact⟨z,_,G.thaw e U,O⟩
 |cont=>obtain⟨z,Z,G,ob,e,O⟩:=Y;exact⟨z,_,G.thaw e U,O⟩
 |brk=>obtain⟨z,Z,G,ob,e,O⟩:=Y;exact⟨z,_,G.thaw e U,O⟩
 |ret v=>obtain⟨x7,z,Z,G,r7,ob,e,O⟩:=Y;exact⟨x7,z,_,G.thaw e U,r7,O⟩
end
theorem vh {tb:TS} {rt:VK} (Pv:Nat->St->Hp->Prop) (O:Pv 0 σ H) (hl:∀i σ H,i<=kvs.length->Pv i σ H->H d=some (.frz ob (.dK kvs)))
  (hs:∀i k v p σ H,kvs[i]?=some (k,v)->Pv i σ H->H p=none->g (.ref p) σ (upd H p (.tup [kV k,v])) λG H2=>tb ⟨Pv (i+1),rt,nx,Pv (i+1)⟩ G H2) (hd:∀σ H,Pv kvs.length σ H->nx σ H):
  ∃W:Nat->Nat->St->Hp->Prop,(∃m,W 0 m σ H)/\∀i m σ H,W i m σ H->
   ((Itd ob d kvs).stop i H/\nx σ H)\/((Itd ob d kvs).go i H/\∃N:St->Hp->Prop,(∀I H',N I H'->∃m',m'<m/\W (i+1) m' I H')/\∀x H',(Itd ob d kvs).yld i H x H'->g x σ H' λG H2=>tb ⟨N,rt,nx,N⟩ G H2):=by
 refine⟨λi m σ H=>m=kvs.length-i/\i<=kvs.length/\Pv i σ H,⟨kvs.length,by simp,Qj _,O⟩,?_⟩;rintro i m σ H ⟨rfl,hi,p⟩;have q:=hl i σ H hi p;by_cases lt:i<kvs.length
 .refine .inr ⟨⟨q,lt⟩,Pv (i+1),λI H' z=>⟨kvs.length-(i+1),by lia,rfl,lt,z⟩,λx H' y=>?_⟩;obtain⟨U,k,v,rfl,Y,e,rfl⟩:=y;exact hs i k v U σ H e p Y
 .have e:i=kvs.length:=by lia
  subst e;exact .inl ⟨⟨q,Q4 _⟩,hd σ H p⟩
end
section
theorem FR:bootBuiltins "sum"=some (.builtin "sum"):=by decide+kernel
section
variable (K:PySem.W.Frag) (hK:X.K=K)
include hK
theorem wP:fh X (.builtin "len") (λxs H Q=>∃p ys,xs=[.ref p]/\(SqL K H p ys\/SqT K H p ys)/\Q (.int ys.length) H):=by subst hK;exact aE
theorem Fm:IxR X (rIxL K):=by subst hK;exact aW
theorem tQ:IxR X (rIxT K):=by subst hK;exact bX
end
section
theorem xI (hc:X.calm=true):fh X (.builtin "min") (λxs H Q=>∃(p:Addr) (ns:List Int),xs=[.ref p]/\SqL X.K H p (ns.map V.int)/\0<ns.length/\∀M,M∈ns->(∀a∈ns,M<=a)->Q (.int M) H):=by
 intro pins s σ H xs us Q I r h;obtain⟨p,ns,rfl,hq,G,q⟩:=h;obtain⟨u,rfl,U⟩:=jI r;cases U;obtain⟨its,rv,pl,hz⟩:=I.list hq;have hi:IntsAre its ns:=pz rv;obtain⟨xs,e⟩:=hi.allInts.items;have z:ns=xs.toList.map (·.1):=by
  rw[<-hi.numsOf,<-nums_intItems,<-e]
 have hsz:0<xs.size:=by
  have O:=G;rw[z,Q0,Q6]at O;exact O
 have hl:=pl.isList;rw[e]at hl;refine min_intList (I.ok.hd hc) hl hsz λv h' Y hv hk=>?_;obtain⟨t,rfl⟩:=intItems_at hv;obtain⟨h1,h2⟩:=argBest_lt (numAt xs) (xs.size-1);refine⟨.int _,H,I.kept (t':=Y) hk,⟨t,rfl⟩,q _ ?_ λa ha=>?_⟩
 .rw[z,numAt_eq];exact getD_mem (by rw[Q0,Q6];lia)
 .rw[z]at ha;obtain⟨j,Z,rfl⟩:=mem_getD ha;rw[Q0,Q6]at Z;rw[<-numAt_eq];exact h2 j (by lia)
theorem DH (hc:X.calm=true):fh X (.builtin "sum") (λxs H Q=>∃(p:Addr) (ns:List Int),xs=[.ref p]/\SqL X.K H p (ns.map V.int)/\Q (.int ns.sum) H):=by
 intro pins s σ H xs us Q I r h;obtain⟨p,ns,rfl,hq,q⟩:=h;obtain⟨u,rfl,z⟩:=jI r;cases z;obtain⟨its,rv,pl,hz⟩:=I.list hq;have hi:IntsAre its ns:=pz rv;obtain⟨xs,hx⟩:=hi.allInts.items;have hl:=pl.isList;rw[hx]at hl;refine sum_intListG (I.ok.hd hc) hl λh' G t' hk=>?_;have O:ns=xs.toList.map (·.1):=by
  rw[<-nums_intItems,<-hx];exact(show numsOf its.toArray.toList=ns from hi.numsOf).symm
 have e2:preSum (numAt xs) xs.size=ns.sum:=by
  rw[preSum_eq,Qt (by simp),O]
 rw[e2];exact⟨.int _,H,I.kept (t':=G) hk,⟨t',rfl⟩,q⟩
end
end
section
theorem xo {y:Int}:∀{ns:List Int} {m:Nat},m<ns.idxOf y->(h:m<ns.length)->ns[m]≠y
 | [],m,_,h=>by simp at h
 |a::r,m,lt,h=>by
  rw[List.idxOf_cons]at lt;by_cases c:a=y
  .rw[c]at lt;simp at lt
  .have:(a==y)=false:=beq_eq_false_iff_ne.mpr c;rw[this]at lt;cases m with
   |zero=>exact c
   |succ j=>exact xo (ns:=r) (m:=j) (by simpa using lt) (by simpa using h)
theorem xD:∀(ns:List Int) (i:Nat),(ns.eraseIdx i).map V.int=(ns.map V.int).eraseIdx i
 | [],_=>rfl
 |_::_,0=>rfl
 |a::r,i+1=>by
  show V.int a::(r.eraseIdx i).map V.int=V.int a::(r.map V.int).eraseIdx i;rw[xD r i]
section
inductive G5 (x:V) (vs:List V) (H:Hp) (Q:VK):Prop
 |mk (l:Addr) (xs:List V) (k:Int) (y:V) (_:x= .ref l) (_:vs=[.int k,y]) (_:H l=some (.lst xs)) (_:0<=k) (_:k<=(xs.length:Int)) (_:xs.length<sizeLine) (_:Q .non (upd H l (.lst (xs.take k.toNat++y::xs.drop k.toNat))))
theorem xq:MtM X "list.insert" G5:=by
 intro pins s σ H x vs v us Q I Y rv h;obtain⟨l,xs,k,y,rfl,rfl,O,h0,hk,hz,q⟩:=h;cases Y;obtain⟨u1,u,rfl,⟨t,rfl⟩,Z⟩:=rv.two;obtain⟨z,its,n,r,hl,e⟩:=I.lstM O;have G:¬(!Builtin.List.listFitsIndex k)=true:=by
  have U:=u9;rw[fitsIndex_both (by lia) (by lia)];exact Qi
 have hsz:its.toArray.size<=sizeLine:=by rw[Qf];lia
 refine call_meets F.slot_list_insert ⟨_,e,rfl⟩ F.entry_list_insert (F.args_list_insert_3 _ _ _) (AutoListH.list_insert_list_int_val_1 l its.toArray n k t u G hsz) ⟨e,?_⟩;refine⟨.non,_,I.lset (its':=its.take k.toNat++u::its.drop k.toNat) O e ?_ ((r.take k.toNat).append (.cons Z (r.drop k.toNat))) ?_,rfl,q⟩
 .have e0:(if k<0 then(k+((its.toArray.size:Nat):Int)).toNat else min k.toNat its.toArray.size)=k.toNat:=by
   rw[if_neg (by lia),Qf];lia
  show(its.toArray.extract 0 _).push u++its.toArray.extract _=_;rw[e0];simp;exact Qt (by rw[QA];lia)
 .rw[Qa,Qp,Q8,QA];lia
inductive G4 (x:V) (vs:List V) (H:Hp) (Q:VK):Prop
 |mk (l:Addr) (ns:List Int) (y:Int) (_:x= .ref l) (_:vs=[.int y]) (_:H l=some (.lst (ns.map V.int))) (_:y∈ns) (_:Q .non (upd H l (.lst ((ns.erase y).map V.int))))
theorem Dh:MtM X "list.remove" G4:=by
 intro pins s σ H x vs v us Q I rx rv h;obtain⟨l,ns,y,rfl,rfl,hH,hy,q⟩:=h;cases rx;obtain⟨u,rfl,ru⟩:=rv.one;obtain⟨t,rfl⟩:=ru;obtain⟨z,its,n,r,hl,e⟩:=I.lstM hH;have hi:IntsAre its ns:=pz r;have at_:∀(m:Nat) (O:m<its.toArray.size),∃t',its.toArray[m]=Value.int (ns.getD m 0) t':=λm O=>by
  have G:m<ns.length:=by rw[Qf,<-hl,Q0]at O;exact O
  obtain⟨w,hw,Y⟩:=r.get (i:=m) (x:= .int (ns.getD m 0)) (by rw[Qn,Q3 G,Qm,Q3 G];rfl);obtain⟨t',rfl⟩:=Y;refine⟨t',?_⟩;have:=(Q2.mp hw).2;simpa using this
 have hx:ns.idxOf y<ns.length:=List.idxOf_lt_length_of_mem hy;have ga:∀m,m<ns.length->ns.getD m 0=ns[m]!:=λm O=>by simp[O]
 refine call_meets F.slot_list_remove ⟨_,e,rfl⟩ F.entry_list_remove (F.args_list_remove_2 _ _) (MeetsSeq.list_remove l its.toArray n (.int y t) (λv=>match v with| .int i _=>i==y|_=>false) (λv hv=>?_) (ns.idxOf y) (by rw[Qf,<-hl,Q0];exact hx) ?_ (λm O lt=>?_) (by rw[Qf];lia)) ⟨e,?_⟩
 .obtain⟨m,O,Z⟩:=Array.getElem_of_mem hv;obtain⟨t',U⟩:=at_ m O
  rw[<-Z,U];exact MeetsSeq.EqGives.int _ _ _ _
 .obtain⟨t',U⟩:=at_ (ns.idxOf y) (by rw[Qf,<-hl,Q0];exact hx)
  rw[U];show(ns.getD (ns.idxOf y) 0==y)=true;rw[Qm,Q3 hx,Option.getD_some,List.getElem_idxOf hx];exact beq_self_eq_true y
 .obtain⟨t',U⟩:=at_ m O
  rw[U];show(ns.getD m 0==y)=false;have G:m<ns.length:=by lia
  rw[Qm,Q3 G,Option.getD_some];exact beq_eq_false_iff_ne.mpr (λw=>xo lt G w)
 .have ee:ns.erase y=ns.eraseIdx (ns.idxOf y):=(List.erase_eq_eraseIdx_of_idxOf rfl);have Z:(ns.eraseIdx (ns.idxOf y)).map V.int=(ns.map V.int).eraseIdx (ns.idxOf y):=xD _ _;rw[ee,Z]at q;refine⟨.non,_,I.lset (its':=its.eraseIdx (ns.idxOf y)) hH e ?_ (r.eraseIdx (ns.idxOf y)) ?_,rfl,q⟩
  .show its.toArray.eraseIdxIfInBounds (ns.idxOf y)=(its.eraseIdx (ns.idxOf y)).toArray;rw[XM]
  .have:=rL (ns.map V.int) (ns.idxOf y);lia
end
end
section
section
theorem vp:fh X (.type "dict") (λxs H Q=>∃d kvs,xs=[.ref d]/\H d=some (.dK kvs)/\∀p,H p=none->Q (.ref p) (upd H p (.dK kvs))):=by
 intro pins s σ H xs us Q I r h;obtain⟨d,kvs,rfl,hd,q⟩:=h;obtain⟨u,rfl,O⟩:=jI r;cases O;obtain⟨z,lo,vs,G,dd⟩:=jP I.hok hd;refine kt_call_dict lo dd (by rw[<-G.length];exact z) λh' U hs=>?_;obtain⟨_,Y,_⟩:=vj (P:=X.prog) (w:=X.w) (H:=H) s.heap I.big;refine⟨.ref s.heap.objs.size,_,I.laid (a:=s.heap.objs.size) (o:= .dK kvs) (t':=s.toks) (λb o e=>(hs.2 b (QC (Heap.lt_size e))).trans (Heap.get?_push_of_some _ e)) (Q4 _) ⟨z,Y,vs,G,U⟩,rfl,q _ (I.hok.fresh (Q4 _))⟩
end
end
section
section
inductive G3 (x:V) (vs:List V) (H:Hp) (Q:VK):Prop
 |mk (a kvs k y:_) (_:x= .ref a) (_:vs=[kV k,y]) (_:H a=some (.dK kvs)) (_:kvs.length<sizeLine) (_:(∀v,aP kvs k=some v->Q v H)) (_:(aP kvs k=none->Q y (upd H a (.dK (bz kvs k y)))))
theorem Dg:MtR X "dict.setdefault" G3:=by
 intro pins s σ H x vs v us Q I rx rv h;obtain⟨a,kvs,k,y,rfl,rfl,Y,hl,q1,q2⟩:=h;cases rx;obtain⟨u,r,rfl,ru,Z⟩:=tW rv;obtain⟨z,hd,ws,O,dd⟩:=jP I.hok Y;have G:=O.val k;refine call_meetsIn XW dd.typeIs PySem.F.entry_dict_setdefault (PySem.F.args_dict_setdefault_3 _ _ _) (kt_meets_setdefault (a8 X.prog X.w) a (ss ru) hd r) ⟨ws,dd,by rw[<-O.length];exact z,λv hv=>?_,λhn h' U hs=>?_⟩
 .rw[hv]at G;cases e:aP kvs k with
  |none=>rw[e]at G;exact G.elim
  |some x=>
   rw[e]at G;exact⟨x,H,I.tok _,G,q1 x e⟩
 .rw[hn]at G;cases e:aP kvs k with
  |some x=>rw[e]at G;exact G.elim
  |none=>
   have he:∃q,h'.get? a=some q:=let⟨q,_,_,hq,_⟩:=U;⟨q,hq⟩
   have lp:=cn kvs k y;exact⟨y,_,qo I (by rw[Y];exact True.intro) hs he (yN (by lia) hd (O.put k Z) U),Z,q2 e⟩
end
end
section
section
def rH (kvs more:List (Key×V)):List (Key×V):=more.foldl (λacc p=>bz acc p.1 p.2) kvs
theorem KV.mrg {more:List (Key×V)} {z:List (Key×Value)} (h:KV more z):∀{kvs:List (Key×V)} {G:List (Key×Value)},KV kvs G->KV (rH kvs more) (merged G z):=by
 induction h with
 |nil=>intro kvs G r;exact r
 |cons r t I=>
  rename_i p q ps qs
  intro kvs G rw;have e:p.1=q.1:=r.1;have:=I (rw.put p.1 r.2);rw[e]at this;show KV (rH (bz kvs p.1 p.2) ps) _;rw[e];exact this
theorem uW:∀{more kvs:List (Key×V)},(rH kvs more).length<=kvs.length+more.length
 | [],_=>Q4 _
 |p::r,kvs=>by
  have h1:=uW (more:=r) (kvs:=bz kvs p.1 p.2);have h2:=cn kvs p.1 p.2;show(rH (bz kvs p.1 p.2) r).length<=_;rw[Qp];lia
inductive rUpd (x:V) (vs:List V) (H:Hp) (Q:VK):Prop
 |mk (d o kvs more:_) (_:x= .ref d) (_:vs=[.ref o]) (_:d≠o) (_:H d=some (.dK kvs)) (_:H o=some (.dK more)) (_:kvs.length+more.length<=sizeLine) (_:Q .non (upd H d (.dK (rH kvs more))))
theorem Df:MtR X "dict.update" rUpd:=by
 intro pins s σ H x vs v us Q I rx rv h;obtain⟨d,o,kvs,more,rfl,rfl,ne,hd,ho,hl,q⟩:=h;cases rx;obtain⟨u,rfl,ru⟩:=jI rv;cases ru;obtain⟨z,lo,ws,O,dd⟩:=jP I.hok hd;obtain⟨z2,Y,Z,G,a0⟩:=jP I.hok ho;refine call_meetsIn PySem.F.slot_dict_update dd.typeIs PySem.F.entry_dict_update (PySem.F.args_dict_update_2 _ _) (meets_dict_update (a8 X.prog X.w) d o ne Y) ⟨ws,Z,dd,a0,by rw[<-O.length,<-G.length];exact hl,λh' U _ hs=>?_⟩;have he:∃q,h'.get? d=some q:=let⟨q,_,_,hq,_⟩:=U;⟨q,hq⟩
 exact⟨.non,_,qo I (by rw[hd];exact True.intro) hs he (yN (QD uW hl) lo (G.mrg O) U),rfl,q⟩
end
end
end L2
namespace PySem
open PySem.Spec
variable {E:Value->Shared->Prop}
section
variable {prog:Program} {w:World} {A:Around} {s:Shared}
theorem FI:typeLookup (.type "list") "keys"=pure none:=am_miss_of_fast (by decide+kernel)
theorem FK {a:Addr} {o:Obj} {xs:Array Value} {k:Nat} {Q:Option Value->Shared->Prop} (hx:s.heap.get? a=some o) (hc:o.cls= .type "list") (z:o.data= .seq xs k) (hd:o.dict=none) (U:A.handled=none)
  (h:∀h' I,(∀b ob,s.heap.get? b=some ob->h'.get? b=some ob)->Q none {s with heap:=h',toks:=I}):
  wpAny (model prog w) A (getAttr? (.ref a) "keys") Q E s:=by
 obtain⟨c,Y,Z,sl⟩:=o;simp only at hc z hd;subst hc z hd;obtain⟨hp,g,d,I,os⟩:=s;have O:∀G,(⟨hp,g,d,G,os⟩:Shared).TypeIs (.ref a) "list":=λ_=>⟨_,hx,rfl⟩;have f1:=sub_AttributeError;have f3:=F.slot_list_getattribute.lookup;have f4:=F.slot_list_getattribute.bind (.ref a);have f5:=am_list_getattr_none;unfold getAttr? getAttrBy? getAttrBy
 repeat (any_goals (first|assumption|exact O _|((with_reducible show wpAny _ _ (call (Value.builtin "list.__getattribute__") _ _) _ _ _);refine call_meets F.slot_list_getattribute (O _) am_entry_list_getattribute (F.args_list_getattribute_2 _ _) (meets_getattribute_miss_list a xs k sl "keys" _ FI (by decide+kernel)) ⟨hx,U,λh' G e hx'=>?_⟩)|wp_step))
 obtain⟨t',u',he⟩:=hx'.there;show wpAny _ _ (getattributeRaised _ _ _ _ _ _ _) _ _ _;unfold getattributeRaised
 repeat (any_goals (first|assumption|wp_step))
 exact h _ _ hx'.keeps
end
end PySem
namespace PySem
open PySem.Spec
namespace F
theorem entry_dict_update_loop:entryFor table "dict.update.loop"=some Builtin.«dict.update.loop»:=entryFor_of_tree (by kernel_rfl)
theorem plain_dict_update_loop:plainId "dict.update.loop"=true:=by decide+kernel
end F
section
variable {prog:Program} {w:World} {K:Type} [DecidableEq K] {knd:KeyKind prog w K} {A:Around} {R:Result->Shared->Prop} {s:Shared}
theorem FH {E:Value->Shared->Prop} {p:Addr} {k v:Value} {Q:List Value->Shared->Prop} (z:s.heap.IsTuple p #[k,v]) (h:Q [k,v] s):wpAny (model prog w) A (Builtin.Dict.pairItems (.ref p)) Q E s:=by
 obtain⟨o,G,hc,n,hd⟩:=z;have I:s.TypeIs (.ref p) "tuple":=⟨_,G,hc⟩;unfold Builtin.Dict.pairItems;refine wpAny_bind (wpAny_typeOf I ?_);have e:((Value.type "tuple"==Value.type "list")||(Value.type "tuple"==Value.type "tuple"))=true:=by decide
 rw[if_pos e];obtain⟨z,g,d,Y,os⟩:=s;obtain⟨c,O,U,Z⟩:=o;simp only at hc hd;subst hc hd
 repeat (any_goals (first|assumption|wp_step))
theorem FJ {I ax D:Addr} {items:Array Value} {ps:List (K×Value)} {h₀:Heap} (hh:A.handled=none) (a1:ax≠I) (G:D≠I) (a2:D≠ax) (n0:h₀.get? D=none) (n1:h₀.get? I=none) (hl:ps.length<=sizeLine)
  (hi:∀(j:Nat) (v:Value),items[j]?=some v->∃p k key x,v= .ref p/\ps[j]?=some (k,x)/\knd.is k key=true/\h₀.IsTuple p #[key,x]) (hs:ps.length=items.size):
  ∀(n i:Nat) (s:Shared),items.size-i=n->i<=items.size->s.heap.IsListIter I ax i->s.heap.IsList ax items->(∀b o,h₀.get? b=some o->s.heap.get? b=some o)->s.heap.DictOf knd D (merged [] (ps.take i))->
   (∀h' tk,(∀b o,h₀.get? b=some o->h'.get? b=some o)->h'.DictOf knd D (merged [] ps)->R (.ok (.ret .none)) {s with heap:=h',toks:=tk})->
   codeAny (model prog w) A (.builtin "dict.update.loop" ⟨[.ref D,.ref I,rawInt i,.none],[]⟩) R s:=by
 intro n
 induction n with
 |zero=>
  intro i s hn hi' it il kp dd hR;have e:i=items.size:=by lia
  subst e;refine codeAny_builtin F.entry_dict_update_loop ?_;rw[Around.under_plainId F.plain_dict_update_loop _];show wpAny _ A.in1 (pyNext (.ref I)>>=_) _ _ s;have a3:A.in1.handled=none:=by simp[hh]
  refine wpAny_bind (wpAny_pyNext_list_end a3 it il (by simp) λh' Y=>?_);show wpAny _ A.in1 (Builtin.Dict.addKeywords D []>>=_) _ _ _;refine wpAny_bind (wpAny_pure (wpAny_pure ?_));rw[Qt (Zq hs)]at dd;refine hR h' s.toks (λb o e=>Y b o (λz=>by rw[z,n1]at e;cases e) (kp b o e)) ?_;exact dd.at λo e=>Y D o G e
 |succ n ih=>
  intro i s hn hi' it il kp dd hR;have O:i<items.size:=by lia
  refine codeAny_builtin F.entry_dict_update_loop ?_;rw[Around.under_plainId F.plain_dict_update_loop _];show wpAny _ A.in1 (pyNext (.ref I)>>=_) _ _ s;refine wpAny_bind (wpAny_pyNext_list_item it il (x:=items[i]) (by simp[O]) λh' Z U=>?_);obtain⟨p,k,key,x,ev,ep,hk,tp⟩:=hi i items[i] (by simp[O]);rw[ev];have a0:∀b o,h₀.get? b=some o->h'.get? b=some o:=λb o e=>U.extBut b o (λz=>by rw[z,n1]at e;cases e) (kp b o e);have a4:h'.IsTuple p #[key,x]:=tp.at λo e=>a0 p o e;show wpAny _ A.in1 (holding [Value.ref p] _>>=_) _ _ _;refine wpAny_bind (wpAny_holding (wpAny_bind (wpAny_tryCatch (FH a4 ?_))));show wpAny _ _ (holding [key,x] (dictSet D key x)) _ _ _;refine wpAny_holding (wpAny_dictSet_pairs hk (kvs:=merged [] (ps.take i)) ?_ (λh2 d2 s2=>?_) ?_)
  .exact dd.at λo e=>U.extBut D o G e
  .refine wpAny_pure ⟨plainId_quiet F.plain_dict_update_loop _,ih (i+1) _ (by lia) O ?_ ?_ ?_ ?_ λh3 tk k3 d3=>hR h3 tk k3 d3⟩
   .exact Z.at λo e=>(s2.2 I (Ne.symm G)).trans e
   .exact(il.at λo e=>U.extBut ax o a1 e).at λo e=>(s2.2 ax (Ne.symm a2)).trans e
   .exact λb o e=>(s2.2 b (λz=>by rw[z,n0]at e;cases e)).trans (a0 b o e)
   .rw[merged_take_succ _ _ _ _ ep];exact d2
  .have:=merged_length_le [] (ps.take i);rw[Q8]at this;simp only[ZZ]at this;lia
end
end PySem
namespace PySem
open PySem.Spec
variable {E Q:Value->Shared->Prop}
section
variable {prog:Program} {w:World} {K:Type} [DecidableEq K] {knd:KeyKind prog w K} {A:Around} {s:Shared}
theorem FL {l:Addr} {items:Array Value} {ps:List (K×Value)} (Y:A.handled=none) (hl:PlainL s.heap l items) (hsz:ps.length<=sizeLine)
  (hi:∀(j:Nat) (v:Value),items[j]?=some v->∃p k key x,v= .ref p/\ps[j]?=some (k,x)/\knd.is k key=true/\s.heap.IsTuple p #[key,x]) (hs:ps.length=items.size)
  (h:∀h' U,h'.DictOf knd s.heap.objs.size (merged [] ps)->(∀b o,s.heap.get? b=some o->h'.get? b=some o)->Q (.ref s.heap.objs.size) {s with heap:=h',toks:=U}):
  wpAny (model prog w) A (call (.type "dict") [.ref l]) Q E s:=by
 refine callType_codes (Q₁:=λobj s₁=>obj= .ref s.heap.objs.size/\s₁={s with heap:=s.heap.push {cls:= .type "dict",data:= .dict #[]}}) F.kt_called_dict (F.kt_typeCall_dict_1 _) F.entry_dict_init (kt_code_dict_new _ ⟨rfl,rfl⟩) ?_;rintro obj s₁ ⟨rfl,rfl⟩;have z:(s.heap.push {cls:= .type "dict",data:= .dict #[]}).DictOf knd s.heap.objs.size []:=Heap.DictOf.new s.heap;obtain⟨o,n,Z,hc,hd,I⟩:=hl;have G:(s.heap.push {cls:= .type "dict",data:= .dict #[]}).get? l=some o:=Heap.get?_push_of_some _ Z;have lD:l<s.heap.objs.size:=Heap.lt_size Z;refine⟨z.typeIs,F.args_dict_init_2 _ _,?_⟩;unfold Builtin.«dict.__init__»;refine wpAny_bind ?_;unfold Builtin.Dict.selfAndRest;refine wpAny_bind (wpAny_notOrdered_dict z.typeIs ?_);show wpAny _ _ (pure (s.heap.objs.size,[Value.ref l])) _ _ _;refine wpAny_pure ?_;show wpAny _ _ (Builtin.Dict.updateFrom "dict.__init__" s.heap.objs.size (.ref l) [] .none) _ _ _;unfold Builtin.Dict.updateFrom;refine wpAny_bind (wpAny_typeOf (show Shared.TypeIs _ (.ref l) "list" from⟨_,G,hc⟩) ?_);rw[if_pos (by decide)];refine wpAny_bind (FK G hc I hd Y λh1 a0 O=>?_);simp only[Option.isNone_none,if_true];refine wpAny_bind (wpAny_rule ?_);have l1:h1.IsList l items:=⟨_,O _ _ G,hc,n,I⟩;refine wpAny_bind (wpAny_pyIter_list l1 ?_);have D1:h1.DictOf knd s.heap.objs.size []:=z.at λo e=>O _ _ e;have sl:l<h1.objs.size:=Heap.lt_size (O _ _ G);have sD:s.heap.objs.size<h1.objs.size:=by obtain⟨o',_,_,e,_⟩:=D1;exact Heap.lt_size e
 refine wpAny_pure ⟨by first|rfl|exact plainId_quiet F.plain_dict_update_loop _,?_⟩;refine FJ (knd:=knd) (h₀:=s.heap) (ax:=l) (by simp[Y]) (QC sl) (QC sD) (XA lD) (Heap.get?_none_of_le (Q4 _)) (Heap.get?_none_of_le (Zp sD)) hsz hi hs _ 0 _ rfl (Qj _) ?_ ?_ ?_ ?_ ?_
 .exact⟨_,Heap.get?_push_size _ rfl,rfl,rfl⟩
 .exact l1.push _
 .exact λb o e=>Heap.get?_push_of_some _ (O _ _ (Heap.get?_push_of_some _ e))
 .exact D1.push _
 .exact λh' U kp dd=>⟨rfl,h h' U dd kp⟩
end
end PySem
namespace L2
open PySem PySem.Spec PyProof.Rows
variable {d:Addr} {X:Cx} {tg:Expr} {H:Hp} {hi lo st:Int} {R:It->Hp->Prop} {pins:List (Addr×Obj)} {kvs:List (Key×V)} {vs:List (Key×Value)} {ob:Obj} {P:Program} {K:PySem.W.Frag} {s:Shared} {σ:St} {nx:St->Hp->Prop} {g:TG} {tb:TS} {rt:VK} {E:Value->Shared->Prop} {w:World}
section
section
theorem Ac (I:Inv X pins σ H s):∀{ts:List (Addr×Key×V)} {us:List Value},Vals (ts.map λe=>V.ref e.1) us->(∀e∈ts,SqT X.K H e.1 [kV e.2.1,e.2.2])->∃ps:List (Key×Value),KV (ts.map (·.2)) ps/\∀(j:Nat) (v:Value),us[j]?=some v->∃p k key x,v= .ref p/\ps[j]?=some (k,x)/\(a8 X.prog X.w).is k key=true/\s.heap.IsTuple p #[key,x]
 | [],_,.nil,_=>⟨[],.nil,λj v h=>by cases j<;>cases h⟩
 |e::r,_,.cons h1 h2,tu=>by
  obtain⟨ps,kv,g⟩:=Ac I h2 λy hy=>tu y (Qd _ hy);cases h1;obtain⟨its,rv,z,_⟩:=I.tuple (tu e Q9);obtain⟨a,b,rfl,ra,rb⟩:=IT rv;refine⟨(e.2.1,b)::ps,.cons ⟨rfl,rb⟩ kv,λj v h=>?_⟩;cases j with
  |zero=>cases h;exact⟨_,_,_,_,rfl,rfl,ss ra,z⟩
  |succ j=>exact g j v h
theorem vo (G:X.A.handled=none):fh X (.type "dict") (λxs H Q=>∃(a:Addr) (ts:List (Addr×Key×V)),xs=[.ref a]/\SqL X.K H a (ts.map λe=>V.ref e.1)/\(∀e∈ts,SqT X.K H e.1 [kV e.2.1,e.2.2])/\∀p,H p=none->Q (.ref p) (upd H p (.dK (rH [] (ts.map (·.2)))))):=by
 intro pins s σ H xs us Q I r h;obtain⟨a,ts,rfl,hl,O,q⟩:=h;obtain⟨u,rfl,U⟩:=jI r;cases U;obtain⟨its,rv,pl,z⟩:=I.list hl;obtain⟨ps,kv,g⟩:=Ac I rv O;have l1:ts.length=ps.length:=by have:=kv.length;rwa [Q0]at this
 have l2:ts.length=its.length:=by have:=rv.length;rwa [Q0]at this
 rw[Q0]at z;refine FL (knd:=a8 X.prog X.w) (ps:=ps) G pl (by lia) (λj v e=>g j v (by simpa using e)) (by rw[Qf];lia) λh' Y dd Z=>?_;obtain⟨_,nm,_⟩:=vj (P:=X.prog) (w:=X.w) (H:=H) s.heap I.big;have zz:(rH [] (ts.map (·.2))).length<=sizeLine:=by
  have:=uW (kvs:=[]) (more:=ts.map (·.2));rw[Q0]at this;simp only[ZZ]at this;lia
 refine⟨.ref s.heap.objs.size,_,I.laid (a:=s.heap.objs.size) (o:= .dK (rH [] (ts.map (·.2)))) (t':=Y) Z (Q4 _) ⟨zz,nm,_,kv.mrg .nil,dd⟩,rfl,q _ (I.hok.fresh (Q4 _))⟩
theorem Cu {A:Around} {I:List (Key×V)} {z:List (Key×Value)} (rb:KV I z):∀{ka:List (Key×V)} {O:List (Key×Value)},KV ka O->(∀p∈ka,Fl p.2/\aP I p.1=some p.2)->PySem.W.KeqHits A s z O true
 | [],_,.nil,_=> .nil
 |(k,v)::r,(k',u)::wr,.cons h1 h2,g=>by
  obtain⟨f,e⟩:=g (k,v) Q9;obtain⟨G,rv⟩:=h1;have G:k=k':=G;subst G;obtain⟨y,hy,U⟩:=RelO.some_of (v:=v) (o:=valueAt z k) (by rw[<-e];exact rb.val k);exact .hit (e:=true) (b:=true) hy (yM f rv U) (Cu rb h2 λq hq=>g q (Qd _ hq))
inductive KH (x y:V) (H:Hp) (Q:VK):Prop
 |mk (a b:Addr) (ka kb:List (Key×V)) (_:x= .ref a) (_:y= .ref b) (_:H a=some (.dK ka)) (_:H b=some (.dK kb)) (_:ka.length=kb.length) (_:(∀p∈ka,Fl p.2/\aP kb p.1=some p.2)) (_:Q (.bl false) H)
theorem Hc (hu:X.A.units+20<cLine):OpR X (compareOp .NotEq) KH:=by
 intro pins s σ H x y v u Q I rx ry h;obtain⟨a,b,ka,kb,rfl,rfl,ha,hb,l,g,q⟩:=h;cases rx;cases ry;obtain⟨z,lo,vs,O,dd⟩:=jP I.hok ha;obtain⟨z2,U,Z,G,Y⟩:=jP I.hok hb;have l1:ka.length=vs.length:=O.length;have l2:kb.length=Z.length:=G.length;have hl:vs.length=Z.length:=by lia
 refine PySem.W.keq_ne (r:=true) lo U dd Y (by lia) (λe=>Cu G O g) ⟨.bl false,H,I,?_,q⟩;show Value.bool _=Value.bool _;simp[hl]
end
end
section
section
inductive rNeE (x y:V) (H:Hp) (Q:VK):Prop
 |mk (a b:Addr) (kvs:List (Key×V)) (_:x= .ref a) (_:y= .ref b) (_:Rd H a (.dK kvs)) (_:Rd H b (.dK [])) (_:Q (.bl (!decide (kvs.length=0))) H)
theorem EO (hu:X.A.units+20<cLine):OpR X (compareOp .NotEq) rNeE:=by
 intro pins s σ H x y v u Q I rx ry h;obtain⟨a,b,kvs,rfl,rfl,ha,hb,q⟩:=h;cases rx;cases ry;obtain⟨z,lo,vs,U,dd⟩:=ou I.hok ha;obtain⟨z2,Y,ws,G,Z⟩:=ou I.hok hb;cases G;have O:kvs.length=vs.length:=U.length;refine PySem.W.keq_ne (r:=true) lo Y dd Z (by lia) (λe=>?_) ⟨.bl (!decide (kvs.length=0)),H,I,?_,q⟩
 .have:vs=[]:=Xd.mp e;rw[this];exact .nil
 .show Value.bool _=Value.bool _;rw[O];congr 1;cases vs<;>simp
end
end
section
def vwV (a d:Addr):HO:= .ext λh=>h.IsValuesView a d
def Itw (ob:Obj) (d:Addr) (kvs:List (Key×V)):It:=
 ⟨λi H=>H d=some (.frz ob (.dK kvs))/\i<kvs.length,λi H x H'=>H'=H/\∃k,kvs[i]?=some (k,x),λi H=>H d=some (.frz ob (.dK kvs))/\kvs.length<=i⟩
theorem CL {ep:Nat} (it:Addr) (D:DObj P w ob d kvs vs ep):
  BM P w K tg (Itw ob d kvs) [it] it (λi h=>h.IsValIter it d i vs.length ep) where
 mem:=by simp
 obj:=λi h st b hb=>by
  have z:b=it:=by simpa using hb
  subst z;obtain⟨o,e,c,dd⟩:=st;exact⟨o,e,λv z=>by rw[dd]at z;cases z⟩
 keep:=λi h h' st k=>by
  obtain⟨o,e,r⟩:=st;exact⟨o,k it (by simp) _ e,r⟩
 item:=by
  intro X U hw hK hc i pins s σ H E I hf st Y;subst U hw hK;obtain⟨hq,hi⟩:=Y;obtain⟨Z,f1,f2,f3,f4,f5⟩:=hf it (by simp);obtain⟨G,_⟩:=I.hok d _ hq;have O:=D.2 s.heap G;obtain⟨⟨k,v⟩,hx⟩:∃kv,kvs[i]?=some kv:=⟨kvs[i],by simp[hi]⟩;obtain⟨u,hu,ru⟩:=KV.getI D.1 hx;refine wpAny_pyNext_values_item st O hu λh' st' sb=>?_;have I1:Inv X pins σ H {s with heap:=h'}:=I.turned (t':=s.toks) (λb o hb e=>(sb.2 b hb).trans e) Z f1 f3 f4 f5;obtain⟨o,e,c,dd⟩:=id st';exact⟨u,rfl,z6 (s:={s with heap:=h'}) e c dd (by decide) ⟨v,H,I1,ru,⟨rfl,k,hx⟩,st',λb hb=>(hf b hb).1⟩⟩
 done:=by
  intro X U hw hK hc i pins s σ H E I hf st Y;subst U hw hK;obtain⟨hq,hi⟩:=Y;obtain⟨G,_⟩:=I.hok d _ hq;have O:=D.2 s.heap G;obtain⟨Z,f1,f2,f3,f4,f5⟩:=hf it (by simp);have hl:kvs.length=vs.length:=D.1.length;exact wpAny_pyNext_values_end (I.ok.hd hc) st O (by simp;lia) λh' eb=>⟨rfl,I.turned (t':=s.toks) (λb o hb e=>eb b o hb e) Z f1 f3 f4 f5⟩
 self:=λ_ _ _ _ _ st h=>wpAny_pyIter_valiter st h
section
inductive KF (x:V) (vs:List V) (H:Hp) (Q:VK):Prop
 |mk (d kvs:_) (_:x= .ref d) (_:vs=[]) (_:H d=some (.dK kvs)) (_:∀a,H a=none->Q (.ref a) (upd H a (vwV a d)))
theorem xp:MtR X "dict.values" KF:=by
 intro pins s σ H x vs v us Q I G rv h;obtain⟨d,kvs,rfl,rfl,hd,q⟩:=h;cases G;cases rv;obtain⟨z,lo,O,U,dd⟩:=jP I.hok hd;refine call_meetsIn Xa dd.typeIs PySem.F.entry_dict_values (PySem.F.args_dict_values_1 _) (meets_dict_values (a8 X.prog X.w) d lo) ⟨⟨O,dd⟩,?_⟩;have new:(s.heap.push {cls:= .type "dict_values",data:= .fields #[.ref d]}).get? s.heap.objs.size=some {cls:= .type "dict_values",data:= .fields #[.ref d]}:=Heap.get?_push_size _ rfl;refine⟨.ref s.heap.objs.size,_,I.laid (t':=s.toks) (λb o e=>Heap.get?_push_of_some _ e) (Q4 _) (show ObjOk X.prog X.w _ _ _ (vwV s.heap.objs.size d) from⟨⟨_,new,rfl,rfl⟩,⟨_,new⟩,λh1 h2 p k=>?_⟩),rfl,q _ (I.hok.fresh (Q4 _))⟩;obtain⟨o,e,c⟩:=p;exact⟨o,k o e,c⟩
def KY (te:TE):TI:=λσ H R=>te σ H λx H1=>∃a d kvs,x= .ref a/\H1 a=some (vwV a d)/\H1 d=some (.dK kvs)/\∀ob,R (Itw ob d kvs) (upd H1 d (.frz ob (.dK kvs)))
theorem Ha {l:Expr} {te:TE} (hl:PE X l te):PI X tg l (KY te):=by
 intro pins s σ H R I h;refine thn (hl pins s σ H _ I h) λv s1 O=>?_;obtain⟨x,H1,U,r1,q1⟩:=O;obtain⟨a,d,kvs,e,ha,hd,q⟩:=q1;subst e;cases r1;obtain⟨z,lo,vs,Y,dd⟩:=jP U.hok hd;obtain⟨ep,G⟩:=dd.dictAt;obtain⟨vw,_,_⟩:=(show ObjOk X.prog X.w H1 s1.heap a (vwV a d) from U.hok a _ ha);obtain⟨ob,es,Z,rest⟩:=id G;refine wpAny_pyIter_values vw G ?_;have If:=U.freeze hd Z;refine⟨s1.heap.objs.size,[s1.heap.objs.size],_,_,_,rfl,If.kept (t':=s1.toks) λb o e=>Heap.get?_push_of_some _ e,CL _ ⟨Y,λh e=>⟨ob,es,e,rest⟩⟩,⟨_,Heap.get?_push_size _ rfl,rfl,rfl⟩,λb hb=>?_,q ob⟩;have e:b=s1.heap.objs.size:=by simpa using hb
 subst e;exact If.fpOk (Q4 _) (If.hok.fresh (Q4 _))
end
theorem FA (Pv:Nat->St->Hp->Prop) (O:Pv 0 σ H) (hl:∀i σ H,i<=kvs.length->Pv i σ H->H d=some (.frz ob (.dK kvs)))
  (hs:∀i k v σ H,kvs[i]?=some (k,v)->Pv i σ H->g v σ H λG H2=>tb ⟨Pv (i+1),rt,nx,Pv (i+1)⟩ G H2) (hd:∀σ H,Pv kvs.length σ H->nx σ H):
  ∃W:Nat->Nat->St->Hp->Prop,(∃m,W 0 m σ H)/\∀i m σ H,W i m σ H->
   ((Itw ob d kvs).stop i H/\nx σ H)\/((Itw ob d kvs).go i H/\∃N:St->Hp->Prop,(∀I H',N I H'->∃m',m'<m/\W (i+1) m' I H')/\∀x H',(Itw ob d kvs).yld i H x H'->g x σ H' λG H2=>tb ⟨N,rt,nx,N⟩ G H2):=by
 refine⟨λi m σ H=>m=kvs.length-i/\i<=kvs.length/\Pv i σ H,⟨kvs.length,by simp,Qj _,O⟩,?_⟩;rintro i m σ H ⟨rfl,hi,p⟩;have q:=hl i σ H hi p;by_cases lt:i<kvs.length
 .refine .inr ⟨⟨q,lt⟩,Pv (i+1),λI H' z=>⟨kvs.length-(i+1),by lia,rfl,lt,z⟩,λx H' y=>?_⟩;obtain⟨rfl,k,e⟩:=y;exact hs i k x σ _ e p
 .have e:i=kvs.length:=by lia
  subst e;exact .inl ⟨⟨q,Q4 _⟩,hd σ H p⟩
end
section
section
theorem BU:∀{kvs:List (Key×V)} {vs:List (Key×Value)} {ns:List Int},KV kvs vs->kvs.map (·.2)=ns.map V.int->∀(i:Nat) (k:Key) (v:Value),vs[i]?=some (k,v)->∃t:Tok,v= .int (ns.getD i 0) t
 | [],_,_,.nil,_,i,k,v,h=>by cases i<;>cases h
 |p::r,_,ns,.cons h1 h2,e,i,k,v,h=>by
  cases ns with
  |nil=>cases e
  |cons n ns=>
   obtain⟨z,e2⟩:=List.cons.inj e;cases i with
   |zero=>
    cases h;have z:p.2= .int n:=z;have:=h1.2;rw[z]at this;exact this
   |succ i=>exact BU h2 e2 i k v h
theorem Eu:∀ns:List Int,preSum (λi=>ns.getD i 0) ns.length=ns.sum
 | []=>rfl
 |n::r=>by
  rw[Qp,PySem.W.kdu_shift,List.sum_cons,<-Eu r];rfl
theorem DG (hh:X.A.handled=none):fh X (.builtin "sum") (λxs H Q=>∃(a d:Addr) (kvs:List (Key×V)) (ns:List Int),xs=[.ref a]/\H a=some (vwV a d)/\H d=some (.dK kvs)/\kvs.map (·.2)=ns.map V.int/\Q (.int ns.sum) H):=by
 intro pins s σ H xs us Q I r h;obtain⟨a,d,kvs,ns,rfl,ha,hd,G,q⟩:=h;obtain⟨u,rfl,ru⟩:=jI r;cases ru;obtain⟨z,lo,vs,O,dd⟩:=jP I.hok hd;obtain⟨ep,U⟩:=dd.dictAt;obtain⟨vw,_,_⟩:=(show ObjOk X.prog X.w H s.heap a (vwV a d) from I.hok a _ ha);have S:=PySem.W.kdl_values (prog:=X.prog) (w:=X.w) (r:=a) (d:=d) (knd:=a8 X.prog X.w) (kvs:=vs) (ep:=ep);have ok:s.heap.IsValuesView a d/\s.heap.DictAt (a8 X.prog X.w) d vs ep:=⟨vw,U⟩;have l1:vs.length=ns.length:=by
  have h1:=O.length;have h2:=congrArg List.length G;rw[Q0,Q0]at h2;lia
 refine call_sum_walkAnyS ?_;obtain⟨oI,St,Y,W,st⟩:=S.iter X.A.in1 s hh ok;refine Y _ _ ⟨s.heap.objs.size,_,_,_,vs.length,_,_,(λi=>ns.getD i 0),rfl,W.toS,st,λb hb=>?_,λi v ⟨k,e⟩=>BU O G i k v e,λs' t' Z=>?_⟩
 .show b<(s.heap.push oI).objs.size;rw[size_push'];rcases Qg.mp hb with e|hb
  .rw[e];exact Zw _
  .rw[Q7.mp hb];exact XG (S.there _ ok).2
 .have hk:∀b o,s.heap.get? b=some o->s'.heap.get? b=some o:=λb o e=>
   Z.heap b o (λhI=>absurd (Heap.lt_size e) (by rw[Q7.mp hI];exact Zu _)) (Heap.get?_push_of_some _ e)
  rw[Moved.eq_with Z,l1,Eu];exact⟨.int _,H,I.kept (t':=s'.toks) hk,⟨t',rfl⟩,q⟩
end
end
section
end
section
def DP (lo st:Int) (n:Nat):It:=⟨λi _=>i<n,λi H x H'=>H'=H/\x= .int (lo+i*st),λi _=>n<=i⟩
theorem zi (it:Addr) (lo st:Int) (n:Nat):BM P w K tg (DP lo st n) [it] it (λi h=>IsRangeIter h it (lo+(i:Nat)*st) ((n:Int)-(i:Nat)) st) where
 mem:=by simp
 obj:=λi h G b hb=>by
  have e:b=it:=by simpa using hb
  subst e;exact⟨_,G,λv z=>by
   have z':Data.fields _=Data.cell v:=z;cases z'⟩
 keep:=λi h h' G k=>k it (by simp) _ G
 item:=by
  intro X O hw hK hc i pins s σ H E I hf G U;subst O hw hK;obtain⟨Y,Z,f2,f3,f4,f5⟩:=hf it (by simp);have W:=Walks.range (prog:=X.prog) (w:=X.w) (I.ok.hd hc) it lo st n;refine W.item i s _ _ U G λv h' tk hv st' kk=>?_;obtain⟨t,rfl⟩:=hv;have I1:Inv X pins σ H {s with heap:=h',toks:=tk}:=I.turned (λb o hb e=>kk b o (by simpa using hb) e) Y Z f3 f4 f5;exact⟨_,rfl,z6 (s:={s with heap:=h',toks:=tk}) (n:="range_iterator") st' rfl rfl (by decide) ⟨.int (lo+i*st),H,I1,⟨t,rfl⟩,⟨rfl,rfl⟩,st',λb hb=>(hf b hb).1⟩⟩
 done:=by
  intro X O hw hK hc i pins s σ H E I hf G U;subst O hw hK;obtain⟨Y,Z,f2,f3,f4,f5⟩:=hf it (by simp);exact wpAny_pyNext_range_end (I.ok.hd hc) G (by have:n<=i:=U;lia) λh' eb=>⟨rfl,I.turned (t':=s.toks) (λb o hb e=>eb b o hb e) Y Z f3 f4 f5⟩
 self:=λ_ _ _ _ _ G h=>wpAny_pyIter_rangeiter G h
def pF (lo hi st:Int):Nat:=(Builtin.Range.rangeSize lo hi st).toNat
theorem nY (h:0<st):Builtin.Range.rangeSize lo hi st=if lo<hi then(hi-lo-1)/st+1 else 0:=by
 unfold Builtin.Range.rangeSize;rw[if_pos h]
theorem yo (h:0<st) (z:0<=lo) (h1:0<=hi):0<=Builtin.Range.rangeSize lo hi st/\Builtin.Range.rangeSize lo hi st<=hi:=by
 rw[nY h];split
 .have a:0<=(hi-lo-1)/st:=XX (by lia) (by lia);have b:(hi-lo-1)/st<=hi-lo-1:=Int.ediv_le_self _ (by lia);lia
 .lia
section
theorem CU {t u v:Tok} {z:Nat} (I:Inv X pins σ H s) (h1:0<=lo) (h2:lo<2^30) (Z:0<=hi) (h4:hi<2^30) (Y:0<st) (h6:st<2^30)
  (q:R (DP lo st (pF lo hi st)) H):wpAny (model X.prog X.w) X.A (pyIter (.ref s.heap.objs.size)) (PIE X pins σ tg R) E {s with heap:=s.heap.push {cls:= .type "range",data:= .fields #[.int lo t,.int hi u,.int st v]},toks:=z}:=by
 have bd:=yo (lo:=lo) (hi:=hi) Y h1 Z;refine wpAny_pyIter_range (IsRange.new ..) ?_ ?_
 .unfold Builtin.Range.small;simp only[Builtin.Range.rangeFitsLong,QK,Bool.or_eq_true,decide_eq_true_eq,beq_iff_eq,Y,if_true];generalize Builtin.Range.rangeSize lo hi st=n at bd⊢;have G:(2:Int)^63=9223372036854775808:=by decide
  have O:(2:Int)^30=1073741824:=by decide
  rw[O]at h2 h4 h6
  try rw[G]
  lia
 have U:Inv X pins σ H {s with heap:=s.heap.push {cls:= .type "range",data:= .fields #[.int lo t,.int hi u,.int st v]},toks:=z}:=I.kept λb o e=>Heap.get?_push_of_some _ e;refine⟨(s.heap.push {cls:= .type "range",data:= .fields #[.int lo t,.int hi u,.int st v]}).objs.size,[(s.heap.push {cls:= .type "range",data:= .fields #[.int lo t,.int hi u,.int st v]}).objs.size],_,_,H,rfl,
  U.kept (t':=z) λb o e=>Heap.get?_push_of_some _ e,zi _ lo st (pF lo hi st),?_,λb hb=>?_,q⟩
 .have e1:lo+((0:Nat):Int)*st=lo:=by simp
  have e2:((pF lo hi st:Nat):Int)-((0:Nat):Int)=Builtin.Range.rangeSize lo hi st:=by unfold pF;lia
  show IsRangeIter _ _ (lo+((0:Nat):Int)*st) (((pF lo hi st:Nat):Int)-((0:Nat):Int)) st;rw[e1,e2];exact Heap.get?_push_size _ rfl
 .have e:b=(s.heap.push {cls:= .type "range",data:= .fields #[.int lo t,.int hi u,.int st v]}).objs.size:=by simpa using hb
  subst e;exact U.fpOk (Q4 _) (U.hok.fresh (Q4 _))
def KZ (ta:TA):TI:=λσ H R=>ta σ H λvs H1=>∃i j k:Int,vs=[.int i,.int j,.int k]/\(0<=i/\i<2^30/\0<=j/\j<2^30/\0<k/\k<2^30)/\R (DP i k (pF i j k)) H1
theorem CW {a b c:Expr} {ta:TA} {p pos:Pos} (Z:Gl X "range") (hm:X.mg "range"=none) (ha:PA X [a,b,c] ta) (hs:starEach [a,b,c] X.env=[(false,eval a X.env),(false,eval b X.env),(false,eval c X.env)]:=by rfl)
  (z:starEach [b,c] X.env=[(false,eval b X.env),(false,eval c X.env)]:=by rfl):PI X tg (.Call (.Name "range" p) [a,b,c] [] pos) (KZ ta):=by
 intro pins s σ H R I h;refine Call_ (rM I Z hm boot_range (PyProof.Rows.callWith_type1 (thn (ha pos pins s σ H _ I h) λus s1 O=>?_) (by rw[hs,z]) (by rw[z];rfl)));obtain⟨vs,H1,I1,r1,U⟩:=O;obtain⟨i,j,k,e,⟨U,q2,q3,q4,q5,q6⟩,q⟩:=U;subst e;cases r1 with
 |cons r G=>
  cases G with
  |cons r' G=>
   cases G with
   |cons Y G=>
    cases G;obtain⟨t,rfl⟩:=r;obtain⟨t',rfl⟩:=r';obtain⟨a0,rfl⟩:=Y;exact call_range_3 (by lia) (CU I1 U q2 q3 q4 q5 q6 q) (.inl (PyProof.noPylong_small (by lia)))
end
theorem z7 {n:Nat} (Pv:Nat->St->Hp->Prop) (O:Pv 0 σ H)
  (hs:∀i σ H,i<n->Pv i σ H->g (.int (lo+i*st)) σ H λz H2=>tb ⟨Pv (i+1),rt,nx,Pv (i+1)⟩ z H2) (hd:∀σ H,Pv n σ H->nx σ H):
  ∃W:Nat->Nat->St->Hp->Prop,(∃m,W 0 m σ H)/\∀i m σ H,W i m σ H->
   ((DP lo st n).stop i H/\nx σ H)\/((DP lo st n).go i H/\∃N:St->Hp->Prop,(∀G H',N G H'->∃m',m'<m/\W (i+1) m' G H')/\∀x H',(DP lo st n).yld i H x H'->g x σ H' λz H2=>tb ⟨N,rt,nx,N⟩ z H2):=by
 refine⟨λi m σ H=>m=n-i/\i<=n/\Pv i σ H,⟨n,by simp,Qj _,O⟩,?_⟩;rintro i m σ H ⟨rfl,hi,p⟩;by_cases I:i<n
 .refine .inr ⟨I,Pv (i+1),λG H' U=>⟨n-(i+1),by lia,rfl,I,U⟩,λx H' y=>?_⟩;obtain⟨e,y⟩:=y;subst e y;exact hs i σ _ I p
 .have e:i=n:=by lia
  subst e;exact .inl ⟨Q4 _,hd σ H p⟩
end
end L2
namespace L2
open PySem PySem.Spec PyProof.Rows Srt
section
variable {X:Cx}
def K3f (H:Hp) (a:Addr) (k:List Int):Prop:=∃i j m:Int,H a=some (.tup [.int i,.int j,.int m])/\k=[i,j,m]
theorem tY {x y z:V} {its:List Value} (r:Vals [x,y,z] its):∃u v w,its=[u,v,w]/\RelV x u/\RelV y v/\RelV z w:=by
 cases r with
 |cons r1 r=>
  obtain⟨v,w,rfl,h2,G⟩:=tW r;exact⟨_,v,w,rfl,r1,h2,G⟩
theorem wO:fh X (.builtin "sorted") (λvs H Q=>∃(p:Addr) (as:List Addr) (ky:Addr->List Int),vs=[.ref p]/\SqL X.K H p (as.map V.ref)/\(∀a∈as,K3f H a (ky a))/\
  ∀(l:Addr) (bs:List Addr),H l=none->bs.Perm as->bs.Pairwise (λa b=>HT.lexLt (ky b) (ky a)=false)->Q (.ref l) (upd H l (.lst (bs.map V.ref)))):=by
 intro pins s σ H xs us Q I r h;obtain⟨p,as,ky,rfl,hq,hk,q⟩:=h;obtain⟨u,rfl,ru⟩:=jI r;cases ru;obtain⟨its,rv,pl,hz⟩:=I.list hq;refine CP (κ:=tuples' (Value.type "int" !=Value.type "tuple")) (ky:=kRef ky) I hz rv pl.isList (λh' k h2 Q' G=>?_) (λh' k x y u v E' Q' hx hy rx ry G=>?_) λl ys hl pm pw=>?_
 .have tups:∀(bs:List Addr) (U:List Value),(∀a∈bs,K3f H a (ky a))->Vals (bs.map V.ref) U->∃fs:List Value,PySem.W.KatTups h' U fs/\(∀f∈fs,∃i t,f=Value.int i t)/\fs.length=U.length:=by
   intro bs
   induction bs with
   |nil=>intro U _ r;cases r;exact⟨[],.nil,λ_ h=>absurd h QT,rfl⟩
   |cons a bs ih=>
    intro U hk r;cases r with
    |cons r1 r2=>
     cases r1;obtain⟨fs,t,hi,hl⟩:=ih _ (λb hb=>hk b (Qd _ hb)) r2;obtain⟨i,j,m,ha,_⟩:=hk a Q9;obtain⟨o,Y,n,O,e,c,d⟩:=AR I ha k;obtain⟨u1,u2,u3,rfl,q1,q2,q3⟩:=tY O;obtain⟨Z,rfl⟩:=q1;refine⟨Value.int i Z::fs,.cons e c d rfl t,λf hf=>?_,by rw[Qp,Qp,hl]⟩;rcases Qg.mp hf with z|z
     .exact⟨i,Z,z⟩
     .exact hi f z
  obtain⟨fs,t,hi,hl⟩:=tups as its hk rv;refine PySem.W.kat_kind (T:= .type "int") t (by lia) (λv hv=>?_) (by decide+kernel) G;obtain⟨i,t,rfl⟩:=hi v hv;exact PySem.W.Looks.of_pure rfl
 .obtain⟨a,ha,rfl⟩:=Qh.mp hx;obtain⟨b,hb,rfl⟩:=Qh.mp hy;cases rx;cases ry;obtain⟨i,j,m,ea,ka⟩:=hk a ha;obtain⟨i',j',m',eb,kb⟩:=hk b hb;have G:Q' (HT.lexLt (ky a) (ky b)) {s with heap:=h'}:=G;rw[ka,kb,HT.lexLt_cons,HT.lexLt_cons,HT.lexLt_cons,HT.lexLt_nil_nil]at G;obtain⟨o,a2,n,a0,e1,c1,d1⟩:=AR I ea k;obtain⟨u1,u2,u3,rfl,⟨Z,rfl⟩,⟨t2,rfl⟩,⟨t5,rfl⟩⟩:=tY a0;obtain⟨o',Y,n',O,e2,c2,d2⟩:=AR I eb k;obtain⟨w1,w2,w3,rfl,⟨t3,rfl⟩,⟨t4,rfl⟩,⟨t6,rfl⟩⟩:=tY O;refine PySem.W.kat_lt e1 d1 e2 d2 (XN (SeqAt.EqAt.int_int _ _ _ _ _ _ _ _ (V2 (λe=>XY ?_) (λe=>V3 ?_))))
  .rw[if_pos (beq_iff_eq.mp e)]at G;refine XN (SeqAt.EqAt.int_int _ _ _ _ _ _ _ _ (V2 (λe=>XY ?_) (λe=>V3 ?_)))
   .rw[if_pos (beq_iff_eq.mp e)]at G;refine XN (SeqAt.EqAt.int_int _ _ _ _ _ _ _ _ (V2 (λe=>XY ?_) (λe=>V3 ?_)))
    .rw[if_pos (beq_iff_eq.mp e)]at G;exact PySem.W.kat_nil (by simpa using G)
    .rw[if_neg (beq_eq_false_iff_ne.mp e)]at G;exact PySem.W.kat_one _ _ (lt_int G)
   .rw[if_neg (beq_eq_false_iff_ne.mp e)]at G;exact PySem.W.kat_one _ _ (lt_int G)
  .rw[if_neg (beq_eq_false_iff_ne.mp e)]at G;exact oneLt_int G
 .obtain⟨bs,rfl,a1⟩:=CY pm;exact q l bs hl a1 (QO.mp pw)
end
end L2
namespace L2
open PySem PySem.Spec PyProof.Rows
variable {tg:Expr} {K:PySem.W.Frag}
section
end
section
def Itv (K:PySem.W.Frag) (a:Addr) (n:Nat):It:=
 ⟨λi H=>i<n/\∃xs x,SqL K H a xs/\xs[n-1-i]?=some x,λi H x H'=>H'=H/\∀xs,SqL K H a xs->xs[n-1-i]?=some x,λi _=>n<=i⟩
theorem El {P:Program} {w:World} (a it:Addr) (n:Nat):BM P w K tg (Itv K a n) [it] it (λi h=>i<=n/\h.IsRevIter it a ((n:Int)-1-(i:Int))) where
 mem:=by simp
 obj:=λi h st b hb=>by
  have e:b=it:=by simpa using hb
  subst e;obtain⟨_,o,e,c,d⟩:=st;exact⟨o,e,λv z=>by rw[d]at z;cases z⟩
 keep:=λi h h' st k=>⟨st.1,st.2.at λo e=>k it (by simp) o e⟩
 item:=by
  intro X O hw hK hc i pins s σ H E I hf st U;subst O hw hK;obtain⟨hi,xs,x,hq,hx⟩:=U;obtain⟨its,rv,p,hz⟩:=I.list hq;obtain⟨u,hu,ru⟩:=rv.get hx;obtain⟨Y,Z,f2,f3,f4,f5⟩:=hf it (by simp);have e1:(n:Int)-1-(i:Int)=((n-1-i:Nat):Int):=by lia
  have G:=st.2;rw[e1]at G;refine wpAny_pyNext_rev_item G p.isList (x:=u) (by simpa using hu) λh' st' sb=>?_;have e2:((n-1-i:Nat):Int)-1=(n:Int)-1-((i+1:Nat):Int):=by lia
  rw[e2]at st';have I1:Inv X pins σ H {s with heap:=h'}:=I.turned (t':=s.toks) (λb o hb e=>(sb.2 b hb).trans e) Y Z f3 f4 f5;obtain⟨o,e,c,d⟩:=id st';exact⟨u,rfl,z6 (s:={s with heap:=h'}) e c d (by decide) ⟨x,H,I1,ru,⟨rfl,λys hy=>by rw[I.list_inj hy hq];exact hx⟩,⟨hi,st'⟩,λb hb=>(hf b hb).1⟩⟩
 done:=by
  intro X O hw hK hc i pins s σ H E I hf st U;subst O hw hK;obtain⟨Y,Z,f2,f3,f4,f5⟩:=hf it (by simp);have G:=st.2;have hn:n<=i:=U;have e:(n:Int)-1-(i:Int)= -1:=by have:=st.1;lia
  rw[e]at G;exact wpAny_pyNext_rev_end (I.ok.hd hc) G λh' eb=>⟨rfl,I.turned (t':=s.toks) (λb o hb e=>eb b o hb e) Y Z f3 f4 f5⟩
 self:=λ_ _ _ _ _ st h=>wpAny_pyIter_revIter st.2 h
section
variable {X:Cx}
def iRev (K:PySem.W.Frag) (ta:TA):TI:=λσ H R=>ta σ H λvs H1=>∃a xs,vs=[.ref a]/\SqL K H1 a xs/\R (Itv K a xs.length) H1
theorem Jq {a:Expr} {ta:TA} {p pos:Pos} (O:Gl X "reversed") (U:X.mg "reversed"=none) (ha:PA X [a] ta) (hs:starEach [a] X.env=[(false,eval a X.env)]:=by rfl):PI X tg (.Call (.Name "reversed" p) [a] [] pos) (iRev X.K ta):=by
 intro pins s σ H R I h;refine Call_ (rM I O U Boot.«reversed» (PyProof.Rows.callWith_type1 (thn (ha pos pins s σ H _ I h) λus s1 G=>?_) hs rfl));obtain⟨vs,H1,z,r1,Y⟩:=G;obtain⟨b,xs,e,hq,q⟩:=Y;subst e;cases r1 with
 |cons r Z=>
  cases Z;cases r;obtain⟨its,rv,p,hz⟩:=z.list hq;have hl:=rv.length;refine call_reversed_list p.isList ?_;refine wpAny_pyIter_revIter (l:=b) (i:=(its.toArray.size:Int)-1) ⟨_,Heap.get?_push_size _ rfl,rfl,rfl⟩ ?_;refine⟨s1.heap.objs.size,[s1.heap.objs.size],_,_,H1,rfl,z.kept (t':=s1.toks) λb o e=>Heap.get?_push_of_some _ e,El b _ xs.length,⟨Qj _,?_⟩,λb hb=>?_,q⟩
  .have e:(xs.length:Int)-1-((0:Nat):Int)=(its.toArray.size:Int)-1:=by simp;lia
   rw[e];exact⟨_,Heap.get?_push_size _ rfl,rfl,rfl⟩
  .have e:b=s1.heap.objs.size:=by simpa using hb
   subst e;exact z.fpOk (Q4 _) (z.hok.fresh (Q4 _))
end
theorem DF {a D:Addr} {xs:List V} {te:TE} {tc:TT} {σ:St} {H1:Hp} {Fin:Hp->Prop} (Pv:Nat->List V->Hp->Prop) (G:Pv 0 [] (upd H1 D (.lst []))) (hl:∀i ys H,i<=xs.length->Pv i ys H->SqL K H a xs)
  (hs:∀i x ys H2,xs.reverse[i]?=some x->Pv i ys H2->H2 D=some (.lst ys)->tc (some x::σ) H2 λb H4=>if b=true then te (some x::σ) H4 (CNext xs.length i ys D Pv)else CSkip xs.length i ys D Pv H4)
  (hd:∀ys H2,Pv xs.length ys H2->H2 D=some (.lst ys)->Fin H2):
  ∃W:Nat->Nat->List V->Hp->Prop,(∃m,W 0 m [] (upd H1 D (.lst [])))/\∀i m ys H2,W i m ys H2->H2 D=some (.lst ys)->
   ((Itv K a xs.length).stop i H2/\Fin H2)\/((Itv K a xs.length).go i H2/\∀x H3,(Itv K a xs.length).yld i H2 x H3->tc (some x::σ) H3 λb H4=>if b=true then te (some x::σ) H4 λy z=>z D=some (.lst ys)/\ys.length<sizeLine/\∃m',m'<m/\W (i+1) m' (ys++ [y]) (upd z D (.lst (ys++ [y])))else H4 D=some (.lst ys)/\∃m',m'<m/\W (i+1) m' ys H4):=by
 refine⟨λi m ys H=>m=xs.length-i/\i<=xs.length/\Pv i ys H,⟨xs.length,by simp,Qj _,G⟩,?_⟩;rintro i m ys H ⟨rfl,hi,p⟩ hD;have q:=hl i ys H hi p;by_cases lt:i<xs.length
 .refine .inr ⟨⟨lt,xs,xs[xs.length-1-i]'(by lia),q,Q3 _⟩,λx H' y=>?_⟩;obtain⟨e,y⟩:=y;subst e;exact hs i x ys _ (by rw[List.getElem?_reverse lt];exact y xs q) p hD
 .have e:i=xs.length:=by lia
  subst e;exact .inl ⟨Q4 _,hd ys H p hD⟩
end
section
end
section
end
end L2
namespace SW
open PySem L2
set_option maxHeartbeats 0
variable {L a b c dx p q tb:Addr} {F F':Addr->Prop} {t:Adr} {up:Bool} {o:HO} {x':HSt} {H H':Hp} {W hi k lo m n sz:Int} {R:Int->Bool} {kv' kvs ps qs:List (Int×V)} {ls:List (List Int)} {fs r:List (Str×V)} {A:List Addr} {ks l x y:List Int} {pa':List Pk} {ts:List Tp} {xs:List V} {i i0 j:Nat} {E:Nat->Prop} {K:PySem.W.Frag} {st:SSt} {σ:St} {f:Str} {α β:Type} {av v:V} {Q:VK}
structure Txt (K:PySem.W.Frag) (mg:Str->Option Value) (t:Adr):Prop where
 LI:mg "WalkError"=some (.ref t.b5)
 LM:mg "NoToken"=some (.ref t.nO)
 LL:mg "OutOfTurn"=some (.ref t.Al)
 LO:mg "NoKey"=some (.ref t.Cy)
 LJ:mg "Twice"=some (.ref t.Cw)
 LK:mg "TooOld"=some (.ref t.Ak)
 LN:mg "NoMoment"=some (.ref t.vq)
 zT:mg "Token"=some (.ref t.fS)
 uY:mg "BySlots"=some (.ref t.aU)
 E2:mg "Up"=some (.ref t.dh)
 Hk:mg "Down"=some (.ref t.bY)
 Ld:mg "Page"=some (.ref t.cZ)
 Kk:mg "Copier"=some (.ref t.a7)
 Kj:mg "Leaves"=some (.ref t.bB)
 KS:mg "Makes"=some (.ref t.fV)
 KR:mg "Slots"=some (.ref t.aZ)
 KU:mg "House"=some (.ref t.aL)
 Mx:Fun K "__init__" "NoKey.__init__" nW t.GA t.oy
 Mi:Binds K t.oy ["self","key"] []
 Mt:Fun K "__init__" "Twice.__init__" nV t.Gz t.ox
 Me:Binds K t.ox ["self","key"] []
 Mu:Fun K "__init__" "TooOld.__init__" lT t.F6 t.mK
 Mf:Binds K t.mK ["self","moment"] []
 Mw:Fun K "__init__" "NoMoment.__init__" jJ t.DO t.jQ
 Mh:Binds K t.jQ ["self","moment"] []
 zV:mg "turned"=some (.ref t.Ap)
 vH:Fun K "turned" "turned" uE t.Ap t.vk
 An:Binds K t.vk ["number"] []
 Dm:mg "mark_of"=some (.ref t.xS)
 xX:Fun K "mark_of" "mark_of" re t.xS t.rV
 DL:Binds K t.rV ["key"] []
 Bw:mg "place_of"=some (.ref t.vA)
 vJ:Fun K "place_of" "place_of" oY t.vA t.pB
 BH:Binds K t.pB ["key"] []
 xu:mg "slot_of"=some (.ref t.xQ)
 r9:Fun K "slot_of" "slot_of" q9 t.xQ t.rS
 xO:Binds K t.rS ["key","size"] []
 Ht:mg "stretch_of"=some (.ref t.qu)
 y6:Fun K "stretch_of" "stretch_of" jZ t.qu t.kE
 HH:Binds K t.kE ["slot","size"] []
 Dl:mg "slot_at"=some (.ref t.xR)
 xW:Fun K "slot_at" "slot_at" rc t.xR t.rT
 DK:Binds K t.rT ["place","size"] []
 Jw:mg "is_whole"=some (.ref t.vB)
 BN:Fun K "is_whole" "is_whole" oZ t.vB t.pC
 JZ:Binds K t.pC ["thing"] []
 jN:mg "is_from"=some (.ref t.xU)
 gU:Fun K "is_from" "is_from" rh t.xU t.rX
 jS:Binds K t.rX ["thing","low"] []
 Dk:mg "word_of"=some (.ref t.xP)
 xV:Fun K "word_of" "word_of" qZ t.xP t.rR
 DJ:Binds K t.rR ["bound"] []
 jH:Fun K "__init__" "Token.__init__" i8 t.jG t.jr
 oz:Binds K t.jr ["self","kind","at","end"] []
 Gc:Fun K "words" "Token.words" g8 t.c6 t.iH
 mP:Binds K t.iH ["self"] []
 Ea:FunD K "__init__" "BySlots.__init__" gf t.lg t.cr
 tK:Binds K t.cr ["self","at","end"] []
 Ms:iO K t.cr ["self","at","end"] [(.int (65536))]
 Mp:iO K t.cr ["self","at","end"] [(.int (0)),(.int (65536))]
 DU:Fun K "holds" "BySlots.holds" fz t.jX t.fK
 jT:Binds K t.fK ["self","key"] []
 Kf:FunD K "__init__" "Up.__init__" o0 t.vD t.iG
 BI:Binds K t.iG ["self","at","end"] []
 Mq:iO K t.iG ["self","at","end"] [.non]
 Mn:iO K t.iG ["self","at","end"] [(.int (0)),.non]
 IP:Fun K "holds" "Up.holds" lR t.sH t.mJ
 mO:Binds K t.mJ ["self","key"] []
 Ic:FunD K "__init__" "Down.__init__" kr t.qJ t.e7
 yY:Binds K t.e7 ["self","at","end"] []
 Mr:iO K t.e7 ["self","at","end"] [(.int (0))]
 Mo:iO K t.e7 ["self","at","end"] [.non,(.int (0))]
 GN:Fun K "holds" "Down.holds" jk t.oQ t.jE
 jF:Binds K t.jE ["self","key"] []
 Iz:mg "ask"=some (.ref t.IK)
 Gb:FunD K "ask" "ask" Ey t.IK t.Ae
 b_ask:Binds K t.Ae ["house","token","many","sieve"] []
 BJ:iO K t.Ae ["house","token","many","sieve"] [.non]
 J6:iO K t.Ae ["house","token","many","sieve"] [(.int (10)),.non]
 DZ:mg "page_by_slots"=some (.ref t.kX)
 tM:Fun K "page_by_slots" "page_by_slots" f8 t.kX t.gr
 D3:Binds K t.gr ["slots","token","many"] []
 E9:mg "page_by_keys"=some (.ref t.mU)
 vK:Fun K "page_by_keys" "page_by_keys" eD t.mU t.iC
 FT:Binds K t.iC ["house","token","many"] []
 Fa:mg "keys_of_page"=some (.ref t.mV)
 vL:Fun K "keys_of_page" "keys_of_page" eE t.mV t.iD
 FU:Binds K t.iD ["leaves","token","many"] []
 Iy:mg "keys_near"=some (.ref t.sC)
 Ar:Fun K "keys_near" "keys_near" lO t.sC t.mF
 IG:Binds K t.mF ["leaves","token","most"] []
 E8:mg "token_behind"=some (.ref t.mT)
 vI:Fun K "token_behind" "token_behind" gY t.mT t.iB
 FS:Binds K t.iB ["token","key"] []
 Kl:mg "is_left"=some (.ref t.xT)
 DQ:Fun K "is_left" "is_left" rf t.xT t.rW
 Km:Binds K t.rW ["token","key"] []
 HZ:Fun K "__init__" "Page.__init__" kh t.qG t.kP
 HP:Binds K t.kP ["self","token"] []
 HY:Fun K "read" "Page.read" kg t.qF t.kO
 HN:Binds K t.kO ["self","house","many"] []
 D7:Fun K "outcome" "Page.outcome" f9 t.kY t.gs
 D4:Binds K t.gs ["self"] []
 Gg:FunD K "__init__" "Copier.__init__" hX t.m5 t.fc
 Mm:Binds K t.fc ["self","house","token","stopped"] []
 tL:iO K t.fc ["self","house","token","stopped"] [.non]
 AI:Fun K "open_page" "Copier.open_page" dw t.gI t.dG
 AE:Binds K t.dG ["self"] []
 AH:FunD K "read_page" "Copier.read_page" du t.gH t.b8
 AD:Binds K t.b8 ["self","many"] []
 mS:iO K t.b8 ["self","many"] [(.int (10))]
 Av:Fun K "close_page" "Copier.close_page" cQ t.f7 t.cY
 Ao:Binds K t.cY ["self"] []
 DS:Fun K "follow" "Copier.follow" fv t.jV t.fI
 rZ:Binds K t.fI ["self","steps"] []
 zd:Fun K "follow_mark" "Copier.follow_mark" cw t.fk t.cx
 zc:Binds K t.cx ["self","number"] []
 Gh:Fun K "copy" "Copier.copy" hZ t.m6 t.iK
 mR:Binds K t.iK ["self"] []
 DT:Fun K "covers" "Copier.covers" fw t.jW t.fJ
 DM:Binds K t.fJ ["self","key"] []
 D9:Fun K "place" "Copier.place" gd t.k7 t.gv
 D6:Binds K t.gv ["self"] []
 Gf:Fun K "left" "Copier.left" hV t.m4 t.iJ
 FX:Binds K t.iJ ["self"] []
 D8:Fun K "total" "Copier.total" gb t.kZ t.gu
 D5:Binds K t.gu ["self"] []
 Gd:Fun K "__init__" "Leaves.__init__" g9 t.mY t.iI
 FW:Binds K t.iI ["self"] []
 GJ:Fun K "add" "Leaves.add" fO t.oM t.jA
 Gw:Binds K t.jA ["self","key"] []
 CI:Fun K "discard" "Leaves.discard" eI t.i6 t.eX
 CB:Binds K t.eX ["self","key"] []
 GI:Fun K "has" "Leaves.has" jg t.oK t.jz
 wS:Binds K t.jz ["self","key"] []
 My:Fun K "many" "Leaves.many" lV t.vF t.mM
 Mj:Binds K t.mM ["self"] []
 CH:Fun K "from_on" "Leaves.from_on" cC t.i5 t.eV
 CA:Binds K t.eV ["self","key","most"] []
 AG:Fun K "down_from" "Leaves.down_from" b7 t.gG t.dF
 AC:Binds K t.dF ["self","key","most"] []
 CG:Fun K "leaf_of" "Leaves.leaf_of" eG t.i4 t.eU
 cK:Binds K t.eU ["self","key"] []
 AF:Fun K "part_leaf" "Leaves.part_leaf" dn t.gF t.dE
 AB:Binds K t.dE ["self","at"] []
 Au:Fun K "join_small" "Leaves.join_small" cP t.fZ t.cX
 mQ:Binds K t.cX ["self","at"] []
 GH:Fun K "__init__" "Makes.__init__" jf t.oJ t.jy
 Gv:Binds K t.jy ["self"] []
 GG:Fun K "note" "Makes.note" je t.oH t.jx
 Gu:Binds K t.jx ["self","moment","value"] []
 sk:mg "empty_row"=some (.ref t.sE)
 m7:Fun K "empty_row" "empty_row" iR t.sE t.mG
 sw:Binds K t.mG ["size"] []
 GE:Fun K "__init__" "Slots.__init__" jc t.oE t.jv
 Gr:Binds K t.jv ["self"] []
 HV:Fun K "put" "Slots.put" j8 t.qC t.kL
 HL:Binds K t.kL ["self","key","value"] []
 GF:Fun K "drop" "Slots.drop" jd t.oG t.jw
 Gs:Binds K t.jw ["self","key"] []
 HX:Fun K "get" "Slots.get" kf t.qE t.kN
 HM:Binds K t.kN ["self","key"] []
 HW:Fun K "has" "Slots.has" j9 t.qD t.kM
 yX:Binds K t.kM ["self","key"] []
 GD:Fun K "rows" "Slots.rows" fN t.oC t.ju
 wR:Binds K t.ju ["self"] []
 Mv:Fun K "moved" "Slots.moved" lU t.vE t.mL
 Mg:Binds K t.mL ["self"] []
 GC:Fun K "span" "Slots.span" dI t.oB t.jt
 Gq:Binds K t.jt ["self","low","high"] []
 GB:Fun K "stop" "Slots.stop" i9 t.oA t.js
 wQ:Binds K t.js ["self","place"] []
 DR:Fun K "cell_of" "Slots.cell_of" fu t.jU t.fH
 fL:Binds K t.fH ["self","key"] []
 CF:Fun K "lying_at" "Slots.lying_at" eF t.iZ t.eT
 Cz:Binds K t.eT ["self","place"] []
 BP:Fun K "move_slot" "Slots.move_slot" dS t.iM t.dW
 pH:Binds K t.dW ["self"] []
 BQ:Fun K "begin_row" "Slots.begin_row" dU t.iN t.dX
 pI:Binds K t.dX ["self"] []
 GK:Fun K "__init__" "House.__init__" jh t.oN t.jB
 Gx:Binds K t.jB ["self"] []
 Ia:Fun K "put" "House.put" ko t.qH t.kQ
 HQ:Binds K t.kQ ["self","key","value"] []
 GL:Fun K "drop" "House.drop" ji t.oO t.jC
 Gy:Binds K t.jC ["self","key"] []
 Ib:Fun K "get" "House.get" kq t.qI t.kR
 HR:Binds K t.kR ["self","key"] []
 Mz:Fun K "has" "House.has" pT t.y3 t.qp
 Ml:Binds K t.qp ["self","key"] []
 CJ:Fun K "lay_mark" "House.lay_mark" eJ t.i7 t.eY
 qt:Binds K t.eY ["self"] []
 Ge:FunD K "diary" "House.diary" hJ t.mZ t.eZ
 vx:Binds K t.eZ ["self","low"] []
 gw:iO K t.eZ ["self","low"] [(.int (0))]
 GM:Fun K "done" "House.done" jj t.oP t.jD
 wT:Binds K t.jD ["self","row","value"] []
 u8:mg "_law_cell_at"=some (.ref t.mX)
 m8:Fun K "_law_cell_at" "_law_cell_at" g7 t.mX t.iF
 vv:Binds K t.iF ["_law_script","_law_k"] []
 yH:mg "_law_mixed"=some (.ref t.qz)
 qM:Fun K "_law_mixed" "_law_mixed" j5 t.qz t.kI
 yW:Binds K t.kI ["_law_cell","_law_k"] []
 yG:mg "_law_place"=some (.ref t.qy)
 qL:Fun K "_law_place" "_law_place" j4 t.qy t.kH
 yV:Binds K t.kH ["_law_key"] []
 Jx:mg "_law_run"=some (.ref t.vC)
 BO:Fun K "_law_run" "_law_run" gZ t.vC t.pD
 J0:Binds K t.pD ["_law_cell"] []
 IB:mg "_law_deed"=some (.ref t.sG)
 At:Fun K "_law_deed" "_law_deed" lQ t.sG t.mI
 II:Binds K t.mI ["_law_house_here","_law_kept","_law_cell"] []
 Hv:mg "_law_house"=some (.ref t.qA)
 y9:Fun K "_law_house" "_law_house" j6 t.qA t.kJ
 HJ:Binds K t.kJ ["_law_cells"] []
 Az:mg "_law_numbers_told"=some (.ref t.gE)
 nT:Fun K "_law_numbers_told" "_law_numbers_told" dj t.gE t.dD
 AA:Binds K t.dD ["_law_kind","_law_cell"] []
 Fb:mg "_law_numbers"=some (.ref t.mW)
 vM:Fun K "_law_numbers" "_law_numbers" g6 t.mW t.iE
 FV:Binds K t.iE ["_law_cell","_law_keys"] []
 Hu:mg "_law_token"=some (.ref t.qw)
 y7:Fun K "_law_token" "_law_token" j3 t.qw t.kG
 HI:Binds K t.kG ["_law_numbers_here"] []
 Hw:mg "_law_holds"=some (.ref t.qB)
 za:Fun K "_law_holds" "_law_holds" j7 t.qB t.kK
 HK:Binds K t.kK ["_law_numbers_here","_law_key"] []
 yF:mg "_law_words"=some (.ref t.qv)
 qK:Fun K "_law_words" "_law_words" j2 t.qv t.kF
 yU:Binds K t.kF ["_law_token_here"] []
 IA:mg "_law_read"=some (.ref t.sF)
 As:Fun K "_law_read" "_law_read" lP t.sF t.mH
 IH:Binds K t.mH ["_law_copier","_law_house_here","_law_token_here","_law_cell"] []
 Lh:mg "law"=some (.ref t.IJ)
 La:Fun K "law" "law" zy t.IJ t.Cv
 b_law:Binds K t.Cv ["_law_script"] []
 Lq:BL K t.b5 (([]:List Addr).map Value.ref++sd)
 Lv:BL K t.nO (([t.b5]:List Addr).map Value.ref++sd)
 Lu:BL K t.Al (([t.b5]:List Addr).map Value.ref++sd)
 LG:NoAttr K t.Cy "key"
 Lx:BL K t.Cy (([t.b5]:List Addr).map Value.ref++sd)
 LA:NoAttr K t.Cw "key"
 Lr:BL K t.Cw (([t.b5]:List Addr).map Value.ref++sd)
 LB:NoAttr K t.Ak "moment"
 Ls:BL K t.Ak (([t.b5]:List Addr).map Value.ref++sd)
 LF:NoAttr K t.vq "moment"
 Lw:BL K t.vq (([t.b5]:List Addr).map Value.ref++sd)
 LC:NoAttr K t.fS "kind"
 LE:NoAttr K t.fS "at"
 LD:NoAttr K t.fS "end"
 Md:Cls K t.fS
 LH:Mk K t.fS t.jG
 Li:XIs K t.fS
 LU:PySem.W.kitOne K (.ref t.fS) (.ref t.aU)=some false
 LT:PySem.W.kitOne K (.ref t.fS) (.ref t.dh)=some false
 LP:bL K t.fS "words" t.c6
 tI:NoAttr K t.aU "kind"
 jo:NoAttr K t.aU "at"
 cm:NoAttr K t.aU "end"
 bE:Cls K t.aU
 Bq:Mk K t.aU t.lg
 oR:XIs K t.aU
 Bz:PySem.W.kitOne K (.ref t.aU) (.ref t.aU)=some true
 Mc:PySem.W.kitOne K (.ref t.aU) (.ref t.dh)=some false
 Dj:bL K t.aU "words" t.c6
 jM:bL K t.aU "holds" t.jX
 Bo:NoAttr K t.dh "kind"
 qa:NoAttr K t.dh "at"
 jL:NoAttr K t.dh "end"
 gB:Cls K t.dh
 KN:Mk K t.dh t.vD
 lF:XIs K t.dh
 Gp:PySem.W.kitOne K (.ref t.dh) (.ref t.aU)=some false
 Fk:PySem.W.kitOne K (.ref t.dh) (.ref t.dh)=some true
 Ix:bL K t.dh "words" t.c6
 my:bL K t.dh "holds" t.sH
 yB:NoAttr K t.bY "kind"
 iy:NoAttr K t.bY "at"
 iW:NoAttr K t.bY "end"
 b9:Cls K t.bY
 Hj:Mk K t.bY t.qJ
 eB:XIs K t.bY
 D0:PySem.W.kitOne K (.ref t.bY) (.ref t.aU)=some false
 By:PySem.W.kitOne K (.ref t.bY) (.ref t.dh)=some false
 Go:bL K t.bY "words" t.c6
 jp:bL K t.bY "holds" t.oQ
 wH:NoAttr K t.cZ "asked"
 dL:NoAttr K t.cZ "found"
 oi:NoAttr K t.cZ "ahead"
 wG:NoAttr K t.cZ "noted"
 dP:NoAttr K t.cZ "closing"
 bQ:Cls K t.cZ
 Lc:Mk K t.cZ t.qG
 Lk:XIs K t.cZ
 LY:PySem.W.kitOne K (.ref t.cZ) (.ref t.aU)=some false
 LX:PySem.W.kitOne K (.ref t.cZ) (.ref t.dh)=some false
 Hq:bL K t.cZ "read" t.qF
 DW:bL K t.cZ "outcome" t.kY
 dQ:NoAttr K t.a7 "house"
 tH:NoAttr K t.a7 "first"
 cW:NoAttr K t.a7 "rest"
 bD:NoAttr K t.a7 "followed"
 fF:NoAttr K t.a7 "copied"
 cf:NoAttr K t.a7 "page"
 aG:Cls K t.a7
 Ki:Mk K t.a7 t.m5
 Lp:XIs K t.a7
 Mb:PySem.W.kitOne K (.ref t.a7) (.ref t.aU)=some false
 Ma:PySem.W.kitOne K (.ref t.a7) (.ref t.dh)=some false
 Ay:bL K t.a7 "open_page" t.gI
 nR:bL K t.a7 "read_page" t.gH
 zU:bL K t.a7 "close_page" t.f7
 rK:bL K t.a7 "follow" t.jV
 zb:bL K t.a7 "follow_mark" t.fk
 mC:bL K t.a7 "copy" t.m6
 Di:bL K t.a7 "covers" t.jW
 DY:bL K t.a7 "place" t.k7
 E6:bL K t.a7 "left" t.m4
 DX:bL K t.a7 "total" t.kZ
 aC:NoAttr K t.bB "leaves"
 aM:Cls K t.bB
 Kh:Mk K t.bB t.mY
 Lm:XIs K t.bB
 L7:PySem.W.kitOne K (.ref t.bB) (.ref t.aU)=some false
 L4:PySem.W.kitOne K (.ref t.bB) (.ref t.dh)=some false
 Gm:bL K t.bB "add" t.oM
 Cd:bL K t.bB "discard" t.i6
 wM:bL K t.bB "has" t.oK
 LR:bL K t.bB "many" t.vF
 Cc:bL K t.bB "from_on" t.i5
 Ax:bL K t.bB "down_from" t.gG
 cI:bL K t.bB "leaf_of" t.i4
 Aw:bL K t.bB "part_leaf" t.gF
 mB:bL K t.bB "join_small" t.fZ
 wI:NoAttr K t.fV "made"
 Ai:Cls K t.fV
 KP:Mk K t.fV t.oJ
 Ll:XIs K t.fV
 L3:PySem.W.kitOne K (.ref t.fV) (.ref t.aU)=some false
 LZ:PySem.W.kitOne K (.ref t.fV) (.ref t.dh)=some false
 Gk:bL K t.fV "note" t.oH
 aY:NoAttr K t.aZ "table"
 bR:NoAttr K t.aZ "shifted"
 bJ:NoAttr K t.aZ "kept"
 aH:Cls K t.aZ
 KO:Mk K t.aZ t.oE
 Lj:XIs K t.aZ
 LW:PySem.W.kitOne K (.ref t.aZ) (.ref t.aU)=some false
 LV:PySem.W.kitOne K (.ref t.aZ) (.ref t.dh)=some false
 Hn:bL K t.aZ "put" t.qC
 Gj:bL K t.aZ "drop" t.oG
 Ho:bL K t.aZ "get" t.qE
 yE:bL K t.aZ "has" t.qD
 wL:bL K t.aZ "rows" t.oC
 LQ:bL K t.aZ "moved" t.vE
 Gi:bL K t.aZ "span" t.oB
 wK:bL K t.aZ "stop" t.oA
 fG:bL K t.aZ "cell_of" t.jU
 Cb:bL K t.aZ "lying_at" t.iZ
 pj:bL K t.aZ "move_slot" t.iM
 pq:bL K t.aZ "begin_row" t.iN
 kA:NoAttr K t.aL "now"
 EY:NoAttr K t.aL "floor"
 cV:NoAttr K t.aL "slots"
 gk:NoAttr K t.aL "leaves"
 fE:NoAttr K t.aL "written"
 iw:NoAttr K t.aL "marks"
 wJ:NoAttr K t.aL "past"
 De:NoAttr K t.aL "holders"
 aO:Cls K t.aL
 KQ:Mk K t.aL t.oN
 Ln:XIs K t.aL
 L9:PySem.W.kitOne K (.ref t.aL) (.ref t.aU)=some false
 L8:PySem.W.kitOne K (.ref t.aL) (.ref t.dh)=some false
 Hr:bL K t.aL "put" t.qH
 Gn:bL K t.aL "drop" t.oO
 Hs:bL K t.aL "get" t.qI
 LS:bL K t.aL "has" t.y3
 qd:bL K t.aL "lay_mark" t.i7
 iA:bL K t.aL "diary" t.mZ
 wN:bL K t.aL "done" t.oP
 oh:F7 K t.fS "__init__" (.ref t.jG)
 Lz:F7 K t.b5 "__init__" (.builtin "ValueError.__init__")
 g_BITS:∃tk,mg "BITS"=some (.int 16 tk)
 g_PLACES:∃tk,mg "PLACES"=some (.int 65536 tk)
 g_STRETCHES_A_KEY:∃tk,mg "STRETCHES_A_KEY"=some (.int 4 tk)
 g_MOST_IN_LEAF:∃tk,mg "MOST_IN_LEAF"=some (.int 8 tk)
 g_LEAST_IN_TWO:∃tk,mg "LEAST_IN_TWO"=some (.int 5 tk)
 g_LEAST_SIZE:∃tk,mg "LEAST_SIZE"=some (.int 4 tk)
 g_GREATEST_SIZE:∃tk,mg "GREATEST_SIZE"=some (.int 256 tk)
 Le:mg "bool"=none
 AJ:mg "dict"=none
 Lg:mg "int"=none
 gJ:mg "isinstance"=none
 bO:mg "len"=none
 Ed:mg "list"=none
 Ec:mg "max"=none
 ze:mg "min"=none
 ni:mg "range"=none
 IQ:mg "reversed"=none
 Eb:mg "sorted"=none
 Lf:mg "str"=none
 Kn:mg "sum"=none
theorem sc_turned:am ["number","told","rest","step"] ["number"] (aj uE):=fsc
theorem Bd:am ["key"] ["key"] (aj re):=fsc
theorem zu:am ["key"] ["key"] (aj oY):=fsc
theorem Bb:am ["key","size"] ["key","size"] (aj q9):=fsc
theorem sc_stretch_of:am ["slot","size","low"] ["slot","size"] (aj jZ):=fsc
theorem Bc:am ["place","size"] ["place","size"] (aj rc):=fsc
theorem zw:am ["thing"] ["thing"] (aj oZ):=fsc
theorem Bf:am ["thing","low"] ["thing","low"] (aj rh):=fsc
theorem Ba:am ["bound"] ["bound"] (aj qZ):=fsc
theorem uv:am ["self","kind","at","end"] ["self","kind","at","end"] (aj i8):=fsc
theorem sT:am ["self"] ["self"] (aj g8):=fsc
theorem qX:am ["self","at","end"] ["self","at","end"] (aj gf):=fsc
theorem pS:am ["self","key"] ["self","key"] (aj fz):=fsc
theorem zx:am ["self","at","end"] ["self","at","end"] (aj o0):=fsc
theorem yj:am ["self","key"] ["self","key"] (aj lR):=fsc
theorem wq:am ["self","at","end"] ["self","at","end"] (aj kr):=fsc
theorem uD:am ["self","key"] ["self","key"] (aj jk):=fsc
theorem sc_ask:am ["house","token","many","sieve","page"] ["house","token","many","sieve"] (aj Ey):=fsc
theorem sc_page_by_slots:am ["slots","token","many","rows","reached","gone","stop"] ["slots","token","many"] (aj f8):=fsc
theorem sc_page_by_keys:am ["house","token","many","page"] ["house","token","many"] (aj eD):=fsc
theorem sc_keys_of_page:am ["leaves","token","many","most","held","page"] ["leaves","token","many"] (aj eE):=fsc
theorem yh:am ["leaves","token","most"] ["leaves","token","most"] (aj lO):=fsc
theorem sR:am ["token","key"] ["token","key"] (aj gY):=fsc
theorem Be:am ["token","key"] ["token","key"] (aj rf):=fsc
theorem wk:am ["self","token"] ["self","token"] (aj kh):=fsc
theorem sc_Page__read:am ["self","house","many","answer"] ["self","house","many"] (aj kg):=fsc
theorem sc_Page__outcome:am ["self","table","row"] ["self"] (aj f9):=fsc
theorem sc_Copier__init:am ["self","house","token","stopped"] ["self","house","token","stopped"] (aj hX):=fsc
theorem lN:am ["self"] ["self"] (aj dw):=fsc
theorem sc_Copier__read_page:am ["self","many","page"] ["self","many"] (aj du):=fsc
theorem sc_Copier__close_page:am ["self","page"] ["self"] (aj cQ):=fsc
theorem sc_Copier__follow:am ["self","steps","rows","row"] ["self","steps"] (aj fv):=fsc
theorem sc_Copier__follow_mark:am ["self","number","page"] ["self","number"] (aj cw):=fsc
theorem sX:am ["self"] ["self"] (aj hZ):=fsc
theorem pR:am ["self","key"] ["self","key"] (aj fw):=fsc
theorem qW:am ["self"] ["self"] (aj gd):=fsc
theorem sW:am ["self"] ["self"] (aj hV):=fsc
theorem qV:am ["self"] ["self"] (aj gb):=fsc
theorem sU:am ["self"] ["self"] (aj g9):=fsc
theorem sc_Leaves__add:am ["self","key","at","leaf"] ["self","key"] (aj fO):=fsc
theorem sc_Leaves__discard:am ["self","key","at"] ["self","key"] (aj eI):=fsc
theorem sc_Leaves__has:am ["self","key","at"] ["self","key"] (aj jg):=fsc
theorem sc_Leaves__from_on:am ["self","key","most","told","at"] ["self","key","most"] (aj cC):=fsc
theorem sc_Leaves__down_from:am ["self","key","most","told","at"] ["self","key","most"] (aj b7):=fsc
theorem sc_Leaves__leaf_of:am ["self","key","low","high","middle"] ["self","key"] (aj eG):=fsc
theorem sc_Leaves__part_leaf:am ["self","at","leaf","middle"] ["self","at"] (aj dn):=fsc
theorem sc_Leaves__join_small:am ["self","at","both"] ["self","at"] (aj cP):=fsc
theorem uA:am ["self"] ["self"] (aj jf):=fsc
theorem uz:am ["self","moment","value"] ["self","moment","value"] (aj je):=fsc
theorem yi:am ["size"] ["size"] (aj iR):=fsc
theorem ux:am ["self"] ["self"] (aj jc):=fsc
theorem sc_Slots__put:am ["self","key","value","cell"] ["self","key","value"] (aj j8):=fsc
theorem uy:am ["self","key"] ["self","key"] (aj jd):=fsc
theorem sc_Slots__get:am ["self","key","cell"] ["self","key"] (aj kf):=fsc
theorem wj:am ["self","key"] ["self","key"] (aj j9):=fsc
theorem uw:am ["self"] ["self"] (aj fN):=fsc
theorem sc_Slots__span:am ["self","low","high","found","reached","end","inside"] ["self","low","high"] (aj dI):=fsc
theorem sc_Slots__stop:am ["self","place","size"] ["self","place"] (aj i9):=fsc
theorem sc_Slots__cell_of:am ["self","key","old","slot","new"] ["self","key"] (aj fu):=fsc
theorem sc_Slots__lying_at:am ["self","place","size","found","row","slot","key","value"] ["self","place"] (aj eF):=fsc
theorem sc_Slots__move_slot:am ["self","old","new","key","value"] ["self"] (aj dS):=fsc
theorem sc_Slots__begin_row:am ["self","size"] ["self"] (aj dU):=fsc
theorem uB:am ["self"] ["self"] (aj jh):=fsc
theorem wm:am ["self","key","value"] ["self","key","value"] (aj ko):=fsc
theorem uC:am ["self","key"] ["self","key"] (aj ji):=fsc
theorem wn:am ["self","key"] ["self","key"] (aj kq):=fsc
theorem oX:am ["self"] ["self"] (aj eJ):=fsc
theorem sV:am ["self","low"] ["self","low"] (aj hJ):=fsc
theorem sc_House__done:am ["self","row","value","key"] ["self","row","value"] (aj jj):=fsc
theorem sS:am ["_law_script","_law_k"] ["_law_script","_law_k"] (aj g7):=fsc
theorem sc__law_mixed:am ["_law_cell","_law_k","_law_number"] ["_law_cell","_law_k"] (aj j5):=fsc
theorem sc__law_place:am ["_law_key","_law_mark","_law_found","_law_k"] ["_law_key"] (aj j4):=fsc
theorem sc__law_run:am ["_law_cell","_law_start","_law_number","_law_way","_law_step"] ["_law_cell"] (aj gZ):=fsc
theorem sc__law_deed:am ["_law_house_here","_law_kept","_law_cell","_law_keys","_law_k","_law_value"] ["_law_house_here","_law_kept","_law_cell"] (aj lQ):=fsc
theorem sc__law_house:am ["_law_cells","_law_house_here","_law_kept","_law_cell"] ["_law_cells"] (aj j6):=fsc
theorem sc__law_numbers_told:am ["_law_kind","_law_cell","_law_low","_law_high"] ["_law_kind","_law_cell"] (aj dj):=fsc
theorem sc__law_numbers:am ["_law_cell","_law_keys","_law_kind","_law_number","_law_low","_law_high"] ["_law_cell","_law_keys"] (aj g6):=fsc
theorem wg:am ["_law_numbers_here"] ["_law_numbers_here"] (aj j3):=fsc
theorem sc__law_holds:am ["_law_numbers_here","_law_key","_law_kind","_law_at","_law_end"] ["_law_numbers_here","_law_key"] (aj j7):=fsc
theorem wf:am ["_law_token_here"] ["_law_token_here"] (aj j2):=fsc
theorem sc__law_read:am ["_law_copier","_law_house_here","_law_token_here","_law_cell","_law_many"] ["_law_copier","_law_house_here","_law_token_here","_law_cell"] (aj lP):=fsc
theorem sc_law:am ["_law_script","_law_house_here","_law_kept","_law_numbers_here","_law_token_here","_law_cell","_law_copier","_law_before","_law_opening","_law_told","_law_found","_law_rows","_law_closing","_law_rest","_law_key","_law_due"] ["_law_script"] (aj zy):=fsc
def Sc:V->Prop
 | .non=>True| .bl _=>True| .int _=>True| .str _=>True|_=>False
theorem T0 (z:Int):Sc (.int z):=True.intro
def isW:V->Bool
 | .int _=>true|_=>false
def Fr (F F':Addr->Prop) (H H':Hp):Prop:=∀b o,¬F b->H b=some o->H' b=some o/\¬F' b
theorem Fr.refl:Fr F F H H:=λ_ _ n e=>⟨e,n⟩
theorem Fr.trans {z:Addr->Prop} {H'':Hp} (x:Fr F F' H H') (y:Fr F' z H' H''):Fr F z H H'':=λb o n e=>y b o (x b o n e).2 (x b o n e).1
theorem Fr.of_same (s:Same H H'):Fr F F H H':=λb o n e=>⟨s b o e,n⟩
def aK (kv:List (Int×V)):List (Key×V):=kv.map λp=>(Sum.inl p.1,p.2)
theorem liftK_val {kv:List (Int×V)}:aP (aK kv) (Sum.inl k:Key)=aP kv k:=by
 induction kv with
 |nil=>rfl
 |cons p r G=>
  show aP ((Sum.inl p.1,p.2)::aK r) (Sum.inl k:Key)=_;by_cases e:p.1=k
  .rw[bq e,bq (by show(Sum.inl p.1:Key)=_;rw[e])]
  .rw[bn e,bn (by show ¬(Sum.inl p.1:Key)=_;exact λz=>e (Sum.inl.inj z)),G]
theorem Do {kv:List (Int×V)}:((aK kv).any λx=>decide (x.1=(Sum.inl k:Key)))=kv.any λx=>decide (x.1=k):=by
 rw[cO,cO,liftK_val]
theorem gT {kv:List (Int×V)}:bz (aK kv) (Sum.inl k:Key) v=aK (bz kv k v):=by
 unfold bz;rw[Do];by_cases c:(kv.any λx=>decide (x.1=k))=true
 .rw[if_pos c,if_pos c];unfold aK;rw[Qu,Qu];refine Zd λp _=>?_;show(if(Sum.inl p.1:Key)=Sum.inl k then _ else _)=_;by_cases e:p.1=k
  .rw[if_pos (by rw[e])];simp[e]
  .rw[if_neg λz=>e (Sum.inl.inj z)];simp[e]
 .rw[if_neg c,if_neg c];unfold aK;rw[Qc];rfl
theorem va {kv:List (Int×V)}:bW (aK kv) (Sum.inl k:Key)=aK (bW kv k):=by
 unfold bW aK;rw[List.filter_map];congr 1;refine XI λp _=>?_;show decide ((Sum.inl p.1:Key)≠Sum.inl k)=_;by_cases e:p.1=k
 .rw[e];simp
 .have:¬(Sum.inl p.1:Key)=Sum.inl k:=λz=>e (Sum.inl.inj z);simp[e,this]
theorem cv {kv:List (Int×V)}:(aK kv).length=kv.length:=Q0 _
theorem lX {f:Str} {v:V}:∀fs:List (Str×V),(a9 f v fs).length<=fs.length+1
 | []=>Q4 _
 |(g,x)::r=>by
  rw[a9];split
  .rw[Qp,Qp];lia
  .have:=lX (f:=f) (v:=v) r;rw[Qp,Qp];lia
section
variable {κ:Type} [DecidableEq κ] {kv:List (κ×V)} {k j:κ}
theorem fo:∀{kv:List (κ×V)},aP (bW kv k) j=if j=k then none else aP kv j
 | []=>by
  show aP ([]:List (κ×V)) j=_;rw[lH];split<;>rfl
 |p::r=>by
  by_cases e:p.1=k
  .rw[rQ e,fo];by_cases z:j=k
   .rw[if_pos z,if_pos z]
   .rw[if_neg z,if_neg z,bn λy=>z (y.symm.trans e)]
  .rw[nK e];by_cases y:p.1=j
   .rw[bq y,bq y,if_neg λz=>e (y.trans z)]
   .rw[bn y,bn y,fo]
theorem mem_keys:∀{kv:List (κ×V)},k∈kv.map (·.1)↔(aP kv k).isSome=true
 | []=>by simp[lH]
 |p::r=>by
  by_cases e:p.1=k
  .rw[bq e];simp[e]
  .rw[bn e,<-mem_keys];simp[Ne.symm e]
theorem qh:(bz kv k v).map (·.1)=if(aP kv k).isSome=true then kv.map (·.1)else kv.map (·.1)++ [k]:=by
 unfold bz;rw[cO];by_cases c:(aP kv k).isSome=true
 .rw[if_pos c,if_pos c,Qu];refine Zd λp _=>?_;show(if p.1=k then(p.1,v)else p).1=p.1;split<;>rfl
 .rw[if_neg c,if_neg c,Qc];rfl
theorem Bn (h:(kv.map (·.1)).Nodup):((bz kv k v).map (·.1)).Nodup:=by
 cases e:aP kv k with
 |none=>exact Hg v h e
 |some x=>rw[qh,e];exact h
theorem iu:∀{l S:List κ},l.Nodup->(∀x∈l,x∈S)->l.length<=S.length
 | [],_,_,_=>Qj _
 |x::xs,S,hn,hs=>by
  obtain⟨h1,h2⟩:=QM.mp hn;have hx:x∈S:=hs x Q9;have:=iu (S:=S.erase x) h2 λy hy=>(List.mem_erase_of_ne λz=>h1 (by rw[<-z];exact hy)).mpr (hs y (Qd _ hy));rw[List.length_erase_of_mem hx]at this;have:=List.length_pos_of_mem hx;rw[Qp];lia
end
def SqF (K:PySem.W.Frag) (F:Addr->Prop) (H:Hp) (a:Addr) (xs:List V):Prop:=(Rd H a (.lst xs)/\¬F a)\/∀H',SqL K H' a xs
theorem SqF.sq (h:SqF K F H a xs):SqL K H a xs:=by
 rcases h with h|h
 .exact .inl h.1
 .exact h H
theorem SqF.of (h:SqL K H a xs) (n:∀o,H a=some o->¬F a):SqF K F H a xs:=by
 rcases h with h|h
 .rcases h with h|⟨o,h⟩
  .exact .inl ⟨.inl h,n _ h⟩
  .exact .inl ⟨.inr ⟨o,h⟩,n _ h⟩
 .exact .inr λ_=> .inr h
theorem SqF.fr (h:SqF K F H a xs) (f:Fr F F' H H'):SqF K F' H' a xs:=by
 rcases h with⟨h,n⟩|h
 .rcases h with h|⟨o,h⟩
  .exact .inl ⟨.inl (f _ _ n h).1,(f _ _ n h).2⟩
  .exact .inl ⟨.inr ⟨o,(f _ _ n h).1⟩,(f _ _ n h).2⟩
 .exact .inr h
theorem SqF.new (h:SqF K F H a xs) (n:H p=none):SqF K F (upd H p o) a xs:=h.fr (Fr.of_same (ai n))
structure SSt where
 kv:List (Int×V)
 size:Int
 nxt:Option Int
 mv:Int
def SSt.new:SSt:=⟨[],4,none,0⟩
def SSt.one (s:SSt):SSt:=match s.nxt with
 |none=>s
 |some m=>if s.mv+1=s.size then{s with size:=m,nxt:=none,mv:=0}else{s with mv:=s.mv+1}
def SSt.three (s:SSt):SSt:=match s.nxt with
 |some _=>s
 |none=>if s.size<(s.kv.length:Int)/\s.size<256 then{s with nxt:=some (2*s.size),mv:=0}else if 4*(s.kv.length:Int)<s.size/\4<s.size then{s with nxt:=some (s.size/2),mv:=0}else s
def SSt.put (s:SSt) (k:Int) (v:V):SSt:=SSt.three {s.one with kv:=bz s.kv k v}
def SSt.drop (s:SSt) (k:Int):SSt:=SSt.three {s.one with kv:=bW s.kv k}
def SSt.rows (s:SSt):List Int:=match s.nxt with
 |none=> [s.size]
 |some m=> [s.size,m]
def SSt.moved (s:SSt):Int:=match s.nxt with
 |none=>0
 |some _=>s.mv
structure SlD where
 tb:Addr
 r0:Addr
 r1:Addr
 A0:List Addr
 A1:List Addr
 C0:List (List (Int×V))
 C1:List (List (Int×V))
 n:Int
def slF (tb:Addr) (sh n:Int):List (Str×V):=[("table",.ref tb),("shifted",.int sh),("kept",.int n)]
theorem fR {k:Str}:((k,v)::r).lookup k=some v:=by
 have hb:(k==k)=true:=beq_iff_eq.mpr rfl;simp only[List.lookup,hb]
theorem bF {k m:Str} (h:m≠k):((k,v)::r).lookup m=r.lookup m:=by
 have hb:(m==k)=false:=beq_eq_false_iff_ne.mpr h;simp only[List.lookup,hb]
section
variable {tb':Addr} {sh sh' n':Int} {m:Str}
theorem iQ:(slF tb sh n).lookup ("table":Str)=some (.ref tb):=fR
theorem zt:(slF tb sh n).lookup ("shifted":Str)=some (.int sh):=by unfold slF;rw[bF (by decide+kernel),fR]
theorem pP:(slF tb sh n).lookup ("kept":Str)=some (.int n):=by unfold slF;rw[bF (by decide+kernel),bF (by decide+kernel),fR]
def NoM (m:Str):Prop:=m≠("table":Str)/\m≠("shifted":Str)/\m≠("kept":Str)
instance:Decidable (NoM m):=by unfold NoM;infer_instance
theorem Im (h:NoM m):(slF tb sh n).lookup m=none:=by unfold slF;rw[bF h.1,bF h.2.1,bF h.2.2];rfl
theorem KL:a9 ("table":Str) (.ref tb') (slF tb sh n)=slF tb' sh n:=by unfold slF;rw[a9,if_pos rfl]
theorem Ir:a9 ("shifted":Str) (.int sh') (slF tb sh n)=slF tb sh' n:=by unfold slF;rw[a9,if_neg (by decide+kernel),a9,if_pos rfl]
theorem Iu:a9 ("kept":Str) (.int n') (slF tb sh n)=slF tb sh n':=by unfold slF;rw[a9,if_neg (by decide+kernel),a9,if_neg (by decide+kernel),a9,if_pos rfl]
theorem pO:(slF tb sh n).length<1000:=by show 3<1000;decide
end
structure RowOk (H:Hp) (r:Addr) (A:List Addr) (C:List (List (Int×V))) (sz:Int):Prop where
 lst:H r=some (.lst (A.map V.ref))
 la:(A.length:Int)=sz
 lc:(C.length:Int)=sz
 cell:∀(j:Nat) (b:Addr) (kv:List (Int×V)),A[j]?=some b->C[j]?=some kv->H b=some (.dK (aK kv))
 ndk:∀(j:Nat) (kv:List (Int×V)),C[j]?=some kv->(kv.map (·.1)).Nodup
 inj:∀(i j:Nat) (b:Addr),A[i]?=some b->A[j]?=some b->i=j
 home:∀(j:Nat) (kv:List (Int×V)),C[j]?=some kv->∀p∈kv,p.1%65536%sz=(j:Int)
theorem RowOk.has {r:Addr} {C:List (List (Int×V))} (h:RowOk H r A C sz) (hb:b∈A):∃(j:Nat) (kv:List (Int×V)),A[j]?=some b/\C[j]?=some kv/\H b=some (.dK (aK kv)):=by
 obtain⟨j,G,e⟩:=Qz hb;have hc:j<C.length:=by have:=h.la;have:=h.lc;lia
 have z:A[j]?=some b:=by rw[Q3 G,e]
 have e2:C[j]?=some C[j]:=Q3 hc;exact⟨j,C[j],z,e2,h.cell j b _ z e2⟩
theorem RowOk.frame {r:Addr} {C:List (List (Int×V))} (h:RowOk H r A C sz) (f:∀b,b=r\/b∈A->H' b=H b):RowOk H' r A C sz:=
 ⟨by rw[f r (.inl rfl)];exact h.lst,h.la,h.lc,λj b kv z e2=>by rw[f b (.inr (Q1 z))];exact h.cell j b kv z e2,h.ndk,h.inj,h.home⟩
theorem RowOk.notr {r:Addr} {C:List (List (Int×V))} (h:RowOk H r A C sz) (hb:b∈A) {x:Addr} (e:H x=some o) (G:∀kvs,o≠ .dK kvs):b≠x:=λz=>by
 obtain⟨j,kv,_,_,q⟩:=h.has hb;rw[z,e]at q;cases q;exact G _ rfl
theorem RowOk.set {r:Addr} {C:List (List (Int×V))} (h:RowOk H r A C sz) (I:A[j]?=some c) (nd:(kv'.map (·.1)).Nodup) (O:∀p∈kv',p.1%65536%sz=(j:Int)):
  RowOk (upd H c (.dK (aK kv'))) r A (C.set j kv') sz:=by
 have hc:r≠c:=(h.notr (Q1 I) h.lst (λ_ z=>by cases z)).symm;refine⟨by rw[ae hc];exact h.lst,h.la,by rw[QI];exact h.lc,λi b kv G e2=>?_,λi kv e=>?_,h.inj,λi kv e=>?_⟩
 .rw[Qy]at e2;by_cases z:j=i
  .subst z;rw[I]at G;cases G;rw[if_pos rfl]at e2;split at e2
   .cases e2;exact ac
   .cases e2
  .rw[if_neg z]at e2;rw[ae λy=>z (h.inj j i c I (by rw[<-y];exact G))];exact h.cell i b kv G e2
 .rw[Qy]at e;by_cases z:j=i
  .rw[if_pos z]at e;split at e
   .cases e;exact nd
   .cases e
  .rw[if_neg z]at e;exact h.ndk i kv e
 .rw[Qy]at e;by_cases z:j=i
  .subst z;rw[if_pos rfl]at e;split at e
   .cases e;exact O
   .cases e
  .rw[if_neg z]at e;exact h.home i kv e
def SlF (a:Addr) (st:SSt) (d:SlD):Addr->Prop:=λb=>b=a\/b=d.tb\/b=d.r0\/b∈d.A0\/(st.nxt.isSome=true/\b=d.r1)\/b∈d.A1
def IsCell (d:SlD) (st:SSt) (k:Int) (c:Addr) (kv:List (Int×V)):Prop:=
 (st.moved<=k%65536%st.size/\d.A0[(k%65536%st.size).toNat]?=some c/\d.C0[(k%65536%st.size).toNat]?=some kv)\/
 (∃m,st.nxt=some m/\k%65536%st.size<st.moved/\d.A1[(k%65536%m).toNat]?=some c/\d.C1[(k%65536%m).toNat]?=some kv)
structure SzOk (st:SSt):Prop where
 pw:st.size∈([4,8,16,32,64,128,256]:List Int)
 nx:∀m,st.nxt=some m->m∈([4,8,16,32,64,128,256]:List Int)/\0<=st.mv/\st.mv<st.size/\(m=2*st.size\/2*m=st.size)
theorem lW {x:Int} (h:x∈([4,8,16,32,64,128,256]:List Int)):x=4\/x=8\/x=16\/x=32\/x=64\/x=128\/x=256:=by simpa using h
theorem bS {x:Int} (h:x∈([4,8,16,32,64,128,256]:List Int)):4<=x/\x<=256:=by
 rcases lW h with h|h|h|h|h|h|h<;>lia
structure SlB (t:Adr) (H:Hp) (a:Addr) (st:SSt) (d:SlD):Prop where
 obj:∃dx,H a=some (.ins t.aZ dx (slF d.tb st.moved d.n))
 tbl:H d.tb=some (.lst (match st.nxt with|none=> [.ref d.r0]|some _=> [.ref d.r0,.ref d.r1]))
 row0:RowOk H d.r0 d.A0 d.C0 st.size
 row1:match st.nxt with|none=>d.A1=[]/\d.C1=[]|some m=>RowOk H d.r1 d.A1 d.C1 m
 dis:∀b,b∈d.A0->b∉d.A1
 tr:d.tb≠d.r0
 tr1:st.nxt.isSome=true->d.tb≠d.r1/\d.r0≠d.r1
 old:∀(j:Nat) (kv:List (Int×V)),d.C0[j]?=some kv->(j:Int)<st.moved->kv=[]
 new:∀(j:Nat) (kv:List (Int×V)),d.C1[j]?=some kv->∀p∈kv,p.1%65536%st.size<st.moved
 val:∀(k:Int) (c:Addr) (kv:List (Int×V)),IsCell d st k c kv->aP kv k=aP st.kv k
section
variable {d:SlD}
theorem SlB.frame (h:SlB t H a st d) (f:∀b,SlF a st d b->H' b=H b):SlB t H' a st d:=by
 obtain⟨dx,z⟩:=h.obj;refine⟨⟨dx,by rw[f a (.inl rfl)];exact z⟩,by rw[f d.tb (.inr (.inl rfl))];exact h.tbl,h.row0.frame λb hb=>f b ?_,?_,h.dis,h.tr,h.tr1,h.old,h.new,h.val⟩
 .rcases hb with hb|hb
  .exact .inr (.inr (.inl hb))
  .exact .inr (.inr (.inr (.inl hb)))
 .have r1:=h.row1;have G:=f;unfold SlF at G;cases e:st.nxt with
  |none=>rw[e]at r1;exact r1
  |some m=>
   rw[e]at r1;refine RowOk.frame (H:=H) r1 λb hb=>f b ?_;unfold SlF;rw[e];rcases hb with hb|hb
   .exact .inr (.inr (.inr (.inr (.inl ⟨rfl,hb⟩))))
   .exact .inr (.inr (.inr (.inr (.inr hb))))
theorem SlB.dom (h:SlB t H a st d) (hb:SlF a st d b):∃o,H b=some o:=by
 obtain⟨dx,z⟩:=h.obj;rcases hb with rfl|rfl|rfl|hb|⟨hs,rfl⟩|hb
 .exact⟨_,z⟩
 .exact⟨_,h.tbl⟩
 .exact⟨_,h.row0.lst⟩
 .obtain⟨_,_,_,_,q⟩:=h.row0.has hb;exact⟨_,q⟩
 .have r1:=h.row1;cases e:st.nxt with
  |none=>rw[e]at hs;cases hs
  |some m=>rw[e]at r1;exact⟨_,r1.lst⟩
 .have r1:=h.row1;cases e:st.nxt with
  |none=>rw[e]at r1;rw[r1.1]at hb;cases hb
  |some m=>rw[e]at r1;obtain⟨_,_,_,_,q⟩:=r1.has hb;exact⟨_,q⟩
theorem SlB.at (h:SlB t H a st d) {kv:List (Int×V)} (G:IsCell d st k c kv):H c=some (.dK (aK kv))/\SlF a st d c/\(kv.map (·.1)).Nodup:=by
 rcases G with⟨_,z,e2⟩|⟨m,I,_,z,e2⟩
 .exact⟨h.row0.cell _ _ _ z e2,.inr (.inr (.inr (.inl (Q1 z)))),h.row0.ndk _ _ e2⟩
 .have r1:=h.row1;rw[I]at r1;exact⟨r1.cell _ _ _ z e2,.inr (.inr (.inr (.inr (.inr (Q1 z))))),r1.ndk _ _ e2⟩
theorem rJ (z:4<=m):0<=k%65536%m/\k%65536%m<m/\((k%65536%m).toNat:Int)=k%65536%m:=by
 have h1:=Qe (k%65536) (show m≠0 by lia);have h2:=Qb (k%65536) (show 0<m by lia);exact⟨h1,h2,Xv h1⟩
theorem dB {l:List α} {z:Int} (G:0<=z) (h1:z<(l.length:Int)):∃x,l[z.toNat]?=some x:=⟨l[z.toNat]'(by lia),Q3 (by lia)⟩
theorem SlB.cell (h:SlB t H a st d) (z:SzOk st) (k:Int):∃c kv,IsCell d st k c kv:=by
 obtain⟨s4,_⟩:=bS z.pw;obtain⟨I,O,m2⟩:=rJ (k:=k) s4;by_cases c:st.moved<=k%65536%st.size
 .obtain⟨x,G⟩:=dB (l:=d.A0) I (by rw[h.row0.la];exact O);obtain⟨y,e2⟩:=dB (l:=d.C0) I (by rw[h.row0.lc];exact O);exact⟨x,y,.inl ⟨c,G,e2⟩⟩
 .cases e:st.nxt with
  |none=>
   exfalso;have:st.moved=0:=by unfold SSt.moved;rw[e]
   lia
  |some m=>
   obtain⟨Z,_⟩:=z.nx m e;obtain⟨s5,_⟩:=bS Z;obtain⟨U,Y,n2⟩:=rJ (k:=k) s5;have r1:=h.row1;rw[e]at r1;obtain⟨x,G⟩:=dB (l:=d.A1) U (by rw[r1.la];exact Y);obtain⟨y,e2⟩:=dB (l:=d.C1) U (by rw[r1.lc];exact Y);exact⟨x,y,.inr ⟨m,e,by lia,G,e2⟩⟩
theorem IsCell.uniq {U:Addr} {kv:List (Int×V)} (x:IsCell d st k c kv) (y:IsCell d st k U kv'):c=U/\kv=kv':=by
 rcases x with⟨Y,O,e2⟩|⟨m,Z,Y,O,e2⟩<;>rcases y with⟨g0,z,G⟩|⟨m',I,g0,z,G⟩
 .rw[O]at z;rw[e2]at G;cases z;cases G;exact⟨rfl,rfl⟩
 .lia
 .lia
 .rw[Z]at I;cases I;rw[O]at z;rw[e2]at G;cases z;cases G;exact⟨rfl,rfl⟩
theorem SlB.setN (h:SlB t H a st d):SlB t (upd H a (.ins t.aZ dx (slF d.tb st.moved n))) a st {d with n:=n}:=by
 obtain⟨O,G⟩:=h.obj;have I:d.tb≠a:=cq h.tbl G (by intro z;cases z);refine⟨⟨dx,ac⟩,by show upd H a _ d.tb=_;rw[ae I];exact h.tbl,h.row0.frame λb hb=>ae ?_,?_,h.dis,h.tr,h.tr1,h.old,h.new,h.val⟩
 .rcases hb with rfl|hb
  .exact cq h.row0.lst G (by intro z;cases z)
  .exact h.row0.notr hb G (λ_ z=>by cases z)
 .have r1:=h.row1;cases e:st.nxt with
  |none=>rw[e]at r1;exact r1
  |some m=>
   rw[e]at r1;refine RowOk.frame (H:=H) r1 λb hb=>ae ?_;rcases hb with rfl|hb
   .exact cq r1.lst G (by intro z;cases z)
   .exact r1.notr hb G (λ_ z=>by cases z)
theorem SlB.setCell (h:SlB t H a st d) (z:SzOk st) {kv:List (Int×V)} (ic:IsCell d st k c kv) (nd:(kv'.map (·.1)).Nodup) (hm:∀p∈kv',p∈kv\/p.1=k)
  (hk:aP kv' k=aP kvs k) (ho:∀j,j≠k->aP kv' j=aP kv j/\aP kvs j=aP st.kv j):
  ∃d',SlB t (upd H c (.dK (aK kv'))) a {st with kv:=kvs} d'/\d'.n=d.n/\∀b,SlF a {st with kv:=kvs} d' b↔SlF a st d b:=by
 obtain⟨hc,hf,_⟩:=h.at ic;obtain⟨dx,a1⟩:=h.obj;obtain⟨s4,_⟩:=bS z.pw;obtain⟨m0,m1,m2⟩:=rJ (k:=k) s4;have na:a≠c:=cq a1 hc (by intro z;cases z);have nt:d.tb≠c:=cq h.tbl hc (by intro z;cases z);have nr:d.r0≠c:=cq h.row0.lst hc (by intro z;cases z);have a0:∀(d':SlD) (j:Int) (b:Addr) (x:List (Int×V)),IsCell d' {st with kv:=kvs} j b x->(∀y,IsCell d st j b y->(x=y/\b≠c)\/(x=kv'/\y=kv))->(∃y,IsCell d st j b y)->aP x j=aP kvs j:=λd' j b x hx f ⟨y,hy⟩=>by
  by_cases e:j=k
  .subst e;obtain⟨rfl,rfl⟩:=IsCell.uniq hy ic;rcases f y hy with⟨_,z⟩|⟨rfl,_⟩
   .exact absurd rfl z
   .exact hk
  .rw[(ho j e).2];rcases f y hy with⟨rfl,_⟩|⟨rfl,rfl⟩
   .exact h.val j b x hy
   .rw[(ho j e).1];exact h.val j b y hy
 rcases ic with⟨h0,e1,e2⟩|⟨m,em,h0,e1,e2⟩
 .have Y:c∈d.A0:=Q1 e1;have Z:∀p∈kv',p.1%65536%st.size=((k%65536%st.size).toNat:Int):=λp hp=>by
   rcases hm p hp with q|q
   .exact h.row0.home _ _ e2 p q
   .rw[q,m2]
  refine⟨{d with C0:=d.C0.set (k%65536%st.size).toNat kv'},⟨⟨dx,by rw[ae na];exact a1⟩,by show upd H c _ d.tb=_;rw[ae nt];exact h.tbl,h.row0.set e1 nd Z,?_,h.dis,h.tr,h.tr1,λj x e lt=>?_,h.new,λj b x hx=>?_⟩,rfl,λb=>Iff.rfl⟩
  .have r1:=h.row1;show match st.nxt with|none=>_|some m=>_
   cases e:st.nxt with
   |none=>rw[e]at r1;exact r1
   |some m=>
    rw[e]at r1;refine RowOk.frame (H:=H) r1 λb hb=>ae ?_;rcases hb with rfl|hb
    .exact cq r1.lst hc (by intro z;cases z)
    .exact λy=>h.dis c Y (y▸hb)
  .have e:(d.C0.set (k%65536%st.size).toNat kv')[j]?=some x:=e;have lt:(j:Int)<st.moved:=lt;rw[Qy]at e;by_cases q:(k%65536%st.size).toNat=j
   .exfalso;lia
   .rw[if_neg q]at e;exact h.old j x e lt
  .refine a0 _ j b x hx (λy hy=>?_) ?_
   .rcases hx with⟨U,G,O⟩|⟨m',I,U,G,O⟩
    .have O:(d.C0.set (k%65536%st.size).toNat kv')[(j%65536%st.size).toNat]?=some x:=O;have G:d.A0[(j%65536%st.size).toNat]?=some b:=G;have U:st.moved<=j%65536%st.size:=U;rcases hy with⟨_,y1,y2⟩|⟨_,_,y0,_,_⟩
     .rw[Qy]at O;by_cases q:(k%65536%st.size).toNat=(j%65536%st.size).toNat
      .rw[if_pos q]at O;split at O
       .cases O;rw[<-q,e2]at y2;cases y2;exact .inr ⟨rfl,rfl⟩
       .cases O
      .rw[if_neg q,y2]at O;cases O;exact .inl ⟨rfl,λw=>q (h.row0.inj _ _ c e1 (by rw[<-w];exact G))⟩
     .lia
    .have G:d.A1[(j%65536%m').toNat]?=some b:=G;have O:d.C1[(j%65536%m').toNat]?=some x:=O;have U:j%65536%st.size<st.moved:=U;have I:st.nxt=some m':=I;rcases hy with⟨y0,_,_⟩|⟨m2,e3,y0,y1,y2⟩
     .lia
     .rw[I]at e3;cases e3;rw[O]at y2;cases y2;exact .inl ⟨rfl,λw=>h.dis c Y (w▸Q1 G)⟩
   .obtain⟨b',y,hy⟩:=h.cell z j;have:b'=b:=by
     rcases hx with⟨U,G,O⟩|⟨m',I,U,G,O⟩<;>rcases hy with⟨y0,y1,y2⟩|⟨m3,e3,y0,y1,y2⟩
     .have G:d.A0[(j%65536%st.size).toNat]?=some b:=G;rw[y1]at G;exact Option.some.inj G
     .have U:st.moved<=j%65536%st.size:=U;lia
     .have U:j%65536%st.size<st.moved:=U;lia
     .have I:st.nxt=some m':=I;rw[I]at e3;cases e3;have G:d.A1[(j%65536%m').toNat]?=some b:=G;rw[y1]at G;exact Option.some.inj G
    subst this;exact⟨y,hy⟩
 .have r1:=h.row1;rw[em]at r1;have Y:c∈d.A1:=Q1 e1;obtain⟨pm,_⟩:=z.nx m em;obtain⟨s5,_⟩:=bS pm;obtain⟨n0,n1,n2⟩:=rJ (k:=k) s5;have Z:∀p∈kv',p.1%65536%m=((k%65536%m).toNat:Int):=λp hp=>by
   rcases hm p hp with q|q
   .exact r1.home _ _ e2 p q
   .rw[q,n2]
  refine⟨{d with C1:=d.C1.set (k%65536%m).toNat kv'},⟨⟨dx,by rw[ae na];exact a1⟩,by show upd H c _ d.tb=_;rw[ae nt];exact h.tbl,h.row0.frame λb hb=>ae ?_,?_,h.dis,h.tr,h.tr1,h.old,λj x e p hp=>?_,λj b x hx=>?_⟩,rfl,λb=>Iff.rfl⟩
  .rcases hb with rfl|hb
   .exact nr
   .exact λy=>h.dis b hb (y▸Y)
  .show match st.nxt with|none=>_|some m=>_
   rw[em];exact r1.set e1 nd Z
  .have e:(d.C1.set (k%65536%m).toNat kv')[j]?=some x:=e;show p.1%65536%st.size<st.moved;rw[Qy]at e;by_cases q:(k%65536%m).toNat=j
   .rw[if_pos q]at e;split at e
    .cases e;rcases hm p hp with q|q
     .exact h.new _ _ e2 p q
     .rw[q];exact h0
    .cases e
   .rw[if_neg q]at e;exact h.new j x e p hp
  .refine a0 _ j b x hx (λy hy=>?_) ?_
   .rcases hx with⟨U,G,O⟩|⟨m',I,U,G,O⟩
    .have G:d.A0[(j%65536%st.size).toNat]?=some b:=G;have O:d.C0[(j%65536%st.size).toNat]?=some x:=O;have U:st.moved<=j%65536%st.size:=U;rcases hy with⟨_,y1,y2⟩|⟨_,_,y0,_,_⟩
     .rw[O]at y2;cases y2;exact .inl ⟨rfl,λw=>h.dis b (Q1 G) (w▸Y)⟩
     .lia
    .have I:st.nxt=some m':=I;rw[em]at I;cases I;have O:(d.C1.set (k%65536%m).toNat kv')[(j%65536%m).toNat]?=some x:=O;have G:d.A1[(j%65536%m).toNat]?=some b:=G;have U:j%65536%st.size<st.moved:=U;rcases hy with⟨y0,_,_⟩|⟨m2,e3,y0,y1,y2⟩
     .lia
     .rw[em]at e3;cases e3;rw[Qy]at O;by_cases q:(k%65536%m).toNat=(j%65536%m).toNat
      .rw[if_pos q]at O;split at O
       .cases O;rw[<-q,e2]at y2;cases y2;exact .inr ⟨rfl,rfl⟩
       .cases O
      .rw[if_neg q,y2]at O;cases O;exact .inl ⟨rfl,λw=>q (r1.inj _ _ c e1 (by rw[<-w];exact G))⟩
   .obtain⟨b',y,hy⟩:=h.cell z j;have:b'=b:=by
     rcases hx with⟨U,G,O⟩|⟨m',I,U,G,O⟩<;>rcases hy with⟨y0,y1,y2⟩|⟨m3,e3,y0,y1,y2⟩
     .have G:d.A0[(j%65536%st.size).toNat]?=some b:=G;rw[y1]at G;exact Option.some.inj G
     .have U:st.moved<=j%65536%st.size:=U;lia
     .have U:j%65536%st.size<st.moved:=U;lia
     .have I:st.nxt=some m':=I;rw[I]at e3;cases e3;have G:d.A1[(j%65536%m').toNat]?=some b:=G;rw[y1]at G;exact Option.some.inj G
    subst this;exact⟨y,hy⟩
end
theorem uZ {kv:List (Int×V)} {p:Int×V} (h:p∈bz kv k v):p∈kv\/p.1=k:=by
 unfold bz at h;split at h
 .obtain⟨q,hq,e⟩:=Qh.mp h;by_cases z:q.1=k
  .rw[if_pos z]at e;rw[<-e];exact .inr z
  .rw[if_neg z]at e;rw[<-e];exact .inl hq
 .rcases Q5.mp h with h|h
  .exact .inl h
  .rw[Q7.mp h];exact .inr rfl
theorem Hl {kv:List (Int×V)} {p:Int×V} (h:p∈kv):(aP kv p.1).isSome=true:=mem_keys.mp (Qh.mpr ⟨p,h,rfl⟩)
def gp (m:Int) (C:List (List (Int×V))) (p:Int×V):List (List (Int×V)):=C.set (p.1%65536%m).toNat (bz (C.getD (p.1%65536%m).toNat []) p.1 p.2)
theorem E1 {C:List (List (Int×V))} {p:Int×V}:(gp m C p).length=C.length:=QI
theorem Ca {m:Int}:∀{kv:List (Int×V)} {C:List (List (Int×V))},(kv.foldl (gp m) C).length=C.length
 | [],_=>rfl
 |p::r,C=>by rw[List.foldl_cons,Ca,E1]
theorem zP {C:List (List (Int×V))} {p:Int×V} {y:List (Int×V)} (e:C[j]?=some y):(gp m C p)[j]?=some (if(p.1%65536%m).toNat=j then bz y p.1 p.2 else y):=by
 unfold gp;rw[Qy];by_cases z:(p.1%65536%m).toNat=j
 .have G:j<C.length:=(Q2.mp e).1;rw[if_pos z,if_pos z,if_pos (by rw[z];exact G),Qm,z,e];rfl
 .rw[if_neg z,if_neg z,e]
theorem yD {m:Int}:∀{kv:List (Int×V)} {C:List (List (Int×V))} {j:Nat} {y:List (Int×V)},(kv.map (·.1)).Nodup->C[j]?=some y->∃x,(kv.foldl (gp m) C)[j]?=some x/\
  (∀p∈x,p∈y\/p.1∈kv.map (·.1))/\∀k,aP x k=if(k%65536%m).toNat=j then(aP kv k).or (aP y k)else aP y k
 | [],C,j,y,_,e=>⟨y,e,λp G=> .inl G,λk=>by rw[lH];simp⟩
 |p::r,C,j,y,nd,e=>by
  obtain⟨I,O⟩:=QM.mp (show(p.1::r.map (·.1)).Nodup from nd);obtain⟨x,h1,h2,U⟩:=yD (m:=m) O (zP (m:=m) (p:=p) e);refine⟨x,h1,λq hq=>?_,λk=>?_⟩
  .rcases h2 q hq with z|z
   .split at z
    .rcases uZ z with z|z
     .exact .inl z
     .exact .inr (Qh.mpr ⟨p,Q9,z.symm⟩)
    .exact .inl z
   .exact .inr (Qd _ z)
  .rw[U k];by_cases z:(k%65536%m).toNat=j
   .rw[if_pos z,if_pos z];by_cases w:p.1=k
    .subst w;have:aP r p.1=none:=by
      cases q:aP r p.1 with
      |none=>rfl
      |some v=>exact absurd (tN q) I
     rw[this,bq rfl,if_pos z,gW,if_pos rfl];rfl
    .rw[bn w];congr 1;split
     .rw[gW,if_neg (Ne.symm w)]
     .rfl
   .rw[if_neg z,if_neg z];split
    .rename_i w
     rw[gW,if_neg (λy=>z (by rw[y];exact w))]
    .rfl
theorem RowOk.mov {r:Addr} {C:List (List (Int×V))} {y:List (Int×V)} (h:RowOk H r A C sz) (s4:4<=sz) (I:A[(k%65536%sz).toNat]?=some c) (G:C[(k%65536%sz).toNat]?=some y):
  RowOk (upd H c (.dK (aK (bz y k v)))) r A (gp sz C (k,v)) sz:=by
 have e:gp sz C (k,v)=C.set (k%65536%sz).toNat (bz y k v):=by
  unfold gp;rw[Qm];show C.set (k%65536%sz).toNat (bz (C[(k%65536%sz).toNat]?.getD []) k v)=_;rw[G];rfl
 rw[e];obtain⟨Y,Z,O⟩:=rJ (k:=k) s4;refine h.set I (Bn (h.ndk _ _ G)) λp U=>?_;rcases uZ U with z|z
 .exact h.home _ _ G p z
 .rw[z,O]
section
variable {d:SlD}
theorem SSt.moved_some (e:st.nxt=some m):st.moved=st.mv:=by unfold SSt.moved;rw[e]
theorem SSt.moved_none (e:st.nxt=none):st.moved=0:=by unfold SSt.moved;rw[e]
theorem SlB.movVal (h:SlB t H a st d) (z:SzOk st) (G:st.nxt=some m) {kv:List (Int×V)} (I:d.C0[st.mv.toNat]?=some kv) (hk:k%65536%st.size<=st.mv) {x:List (Int×V)}
  (ex:(kv.foldl (gp m) d.C1)[(k%65536%m).toNat]?=some x):aP x k=aP st.kv k:=by
 obtain⟨pm,v0,v1,_⟩:=z.nx m G;obtain⟨s4,_⟩:=bS z.pw;obtain⟨s5,_⟩:=bS pm;have r1:=h.row1;rw[G]at r1;obtain⟨n0,n1,n2⟩:=rJ (k:=k) s5;obtain⟨m0,m1,m2⟩:=rJ (k:=k) s4;obtain⟨y,O⟩:=dB (l:=d.C1) n0 (by rw[r1.lc];exact n1);obtain⟨c1,U⟩:=dB (l:=d.A1) n0 (by rw[r1.la];exact n1);obtain⟨x',e',_,hv⟩:=yD (m:=m) (h.row0.ndk _ _ I) O;rw[ex]at e';cases e';rw[hv k,if_pos rfl];have hm:=SSt.moved_some G;by_cases c:k%65536%st.size=st.mv
 .obtain⟨b0,Y⟩:=dB (l:=d.A0) m0 (by rw[h.row0.la];exact m1);have Z:IsCell d st k b0 kv:= .inl ⟨by lia,Y,by rw[c];exact I⟩;have yn:aP y k=none:=by
   cases q:aP y k with
   |none=>rfl
   |some v=>
    obtain⟨p,hp,e⟩:=Qh.mp (tN q);have:=h.new _ _ O p hp;rw[e]at this;lia
  rw[h.val k b0 kv Z,yn];simp
 .have Z:IsCell d st k c1 y:= .inr ⟨m,G,by lia,U,O⟩;have kn:aP kv k=none:=by
   cases q:aP kv k with
   |none=>rfl
   |some v=>
    obtain⟨p,hp,e⟩:=Qh.mp (tN q);have:=h.row0.home _ _ I p hp;rw[e]at this;lia
  rw[kn,h.val k c1 y Z];rfl
theorem dN {l:List α} {x y:α} (e:(l.set i x)[j]?=some y):(i=j/\y=x)\/(i≠j/\l[j]?=some y):=by
 rw[Qy]at e;by_cases z:i=j
 .rw[if_pos z]at e;split at e
  .cases e;exact .inl ⟨z,rfl⟩
  .cases e
 .rw[if_neg z]at e;exact .inr ⟨z,e⟩
theorem SlB.one (h:SlB t H a st d) (z:SzOk st) (Y:st.nxt=some m) {kv:List (Int×V)} (ek:d.C0[st.mv.toNat]?=some kv) {b':Addr} (nl:st.mv+1≠st.size)
  (ha:H' a=some (.ins t.aZ dx (slF d.tb (st.mv+1) d.n))) (ht:H' d.tb=H d.tb) (h0:H' d.r0=some (.lst ((d.A0.set st.mv.toNat b').map V.ref))) (hb:H' b'=some (.dK [])) (hF:¬SlF a st d b')
  (hA:∀(j:Nat) b,d.A0[j]?=some b->j≠st.mv.toNat->H' b=H b) (hr:RowOk H' d.r1 d.A1 (kv.foldl (gp m) d.C1) m):
  SlB t H' a st.one {d with A0:=d.A0.set st.mv.toNat b',C0:=d.C0.set st.mv.toNat [],C1:=kv.foldl (gp m) d.C1}:=by
 obtain⟨pm,v0,v1,_⟩:=z.nx m Y;have a1:st.one={st with mv:=st.mv+1}:=by unfold SSt.one;rw[Y];exact if_neg nl
 have G:({st with mv:=st.mv+1}:SSt).moved=st.mv+1:=SSt.moved_some (st:={st with mv:=st.mv+1}) Y;have hm:=SSt.moved_some Y;have a2:b'∉d.A0:=λq=>hF (.inr (.inr (.inr (.inl q))));have a3:b'∉d.A1:=λq=>hF (.inr (.inr (.inr (.inr (.inr q)))));rw[a1];have r1:=h.row1;rw[Y]at r1;refine⟨⟨dx,by rw[G];exact ha⟩,by rw[ht];exact h.tbl,⟨h0,by rw[QI];exact h.row0.la,by rw[QI];exact h.row0.lc,λj b x Z e2=>?_,λj x e=>?_,λi j b Z e2=>?_,λj x e p hp=>?_⟩,?_,λb a4 hb1=>?_,h.tr,h.tr1,λj x e lt=>?_,λj x e p hp=>?_,λk c x ic=>?_⟩
 .rcases dN Z with⟨q,rfl⟩|⟨q,Z⟩
  .rcases dN e2 with⟨_,rfl⟩|⟨q2,_⟩
   .exact hb
   .exact absurd q q2
  .rcases dN e2 with⟨q2,_⟩|⟨_,e2⟩
   .exact absurd q2 q
   .rw[hA j b Z (Ne.symm q)];exact h.row0.cell j b x Z e2
 .rcases dN e with⟨_,rfl⟩|⟨_,e⟩
  .exact Zj
  .exact h.row0.ndk j x e
 .have Z:(d.A0.set st.mv.toNat b')[i]?=some b:=Z;have e2:(d.A0.set st.mv.toNat b')[j]?=some b:=e2;rcases dN Z with⟨q,y1⟩|⟨q,O⟩<;>rcases dN e2 with⟨q2,y2⟩|⟨q2,I⟩
  .exact q.symm.trans q2
  .rw[y1]at I;exact absurd (Q1 I) a2
  .rw[y2]at O;exact absurd (Q1 O) a2
  .exact h.row0.inj i j b O I
 .rcases dN e with⟨_,rfl⟩|⟨_,e⟩
  .cases hp
  .exact h.row0.home j x e p hp
 .show match st.nxt with|none=>_|some m=>_
  rw[Y];exact hr
 .obtain⟨j,hj,e⟩:=Qz (show b∈d.A0.set st.mv.toNat b' from a4);rcases dN (Q2.mpr ⟨hj,e⟩)with⟨_,rfl⟩|⟨_,e⟩
  .exact a3 hb1
  .exact h.dis b (Q1 e) hb1
 .rw[G]at lt;rcases dN e with⟨_,rfl⟩|⟨q,e⟩
  .rfl
  .exact h.old j x e (by lia)
 .rw[G];show p.1%65536%st.size<st.mv+1;obtain⟨y,ey⟩:∃y,d.C1[j]?=some y:=by
   have hj:j<(kv.foldl (gp m) d.C1).length:=(Q2.mp e).1;rw[Ca]at hj;exact⟨_,Q3 hj⟩
  obtain⟨x',e',a0,_⟩:=yD (m:=m) (h.row0.ndk _ _ ek) ey;have e:(kv.foldl (gp m) d.C1)[j]?=some x:=e;rw[e]at e';cases e';rcases a0 p hp with q|q
  .have:=h.new j y ey p q;lia
  .obtain⟨p',a0,e3⟩:=Qh.mp q;have:=h.row0.home _ _ ek p' a0;rw[e3]at this;lia
 .show aP x k=aP st.kv k;rcases ic with⟨g0,O,I⟩|⟨m',U,g0,O,I⟩
  .rw[G]at g0;have g0:st.mv+1<=k%65536%st.size:=g0;have O:(d.A0.set st.mv.toNat b')[(k%65536%st.size).toNat]?=some c:=O;have I:(d.C0.set st.mv.toNat [])[(k%65536%st.size).toNat]?=some x:=I;rcases dN O with⟨q,_⟩|⟨_,O⟩
   .lia
   .rcases dN I with⟨q,_⟩|⟨_,I⟩
    .lia
    .exact h.val k c x (.inl ⟨by lia,O,I⟩)
  .rw[G]at g0;have U:st.nxt=some m':=U;rw[Y]at U;cases U;have g0:k%65536%st.size<st.mv+1:=g0;exact h.movVal z Y ek (by lia) I
theorem SlB.last (h:SlB t H a st d) (z:SzOk st) (U:st.nxt=some m) {kv:List (Int×V)} (Y:d.C0[st.mv.toNat]?=some kv) {tb':Addr} (l:st.mv+1=st.size)
  (ha:H' a=some (.ins t.aZ dx (slF tb' 0 d.n))) (Z:H' tb'=some (.lst [.ref d.r1])) (hn:tb'≠d.r1) (hr:RowOk H' d.r1 d.A1 (kv.foldl (gp m) d.C1) m):
  SlB t H' a st.one ⟨tb',d.r1,d.r1,d.A1,[],kv.foldl (gp m) d.C1,[],d.n⟩:=by
 have G:st.one={st with size:=m,nxt:=none,mv:=0}:=by unfold SSt.one;rw[U];exact if_pos l
 obtain⟨s4,_⟩:=bS z.pw;rw[G];refine⟨⟨dx,ha⟩,Z,hr,⟨rfl,rfl⟩,(λb _ q=>by cases q),hn,(λq=>by cases q),λj x e lt=>?_,(λj x e=>by simp at e),λk c x ic=>?_⟩
 .have lt:(j:Int)<0:=lt;lia
 .rcases ic with⟨g0,f1,I⟩|⟨m',O,_⟩
  .have I:(kv.foldl (gp m) d.C1)[(k%65536%m).toNat]?=some x:=I;obtain⟨m0,m1,m2⟩:=rJ (k:=k) s4;exact h.movVal z U Y (by lia) I
  .cases O
theorem SlB.begin (h:SlB t H a st d) (en:st.nxt=none) {r:Addr} (ha:H' a=H a) (ht:H' d.tb=some (.lst [.ref d.r0,.ref r])) (h0:∀b,b=d.r0\/b∈d.A0->H' b=H b)
  (hr:RowOk H' r A (List.replicate m.toNat []) m) (O:¬SlF a st d r) (nA:∀b∈A,¬SlF a st d b):SlB t H' a {st with nxt:=some m,mv:=0} {d with r1:=r,A1:=A,C1:=List.replicate m.toNat []}:=by
 obtain⟨dx,U⟩:=h.obj;have Y:=SSt.moved_none en;refine⟨⟨dx,by rw[ha];rw[Y]at U;exact U⟩,ht,h.row0.frame h0,hr,λb q q2=>nA b q2 (.inr (.inr (.inr (.inl q)))),h.tr,λ_=>⟨λq=>O (.inr (.inl q.symm)),λq=>O (.inr (.inr (.inl q.symm)))⟩,λj x e lt=>?_,λj x e p hp=>?_,λk c x ic=>?_⟩
 .have lt:(j:Int)<0:=lt;lia
 .have:=Zv (Q1 e);subst this;cases hp
 .rcases ic with⟨G,Z,I⟩|⟨m',a0,G,Z,I⟩
  .refine h.val k c x (.inl ⟨?_,Z,I⟩);rw[Y];exact G
  .have G:k%65536%st.size<0:=G;have I:(List.replicate m.toNat ([]:List (Int×V)))[(k%65536%m').toNat]?=some x:=I;have:0<=k%65536%st.size:=by
    have z:(0:Int)<=st.size:=by rw[<-h.row0.la];lia
    rcases Int.lt_or_eq_of_le z with q|q
    .exact Qe _ (by lia)
    .rw[<-q,Int.emod_zero];exact Qe _ (by decide)
   lia
theorem SlB.fresh {r:Addr} (ha:H a=some (.ins t.aZ dx (slF tb 0 0))) (I:H tb=some (.lst [.ref r])) (O:RowOk H r A (List.replicate 4 []) 4) (n:tb≠r):SlB t H a SSt.new ⟨tb,r,r,A,[],List.replicate 4 [],[],0⟩:=by
 refine⟨⟨dx,ha⟩,I,O,⟨rfl,rfl⟩,(λb _ q=>by cases q),n,(λq=>by cases q),λj x e lt=>?_,(λj x e=>by simp at e),λk c x U=>?_⟩
 .have lt:(j:Int)<0:=lt;lia
 .rcases U with⟨Y,Z,z⟩|⟨m',G,_⟩
  .have z:(List.replicate 4 ([]:List (Int×V)))[(k%65536%4).toNat]?=some x:=z;have:=Zv (Q1 z);subst this;rfl
  .cases G
theorem SlB.short (h:SlB t H a st d) (z:SzOk st) {kv:List (Int×V)} (ic:IsCell d st k c kv):kv.length<=st.kv.length:=by
 obtain⟨_,_,nd⟩:=h.at ic;have sub:∀x∈kv.map (·.1),x∈st.kv.map (·.1):=λx hx=>by
  obtain⟨p,I,e⟩:=Qh.mp hx;subst e;refine mem_keys.mpr ?_;have hs:=Hl I;have:∃O,IsCell d st p.1 O kv:=by
   rcases ic with⟨g0,U,G⟩|⟨m,Y,g0,U,G⟩
   .obtain⟨s4,_⟩:=bS z.pw;obtain⟨m0,m1,m2⟩:=rJ (k:=k) s4;have e:=h.row0.home _ _ G p I;rw[m2]at e;exact⟨c,.inl ⟨by rw[e];exact g0,by rw[e];exact U,by rw[e];exact G⟩⟩
   .obtain⟨pm,_⟩:=z.nx m Y;obtain⟨s5,_⟩:=bS pm;obtain⟨n0,n1,n2⟩:=rJ (k:=k) s5;have r1:=h.row1;rw[Y]at r1;have e:=r1.home _ _ G p I;rw[n2]at e;exact⟨c,.inr ⟨m,Y,h.new _ _ G p I,by rw[e];exact U,by rw[e];exact G⟩⟩
  obtain⟨O,Z⟩:=this;rw[<-h.val p.1 O kv Z];exact hs
 have:=iu nd sub;rw[Q0,Q0]at this;exact this
end
theorem zO {m:Int}:∀{kv:List (Int×V)} {C:List (List (Int×V))} {j:Nat} {x y:List (Int×V)},C[j]?=some y->(kv.foldl (gp m) C)[j]?=some x->x.length<=y.length+kv.length
 | [],C,j,x,y,e,f=>by
  have f:C[j]?=some x:=f;rw[e]at f;cases f;exact Q4 _
 |p::r,C,j,x,y,e,f=>by
  have h:=zO (m:=m) (zP (m:=m) (p:=p) e) f;have l:=cn y p.1 p.2;rw[Qp];split at h<;>lia
section
variable {d:SlD}
theorem SlB.short0 (h:SlB t H a st d) (z:SzOk st) {kv:List (Int×V)} (e:d.C0[j]?=some kv):kv.length<=st.kv.length:=by
 cases kv with
 |nil=>exact Qj _
 |cons p r=>
  have O:=h.row0.home j _ e p Q9;have U:¬(j:Int)<st.moved:=λq=>by have:=h.old j _ e q;cases this
  have G:(p.1%65536%st.size).toNat=j:=by lia
  have I:j<d.A0.length:=by
   have:=h.row0.la;have:=h.row0.lc;have:=(Q2.mp e).1;lia
  exact h.short z (k:=p.1) (c:=d.A0[j]) (.inl ⟨by lia,by rw[G];exact Q3 I,by rw[G];exact e⟩)
theorem SlB.short1 (h:SlB t H a st d) (z:SzOk st) (G:st.nxt=some m) {kv:List (Int×V)} (e:d.C1[j]?=some kv):kv.length<=st.kv.length:=by
 have r1:=h.row1;rw[G]at r1;cases kv with
 |nil=>exact Qj _
 |cons p r=>
  have Y:=r1.home j _ e p Q9;have O:=h.new j _ e p Q9;have I:(p.1%65536%m).toNat=j:=by lia
  have U:j<d.A1.length:=by
   have:=r1.la;have:=r1.lc;have:=(Q2.mp e).1;lia
  exact h.short z (k:=p.1) (c:=d.A1[j]) (.inr ⟨m,G,O,by rw[I];exact Q3 U,by rw[I];exact e⟩)
end
theorem SzOk.new:SzOk SSt.new:=⟨by decide,λm e=>by cases e⟩
theorem SzOk.kv (z:SzOk st):SzOk {st with kv:=kvs}:=⟨z.pw,z.nx⟩
theorem SzOk.one (z:SzOk st):SzOk st.one:=by
 unfold SSt.one;cases e:st.nxt with
 |none=>exact z
 |some m=>
  obtain⟨G,O,U,I⟩:=z.nx m e;show SzOk (if _ then _ else _);split
  .exact⟨G,λm' q=>by cases q⟩
  .rename_i c
   refine⟨z.pw,λm' q=>?_⟩;have q:some m=some m':=q;cases q;exact⟨G,by show 0<=st.mv+1;lia,by show st.mv+1<st.size;lia,I⟩
theorem KK {x:Int} (h:x∈([4,8,16,32,64,128,256]:List Int)) (c:x<256):2*x∈([4,8,16,32,64,128,256]:List Int):=by
 rcases lW h with rfl|rfl|rfl|rfl|rfl|rfl|rfl<;>first|decide|exact absurd c (by decide)
theorem Iq {x:Int} (h:x∈([4,8,16,32,64,128,256]:List Int)) (c:4<x):x/2∈([4,8,16,32,64,128,256]:List Int)/\2*(x/2)=x:=by
 rcases lW h with rfl|rfl|rfl|rfl|rfl|rfl|rfl<;>first|decide|exact absurd c (by decide)
theorem Ip {x:Int} (h:x∈([4,8,16,32,64,128,256]:List Int)):0<x:=by
 rcases lW h with rfl|rfl|rfl|rfl|rfl|rfl|rfl<;>decide
theorem SzOk.three (z:SzOk st):SzOk st.three:=by
 unfold SSt.three;cases e:st.nxt with
 |some m=>exact z
 |none=>
  show SzOk (if _ then _ else _);split
  .rename_i c
   refine⟨z.pw,λm' q=>?_⟩;cases q;exact⟨KK z.pw c.2,Zt _,Ip z.pw,.inl rfl⟩
  .split
   .rename_i c
    refine⟨z.pw,λm' q=>?_⟩;cases q;exact⟨(Iq z.pw c.2).1,Zt _,Ip z.pw,.inr (Iq z.pw c.2).2⟩
   .exact z
def SlA (_K:PySem.W.Frag) (t:Adr) (H:Hp) (a:Addr) (F:Addr->Prop) (st:SSt):Prop:=
 ∃d,SlB t H a st d/\(∀b,F b↔SlF a st d b)/\d.n=(st.kv.length:Int)/\(st.kv.map (·.1)).Nodup/\SzOk st
section
theorem SlA.ins (h:SlA K t H a F st):∃dx fs,H a=some (.ins t.aZ dx fs)/\∀m,NoM m->fs.lookup m=none:=by
 obtain⟨d,hb,_⟩:=h;obtain⟨dx,z⟩:=hb.obj;exact⟨dx,_,z,λm G=>Im G⟩
theorem SlA.dom (h:SlA K t H a F st) (hb:F b):∃o,H b=some o:=by
 obtain⟨d,h1,h2,_⟩:=h;exact h1.dom ((h2 b).mp hb)
theorem SlA.frame (h:SlA K t H a F st) (f:∀b,F b->H' b=H b):SlA K t H' a F st:=by
 obtain⟨d,h1,h2,z⟩:=h;exact⟨d,h1.frame λb hb=>f b ((h2 b).mpr hb),h2,z⟩
end
section
theorem SlA.same (h:SlA K t H a F st) (s:Same H H'):SlA K t H' a F st:=h.frame λb hb=>by
 obtain⟨o,e⟩:=h.dom hb;rw[e];exact s b o e
theorem SlA.out (h:SlA K t H a F st) (e:H p=none):¬F p:=λz=>by
 obtain⟨o,q⟩:=h.dom z;rw[q]at e;cases e
theorem SlA.upd (h:SlA K t H a F st) (e:¬F p):SlA K t (L2.upd H p o) a F st:=h.frame λb hb=>ae λz=>e (z▸hb)
theorem SlA.new (h:SlA K t H a F st) (e:H p=none):SlA K t (L2.upd H p o) a F st:=h.upd (h.out e)
end
def ud (K:PySem.W.Frag) (t:Adr):Sp:=λvs H Q _=>∃(a dx:Addr),vs=[.ref a]/\H a=some (.ins t.aZ dx [])/\H dx=some (.own a)/\∀H' F,SlA K t H' a F SSt.new->Fr (λb=>b=a\/b=dx) F H H'->Q .non H'
def vV (K:PySem.W.Frag) (t:Adr):Sp:=λvs H Q _=>∃(a:Addr) (k i:Int) (F:Addr->Prop) (st:SSt),vs=[.ref a,.int k,.int i]/\SlA K t H a F st/\0<=k/\st.kv.length<4096/\
 ∀H' F',SlA K t H' a F' (st.put k (.int i))->Fr F F' H H'->Q .non H'
def uf (K:PySem.W.Frag) (t:Adr):Sp:=λvs H Q E=>∃(a:Addr) (k:Int) (F:Addr->Prop) (st:SSt),vs=[.ref a,.int k]/\SlA K t H a F st/\0<=k/\
 ((aP st.kv k).isSome=true->st.kv.length<4096/\∀H' F',SlA K t H' a F' (st.drop k)->Fr F F' H H'->Q .non H')/\(aP st.kv k=none->False)
def vX (K:PySem.W.Frag) (t:Adr):Sp:=λvs H Q E=>∃(a:Addr) (k:Int) (F:Addr->Prop) (st:SSt),vs=[.ref a,.int k]/\SlA K t H a F st/\0<=k/\
 (∀v,aP st.kv k=some v->∀H' F',SlA K t H' a F' st->Fr F F' H H'->Q v H')/\(aP st.kv k=none->False)
def vW (K:PySem.W.Frag) (t:Adr):Sp:=λvs H Q _=>∃(a:Addr) (k:Int) (F:Addr->Prop) (st:SSt),vs=[.ref a,.int k]/\SlA K t H a F st/\0<=k/\
 ∀H' F',SlA K t H' a F' st->Fr F F' H H'->Q (.bl (aP st.kv k).isSome) H'
def uc (K:PySem.W.Frag) (t:Adr):Sp:=λvs H Q _=>∃(a:Addr) (F:Addr->Prop) (st:SSt),vs=[.ref a]/\SlA K t H a F st/\
 ∀H' F' l,SlA K t H' a F' st->Fr F F' H H'->H l=none->¬F' l->H' l=some (.lst (st.rows.map V.int))->Q (.ref l) H'
def cN (l:List Int):Prop:=l.Pairwise (· < ·)
structure LvOk (ls:List (List Int)):Prop where
 ne:∀l∈ls,l≠[]
 le:∀l∈ls,l.length<=8
 nb:∀(i:Nat) (x y:List Int),ls[i]?=some x->ls[i+1]?=some y->5<=x.length+y.length
 up:cN ls.flatten
theorem LvOk.nil:LvOk []:=⟨(λ_ h=>by cases h),(λ_ h=>by cases h),(λi x y e=>by simp at e),List.Pairwise.nil⟩
theorem JV (e:ls[i]?=some x):ls=ls.take i++x::ls.drop (i+1):=by
 obtain⟨h,e⟩:=Q2.mp e;rw[<-e,<-Z2 h,QJ]
theorem gM (e:ls[i]?=some x):ls.flatten=(ls.take i).flatten++(x++(ls.drop (i+1)).flatten):=by
 conv=>lhs;rw[JV e]
 rw[Ze,Zc]
theorem rise3 {a b c:List Int}:cN (a++(b++c))↔cN a/\cN b/\cN c/\(∀x∈a,∀y∈b,x<y)/\(∀x∈a,∀y∈c,x<y)/\∀x∈b,∀y∈c,x<y:=by
 unfold cN;rw[Qk,Qk];constructor
 .rintro ⟨h1,⟨h2,I,O⟩,G⟩;exact⟨h1,h2,I,λx hx y hy=>G x hx y (ZX _ hy),λx hx y hy=>G x hx y (Qv _ hy),O⟩
 .rintro ⟨h1,h2,I,O,G,U⟩;refine⟨h1,⟨h2,I,U⟩,λx hx y hy=>?_⟩;rcases Q5.mp hy with z|z
  .exact O x hx y z
  .exact G x hx y z
structure LeafOf (ls:List (List Int)) (k:Int) (i:Nat):Prop where
 le:i<=ls.length
 lo:∀(j:Nat) (x:List Int),j<i->ls[j]?=some x->∀y∈x,y<k
 hi:∀x,ls[i]?=some x->∃y∈x,k<=y
theorem zj {y:Int} (h:y∈(ls.take i).flatten):∃(j:Nat) (x:List Int),j<i/\ls[j]?=some x/\y∈x:=by
 obtain⟨x,hx,hy⟩:=XO.mp h;obtain⟨j,z,e⟩:=Qz hx;rw[Q8]at z;rw[Zs]at e;exact⟨j,x,by lia,Q2.mpr ⟨by lia,e⟩,hy⟩
theorem LeafOf.ahead (h:LeafOf ls k i):∀y∈(ls.take i).flatten,y<k:=λy hy=>by
 obtain⟨j,x,z,e,hx⟩:=zj hy;exact h.lo j x z e y hx
theorem LeafOf.behind (o:LvOk ls) (h:LeafOf ls k i):∀y∈(ls.drop (i+1)).flatten,k<y:=λy hy=>by
 cases e:ls[i]? with
 |none=>
  have:ls.length<=i:=Zn.mp e;rw[Zg (by lia)]at hy;cases hy
 |some x=>
  obtain⟨z,hz,le⟩:=h.hi x e;have up:=o.up;rw[gM e]at up;have:=(rise3.mp up).2.2.2.2.2 z hz y hy;lia
theorem LeafOf.mem (o:LvOk ls) (h:LeafOf ls k i):k∈ls.flatten↔∃x,ls[i]?=some x/\k∈x:=by
 constructor
 .intro hk;cases e:ls[i]? with
  |none=>
   have l:ls.length<=i:=Zn.mp e;have:ls.take i=ls:=Qt l;have:=h.ahead k (by rw[this];exact hk);lia
  |some x=>
   rw[gM e]at hk;rcases Q5.mp hk with z|z
   .have:=h.ahead k z;lia
   .rcases Q5.mp z with z|z
    .exact⟨x,rfl,z⟩
    .have:=h.behind o k z;lia
 .rintro ⟨x,e,hk⟩;exact XO.mpr ⟨x,Q1 e,hk⟩
theorem Ag:∀{l:List Int} {k:Int},cN l->k∉l->(∀x∈l.take (l.filter (λz=>decide (z<k))).length,x<k)/\∀x∈l.drop (l.filter (λz=>decide (z<k))).length,k<x
 | [],k,_,_=>⟨λx h=>by simp at h,λx h=>by simp at h⟩
 |a::r,k,up,nk=>by
  obtain⟨h1,h2⟩:=Z5.mp up;have G:k∉r:=λz=>nk (Qd _ z);have U:a≠k:=λz=>nk (by rw[z];exact Q9);by_cases c:a<k
  .obtain⟨I,O⟩:=Ag h2 G;rw[ZT,if_pos (by simpa using c),Qp,Xw,List.drop_succ_cons];refine⟨λx hx=>?_,O⟩;rcases Qg.mp hx with rfl|hx
   .exact c
   .exact I x hx
  .have:(a::r).filter (λz=>decide (z<k))=[]:=by
    rw[ZR];intro x hx;rcases Qg.mp hx with rfl|hx
    .simpa using c
    .have:=h1 x hx;simp;lia
   rw[this];refine⟨λx hx=>by simp at hx,λx hx=>?_⟩;have hx:x∈a::r:=by simpa using hx
   rcases Qg.mp hx with rfl|hx
   .lia
   .have:=h1 x hx;lia
def fY (l:List Int) (k:Int):List Int:=l.take (l.filter (λz=>decide (z<k))).length++k::l.drop (l.filter (λz=>decide (z<k))).length
theorem Fo:(fY l k).length=l.length+1:=by
 have h:=Qo (λz=>decide (z<k)) l;unfold fY;rw[Qa,Qp,Q8,QA];lia
theorem insL_mem {x:Int}:x∈fY l k↔x=k\/x∈l:=by
 unfold fY;rw[Q5,Qg];have:x∈l↔x∈l.take (l.filter (λz=>decide (z<k))).length\/x∈l.drop (l.filter (λz=>decide (z<k))).length:=by
  rw[<-Q5,QJ]
 rw[this];constructor
 .rintro (h|h|h)
  .exact .inr (.inl h)
  .exact .inl h
  .exact .inr (.inr h)
 .rintro (h|h|h)
  .exact .inr (.inl h)
  .exact .inl h
  .exact .inr (.inr h)
theorem Du (up:cN l) (G:k∉l):cN (fY l k):=by
 obtain⟨h1,h2⟩:=Ag up G;have up':cN (l.take (l.filter (λz=>decide (z<k))).length++l.drop (l.filter (λz=>decide (z<k))).length):=by rw[QJ];exact up
 obtain⟨I,O,U⟩:=Qk.mp up';unfold fY;refine Qk.mpr ⟨I,Z5.mpr ⟨h2,O⟩,λx hx y hy=>?_⟩;rcases Qg.mp hy with rfl|hy
 .exact h1 x hx
 .exact U x hx y hy
structure AddAt (ls:List (List Int)) (k:Int) (i:Nat) (x:List Int):Prop where
 at_:ls[i]?=some x
 lo:∀y∈(ls.take i).flatten,y<k
 hi:∀y∈(ls.drop (i+1)).flatten,k<y
theorem LeafOf.add (o:LvOk ls) (h:LeafOf ls k i) (G:ls≠[]):∃x,AddAt ls k (min i (ls.length-1)) x:=by
 have hl:0<ls.length:=QZ.mpr G;by_cases c:i<ls.length
 .have:min i (ls.length-1)=i:=by lia
  rw[this];exact⟨ls[i],Q3 c,h.ahead,h.behind o⟩
 .have le:=h.le;have:min i (ls.length-1)=ls.length-1:=by lia
  rw[this];have z:ls.length-1<ls.length:=by lia
  refine⟨ls[ls.length-1],Q3 z,λy hy=>?_,λy hy=>?_⟩
  .obtain⟨j,x,I,e,hx⟩:=zj hy;exact h.lo j x (by lia) e y hx
  .rw[Zg (by lia)]at hy;cases hy
theorem yg (e:ls[i]?=some x):ls.set i y=ls.take i++y::ls.drop (i+1):=by
 have hi:=(Q2.mp e).1;rw[List.set_eq_take_append_cons_drop,if_pos hi]
theorem pQ (e:ls[i]?=some x):(ls.set i y).flatten=(ls.take i).flatten++(y++(ls.drop (i+1)).flatten):=by
 rw[yg e,Ze,Zc]
theorem AddAt.set (o:LvOk ls) (h:AddAt ls k i x) (G:k∉ls.flatten):cN (ls.set i (fY x k)).flatten/\∀z,z∈(ls.set i (fY x k)).flatten↔z=k\/z∈ls.flatten:=by
 have up:=o.up;rw[gM h.at_]at up G;obtain⟨I,O,U,Y,Z,u6⟩:=rise3.mp up;have nx:k∉x:=λz=>G (Qv _ (ZX _ z));rw[pQ h.at_,gM h.at_];refine⟨rise3.mpr ⟨I,Du O nx,U,λa ha b hb=>?_,Z,λa ha b hb=>?_⟩,λz=>?_⟩
 .rcases insL_mem.mp hb with rfl|hb
  .exact h.lo a ha
  .exact Y a ha b hb
 .rcases insL_mem.mp ha with rfl|ha
  .exact h.hi b hb
  .exact u6 a ha b hb
 .rw[Q5,Q5,Q5,Q5,insL_mem];constructor
  .rintro (h|(h|h)|h)
   .exact .inr (.inl h)
   .exact .inl h
   .exact .inr (.inr (.inl h))
   .exact .inr (.inr (.inr h))
  .rintro (h|h|h|h)
   .exact .inr (.inl (.inl h))
   .exact .inl h
   .exact .inr (.inl (.inr h))
   .exact .inr (.inr h)
theorem qi {z:List Int} (e:ls[i]?=some x) (f:(ls.set i y)[j]?=some z):(i=j/\z=y)\/(i≠j/\ls[j]?=some z):=by
 rw[Qy]at f;by_cases c:i=j
 .rw[if_pos c]at f;split at f
  .cases f;exact .inl ⟨c,rfl⟩
  .cases f
 .rw[if_neg c]at f;exact .inr ⟨c,f⟩
theorem tO {z:List Int} (e:ls[i]?=some x) (h:z∈ls.set i y):z=y\/z∈ls:=by
 obtain⟨j,G,I⟩:=Qz h;rcases qi e (Q2.mpr ⟨G,I⟩)with⟨_,q⟩|⟨_,q⟩
 .exact .inl q
 .exact .inr (Q1 q)
theorem LvOk.grown (o:LvOk ls) (e:ls[i]?=some x) (l1:x.length<=y.length) (l2:y.length<=8) (up:cN (ls.set i y).flatten):LvOk (ls.set i y):=by
 have hx:=o.ne x (Q1 e);have px:0<x.length:=QZ.mpr hx;refine⟨λl hl=>?_,λl hl=>?_,λj a b f g=>?_,up⟩
 .rcases tO e hl with rfl|hl
  .exact Zo (by lia)
  .exact o.ne l hl
 .rcases tO e hl with rfl|hl
  .exact l2
  .exact o.le l hl
 .rcases qi e f with⟨c,h1⟩|⟨c,z⟩<;>rcases qi e g with⟨G,h2⟩|⟨G,I⟩
  .lia
  .subst c;have:=o.nb i x b e I;rw[h1];lia
  .rw[G]at e;have:=o.nb j a x z e;rw[h2];lia
  .exact o.nb j a b z I
theorem LvOk.parted {a b:List Int} (o:LvOk ls) (e:ls[i]?=some x) (U:a.length=4) (Y:b.length=5) (up:cN (ls.set i (a++b)).flatten):
  LvOk ((ls.set i a).take (i+1)++b::(ls.set i a).drop (i+1))/\((ls.set i a).take (i+1)++b::(ls.set i a).drop (i+1)).flatten=(ls.set i (a++b)).flatten:=by
 have hi:=(Q2.mp e).1;have lt:(ls.take i).length=i:=by rw[Q8];lia
 have O:(ls.set i a).take (i+1)++b::(ls.set i a).drop (i+1)=ls.take i++a::b::ls.drop (i+1):=by
  rw[yg (y:=a) e];have h1:(ls.take i++a::ls.drop (i+1)).take (i+1)=ls.take i++ [a]:=by
   rw[List.take_append,lt,Qt (by lia)];have:i+1-i=1:=by lia
   rw[this];rfl
  have h2:(ls.take i++a::ls.drop (i+1)).drop (i+1)=ls.drop (i+1):=by
   rw[List.drop_append,lt,Zg (by lia)];have:i+1-i=1:=by lia
   rw[this];rfl
  rw[h1,h2,Ql];rfl
 have e2:(ls.take i++a::b::ls.drop (i+1)).flatten=(ls.set i (a++b)).flatten:=by
  rw[pQ e,Ze,Zc,Zc,Ql]
 rw[O];refine⟨⟨λl hl=>?_,λl hl=>?_,λj p q f g=>?_,by rw[e2];exact up⟩,e2⟩
 .rcases Q5.mp hl with h|h
  .exact o.ne l (QY h)
  .rcases Qg.mp h with rfl|h
   .exact Zo (by lia)
   .rcases Qg.mp h with rfl|h
    .exact Zo (by lia)
    .exact o.ne l (ZD h)
 .rcases Q5.mp hl with h|h
  .exact o.le l (QY h)
  .rcases Qg.mp h with rfl|h
   .lia
   .rcases Qg.mp h with rfl|h
    .lia
    .exact o.le l (ZD h)
 .have look:∀(j:Nat) (p:List Int),(ls.take i++a::b::ls.drop (i+1))[j]?=some p->(j<i/\ls[j]?=some p)\/(j=i/\p=a)\/(j=i+1/\p=b)\/(i+2<=j/\ls[j-1]?=some p):=λj p f=>by
   rw[Xp,lt]at f;split at f
   .rename_i c
    rw[List.getElem?_take,if_pos c]at f;exact .inl ⟨c,f⟩
   .rename_i c
    rcases(show j=i\/j=i+1\/i+2<=j by lia)with rfl|rfl|h
    .have:j-j=0:=by lia
     rw[this]at f;cases f;exact .inr (.inl ⟨rfl,rfl⟩)
    .have:i+1-i=1:=by lia
     rw[this]at f;cases f;exact .inr (.inr (.inl ⟨rfl,rfl⟩))
    .obtain⟨n,rfl⟩:∃n,j=i+2+n:=⟨j-(i+2),by lia⟩;have:i+2+n-i=n+1+1:=by lia
     rw[this,Xe,Xe,X4]at f;refine .inr (.inr (.inr ⟨h,?_⟩));have:i+2+n-1=i+1+n:=by lia
     rw[this];exact f
  have pos:∀(j:Nat) (p:List Int),ls[j]?=some p->1<=p.length:=λj p f=>QZ.mpr (o.ne p (Q1 f));rcases look j p f with⟨c,z⟩|⟨c,h1⟩|⟨c,h1⟩|⟨c,z⟩<;>rcases look (j+1) q g with⟨I,G⟩|⟨I,h2⟩|⟨I,h2⟩|⟨I,G⟩<;>(try rw[h1])<;>(try rw[h2])<;>(try lia)
  .exact o.nb j p q z G
  .have:=pos j p z;lia
  .have:j+1-1=j-1+1:=by lia
   rw[this]at G;exact o.nb (j-1) p q z G
def lvF (L:Addr):List (Str×V):=[("leaves",.ref L)]
theorem cJ:(lvF L).lookup ("leaves":Str)=some (.ref L):=by
 have hb:(("leaves":Str)==("leaves":Str))=true:=beq_iff_eq.mpr rfl;unfold lvF;simp only[List.lookup,hb]
theorem IC {m:Str} (h:m≠("leaves":Str)):(lvF L).lookup m=none:=by
 have hb:(m==("leaves":Str))=false:=beq_eq_false_iff_ne.mpr h;unfold lvF;simp only[List.lookup,hb]
structure LvB (t:Adr) (H:Hp) (a L:Addr) (A:List Addr) (ls:List (List Int)):Prop where
 obj:∃dx,H a=some (.ins t.bB dx (lvF L))
 lst:H L=some (.lst (A.map V.ref))
 len:A.length=ls.length
 leaf:∀(j:Nat) (b:Addr) (l:List Int),A[j]?=some b->ls[j]?=some l->H b=some (.lst (l.map V.int))
 inj:∀(i j:Nat) (b:Addr),A[i]?=some b->A[j]?=some b->i=j
 nL:L∉A
def LvF (a L:Addr) (A:List Addr):Addr->Prop:=λb=>b=a\/b=L\/b∈A
section
theorem LvB.at (h:LvB t H a L A ls) (e:ls[i]?=some x):∃c,A[i]?=some c/\H c=some (.lst (x.map V.int)):=by
 have hi:i<A.length:=by rw[h.len];exact(Q2.mp e).1
 exact⟨A[i],Q3 hi,h.leaf i _ x (Q3 hi) e⟩
theorem LvB.has (h:LvB t H a L A ls) (hb:b∈A):∃(j:Nat) (l:List Int),A[j]?=some b/\ls[j]?=some l/\H b=some (.lst (l.map V.int)):=by
 obtain⟨j,z,e⟩:=Qz hb;have hc:j<ls.length:=by rw[<-h.len];exact z
 have G:A[j]?=some b:=by rw[Q3 z,e]
 exact⟨j,ls[j],G,Q3 hc,h.leaf j b _ G (Q3 hc)⟩
theorem LvB.frame (h:LvB t H a L A ls) (f:∀b,LvF a L A b->H' b=H b):LvB t H' a L A ls:=by
 obtain⟨dx,G⟩:=h.obj;exact⟨⟨dx,by rw[f a (.inl rfl)];exact G⟩,by rw[f L (.inr (.inl rfl))];exact h.lst,h.len,λj b l z e2=>by rw[f b (.inr (.inr (Q1 z)))];exact h.leaf j b l z e2,h.inj,h.nL⟩
theorem LvB.dom (h:LvB t H a L A ls) (hb:LvF a L A b):∃o,H b=some o:=by
 obtain⟨dx,z⟩:=h.obj;rcases hb with rfl|rfl|hb
 .exact⟨_,z⟩
 .exact⟨_,h.lst⟩
 .obtain⟨_,_,_,_,q⟩:=h.has hb;exact⟨_,q⟩
theorem LvB.same (h:LvB t H a L A ls) (s:Same H H'):LvB t H' a L A ls:=h.frame λb hb=>by
 obtain⟨o,e⟩:=h.dom hb;rw[e,s b o e]
theorem LvB.out (h:LvB t H a L A ls) (n:H p=none):¬LvF a L A p:=λz=>by
 obtain⟨o,e⟩:=h.dom z;rw[n]at e;cases e
theorem LvB.write (h:LvB t H a L A ls) (G:A[i]?=some c) (ex:ls[i]?=some x):LvB t (upd H c (.lst (y.map V.int))) a L A (ls.set i y):=by
 obtain⟨dx,O⟩:=h.obj;have hc:=h.leaf i c x G ex;have U:=Q1 G;refine⟨⟨dx,by rw[ae (cq O hc (by intro z;cases z))];exact O⟩,by rw[ae (λz=>h.nL (by rw[z];exact U))];exact h.lst,by rw[QI];exact h.len,λj b l I e2=>?_,h.inj,h.nL⟩;rw[Qy]at e2;by_cases z:i=j
 .subst z;rw[G]at I;cases I;rw[if_pos rfl]at e2;split at e2
  .cases e2;exact ac
  .cases e2
 .rw[if_neg z]at e2;rw[ae (λy=>z (h.inj i j c G (by rw[<-y];exact I)))];exact h.leaf j b l I e2
theorem LvB.swap (h:LvB t H a L A ls) {n:Addr} (ec:A[i]?=some c) (ex:ls[i]?=some x) (Y:H n=some (.lst (y.map V.int))) (I:¬LvF a L A n):LvB t (upd H L (.lst ((A.set i n).map V.ref))) a L (A.set i n) (ls.set i y):=by
 obtain⟨dx,O⟩:=h.obj;have nA:n∉A:=λz=>I (.inr (.inr z));have U:n≠L:=λz=>I (.inr (.inl z));refine⟨⟨dx,by rw[ae (cq O h.lst (by intro z;cases z))];exact O⟩,ac,by rw[QI,QI];exact h.len,λj b l G e2=>?_,λj k b G e2=>?_,λz=>?_⟩
 .rw[Qy]at G e2;by_cases z:i=j
  .rw[if_pos z]at G e2;split at G
   .cases G;split at e2
    .cases e2;rw[ae U];exact Y
    .cases e2
   .cases G
  .rw[if_neg z]at G e2;rw[ae (λy=>h.nL (by rw[<-y];exact Q1 G))];exact h.leaf j b l G e2
 .rw[Qy]at G e2;by_cases z:i=j
  .rw[if_pos z]at G;split at G
   .cases G;by_cases w:i=k
    .exact z.symm.trans w
    .rw[if_neg w]at e2;exact absurd (Q1 e2) nA
   .cases G
  .rw[if_neg z]at G;by_cases w:i=k
   .rw[if_pos w]at e2;split at e2
    .cases e2;exact absurd (Q1 G) nA
    .cases e2
   .rw[if_neg w]at e2;exact h.inj j k b G e2
 .obtain⟨j,Z,e⟩:=Qz z;have G:=Q2.mpr ⟨Z,e⟩;rw[Qy]at G;by_cases w:i=j
  .rw[if_pos w]at G;split at G
   .cases G;exact U rfl
   .cases G
  .rw[if_neg w]at G;exact h.nL (Q1 G)
theorem ins_get {l:List α} {x y:α} (hi:i<=l.length) (e:(l.take i++x::l.drop i)[j]?=some y):(j<i/\l[j]?=some y)\/(j=i/\y=x)\/(i<j/\l[j-1]?=some y):=by
 have lt:(l.take i).length=i:=by rw[Q8];lia
 rw[Xp,lt]at e;split at e
 .rename_i c
  rw[List.getElem?_take,if_pos c]at e;exact .inl ⟨c,e⟩
 .rename_i c
  rcases(show j=i\/i<j by lia)with rfl|h
  .have:j-j=0:=by lia
   rw[this]at e;cases e;exact .inr (.inl ⟨rfl,rfl⟩)
  .obtain⟨n,rfl⟩:∃n,j=i+1+n:=⟨j-(i+1),by lia⟩;have:i+1+n-i=n+1:=by lia
   rw[this,Xe,X4]at e;have:i+1+n-1=i+n:=by lia
   exact .inr (.inr ⟨h,by rw[this];exact e⟩)
theorem LvB.insert (h:LvB t H a L A ls) {n:Addr} (hi:i<=A.length) (hn:H n=some (.lst (y.map V.int))) (Z:¬LvF a L A n):
  LvB t (upd H L (.lst ((A.take i++n::A.drop i).map V.ref))) a L (A.take i++n::A.drop i) (ls.take i++y::ls.drop i):=by
 obtain⟨dx,ho⟩:=h.obj;have nA:n∉A:=λz=>Z (.inr (.inr z));have nL:n≠L:=λz=>Z (.inr (.inl z));have U:i<=ls.length:=by rw[<-h.len];exact hi
 refine⟨⟨dx,by rw[ae (cq ho h.lst (by intro z;cases z))];exact ho⟩,ac,?_,λj b l Y e2=>?_,λj k b Y e2=>?_,λz=>?_⟩
 .have:=h.len;rw[Qa,Qa,Qp,Qp,Q8,Q8,QA,QA];lia
 .rcases ins_get hi Y with⟨O,G⟩|⟨O,G⟩|⟨O,G⟩<;>rcases ins_get U e2 with⟨c2,I⟩|⟨c2,I⟩|⟨c2,I⟩<;>(try lia)
  .rw[ae (λy=>h.nL (by rw[<-y];exact Q1 G))];exact h.leaf j b l G I
  .rw[G,I,ae nL];exact hn
  .rw[ae (λy=>h.nL (by rw[<-y];exact Q1 G))];exact h.leaf (j-1) b l G I
 .rcases ins_get hi Y with⟨O,G⟩|⟨O,G⟩|⟨O,G⟩<;>rcases ins_get hi e2 with⟨c2,I⟩|⟨c2,I⟩|⟨c2,I⟩
  .exact h.inj j k b G I
  .rw[I]at G;exact absurd (Q1 G) nA
  .have:=h.inj _ _ b G I;lia
  .rw[G]at I;exact absurd (Q1 I) nA
  .lia
  .rw[G]at I;exact absurd (Q1 I) nA
  .have:=h.inj _ _ b G I;lia
  .rw[I]at G;exact absurd (Q1 G) nA
  .have:=h.inj _ _ b G I;lia
 .rcases Q5.mp z with z|z
  .exact h.nL (QY z)
  .rcases Qg.mp z with z|z
   .exact nL z.symm
   .exact h.nL (ZD z)
theorem nJ {l:List α} {y:α} (e:(l.eraseIdx i)[j]?=some y):(j<i/\l[j]?=some y)\/(i<=j/\l[j+1]?=some y):=by
 rw[List.getElem?_eraseIdx]at e;split at e
 .rename_i c;exact .inl ⟨c,e⟩
 .rename_i c;exact .inr ⟨by lia,e⟩
theorem LvB.erase (h:LvB t H a L A ls):LvB t (upd H L (.lst ((A.eraseIdx i).map V.ref))) a L (A.eraseIdx i) (ls.eraseIdx i):=by
 obtain⟨dx,Y⟩:=h.obj;refine⟨⟨dx,by rw[ae (cq Y h.lst (by intro z;cases z))];exact Y⟩,ac,?_,λj b l O e2=>?_,λj k b O e2=>?_,λz=>h.nL (Z6 z)⟩
 .rw[Xq,Xq,h.len]
 .have Z:b∈A:=Z6 (Q1 O);rw[ae (λy=>h.nL (by rw[<-y];exact Z))];rcases nJ O with⟨U,G⟩|⟨U,G⟩<;>rcases nJ e2 with⟨c2,I⟩|⟨c2,I⟩<;>(try lia)
  .exact h.leaf j b l G I
  .exact h.leaf (j+1) b l G I
 .rcases nJ O with⟨U,G⟩|⟨U,G⟩<;>rcases nJ e2 with⟨c2,I⟩|⟨c2,I⟩
  .exact h.inj j k b G I
  .have:=h.inj _ _ b G I;lia
  .have:=h.inj _ _ b G I;lia
  .have:=h.inj _ _ b G I;lia
end
theorem xf (up:cN ls.flatten) (ex:ls[i]?=some x) (z:ls[j]?=some y) (h:i<j):∀p∈x,∀q∈y,p<q:=λp G q hq=>by
 rw[gM ex]at up;refine(rise3.mp up).2.2.2.2.2 p G q (XO.mpr ⟨y,?_,hq⟩);refine Q1 (i:=j-(i+1)) ?_;rw[X4];have:i+1+(j-(i+1))=j:=by lia
 rw[this];exact z
theorem G2 (up:cN ls.flatten) (ex:ls[i]?=some x):cN x:=by
 rw[gM ex]at up;exact(rise3.mp up).2.1
theorem Fi (up:cN x) (G:x≠[]):∃m,x[x.length-1]?=some m/\m∈x/\∀y∈x,y<=m:=by
 have hl:=QZ.mpr G;have z:x.length-1<x.length:=by lia
 refine⟨x[x.length-1],Q3 z,Zh z,λy hy=>?_⟩;obtain⟨j,I,e⟩:=Qz hy;rcases(show j=x.length-1\/j<x.length-1 by lia)with h|h
 .subst h;rw[e];exact Zt _
 .have:=Z3.mp up j (x.length-1) I z h;rw[e]at this;lia
structure LvN (ls:List (List Int)) (E:Nat->Prop):Prop where
 ne:∀l∈ls,l≠[]
 le:∀l∈ls,l.length<=8
 nb:∀(i:Nat) (x y:List Int),ls[i]?=some x->ls[i+1]?=some y->E i\/5<=x.length+y.length
 up:cN ls.flatten
theorem LvN.ok (h:LvN ls E) (no:∀i,¬E i):LvOk ls:=⟨h.ne,h.le,λi x y z e2=>(h.nb i x y z e2).resolve_left (no i),h.up⟩
def oj (ls:List (List Int)) (i:Nat):List (List Int):=match ls[i]?,ls[i+1]? with
 |some x,some y=>if x.length+y.length<5 then(ls.set i (x++y)).eraseIdx (i+1)else ls
 |_,_=>ls
theorem vd (h:ls.length<=i+1):oj ls i=ls:=by
 unfold oj;have:ls[i+1]?=none:=Zn.mpr h;rw[this];split
 .rename_i h2;cases h2
 .rfl
theorem zY (ex:ls[i]?=some x) (z:ls[i+1]?=some y):oj ls i=if x.length+y.length<5 then(ls.set i (x++y)).eraseIdx (i+1)else ls:=by
 unfold oj;rw[ex,z]
theorem Ds:(oj ls i).length<=ls.length/\ls.length<=(oj ls i).length+1:=by
 unfold oj;split
 .split
  .rw[Xq,QI];split<;>lia
  .lia
 .lia
theorem vc {z v:List Int} (e:((ls.set i z).eraseIdx (i+1))[j]?=some v):(j<i/\ls[j]?=some v)\/(j=i/\v=z)\/(i<j/\ls[j+1]?=some v):=by
 rw[List.getElem?_eraseIdx]at e;split at e
 .rename_i c
  rw[Qy]at e;by_cases h:i=j
  .rw[if_pos h]at e;split at e
   .cases e;exact .inr (.inl ⟨h.symm,rfl⟩)
   .cases e
  .rw[if_neg h]at e;exact .inl ⟨by lia,e⟩
 .rename_i c
  rw[Qy,if_neg (by lia)]at e;exact .inr (.inr ⟨by lia,e⟩)
theorem Dr (ex:ls[i]?=some x) (z:ls[i+1]?=some y):((ls.set i (x++y)).eraseIdx (i+1)).flatten=ls.flatten:=by
 have hi:=(Q2.mp ex).1;have lt:(ls.take i).length=i:=by rw[Q8];lia
 have hy:ls.drop (i+1)=y::ls.drop (i+2):=by
  obtain⟨h,e⟩:=Q2.mp z;rw[<-e,<-Z2 h]
 have G:(ls.set i (x++y)).eraseIdx (i+1)=ls.take i++(x++y)::ls.drop (i+2):=by
  rw[yg ex,hy,Xz (by lia),lt];have:i+1-i=1:=by lia
  rw[this];rfl
 rw[G,gM ex,hy,Ze,Zc,Zc,Ql]
theorem LvN.join (h:LvN ls E) (I:∀j,E j->j=i\/j+1=i):LvN (oj ls i) (λj=>j+1=i/\E j)/\(oj ls i).flatten=ls.flatten:=by
 cases ex:ls[i]? with
 |none=>
  have hl:ls.length<=i:=Zn.mp ex;rw[vd (by lia)];refine⟨⟨h.ne,h.le,λj x y G e2=>?_,h.up⟩,rfl⟩;rcases h.nb j x y G e2 with z|z
  .rcases I j z with rfl|w
   .rw[ex]at G;cases G
   .exact .inl ⟨w,z⟩
  .exact .inr z
 |some x=>
  cases O:ls[i+1]? with
  |none=>
   have hl:ls.length<=i+1:=Zn.mp O;rw[vd hl];refine⟨⟨h.ne,h.le,λj x' y G e2=>?_,h.up⟩,rfl⟩;rcases h.nb j x' y G e2 with z|z
   .rcases I j z with rfl|w
    .rw[O]at e2;cases e2
    .exact .inl ⟨w,z⟩
   .exact .inr z
  |some y=>
   rw[zY ex O];by_cases c:x.length+y.length<5
   .rw[if_pos c];have fl:=Dr ex O;have mem:∀v∈(ls.set i (x++y)).eraseIdx (i+1),v=x++y\/v∈ls:=λv hv=>by
     obtain⟨j,hj,e⟩:=Qz hv;rcases vc (Q2.mpr ⟨hj,e⟩)with⟨_,q⟩|⟨_,q⟩|⟨_,q⟩
     .exact .inr (Q1 q)
     .exact .inl q
     .exact .inr (Q1 q)
    have px:=QZ.mpr (h.ne x (Q1 ex));have a0:(x++y).length=x.length+y.length:=Qa;refine⟨⟨λv hv=>?_,λv hv=>?_,λj u v G e2=>?_,by rw[fl];exact h.up⟩,fl⟩
    .rcases mem v hv with rfl|q
     .exact Zo (by lia)
     .exact h.ne v q
    .rcases mem v hv with rfl|q
     .lia
     .exact h.le v q
    .rcases vc G with⟨Z,U⟩|⟨Z,U⟩|⟨Z,U⟩<;>rcases vc e2 with⟨c2,Y⟩|⟨c2,Y⟩|⟨c2,Y⟩<;>(try lia)
     .rcases h.nb j u v U Y with z|z
      .rcases I j z with w|w
       .lia
       .lia
      .exact .inr z
     .rcases h.nb j u x U (by rw[c2];exact ex)with z|z
      .exact .inl ⟨c2,z⟩
      .rw[Y];exact .inr (by lia)
     .have e3:ls[i+1+1]?=some v:=by rw[<-Z];exact Y
      rcases h.nb (i+1) y v O e3 with z|z
      .rcases I (i+1) z with w|w<;>lia
      .rw[U];exact .inr (by lia)
     .rcases h.nb (j+1) u v U Y with z|z
      .rcases I (j+1) z with w|w<;>lia
      .exact .inr z
   .rw[if_neg c];refine⟨⟨h.ne,h.le,λj u v G e2=>?_,h.up⟩,rfl⟩;rcases h.nb j u v G e2 with z|z
    .rcases I j z with w|w
     .subst w;rw[ex]at G;rw[O]at e2;cases G;cases e2;exact .inr (by lia)
     .exact .inl ⟨w,z⟩
    .exact .inr z
theorem Bm (h:cN l):l.Nodup:=h.imp λh=>Int.ne_of_lt h
theorem LvOk.gone (o:LvOk ls) (ex:ls[i]?=some x) (hk:k∈x):cN (ls.set i (x.erase k)).flatten/\∀z,z∈(ls.set i (x.erase k)).flatten↔z≠k/\z∈ls.flatten:=by
 have up:=o.up;rw[gM ex]at up;obtain⟨U,G,Y,I,Z,O⟩:=rise3.mp up;have sub:(x.erase k).Sublist x:=List.erase_sublist;have nx:=Bm G;rw[pQ ex,gM ex];refine⟨rise3.mpr ⟨U,G.sublist sub,Y,λa ha b hb=>I a ha b (sub.subset hb),Z,λa ha b hb=>O a (sub.subset ha) b hb⟩,λz=>?_⟩;rw[Q5,Q5,Q5,Q5,nx.mem_erase_iff];constructor
 .rintro (h|⟨h1,h2⟩|h)
  .have:=I z h k hk;exact⟨by lia,.inl h⟩
  .exact⟨h1,.inr (.inl h2)⟩
  .have:=O k hk z h;exact⟨by lia,.inr (.inr h)⟩
 .rintro ⟨h0,h|h|h⟩
  .exact .inl h
  .exact .inr (.inl ⟨h0,h⟩)
  .exact .inr (.inr h)
theorem LvOk.shrunk (o:LvOk ls) (ex:ls[i]?=some x) (G:y≠[]) (U:y.length<=x.length) (up:cN (ls.set i y).flatten):LvN (ls.set i y) (λj=>j=i\/j+1=i):=by
 have hx:=o.le x (Q1 ex);refine⟨λl hl=>?_,λl hl=>?_,λj a b f g=>?_,up⟩
 .rcases tO ex hl with rfl|hl
  .exact G
  .exact o.ne l hl
 .rcases tO ex hl with rfl|hl
  .lia
  .exact o.le l hl
 .rcases qi ex f with⟨c,_⟩|⟨c,I⟩
  .exact .inl (.inl c.symm)
  .rcases qi ex g with⟨z,_⟩|⟨z,O⟩
   .exact .inl (.inr z.symm)
   .exact .inr (o.nb j a b I O)
theorem LvOk.out (o:LvOk ls) (ex:ls[i]?=some x) (U:x.length=1) (up:cN (ls.set i []).flatten):LvOk (ls.eraseIdx i)/\(ls.eraseIdx i).flatten=(ls.set i []).flatten:=by
 have hi:=(Q2.mp ex).1;have lt:(ls.take i).length=i:=by rw[Q8];lia
 have I:ls.eraseIdx i=ls.take i++ls.drop (i+1):=List.eraseIdx_eq_take_drop_succ _ _;have fl:(ls.eraseIdx i).flatten=(ls.set i []).flatten:=by
  rw[I,pQ ex,Ze];rfl
 refine⟨⟨λl hl=>o.ne l (Z6 hl),λl hl=>o.le l (Z6 hl),λj a b f g=>?_,by rw[fl];exact up⟩,fl⟩;rcases nJ f with⟨O,z⟩|⟨O,z⟩<;>rcases nJ g with⟨c2,G⟩|⟨c2,G⟩
 .exact o.nb j a b z G
 .have e2:j+1=i:=by lia
  subst e2;have h1:=o.nb j a x z ex;have h2:=o.nb (j+1) x b ex G;lia
 .lia
 .exact o.nb (j+1) a b z G
def LvA (_K:PySem.W.Frag) (t:Adr) (H:Hp) (a:Addr) (F:Addr->Prop) (ks:List Int):Prop:=∃L A ls,LvB t H a L A ls/\LvOk ls/\ls.flatten=ks/\∀b,F b↔LvF a L A b
section
theorem LvA.ins (h:LvA K t H a F ks):∃dx fs,H a=some (.ins t.bB dx fs)/\∀m,m≠("leaves":Str)->fs.lookup m=none:=by
 obtain⟨L,A,ls,hb,_⟩:=h;obtain⟨dx,z⟩:=hb.obj;exact⟨dx,_,z,λm G=>IC G⟩
theorem LvA.dom (h:LvA K t H a F ks) (hb:F b):∃o,H b=some o:=by
 obtain⟨L,A,ls,h1,_,_,h2⟩:=h;exact h1.dom ((h2 b).mp hb)
theorem LvA.frame (h:LvA K t H a F ks) (f:∀b,F b->H' b=H b):LvA K t H' a F ks:=by
 obtain⟨L,A,ls,h1,z,G,h2⟩:=h;exact⟨L,A,ls,h1.frame λb hb=>f b ((h2 b).mpr hb),z,G,h2⟩
theorem LvA.out (h:LvA K t H a F ks) (e:H p=none):¬F p:=λz=>by
 obtain⟨o,q⟩:=h.dom z;rw[q]at e;cases e
theorem LvA.upd (h:LvA K t H a F ks) (e:¬F p):LvA K t (L2.upd H p o) a F ks:=h.frame λb hb=>ae λz=>e (z▸hb)
end
def sM (K:PySem.W.Frag) (t:Adr):Sp:=λvs H Q _=>∃(a dx:Addr),vs=[.ref a]/\H a=some (.ins t.bB dx [])/\H dx=some (.own a)/\∀H' F,LvA K t H' a F []->Fr (λb=>b=a\/b=dx) F H H'->Q .non H'
def ui (K:PySem.W.Frag) (t:Adr):Sp:=λvs H Q _=>∃(a:Addr) (k:Int) (F:Addr->Prop) (ks:List Int),vs=[.ref a,.int k]/\LvA K t H a F ks/\∀H' F',LvA K t H' a F' ks->Fr F F' H H'->Q (.bl (decide (k∈ks))) H'
def uj (K:PySem.W.Frag) (t:Adr):Sp:=λvs H Q E=>∃(a:Addr) (k:Int) (F:Addr->Prop) (ks:List Int),vs=[.ref a,.int k]/\LvA K t H a F ks/\ks.length<4096/\
 (k∉ks->∀H' F' ks',LvA K t H' a F' ks'->(∀z,z∈ks'↔z=k\/z∈ks)->Fr F F' H H'->Q .non H')/\(k∈ks->False)
def oV (K:PySem.W.Frag) (t:Adr):Sp:=λvs H Q E=>∃(a:Addr) (k:Int) (F:Addr->Prop) (ks:List Int),vs=[.ref a,.int k]/\LvA K t H a F ks/\ks.length<4096/\
 (k∈ks->∀H' F' ks',LvA K t H' a F' ks'->(∀z,z∈ks'↔z≠k/\z∈ks)->Fr F F' H H'->Q .non H')/\(k∉ks->False)
theorem LvOk.short (o:LvOk ls):ls.length<=ls.flatten.length:=by
 have h:=o.ne;clear o
 induction ls with
 |nil=>exact Q4 _
 |cons x r z=>
  have:=QZ.mpr (h x Q9);have:=z λl hl=>h l (Qd _ hl);rw[Zc,Qa,Qp];lia
def oU (K:PySem.W.Frag) (t:Adr):Sp:=λvs H Q _=>∃(a:Addr) (k n:Int) (F:Addr->Prop) (ks:List Int),vs=[.ref a,.int k,.int n]/\LvA K t H a F ks/\ks.length<4096/\0<=n/\
 ∀(H':Hp) (l:Addr),Same H H'->H l=none->H' l=some (.lst (((ks.filter λz=>decide (k<=z)).take n.toNat).map V.int))->Q (.ref l) H'
theorem mN (h:0<=n):nS xs none (some n)=xs.take n.toNat:=by
 unfold nS HT.sIx;simp only[Z9,Nat.sub_zero];rw[if_neg (by lia)];rcases Nat.le_total n.toNat xs.length with c|c
 .rw[X0 c]
 .rw[XQ c,QF,Qt c]
theorem Dx (o:LvOk ls) (h:LeafOf ls k i0):∀z∈(ls.take i0).flatten,¬k<=z:=λz hz=>by
 have:=h.ahead z hz;lia
def eh (k:Option Int) (z:Int):Bool:=match k with|none=>true|some k=>decide (z<=k)
def vDn:Option Int->V|none=> .non|some k=> .int k
def lK (K:PySem.W.Frag) (t:Adr):Sp:=λvs H Q _=>∃(a:Addr) (k:Option Int) (n:Int) (F:Addr->Prop) (ks:List Int),vs=[.ref a,vDn k,.int n]/\LvA K t H a F ks/\ks.length<4096/\0<=n/\
 ∀(H':Hp) (l:Addr),Same H H'->H l=none->H' l=some (.lst (((ks.reverse.filter (eh k)).take n.toNat).map V.int))->Q (.ref l) H'
def SSt.low (s:SSt):Int:=match s.nxt with
 |none=>s.size
 |some m=>if m<s.size then m else s.size
theorem Fc {M:Int} (h:M∈st.rows) (l:∀x∈st.rows,M<=x):M=st.low:=by
 unfold SSt.rows at h l;unfold SSt.low;cases e:st.nxt with
 |none=>rw[e]at h;simpa using h
 |some m=>
  rw[e]at h l;have h:M=st.size\/M=m:=by simpa using h
  have l1:=l st.size (by simp);have l2:=l m (by simp);show M=if m<st.size then m else st.size
  split<;>lia
theorem jq (z:SzOk st):st.low∈([4,8,16,32,64,128,256]:List Int):=by
 unfold SSt.low;cases e:st.nxt with
 |none=>exact z.pw
 |some m=>
  show(if m<st.size then m else st.size)∈_;split
  .exact(z.nx m e).1
  .exact z.pw
theorem yp {x:Int} (h:x∈([4,8,16,32,64,128,256]:List Int)):∃a b,Row x a b:=by
 rcases lW h with h|h|h|h|h|h|h<;>subst h
 .exact⟨_,_,o7 (k:=0) (by decide)⟩
 .exact⟨_,_,o7 (k:=1) (by decide)⟩
 .exact⟨_,_,o7 (k:=2) (by decide)⟩
 .exact⟨_,_,o7 (k:=3) (by decide)⟩
 .exact⟨_,_,o7 (k:=4) (by decide)⟩
 .exact⟨_,_,o7 (k:=5) (by decide)⟩
 .exact⟨_,_,o7 (k:=6) (by decide)⟩
theorem x6 {S p:Int} {a b:Nat} (R:Row S a b) (G:0<=p) (h1:p<65536):tz (tz p%S)+65536/S=(p/(65536/S)+1)*(65536/S):=by
 have hs:=R.st_has (m:=tz p) (qP p);rw[BV G h1]at hs;have I:=R.slot (s:=tz p%S) (R.mod0 _) (R.mod1 _);have w:=R.width;have z:=R.wpos';rw[I.1,<-w]at hs⊢;have:p/(65536/S)=rz a (tz p%S):=by
  have k0:=Qe p (QR z);have O:=Qb p z;have k2:=Xl p (65536/S);exact R.between z (x:=p/(65536/S)) (y:=rz a (tz p%S)) (p:=p) (by lia) (by lia) hs.1 hs.2
 rw[this,Int.add_mul,Int.one_mul,Xh]
def ua (K:PySem.W.Frag) (t:Adr):Sp:=λvs H Q _=>∃(a:Addr) (p:Int) (F:Addr->Prop) (st:SSt),vs=[.ref a,.int p]/\SlA K t H a F st/\0<=p/\p<65536/\
 ∀H' F',SlA K t H' a F' st->Fr F F' H H'->Q (.int ((p/(65536/st.low)+1)*(65536/st.low))) H'
structure wU (kd:Str) (fs:List (Str×V)) (a e:V):Prop where
 ki:fs.lookup ("kind":Str)=some (.str kd)
 at_:fs.lookup ("at":Str)=some a
 end_:fs.lookup ("end":Str)=some e
 wo:fs.lookup ("words":Str)=none
 ho:fs.lookup ("holds":Str)=none
def okS (a e:V):Prop:=∃i j,a= .int i/\e= .int j/\0<=i/\i<=j/\j<=65536
def okU (a e:V):Prop:=∃i,a= .int i/\0<=i/\(e= .non\/∃j,e= .int j/\i<=j)
def okD (a e:V):Prop:=∃j,e= .int j/\0<=j/\(a= .non\/∃i,a= .int i/\j<=i)
def Keep (p:Addr) (H H':Hp):Prop:=∀b o,H b=some o->b≠p->H' b=some o
def zo:Sp:=λvs H Q _=>∃x,vs=[x]/\Sc x/\Q (.bl (isW x)) H
def isF (lo:Int):V->Bool
 | .int i=>decide (lo<=i)|_=>false
def AX:Sp:=λvs H Q _=>∃x lo,vs=[x,.int lo]/\Sc x/\Q (.bl (isF lo x)) H
def wr:V->Str
 | .int i=>toString i|_=>"-"
def AS:Sp:=λvs H Q _=>∃x,vs=[x]/\(x= .non\/∃i:Int,x= .int i/\i.natAbs.log2<1920)/\Q (.str (wr x)) H
def gX (K:PySem.W.Frag):Sp:=λvs H Q _=>∃(p C dx:Addr) (kd:Str) (a e:V),vs=[.ref p,.str kd,a,e]/\H p=some (.ins C dx [])/\Cls K C/\NoAttr K C "kind"/\NoAttr K C "at"/\NoAttr K C "end"/\∀H' fs,Keep p H H'->H' p=some (.ins C dx fs)->wU kd fs a e->Q .non H'
def BW (C N:Addr) (kd:Str) (ok:V->V->Prop):Sp:=λvs H Q E=>∃(p dx:Addr) (a e:V),vs=[.ref p,a,e]/\H p=some (.ins C dx [])/\Sc a/\Sc e/\
 (ok a e->∀H' fs,Keep p H H'->H' p=some (.ins C dx fs)->wU kd fs a e->Q .non H')/\(¬ok a e->False)
def qU (t:Adr):Sp:=BW t.aU t.nO "slots" okS
def zq (t:Adr):Sp:=BW t.dh t.nO "up" okU
def wc (t:Adr):Sp:=BW t.bY t.nO "down" okD
def okN (kd:Int) (a e:V):Prop:=(kd=0/\okS a e)\/(kd=1/\okU a e)\/(kd=2/\okD a e)
def hS:V->V->Int->Bool
 | .int i,.int j,k=>decide (i<=tz (k%65536))&&decide (tz (k%65536)<j)
 |_,_,_=>false
def hU:V->V->Int->Bool
 | .int i,.int j,k=>decide (i<=k)&&decide (k<j)
 | .int i,.non,k=>decide (i<=k)
 |_,_,_=>false
def hD:V->V->Int->Bool
 | .int i,.int j,k=>decide (j<=k)&&decide (k<=i)
 | .non,.int j,k=>decide (j<=k)
 |_,_,_=>false
def hN (kd:Int):V->V->Int->Bool:=if kd=0 then hS else if kd=1 then hU else hD
def bdV:V->Prop
 | .int i=>i<10^80|_=>True
def xY (kd:Str) (a e:V):Str:=Txt.join (" ":Str) [kd,wr a,wr e]
def AY (C:Addr) (kd:Str) (ok:V->V->Prop) (h:V->V->Int->Bool):Sp:=λvs H Q _=>∃(p dx:Addr) (fs:List (Str×V)) (a e:V) (k:Int),vs=[.ref p,.int k]/\H p=some (.ins C dx fs)/\wU kd fs a e/\ok a e/\0<=k/\∀H',Same H H'->Q (.bl (h a e k)) H'
def eC (t:Adr):Sp:=AY t.aU "slots" okS hS
def c7 (t:Adr):Sp:=AY t.dh "up" okU hU
def cc (t:Adr):Sp:=AY t.bY "down" okD hD
def tkC (t:Adr) (kd:Int):Addr:=if kd=0 then t.aU else if kd=1 then t.dh else t.bY
def kdS (kd:Int):Str:=if kd=0 then "slots" else if kd=1 then "up" else "down"
def cp (t:Adr):Sp:=λvs H Q _=>∃(p dx:Addr) (kd:Int) (fs:List (Str×V)) (a e:V),vs=[.ref p]/\H p=some (.ins (tkC t kd) dx fs)/\wU (kdS kd) fs a e/\okN kd a e/\bdV a/\bdV e/\∀H',Same H H'->Q (.str (xY (kdS kd) a e)) H'
theorem qY {x C:Addr} (h1:H x=none) (h2:H dx=none) (k:Keep x (upd (upd H dx (.own x)) x (.ins C dx [])) H'):Same H H':=λb o q=>by
 refine k b o ?_ (ak q h1);rw[ae (ak q h1),ae (ak q h2)];exact q
def spHN (t:Adr) (kd:Int):Sp:=if kd=0 then eC t else if kd=1 then c7 t else cc t
def TkAt (t:Adr) (H:Hp) (p:Addr) (kd:Int) (a e:V):Prop:=∃(dx:Addr) (fs:List (Str×V)),H p=some (.ins (tkC t kd) dx fs)/\wU (kdS kd) fs a e
theorem TkAt.same {kd:Int} {a e:V} (h:TkAt t H p kd a e) (s:Same H H'):TkAt t H' p kd a e:=by
 obtain⟨dx,fs,h1,h2⟩:=h;exact⟨dx,fs,s _ _ h1,h2⟩
theorem okN.sc {kd:Int} {a e:V} (h:okN kd a e):Sc a/\Sc e:=by
 rcases h with⟨_,i,j,rfl,rfl,_⟩|⟨_,i,rfl,_,rfl|⟨j,rfl,_⟩⟩|⟨_,j,rfl,_,rfl|⟨i,rfl,_⟩⟩<;>exact⟨True.intro,True.intro⟩
theorem okN.kd {kd:Int} {a e:V} (h:okN kd a e):kd=0\/kd=1\/kd=2:=by
 rcases h with⟨h,_⟩|⟨h,_⟩|⟨h,_⟩
 .exact .inl h
 .exact .inr (.inl h)
 .exact .inr (.inr h)
theorem okN.s {a e:V} (h:okN 0 a e):okS a e:=by
 rcases h with⟨_,h⟩|⟨h,_⟩|⟨h,_⟩
 .exact h
 .cases h
 .cases h
theorem okN.u {a e:V} (h:okN 1 a e):okU a e:=by
 rcases h with⟨h,_⟩|⟨_,h⟩|⟨h,_⟩
 .cases h
 .exact h
 .cases h
theorem okN.d {a e:V} (h:okN 2 a e):okD a e:=by
 rcases h with⟨h,_⟩|⟨h,_⟩|⟨_,h⟩
 .cases h
 .cases h
 .exact h
theorem dHN {kd:Int} (h:kd=0\/kd=1\/kd=2):DOr (D1 t.aU (eC t)) (DOr (D1 t.dh (c7 t)) (D1 t.bY (cc t))) (tkC t kd) (spHN t kd):=by
 rcases h with rfl|rfl|rfl
 .exact .inl ⟨rfl,rfl⟩
 .exact .inr (.inl ⟨rfl,rfl⟩)
 .exact .inr (.inr ⟨rfl,rfl⟩)
theorem dWN {kd:Int} (h:kd=0\/kd=1\/kd=2):DOr (D1 t.aU (cp t)) (DOr (D1 t.dh (cp t)) (D1 t.bY (cp t))) (tkC t kd) (cp t):=by
 rcases h with rfl|rfl|rfl
 .exact .inl ⟨rfl,rfl⟩
 .exact .inr (.inl ⟨rfl,rfl⟩)
 .exact .inr (.inr ⟨rfl,rfl⟩)
theorem ye {kd:Int} {a e:V} {E:XK} (z:okN kd a e) (h:H p=some (.ins (tkC t kd) dx fs)) (f:wU (kdS kd) fs a e) (G:0<=k)
  (q:∀H',Same H H'->Q (.bl (hN kd a e k)) H'):spHN t kd [.ref p,.int k] H Q E:=by
 rcases z.kd with rfl|rfl|rfl
 .exact⟨p,dx,fs,a,e,k,rfl,h,f,z.s,G,q⟩
 .exact⟨p,dx,fs,a,e,k,rfl,h,f,z.u,G,q⟩
 .exact⟨p,dx,fs,a,e,k,rfl,h,f,z.d,G,q⟩
set_option exponentiation.threshold 2000 in
theorem KW {i:Int} (G:0<=i) (h1:i<10^80):i.natAbs.log2<1920:=by
 rcases Zy i.natAbs with z|z
 .rw[z];decide
 .refine(Nat.log2_lt (XA z)).mpr ?_;have:i.natAbs<10^80:=by lia
  exact Nat.lt_trans this (Qx (show 10^80<2^300 by decide) (Nat.pow_le_pow_right (by decide) (by decide)))
def few (a:V):Prop:=(a= .non\/∃i:Int,a= .int i/\i.natAbs.log2<1920)/\(wr a).length<=81
theorem Co:few .non:=⟨.inl rfl,by decide+kernel⟩
theorem iY {i:Int} (z:0<=i) (h1:bdV (.int i)):few (.int i):=by
 have h1:i<10^80:=h1;refine⟨.inr ⟨i,rfl,KW z h1⟩,?_⟩;show(Str.ofString (toString i)).length<=81;have h:(toString i).length<=80+1:=PySem.int_text_length_le10 (by decide) (by lia);rw[Str.ofString_eq_toList];show((toString i).toList.map Char.toNat).toArray.size<=81;rw[Qf,Q0];exact h
theorem okN.few {kd:Int} {a e:V} (h:okN kd a e) (G:bdV a) (I:bdV e):few a/\few e:=by
 rcases h with⟨_,i,j,rfl,rfl,z,h1,_⟩|⟨_,i,rfl,z,rfl|⟨j,rfl,h1⟩⟩|⟨_,j,rfl,z,rfl|⟨i,rfl,h1⟩⟩
 .exact⟨iY z G,iY (by lia) I⟩
 .exact⟨iY z G,Co⟩
 .exact⟨iY z G,iY (by lia) I⟩
 .exact⟨Co,iY z I⟩
 .exact⟨iY (by lia) G,iY z I⟩
structure Tp where
 p:Addr
 k:Int
 v:V
def Tp.kv (e:Tp):Int×V:=(e.k,e.v)
structure PgA (H H':Hp) (F F':Addr->Prop) (r g:Addr) (v:V) (ts:List Tp):Prop where
 tu:H' r=some (.tup [.ref g,v])
 li:H' g=some (.lst (ts.map λe=>V.ref e.p))
 rw:∀e∈ts,H' e.p=some (.tup [.int e.k,e.v])/\¬F' e.p
 nr:(¬F r->H r=none)/\¬F' r
 ng:(¬F g->H g=none)/\¬F' g
section
variable {P:Program} {w:World} {mg:Str->Option Value} {base:Heap}
def CO:Sp:=λvs H Q _=>∃n:Int,vs=[.int n]/\0<=n/\Q (.int (tz n)) H
def AV:Sp:=λvs H Q _=>∃k:Int,vs=[.int k]/\Q (.int (k%65536)) H
def zn:Sp:=λvs H Q _=>∃k:Int,vs=[.int k]/\Q (.int (tz (k%65536))) H
def AT:Sp:=λvs H Q _=>∃k n:Int,vs=[.int k,.int n]/\0<n/\Q (.int (k%65536%n)) H
def AU:Sp:=λvs H Q _=>∃p n:Int,vs=[.int p,.int n]/\0<=p/\0<n/\Q (.int (tz p%n)) H
def vO:Sp:=λvs H Q _=>∃s n:Int,vs=[.int s,.int n]/\0<=s/\0<n/\n<1073741824/\∀p,H p=none->Q (.ref p) (upd H p (.tup [.int (tz s),.int (tz s+65536/n)]))
theorem rB (T:Txt K mg t):FnOk P w K mg base CX0 1 t.Ap t.vk ["number"] CO:=by
 obtain⟨G,z⟩:=T.g_BITS;refine T.vH.okl sc_turned λ_ _ _ s H vs Q E O h=>?_;intro X;obtain⟨n,rfl,U,k⟩:=h;refine ah (ay (i:=1) sc_turned.nd rfl (Or.inl rfl) af)
   (ah (ay (i:=2) sc_turned.nd rfl (Or.inl rfl) (pv 0))
   (bV (λx=>(ii PassesOwn.never rfl (gS (by rfl) T.ni (aa (cG (v:= .int 16) (by rfl) z ⟨_,rfl⟩) ag)) (bH (i:=3) sc_turned.nd rfl (Or.inl rfl))
    x)) ?_))
 refine ah (ay (i:=1) sc_turned.nd rfl (Or.inl rfl) (al bp (al dA (pv 1) af) (al aQ (pv 2) af)))
   (aA (ay (i:=2) sc_turned.nd rfl (Or.inl rfl) (al aT (pv 2) af)) ?_)
 intros
 refine aA (aD (pv 1)) ?_
 intros
 have I:((n.toNat/2^0:Nat):Int)=n:=by rw[Nat.pow_zero,Nat.div_one];lia
 refine⟨_,rfl,16,rfl,by decide,by decide,rO (n:=16) (λi σ H'=>∃v,H'=H/\σ=[some (.int n),some (.int ((rv i n.toNat:Nat):Int)),some (.int ((n.toNat/2^i:Nat):Int)),v]) ?_ ?_ ?_⟩
 .refine⟨none,rfl,?_⟩;rw[I];rfl
 .rintro i σ H' hi ⟨v,rfl,rfl⟩;refine⟨_,rfl,_,_,rfl,rfl,.inr ⟨by decide,by decide⟩,_,rfl,_,_,rfl,rfl,(by show(0:Int)<2;decide),_,_,rfl,rfl,_,rfl,_,_,rfl,rfl,⟨by decide,by decide⟩,?_⟩;refine⟨some (.int (0+(i:Int))),rfl,?_⟩;rw[<-wZ i n.toNat,<-w5 i n.toNat];rfl
 .rintro σ H' ⟨v,rfl,rfl⟩;unfold tz at k;exact⟨_,rfl,k⟩
theorem uM (T:Txt K mg t):FnOk P w K mg base CX0 1 t.xS t.rV ["key"] AV:=by
 obtain⟨G,z⟩:=T.g_PLACES;refine T.xX.okl Bd λ_ _ _ s H vs Q E I h=>?_;intro X;obtain⟨n,rfl,k⟩:=h;refine⟨_,(aB (aD (al aQ (pv 0) (cG (v:= .int 65536) (by rfl) z ⟨_,rfl⟩))))
  ,?_⟩
 exact⟨_,rfl,_,_,rfl,rfl,(by show(0:Int)<65536;decide),k⟩
theorem sf (T:Txt K mg t):FnOk P w K mg base CX0 2 t.vA t.pB ["key"] zn:=by
 refine T.vJ.okl zu λ_ _ _ s H vs Q E z h=>?_;intro X;obtain⟨n,rfl,k⟩:=h;refine⟨_,(aB (aD (aN (rB T) z.mo (by rfl) T.zV T.vH.kp T.An .nil az (aa (aN (uM T) z.mo (by rfl) T.Dm T.xX.kp T.DL .nil az (aa (pv 0) ag)) ag))))
  ,?_⟩
 exact⟨_,rfl,_,rfl,_,rfl,Qe _ (by decide),k⟩
theorem uK (T:Txt K mg t):FnOk P w K mg base CX0 2 t.xQ t.rS ["key","size"] AT:=by
 refine T.r9.okl Bb λ_ _ _ s H vs Q E z h=>?_;intro X;obtain⟨n,m,rfl,G,k⟩:=h;refine⟨_,(aB (aD (al aQ (aN (uM T) z.mo (by rfl) T.Dm T.xX.kp T.DL .nil az (aa (pv 0) ag)) (pv 1))))
  ,?_⟩
 exact⟨_,rfl,_,rfl,_,rfl,_,_,rfl,rfl,G,k⟩
theorem uL (T:Txt K mg t):FnOk P w K mg base CX0 2 t.xR t.rT ["place","size"] AU:=by
 refine T.xW.okl Bc λ_ _ _ s H vs Q E z h=>?_;intro X;obtain⟨n,m,rfl,G,I,k⟩:=h;refine⟨_,(aB (aD (al aQ (aN (rB T) z.mo (by rfl) T.zV T.vH.kp T.An .nil az (aa (pv 0) ag)) (pv 1))))
  ,?_⟩
 exact⟨_,rfl,_,rfl,G,_,rfl,_,_,rfl,rfl,I,k⟩
theorem wu (T:Txt K mg t):FnOk P w K mg base CX0 2 t.qu t.kE ["slot","size"] vO:=by
 obtain⟨G,z⟩:=T.g_PLACES;refine T.y6.okl sc_stretch_of λ_ _ _ s H vs Q E I h=>?_;intro X;obtain⟨n,m,rfl,O,U,h1,k⟩:=h;refine ah (ay (i:=2) sc_stretch_of.nd rfl (Or.inl rfl) (aN (rB T) I.mo (by rfl) T.zV T.vH.kp T.An .nil az (aa (pv 0) ag)))
   (aA (aD (bC (aa (pv 2) (aa (al bp (pv 2) (al aT (cG (v:= .int 65536) (by rfl) z ⟨_,rfl⟩) (pv 1))) ag)))) ?_)
 intros
 exact⟨_,rfl,_,rfl,O,_,rfl,_,rfl,_,rfl,_,_,rfl,rfl,⟨U,h1⟩,_,_,rfl,rfl,(by show 2<=sizeLine;decide),λp Y=>k p Y⟩
theorem CQ {n:Nat} (h:n<=4096):n<sizeLine:=X3 h (by decide)
def ya:Sp:=λvs H Q _=>∃n:Int,vs=[.int n]/\0<=n/\n<=1000/\∀H' r A,Same H H'->H r=none->(∀b∈A,H b=none)->RowOk H' r A (List.replicate n.toNat []) n->Q (.ref r) H'
theorem p6 (T:Txt K mg t):FnOk P w K mg base CX0 1 t.sE t.mG ["size"] ya:=by
 refine T.m7.okl yi λ_ _ _ s H vs Q E hr h=>?_;intro X;obtain⟨n,rfl,n0,n1,q⟩:=h;refine⟨_,(aB (aD (iV rfl (CScope.of (M:=["slot"]) (N:=["size"]) (N':=["size"]) (dsc:=aj iR) rfl rfl (by decide+kernel)) (gS (by rfl) T.ni (aa (pv 0) ag)) (λ_ _ _ _ _=>eO))))
  ,?_⟩
 refine⟨_,rfl,n,rfl,by lia,by lia,λD hD=>?_⟩;refine pE (n:=n.toNat) (lo:=0) (λi ys H3=>Same H H3/\∃as:List Addr,ys=as.map V.ref/\as.length=i/\(∀b∈as,H b=none/\b≠D/\H3 b=some (.dK []))/\∀(x y:Nat) (b:Addr),as[x]?=some b->as[y]?=some b->x=y)
  ⟨ai hD,[],rfl,rfl,(λb hb=>by cases hb),λx y b e=>by simp at e⟩ (λi ys H3 hi ⟨s3,as,Y,Z,hb,inj⟩ G=>?_) (λys H3 ⟨s3,as,Y,Z,hb,inj⟩ G=>?_)
 .intro c O;have cD:c≠D:=(ak G O).symm;have I:c∉as:=λz=>by
   have:=(hb c z).2.2;rw[O]at this;cases this
  have nH:H c=none:=by
   cases e:H c with
   |none=>rfl
   |some o=>rw[s3 c o e]at O;cases O
  refine CNext.mk hi (by rw[ae cD.symm];exact G) (by rw[Y,Q0];exact cu (by lia)) ⟨bP (s3.trans (ai O)) hD,as++ [c],by rw[Y,Qc];rfl,by rw[Qa,Z];rfl,λb a0=>?_,λx y b e1 e2=>?_⟩
  .rcases Q5.mp a0 with z|z
   .obtain⟨h1,h2,h3⟩:=hb b z;exact⟨h1,h2,by rw[ae h2,ae (λw=>I (by rw[<-w];exact z))];exact h3⟩
   .rw[Q7.mp z];exact⟨nH,cD,by rw[ae cD,ac]⟩
  .have U:∀x:Nat,(as++ [c])[x]?=some b->as[x]?=some b\/(x=as.length/\b=c):=λx e=>by
    rw[Xp]at e;split at e
    .exact .inl e
    .rename_i w
     have:x-as.length=0:=by
      rcases Zy (x-as.length)with z|z
      .exact z
      .rw[List.getElem?_eq_none (by simp;lia)]at e;cases e
     rw[this]at e;cases e;exact .inr ⟨by lia,rfl⟩
   rcases U x e1 with f1|⟨f1,g1⟩<;>rcases U y e2 with f2|⟨f2,g2⟩
   .exact inj x y b f1 f2
   .subst g2;exact absurd (Q1 f1) I
   .subst g1;exact absurd (Q1 f2) I
   .lia
 .refine q H3 D as s3 hD (λb z=>(hb b z).1) ⟨by rw[G,Y],by rw[Z];lia,by rw[Zl];lia,λj b kv e1 e2=>?_,λj kv e=>?_,inj,λj kv e p hp=>?_⟩
  .rw[Zv (Q1 e2)];exact(hb b (Q1 e1)).2.2
  .rw[Zv (Q1 e)];exact Zj
  .rw[Zv (Q1 e)]at hp;cases hp
def pL (t:Adr):Sp:=λvs H Q _=>∃(a:Addr) (k:Int) (st:SSt) (d:SlD),vs=[.ref a,.int k]/\SlB t H a st d/\SzOk st/\∀c kv,IsCell d st k c kv->Q (.ref c) H
def nP (t:Adr):Sp:=λvs H Q _=>∃(a:Addr) (st:SSt) (d:SlD),vs=[.ref a]/\SlB t H a st d/\SzOk st/\st.kv.length<4096/\∀H' d',SlB t H' a st.one d'->d'.n=d.n->Fr (SlF a st d) (SlF a st.one d') H H'->Q .non H'
def nQ (t:Adr):Sp:=λvs H Q _=>∃(a:Addr) (st:SSt) (d:SlD),vs=[.ref a]/\SlB t H a st d/\SzOk st/\d.n=(st.kv.length:Int)/\∀H' d',SlB t H' a st.three d'->d'.n=d.n->Fr (SlF a st d) (SlF a st.three d') H H'->Q .non H'
theorem u7 {z:Int} (G:0<=z) (e:A[z.toNat]?=some c):atI (A.map V.ref) z=some (.ref c):=by
 obtain⟨j,rfl⟩:=Za G;refine tU ?_;rw[Qn];have e:A[j]?=some c:=e;rw[e];rfl
theorem cH (T:Txt K mg t):FnOk P w K mg base CX0 3 t.jU t.fH ["self","key"] (pL t):=by
 refine T.DR.okl sc_Slots__cell_of λ_ _ _ s H vs Q E Y h=>?_;intro X;obtain⟨a,k,st,d,rfl,hb,z,q⟩:=h;refine ah (ay (i:=2) sc_Slots__cell_of.nd rfl (Or.inl rfl) (aX aW (ar (pv 0) rfl) af (λ_ _=>rfl)))
   (ah (ay (i:=3) sc_Slots__cell_of.nd rfl (Or.inl rfl) (aN (uK T) Y.mo (by rfl) T.xu T.r9.kp T.xO .nil az (aa (pv 1) (aa (aF aE (by rfl) T.bO bh (aa (pv 2) ag)) ag))))
   (ah (aV (ao xn (pv 3) (ar (pv 0) rfl) (aq _))
    (aB (aD (aX aW (pv 2) (pv 3) (λ_ _=>rfl))))
    aI)
   (ah (ay (i:=4) sc_Slots__cell_of.nd rfl (Or.inl rfl) (aX aW (ar (pv 0) rfl) af (λ_ _=>rfl)))
   (aA (aD (aX aW (pv 4) (aN (uK T) Y.mo (by rfl) T.xu T.r9.kp T.xO .nil az (aa (pv 1) (aa (aF aE (by rfl) T.bO bh (aa (pv 4) ag)) ag))) (λ_ _=>rfl))) ?_))))
 intros
 obtain⟨dx,I⟩:=hb.obj;obtain⟨s4,s5⟩:=bS z.pw;obtain⟨O,Z,m2⟩:=rJ (k:=k) s4;have t0:∃xs,H d.tb=some (.lst xs)/\atI xs 0=some (.ref d.r0):=by
  refine⟨_,hb.tbl,?_⟩;cases st.nxt<;>rfl
 obtain⟨xs,hx,x0⟩:=t0;have a0:∀{Q':VK},Q' (.ref d.tb) H->tFld K (IY 0) "table" [some (.ref a),some (.int k),none,none,none] H Q':=λ{Q'} q=>⟨_,rfl,a,_,dx,_,_,rfl,I,T.aH,T.aY,iQ,q⟩;have la:((d.A0.map V.ref).length:Int)=st.size:=by rw[Q0];exact hb.row0.la
 refine⟨_,rfl,a,_,dx,_,_,rfl,I,T.aH,T.aY,iQ,d.tb,_,_,_,rfl,rfl,SqL.of hx,x0,?_⟩;refine⟨_,rfl,_,rfl,d.r0,_,rfl,.inl (SqL.of hb.row0.lst),k,_,rfl,by rw[la];lia,?_⟩;dsimp only;rw[la];refine⟨_,rfl,_,rfl,a,_,dx,_,_,rfl,I,T.aH,T.bR,zt,_,_,rfl,rfl,_,rfl,bK (λc=>?_) (λc=>?_)⟩
 .have c:=of_decide_eq_true c;obtain⟨x,G⟩:=dB (l:=d.A0) O (by rw[hb.row0.la];exact Z);obtain⟨y,e2⟩:=dB (l:=d.C0) O (by rw[hb.row0.lc];exact Z);exact⟨_,rfl,_,rfl,d.r0,_,_,_,rfl,rfl,SqL.of hb.row0.lst,u7 O G,q x y (.inl ⟨c,G,e2⟩)⟩
 .have c:¬st.moved<=k%65536%st.size:=λz=>c (decide_eq_true z);cases e:st.nxt with
  |none=>rw[SSt.moved_none e]at c;exact absurd O c
  |some m=>
   have hm:=SSt.moved_some e;obtain⟨pm,_⟩:=z.nx m e;obtain⟨s6,_⟩:=bS pm;obtain⟨U,n1,n2⟩:=rJ (k:=k) s6;have r1:=hb.row1;rw[e]at r1;have ht:=hb.tbl;rw[e]at ht;have lb:((d.A1.map V.ref).length:Int)=m:=by rw[Q0];exact r1.la
   obtain⟨x,G⟩:=dB (l:=d.A1) U (by rw[r1.la];exact n1);obtain⟨y,e2⟩:=dB (l:=d.C1) U (by rw[r1.lc];exact n1);refine⟨_,rfl,a,_,dx,_,_,rfl,I,T.aH,T.aY,iQ,d.tb,_,_,_,rfl,rfl,SqL.of ht,rfl,?_⟩;refine⟨_,rfl,_,rfl,_,rfl,d.r1,_,rfl,.inl (SqL.of r1.lst),k,_,rfl,by rw[lb];lia,?_⟩;dsimp only;rw[lb];exact⟨d.r1,_,_,_,rfl,rfl,SqL.of r1.lst,u7 U G,q x y (.inr ⟨m,e,by lia,G,e2⟩)⟩
theorem br {n:Nat} (h:n<=100000):n<sizeLine:=X3 h (by decide)
theorem JJ {n:Nat} {z:Int} (G:0<=z) (h1:z<n):ixN n z=some z.toNat:=by unfold ixN;rw[if_pos G,if_pos h1]
theorem xv {kv:List (Int×V)} {k:Key} (e:(aK kv)[i]?=some (k,v)):∃n:Int,k=Sum.inl n/\kv[i]?=some (n,v):=by
 unfold aK at e;rw[Qn]at e;cases q:kv[i]? with
 |none=>rw[q]at e;cases e
 |some p=>rw[q]at e;cases e;exact⟨p.1,rfl,rfl⟩
theorem En {kv:List (Int×V)} {C:List (List (Int×V))} {p:Int×V} (e:kv[i]?=some p):(kv.take (i+1)).foldl (gp m) C=gp m ((kv.take i).foldl (gp m) C) p:=by
 rw[Qr,e,List.foldl_append];rfl
theorem gx (T:Txt K mg t):FnOk P w K mg base CX0 3 t.iM t.dW ["self"] (nP t):=by
 refine T.BP.okl sc_Slots__move_slot λ_ _ _ s H vs Q E hr h=>?_;intro X;obtain⟨a,st,d,rfl,hb,z,hl,q⟩:=h;refine ah (aV (ao bN (aF aE (by rfl) T.bO bh (aa (ar (pv 0) rfl) ag)) af (aq _))
    (aB nB)
    aI)
   (ah (ay (i:=1) sc_Slots__move_slot.nd rfl (Or.inl rfl) (aX aW (ar (pv 0) rfl) af (λ_ _=>rfl)))
   (ah (ay (i:=2) sc_Slots__move_slot.nd rfl (Or.inl rfl) (aX aW (ar (pv 0) rfl) af (λ_ _=>rfl)))
   (bV (λx=>(yq (ii PassesOwn.never rfl (zE (uI QQ Xc PySem.F.type_dict_items zN (aX aW (pv 1) (ar (pv 0) rfl) (λ_ _=>rfl)))) (uH rfl (cR (bH (i:=3) sc_Slots__move_slot.nd rfl (Or.inl rfl)) (cR (bH (i:=4) sc_Slots__move_slot.nd rfl (Or.inl rfl)) pX)))
    x))) ?_)))
 refine aA (yr (su hr) (aX aW (pv 2) (aN (uK T) hr.mo (by rfl) T.xu T.r9.kp T.xO .nil az (aa (pv 3) (aa (aF aE (by rfl) T.bO bh (aa (pv 2) ag)) ag))) (λ_ _=>rfl)) (pv 3) (pv 4) rfl) ?_
 intros
 refine ah (rq eO (Bi (pv 1) (ar (pv 0) rfl) uu))
   (ah (gR (pv 0) af ve)
   (aA (aV (ao bN (ar (pv 0) rfl) (aF aE (by rfl) T.bO bh (aa (pv 1) ag)) (aq _))
    (pW (bc (pv 0) (bT (aa (pv 2) ag)) rfl)
    (aB (bc (pv 0) af rfl)))
    aI) ?_))
 intros
 obtain⟨dx,ho⟩:=hb.obj;have ht:=hb.tbl;cases e:st.nxt with
 |none=>
  rw[e]at ht;refine⟨_,rfl,a,_,dx,_,_,rfl,ho,T.aH,T.aY,iQ,d.tb,_,rfl,.inl (SqL.of ht),rfl,_,rfl,fX rfl ?_⟩;have e1:st.one=st:=by unfold SSt.one;rw[e]
  rw[e1]at q;exact q H d hb rfl Fr.refl
 |some m=>
  rw[e]at ht;refine⟨_,rfl,a,_,dx,_,_,rfl,ho,T.aH,T.aY,iQ,d.tb,_,rfl,.inl (SqL.of ht),rfl,_,rfl,bf (λz=>by cases z) ?_⟩;refine⟨_,rfl,a,_,dx,_,_,rfl,ho,T.aH,T.aY,iQ,d.tb,_,_,_,rfl,rfl,SqL.of ht,rfl,?_⟩;refine⟨_,rfl,a,_,dx,_,_,rfl,ho,T.aH,T.aY,iQ,d.tb,_,_,_,rfl,rfl,SqL.of ht,rfl,?_⟩;obtain⟨pm,v0,v1,_⟩:=z.nx m e;obtain⟨s4,s5⟩:=bS z.pw;obtain⟨s6,s7⟩:=bS pm;have hm:=SSt.moved_some e;rw[hm]at ho;have r1:=hb.row1;rw[e]at r1;obtain⟨c0,ec⟩:=dB (l:=d.A0) v0 (by rw[hb.row0.la];exact v1);obtain⟨kv,ek⟩:=dB (l:=d.C0) v0 (by rw[hb.row0.lc];exact v1);have I:=hb.row0.cell _ _ _ ec ek;have lb:((d.A1.map V.ref).length:Int)=m:=by rw[Q0];exact r1.la
  have a5:c0∉d.A1:=hb.dis c0 (Q1 ec);have ap:d.r1≠c0:=cq r1.lst I (by intro z;cases z);have be:=hb.short0 z ek;have a7:∀b,b=d.r1\/b∈d.A1->∃o,H b=some o:=λb hb1=>by
   rcases hb1 with rfl|hb1
   .exact⟨_,r1.lst⟩
   .obtain⟨_,_,_,_,w⟩:=r1.has hb1;exact⟨_,w⟩
  refine⟨c0,aK kv,I,_,rfl,_,rfl,a,_,dx,_,_,rfl,ho,T.aH,T.bR,zt,d.r0,_,_,_,rfl,rfl,SqL.of hb.row0.lst,u7 v0 ec,.inr (.inr (.inl ⟨rfl,.inl ⟨_,I⟩⟩)),c0,aK kv,rfl,rfl,I,λvw nv=>?_⟩;have b2:upd H vw (vwO vw c0) c0=some (.dK (aK kv)):=by rw[ae (ak I nv)];exact I
  refine⟨vw,c0,aK kv,rfl,ac,b2,λob=>?_⟩;refine vh (λi σ H'=>∃v3 v4,σ=[some (.ref a),some (.ref d.r0),some (.ref d.r1),v3,v4]/\RowOk H' d.r1 d.A1 ((kv.take i).foldl (gp m) d.C1) m/\H' c0=some (.frz ob (.dK (aK kv)))/\∀b o,b∉d.A1->b≠c0->H b=some o->H' b=some o)
   ⟨_,_,rfl,?_,ac,λb o _ n2 e=>?_⟩ (λi σ H' _ ⟨_,_,_,_,hf,_⟩=>hf) (λi k v p σ H' ei ⟨v3,v4,ab,hr,hf,hk⟩ np=>?_) (λσ H' ⟨v3,v4,ab,hr,hf,hk⟩=>?_)
  .refine RowOk.frame (H:=H) r1 λb hb1=>?_;obtain⟨o,w⟩:=a7 b hb1;have n2:b≠c0:=by
    rcases hb1 with rfl|hb1
    .exact ap
    .exact λz=>a5 (z▸hb1)
   rw[ae n2,ae (ak w nv)]
  .rw[ae n2,ae (ak e nv)];exact e
  .subst ab;obtain⟨n,rfl,en⟩:=xv ei;have a0:RowOk (upd H' p (.tup [kV (Sum.inl n),v])) d.r1 d.A1 ((kv.take i).foldl (gp m) d.C1) m:=hr.frame λb hb1=>ae λw=>by
    have:∃o,H' b=some o:=by
     rcases hb1 with rfl|hb1
     .exact⟨_,hr.lst⟩
     .obtain⟨_,_,_,_,w⟩:=hr.has hb1;exact⟨_,w⟩
    obtain⟨o,q⟩:=this;rw[w,np]at q;cases q
   obtain⟨n0,n1,n2⟩:=rJ (k:=n) s6;obtain⟨c,e1⟩:=dB (l:=d.A1) n0 (by rw[a0.la];exact n1);obtain⟨y,e2⟩:=dB (l:=(kv.take i).foldl (gp m) d.C1) n0 (by rw[a0.lc];exact n1);obtain⟨y0,e3⟩:=dB (l:=d.C1) n0 (by rw[r1.lc];exact n1);have yl:=zO e3 e2;have bl:=hb.short1 z e e3;have tl:(kv.take i).length<=kv.length:=by rw[Q8];lia
   have hc:=a0.cell _ _ _ e1 e2;have cA:c∈d.A1:=Q1 e1;refine⟨p,_,rfl,SqT.of ac,rfl,_,_,rfl,_,_,rfl,rfl,?_⟩;refine⟨_,rfl,_,rfl,_,rfl,_,rfl,d.r1,_,rfl,.inl (SqL.of a0.lst),n,_,rfl,by rw[lb];lia,?_⟩;dsimp only;rw[lb];refine⟨d.r1,_,_,_,rfl,rfl,SqL.of a0.lst,u7 n0 e1,_,rfl,c,_,rfl,DPut.k (k:=Sum.inl n) hc (by rw[cv];exact br (by lia)),?_⟩;rw[gT];have pn:∀b o,H' b=some o->b≠p:=λb o q=>ak q np;refine⟨_,_,rfl,?_,?_,λb o nA nc q=>?_⟩
   .rw[En en];exact a0.mov s6 e1 e2
   .rw[ae (λw=>a5 (by rw[w];exact cA)),ae (pn _ _ hf)];exact hf
   .have q:=hk b o nA nc q;rw[ae (λw=>nA (by rw[w];exact cA)),ae (pn _ _ q)];exact q
  .subst ab;rw[cv,QF]at hr;refine⟨ob,hf,λb' O=>?_⟩;have hF:∀b,¬SlF a st d b->b∉d.A1/\b≠c0/\b≠a/\b≠d.r0/\b≠d.tb/\b≠d.r1:=λb n=>
    ⟨λq=>n (.inr (.inr (.inr (.inr (.inr q))))),λq=>n (.inr (.inr (.inr (.inl (q▸Q1 ec))))),λq=>n (.inl q),λq=>n (.inr (.inr (.inl q))),λq=>n (.inr (.inl q)),λq=>n (.inr (.inr (.inr (.inr (.inl ⟨by rw[e];rfl,q⟩)))))⟩
   have a2:∀b o,H b=some o->(∀kvs,o≠ .dK kvs)->b∉d.A1:=λb o q ne w=>(r1.notr w q ne) rfl;have K1:∀b o,b∉d.A1->b≠c0->H b=some o->upd H' c0 (.dK (aK kv)) b=some o:=λb o n1 n2 q=>by rw[ae n2];exact hk b o n1 n2 q
   have a1:RowOk (upd H' c0 (.dK (aK kv))) d.r1 d.A1 (kv.foldl (gp m) d.C1) m:=hr.frame λb hb1=>ae (by
    rcases hb1 with rfl|hb1
    .exact ap
    .exact λw=>a5 (w▸hb1))
   have aw:upd H' c0 (.dK (aK kv)) c0=some (.dK (aK kv)):=ac;generalize upd H' c0 (.dK (aK kv))=H3 at O K1 a1 aw⊢;have U:=K1 a _ (a2 _ _ ho (λ_ w=>by cases w)) (cq ho I (by intro w;cases w)) ho;have a3:=hb.row0.lst;have G:=K1 d.r0 _ (a2 _ _ a3 (λ_ w=>by cases w)) (cq a3 I (by intro w;cases w)) a3;have an:=K1 d.tb _ (a2 _ _ ht (λ_ w=>by cases w)) (cq ht I (by intro w;cases w)) ht;have b5:¬SlF a st d b':=λw=>by
    rcases w with w|w|w|w|⟨_,w⟩|w
    .rw[w,U]at O;cases O
    .rw[w,an]at O;cases O
    .rw[w,G]at O;cases O
    .obtain⟨j,b8,f1,f2,f3⟩:=hb.row0.has w;by_cases y:b'=c0
     .rw[y,aw]at O;cases O
     .rw[K1 b' _ (hb.dis b' w) y f3]at O;cases O
    .rw[w,a1.lst]at O;cases O
    .obtain⟨_,_,_,_,w'⟩:=a1.has w;rw[w']at O;cases O
   have lA:((d.A0.map V.ref).length:Int)=st.size:=by rw[Q0];exact hb.row0.la
   have bo:∀{x:Addr} {o:HO},H3 x=some o->x≠b':=λq=>ak q O;refine⟨_,rfl,_,rfl,a,_,dx,_,_,rfl,(by rw[ae (bo U)];exact U),T.aH,T.bR,zt,d.r0,_,_,_,rfl,rfl,(by rw[ae (bo G)];exact G),JJ v0 (by rw[lA];exact v1),?_⟩;have g0:H3 d.r1=some (.lst (d.A1.map V.ref)):=a1.lst;have ra:d.r0≠a:=cq a3 ho (by intro w;cases w);have b9:d.r0≠d.r1:=(hb.tr1 (by rw[e];rfl)).2;have t1:d.tb≠d.r1:=(hb.tr1 (by rw[e];rfl)).1;have ta:d.tb≠a:=cq ht ho (by intro w;cases w);have ax:d.r1≠a:=cq r1.lst ho (by intro w;cases w);have Z:∀b∈d.A1,b≠b'/\b≠d.r0/\b≠a:=λb w=>by
    obtain⟨_,_,_,_,f⟩:=a1.has w;exact⟨bo f,cq f G (by intro w;cases w),cq f U (by intro w;cases w)⟩
   have es:(d.A0.map V.ref).set st.mv.toNat (V.ref b')=(d.A0.set st.mv.toNat b').map V.ref:=by rw[List.map_set]
   rw[es];have b1:upd (upd H3 b' (.dK [])) d.r0 (.lst ((d.A0.set st.mv.toNat b').map V.ref)) a=some (.ins t.aZ dx (slF d.tb st.mv d.n)):=by rw[ae ra.symm,ae (bo U)];exact U
   refine⟨_,rfl,a,_,dx,_,_,rfl,b1,T.aH,T.bR,zt,_,_,rfl,rfl,dx,_,b1,pO,?_⟩;rw[Ir];have a4:∀{o:HO},upd (upd (upd H3 b' (.dK [])) d.r0 (.lst ((d.A0.set st.mv.toNat b').map V.ref))) a o d.r0=some (.lst ((d.A0.set st.mv.toNat b').map V.ref)):=by
    intro o;rw[ae ra,ac]
   have lS:(((d.A0.set st.mv.toNat b').map V.ref).length:Int)=st.size:=by rw[Q0,QI];exact hb.row0.la
   refine⟨_,rfl,a,_,dx,_,_,rfl,ac,T.aH,T.bR,zt,_,rfl,d.r0,_,rfl,.inl (SqL.of a4),rfl,_,rfl,?_⟩;rw[lS];have Y:∀{o:HO},RowOk (upd (upd (upd H3 b' (.dK [])) d.r0 (.lst ((d.A0.set st.mv.toNat b').map V.ref))) a o) d.r1 d.A1 (kv.foldl (gp m) d.C1) m:=λ{o}=>a1.frame λb hb1=>by
    have:b≠b'/\b≠d.r0/\b≠a:=by
     rcases hb1 with rfl|hb1
     .exact⟨bo g0,b9.symm,ax⟩
     .exact Z b hb1
    rw[ae this.2.2,ae this.2.1,ae this.1]
   have K6:∀{o':HO} (b:Addr) (o:HO),¬SlF a st d b->H b=some o->upd (upd (upd H3 b' (.dK [])) d.r0 (.lst ((d.A0.set st.mv.toNat b').map V.ref))) a o' b=some o:=λ{o'} b o n q=>by
    obtain⟨f1,f2,f3,f4,_⟩:=hF b n;have q3:=K1 b o f1 f2 q;rw[ae f3,ae f4,ae (bo q3)];exact q3
   refine bK (λc=>?_) (λc=>?_)
   .have c:st.mv+1=st.size:=V.int.inj (of_decide_eq_true c);refine⟨_,rfl,(by show 1<=sizeLine;decide),λtb' nt=>⟨_,rfl,a,_,dx,_,rfl,(by rw[ae (ak ac nt)];exact ac),T.aH,T.aY,pO,?_⟩⟩;rw[KL];refine⟨_,rfl,a,_,dx,_,rfl,ac,T.aH,T.bR,pO,?_⟩;rw[Ir,bG];have ba:tb'≠a:=(ak ac nt).symm;have bb:tb'≠d.r1:=(ak (Y (o:= .ins t.aZ dx (slF d.tb (st.mv+1) d.n))).lst nt).symm;refine q _ _ (hb.last z e ek (tb':=tb') (dx:=dx) c ac (by rw[ae ba];exact ac) bb ?_) rfl (λb o n w=>?_)
    .refine(Y (o:= .ins t.aZ dx (slF d.tb (st.mv+1) d.n))).frame λb hb1=>?_;have:b≠a:=by
      rcases hb1 with rfl|hb1
      .exact ax
      .exact(Z b hb1).2.2
     rw[ae this,ae (λw=>?_)];obtain⟨o,f⟩:∃o,upd (upd (upd H3 b' (.dK [])) d.r0 (.lst ((d.A0.set st.mv.toNat b').map V.ref))) a (.ins t.aZ dx (slF d.tb (st.mv+1) d.n)) b=some o:=by
      rcases hb1 with rfl|hb1
      .exact⟨_,Y.lst⟩
      .obtain⟨_,_,_,_,f⟩:=Y.has hb1;exact⟨_,f⟩
     rw[w,nt]at f;cases f
    .obtain⟨f1,f2,f3,f4,f5,f6⟩:=hF b n;have k6:=K6 (o':= .ins t.aZ dx (slF d.tb (st.mv+1) d.n)) b o n w;have bt:b≠tb':=ak k6 nt;refine⟨by rw[ae f3,ae bt];exact k6,λy=>?_⟩;rcases y with y|y|y|y|⟨_,y⟩|y
     .exact f3 y
     .exact bt y
     .exact f6 y
     .exact f1 y
     .exact f6 y
     .cases y
   .have c:st.mv+1≠st.size:=λw=>c (decide_eq_true (by rw[w]));refine q _ _ (hb.one z e ek (b':=b') (dx:=dx) c ac (by rw[ae ta,ae hb.tr,ae (bo an),an,hb.tbl,e]) a4 ?_ b5 (λj b f1 f2=>?_) Y) rfl (λb o n w=>⟨K6 b o n w,λy=>?_⟩)
    .have n1:b'≠a:=(bo U).symm;have n2:b'≠d.r0:=(bo G).symm;rw[ae n1,ae n2];exact ac
    .have bA:=Q1 f1;obtain⟨_,b8,_,_,f⟩:=hb.row0.has bA;have nc:b≠c0:=λw=>f2 (hb.row0.inj j _ c0 (w▸f1) ec);have f3:=K1 b _ (hb.dis b bA) nc f;rw[ae (cq f3 U (by intro w;cases w)),ae (cq f3 G (by intro w;cases w)),ae (bo f3),f3,f]
    .obtain⟨f1,f2,f3,f4,f5,f6⟩:=hF b n;rcases y with y|y|y|y|⟨_,y⟩|y
     .exact f3 y
     .exact f5 y
     .exact f4 y
     .obtain⟨j,hj,ej⟩:=Qz (show b∈d.A0.set st.mv.toNat b' from y);rcases dN (Q2.mpr ⟨hj,ej⟩)with⟨_,g⟩|⟨_,g⟩
      .have:=K1 b o f1 f2 w;rw[g,O]at this;cases this
      .exact n (.inr (.inr (.inr (.inl (Q1 g)))))
     .exact f6 y
     .exact f1 y
theorem gA (T:Txt K mg t):FnOk P w K mg base CX0 2 t.iN t.dX ["self"] (nQ t):=by
 obtain⟨U,G⟩:=T.g_GREATEST_SIZE;obtain⟨Z,I⟩:=T.g_LEAST_SIZE;refine T.BQ.okl sc_Slots__begin_row λ_ _ _ s H vs Q E hr h=>?_;intro X;obtain⟨a,st,d,rfl,hb,z,hn,q⟩:=h;refine ah (aV (ao bN (aF aE (by rfl) T.bO bh (aa (ar (pv 0) rfl) ag)) af (aq _))
    (aB nB)
    aI)
   (ah (ay (i:=1) sc_Slots__begin_row.nd rfl (Or.inl rfl) (aF aE (by rfl) T.bO bh (aa (aX aW (ar (pv 0) rfl) af (λ_ _=>rfl)) ag)))
   (Iv (λx y=>aV (PW.pt (fB (ao zH (ar (pv 0) rfl) (pv 1) (aq _)) (dO (ao dZ (pv 1) (cG (v:= .int 256) (by rfl) G ⟨_,rfl⟩) (aq _))))) x y) ?_))
 refine aA (aS (dJ Qq QV QW d7 (ar (pv 0) rfl) (aa (aN (p6 T) hr.mo (by rfl) T.sk T.m7.kp T.sw .nil az (aa (al dA (pv 1) af) ag)) ag))) ?_
 intros
 refine uV (λx=>aV (PW.pt (fB (ao dZ (al dA af (ar (pv 0) rfl)) (pv 1) (aq _)) (dO (ao zH (pv 1) (cG (v:= .int 4) (by rfl) I ⟨_,rfl⟩) (aq _))))) x aI) ?_;refine aA (aS (dJ Qq QV QW d7 (ar (pv 0) rfl) (aa (aN (p6 T) hr.mo (by rfl) T.sk T.m7.kp T.sw .nil az (aa (al aT (pv 1) af) ag)) ag))) ?_
 intros
 obtain⟨dx,O⟩:=hb.obj;have Y:=hb.tbl;cases e:st.nxt with
 |some m=>
  rw[e]at Y;refine⟨_,rfl,a,_,dx,_,_,rfl,O,T.aH,T.aY,iQ,d.tb,_,rfl,.inl (SqL.of Y),rfl,_,rfl,fX rfl ?_⟩;have e1:st.three=st:=by unfold SSt.three;rw[e]
  rw[e1]at q;exact q H d hb rfl Fr.refl
 |none=>
  rw[e]at Y;refine⟨_,rfl,a,_,dx,_,_,rfl,O,T.aH,T.aY,iQ,d.tb,_,rfl,.inl (SqL.of Y),rfl,_,rfl,bf (λz=>by cases z) ?_⟩;have la:((d.A0.map V.ref).length:Int)=st.size:=by rw[Q0];exact hb.row0.la
  obtain⟨a4,a5⟩:=bS z.pw;refine⟨_,rfl,a,_,dx,_,_,rfl,O,T.aH,T.aY,iQ,d.tb,_,_,_,rfl,rfl,SqL.of Y,rfl,d.r0,_,rfl,.inl (SqL.of hb.row0.lst),?_⟩;dsimp only;rw[la];have fin:∀{m:Int} {H':Hp} {r:Addr} {A:List Addr},st.three={st with nxt:=some m,mv:=0}->Same H H'->H r=none->(∀b∈A,H b=none)->RowOk H' r A (List.replicate m.toNat []) m->H' d.tb=some (.lst [.ref d.r0])/\Q .non (upd H' d.tb (.lst ([.ref d.r0]++ [.ref r]))):=λ{m H' r A} e3 s nr nA hr=>by
   have a1:=s _ _ Y;have a0:∀b,SlF a st d b->∃o,H b=some o:=λb w=>hb.dom w;have a2:¬SlF a st d r:=λw=>by obtain⟨o,q⟩:=a0 r w;rw[nr]at q;cases q
   have a3:∀b∈A,¬SlF a st d b:=λb hA w=>by obtain⟨o,q⟩:=a0 b w;rw[nA b hA]at q;cases q
   refine⟨a1,?_⟩;have sb:=hb.begin (H':=upd H' d.tb (.lst [.ref d.r0,.ref r])) e (m:=m) (r:=r) (A:=A) (by rw[ae (cq O Y (by intro w;cases w)),s _ _ O,O]) ac (λb hb1=>?_) (hr.frame λb hb1=>ae ?_) a2 a3
   .rw[<-e3]at sb;refine q _ _ sb rfl λb o n w=>⟨?_,λy=>?_⟩
    .rw[ae (λv=>n (.inr (.inl v)))];exact s _ _ w
    .rw[e3]at y;rcases y with y|y|y|y|⟨_,y⟩|y
     .exact n (.inl y)
     .exact n (.inr (.inl y))
     .exact n (.inr (.inr (.inl y)))
     .exact n (.inr (.inr (.inr (.inl y))))
     .have y:b=r:=y;rw[y,nr]at w;cases w
     .rw[nA b y]at w;cases w
   .obtain⟨o,q⟩:=a0 b (by
     rcases hb1 with w|w
     .exact .inr (.inr (.inl w))
     .exact .inr (.inr (.inr (.inl w))))
    have:b≠d.tb:=by
     rcases hb1 with w|w
     .rw[w];exact hb.tr.symm
     .exact hb.row0.notr w Y (λ_ z=>by cases z)
    rw[ae this,s _ _ q,q]
   .rcases hb1 with w|w
    .rw[w];exact λv=>by rw[v,Y]at nr;cases nr
    .exact λv=>by have:=nA b w;rw[v,Y]at this;cases this
  by_cases cA:st.size<d.n/\st.size<256
  .have e3:st.three={st with nxt:=some (2*st.size),mv:=0}:=by
    unfold SSt.three;rw[e];exact if_pos (by rw[<-hn];exact cA)
   refine⟨_,rfl,a,_,dx,_,_,rfl,O,T.aH,T.bJ,pP,_,rfl,_,_,rfl,rfl,_,rfl,lE cA.1 ⟨_,rfl,_,_,rfl,rfl,_,rfl,lE cA.2 ?_⟩⟩;refine⟨_,rfl,a,_,dx,_,_,rfl,O,T.aH,T.aY,iQ,.inl ⟨rfl,_,SqL.of Y⟩,_,rfl,_,_,rfl,rfl,.inr ⟨by decide,by decide⟩,_,rfl,by lia,by lia,λH' r A s nr nA hr=>?_⟩;obtain⟨f1,f2⟩:=fin (m:=st.size*2) (by rw[e3,Xh]) s nr nA hr;exact⟨d.tb,_,_,rfl,rfl,f1,cu (by show 1<=1000;decide),f2⟩
  .by_cases cB:4*d.n<st.size/\4<st.size
   .have e3:st.three={st with nxt:=some (st.size/2),mv:=0}:=by
     unfold SSt.three;rw[e];exact(if_neg (by rw[<-hn];exact cA)).trans (if_pos (by rw[<-hn];exact cB))
    have c1:¬st.size<d.n:=by lia
    refine⟨_,rfl,a,_,dx,_,_,rfl,O,T.aH,T.bJ,pP,_,rfl,_,_,rfl,rfl,_,rfl,bf c1 ?_⟩;refine⟨_,rfl,a,_,dx,_,_,rfl,O,T.aH,T.bJ,pP,_,_,rfl,rfl,.inl ⟨by decide,by decide⟩,_,rfl,_,_,rfl,rfl,_,rfl,lE cB.1 ⟨_,rfl,_,_,rfl,rfl,_,rfl,lE cB.2 ?_⟩⟩;refine⟨_,rfl,a,_,dx,_,_,rfl,O,T.aH,T.aY,iQ,.inl ⟨rfl,_,SqL.of Y⟩,_,rfl,_,_,rfl,rfl,⟨by decide,by decide⟩,_,rfl,by lia,by lia,λH' r A s nr nA hr=>?_⟩;obtain⟨f1,f2⟩:=fin (m:=st.size/2) e3 s nr nA hr;exact⟨d.tb,_,_,rfl,rfl,f1,cu (by show 1<=1000;decide),f2⟩
   .have e3:st.three=st:=by
     unfold SSt.three;rw[e];exact(if_neg (by rw[<-hn];exact cA)).trans (if_neg (by rw[<-hn];exact cB))
    rw[e3]at q;have q0:=q H d hb rfl Fr.refl;by_cases c1:st.size<d.n
    .have c2:¬st.size<256:=λw=>cA ⟨c1,w⟩;have c3:¬4*d.n<st.size:=by lia
     refine⟨_,rfl,a,_,dx,_,_,rfl,O,T.aH,T.bJ,pP,_,rfl,_,_,rfl,rfl,_,rfl,lE c1 ⟨_,rfl,_,_,rfl,rfl,_,rfl,bf c2 ?_⟩⟩;exact⟨_,rfl,a,_,dx,_,_,rfl,O,T.aH,T.bJ,pP,_,_,rfl,rfl,.inl ⟨by decide,by decide⟩,_,rfl,_,_,rfl,rfl,_,rfl,bf c3 q0⟩
    .refine⟨_,rfl,a,_,dx,_,_,rfl,O,T.aH,T.bJ,pP,_,rfl,_,_,rfl,rfl,_,rfl,bf c1 ?_⟩;refine⟨_,rfl,a,_,dx,_,_,rfl,O,T.aH,T.bJ,pP,_,_,rfl,rfl,.inl ⟨by decide,by decide⟩,_,rfl,_,_,rfl,rfl,_,rfl,?_⟩;by_cases c3:4*d.n<st.size
     .exact lE c3 ⟨_,rfl,_,_,rfl,rfl,_,rfl,bf (λw=>cB ⟨c3,w⟩) q0⟩
     .exact bf c3 q0
section
variable {d:SlD}
theorem SlB.put (h:SlB t H a st d) (z:SzOk st) {kv:List (Int×V)} (G:IsCell d st k c kv) (v:V):
  ∃d',SlB t (upd H c (.dK (aK (bz kv k v)))) a {st with kv:=bz st.kv k v} d'/\d'.n=d.n/\∀b,SlF a {st with kv:=bz st.kv k v} d' b↔SlF a st d b:=
 h.setCell z G (Bn (h.at G).2.2) (λ_ O=>uZ O) (by rw[gW,gW,if_pos rfl,if_pos rfl]) λj I=>⟨by rw[gW,if_neg I],by rw[gW,if_neg I]⟩
theorem SlB.drop (h:SlB t H a st d) (z:SzOk st) {kv:List (Int×V)} (G:IsCell d st k c kv):
  ∃d',SlB t (upd H c (.dK (aK (bW kv k)))) a {st with kv:=bW st.kv k} d'/\d'.n=d.n/\∀b,SlF a {st with kv:=bW st.kv k} d' b↔SlF a st d b:=
 h.setCell z G (p9 (h.at G).2.2) (λ_ O=> .inl (xE O)) (by rw[fo,fo,if_pos rfl,if_pos rfl]) λj I=>⟨by rw[fo,if_neg I],by rw[fo,if_neg I]⟩
theorem SlB.insM (h:SlB t H a st d):∃dx fs,H a=some (.ins t.aZ dx fs)/\∀m,NoM m->fs.lookup m=none:=by
 obtain⟨dx,z⟩:=h.obj;exact⟨dx,_,z,λm G=>Im G⟩
theorem SSt.one_kv:st.one.kv=st.kv:=by
 unfold SSt.one;cases st.nxt with
 |none=>rfl
 |some m=>show(if _ then _ else _:SSt).kv=_;split<;>rfl
theorem SSt.three_kv:st.three.kv=st.kv:=by
 unfold SSt.three;cases st.nxt with
 |some m=>rfl
 |none=>show(if _ then _ else _:SSt).kv=_;split;rfl;split<;>rfl
theorem Cf {kv:List (Int×V)}:((bz kv k v).length:Int)=if(aP kv k).isSome=true then(kv.length:Int)else kv.length+1:=by
 have:=congrArg List.length (qh (kv:=kv) (k:=k) (v:=v));rw[Q0]at this;split
 .rename_i c;rw[if_pos c,Q0]at this;lia
 .rename_i c;rw[if_neg c,Qa,Q0]at this;simp at this;lia
end
theorem n8 (T:Txt K mg t):FnOk P w K mg base CX0 4 t.qD t.kM ["self","key"] (vW K t):=by
 refine T.HW.okl wj λ_ _ _ s H vs Q E G h=>?_;intro X;obtain⟨a,k,F,st,rfl,⟨d,hb,O,U,nd,z⟩,Z,q⟩:=h;refine⟨_,(aB (aD (Js (EN (su G) (pv 1) (aR (pv 0) T.aH T.fG (cH T) G.mo T.fL .nil az (aa (pv 1) ag))))))
  ,?_⟩
 obtain⟨dx,fs,hi,Y⟩:=hb.insM;refine⟨_,rfl,_,rfl,a,dx,fs,rfl,hi,Y _ (by decide+kernel),_,rfl,a,k,st,d,rfl,hb,z,λc kv I=>?_⟩;obtain⟨hc,_,_⟩:=hb.at I;refine⟨c,_,rfl,DGet.k (k:=Sum.inl k) hc,?_⟩;rw[liftK_val,hb.val k c kv I];exact q H F ⟨d,hb,O,U,nd,z⟩ Fr.refl
theorem wB (T:Txt K mg t):FnOk P w K mg base CX0 4 t.qE t.kN ["self","key"] (vX K t):=by
 refine T.HX.okl sc_Slots__get λ_ _ _ s H vs Q E G h=>?_;intro X;obtain⟨a,k,F,st,rfl,⟨d,hb,O,U,nd,z⟩,h0,Y,Z⟩:=h;refine ah (ay (i:=2) sc_Slots__get.nd rfl (Or.inl rfl) (aR (pv 0) T.aH T.fG (cH T) G.mo T.fL .nil az (aa (pv 1) ag)))
   (ah (aV (Bg (xi (su G) (pv 1) (pv 2)))
    (aB cE)
    aI)
   (aA (aD (Hb (su G) (pv 2) (pv 1) (λ_ _=>rfl))) ?_))
 intros
 have hA:SlA K t H a F st:=⟨d,hb,O,U,nd,z⟩;obtain⟨dx,fs,hi,hm⟩:=hb.insM;refine⟨_,rfl,a,dx,fs,rfl,hi,hm _ (by decide+kernel),_,rfl,a,k,st,d,rfl,hb,z,λc kv I=>?_⟩;obtain⟨hc,_,_⟩:=hb.at I;have hv:=hb.val k c kv I;refine⟨_,rfl,_,rfl,c,_,rfl,DGet.k (k:=Sum.inl k) hc,?_⟩;rw[liftK_val,hv];cases e:aP st.kv k with
 |none=>
  refine⟨_,rfl,db ?_⟩;exact(Z e).elim
 |some v=>
  refine⟨_,rfl,cM ?_⟩;refine⟨_,rfl,_,rfl,c,v,rfl,?_,Y v e H F hA Fr.refl⟩;have:=DGet.k (k:=Sum.inl k) hc;rw[liftK_val,hv,e]at this;exact this
theorem wA (T:Txt K mg t):FnOk P w K mg base CX0 4 t.qC t.kL ["self","key","value"] (vV K t):=by
 refine T.HV.okl sc_Slots__put λ_ _ _ s H vs Q E hr h=>?_;intro X;obtain⟨a,k,i,F,st,rfl,⟨d,hb,hF,hn,nd,z⟩,h0,hl,q⟩:=h;refine ah (aS (bx (pv 0) T.aH T.pj (gx T) hr.mo T.pH .nil az))
   (ah (ay (i:=3) sc_Slots__put.nd rfl (Or.inl rfl) (aR (pv 0) T.aH T.fG (cH T) hr.mo T.fL .nil az (aa (pv 1) ag)))
   (ah (aV (Bg (xi (su hr) (pv 1) (pv 3)))
    (aB (gR (pv 0) af ve))
    aI)
   (ah (yr (su hr) (pv 3) (pv 1) (pv 2) rfl)
   (aA (aS (bx (pv 0) T.aH T.pq (gA T) hr.mo T.pI .nil az)) ?_))))
 intros
 obtain⟨dx,fs,hi,hm⟩:=hb.insM;refine⟨_,rfl,a,dx,fs,rfl,hi,hm _ (by decide+kernel),a,st,d,rfl,hb,z,hl,λH1 Y hb1 e1 O=>?_⟩;obtain⟨an,ap,aw,ax⟩:=hb1.insM;have z1:=z.one;refine⟨_,rfl,a,an,ap,rfl,aw,ax _ (by decide+kernel),_,rfl,a,k,st.one,Y,rfl,hb1,z1,λc kv ic=>?_⟩;obtain⟨hc,cF,_⟩:=hb1.at ic;have hv:=hb1.val k c kv ic;have sh:=hb1.short z1 ic;rw[SSt.one_kv]at hv sh;obtain⟨U,Z⟩:=hb1.obj;have na:a≠c:=cq Z hc (by intro w;cases w);have key:∀(H2:Hp) (n2:Int),SlB t H2 a st.one {Y with n:=n2}->Fr (SlF a st d) (SlF a st.one Y) H H2->n2=((bz st.kv k (.int i)).length:Int)->∃I,SlB t (upd H2 c (.dK (aK (bz kv k (.int i))))) a {st.one with kv:=bz st.one.kv k (.int i)} I/\I.n=((bz st.one.kv k (.int i)).length:Int)/\
   ∀H4 d4,SlB t H4 a (SSt.three {st.one with kv:=bz st.one.kv k (.int i)}) d4->d4.n=I.n->Fr (SlF a {st.one with kv:=bz st.one.kv k (.int i)} I) (SlF a (SSt.three {st.one with kv:=bz st.one.kv k (.int i)}) d4) (upd H2 c (.dK (aK (bz kv k (.int i))))) H4->Q .non H4:=λH2 n2 a0 b1 b2=>by
  obtain⟨I,G,e3,f3⟩:=a0.put z1 (kv:=kv) ic (.int i);have a1:I.n=((bz st.one.kv k (.int i)).length:Int):=by rw[e3,SSt.one_kv];exact b2
  refine⟨I,G,a1,λH4 d4 a7 e4 ab=>?_⟩;rw[SSt.one_kv]at a7 ab f3 a1;refine q H4 _ ⟨d4,a7,λb=>Iff.rfl,?_,?_,?_⟩ ?_
  .show d4.n=((SSt.three _).kv.length:Int);rw[SSt.three_kv,e4,a1]
  .show((SSt.three _).kv.map (·.1)).Nodup;rw[SSt.three_kv];exact Bn nd
  .exact(z1.kv).three
  .have step:Fr (SlF a st.one Y) (SlF a {st.one with kv:=bz st.kv k (.int i)} I) H2 (upd H2 c (.dK (aK (bz kv k (.int i))))):=λb o n w=>⟨by rw[ae (λy=>n (by rw[y];exact cF))];exact w,λy=>n ((f3 b).mp y)⟩;exact Fr.trans (λb o n w=>b1 b o (λy=>n ((hF b).mpr y)) w) (Fr.trans step ab)
 refine⟨_,rfl,_,rfl,c,_,rfl,DGet.k (k:=Sum.inl k) hc,?_⟩;rw[liftK_val,hv];have kl:(aK kv).length<sizeLine:=by rw[cv];exact CQ (by lia)
 cases e:aP st.kv k with
 |none=>
  refine⟨_,rfl,db ?_⟩;refine⟨_,rfl,a,_,U,_,_,rfl,Z,T.aH,T.bJ,pP,_,_,rfl,rfl,U,_,Z,pO,?_⟩;rw[Iu];have a0:=hb1.setN (dx:=U) (n:=Y.n+1);have b5:upd H1 a (.ins t.aZ U (slF Y.tb st.one.moved (Y.n+1))) c=some (.dK (aK kv)):=by rw[ae na.symm];exact hc
  obtain⟨I,G,n3,fin⟩:=key _ _ a0 (λb o n w=>⟨by rw[ae (λy=>(O b o n w).2 (.inl y))];exact(O b o n w).1,(O b o n w).2⟩) (by rw[Cf,e,e1,hn];rfl);refine⟨_,rfl,_,rfl,_,rfl,c,_,rfl,DPut.k (k:=Sum.inl k) b5 kl,?_⟩;rw[gT];obtain⟨a2,a3,a4,a5⟩:=G.insM;exact⟨_,rfl,a,a2,a3,rfl,a4,a5 _ (by decide+kernel),a,_,I,rfl,G,z1.kv,n3,fin⟩
 |some v=>
  refine⟨_,rfl,cM ?_⟩;obtain⟨I,G,n3,fin⟩:=key H1 Y.n hb1 O (by rw[Cf,e,e1,hn];rfl);refine⟨_,rfl,_,rfl,_,rfl,c,_,rfl,DPut.k (k:=Sum.inl k) hc kl,?_⟩;rw[gT];obtain⟨a2,a3,a4,a5⟩:=G.insM;exact⟨_,rfl,a,a2,a3,rfl,a4,a5 _ (by decide+kernel),a,_,I,rfl,G,z1.kv,n3,fin⟩
theorem uP (T:Txt K mg t):FnOk P w K mg base CX0 5 t.oG t.jw ["self","key"] (uf K t):=by
 refine T.GF.okl uy λ_ _ _ s H vs Q E Y h=>?_;intro X;obtain⟨a,k,F,st,rfl,hA,h0,q1,q2⟩:=h;refine ah (aV (rp (eK (aR (pv 0) T.aH T.yE (n8 T) Y.mo T.yX .nil az (aa (pv 1) ag))))
    (aB cE)
    aI)
   (ah (aS (bx (pv 0) T.aH T.pj (gx T) Y.mo T.pH .nil az))
   (ah (aS (dJ QQ Xk PySem.F.type_dict_pop B9 (aR (pv 0) T.aH T.fG (cH T) Y.mo T.fL .nil az (aa (pv 1) ag)) (aa (pv 1) ag)))
   (ah (gR (pv 0) af JL)
   (aA (aS (bx (pv 0) T.aH T.pq (gA T) Y.mo T.pI .nil az)) ?_))))
 intros
 obtain⟨dx,fs,hi,hm⟩:=hA.ins;refine⟨_,rfl,a,dx,fs,rfl,hi,hm _ (by decide+kernel),_,rfl,a,k,F,st,rfl,hA,h0,λH0 F0 a0 a1=>?_⟩;cases e:aP st.kv k with
 |none=>
  refine⟨_,rfl,db ?_⟩;exact(q2 e).elim
 |some v=>
  refine⟨_,rfl,cM ?_⟩;obtain⟨d,hb,hF,hn,nd,z⟩:=a0;obtain⟨dx,fs,hi,hm⟩:=hb.insM;obtain⟨hl,q1⟩:=q1 (by rw[e];rfl);refine⟨_,rfl,a,dx,fs,rfl,hi,hm _ (by decide+kernel),a,st,d,rfl,hb,z,hl,λH1 d1 hb1 e1 a2=>?_⟩;obtain⟨a3,a4,a5,a7⟩:=hb1.insM;have Z:=z.one;refine⟨_,rfl,a,a3,a4,rfl,a5,a7 _ (by decide+kernel),_,rfl,a,k,st.one,d1,rfl,hb1,Z,λc kv ic=>?_⟩;obtain⟨hc,cF,_⟩:=hb1.at ic;have hv:=hb1.val k c kv ic;rw[SSt.one_kv,e]at hv;obtain⟨d3,G,e3,f3⟩:=hb1.drop Z ic;rw[SSt.one_kv]at G f3;refine⟨.inr (.inr (.inl ⟨rfl,.inl ⟨_,hc⟩⟩)),_,rfl,c,_,Sum.inl k,v,rfl,rfl,hc,liftK_val.trans hv,?_⟩;rw[va];obtain⟨I,O⟩:=G.obj;refine⟨_,rfl,a,_,I,_,_,rfl,O,T.aH,T.bJ,pP,_,_,rfl,rfl,I,_,O,pO,?_⟩;rw[Iu];have U:=G.setN (dx:=I) (n:=d3.n-1);obtain⟨ab,an,ap,aw⟩:=U.insM;have dl:=xF nd (tN e);have n4:d3.n-1=((bW st.kv k).length:Int):=by rw[e3,e1,hn];lia
  refine⟨_,rfl,a,ab,an,rfl,ap,aw _ (by decide+kernel),a,_,_,rfl,U,Z.kv,n4,λH5 d5 ax e5 b1=>?_⟩;refine q1 H5 _ ⟨d5,ax,λb=>Iff.rfl,?_,?_,Z.kv.three⟩ ?_
  .show d5.n=((SSt.three _).kv.length:Int);rw[SSt.three_kv,e5];exact n4
  .show((SSt.three _).kv.map (·.1)).Nodup;rw[SSt.three_kv];exact p9 nd
  .refine a1.trans (Fr.trans (λb o n w=>a2 b o (λy=>n ((hF b).mpr y)) w) (Fr.trans (λb o n w=>?_) b1));exact⟨by rw[ae (λy=>n (.inl y)),ae (λy=>n (by rw[y];exact cF))];exact w,λy=>n ((f3 b).mp y)⟩
theorem mh (T:Txt K mg t):FnOk P w K mg base CX0 1 t.oC t.ju ["self"] (uc K t):=by
 refine T.GD.okl uw λ_ _ _ s H vs Q E U h=>?_;intro X;obtain⟨a,F,st,rfl,⟨d,hb,hF,hn,nd,z⟩,q⟩:=h;refine⟨_,(aB (aD (iV rfl (CScope.of (M:=["row"]) (N:=["self"]) (N':=["self"]) (dsc:=aj fN) rfl rfl (by decide+kernel)) (c8 (ar (pv 0) rfl)) (λ_ _ _ _ _=>(aF (wP K rfl) (by rfl) T.bO bh (aa (pv 0) ag))))))
  ,?_⟩
 have hA:SlA K t H a F st:=⟨d,hb,hF,hn,nd,z⟩;obtain⟨dx,ho⟩:=hb.obj;have Y:∃xs,H d.tb=some (.lst xs)/\xs.length=st.rows.length/\∀(i:Nat) (x:V),xs[i]?=some x->∃r rs,x= .ref r/\H r=some (.lst rs)/\st.rows[i]?=some (rs.length:Int):=by
  have G:=hb.tbl;have l0:((d.A0.map V.ref).length:Int)=st.size:=by rw[Q0];exact hb.row0.la
  unfold SSt.rows;have r1:=hb.row1;cases e:st.nxt with
  |none=>
   rw[e]at G;refine⟨_,G,rfl,λi x hx=>?_⟩;cases i with
   |zero=>cases hx;exact⟨d.r0,_,rfl,hb.row0.lst,by rw[l0];rfl⟩
   |succ j=>simp at hx
  |some m=>
   rw[e]at G r1;have l1:((d.A1.map V.ref).length:Int)=m:=by rw[Q0];exact r1.la
   refine⟨_,G,rfl,λi x hx=>?_⟩;cases i with
   |zero=>cases hx;exact⟨d.r0,_,rfl,hb.row0.lst,by rw[l0];rfl⟩
   |succ j=>
    cases j with
    |zero=>cases hx;exact⟨d.r1,_,rfl,r1.lst,by rw[l1];rfl⟩
    |succ j=>simp at hx
 obtain⟨xs,G,lx,look⟩:=Y;refine⟨_,rfl,a,_,dx,_,_,rfl,ho,T.aH,T.aY,iQ,d.tb,rfl,⟨_,SqL.of G⟩,λD hD=>?_⟩;refine jR (K:=K) (a:=d.tb) (xs:=xs) (λi ys H3=>H3=upd H D (.lst ys)/\ys=(st.rows.take i).map V.int) ⟨rfl,rfl⟩ (λi ys H3 _ w=>SqL.of (by rw[w.1,ae (ak G hD)];exact G)) (λi x ys H3 hx w I=>?_) (λys H3 w I=>?_)
 .obtain⟨O,e2⟩:=w;obtain⟨r,rs,rfl,U,hs⟩:=look i x hx;have hi:i<xs.length:=(Q2.mp hx).1;have Z:H3 r=some (.lst rs):=by rw[O,ae (ak U hD)];exact U
  refine⟨_,rfl,r,_,rfl,.inl (SqL.of Z),CNext.mk hi I ?_ ⟨?_,?_⟩⟩
  .rw[e2,Q0,Q8];have:st.rows.length<=2:=by(unfold SSt.rows;cases st.nxt<;>simp)
   exact cu (by lia)
  .rw[O,bG]
  .rw[e2,Qr,hs,Qc];rfl
 .obtain⟨O,e2⟩:=w;rw[lx,QF]at e2;subst e2;subst O;exact q _ F D (hA.new hD) (Fr.of_same (ai hD)) hD (hA.out hD) ac
theorem Jg {sh:Int}:a9 ("kept":Str) (.int n) (a9 ("shifted":Str) (.int sh) (a9 ("table":Str) (.ref tb) []))=slF tb sh n:=by
 have z:a9 ("table":Str) (.ref tb) []=[(("table":Str),V.ref tb)]:=rfl;rw[z,a9,if_neg (by decide+kernel),a9,a9,if_neg (by decide+kernel),a9,if_neg (by decide+kernel),a9];rfl
theorem uO (T:Txt K mg t):FnOk P w K mg base CX0 2 t.oE t.jv ["self"] (ud K t):=by
 obtain⟨G,z⟩:=T.g_LEAST_SIZE;refine T.GE.okl ux λ_ _ _ s H vs Q E I h=>?_;intro X;obtain⟨a,dx,rfl,ha,hd,q⟩:=h;refine ah (bc (pv 0) (bT (aa (aN (p6 T) I.mo (by rfl) T.sk T.m7.kp T.sw .nil az (aa (cG (v:= .int 4) (by rfl) z ⟨_,rfl⟩) ag)) ag)) rfl)
   (ah (bc (pv 0) af rfl)
   (aA (bc (pv 0) af rfl) ?_))
 intros
 refine⟨4,rfl,by decide,by decide,λH' r A s nr nA I=>⟨(by show 1<=sizeLine;decide),λtb Y=>?_⟩⟩;have O:=s _ _ ha;have U:a≠tb:=ak O Y;refine⟨_,rfl,a,_,dx,[],rfl,(by rw[ae U];exact O),T.aH,T.aY,(by show 0<1000;decide),?_⟩;refine⟨_,rfl,a,_,dx,_,rfl,ac,T.aH,T.bR,?_,?_⟩
 .show 1<1000;decide
 refine⟨_,rfl,a,_,dx,_,rfl,ac,T.aH,T.bJ,?_,?_⟩
 .have h1:=lX (f:="shifted") (v:= .int 0) (a9 "table" (.ref tb) []);have h2:=lX (f:="table") (v:= .ref tb) [];have h3:([]:List (Str×V)).length=0:=rfl;lia
 rw[Jg,bG,bG];have a0:tb≠r:=(ak I.lst Y).symm;have sb:=SlB.fresh (t:=t) (H:=upd (upd H' tb (.lst [.ref r])) a (.ins t.aZ dx (slF tb 0 0))) (a:=a) (tb:=tb) (r:=r) (A:=A) (dx:=dx) ac (by rw[ae U.symm];exact ac) (I.frame λb hb1=>?_) a0
 .refine q _ _ ⟨_,sb,λb=>Iff.rfl,rfl,Zj,SzOk.new⟩ λb o n w=>?_;have Z:b≠a:=λy=>n (.inl y);have w1:=s _ _ w;have n2:b≠tb:=ak w1 Y;refine⟨by rw[ae Z,ae n2];exact w1,λy=>?_⟩;rcases y with y|y|y|y|⟨y,_⟩|y
  .exact Z y
  .exact n2 y
  .have y:b=r:=y;rw[y,nr]at w;cases w
  .rw[nA b y]at w;cases w
  .cases y
  .cases y
 .have:∃o,H' b=some o:=by
   rcases hb1 with rfl|hb1
   .exact⟨_,I.lst⟩
   .obtain⟨_,_,_,_,w⟩:=I.has hb1;exact⟨_,w⟩
  obtain⟨o,w⟩:=this;have n2:b≠tb:=ak w Y;have Z:b≠a:=λy=>by
   rcases hb1 with y2|y2
   .rw[<-y2,y,ha]at nr;cases nr
   .have:=nA b y2;rw[y,ha]at this;cases this
  rw[ae Z,ae n2]
theorem mf (T:Txt K mg t):FnOk P w K mg base CX0 3 t.oA t.js ["self","place"] (ua K t):=by
 refine T.GB.okl sc_Slots__stop λ_ _ _ s H vs Q E G h=>?_;intro X;obtain⟨a,p,F,st,rfl,I,U,Z,q⟩:=h;refine ah (ay (i:=2) sc_Slots__stop.nd rfl (Or.inl rfl) (aF (xI rfl) (by rfl) T.ze rY (aa (bx (pv 0) T.aH T.wL (mh T) G.mo T.wR .nil az) ag)))
   (aA (aD (aX bX (aN (wu T) G.mo (by rfl) T.Ht T.y6.kp T.HH .nil az (aa (aN (uL T) G.mo (by rfl) T.Dl T.xW.kp T.DK .nil az (aa (pv 1) (aa (pv 2) ag))) (aa (pv 2) ag))) af (λ_ _=>rfl))) ?_)
 intros
 have z:SzOk st:=let⟨_,_,_,_,_,z⟩:=I;z
 obtain⟨s4,s5⟩:=bS (jq z);obtain⟨x,y,R⟩:=yp (jq z);obtain⟨dx,fs,hi,hm⟩:=I.ins;refine⟨_,rfl,a,dx,fs,rfl,hi,hm _ (by decide+kernel),a,F,st,rfl,I,λH1 F1 l sA fr nl oF hl=>⟨l,st.rows,rfl,SqL.of hl,?_,λM hM O=>?_⟩⟩
 .unfold SSt.rows;cases st.nxt<;>simp
 .have eM:=Fc hM O;subst eM;refine⟨_,rfl,_,rfl,p,_,rfl,U,by lia,_,rfl,_,_,rfl,Qe _ (by lia),by lia,by lia,λtp Y=>?_⟩;rw[x6 R U Z];exact⟨tp,_,_,_,rfl,rfl,SqT.of ac,rfl,q _ F1 (sA.new Y) (fr.trans (Fr.of_same (ai Y)))⟩
structure Rw where
 r:Addr
 A:List Addr
 C:List (List (Int×V))
 s:Int
def fj (st:SSt) (d:SlD):List Rw:=match st.nxt with|none=> [⟨d.r0,d.A0,d.C0,st.size⟩]|some m=> [⟨d.r0,d.A0,d.C0,st.size⟩,⟨d.r1,d.A1,d.C1,m⟩]
def plc (k:Int):Int:=tz (k%65536)
theorem tP {st:Int} {x:Nat} (h:0<st):x<pF lo hi st↔lo+(x:Int)*st<hi:=by
 unfold pF;rw[nY h];by_cases c:lo<hi
 .rw[if_pos c];have a:0<=(hi-lo-1)/st:=XX (by lia) (by lia);have e:(x:Int)<=(hi-lo-1)/st↔(x:Int)*st<=hi-lo-1:=Int.le_ediv_iff_mul_le h;lia
 .rw[if_neg c];have:0<=(x:Int)*st:=X6 (by lia) (by lia);lia
theorem fW {kv:List (Int×V)} (nd:(kv.map (·.1)).Nodup) (h:(k,v)∈kv):aP kv k=some v:=by
 induction kv with
 |nil=>cases h
 |cons p r z=>
  rw[Qs,QM]at nd;by_cases e:p.1=k
  .rw[bq e];rcases Qg.mp h with h|h
   .rw[<-h]
   .exact absurd (Z0 (f:=(·.1)) h) (by rw[<-e]at*;exact nd.1)
  .rw[bn e];rcases Qg.mp h with h|h
   .rw[<-h]at e;exact absurd rfl e
   .exact z nd.2 h
theorem iX {kv:List (Int×V)} (h:aP kv k=some v):(k,v)∈kv:=by
 induction kv with
 |nil=>rw[lH]at h;cases h
 |cons p r z=>
  by_cases e:p.1=k
  .rw[bq e]at h;cases h;rw[<-e];exact Q9
  .rw[bn e]at h;exact Qd _ (z h)
theorem tS {d:SlD} {ri:Nat} {R:Rw} {kv:List (Int×V)} (hb:SlB t H a st d) (U:(fj st d)[ri]?=some R) (hk:R.C[j]?=some kv) (hv:(k,v)∈kv):
  k%65536%R.s=(j:Int)/\(kv.map (·.1)).Nodup/\∃c,IsCell d st k c kv:=by
 have O:∀{A:List Addr} {C:List (List (Int×V))} {r:Addr} {s:Int} {x:Nat},RowOk H r A C s->C[x]?=some kv->∃b,A[x]?=some b:=λ{A C r s x} ro h=>by
  have h1:=(Q2.mp h).1;have h2:=ro.la;have h3:=ro.lc;exact⟨A[x]'(by lia),Q3 _⟩
 have Y:kv≠[]:=λz=>by rw[z]at hv;cases hv
 have I:=hb.row1;have zero:(j:Int)<st.moved->d.C0[j]?=some kv->False:=λh1 h2=>Y (hb.old _ _ h2 h1);unfold fj at U;cases en:st.nxt with
 |none=>
  rw[en]at U;cases ri with
  |zero=>
   cases U;have G:=hb.row0.home _ _ hk _ hv;obtain⟨b,Z⟩:=O hb.row0 hk;refine⟨G,hb.row0.ndk _ _ hk,b,.inl ⟨?_,by rw[G];exact Z,by rw[G];exact hk⟩⟩;rw[G,SSt.moved_none en];lia
  |succ j=>simp at U
 |some m=>
  rw[en]at U I;cases ri with
  |zero=>
   cases U;have G:=hb.row0.home _ _ hk _ hv;obtain⟨b,Z⟩:=O hb.row0 hk;refine⟨G,hb.row0.ndk _ _ hk,b,.inl ⟨?_,by rw[G];exact Z,by rw[G];exact hk⟩⟩;rw[G];exact Int.not_lt.mp λy=>zero y hk
  |succ j'=>
   cases j' with
   |zero=>
    cases U;have G:=I.home _ _ hk _ hv;obtain⟨b,Z⟩:=O I hk;exact⟨G,I.ndk _ _ hk,b,.inr ⟨_,en,hb.new _ _ hk _ hv,by rw[G];exact Z,by rw[G];exact hk⟩⟩
   |succ j=>simp at U
def nU (C:List (List (Int×V))) (s m:Int) (x:Nat):List (Int×V):=C.getD (s+(x:Int)*m).toNat []
def G1 (s m:Int) (R:Rw):List (Int×V):=(List.range (pF s R.s m)).flatMap (nU R.C s m)
def Jy (st:SSt) (d:SlD) (s:Int):List (Int×V):=(fj st d).flatMap (G1 s st.low)
theorem rn {d:SlD} (z:SzOk st) {R:Rw} (h:R∈fj st d):R.s=st.low\/R.s=2*st.low:=by
 unfold fj at h;unfold SSt.low;cases e:st.nxt with
 |none=>rw[e]at h;rw[Q7.mp h];exact .inl rfl
 |some m=>
  rw[e]at h;obtain⟨_,_,_,nx⟩:=z.nx m e;have p:=bS z.pw;show R.s=(if m<st.size then m else st.size)\/R.s=2*(if m<st.size then m else st.size);rcases Qg.mp h with h|h
  .rw[h];show st.size=_\/st.size=_;split<;>lia
  .rw[Q7.mp h];show m=_\/m=_;split<;>lia
theorem Ce {x r:Int} (h:r=m\/r=2*m):x%r%m=x%m:=by
 rcases h with rfl|rfl
 .exact Int.emod_emod_of_dvd _ (Int.dvd_refl _)
 .exact Int.emod_emod_of_dvd _ ⟨2,by lia⟩
theorem Hm {d:SlD} {s:Int} (hb:SlB t H a st d) (z:SzOk st) (nd:(st.kv.map (·.1)).Nodup) (s0:0<=s) (s1:s<st.low) (k:Int) (v:V):
  (k,v)∈Jy st d s↔(k,v)∈st.kv/\k%65536%st.low=s:=by
 have lp:=bS (jq z);constructor
 .intro h;obtain⟨R,G,h⟩:=ZF.mp h;obtain⟨x,hx,h⟩:=ZF.mp h;have hx:=XZ.mp hx;have O:=rn z G;obtain⟨ri,U,Y⟩:=Qz G;have Y:(fj st d)[ri]?=some R:=by rw[Q3 U,Y]
  unfold nU at h;have xs:=(tP (by lia)).mp hx;have xm:0<=(x:Int)*st.low:=X6 (by lia) (by lia);cases Z:R.C[(s+(x:Int)*st.low).toNat]? with
  |none=>rw[Qm,Z]at h;cases h
  |some kv=>
   rw[Qm,Z]at h;have h:(k,v)∈kv:=h;obtain⟨h1,h2,c,I⟩:=tS hb Y Z h;refine⟨iX (by rw[<-hb.val k c kv I];exact fW h2 h),?_⟩;rw[<-Ce O,h1,Xv (by lia),Int.add_mul_emod_self_right];exact Int.emod_eq_of_lt s0 s1
 .rintro ⟨h,hs⟩;obtain⟨c,kv,ic⟩:=hb.cell z k;have hv:=hb.val k c kv ic;rw[fW nd h]at hv;have hm:=iX hv;have fin:∀R:Rw,R∈fj st d->R.C[(k%65536%R.s).toNat]?=some kv->(k,v)∈Jy st d s:=λR G hk=>by
   have O:=rn z G;have j0:0<=k%65536%R.s:=Qe _ (by lia);have j1:k%65536%R.s<R.s:=Qb _ (by lia);have jm:=Ce (x:=k%65536) O;rw[hs]at jm;have dv:=Xl (k%65536%R.s) st.low;have q0:0<=k%65536%R.s/st.low:=XX j0 (by lia);have eq:s+((k%65536%R.s/st.low).toNat:Int)*st.low=k%65536%R.s:=by
    rw[Xv q0,Xh];lia
   refine ZF.mpr ⟨R,G,ZF.mpr ⟨(k%65536%R.s/st.low).toNat,XZ.mpr ((tP (by lia)).mpr (by rw[eq];exact j1)),?_⟩⟩;unfold nU;rw[eq,Qm,hk];exact hm
  rcases ic with⟨_,_,I⟩|⟨m,en,_,_,I⟩
  .refine fin ⟨d.r0,d.A0,d.C0,st.size⟩ ?_ I;unfold fj;cases st.nxt<;>simp
  .refine fin ⟨d.r1,d.A1,d.C1,m⟩ ?_ I;unfold fj;rw[en];simp
theorem nE {C:List (List (Int×V))} {s:Int} {x:Nat} {p:Int×V} (h:p∈nU C s m x):∃kv,C[(s+(x:Int)*m).toNat]?=some kv/\p∈kv:=by
 unfold nU at h;cases z:C[(s+(x:Int)*m).toNat]? with
 |none=>rw[Qm,z]at h;cases h
 |some kv=>
  rw[Qm,z]at h;exact⟨kv,rfl,h⟩
theorem Dc {d:SlD} {s:Int} (hb:SlB t H a st d) (z:SzOk st) (s0:0<=s):((Jy st d s).map (·.1)).Nodup:=by
 have lp:=bS (jq z);refine QO.mpr ?_;have row:∀R∈fj st d,(G1 s st.low R).Pairwise (λp q=>p.1≠q.1):=λR O=>by
  obtain⟨ri,U,G⟩:=Qz O;have G:(fj st d)[ri]?=some R:=by rw[Q3 U,G]
  refine List.pairwise_flatMap.mpr ⟨λx _=>?_,?_⟩
  .unfold nU;cases Y:R.C[(s+(x:Int)*st.low).toNat]? with
   |none=>rw[Qm,Y];exact List.Pairwise.nil
   |some kv=>
    rw[Qm,Y];show List.Pairwise _ kv;cases ke:kv with
    |nil=>exact List.Pairwise.nil
    |cons p r=>
     have:=(tS hb G Y (k:=p.1) (v:=p.2) (by rw[ke];exact Q9)).2.1;rw[ke]at this;exact QO.mp this
  .refine(List.pairwise_lt_range (n:=pF s R.s st.low)).imp λ{x y} a3 p I q hq e=>?_;obtain⟨kv,h1,h2⟩:=nE I;obtain⟨kv',Z,h4⟩:=nE hq;have a1:=(tS hb G h1 h2).1;have a2:=(tS hb G Z h4).1;have m1:(x:Int)*st.low<(y:Int)*st.low:=Int.mul_lt_mul_of_pos_right (by lia) (by lia);have m0:0<=(x:Int)*st.low:=X6 (by lia) (by lia);rw[e,a2]at a1;lia
 refine List.pairwise_flatMap.mpr ⟨row,?_⟩;have a0:=hb.row1;unfold fj;cases en:st.nxt with
 |none=>exact Zb _ _
 |some m=>
  refine Z5.mpr ⟨λR O p I q hq e=>?_,Zb _ _⟩;rw[Q7.mp O]at hq;obtain⟨x,_,I⟩:=ZF.mp I;obtain⟨y,_,hq⟩:=ZF.mp hq;obtain⟨kv,h1,h2⟩:=nE I;obtain⟨kv',Z,h4⟩:=nE hq;have n1:=hb.new _ _ Z _ h4;have n2:=hb.row0.home _ _ h1 _ h2;have n3:¬((s+(x:Int)*st.low).toNat:Int)<st.moved:=λc=>by
   have:=hb.old _ _ h1 c;rw[this]at h2;cases h2
  rw[<-e,n2]at n1;exact n3 n1
structure Ly (X:List Addr) (H H':Hp) (l:Addr) (ts:List Tp) (L:List (Int×V)):Prop where
 sm:∀c o,c∉X->H c=some o->H' c=some o
 li:H' l=some (.lst (ts.map λe=>V.ref e.p))
 tu:∀e∈ts,H' e.p=some (.tup [.int (plc e.k),.int e.k,e.v])/\H e.p=none
 eq:ts.map Tp.kv=L
section
variable {X:List Addr} {H'':Hp} {l:Addr} {L:List (Int×V)}
theorem Ly.same (h:Ly X H H' l ts L) (s:Same H' H''):Ly X H H'' l ts L:=⟨λc o n e=>s _ _ (h.sm c o n e),s _ _ h.li,λe he=>⟨s _ _ (h.tu e he).1,(h.tu e he).2⟩,h.eq⟩
theorem Ly.add (h:Ly X H H' l ts L) (s:Same H' H'') (G:H' p=none) (U:H l=none) (Y:∀c∈X,∃o,H c=some o/\∃o',H' c=some o') (Z:H'' p=some (.tup [.int (plc k),.int k,v])):
  Ly X H (upd H'' l (.lst (ts.map (λe=>V.ref e.p)++ [.ref p]))) l (ts++ [⟨p,k,v⟩]) (L++ [(k,v)]):=by
 have pl:p≠l:=λz=>by rw[z,h.li]at G;cases G
 have I:H p=none:=by
  cases q:H p with
  |none=>rfl
  |some o=>
   by_cases c:p∈X
   .obtain⟨_,_,o',O⟩:=Y p c;rw[G]at O;cases O
   .rw[h.sm _ _ c q]at G;cases G
 have h2:=h.same s;refine⟨λc o n e=>?_,by rw[ac,Qc];rfl,λe he=>?_,by rw[Qc,h.eq];rfl⟩
 .rw[ae λz=>by rw[z,U]at e;cases e];exact h2.sm c o n e
 .rcases Q5.mp he with he|he
  .have q:=h2.tu e he;exact⟨by rw[ae λz=>by rw[z,h2.li]at q;cases q.1];exact q.1,q.2⟩
  .rw[Q7.mp he];exact⟨by rw[ae pl];exact Z,I⟩
theorem Ly.freeze {o':HO} (h:Ly [] H H' l ts L) (hb:H b=some o) (bl:b≠l):Ly [b] H (upd H' b o') l ts L:=
 ⟨λc o n e=>by rw[ae λz=>n (by rw[z];exact Q9)];exact h.sm c o (by simp) e,by rw[ae bl.symm];exact h.li,
  λe he=>⟨by rw[ae λz=>by have:=(h.tu e he).2;rw[z,hb]at this;cases this];exact(h.tu e he).1,(h.tu e he).2⟩,h.eq⟩
theorem Ly.thaw (h:Ly [b] H H' l ts L) (hb:H b=some o) (bl:b≠l):Ly [] H (upd H' b o) l ts L:=by
 refine⟨λc o' _ e=>?_,by rw[ae bl.symm];exact h.li,λe he=>⟨by rw[ae λz=>by have:=(h.tu e he).2;rw[z,hb]at this;cases this];exact(h.tu e he).1,(h.tu e he).2⟩,h.eq⟩;by_cases z:c=b
 .rw[z,ac,<-hb,<-z];exact e
 .rw[ae z];exact h.sm c o' (by simpa using z) e
end
def oS (K:PySem.W.Frag) (t:Adr):Sp:=λvs H Q _=>∃(a:Addr) (p:Int) (F:Addr->Prop) (st:SSt),vs=[.ref a,.int p]/\SlA K t H a F st/\0<=p/\p<65536/\st.kv.length<4096/\
 ∀(H':Hp) (F':Addr->Prop) (l:Addr) (ts:List Tp),SlA K t H' a F' st->Fr F F' H H'->¬F' l->H' l=some (.lst (ts.map λe=>V.ref e.p))->(∀e∈ts,H' e.p=some (.tup [.int (plc e.k),.int e.k,e.v])/\¬F' e.p)->
  (∀k v,(k,v)∈ts.map Tp.kv↔(k,v)∈st.kv/\k%65536%st.low=tz p%st.low)->((ts.map Tp.kv).map (·.1)).Nodup->Q (.ref l) H'
theorem IW {d:SlD} (hb:SlB t H a st d) (sz:SzOk st):∃xs,H d.tb=some (.lst xs)/\xs.length=(fj st d).length/\(fj st d).length<=2/\
  ∀(i:Nat) (x:V),xs[i]?=some x->∃R:Rw,x= .ref R.r/\(fj st d)[i]?=some R/\RowOk H R.r R.A R.C R.s/\R.s<=256/\∀(j:Nat) (kv:List (Int×V)),R.C[j]?=some kv->kv.length<=st.kv.length:=by
 have pw:=bS sz.pw;have z:=hb.tbl;have r1:=hb.row1;unfold fj;cases e:st.nxt with
 |none=>
  rw[e]at z;refine⟨_,z,rfl,by simp,λi x hx=>?_⟩;cases i with
  |zero=>cases hx;exact⟨_,rfl,rfl,hb.row0,pw.2,λj kv h=>hb.short0 sz h⟩
  |succ j=>simp at hx
 |some m=>
  rw[e]at z r1;refine⟨_,z,rfl,by simp,λi x hx=>?_⟩;cases i with
  |zero=>cases hx;exact⟨_,rfl,rfl,hb.row0,pw.2,λj kv h=>hb.short0 sz h⟩
  |succ j=>
   cases j with
   |zero=>cases hx;exact⟨_,rfl,rfl,r1,(bS (sz.nx m e).1).2,λj kv h=>hb.short1 sz e h⟩
   |succ j=>simp at hx
theorem FC {RR:List Rw} {f:Rw->List (Int×V)} {R:Rw} (e:RR[i]?=some R):(RR.take (i+1)).flatMap f=(RR.take i).flatMap f++f R:=by
 rw[Qr,e,List.flatMap_append];simp
theorem BE {f:Nat->List (Int×V)} {x:Nat}:(List.range (x+1)).flatMap f=(List.range x).flatMap f++f x:=by
 rw[List.range_succ,List.flatMap_append];simp
theorem CN {kv:List (Int×V)} {p:Int×V} (e:kv[i]?=some p):kv.take (i+1)=kv.take i++ [p]:=by
 rw[Qr,e];rfl
theorem o9 (T:Txt K mg t):FnOk P w K mg base CX0 3 t.iZ t.eT ["self","place"] (oS K t):=by
 refine T.CF.okl sc_Slots__lying_at λ_ _ _ s H vs Q E hr h=>?_;intro X;obtain⟨a,p,F,st,rfl,hA,p0,p1,b2,q⟩:=h;refine ah (ay (i:=2) sc_Slots__lying_at.nd rfl (Or.inl rfl) (aF (xI rfl) (by rfl) T.ze rY (aa (bx (pv 0) T.aH T.wL (mh T) hr.mo T.wR .nil az) ag)))
   (ah (ay (i:=3) sc_Slots__lying_at.nd rfl (Or.inl rfl) (bT ag))
   (bV (λx=>(ii PassesOwn.never rfl (c8 (ar (pv 0) rfl)) (bH (i:=4) sc_Slots__lying_at.nd rfl (Or.inl rfl))
    x)) ?_))
 refine uV (λx=>(ii PassesOwn.never rfl (CW (by rfl) T.ni (aa (aN (uL T) hr.mo (by rfl) T.Dl T.xW.kp T.DK .nil az (aa (pv 1) (aa (pv 2) ag))) (aa (aF aE (by rfl) T.bO bh (aa (pv 4) ag)) (aa (pv 2) ag)))) (bH (i:=5) sc_Slots__lying_at.nd rfl (Or.inl rfl))
    x)) ?_
 refine uV (λx=>(yq (ii PassesOwn.never rfl (zE (uI QQ Xc PySem.F.type_dict_items zN (aX aW (pv 4) (pv 5) (λ_ _=>rfl)))) (uH rfl (cR (bH (i:=6) sc_Slots__lying_at.nd rfl (Or.inl rfl)) (cR (bH (i:=7) sc_Slots__lying_at.nd rfl (Or.inl rfl)) pX)))
    x))) ?_
 refine aA (aS (dJ Qq QV QW d7 (pv 3) (aa (bC (aa (aN (sf T) hr.mo (by rfl) T.Bw T.vJ.kp T.BH .nil az (aa (pv 6) ag)) (aa (pv 6) (aa (pv 7) ag)))) ag))) ?_
 intros
 refine aA (aD (pv 3)) ?_
 intros
 have z:SzOk st:=let⟨_,_,_,_,_,z⟩:=hA;z
 obtain⟨s4,s5⟩:=bS (jq z);obtain⟨dx,fs,hi,hm⟩:=hA.ins;refine⟨_,rfl,a,dx,fs,rfl,hi,hm _ (by decide+kernel),a,F,st,rfl,hA,λH1 F1 lr sA fr b5 oF a4=>⟨lr,st.rows,rfl,SqL.of a4,?_,λM hM a5=>?_⟩⟩
 .unfold SSt.rows;cases st.nxt<;>simp
 have eM:=Fc hM a5;subst eM;have sB:=sA;obtain⟨d,hb,hF,hn,nd,_⟩:=sB;obtain⟨a7,ho⟩:=hb.obj;obtain⟨xs,ht,lx,l2,look⟩:=IW hb z;have g0:0<=tz p%st.low:=Qe _ (by lia);have g1:tz p%st.low<st.low:=Qb _ (by lia);have U:st.low>0:=by lia
 refine⟨Qj _,λl nl=>?_⟩;have y0:Ly [] H1 (upd H1 l (.lst [])) l [] []:=⟨λc o _ e=>ai nl _ _ e,ac,(λe he=>by cases he),rfl⟩;generalize upd H1 l (.lst [])=H2 at y0⊢;generalize hs:tz p%st.low=I at g0 g1 q;refine⟨_,rfl,a,_,a7,_,_,rfl,y0.sm _ _ (by simp) ho,T.aH,T.aY,iQ,d.tb,rfl,⟨_,SqL.of (y0.sm _ _ (by simp) ht)⟩,nI (K:=K) (a:=d.tb) (xs:=xs) (λi σ H'=>∃(v4 v5 Y Z:Option V) (ts:List Tp),σ=[some (.ref a),some (.int p),some (.int st.low),some (.ref l),v4,v5,Y,Z]/\Ly [] H1 H' l ts (((fj st d).take i).flatMap (G1 I st.low))/\ts.length<=8192*i)
  ⟨_,_,_,_,[],rfl,y0,by simp⟩ (λi σ H' _ w=>by obtain⟨_,_,_,_,_,_,c,_⟩:=w;exact SqL.of (c.sm _ _ (by simp) ht)) (λi x σ H' hx w=>?_) (λσ H' w=>?_)⟩
 .obtain⟨v4,v5,Y,Z,ts,G,c,lt⟩:=w;subst G;obtain⟨R,rfl,hR,ro,b1,ab⟩:=look i x hx;have hr:=c.sm _ _ (by simp) ro.lst;have iL:=(Q2.mp hx).1;have lA:((R.A.map V.ref).length:Int)=R.s:=by rw[Q0];exact ro.la
  have rl:=rn z (Q1 hR);have a1:∀y:Nat,y<pF I R.s st.low->y<2:=λy hy=>by
   have:=(tP U).mp hy;refine Nat.lt_of_not_le λy2=>?_;have:(2:Int)*st.low<=(y:Int)*st.low:=XR (by lia) (by lia);lia
  have b8:pF I R.s st.low<=2:=by
   by_cases c0:pF I R.s st.low=0
   .lia
   .have:=a1 (pF I R.s st.low-1) (by lia);lia
  refine⟨_,rfl,_,rfl,p,_,rfl,p0,U,_,rfl,R.r,_,rfl,.inl (SqL.of hr),_,rfl,_,_,_,rfl,?_,?_⟩
  .rw[hs,lA];exact⟨by lia,by lia,by lia,by lia,by lia,by lia⟩
  rw[hs,lA];generalize an:((fj st d).take i).flatMap (G1 I st.low)=L0 at c;refine z7 (n:=pF I R.s st.low) (λx σ H'=>∃(v5 Y Z:Option V) (ts:List Tp),σ=[some (.ref a),some (.int p),some (.int st.low),some (.ref l),some (.ref R.r),v5,Y,Z]/\Ly [] H1 H' l ts (L0++(List.range x).flatMap (nU R.C I st.low))/\ts.length<=8192*i+4096*x)
   ⟨_,_,_,ts,rfl,by simpa using c,by lia⟩ (λx σ H' hx w=>?_) (λσ H' w=>?_)
  .obtain⟨v5,Y,Z,ts,G,c,lt⟩:=w;subst G;have b9:=(tP U).mp hx;have x2:=a1 x hx;have xm:0<=(x:Int)*st.low:=X6 (by lia) (by lia);have la:=ro.la;have lc:=ro.lc;have eb:R.A[(I+(x:Int)*st.low).toNat]?=some (R.A[(I+(x:Int)*st.low).toNat]'(by lia)):=Q3 (by lia);have ek:R.C[(I+(x:Int)*st.low).toNat]?=some (R.C[(I+(x:Int)*st.low).toNat]'(by lia)):=Q3 (by lia);generalize R.A[(I+(x:Int)*st.low).toNat]'(by lia)=b at eb;generalize R.C[(I+(x:Int)*st.low).toNat]'(by lia)=kv at ek;have O:=ro.cell _ _ _ eb ek;have ba:=ab _ _ ek;have a0:=c.sm _ _ (by simp) O;have ap:=c.sm _ _ (by simp) ro.lst;have bl:b≠l:=λz=>by rw[z,nl]at O;cases O
   refine⟨b,aK kv,a0,_,rfl,_,rfl,R.r,_,_,_,rfl,rfl,SqL.of ap,u7 (by lia) eb,.inr (.inr (.inl ⟨rfl,.inl ⟨_,a0⟩⟩)),b,aK kv,rfl,rfl,a0,λvw nv=>?_⟩;have aw:upd H' vw (vwO vw b) b=some (.dK (aK kv)):=by rw[ae (ak a0 nv)];exact a0
   refine⟨vw,b,aK kv,rfl,ac,aw,λob=>?_⟩;have cF:=(c.same (ai (o:=vwO vw b) nv)).freeze (o':= .frz ob (.dK (aK kv))) O bl;generalize ax:L0++(List.range x).flatMap (nU R.C I st.low)=L1 at cF;refine vh (λy σ H''=>∃(Y Z:Option V) (ts:List Tp),σ=[some (.ref a),some (.int p),some (.int st.low),some (.ref l),some (.ref R.r),some (.int (I+(x:Int)*st.low)),Y,Z]/\Ly [b] H1 H'' l ts (L1++kv.take y)/\H'' b=some (.frz ob (.dK (aK kv)))/\ts.length<=8192*i+4096*x+y)
    ⟨_,_,ts,rfl,by simpa using cF,ac,by lia⟩ (λy σ H'' _ w=>by obtain⟨_,_,_,_,_,hf,_⟩:=w;exact hf) (λy k v p' σ H'' ei w np=>?_) (λσ H'' w=>?_)
   .obtain⟨Y,Z,ts,G,c,hf,lt⟩:=w;subst G;obtain⟨n,rfl,en⟩:=xv ei;have yl:=(Q2.mp en).1;refine⟨p',_,rfl,SqT.of ac,rfl,_,_,rfl,_,_,rfl,rfl,?_⟩;have c3:=c.same (ai (o:= .tup [kV (Sum.inl n),v]) np);have a2:=ai (o:= .tup [kV (Sum.inl n),v]) np _ _ hf;generalize upd H'' p' (.tup [kV (Sum.inl n),v])=H3 at c3 a2⊢;refine⟨_,rfl,.inl ⟨rfl,_,SqL.of c3.li⟩,_,rfl,n,rfl,_,rfl,_,rfl,(by show 3<=sizeLine;decide),λp2 a3=>?_⟩;have s4:Same H3 (upd H3 p2 (.tup [.int (tz (n%65536)),kV (Sum.inl n),v])):=ai a3;have e4:upd H3 p2 (.tup [.int (tz (n%65536)),kV (Sum.inl n),v]) p2=some (.tup [.int (plc n),.int n,v]):=ac;generalize upd H3 p2 (.tup [.int (tz (n%65536)),kV (Sum.inl n),v])=H4 at s4 e4⊢;refine⟨l,_,_,rfl,rfl,s4 _ _ c3.li,br (by rw[Q0];lia),?_⟩;refine⟨_,_,ts++ [⟨p2,n,v⟩],rfl,?_,?_,?_⟩
    .rw[CN en,<-Ql];exact c3.add s4 a3 nl (λc hc=>by rw[Q7.mp hc];exact⟨_,O,_,a2⟩) e4
    .rw[ae bl];exact s4 _ _ a2
    .rw[Qa,Z4];lia
   .obtain⟨Y,Z,ts,G,c,hf,lt⟩:=w;subst G;rw[cv,QF]at c;rw[cv]at lt;refine⟨ob,hf,_,_,_,ts,rfl,?_,by lia⟩;rw[BE,<-Ql,show nU R.C I st.low x=kv by unfold nU;rw[Qm,ek];rfl];rw[ax];exact c.thaw O bl
  .obtain⟨v5,Y,Z,ts,G,c,lt⟩:=w;subst G;exact⟨_,_,_,_,ts,rfl,by rw[FC hR,an];exact c,by lia⟩
 .obtain⟨v4,v5,Y,Z,ts,G,c,lt⟩:=w;subst G;rw[lx,QF]at c;have e:=c.eq;have sm:Same H1 H':=λb o e=>c.sm b o (by simp) e;refine⟨_,rfl,q H' F1 l ts (sA.same sm) (fr.trans (Fr.of_same sm)) (sA.out nl) c.li (λe he=>⟨(c.tu e he).1,sA.out (c.tu e he).2⟩) (λk v=>?_) ?_⟩
  .rw[e];exact Hm hb z nd g0 g1 k v
  .rw[e];exact Dc hb z g0
theorem yk {S p:Int} {a b:Nat} (R:Row S a b) (G:0<=p) (h1:p<65536) (hS:S<=65536):k%65536%S=tz p%S↔plc k/(65536/S)=p/(65536/S):=by
 have I:=R.wpos';have z:=x6 R G h1;have k0:0<=k%65536:=Qe _ (by decide);have O:k%65536<65536:=Qb _ (by decide);have e2:=x6 R (p:=plc k) (qP _) (Ie _);rw[show tz (plc k)=k%65536 from BV k0 O]at e2;have U:=R.mod0 (k%65536);have Z:=R.mod1 (k%65536);have Y:=R.mod0 (tz p);have y1:=R.mod1 (tz p);constructor
 .intro e;rw[e,z]at e2;have:=Int.eq_of_mul_eq_mul_right (QR I) e2;lia
 .intro e;rw[e,<-z]at e2;exact IS U (by lia) Y (by lia) (by lia)
theorem Jp (k:Int):0<=plc k/\plc k<65536:=⟨qP _,Ie _⟩
theorem yt {f:α->β}:∀{ts:List α} {l:List β},l.Perm (ts.map f)->∃us:List α,us.Perm ts/\us.map f=l:=by
 intro ts l h;generalize e:ts.map f=m at h
 induction h generalizing ts with
 |nil=>exact⟨[],by rw[List.map_eq_nil_iff.mp e],rfl⟩
 |cons x _ I=>
  cases ts with
  |nil=>cases e
  |cons y ts=>
   rw[Qs]at e;injection e with e1 e2;obtain⟨us,h1,h2⟩:=I e2;exact⟨y::us,h1.cons y,by rw[Qs,h2,e1]⟩
 |swap x y l=>
  cases ts with
  |nil=>cases e
  |cons a ts=>
   cases ts with
   |nil=>cases e
   |cons b ts=>
    rw[Qs,Qs]at e;injection e with e1 e2;injection e2 with e2 e3;exact⟨b::a::ts,List.Perm.swap a b ts,by rw[Qs,Qs,e1,e2,e3]⟩
 |trans _ _ z G=>
  obtain⟨us,h1,h2⟩:=G e;obtain⟨O,U,Y⟩:=z h2;exact⟨O,U.trans h1,Y⟩
def rA (x y:Int×V):Prop:=plc x.1<plc y.1\/(plc x.1=plc y.1/\x.1<y.1)
def ub (K:PySem.W.Frag) (t:Adr):Sp:=λvs H Q _=>∃(a:Addr) (lo hi:Int) (F:Addr->Prop) (st:SSt),vs=[.ref a,.int lo,.int hi]/\SlA K t H a F st/\st.kv.length<4096/\(∀p∈st.kv,∃i:Int,p.2= .int i)/\
 ∀(H':Hp) (F':Addr->Prop) (l:Addr) (ts:List Tp),SlA K t H' a F' st->Fr F F' H H'->¬F' l->(¬F l->H l=none)->H' l=some (.lst (ts.map λe=>V.ref e.p))->(∀e∈ts,H' e.p=some (.tup [.int e.k,e.v])/\¬F' e.p)->
  (ts.map Tp.kv).Pairwise rA->(∀k v,(k,v)∈ts.map Tp.kv↔(k,v)∈st.kv/\lo<=plc k/\plc k<hi)->Q (.ref l) H'
theorem Cp {x q:Int} (h:0<W):x/W=q↔q*W<=x/\x<(q+1)*W:=by
 constructor
 .rintro rfl;exact⟨Int.ediv_mul_le x (QR h),X1 x h⟩
 .rintro ⟨h1,h2⟩;have a:=(Int.le_ediv_iff_mul_le h).mpr h1;have b:=(Int.ediv_lt_iff_lt_mul h).mpr h2;lia
def ky3 (H:Hp) (b:Addr):List Int:=match H b with
 |some (.tup [.int i,.int j,.int m])=> [i,j,m]
 |_=> []
theorem Bx {i j:Int} (h:H b=some (.tup [.int i,.int j,.int m])):ky3 H b=[i,j,m]:=by
 unfold ky3;rw[h]
theorem none_of {H2:Hp} (s:Same H H2) (n:H2 p=none):H p=none:=by
 cases e:H p with
 |none=>rfl
 |some o=>rw[s _ _ e]at n;cases n
theorem qk (f:Fr F F' H H') (n:¬F b) (e:H' b=none):H b=none:=by
 cases q:H b with
 |none=>rfl
 |some o=>rw[(f _ _ n q).1]at e;cases e
theorem Fr.upd_new (f:Fr F F' H H') (n:¬F b->H b=none):Fr F F' H (upd H' b o):=λc u G e=>⟨by rw[ae λz=>by rw[z]at G e;rw[n G]at e;cases e];exact(f c u G e).1,(f c u G e).2⟩
theorem EE {n:Nat} (hv:(ts.map λe=>V.ref e.p)[n]?=some v):∃e:Tp,v= .ref e.p/\ts[n]?=some e:=by
 rw[Qn]at hv;cases z:ts[n]? with
 |none=>rw[z]at hv;cases hv
 |some e=>rw[z]at hv;cases hv;exact⟨e,rfl,rfl⟩
structure SpI (K:PySem.W.Frag) (t:Adr) (H H':Hp) (a l:Addr) (F F':Addr->Prop) (st:SSt) (ts:List Tp) (b0 c:Int):Prop where
 sl:SlA K t H' a F' st
 fr:Fr F F' H H'
 ol:¬F' l
 li:H' l=some (.lst (ts.map λe=>V.ref e.p))
 tu:∀e∈ts,H' e.p=some (.tup [.int (plc e.k),.int e.k,e.v])/\¬F' e.p
 me:∀k v,(k,v)∈ts.map Tp.kv↔(k,v)∈st.kv/\b0<=plc k/\plc k<c
 nd:((ts.map Tp.kv).map (·.1)).Nodup
section
variable {H1:Hp} {l l1:Addr} {F1:Addr->Prop} {ts1:List Tp} {b0 c:Int}
theorem SpI.len (h:SpI K t H H' a l F F' st ts b0 c):ts.length<=st.kv.length:=by
 have:=iu h.nd (S:=st.kv.map (·.1)) λx hx=>by
  obtain⟨p,z,rfl⟩:=Qh.mp hx;exact Z0 ((h.me p.1 p.2).mp z).1
 simpa using this
theorem SpI.move (h:SpI K t H H' a l F F' st ts b0 c) (s1:SlA K t H1 a F1 st) (z:Fr F' F1 H' H1):SpI K t H H1 a l F F1 st ts b0 c:=
 ⟨s1,h.fr.trans z,(z _ _ h.ol h.li).2,(z _ _ h.ol h.li).1,λe he=>z _ _ (h.tu e he).2 (h.tu e he).1,h.me,h.nd⟩
theorem SpI.step {r:Int} (h:SpI K t H H' a l F F' st ts b0 (r/W*W)) (nl:H l=none) (W0:0<W) (hb:b0<=r/W*W) (s1:SlA K t H1 a F1 st) (Z:Fr F' F1 H' H1) (u1:∀e∈ts1,H1 e.p=some (.tup [.int (plc e.k),.int e.k,e.v])/\¬F1 e.p)
  (m1:∀k v,(k,v)∈ts1.map Tp.kv↔(k,v)∈st.kv/\plc k/W=r/W) (n1:((ts1.map Tp.kv).map (·.1)).Nodup):
  SpI K t H (upd H1 l (.lst (ts.map (λe=>V.ref e.p)++ts1.map (λe=>V.ref e.p)))) a l F F1 st (ts++ts1) b0 ((r/W+1)*W):=by
 obtain⟨l1,G⟩:=Z _ _ h.ol h.li;have e1:(r/W+1)*W=r/W*W+W:=by rw[Int.add_mul,Int.one_mul]
 have I:∀{p:Addr} {xs:List V},H1 p=some (.tup xs)->p≠l:=λ{p xs} e z=>by rw[z,l1]at e;cases e
 refine⟨s1.upd G,λb o n e=>?_,G,by rw[ac,Qc],λe he=>?_,λk v=>?_,?_⟩
 .obtain⟨O,Y⟩:=(h.fr.trans Z) b o n e;exact⟨by rw[ae λz=>by rw[z,nl]at e;cases e];exact O,Y⟩
 .rcases Q5.mp he with he|he
  .obtain⟨O,Y⟩:=h.tu e he;obtain⟨U,g4⟩:=Z _ _ Y O;exact⟨by rw[ae (I U)];exact U,g4⟩
  .obtain⟨U,g4⟩:=u1 e he;exact⟨by rw[ae (I U)];exact U,g4⟩
 .rw[Qc,Q5,h.me,m1,Cp W0,e1];constructor
  .rintro (⟨x,y,z⟩|⟨x,y,z⟩)
   .exact⟨x,y,by lia⟩
   .exact⟨x,by lia,z⟩
  .rintro ⟨x,y,z⟩;by_cases d:plc k<r/W*W
   .exact .inl ⟨x,y,d⟩
   .exact .inr ⟨x,by lia,z⟩
 .rw[Qc,Qc];refine XJ.mpr ⟨h.nd,n1,λx hx y hy e=>?_⟩;obtain⟨p,hp,rfl⟩:=Qh.mp hx;obtain⟨q,hq,rfl⟩:=Qh.mp hy;have O:=(h.me p.1 p.2).mp hp;have Y:=(Cp W0).mp ((m1 q.1 q.2).mp hq).2;rw[e]at O;lia
end
theorem Kz {fs us:List Tp} (up:us.Perm fs) (z:∀e∈fs,∃i:Int,H e.p=some (.tup [.int (plc e.k),.int e.k,.int i])) (nd:(fs.map (·.k)).Nodup) (pw:(us.map (·.p)).Pairwise (λa b=>HT.lexLt (ky3 H b) (ky3 H a)=false)):(us.map Tp.kv).Pairwise rA:=by
 have I:us.Pairwise (λe f=>e.k≠f.k):=(up.pairwise_iff (λh=>h.symm)).mpr (QO.mp nd);refine QO.mpr (((QO.mp pw).and I).imp_of_mem λ{e f} he hf h=>?_);obtain⟨i,te⟩:=z e (up.mem_iff.mp he);obtain⟨j,O⟩:=z f (up.mem_iff.mp hf);obtain⟨h1,h2⟩:=h;rw[Bx te,Bx O,HT.lexLt_cons,HT.lexLt_cons]at h1;show plc e.k<plc f.k\/(plc e.k=plc f.k/\e.k<f.k);by_cases G:plc f.k=plc e.k
 .rw[if_pos G,if_neg (Ne.symm h2)]at h1;have:=of_decide_eq_false h1;lia
 .rw[if_neg G]at h1;have:=of_decide_eq_false h1;lia
theorem uN (T:Txt K mg t):FnOk P w K mg base CX0 4 t.oB t.jt ["self","low","high"] (ub K t):=by
 obtain⟨a4,O⟩:=T.g_PLACES;refine T.GC.okl sc_Slots__span λ_ _ _ s H vs Q E hr h=>?_;intro X;obtain⟨a,lo,hi,F,st,rfl,hA,ax,hint,q⟩:=h;refine ah (ay (i:=3) sc_Slots__span.nd rfl (Or.inl rfl) (bT ag))
   (ah (ay (i:=4) sc_Slots__span.nd rfl (Or.inl rfl) (aF (nN rfl) (by rfl) T.Ec yR (aa (pv 1) (aa af ag))))
   (ah (ay (i:=5) sc_Slots__span.nd rfl (Or.inl rfl) (aF (nM rfl) (by rfl) T.ze rY (aa (pv 2) (aa (cG (v:= .int 65536) (by rfl) O ⟨_,rfl⟩) ag))))
   (bV (λx=>(lY PassesOwn.never (ao dZ (pv 4) (pv 5) (aq _))
    x)) ?_)))
 refine ah (aS (dJ Qq ZH ZI nC (pv 3) (aa (aR (pv 0) T.aH T.Cb (o9 T) hr.mo T.Cz .nil az (aa (pv 4) ag)) ag)))
   (aA (ay (i:=4) sc_Slots__span.nd rfl (Or.inl rfl) (aR (pv 0) T.aH T.wK (mf T) hr.mo T.wQ .nil az (aa (pv 4) ag))) ?_)
 intros
 refine ah (ay (i:=6) sc_Slots__span.nd rfl (Or.inl rfl) (aF wO (by rfl) T.Eb xJ (aa (p4 rfl (CScope.of (M:=["one"]) (N:=["self","low","high","found","reached","end","inside"]) (N':=["self","low","high","found","reached","end","inside"]) (dsc:=aj dI) rfl rfl (by decide+kernel)) (c8 (pv 3)) (λ_ _ _ _ _=>(EG lZ dZ (pv 2) (aX (tQ K rfl) (pv 0) af (λ_ _=>rfl)) (pv 3))) (λ_ _ _ _ _=>(pv 0))) ag)))
   (aA (aD (iV rfl (CScope.of (M:=["one"]) (N:=["self","low","high","found","reached","end","inside"]) (N':=["self","low","high","found","reached","end","inside"]) (dsc:=aj dI) rfl rfl (by decide+kernel)) (c8 (pv 6)) (λ_ _ _ _ _=>(bC (aa (aX (tQ K rfl) (pv 0) af (λ_ _=>rfl)) (aa (aX (tQ K rfl) (pv 0) af (λ_ _=>rfl)) ag)))))) ?_)
 intros
 have z:SzOk st:=let⟨_,_,_,_,_,z⟩:=hA;z
 obtain⟨s4,s5⟩:=bS (jq z);obtain⟨x,y,R⟩:=yp (jq z);have W0:=R.wpos';have a3:∀{p k:Int},0<=p->p<65536->(k%65536%st.low=tz p%st.low↔plc k/(65536/st.low)=p/(65536/st.low)):=λh0 h1=>yk R h0 h1 (by lia);refine⟨Qj _,λl nl=>?_⟩;refine⟨_,rfl,_,_,rfl,_,rfl,_,_,rfl,?_⟩;have r1:0<=(if(0:Int)>lo then 0 else lo)/\lo<=(if(0:Int)>lo then 0 else lo)/\((if(0:Int)>lo then 0 else lo)=0\/(if(0:Int)>lo then 0 else lo)=lo):=by split<;>lia
 have r2:(if(65536:Int)<hi then 65536 else hi)<=65536/\((if(65536:Int)<hi then 65536 else hi)=65536\/(if(65536:Int)<hi then 65536 else hi)=hi):=by split<;>lia
 dsimp only;generalize (if(0:Int)>lo then 0 else lo)=r0 at r1⊢;generalize (if(65536:Int)<hi then 65536 else hi)=e0 at r2⊢;generalize eW:65536/st.low=W at W0 a3;have I0:SpI K t H (upd H l (.lst [])) a l F F st [] (r0/W*W) (r0/W*W):=⟨hA.new nl,Fr.of_same (ai nl),hA.out nl,ac,(λe he=>by cases he),(λk v=>⟨λh=>by(cases h),λh=>by lia⟩),Zj⟩;generalize upd H l (.lst [])=H1 at I0⊢;refine⟨λm σ H'=>∃(r:Int) (F':Addr->Prop) (ts:List Tp),m=(e0-r).toNat/\σ=[some (.ref a),some (.int lo),some (.int hi),some (.ref l),some (.int r),some (.int e0),none]/\SpI K t H H' a l F F' st ts (r0/W*W) (r/W*W)/\r0<=r/\(r=r0\/r/W*W=r),⟨_,r0,F,[],rfl,rfl,I0,Zt _,.inl rfl⟩,λm σ H' w=>?_⟩;obtain⟨r,F',ts,rfl,b2,I,rr,rm⟩:=w;subst b2;refine⟨_,rfl,_,rfl,_,_,rfl,rfl,_,rfl,bK (λc=>?_) (λc=>?_)⟩
 .have c:=of_decide_eq_true c;obtain⟨dx,fs,an,hm⟩:=I.sl.ins;refine⟨λap H2=>∃(r':Int) (F2:Addr->Prop) (a5:List Tp),r<r'/\ap=[some (.ref a),some (.int lo),some (.int hi),some (.ref l),some (.int r'),some (.int e0),none]/\SpI K t H H2 a l F F2 st a5 (r0/W*W) (r'/W*W)/\r'/W*W=r',λap H2 w=>?_,?_⟩
  .obtain⟨r',F2,a5,lt,e,I2,g⟩:=w;exact⟨_,by lia,r',F2,a5,rfl,e,I2,by lia,.inr g⟩
  refine⟨_,rfl,.inl ⟨rfl,_,SqL.of I.li⟩,_,rfl,a,dx,fs,rfl,an,hm _ (by decide+kernel),_,rfl,a,r,F',st,rfl,I.sl,by lia,by lia,ax,λH2 F2 l1 ts1 s2 f2 o2 e2 u2 m2 n2=>?_⟩;have b5:r0/W*W<=r/W*W:=XR (Int.ediv_le_ediv W0 rr) (by lia);have I2:=I.step nl W0 b5 s2 f2 u2 (λk v=>by rw[m2,a3 (by lia) (by lia)]) n2;have ln:=I2.len;rw[Qa]at ln;refine⟨l,l1,_,_,rfl,rfl,(f2 _ _ I.ol I.li).1,e2,by rw[Q0,Q0];exact Zp (br (by lia)),?_⟩;generalize upd H2 l (.lst (ts.map (λe=>V.ref e.p)++ts1.map (λe=>V.ref e.p)))=H3 at I2⊢;obtain⟨b8,b9,a7,ba⟩:=I2.sl.ins;refine⟨_,rfl,a,b8,b9,rfl,a7,ba _ (by decide+kernel),_,rfl,a,r,F2,st,rfl,I2.sl,by lia,by lia,λH4 F4 s4 f4=>?_⟩;rw[eW];have ed:(r/W+1)*W/W*W=(r/W+1)*W:=by rw[Int.mul_ediv_cancel _ (QR W0)]
  exact⟨(r/W+1)*W,F4,ts++ts1,X1 r W0,rfl,by rw[ed];exact I2.move s4 f4,ed⟩
 .have c:¬r<e0:=λy=>c (decide_eq_true y);have hl:=I.li;have ln:=I.len;refine⟨_,rfl,l,rfl,⟨_,SqL.of hl⟩,λD hD=>?_⟩;refine kS (K:=K) (a:=l) (xs:=ts.map λe=>V.ref e.p) (λn ys H3=>H3=upd H' D (.lst ys)/\ys=((ts.take n).filter λe=>decide (lo<=plc e.k)&&decide (plc e.k<hi)).map (λe=>V.ref e.p)) ⟨rfl,rfl⟩
   (λn ys H3 _ w=>SqL.of (by rw[w.1,ae (ak hl hD)];exact hl)) (λn v ys H3 hv w U=>?_) (λys H3 w U=>?_)
  .obtain⟨e1,e2⟩:=w;have hn:=(Q2.mp hv).1;obtain⟨e,rfl,Y⟩:=EE hv;have te:=(I.tu e (Q1 Y)).1;have bb:H3 e.p=some (.tup [.int (plc e.k),.int e.k,e.v]):=by rw[e1,ae (ak te hD)];exact te
   have yl:ys.length<=ts.length:=by
    rw[e2,Q0];have h1:=Qo (λe:Tp=>decide (lo<=plc e.k)&&decide (plc e.k<hi)) (ts.take n);have h2:(ts.take n).length<=ts.length:=by rw[Q8];lia
    lia
   refine⟨_,rfl,_,rfl,e.p,_,_,_,rfl,rfl,SqT.of bb,rfl,_,_,rfl,rfl,_,rfl,?_⟩;by_cases c1:lo<=plc e.k
   .refine lE c1 ⟨_,rfl,_,_,rfl,rfl,_,rfl,?_⟩;by_cases c2:plc e.k<hi
    .refine lE c2 ⟨_,rfl,CNext.mk hn U (br (by lia)) ⟨by rw[e1,bG],?_⟩⟩;rw[e2,Qr,Y,QB,Qc];simp[c1,c2]
    .refine bf c2 (CSkip.mk hn U ⟨e1,?_⟩);rw[e2,Qr,Y,QB];simp[c1,c2]
   .refine bf c1 ⟨_,rfl,cM (CSkip.mk hn U ⟨e1,?_⟩)⟩;rw[e2,Qr,Y,QB];simp[c1]
  .obtain⟨e1,e2⟩:=w;rw[Q0,QF]at e2;have s3:Same H' H3:=by rw[e1];exact ai hD
   have Z:(ts.filter λe=>decide (lo<=plc e.k)&&decide (plc e.k<hi)).Sublist ts:=List.filter_sublist;have fm:∀e,e∈(ts.filter λe=>decide (lo<=plc e.k)&&decide (plc e.k<hi))↔e∈ts/\lo<=plc e.k/\plc e.k<hi:=λe=>by
    rw[QH,QK,decide_eq_true_eq,decide_eq_true_eq]
   generalize (ts.filter λe=>decide (lo<=plc e.k)&&decide (plc e.k<hi))=fs at e2 Z fm;have aw:∀e∈fs,(e.k,e.v)∈st.kv:=λe he=>((I.me e.k e.v).mp (Z0 (f:=Tp.kv) ((fm e).mp he).1)).1;have t3:∀e∈fs,∃i:Int,e.v= .int i/\H3 e.p=some (.tup [.int (plc e.k),.int e.k,.int i]):=λe he=>by
    obtain⟨i,ei⟩:=hint _ (aw e he);have te:=s3 _ _ (I.tu e ((fm e).mp he).1).1;have ei:e.v= .int i:=ei;rw[ei]at te;exact⟨i,ei,te⟩
   refine⟨D,fs.map (·.p),ky3 H3,rfl,SqL.of (by rw[U,e2,Qu];rfl),λb hb=>?_,λl2 bs be pm pw=>?_⟩
   .obtain⟨e,he,rfl⟩:=Qh.mp hb;obtain⟨i,_,te⟩:=t3 e he;exact⟨_,_,_,te,Bx te⟩
   obtain⟨us,up,ue⟩:=yt pm;subst ue;have um:∀e,e∈us↔e∈fs:=λe=>up.mem_iff;have nk:(fs.map (·.k)).Nodup:=by
    have h0:=I.nd;rw[Qu]at h0;exact h0.sublist (Z.map _)
   have a1:=Kz up (λe he=>(t3 e he).imp λ_ h=>h.2) nk pw;have ab:∀k v,(k,v)∈us.map Tp.kv↔(k,v)∈st.kv/\lo<=plc k/\plc k<hi:=λk v=>by
    constructor
    .intro h;obtain⟨e,he,Y⟩:=Qh.mp h;cases Y;have he:=(um e).mp he;exact⟨aw e he,((fm e).mp he).2⟩
    .rintro ⟨h1,h2,h3⟩;have pb:=Jp k;have b1:=Int.ediv_mul_le r0 (QR W0);have h4:(k,v)∈ts.map Tp.kv:=(I.me k v).mpr ⟨h1,by lia,by lia⟩;obtain⟨e,he,Y⟩:=Qh.mp h4;cases Y;exact Qh.mpr ⟨e,(um e).mpr ((fm e).mpr ⟨he,h2,h3⟩),rfl⟩
   have ul:us.length<=ts.length:=by rw[up.length_eq];exact Z.length_le
   have e8:upd H3 l2 (.lst ((us.map (·.p)).map V.ref)) l2=some (.lst (us.map λe=>V.ref e.p)):=by rw[ac,Qu];rfl
   have s8:Same H' (upd H3 l2 (.lst ((us.map (·.p)).map V.ref))):=s3.trans (ai be);have t8:∀e∈us,upd H3 l2 (.lst ((us.map (·.p)).map V.ref)) e.p=some (.tup [.int (plc e.k),.int e.k,e.v]):=λe he=>s8 _ _ (I.tu e ((fm e).mp ((um e).mp he)).1).1;generalize upd H3 l2 (.lst ((us.map (·.p)).map V.ref))=H8 at e8 s8 t8⊢;refine⟨_,rfl,l2,rfl,⟨_,SqL.of e8⟩,λD2 a2=>?_⟩;refine jR (K:=K) (a:=l2) (xs:=us.map λe=>V.ref e.p) (λn ys H9=>Same H8 H9/\∃ws:List Tp,ys=ws.map (λe=>V.ref e.p)/\ws.map Tp.kv=(us.take n).map Tp.kv/\∀e∈ws,e.p≠D2/\H8 e.p=none/\H9 e.p=some (.tup [.int e.k,e.v]))
    ⟨ai a2,[],rfl,rfl,λe he=>by cases he⟩ (λn ys H9 _ w=>SqL.of (w.1 _ _ e8)) (λn v ys H9 hv w G=>?_) (λys H9 w G=>?_)
   .obtain⟨s9,ws,ey,ek,ew⟩:=w;have hn:=(Q2.mp hv).1;obtain⟨e,rfl,Y⟩:=EE hv;have te:=s9 _ _ (t8 e (Q1 Y));refine⟨_,rfl,e.p,_,_,_,rfl,rfl,SqT.of te,rfl,_,rfl,e.p,_,_,_,rfl,rfl,SqT.of te,rfl,(by show 2<=sizeLine;decide),λp2 a0=>?_⟩;have pd:p2≠D2:=λz=>by rw[z,G]at a0;cases a0
    have wl:ws.length<=us.length:=by
     have:=congrArg List.length ek;rw[Q0,Q0,Q8]at this;lia
    refine CNext.mk hn (by rw[ae pd.symm];exact G) (br (by rw[ey,Q0];lia)) ⟨bP (s9.trans (ai a0)) a2,ws++ [⟨p2,e.k,e.v⟩],by rw[ey,Qc];rfl,?_,λf hf=>?_⟩
    .rw[Qc,ek,Qr,Y,Qc];rfl
    .rcases Q5.mp hf with hf|hf
     .obtain⟨g1,g2,g3⟩:=ew f hf;exact⟨g1,g2,by rw[ae g1];exact ai a0 _ _ g3⟩
     .rw[Q7.mp hf];exact⟨pd,none_of s9 a0,by rw[ae pd];exact ac⟩
   .obtain⟨s9,ws,ey,ek,ew⟩:=w;rw[Q0,QF]at ek;have sm:=s8.trans s9;refine q H9 F' D2 ws (I.sl.same sm) (I.fr.trans (Fr.of_same sm)) (I.sl.out (none_of s8 a2)) (λnF=>qk (I.fr.trans (Fr.of_same s8)) nF a2) (by rw[G,ey]) (λe he=>?_) (by rw[ek];exact a1) (by rw[ek];exact ab);obtain⟨_,g2,g3⟩:=ew e he;exact⟨g3,I.sl.out (none_of s8 g2)⟩
theorem fQ (e:A[j]?=some c):atI (A.map V.ref) (j:Int)=some (.ref c):=by
 refine tU ?_;rw[Qn,e];rfl
theorem CC (z:x≠[]) (e:x[x.length-1]?=some m):atI (x.map V.int) (-1)=some (.int m):=by
 have hl:=QZ.mpr z;unfold atI ixN;rw[Q0,if_neg (by decide),if_pos (by lia)];show(x.map V.int)[((-1:Int)+(x.length:Int)).toNat]?=_;have:((-1:Int)+(x.length:Int)).toNat=x.length-1:=by lia
 rw[this,Qn,e];rfl
theorem Cj (h:i<A.length):ixN (A.map V.ref).length (i:Int)=some i:=by
 unfold ixN;rw[if_pos (by lia),if_pos (by rw[Q0];lia)];rfl
theorem pA:∀(A:List Addr) (i:Nat),(A.map V.ref).eraseIdx i=(A.eraseIdx i).map V.ref
 | [],_=>rfl
 |_::_,0=>rfl
 |a::r,i+1=>by
  show V.ref a::(r.map V.ref).eraseIdx i=V.ref a::(r.eraseIdx i).map V.ref;rw[pA r i]
theorem xC:∀(ls:List (List Int)) (i:Nat) (y:List Int),(ls.set i y).eraseIdx i=ls.eraseIdx i
 | [],_,_=>rfl
 |_::_,0,_=>rfl
 |x::r,i+1,y=>by
  show x::(r.set i y).eraseIdx i=x::r.eraseIdx i;rw[xC r i y]
def IL (a:Addr) (k:Int) (ls:List (List Int)) (H:Hp):Nat->St->Hp->Prop:=λm σ H'=>∃(lo hi:Nat) (v4:Option V),m=hi-lo/\H'=H/\σ=[some (.ref a),some (.int k),some (.int (lo:Int)),some (.int (hi:Int)),v4]/\lo<=hi/\hi<=ls.length/\
 (∀(j:Nat) (x:List Int),j<lo->ls[j]?=some x->∀y∈x,y<k)/\∀(j:Nat) (x:List Int),hi<=j->ls[j]?=some x->∃y∈x,k<=y
def oT (t:Adr):Sp:=λvs H Q _=>∃(a:Addr) (k:Int) (L:Addr) (A:List Addr) (ls:List (List Int)),vs=[.ref a,.int k]/\LvB t H a L A ls/\(∀l∈ls,l≠[])/\cN ls.flatten/\∀i:Nat,LeafOf ls k i->Q (.int (i:Int)) H
theorem bU (T:Txt K mg t):FnOk P w K mg base CX0 1 t.i4 t.eU ["self","key"] (oT t):=by
 refine T.CG.okl sc_Leaves__leaf_of λ_ _ _ s H vs Q E hr h=>?_;intro X;obtain⟨a,k,L,A,ls,rfl,hb,ne,up,q⟩:=h;refine ah (ay (i:=2) sc_Leaves__leaf_of.nd rfl (Or.inl rfl) af)
   (ah (ay (i:=3) sc_Leaves__leaf_of.nd rfl (Or.inl rfl) (aF aE (by rfl) T.bO bh (aa (ar (pv 0) rfl) ag)))
   (bV (λx=>(lY PassesOwn.never (ao dZ (pv 2) (pv 3) (aq _))
    x)) ?_))
 refine ah (ay (i:=4) sc_Leaves__leaf_of.nd rfl (Or.inl rfl) (al aT (al bp (pv 2) (pv 3)) af))
   (aA (aV (ao dZ (aX aW (aX aW (ar (pv 0) rfl) (pv 4) (λ_ _=>rfl)) (EK AN af) (λ_ _=>rfl)) (pv 1) (aq _))
    (aB (ay (i:=2) sc_Leaves__leaf_of.nd rfl (Or.inl rfl) (al bp (pv 4) af)))
    (aB (ay (i:=3) sc_Leaves__leaf_of.nd rfl (Or.inl rfl) (pv 4)))) ?_)
 intros
 refine aA (aD (pv 2)) ?_
 intros
 obtain⟨dx,ho⟩:=hb.obj;have lA:((A.map V.ref).length:Int)=(ls.length:Int):=by rw[Q0,hb.len]
 refine⟨_,rfl,a,_,dx,_,_,rfl,ho,T.aM,T.aC,cJ,L,_,rfl,.inl (SqL.of hb.lst),?_⟩;dsimp only;rw[lA];refine⟨IL a k ls H,⟨_,0,ls.length,none,rfl,rfl,rfl,Qj _,Q4 _,λj x h=>absurd h (by lia),λj x h e=>?_⟩,?_⟩
 .have:=(Q2.mp e).1;lia
 rintro m σ H' ⟨lo,hi,v4,rfl,rfl,rfl,h1,h2,h3,h4⟩;refine⟨_,rfl,_,rfl,_,_,rfl,rfl,_,rfl,bK (λc=>?_) (λc=>?_)⟩
 .have c:lo<hi:=by have:=of_decide_eq_true c;lia
  refine⟨λU H''=>∃m',m'<hi-lo/\IL a k ls H' m' U H'',λ_ _ h=>h,?_⟩;refine⟨_,rfl,_,rfl,_,_,rfl,rfl,_,_,rfl,rfl,⟨by decide,by decide⟩,?_⟩;obtain⟨G,em,m1,m2⟩:∃G:Nat,((lo:Int)+(hi:Int))/2=(G:Int)/\lo<=G/\G<hi:=⟨(lo+hi)/2,by lia,by lia,by lia⟩;dsimp only;rw[em];have hm:G<ls.length:=by lia
  have ex:ls[G]?=some ls[G]:=Q3 hm;obtain⟨b,eb,Y⟩:=hb.at ex;have I:=ne _ (Zh hm);obtain⟨g,eg,Z,O⟩:=Fi (G2 up ex) I;refine⟨_,rfl,a,_,dx,_,_,rfl,ho,T.aM,T.aC,cJ,_,rfl,L,_,_,_,rfl,rfl,SqL.of hb.lst,fQ eb,_,rfl,b,_,_,_,rfl,rfl,SqL.of Y,CC I eg,_,rfl,_,_,rfl,rfl,_,rfl,bK (λc2=>?_) (λc2=>?_)⟩
  .have c2:=of_decide_eq_true c2;refine⟨_,rfl,_,_,rfl,rfl,hi-(G+1),by lia,G+1,hi,_,rfl,rfl,rfl,by lia,h2,λj x hj e y hy=>?_,h4⟩;rcases(show j<G\/j=G by lia)with h|h
   .have:=xf up e ex h y hy g Z;lia
   .subst h;rw[ex]at e;cases e;have:=O y hy;lia
  .have c2:¬g<k:=λz=>c2 (decide_eq_true z);refine⟨_,rfl,G-lo,by lia,lo,G,_,rfl,rfl,rfl,by lia,by lia,h3,λj x hj e=>?_⟩;rcases(show j=G\/G<j by lia)with h|h
   .subst h;rw[ex]at e;cases e;exact⟨g,Z,by lia⟩
   .obtain⟨y,hy⟩:=List.exists_mem_of_ne_nil x (ne x (Q1 e));have:=xf up ex e h g Z y hy;exact⟨y,hy,by lia⟩
 .have c:¬lo<hi:=λz=>c (decide_eq_true (by lia));have:lo=hi:=by lia
  subst this;exact⟨_,rfl,q lo ⟨h2,h3,λx e=>h4 lo x (Q4 _) e⟩⟩
theorem zZ {k:Int}:∀{x:List Int},inV (.int k) (x.map V.int)=decide (k∈x)
 | []=>rfl
 |a::r=>by
  have G:=zZ (k:=k) (x:=r);unfold inV at G⊢;rw[Qs,ZU,G];have:eqV (.int a) (.int k)=decide (k=a):=by
   show(_:Bool)=_;by_cases c:a=k
   .subst c;simp[eqV]
   .have I:¬k=a:=λz=>c z.symm;simp[eqV,c,I]
  rw[this];by_cases c:k=a
  .simp[c]
  .simp[c]
theorem Dy:(x.map V.int).all qm=true:=by
 rw[List.all_map];exact QS.mpr λ_ _=>rfl
theorem mj (T:Txt K mg t):FnOk P w K mg base CX0 2 t.oK t.jz ["self","key"] (ui K t):=by
 refine T.GI.okl sc_Leaves__has λ_ _ _ s H vs Q E hr h=>?_;intro X;obtain⟨a,k,F,ks,rfl,I,q⟩:=h;refine ah (ay (i:=2) sc_Leaves__has.nd rfl (Or.inl rfl) (aR (pv 0) T.aM T.cI (bU T) hr.mo T.cK .nil az (aa (pv 1) ag)))
   (aA (aD (gi (bI dZ (pv 2) (aF aE (by rfl) T.bO bh (aa (ar (pv 0) rfl) ag)) (aq _)) (cT (bI C4 (pv 1) (aX aW (ar (pv 0) rfl) (pv 2) (λ_ _=>rfl)) rfl)))) ?_)
 intros
 obtain⟨dx,fs,hi,hm⟩:=I.ins;have q:=q H F I Fr.refl;obtain⟨L,A,ls,hb,ok,U,hF⟩:=I;obtain⟨G,Y⟩:=hb.obj;have lA:((A.map V.ref).length:Int)=(ls.length:Int):=by rw[Q0,hb.len]
 refine⟨_,rfl,a,dx,fs,rfl,hi,hm _ (by decide+kernel),_,rfl,a,k,L,A,ls,rfl,hb,ok.ne,ok.up,λi Z=>?_⟩;refine⟨_,rfl,_,rfl,a,_,G,_,_,rfl,Y,T.aM,T.aC,cJ,L,_,rfl,.inl (SqL.of hb.lst),_,_,rfl,rfl,_,rfl,bK (λc=>?_) (λc=>?_)⟩
 .have c:=of_decide_eq_true c;have hi:i<ls.length:=by lia
  have ex:ls[i]?=some ls[i]:=Q3 hi;obtain⟨b,eb,O⟩:=hb.at ex;refine⟨_,rfl,_,rfl,a,_,G,_,_,rfl,Y,T.aM,T.aC,cJ,_,rfl,L,_,_,_,rfl,rfl,SqL.of hb.lst,fQ eb,b,_,rfl,.inl (SqL.of O),rfl,Dy,?_⟩;show Q (.bl (inV (.int k) (ls[i].map V.int))) H;rw[zZ];have:k∈ls[i]↔k∈ks:=by
   rw[<-U,Z.mem ok];constructor
   .exact λz=>⟨_,ex,z⟩
   .rintro ⟨x,e,z⟩;rw[ex]at e;cases e;exact z
  rw[decide_eq_decide.mpr this];exact q
 .have c:¬(i:Int)<((A.map V.ref).length:Int):=λz=>c (decide_eq_true z);have:k∉ks:=λz=>by
   rw[<-U,Z.mem ok]at z;obtain⟨x,e,_⟩:=z;have:=(Q2.mp e).1;lia
  rw[decide_eq_false this]at q;exact q
theorem tD (T:Txt K mg t):FnOk P w K mg base CX0 1 t.mY t.iI ["self"] (sM K t):=by
 refine T.Gd.okl sU λ_ _ _ s H vs Q E Y h=>?_;intro X;obtain⟨a,dx,rfl,ha,hd,q⟩:=h;refine⟨_,(aB (bc (pv 0) (bT ag) rfl))
  ,?_⟩
 refine⟨Qj _,λL G=>⟨_,rfl,a,_,dx,[],rfl,(by rw[ae (ak ha G)];exact ha),T.aM,T.aC,(by show 0<1000;decide),?_⟩⟩;have U:=ak ha G;refine q _ (LvF a L []) ⟨L,[],[],⟨⟨dx,ac⟩,by rw[ae U.symm];exact ac,rfl,(λj b l e=>by simp at e),(λi j b e=>by simp at e),(λz=>by cases z)⟩,LvOk.nil,rfl,λb=>Iff.rfl⟩ λb o n w=>?_;have I:b≠a:=λy=>n (.inl y);have O:b≠L:=ak w G;refine⟨by rw[ae I,ae O];exact w,λy=>?_⟩;rcases y with y|y|y
 .exact I y
 .exact O y
 .cases y
def lJ (t:Adr):Sp:=λvs H Q _=>∃(a L:Addr) (A:List Addr) (ls:List (List Int)) (i:Nat) (x:List Int),vs=[.ref a,.int (i:Int)]/\LvB t H a L A ls/\ls[i]?=some x/\x.length=9/\ls.length<5000/\
 ∀H' A',LvB t H' a L A' ((ls.set i (x.take 4)).take (i+1)++x.drop 4::(ls.set i (x.take 4)).drop (i+1))->Fr (LvF a L A) (LvF a L A') H H'->Q .non H'
theorem mi (T:Txt K mg t):FnOk P w K mg base CX0 1 t.gF t.dE ["self","at"] (lJ t):=by
 refine T.AF.okl sc_Leaves__part_leaf λ_ _ _ s H vs Q E hr h=>?_;intro X;obtain⟨a,L,A,ls,i,x,rfl,hb,ex,lx,ll,q⟩:=h;refine ah (ay (i:=2) sc_Leaves__part_leaf.nd rfl (Or.inl rfl) (aX aW (ar (pv 0) rfl) (pv 1) (λ_ _=>rfl)))
   (ah (ay (i:=3) sc_Leaves__part_leaf.nd rfl (Or.inl rfl) (al aT (aF aE (by rfl) T.bO bh (aa (pv 2) ag)) af))
   (ah (rq (eL gK (pv 2) iT (fP (pv 3))) (Bi (ar (pv 0) rfl) (pv 1) uu))
   (aA (aS (dJ Qq PySem.F.slot_list_insert PySem.F.type_list_insert xq (ar (pv 0) rfl) (aa (al bp (pv 1) af) (aa (eL gK (pv 2) (fP (pv 3)) iT) ag)))) ?_)))
 intros
 obtain⟨dx,ho⟩:=hb.obj;obtain⟨c,ec,hc⟩:=hb.at ex;have b1:i<A.length:=(Q2.mp ec).1;have a0:((x.map V.int).length:Int)=9:=by rw[Q0,lx];rfl
 refine⟨_,rfl,a,_,dx,_,_,rfl,ho,T.aM,T.aC,cJ,_,rfl,L,_,_,_,rfl,rfl,SqL.of hb.lst,fQ ec,?_⟩;refine⟨_,rfl,c,_,rfl,.inl (SqL.of hc),_,_,rfl,rfl,⟨by decide,by decide⟩,?_⟩;dsimp only;rw[a0];have a1:nS (x.map V.int) none (some (9/2))=(x.take 4).map V.int:=by
  unfold nS;rw[Q0,lx];show((x.map V.int).drop 0).take (4-0)=_;rw[Z9,Z7]
 have a2:nS (x.map V.int) (some (9/2)) none=(x.drop 4).map V.int:=by
  unfold nS;rw[Q0,lx];show((x.map V.int).drop 4).take (9-4)=_;rw[ZJ,Qt (by rw[QA,Q0,lx];exact Q4 _)]
 refine⟨_,rfl,_,rfl,_,rfl,c,_,rfl,SqL.of hc,λG O=>?_⟩;rw[a1];have s1:Same H (upd H G (.lst ((x.take 4).map V.int))):=ai O;have hb1:=hb.same s1;have a3:upd H G (.lst ((x.take 4).map V.int)) G=some (.lst ((x.take 4).map V.int)):=ac;have b2:=hb.out O;have a4:=s1 _ _ ho;have a5:=s1 _ _ hc;have a7:=s1 _ _ hb.lst;generalize upd H G (.lst ((x.take 4).map V.int))=H1 at s1 hb1 a3 a4 a5 a7⊢;refine⟨_,rfl,a,_,dx,_,_,rfl,a4,T.aM,T.aC,cJ,_,rfl,L,_,_,_,rfl,rfl,a7,Cj b1,?_⟩;have es:(A.map V.ref).set i (V.ref G)=(A.set i G).map V.ref:=by rw[List.map_set]
 rw[es];have I:=hb1.swap ec ex a3 b2;have cL:c≠L:=λz=>hb.nL (z▸Q1 ec);have ab:upd H1 L (.lst ((A.set i G).map V.ref)) c=some (.lst (x.map V.int)):=by rw[ae cL];exact a5
 obtain⟨b5,an⟩:=I.obj;have U:=I.lst;have f2:Fr (LvF a L A) (LvF a L (A.set i G)) H (upd H1 L (.lst ((A.set i G).map V.ref))):=λb o n w=>by
  have w1:=s1 _ _ w;refine⟨by rw[ae (λy=>n (.inr (.inl y)))];exact w1,λy=>?_⟩;rcases y with y|y|y
  .exact n (.inl y)
  .exact n (.inr (.inl y))
  .rcases List.mem_or_eq_of_mem_set y with y|y
   .exact n (.inr (.inr y))
   .rw[y,O]at w;cases w
 generalize upd H1 L (.lst ((A.set i G).map V.ref))=H2 at I ab an U f2⊢;refine⟨_,rfl,a,_,b5,_,_,rfl,an,T.aM,T.aC,cJ,.inl ⟨rfl,_,SqL.of U⟩,_,rfl,_,_,rfl,rfl,_,rfl,_,rfl,_,rfl,c,_,rfl,SqL.of ab,λZ Y=>?_⟩;rw[a2];have s3:Same H2 (upd H2 Z (.lst ((x.drop 4).map V.int))):=ai Y;have ap:=I.same s3;have aw:upd H2 Z (.lst ((x.drop 4).map V.int)) Z=some (.lst ((x.drop 4).map V.int)):=ac;have b8:=I.out Y;have ax:=s3 _ _ U;generalize upd H2 Z (.lst ((x.drop 4).map V.int))=H3 at s3 ap aw ax⊢;have lS:(A.set i G).length=A.length:=QI;refine⟨L,_,_,_,rfl,rfl,ax,(by lia),(by rw[Q0,lS];lia),(by rw[Q0,lS,hb.len];exact br (by lia)),?_⟩;have ei:((i:Int)+1).toNat=i+1:=by lia
 have b9:=ap.insert (i:=i+1) (by rw[lS];lia) aw b8;rw[ei];have em:((A.set i G).map V.ref).take (i+1)++V.ref Z::((A.set i G).map V.ref).drop (i+1)=((A.set i G).take (i+1)++Z::(A.set i G).drop (i+1)).map V.ref:=by
  rw[Qc,Qs,Z7,ZJ]
 rw[em];refine q _ _ b9 (f2.trans (λb o n w=>?_));have w3:=s3 _ _ w;refine⟨by rw[ae (λy=>n (.inr (.inl y)))];exact w3,λy=>?_⟩;rcases y with y|y|y
 .exact n (.inl y)
 .exact n (.inr (.inl y))
 .rcases Q5.mp y with y|y
  .exact n (.inr (.inr (QY y)))
  .rcases Qg.mp y with y|y
   .rw[y,Y]at w;cases w
   .exact n (.inr (.inr (ZD y)))
theorem LvB.insM (h:LvB t H a L A ls):∃dx fs,H a=some (.ins t.bB dx fs)/\∀m,m≠("leaves":Str)->fs.lookup m=none:=by
 obtain⟨dx,z⟩:=h.obj;exact⟨dx,_,z,λm G=>IC G⟩
theorem uS (T:Txt K mg t):FnOk P w K mg base CX0 3 t.oM t.jA ["self","key"] (uj K t):=by
 obtain⟨I,G⟩:=T.g_MOST_IN_LEAF;refine T.GJ.okl sc_Leaves__add λ_ _ _ s H vs Q E hr h=>?_;intro X;obtain⟨a,k,F,ks,rfl,hA,hl,q1,q2⟩:=h;refine ah (aV (eK (aR (pv 0) T.aM T.wM (mj T) hr.mo T.wS .nil az (aa (pv 1) ag)))
    (aB cE)
    aI)
   (bV (λx=>aV (ao bN (aF aE (by rfl) T.bO bh (aa (ar (pv 0) rfl) ag)) af (aq _)) x aI) ?_)
 refine ah (aS (dJ Qq QV QW d7 (ar (pv 0) rfl) (aa (bT (aa (pv 1) ag)) ag)))
   (aA nB ?_)
 intros
 refine ah (ay (i:=2) sc_Leaves__add.nd rfl (Or.inl rfl) (aF (nM rfl) (by rfl) T.ze rY (aa (aR (pv 0) T.aM T.cI (bU T) hr.mo T.cK .nil az (aa (pv 1) ag)) (aa (al io (aF aE (by rfl) T.bO bh (aa (ar (pv 0) rfl) ag)) af) ag))))
   (ah (ay (i:=3) sc_Leaves__add.nd rfl (Or.inl rfl) (aX aW (ar (pv 0) rfl) (pv 2) (λ_ _=>rfl)))
   (ah (aS (dJ Qq PySem.F.slot_list_insert PySem.F.type_list_insert xq (pv 3) (aa (aF aE (by rfl) T.bO bh (aa (p4 rfl (CScope.of (M:=["one"]) (N:=["self","key","at","leaf"]) (N':=["self","key","at","leaf"]) (dsc:=aj fO) rfl rfl (by decide+kernel)) (c8 (pv 3)) (λ_ _ _ _ _=>(ao dZ (pv 0) (pv 2) (aq _))) (λ_ _ _ _ _=>(pv 0))) ag)) (aa (pv 1) ag))))
   (aA (aV (ao zH (aF aE (by rfl) T.bO bh (aa (pv 3) ag)) (cG (v:= .int 8) (by rfl) G ⟨_,rfl⟩) (aq _))
    (aB (aS (aR (pv 0) T.aM T.Aw (mi T) hr.mo T.AB .nil az (aa (pv 2) ag))))
    aI) ?_)))
 intros
 obtain⟨dx,fs,hi,hm⟩:=hA.ins;refine⟨_,rfl,a,dx,fs,rfl,hi,hm _ (by decide+kernel),_,rfl,a,k,F,ks,rfl,hA,λH0 F0 a5 a0=>?_⟩;by_cases ck:k∈ks
 .rw[decide_eq_true ck];refine⟨_,rfl,db ?_⟩;exact(q2 ck).elim
 rw[decide_eq_false ck];refine⟨_,rfl,cM ?_⟩;have q:=q1 ck;obtain⟨L,A,ls,hb,ok,ef,hF⟩:=a5;obtain⟨O,ho⟩:=hb.obj;have lA:((A.map V.ref).length:Int)=(ls.length:Int):=by rw[Q0,hb.len]
 have sh:=ok.short;rw[ef]at sh;have fr:Fr F (LvF a L A) H H0:=λb o n e=>⟨(a0 b o n e).1,λy=>(a0 b o n e).2 ((hF b).mpr y)⟩;have nk:k∉ls.flatten:=by rw[ef];exact ck
 by_cases ce:ls=[]
 .subst ce;have eA:A=[]:=Xd.mp hb.len;subst eA;refine⟨_,rfl,a,_,O,_,_,rfl,ho,T.aM,T.aC,cJ,L,_,rfl,.inl (SqL.of hb.lst),rfl,_,rfl,fX rfl ?_⟩;refine⟨_,rfl,a,_,O,_,_,rfl,ho,T.aM,T.aC,cJ,.inl ⟨rfl,_,SqL.of hb.lst⟩,_,rfl,(by show 1<=sizeLine;decide),λn nn=>?_⟩;have s1:Same H0 (upd H0 n (.lst [.int k])):=ai nn;have hb1:=hb.same s1;have a7:upd H0 n (.lst [.int k]) n=some (.lst (([k]:List Int).map V.int)):=ac;have nF:=hb.out nn;have ab:=s1 _ _ hb.lst;refine⟨L,_,_,rfl,rfl,ab,cu (by show 0<=1000;decide),?_⟩;have an:=hb1.insert (i:=0) (Qj _) a7 nF;have ap:LvOk [[k]]:=⟨(λl hl=>by rw[Q7.mp hl];simp),(λl hl=>by rw[Q7.mp hl];simp),(λi x y e1 e2=>by simp at e2),by show cN [k];exact Zb _ _⟩;refine q _ (LvF a L [n]) [k] ⟨L,[n],[[k]],an,ap,rfl,λb=>Iff.rfl⟩ (λz=>?_) (fr.trans λb o n' w=>?_)
  .rw[<-ef];simp
  .have w1:=s1 _ _ w;refine⟨by rw[ae (λy=>n' (.inr (.inl y)))];exact w1,λy=>?_⟩;rcases y with y|y|y
   .exact n' (.inl y)
   .exact n' (.inr (.inl y))
   .rw[Q7.mp y,nn]at w;cases w
 .have bv:=QZ.mpr ce;refine⟨_,rfl,a,_,O,_,_,rfl,ho,T.aM,T.aC,cJ,L,_,rfl,.inl (SqL.of hb.lst),rfl,_,rfl,bf (λw=>?_) ?_⟩
  .have:=V.int.inj w;lia
  obtain⟨aw,ax,b1,b2⟩:=hb.insM;refine⟨_,rfl,a,aw,ax,rfl,b1,b2 _ (by decide+kernel),_,rfl,a,k,L,A,ls,rfl,hb,ok.ne,ok.up,λi li=>?_⟩;refine⟨_,rfl,a,_,O,_,_,rfl,ho,T.aM,T.aC,cJ,L,_,rfl,.inl (SqL.of hb.lst),_,_,rfl,rfl,_,_,rfl,?_⟩;obtain⟨x,ad⟩:=li.add ok ce;have em:(if((A.map V.ref).length:Int)-1<(i:Int)then((A.map V.ref).length:Int)-1 else(i:Int))=((min i (ls.length-1):Nat):Int):=by
   rw[lA];split<;>lia
  dsimp only;rw[em];generalize min i (ls.length-1)=j at ad⊢;obtain⟨c,ec,hc⟩:=hb.at ad.at_;have jl:j<ls.length:=(Q2.mp ad.at_).1;have x8:=ok.le x (Q1 ad.at_);refine⟨_,rfl,a,_,O,_,_,rfl,ho,T.aM,T.aC,cJ,_,rfl,L,_,_,_,rfl,rfl,SqL.of hb.lst,fQ ec,?_⟩;refine⟨_,rfl,.inl ⟨rfl,_,SqL.of hc⟩,_,rfl,c,rfl,⟨_,SqL.of hc⟩,λD hD=>?_⟩;refine kS (K:=K) (a:=c) (xs:=x.map V.int) (λn ys H3=>H3=upd H0 D (.lst ys)/\ys=((x.take n).filter (λz=>decide (z<k))).map V.int) ⟨rfl,rfl⟩ (λn ys H3 _ w=>SqL.of (by rw[w.1,ae (ak hc hD)];exact hc)) (λn v ys H3 hv w U=>?_) (λys H3 w U=>?_)
  .obtain⟨e1,e2⟩:=w;obtain⟨g,rfl,eg⟩:∃g:Int,v= .int g/\x[n]?=some g:=by
    rw[Qn]at hv;cases e:x[n]? with
    |none=>rw[e]at hv;cases hv
    |some g=>rw[e]at hv;cases hv;exact⟨g,rfl,rfl⟩
   have hn:n<(x.map V.int).length:=(Q2.mp hv).1;refine⟨_,rfl,_,rfl,_,_,rfl,rfl,_,rfl,?_⟩;have fl:ys.length<=8:=by
    rw[e2,Q0];have h1:=Qo (λz=>decide (z<k)) (x.take n);have h2:(x.take n).length<=x.length:=by rw[Q8];lia
    lia
   by_cases cg:g<k
   .refine lE cg ⟨_,rfl,CNext.mk hn U (cu (by lia)) ⟨by rw[e1,bG],?_⟩⟩;rw[e2,Qr,eg,QB,Qc];simp[cg]
   .refine bf cg (CSkip.mk hn U ⟨e1,?_⟩);rw[e2,Qr,eg,QB];simp[cg]
  .obtain⟨e1,e2⟩:=w;rw[Q0,QF]at e2;have s3:Same H0 H3:=by rw[e1];exact ai hD
   have b5:=hb.same s3;have b8:=s3 _ _ hc;have yl:(ys.length:Int)=((x.filter (λz=>decide (z<k))).length:Int):=by rw[e2,Q0]
   have bw:=Qo (λz=>decide (z<k)) x;refine⟨D,_,rfl,.inl (SqL.of U),_,rfl,c,_,_,_,rfl,rfl,b8,(by lia),(by rw[Q0];lia),(by rw[Q0];exact cu (by lia)),?_⟩;have ei:(x.map V.int).take (ys.length:Int).toNat++V.int k::(x.map V.int).drop (ys.length:Int).toNat=(fY x k).map V.int:=by
    rw[yl,QN];unfold fY;rw[Qc,Qs,Z7,ZJ]
   dsimp only;rw[ei];have Y:=b5.write (y:=fY x k) ec ad.at_;have il:=Fo (l:=x) (k:=k);obtain⟨a1,Z⟩:=ad.set ok nk;have cF:LvF a L A c:= .inr (.inr (Q1 ec));have f4:Fr (LvF a L A) (LvF a L A) H0 (upd H3 c (.lst ((fY x k).map V.int))):=λb o n w=>⟨by rw[ae (λy=>n (by rw[y];exact cF))];exact s3 _ _ w,n⟩;have a2:upd H3 c (.lst ((fY x k).map V.int)) c=some (.lst ((fY x k).map V.int)):=ac;generalize upd H3 c (.lst ((fY x k).map V.int))=H4 at Y f4 a2⊢;refine⟨_,rfl,c,_,rfl,.inl (SqL.of a2),_,_,rfl,rfl,_,rfl,?_⟩;have ll:((fY x k).map V.int).length=x.length+1:=by rw[Q0,il]
   by_cases c9:x.length=8
   .refine lE (by rw[ll];lia) ?_;obtain⟨b9,ba,bb,be⟩:=Y.insM;have e5:(ls.set j (fY x k))[j]?=some (fY x k):=by rw[Qy,if_pos rfl,if_pos jl]
    refine⟨_,rfl,a,b9,ba,rfl,bb,be _ (by decide+kernel),_,rfl,a,L,A,_,j,_,rfl,Y,e5,by lia,by rw[QI];lia,λH6 A6 a3 f6=>?_⟩;have er:(ls.set j (fY x k)).set j ((fY x k).take 4)=ls.set j ((fY x k).take 4):=List.set_set _;rw[er]at a3;have bl:cN (ls.set j ((fY x k).take 4++(fY x k).drop 4)).flatten:=by rw[QJ];exact a1
    obtain⟨bo,a4⟩:=ok.parted ad.at_ (a:=(fY x k).take 4) (b:=(fY x k).drop 4) (by rw[Q8];lia) (by rw[QA];lia) bl;rw[QJ]at a4;refine q H6 _ _ ⟨L,A6,_,a3,bo,rfl,λb=>Iff.rfl⟩ (λz=>?_) (fr.trans (f4.trans f6));rw[a4,Z,ef]
   .refine bf (by rw[ll];lia) ?_;have bt:=ok.grown ad.at_ (y:=fY x k) (by lia) (by lia) a1;exact q H4 _ _ ⟨L,A,_,Y,bt,rfl,λb=>Iff.rfl⟩ (λz=>by rw[Z,ef]) (fr.trans f4)
def lh (t:Adr):Sp:=λvs H Q _=>∃(a L:Addr) (A:List Addr) (ls:List (List Int)) (i:Int),vs=[.ref a,.int i]/\LvB t H a L A ls/\-1<=i/\i<(ls.length:Int)/\(∀l∈ls,l.length<=8)/\ls.length<5000/\
 ∀H' A' ls',LvB t H' a L A' ls'->ls'=(if 0<=i then oj ls i.toNat else ls)->Fr (LvF a L A) (LvF a L A') H H'->Q .non H'
theorem E5 {n:Addr} (h:b∈A.set i n):b∈A\/b=n:=List.mem_or_eq_of_mem_set h
theorem lu (T:Txt K mg t):FnOk P w K mg base CX0 1 t.fZ t.cX ["self","at"] (lh t):=by
 obtain⟨I,z⟩:=T.g_LEAST_IN_TWO;refine T.Au.okl sc_Leaves__join_small λ_ _ _ s H vs Q E hr h=>?_;intro X;obtain⟨a,L,A,ls,i,rfl,hb,i0,i1,l8,ll,q⟩:=h;refine ah (aV (PW.pt (ie (ao dZ (pv 1) af (aq _)) (fA (ao bN (al bp (pv 1) af) (aF aE (by rfl) T.bO bh (aa (ar (pv 0) rfl) ag)) (aq _)))))
    (aB nB)
    aI)
   (ah (ay (i:=2) sc_Leaves__join_small.nd rfl (Or.inl rfl) (al ER (aX aW (ar (pv 0) rfl) (pv 1) (λ_ _=>rfl)) (aX aW (ar (pv 0) rfl) (al bp (pv 1) af) (λ_ _=>rfl))))
   (uV (λx=>aV (ao dZ (aF aE (by rfl) T.bO bh (aa (pv 2) ag)) (cG (v:= .int 5) (by rfl) z ⟨_,rfl⟩) (aq _)) x aI) ?_))
 refine ah (rq (pv 2) (Bi (ar (pv 0) rfl) (pv 1) uu))
   (aA (aS (dJ Qq PySem.F.slot_list_pop PySem.F.type_list_pop zM (ar (pv 0) rfl) (aa (al bp (pv 1) af) ag))) ?_)
 intros
 obtain⟨dx,ho⟩:=hb.obj;have lA:((A.map V.ref).length:Int)=(ls.length:Int):=by rw[Q0,hb.len]
 by_cases c0:i<0
 .refine⟨_,rfl,_,_,rfl,rfl,_,rfl,lE c0 ?_⟩;exact db (q H A ls hb (by rw[if_neg (by lia)]) Fr.refl)
 refine⟨_,rfl,_,_,rfl,rfl,_,rfl,bf c0 ?_⟩;obtain⟨n,rfl⟩:=Za (show 0<=i by lia);have en:((n:Int)).toNat=n:=QN n;rw[if_pos (by lia),en]at q;refine⟨_,rfl,_,_,rfl,rfl,_,rfl,a,_,dx,_,_,rfl,ho,T.aM,T.aC,cJ,L,_,rfl,.inl (SqL.of hb.lst),rfl,_,rfl,?_⟩;by_cases c1:n+1=ls.length
 .refine fX (congrArg V.int (by rw[lA];lia)) ?_;exact q H A ls hb (vd (by lia)).symm Fr.refl
 refine bf (λw=>c1 (by have:=V.int.inj w;rw[lA]at this;lia)) ?_;have hn:n<ls.length:=by lia
 have U:n+1<ls.length:=by lia
 have ex:ls[n]?=some ls[n]:=Q3 hn;have ey:ls[n+1]?=some ls[n+1]:=Q3 U;have x8:=l8 _ (Zh hn);have y8:=l8 _ (Zh U);generalize ls[n]=x at ex x8;generalize ls[n+1]=y at ey y8;obtain⟨c,ec,hc⟩:=hb.at ex;obtain⟨d,ed,hd⟩:=hb.at ey;have an:(n:Int)+1=((n+1:Nat):Int):=rfl;refine⟨_,rfl,a,_,dx,_,_,rfl,ho,T.aM,T.aC,cJ,_,rfl,L,_,_,_,rfl,rfl,SqL.of hb.lst,fQ ec,_,rfl,a,_,dx,_,_,rfl,ho,T.aM,T.aC,cJ,_,rfl,_,_,rfl,rfl,L,_,_,_,rfl,rfl,SqL.of hb.lst,fQ ed,c,d,_,_,rfl,rfl,hc,hd,Zp (cu (by rw[Q0,Q0];lia)),λG Y=>?_⟩;rw[<-Qc];have s1:Same H (upd H G (.lst ((x++y).map V.int))):=ai Y;have hb1:=hb.same s1;have Z:upd H G (.lst ((x++y).map V.int)) G=some (.lst ((x++y).map V.int)):=ac;have nF:=hb.out Y;have a1:=s1 _ _ ho;have a2:=s1 _ _ hb.lst;generalize upd H G (.lst ((x++y).map V.int))=H1 at s1 hb1 Z a1 a2⊢;refine⟨_,rfl,G,_,rfl,.inl (SqL.of Z),_,_,rfl,rfl,_,rfl,?_⟩;have a3:(((x++y).map V.int).length:Int)=(x.length:Int)+(y.length:Int):=by rw[Q0,Qa];rfl
 rw[zY ex ey]at q;by_cases c5:x.length+y.length<5
 .refine lE (by rw[a3];lia) ?_;rw[if_pos c5]at q;have nA:n<A.length:=by rw[hb.len];exact hn
  refine⟨_,rfl,_,rfl,a,_,dx,_,_,rfl,a1,T.aM,T.aC,cJ,_,rfl,L,_,_,_,rfl,rfl,a2,Cj nA,?_⟩;have es:(A.map V.ref).set n (V.ref G)=(A.set n G).map V.ref:=by rw[List.map_set]
  rw[es];have O:=hb1.swap ec ex Z nF;obtain⟨a5,a4⟩:=O.obj;have a0:=O.lst;have f2:Fr (LvF a L A) (LvF a L (A.set n G)) H (upd H1 L (.lst ((A.set n G).map V.ref))):=λb o n' w=>by
   have w1:=s1 _ _ w;refine⟨by rw[ae (λy=>n' (.inr (.inl y)))];exact w1,λy=>?_⟩;rcases y with y|y|y
   .exact n' (.inl y)
   .exact n' (.inr (.inl y))
   .rcases E5 y with y|y
    .exact n' (.inr (.inr y))
    .rw[y,Y]at w;cases w
  generalize upd H1 L (.lst ((A.set n G).map V.ref))=H2 at O a4 a0 f2⊢;have lS:((A.set n G).map V.ref).length=ls.length:=by rw[Q0,QI,hb.len]
  have a7:n+1<(A.set n G).length:=by rw[QI,hb.len];exact U
  have sx:seqIndex? ((n:Int)+1) ((A.set n G).map V.ref).length=some (n+1):=by
   have:=seqIndex_of (k:=(n:Int)+1) (n:=((A.set n G).map V.ref).length) (by lia) (by rw[lS];lia);rw[this];congr 1
  refine⟨_,rfl,a,_,a5,_,_,rfl,a4,T.aM,T.aC,cJ,.inl ⟨rfl,_,SqL.of a0⟩,_,rfl,_,_,rfl,rfl,L,_,_,n+1,_,rfl,rfl,a0,(by lia),(by lia),sx,(by rw[Qn,Q3 a7];rfl),?_⟩;have ab:=O.erase (i:=n+1);have em:((A.set n G).map V.ref).eraseIdx (n+1)=((A.set n G).eraseIdx (n+1)).map V.ref:=pA _ _;rw[em];refine q _ _ _ ab rfl (f2.trans λb o n' w=>?_);refine⟨by rw[ae (λy=>n' (.inr (.inl y)))];exact w,λy=>?_⟩;rcases y with y|y|y
  .exact n' (.inl y)
  .exact n' (.inr (.inl y))
  .exact n' (.inr (.inr (Z6 y)))
 .refine bf (by rw[a3];lia) ?_;rw[if_neg c5]at q;exact q H1 A ls hb1 rfl (Fr.of_same s1)
theorem pf (T:Txt K mg t):FnOk P w K mg base CX0 3 t.i6 t.eX ["self","key"] (oV K t):=by
 refine T.CI.okl sc_Leaves__discard λ_ _ _ s H vs Q E hr h=>?_;intro X;obtain⟨a,k,F,ks,rfl,hA,hl,q1,q2⟩:=h;refine ah (aV (rp (eK (aR (pv 0) T.aM T.wM (mj T) hr.mo T.wS .nil az (aa (pv 1) ag))))
    (aB cE)
    aI)
   (ah (ay (i:=2) sc_Leaves__discard.nd rfl (Or.inl rfl) (aR (pv 0) T.aM T.cI (bU T) hr.mo T.cK .nil az (aa (pv 1) ag)))
   (ah (aS (dJ Qq PySem.F.slot_list_remove PySem.F.type_list_remove Dh (aX aW (ar (pv 0) rfl) (pv 2) (λ_ _=>rfl)) (aa (pv 1) ag)))
   (bV (λx=>aV (ao bN (aF aE (by rfl) T.bO bh (aa (aX aW (ar (pv 0) rfl) (pv 2) (λ_ _=>rfl)) ag)) af (aq _)) x aI) ?_)))
 refine ah (aS (dJ Qq PySem.F.slot_list_pop PySem.F.type_list_pop zM (ar (pv 0) rfl) (aa (pv 2) ag)))
   (aA nB ?_)
 intros
 refine ah (aS (aR (pv 0) T.aM T.mB (lu T) hr.mo T.mQ .nil az (aa (pv 2) ag)))
   (aA (aS (aR (pv 0) T.aM T.mB (lu T) hr.mo T.mQ .nil az (aa (al io (pv 2) af) ag))) ?_)
 intros
 obtain⟨dx,fs,hi,hm⟩:=hA.ins;refine⟨_,rfl,a,dx,fs,rfl,hi,hm _ (by decide+kernel),_,rfl,a,k,F,ks,rfl,hA,λH0 F0 a7 a1=>?_⟩;by_cases ck:k∈ks
 case neg=>
  rw[decide_eq_false ck];refine⟨_,rfl,db ?_⟩;exact(q2 ck).elim
 rw[decide_eq_true ck];refine⟨_,rfl,cM ?_⟩;have q:=q1 ck;obtain⟨L,A,ls,hb,ok,ef,hF⟩:=a7;obtain⟨ab,ho⟩:=hb.obj;have sh:=ok.short;rw[ef]at sh;have fr:Fr F (LvF a L A) H H0:=λb o n e=>⟨(a1 b o n e).1,λy=>(a1 b o n e).2 ((hF b).mpr y)⟩;obtain⟨an,ap,aw,ax⟩:=hb.insM;refine⟨_,rfl,a,an,ap,rfl,aw,ax _ (by decide+kernel),_,rfl,a,k,L,A,ls,rfl,hb,ok.ne,ok.up,λi li=>?_⟩;obtain⟨x,ex,hx⟩:=(li.mem ok).mp (by rw[ef];exact ck);obtain⟨c,ec,hc⟩:=hb.at ex;have il:i<ls.length:=(Q2.mp ex).1;have c1:i<A.length:=by rw[hb.len];exact il
 refine⟨_,rfl,a,_,ab,_,_,rfl,ho,T.aM,T.aC,cJ,_,rfl,L,_,_,_,rfl,rfl,SqL.of hb.lst,fQ ec,.inl ⟨rfl,_,SqL.of hc⟩,_,rfl,c,x,k,rfl,rfl,hc,hx,?_⟩;have hb1:=hb.write (y:=x.erase k) ec ex;obtain⟨up1,G⟩:=ok.gone ex hx;have cF:LvF a L A c:= .inr (.inr (Q1 ec));have f1:Fr (LvF a L A) (LvF a L A) H0 (upd H0 c (.lst ((x.erase k).map V.int))):=λb o n w=>⟨by rw[ae (λy=>n (by rw[y];exact cF))];exact w,n⟩;have a2:upd H0 c (.lst ((x.erase k).map V.int)) c=some (.lst ((x.erase k).map V.int)):=ac;obtain⟨a3,Y⟩:=hb1.obj;have O:=hb1.lst;generalize upd H0 c (.lst ((x.erase k).map V.int))=H1 at hb1 f1 a2 Y O⊢;have le:=List.length_erase_of_mem hx;refine⟨_,rfl,a,_,a3,_,_,rfl,Y,T.aM,T.aC,cJ,_,rfl,L,_,_,_,rfl,rfl,SqL.of O,fQ ec,c,_,rfl,.inl (SqL.of a2),rfl,_,rfl,?_⟩;have px:=List.length_pos_of_mem hx;by_cases c0:x.length=1
 .refine fX (congrArg V.int (by rw[Q0,le,c0];rfl)) ?_;have en:x.erase k=[]:=Xd.mp (by lia);rw[en]at up1 G hb1;have sx:seqIndex? (i:Int) (A.map V.ref).length=some i:=by
   have:=seqIndex_of (k:=(i:Int)) (n:=(A.map V.ref).length) (by lia) (by rw[Q0];lia);rw[this,QN]
  refine⟨_,rfl,a,_,a3,_,_,rfl,Y,T.aM,T.aC,cJ,.inl ⟨rfl,_,SqL.of O⟩,_,rfl,L,_,_,i,_,rfl,rfl,O,(by lia),(by lia),sx,(by rw[Qn,ec];rfl),?_⟩;have I:=hb1.erase (i:=i);have e2:(ls.set i ([]:List Int)).eraseIdx i=ls.eraseIdx i:=xC _ _ _;rw[e2]at I;rw[pA];obtain⟨b1,b2⟩:=ok.out ex c0 up1;refine q _ _ _ ⟨L,_,_,I,b1,rfl,λb=>Iff.rfl⟩ (λz=>by rw[b2,G,ef]) ((fr.trans f1).trans λb o n w=>?_);refine⟨by rw[ae (λy=>n (.inr (.inl y)))];exact w,λy=>?_⟩;rcases y with y|y|y
  .exact n (.inl y)
  .exact n (.inr (.inl y))
  .exact n (.inr (.inr (Z6 y)))
 .refine bf (λw=>c0 (by have:=V.int.inj w;rw[Q0,le]at this;lia)) ?_;have ny:x.erase k≠[]:=Zo (by lia);have w1:=ok.shrunk ex ny (by lia) up1;obtain⟨b5,b8,b9,ba⟩:=hb1.insM;have Z:(ls.set i (x.erase k)).length=ls.length:=QI;refine⟨_,rfl,a,b5,b8,rfl,b9,ba _ (by decide+kernel),_,rfl,a,L,A,_,(i:Int),rfl,hb1,by lia,by rw[Z];lia,w1.le,by rw[Z];lia,λH2 A2 U I e2 f2=>?_⟩;rw[if_pos (by lia),QN]at e2;obtain⟨w2,a4⟩:=w1.join (i:=i) (λj h=>h);rw[<-e2]at w2 a4;have l2:i<=U.length/\U.length<=ls.length:=by
   have:=Ds (ls:=ls.set i (x.erase k)) (i:=i);rw[<-e2,Z]at this;lia
  obtain⟨bb,be,bl,bo⟩:=I.insM;refine⟨_,rfl,a,bb,be,rfl,bl,bo _ (by decide+kernel),_,rfl,_,_,rfl,rfl,a,L,A2,U,(i:Int)-1,rfl,I,by lia,by lia,w2.le,by lia,λH3 A3 a0 bt e3 f3=>?_⟩;have fin:LvOk a0/\a0.flatten=U.flatten:=by
   by_cases ci:i=0
   .subst ci;rw[if_neg (by lia)]at e3;subst e3;exact⟨w2.ok λj h=>by lia,rfl⟩
   .have ei:((i:Int)-1).toNat=i-1:=by lia
    rw[if_pos (by lia),ei]at e3;obtain⟨w3,a5⟩:=w2.join (i:=i-1) (λj h=>by lia);rw[<-e3]at w3 a5;exact⟨w3.ok λj h=>by lia,a5⟩
  obtain⟨bv,bw⟩:=fin;refine q H3 _ _ ⟨L,A3,a0,bt,bv,rfl,λb=>Iff.rfl⟩ (λz=>by rw[bw,a4,G,ef]) (((fr.trans f1).trans f2).trans f3)
def IM (a l:Addr) (k n:Int) (ls:List (List Int)) (H:Hp):Nat->St->Hp->Prop:=λm σ H'=>∃(i:Nat),m=ls.length-i/\Same H H'/\H l=none/\σ=[some (.ref a),some (.int k),some (.int n),some (.ref l),some (.int (i:Int))]/\i<=ls.length/\H' l=some (.lst ((((ls.take i).flatten).filter λz=>decide (k<=z)).map V.int))
theorem rP (e:ls[i]?=some x):(ls.take (i+1)).flatten=(ls.take i).flatten++x:=by
 rw[Qr,e,Ze];simp
theorem ql (ls:List (List Int)) (i:Nat):ls.flatten=(ls.take i).flatten++(ls.drop i).flatten:=by rw[<-Ze,QJ]
theorem pe (T:Txt K mg t):FnOk P w K mg base CX0 2 t.i5 t.eV ["self","key","most"] (oU K t):=by
 refine T.CH.okl sc_Leaves__from_on λ_ _ _ s H vs Q E hr h=>?_;intro X;obtain⟨a,k,n,F,ks,rfl,hA,hl,n0,q⟩:=h;refine ah (ay (i:=3) sc_Leaves__from_on.nd rfl (Or.inl rfl) (bT ag))
   (ah (ay (i:=4) sc_Leaves__from_on.nd rfl (Or.inl rfl) (aR (pv 0) T.aM T.cI (bU T) hr.mo T.cK .nil az (aa (pv 1) ag)))
   (bV (λx=>(lY PassesOwn.never (PW.pt (fB (ao dZ (pv 4) (aF aE (by rfl) T.bO bh (aa (ar (pv 0) rfl) ag)) (aq _)) (dO (ao dZ (aF aE (by rfl) T.bO bh (aa (pv 3) ag)) (pv 2) (aq _)))))
    x)) ?_))
 refine ah (aS (dJ Qq ZH ZI nC (pv 3) (aa (p4 rfl (CScope.of (M:=["one"]) (N:=["self","key","most","told","at"]) (N':=["self","key","most","told","at"]) (dsc:=aj cC) rfl rfl (by decide+kernel)) (c8 (aX aW (ar (pv 0) rfl) (pv 4) (λ_ _=>rfl))) (λ_ _ _ _ _=>(ao xn (pv 0) (pv 2) (aq _))) (λ_ _ _ _ _=>(pv 0))) ag)))
   (aA (Bh (i:=4) sc_Leaves__from_on.nd rfl (Or.inl rfl) af Fn) ?_)
 intros
 refine aA (aD (eL gK (pv 3) iT (fP (pv 2)))) ?_
 intros
 obtain⟨L,A,ls,hb,ok,ef,hF⟩:=hA;refine⟨Qj _,λl Y=>?_⟩;have s0:Same H (upd H l (.lst [])):=ai Y;have e0:upd H l (.lst []) l=some (.lst (([]:List Int).map V.int)):=ac;have O:=hb.same s0;generalize upd H l (.lst [])=H0 at s0 e0 O⊢;obtain⟨a3,a4,a5,a7⟩:=O.insM;refine⟨_,rfl,a,a3,a4,rfl,a5,a7 _ (by decide+kernel),_,rfl,a,k,L,A,ls,rfl,O,ok.ne,ok.up,λi0 li=>?_⟩;have f0:((ls.take i0).flatten).filter (λz=>decide (k<=z))=[]:=ZR.mpr λz hz=>by
  have:=Dx ok li z hz;simpa using this
 have lA:((A.map V.ref).length:Int)=(ls.length:Int):=by rw[Q0,hb.len]
 refine⟨IM a l k n ls H,⟨_,i0,rfl,s0,Y,rfl,li.le,by rw[f0];exact e0⟩,?_⟩;rintro m σ H' ⟨i,rfl,s1,_,rfl,il,Z⟩;have hb1:=hb.same s1;obtain⟨a0,a1⟩:=hb1.obj;have fin:∀(done:((((ls.take i).flatten).filter λz=>decide (k<=z)).take n.toNat)=(ks.filter λz=>decide (k<=z)).take n.toNat),∀p,H' p=none->Q (.ref p) (upd H' p (.lst (nS ((((ls.take i).flatten).filter λz=>decide (k<=z)).map V.int) none (some n)))):=λdone p np=>by
  refine q _ p (s1.trans (ai np)) ?_ ?_
  .cases e:H p with
   |none=>rfl
   |some o=>rw[s1 _ _ e]at np;cases np
  .rw[ac,mN n0,<-Z7,done]
 refine⟨_,rfl,_,rfl,a,_,a0,_,_,rfl,a1,T.aM,T.aC,cJ,L,_,rfl,.inl (SqL.of hb1.lst),_,_,rfl,rfl,_,rfl,?_⟩;by_cases c:i<ls.length
 .refine lE (by rw[lA];lia) ?_;refine⟨_,rfl,l,_,rfl,.inl (SqL.of Z),_,rfl,_,_,rfl,rfl,_,rfl,?_⟩;by_cases c2:((((((ls.take i).flatten).filter λz=>decide (k<=z)).map V.int).length:Nat):Int)<n
  .refine lE c2 ?_;refine⟨λab H''=>∃m',m'<ls.length-i/\IM a l k n ls H m' ab H'',λ_ _ h=>h,?_⟩;have ex:ls[i]?=some ls[i]:=Q3 c;obtain⟨b,eb,G⟩:=hb1.at ex;have lb:l≠b:=λz=>by
    obtain⟨b',a2,h'⟩:=hb.at ex;rw[eb]at a2;cases a2;rw[<-z,Y]at h';cases h'
   have ap:=Qo (λz=>decide (k<=z)) (ls.take i).flatten;have an:(ls.take i).flatten.length+ls[i].length<=ks.length:=by
    rw[<-ef,ql ls (i+1),rP ex,Qa,Qa];lia
   refine⟨_,rfl,.inl ⟨rfl,_,SqL.of Z⟩,_,rfl,a,_,a0,_,_,rfl,a1,T.aM,T.aC,cJ,_,rfl,L,_,_,_,rfl,rfl,SqL.of hb1.lst,fQ eb,b,rfl,⟨_,SqL.of G⟩,λD hD=>?_⟩;generalize ls[i]=x at ex G an⊢;refine kS (K:=K) (a:=b) (xs:=x.map V.int) (λm ys H3=>H3=upd H' D (.lst ys)/\ys=((x.take m).filter (λz=>decide (k<=z))).map V.int) ⟨rfl,rfl⟩ (λm ys H3 _ w=>SqL.of (by rw[w.1,ae (ak G hD)];exact G)) (λm v ys H3 hv w I=>?_) (λys H3 w I=>?_)
   .obtain⟨w1,U⟩:=w;obtain⟨g,rfl,eg⟩:∃g:Int,v= .int g/\x[m]?=some g:=by
     rw[Qn]at hv;cases e:x[m]? with
     |none=>rw[e]at hv;cases hv
     |some g=>rw[e]at hv;cases hv;exact⟨g,rfl,rfl⟩
    have hn:m<(x.map V.int).length:=(Q2.mp hv).1;refine⟨_,rfl,_,rfl,_,_,rfl,rfl,_,rfl,?_⟩;have fl:ys.length<=100000:=by
     rw[U,Q0];have h1:=Qo (λz=>decide (k<=z)) (x.take m);have h2:(x.take m).length<=x.length:=by rw[Q8];lia
     lia
    by_cases cg:k<=g
    .refine lE cg ⟨_,rfl,CNext.mk hn I (br fl) ⟨by rw[w1,bG],?_⟩⟩;rw[U,Qr,eg,QB,Qc];simp[cg]
    .refine bf cg (CSkip.mk hn I ⟨w1,?_⟩);rw[U,Qr,eg,QB];simp[cg]
   .obtain⟨w1,U⟩:=w;rw[Q0,QF]at U;have s3:Same H' H3:=by rw[w1];exact ai hD
    have e3:=s3 _ _ Z;have aw:=Qo (λz=>decide (k<=z)) x;have hsz:((((ls.take i).flatten).filter λz=>decide (k<=z)).map V.int).length+ys.length<=sizeLine:=by
     rw[U,Q0,Q0];exact Zp (br (by lia))
    refine⟨l,D,_,_,rfl,rfl,e3,I,hsz,?_⟩;have hE:(((ls.take i).flatten).filter λz=>decide (k<=z)).map V.int++ys=(((ls.take (i+1)).flatten).filter λz=>decide (k<=z)).map V.int:=by
     rw[U,rP ex,QB,Qc]
    rw[hE];refine⟨_,rfl,_,_,rfl,rfl,_,?_,i+1,rfl,?_,Y,rfl,c,ac⟩
    .lia
    .exact bP (s1.trans s3) Y
  .refine bf c2 ?_;refine⟨_,rfl,_,rfl,_,rfl,l,_,rfl,SqL.of Z,fin ?_⟩;have:ks.filter (λz=>decide (k<=z))=((ls.take i).flatten).filter (λz=>decide (k<=z))++((ls.drop i).flatten).filter (λz=>decide (k<=z)):=by rw[<-ef,ql ls i,QB]
   rw[this,XT];rw[Q0]at c2;lia
 .refine bf (by rw[lA];lia) ?_;have ei:i=ls.length:=by lia
  subst ei;refine⟨_,rfl,_,rfl,_,rfl,l,_,rfl,SqL.of Z,fin ?_⟩;rw[QF,ef]
def WDn (a l:Addr) (k:Option Int) (n:Int) (ls:List (List Int)) (H:Hp):Nat->St->Hp->Prop:=λm σ H'=>Same H H'/\H l=none/\m<=ls.length/\σ=[some (.ref a),some (vDn k),some (.int n),some (.ref l),some (.int ((m:Int)-1))]/\H' l=some (.lst ((((ls.drop m).flatten).reverse.filter (eh k)).map V.int))
theorem Hy {c:Prop} [Decidable c] {D:qN} {A:Prop} (Pv:St->Hp->Prop) (main:∀z H',Pv z H'->D.nx z H') (G:c->(∀z H',Pv z H'->D.nx z H')->A) (I:Pv σ H):if c then A else t7 D σ H:=bK (λh=>G h main) (λ_=>main _ _ I)
theorem Dz (e:ls[i]?=some x):((ls.drop i).flatten).reverse=((ls.drop (i+1)).flatten).reverse++x.reverse:=by
 obtain⟨h,e⟩:=Q2.mp e;rw[Z2 h,e,Zc,List.reverse_append]
theorem DA (ok:LvOk ls) (G:LeafOf ls k i0):((ls.drop (i0+1)).flatten).reverse.filter (eh (some k))=[]:=ZR.mpr λz hz=>by
 have:=G.behind ok z (ZG.mp hz);simp only[eh,decide_eq_true_eq];lia
theorem FM {len:Nat}:(if((len:Int)-1<(i0:Int))then((len:Int)-1)else(i0:Int))=((min (i0+1) len:Nat):Int)-1:=by
 split<;>lia
theorem DB (ok:LvOk ls) (z:LeafOf ls k i0):((ls.drop (min (i0+1) ls.length)).flatten).reverse.filter (eh (some k))=[]:=by
 rcases Nat.le_total (i0+1) ls.length with c|c
 .rw[X0 c];exact DA ok z
 .rw[XQ c,List.drop_length];rfl
theorem mq (T:Txt K mg t):FnOk P w K mg base CX0 2 t.gG t.dF ["self","key","most"] (lK K t):=by
 refine T.AG.okl sc_Leaves__down_from λ_ _ _ s H vs Q E hr h=>?_;intro X;obtain⟨a,k,n,F,ks,rfl,hA,hl,n0,q⟩:=h;refine ah (ay (i:=3) sc_Leaves__down_from.nd rfl (Or.inl rfl) (bT ag))
   (ah (ay (i:=4) sc_Leaves__down_from.nd rfl (Or.inl rfl) (al io (aF aE (by rfl) T.bO bh (aa (ar (pv 0) rfl) ag)) af))
   (bV (λx=>aV (ao p5 (pv 1) bg (aq _)) x aI) ?_))
 refine aA (ay (i:=4) sc_Leaves__down_from.nd rfl (Or.inl rfl) (aF (nM rfl) (by rfl) T.ze rY (aa (aR (pv 0) T.aM T.cI (bU T) hr.mo T.cK .nil az (aa (pv 1) ag)) (aa (pv 4) ag)))) ?_
 intros
 refine bV (λx=>(lY PassesOwn.never (PW.pt (fB (ao xn (pv 4) af (aq _)) (dO (ao dZ (aF aE (by rfl) T.bO bh (aa (pv 3) ag)) (pv 2) (aq _)))))
    x)) ?_
 refine ah (aS (dJ Qq ZH ZI nC (pv 3) (aa (p4 rfl (CScope.of (M:=["one"]) (N:=["self","key","most","told","at"]) (N':=["self","key","most","told","at"]) (dsc:=aj b7) rfl rfl (by decide+kernel)) (Jq (by rfl) T.IQ (aa (aX aW (ar (pv 0) rfl) (pv 4) (λ_ _=>rfl)) ag)) (λ_ _ _ _ _=>(PW.pt (ie (ao cU (pv 2) bg (aq _)) (fA (ao lZ (pv 0) (pv 2) (aq _)))))) (λ_ _ _ _ _=>(pv 0))) ag)))
   (aA (Bh (i:=4) sc_Leaves__down_from.nd rfl (Or.inl rfl) af JK) ?_)
 intros
 refine aA (aD (eL gK (pv 3) iT (fP (pv 2)))) ?_
 intros
 obtain⟨L,A,ls,hb,ok,ef,hF⟩:=hA;refine⟨Qj _,λl Z=>?_⟩;have s0:Same H (upd H l (.lst [])):=ai Z;have e0:upd H l (.lst []) l=some (.lst (([]:List Int).map V.int)):=ac;have z:=hb.same s0;generalize upd H l (.lst [])=H0 at s0 e0 z⊢;obtain⟨a1,a2⟩:=z.obj;have lA:((A.map V.ref).length:Int)=(ls.length:Int):=by rw[Q0,hb.len]
 refine⟨_,rfl,a,_,a1,_,_,rfl,a2,T.aM,T.aC,cJ,L,_,rfl,.inl (SqL.of z.lst),_,_,rfl,rfl,?_⟩;rw[lA];refine⟨_,rfl,rfl,_,rfl,Hy (λG H'=>∃m,WDn a l k n ls H m G H') (λG H' wW=>?main) (λc key=>?A) ⟨ls.length,s0,Z,Q4 _,rfl,by rw[List.drop_length];exact e0⟩⟩
 case A=>
  cases k with
  |none=>exact absurd c (by decide)
  |some k=>
   obtain⟨a3,a4,a5,a7⟩:=z.insM;refine⟨_,rfl,a,a3,a4,rfl,a5,a7 _ (by decide+kernel),_,rfl,a,k,L,A,ls,rfl,z,ok.ne,ok.up,λi0 li=>?_⟩;refine⟨_,rfl,_,_,rfl,?_⟩;dsimp only;rw[FM];exact key _ _ ⟨min (i0+1) ls.length,s0,Z,Nat.min_le_right _ _,rfl,by rw[DB ok li];exact e0⟩
 case main=>
  obtain⟨m0,w0⟩:=wW;refine⟨WDn a l k n ls H,⟨m0,w0⟩,?_⟩;rintro m σ H' ⟨s1,_,ml,rfl,e1⟩;have hb1:=hb.same s1;obtain⟨ab,an⟩:=hb1.obj;have fin:∀(done:((((ls.drop m).flatten).reverse.filter (eh k)).take n.toNat)=(ks.reverse.filter (eh k)).take n.toNat),∀p,H' p=none->Q (.ref p) (upd H' p (.lst (nS ((((ls.drop m).flatten).reverse.filter (eh k)).map V.int) none (some n)))):=λdone p np=>by
   refine q _ p (s1.trans (ai np)) ?_ ?_
   .cases e:H p with
    |none=>rfl
    |some o=>rw[s1 _ _ e]at np;cases np
   .rw[ac,mN n0,<-Z7,done]
  refine⟨_,rfl,_,_,rfl,rfl,_,rfl,?_⟩;cases m with
  |zero=>
   refine bf (by decide) ?_;refine⟨_,rfl,_,rfl,_,rfl,l,_,rfl,SqL.of e1,fin ?_⟩;rw[Z9,ef]
  |succ i=>
   have im:((i+1:Nat):Int)-1=(i:Int):=by lia
   rw[im];refine lE (by lia) ?_;refine⟨_,rfl,l,_,rfl,.inl (SqL.of e1),_,rfl,_,_,rfl,rfl,_,rfl,?_⟩;by_cases c2:((((((ls.drop (i+1)).flatten).reverse.filter (eh k)).map V.int).length:Nat):Int)<n
   .refine lE c2 ?_;refine⟨λG H''=>∃m',m'<i+1/\WDn a l k n ls H m' G H'',λ_ _ h=>h,?_⟩;have ex:ls[i]?=some ls[i]:=Q3 ml;obtain⟨b,eb,I⟩:=hb1.at ex;have ax:=Qo (eh k) ((ls.drop (i+1)).flatten).reverse;have ap:((ls.drop (i+1)).flatten).reverse.length+ls[i].length<=ks.length:=by
     rw[<-ef,ql ls (i+1),rP ex,Qa,Qa,Z1];lia
    refine⟨_,rfl,.inl ⟨rfl,_,SqL.of e1⟩,_,rfl,a,_,ab,_,_,rfl,an,T.aM,T.aC,cJ,_,rfl,L,_,_,_,rfl,rfl,SqL.of hb1.lst,fQ eb,b,_,rfl,SqL.of I,λD hD=>?_⟩;generalize ls[i]=x at ex I ap⊢;refine DF (K:=K) (a:=b) (xs:=x.map V.int) (λm ys H3=>H3=upd H' D (.lst ys)/\ys=((x.reverse.take m).filter (eh k)).map V.int) ⟨rfl,rfl⟩ (λm ys H3 _ w=>SqL.of (by rw[w.1,ae (ak I hD)];exact I)) (λm v ys H3 hv w O=>?_) (λys H3 w O=>?_)
    .obtain⟨w1,Y⟩:=w;obtain⟨g,rfl,eg⟩:∃g:Int,v= .int g/\x.reverse[m]?=some g:=by
      rw[<-List.map_reverse,Qn]at hv;cases e:x.reverse[m]? with
      |none=>rw[e]at hv;cases hv
      |some g=>rw[e]at hv;cases hv;exact⟨g,rfl,rfl⟩
     have hn:m<(x.map V.int).length:=by
      have:=(Q2.mp hv).1;rwa [Z1]at this
     have fl:ys.length<=100000:=by
      rw[Y,Q0];have h1:=Qo (eh k) (x.reverse.take m);have h2:(x.reverse.take m).length<=x.reverse.length:=by rw[Q8];lia
      rw[Z1]at h2;lia
     have a0:eh k g=true->CNext (x.map V.int).length m ys D (λm ys H3=>H3=upd H' D (.lst ys)/\ys=((x.reverse.take m).filter (eh k)).map V.int) (.int g) H3:=λU=>by
      refine CNext.mk hn O (br fl) ⟨by rw[w1,bG],?_⟩;rw[Y,Qr,eg,QB,Qc];simp[U]
     have no:eh k g=false->CSkip (x.map V.int).length m ys D (λm ys H3=>H3=upd H' D (.lst ys)/\ys=((x.reverse.take m).filter (eh k)).map V.int) H3:=λU=>by
      refine CSkip.mk hn O ⟨w1,?_⟩;rw[Y,Qr,eg,QB];simp[U]
     refine⟨_,rfl,rfl,_,rfl,?_⟩;cases k with
     |none=>exact db (db ⟨_,rfl,a0 rfl⟩)
     |some k=>
      refine cM ⟨_,rfl,_,rfl,_,_,rfl,rfl,_,rfl,?_⟩;by_cases U:g<=k
      .exact lE U ⟨_,rfl,a0 (decide_eq_true U)⟩
      .exact bf U (no (decide_eq_false U))
    .obtain⟨w1,Y⟩:=w;rw[Q0,show x.length=x.reverse.length from Z1.symm,QF]at Y;have s3:Same H' H3:=by rw[w1];exact ai hD
     have e3:=s3 _ _ e1;have aw:=Qo (eh k) x.reverse;have hsz:((((ls.drop (i+1)).flatten).reverse.filter (eh k)).map V.int).length+ys.length<=sizeLine:=by
      rw[Y,Q0,Q0];rw[Z1]at aw;exact Zp (br (by lia))
     refine⟨l,D,_,_,rfl,rfl,e3,O,hsz,?_⟩;have hE:(((ls.drop (i+1)).flatten).reverse.filter (eh k)).map V.int++ys=(((ls.drop i).flatten).reverse.filter (eh k)).map V.int:=by
      rw[Y,Dz ex,QB,Qc]
     rw[hE];refine⟨_,rfl,_,_,rfl,rfl,i,Zw _,bP (s1.trans s3) Z,Z,Zp ml,rfl,ac⟩
   .refine bf c2 ?_;refine⟨_,rfl,_,rfl,_,rfl,l,_,rfl,SqL.of e1,fin ?_⟩;have:ks.reverse.filter (eh k)=((ls.drop (i+1)).flatten).reverse.filter (eh k)++((ls.take (i+1)).flatten).reverse.filter (eh k):=by rw[<-ef,ql ls (i+1),List.reverse_append,QB]
    rw[this,XT];rw[Q0]at c2;lia
theorem tZ:(0:Int)<10^(39:Int).toNat:=by decide
theorem zB:∀{a b:List Int},cN a->cN b->(∀z,z∈a↔z∈b)->a=b
 | [],[],_,_,_=>rfl
 | [],y::r,_,_,h=>by have:=(h y).mpr Q9;cases this
 |x::r,[],_,_,h=>by have:=(h x).mp Q9;cases this
 |x::r,y::r',ha,hb,h=>by
  obtain⟨I,U⟩:=Z5.mp ha;obtain⟨O,Y⟩:=Z5.mp hb;have G:x=y:=by
   rcases Qg.mp ((h x).mp Q9)with e|e
   .exact e
   .rcases Qg.mp ((h y).mpr Q9)with e2|e2
    .exact e2.symm
    .have h1:=O x e;have h2:=I y e2;lia
  subst G;rw[zB U Y λz=>?_];constructor
  .intro hz;rcases Qg.mp ((h z).mp (Qd _ hz))with e|e
   .have:=I z hz;lia
   .exact e
  .intro hz;rcases Qg.mp ((h z).mpr (Qd _ hz))with e|e
   .have:=O z hz;lia
   .exact e
theorem LvA.rise (h:LvA K t H a F ks):cN ks:=by
 obtain⟨_,_,ls,_,ok,z,_⟩:=h;rw[<-z];exact ok.up
theorem FO (ms:List Int) (lo hi:Option Int):∃z:List Int,nS (ms.map V.int) lo hi=z.map V.int/\z.Sublist ms:=by
 refine⟨(ms.drop (HT.sIx (ms.map V.int).length 0 lo)).take (HT.sIx (ms.map V.int).length (ms.map V.int).length hi-HT.sIx (ms.map V.int).length 0 lo),?_,?_⟩
 .unfold nS;rw[Z7,ZJ]
 .exact(X7 _ _).trans (List.drop_sublist _ _)
theorem zJ (T:Txt K mg t):FnOk P w K mg base CX0 1 t.vB t.pC ["thing"] zo:=by
 refine T.BN.okl zw λ_ _ _ s H vs Q E z h=>?_;intro X;obtain⟨x,rfl,hx,k⟩:=h;refine⟨_,(aB (aD (gi (aF sv (by rfl) T.gJ dM (aa (pv 0) (aa (B6 (v:= .ty "int") (by rfl) T.Lg JX rfl) ag))) (cT (Bj (aF sv (by rfl) T.gJ dM (aa (pv 0) (aa (B6 (v:= .ty "bool") (by rfl) T.Le HG rfl) ag))))))))
  ,?_⟩
 cases x with
 |int i=>
  refine⟨_,rfl,_,_,_,_,rfl,TyOf.int _,JB,true,rfl,db ?_⟩;exact⟨_,rfl,_,_,_,_,rfl,TyOf.int _,JC,_,rfl,k⟩
 |bl c=>
  refine⟨_,rfl,_,_,_,_,rfl,TyOf.bl _,JD,true,rfl,db ?_⟩;exact⟨_,rfl,_,_,_,_,rfl,TyOf.bl _,JE,_,rfl,k⟩
 |str c=>exact⟨_,rfl,_,_,_,_,rfl,TyOf.str _,Jz,false,rfl,cM k⟩
 |non=>exact⟨_,rfl,_,_,_,_,rfl,TyOf.non,JA,false,rfl,cM k⟩
 |_=>exact hx.elim
theorem o8 (T:Txt K mg t):FnOk P w K mg base CX0 2 t.xU t.rX ["thing","low"] AX:=by
 refine T.gU.okl Bf λ_ _ _ s H vs Q E z h=>?_;intro X;obtain⟨x,lo,rfl,hx,k⟩:=h;refine⟨_,(aB (aD (gi (aN (zJ T) z.mo (by rfl) T.Jw T.BN.kp T.JZ .nil az (aa (pv 0) ag)) (cT (bI xn (pv 0) (pv 1) (aq _))))))
  ,?_⟩
 cases x with
 |int i=>exact⟨_,rfl,_,rfl,hx,true,rfl,db ⟨_,rfl,_,rfl,_,_,rfl,rfl,k⟩⟩
 |bl c=>exact⟨_,rfl,_,rfl,hx,false,rfl,cM k⟩
 |str c=>exact⟨_,rfl,_,rfl,hx,false,rfl,cM k⟩
 |non=>exact⟨_,rfl,_,rfl,hx,false,rfl,cM k⟩
 |_=>exact hx.elim
theorem Bk (T:Txt K mg t):FnOk P w K mg base CX0 1 t.xP t.rR ["bound"] AS:=by
 refine T.xV.okl Ba λ_ _ _ s H vs Q E z h=>?_;intro X;obtain⟨x,rfl,hx,k⟩:=h;refine⟨_,(aB (aD (EL (ao cU (pv 0) bg (aq _)) gh (dY yO (by rfl) T.Lf JW (aa (pv 0) ag)))))
  ,?_⟩
 rcases hx with rfl|⟨i,rfl,hi⟩
 .exact⟨_,rfl,rfl,_,rfl,db k⟩
 .exact⟨_,rfl,rfl,_,rfl,cM ⟨_,rfl,i,rfl,hi,k⟩⟩
theorem ip (T:Txt K mg t):FnOk P w K mg base CX0 1 t.jG t.jr ["self","kind","at","end"] (gX K):=by
 refine T.jH.okl uv λ_ _ _ s H vs Q E Y h=>?_;intro X;obtain⟨p,C,dx,kd,a,e,rfl,G,cl,I,O,U,k⟩:=h;refine ah (bc (pv 0) (pv 1) rfl)
   (ah (bc (pv 0) (pv 2) rfl)
   (aA (bc (pv 0) (pv 3) rfl) ?_))
 intros
 refine⟨_,rfl,_,rfl,p,C,dx,[],rfl,G,cl,I,(by show 0<1000;decide),_,rfl,_,rfl,p,C,dx,_,rfl,ac,cl,O,(by show 1<1000;decide),_,rfl,_,rfl,p,C,dx,_,rfl,ac,cl,U,?_,?_⟩
 .have h1:=lX (f:="at") (v:=a) (a9 "kind" (.str kd) []);have h2:=lX (f:="kind") (v:= .str kd) [];have Z:([]:List (Str×V)).length=0:=rfl;lia
 rw[bG,bG];refine k _ _ (λb o q z=>by rw[ae z];exact q) ac ⟨?_,?_,?_,?_,?_⟩
 .rw[bj,if_neg (by decide+kernel),bj,if_neg (by decide+kernel),bj,if_pos rfl]
 .rw[bj,if_neg (by decide+kernel),bj,if_pos rfl]
 .rw[bj,if_pos rfl]
 .rw[bj,if_neg (by decide+kernel),bj,if_neg (by decide+kernel),bj,if_neg (by decide+kernel)];rfl
 .rw[bj,if_neg (by decide+kernel),bj,if_neg (by decide+kernel),bj,if_neg (by decide+kernel)];rfl
theorem tkN (T:Txt K mg t) {kd:Int} (h:kd=0\/kd=1\/kd=2):Cls K (tkC t kd)/\NoAttr K (tkC t kd) "kind"/\NoAttr K (tkC t kd) "at"/\NoAttr K (tkC t kd) "end":=by
 rcases h with rfl|rfl|rfl
 .exact⟨T.bE,T.tI,T.jo,T.cm⟩
 .exact⟨T.gB,T.Bo,T.qa,T.jL⟩
 .exact⟨T.b9,T.yB,T.iy,T.iW⟩
theorem Hx {kd:Int} (h:kd=0\/kd=1\/kd=2):(kdS kd).length<=5:=by
 rcases h with rfl|rfl|rfl<;>decide+kernel
theorem tx (T:Txt K mg t):FnOk P w K mg base CX0 2 t.c6 t.iH ["self"] (cp t):=by
 refine T.Gc.okl sT λ_ _ _ s H vs Q E O h=>?_;intro X;obtain⟨p,dx,kd,fs,a,e,rfl,z,G,I,Z,be,q⟩:=h;refine⟨_,(aB (aD (dJ PySem.F.plainAttrs_str PySem.F.slot_str_join PySem.F.type_str_join Hh gh (aa (bT (aa (ar (pv 0) rfl) (aa (aN (Bk T) O.mo (by rfl) T.Dk T.xV.kp T.DJ .nil az (aa (ar (pv 0) rfl) ag)) (aa (aN (Bk T) O.mo (by rfl) T.Dk T.xV.kp T.DJ .nil az (aa (ar (pv 0) rfl) ag)) ag)))) ag))))
  ,?_⟩
 obtain⟨cl,n0,n1,n2⟩:=tkN T I.kd;obtain⟨U,Y⟩:=okN.few I Z be;have kl:=Hx I.kd;refine⟨rfl,_,rfl,p,_,dx,fs,_,rfl,z,cl,n0,G.ki,_,rfl,p,_,dx,fs,_,rfl,z,cl,n1,G.at_,a,rfl,U.1,_,rfl,p,_,dx,fs,_,rfl,z,cl,n2,G.end_,e,rfl,Y.1,(by show 3<=sizeLine;decide),λl nl=>?_⟩;refine⟨" ",l,[kdS kd,wr a,wr e],rfl,rfl,SqL.of ac,by decide+kernel,?_,q _ (ai nl)⟩;have:=U.2;have:=Y.2;simp only[Qs,XB,List.sum_cons,List.sum_nil,Qp,ZZ];lia
theorem nG {x:V} (h:isF lo x=true):∃i,x= .int i/\lo<=i:=by
 cases x with
 |int i=>exact⟨i,rfl,of_decide_eq_true h⟩
 |_=>cases h
theorem jK (T:Txt K mg t):FnOk P w K mg base CX0 3 t.lg t.cr ["self","at","end"] (qU t):=by
 obtain⟨G,z⟩:=T.g_PLACES;refine T.Ea.ok qX (λvs H Q E h=>?_) (λa0 A outer s H vs Q E U h=>?_)
 .obtain⟨p,dx,a,e,rfl,_⟩:=h;rfl
 .obtain⟨p,dx,a,e,rfl,hp,sa,se,k1,k2⟩:=h;refine ah (aV (rp (PW.pt (fB (eK (aN (o8 T) U.mo (by rfl) T.jN T.gU.kp T.jS .nil az (aa (pv 1) (aa af ag)))) (fB (eK (aN (o8 T) U.mo (by rfl) T.jN T.gU.kp T.jS .nil az (aa (pv 2) (aa (pv 1) ag)))) (dO (ao lZ (pv 2) (cG (v:= .int 65536) (by rfl) z ⟨_,rfl⟩) (aq _)))))))
   (aB cE)
   aI)
     (aA (aS (yu (by rfl) T.zT T.oh T.jH.kp (ip T) U.mo T.oz .nil az (aa (pv 0) (aa gh (aa (pv 1) (aa (pv 2) ag)))))) ?_)
  intros
  refine⟨_,rfl,a,0,rfl,sa,_,rfl,bK (λc=>?_) (λc=>?_)⟩
  .obtain⟨i,rfl,i0⟩:=nG c;refine⟨_,rfl,_,rfl,e,i,rfl,se,_,rfl,bK (λc=>?_) (λc=>?_)⟩
   .obtain⟨j,rfl,ij⟩:=nG c;refine⟨_,rfl,_,_,rfl,rfl,_,rfl,?_⟩;by_cases I:j<=65536
    .rw[decide_eq_true I];exact cM ⟨_,rfl,_,rfl,_,rfl,p,_,dx,_,.int i,.int j,rfl,hp,T.bE,T.tI,T.jo,T.cm,λH' fs k h f=>k1 ⟨i,j,rfl,rfl,i0,ij,I⟩ H' fs k h f⟩
    .rw[decide_eq_false I];exact db ((k2 λ⟨Y,Z,O,e2,_,_,h⟩=>by cases e2;exact I h))
   .exact db ((k2 λ⟨Y,Z,O,e2,_,h,_⟩=>c (by cases O;rw[e2];exact decide_eq_true h)))
  .exact db ((k2 λ⟨Y,Z,O,_,h,_⟩=>c (by rw[O];exact decide_eq_true h)))
theorem si (T:Txt K mg t):FnOk P w K mg base CX0 3 t.vD t.iG ["self","at","end"] (zq t):=by
 refine T.Kf.ok zx (λvs H Q E h=>?_) (λU A outer s H vs Q E G h=>?_)
 .obtain⟨p,dx,a,e,rfl,_⟩:=h;rfl
 .obtain⟨p,dx,a,e,rfl,Y,Z,se,k1,k2⟩:=h;refine ah (aV (rp (PW.pt (fB (eK (aN (o8 T) G.mo (by rfl) T.jN T.gU.kp T.jS .nil az (aa (pv 1) (aa af ag)))) (dO (PW.pt (ie (ao cU (pv 2) bg (aq _)) (fA (eK (aN (o8 T) G.mo (by rfl) T.jN T.gU.kp T.jS .nil az (aa (pv 2) (aa (pv 1) ag)))))))))))
   (aB cE)
   aI)
     (aA (aS (yu (by rfl) T.zT T.oh T.jH.kp (ip T) G.mo T.oz .nil az (aa (pv 0) (aa gh (aa (pv 1) (aa (pv 2) ag)))))) ?_)
  intros
  refine⟨_,rfl,a,0,rfl,Z,_,rfl,bK (λc=>?_) (λc=>?_)⟩
  .obtain⟨i,rfl,i0⟩:=nG c;have fin:okU (.int i) e->gX K [.ref p,.str "up",.int i,e] H (λ_ H'=>Q .non H') E0:=λok=>⟨p,_,dx,"up",.int i,e,rfl,Y,T.gB,T.Bo,T.qa,T.jL,λH' fs k h f=>k1 ok H' fs k h f⟩;by_cases z:e= .non
   .exact⟨_,rfl,rfl,_,rfl,fX z (cM ⟨_,rfl,_,rfl,_,rfl,fin ⟨i,rfl,i0,.inl z⟩⟩)⟩
   .refine⟨_,rfl,rfl,_,rfl,bf z ⟨_,rfl,_,rfl,e,i,rfl,se,_,rfl,?_⟩⟩;cases I:isF i e with
    |true=>
     obtain⟨j,rfl,ij⟩:=nG I;exact cM ⟨_,rfl,_,rfl,_,rfl,fin ⟨i,rfl,i0,.inr ⟨j,rfl,ij⟩⟩⟩
    |false=>
     refine db ((k2 λ⟨i',O,_,e2⟩=>?_));cases O;rcases e2 with e2|⟨j',e2,h⟩
     .exact z e2
     .rw[e2]at I;exact of_decide_eq_false I h
  .exact db ((k2 λ⟨i',O,h,_⟩=>c (by rw[O];exact decide_eq_true h)))
theorem oe (T:Txt K mg t):FnOk P w K mg base CX0 3 t.qJ t.e7 ["self","at","end"] (wc t):=by
 refine T.Ic.ok wq (λvs H Q E h=>?_) (λY A outer s H vs Q E G h=>?_)
 .obtain⟨p,dx,a,e,rfl,_⟩:=h;rfl
 .obtain⟨p,dx,a,e,rfl,Z,sa,se,k1,k2⟩:=h;refine ah (aV (rp (PW.pt (fB (eK (aN (o8 T) G.mo (by rfl) T.jN T.gU.kp T.jS .nil az (aa (pv 2) (aa af ag)))) (dO (PW.pt (ie (ao cU (pv 1) bg (aq _)) (fA (eK (aN (o8 T) G.mo (by rfl) T.jN T.gU.kp T.jS .nil az (aa (pv 1) (aa (pv 2) ag)))))))))))
   (aB cE)
   aI)
     (aA (aS (yu (by rfl) T.zT T.oh T.jH.kp (ip T) G.mo T.oz .nil az (aa (pv 0) (aa gh (aa (pv 1) (aa (pv 2) ag)))))) ?_)
  intros
  refine⟨_,rfl,e,0,rfl,se,_,rfl,bK (λc=>?_) (λc=>?_)⟩
  .obtain⟨j,rfl,U⟩:=nG c;have fin:okD a (.int j)->gX K [.ref p,.str "down",a,.int j] H (λ_ H'=>Q .non H') E0:=λok=>⟨p,_,dx,"down",a,.int j,rfl,Z,T.b9,T.yB,T.iy,T.iW,λH' fs k h f=>k1 ok H' fs k h f⟩;by_cases z:a= .non
   .exact⟨_,rfl,rfl,_,rfl,fX z (cM ⟨_,rfl,_,rfl,_,rfl,fin ⟨j,rfl,U,.inl z⟩⟩)⟩
   .refine⟨_,rfl,rfl,_,rfl,bf z ⟨_,rfl,_,rfl,a,j,rfl,sa,_,rfl,?_⟩⟩;cases I:isF j a with
    |true=>
     obtain⟨i,rfl,ij⟩:=nG I;exact cM ⟨_,rfl,_,rfl,_,rfl,fin ⟨j,rfl,U,.inr ⟨i,rfl,ij⟩⟩⟩
    |false=>
     refine db ((k2 λ⟨j',O,_,e2⟩=>?_));cases O;rcases e2 with e2|⟨i',e2,h⟩
     .exact z e2
     .rw[e2]at I;exact of_decide_eq_false I h
  .exact db ((k2 λ⟨j',O,h,_⟩=>c (by rw[O];exact decide_eq_true h)))
theorem eQ (T:Txt K mg t):FnOk P w K mg base CX0 3 t.jX t.fK ["self","key"] (eC t):=by
 refine T.DU.okl pS λ_ _ _ s H vs Q E I h=>?_;intro X;obtain⟨p,dx,fs,a,e,k,rfl,z,G,⟨i,j,rfl,rfl,i0,O,U⟩,Y,q⟩:=h;refine⟨_,(aB (aD (EM lZ dZ (ar (pv 0) rfl) (aN (sf T) I.mo (by rfl) T.Bw T.vJ.kp T.BH .nil az (aa (pv 1) ag)) (ar (pv 0) rfl))))
  ,?_⟩
 have q:Q (.bl (decide (i<=tz (k%65536))&&decide (tz (k%65536)<j))) H:=q H (Same.refl H);refine⟨_,rfl,p,_,dx,fs,_,rfl,z,T.bE,T.jo,G.at_,_,rfl,k,rfl,_,_,rfl,rfl,_,rfl,bK (λc=>?_) (λc=>?_)⟩
 .refine⟨_,rfl,p,_,dx,fs,_,rfl,z,T.bE,T.cm,G.end_,_,_,rfl,rfl,?_⟩;rw[c,ZV]at q;exact q
 .rw[QP.mpr c,ZC]at q;exact q
theorem gL (T:Txt K mg t):FnOk P w K mg base CX0 1 t.sH t.mJ ["self","key"] (c7 t):=by
 refine T.IP.okl yj λ_ _ _ s H vs Q E O h=>?_;intro X;obtain⟨p,dx,fs,a,e,k,rfl,G,I,⟨i,rfl,i0,he⟩,U,q⟩:=h;refine⟨_,(aB (aD (gi (bI lZ (ar (pv 0) rfl) (pv 1) (aq _)) (cT (zF (bI cU (ar (pv 0) rfl) bg (aq _)) (cT (bI dZ (pv 1) (ar (pv 0) rfl) (aq _))))))))
  ,?_⟩
 have q:=q H (Same.refl H);rcases he with rfl|⟨j,rfl,Y⟩
 .have q:Q (.bl (decide (i<=k))) H:=q;refine⟨_,rfl,p,_,dx,fs,_,rfl,G,T.gB,T.qa,I.at_,_,rfl,_,_,rfl,rfl,_,rfl,bK (λc=>⟨_,rfl,p,_,dx,fs,_,rfl,G,T.gB,T.jL,I.end_,rfl,_,rfl,fX rfl ?_⟩) (λc=>?_)⟩
  .rw[c]at q;exact q
  .rw[QP.mpr c]at q;exact q
 .have q:Q (.bl (decide (i<=k)&&decide (k<j))) H:=q;refine⟨_,rfl,p,_,dx,fs,_,rfl,G,T.gB,T.qa,I.at_,_,rfl,_,_,rfl,rfl,_,rfl,bK (λc=>⟨_,rfl,p,_,dx,fs,_,rfl,G,T.gB,T.jL,I.end_,rfl,_,rfl,bf (λz=>by cases z) ⟨_,rfl,_,rfl,p,_,dx,fs,_,rfl,G,T.gB,T.jL,I.end_,_,_,rfl,rfl,?_⟩⟩) (λc=>?_)⟩
  .rw[c,ZV]at q;exact q
  .rw[QP.mpr c,ZC]at q;exact q
theorem eP (T:Txt K mg t):FnOk P w K mg base CX0 1 t.oQ t.jE ["self","key"] (cc t):=by
 refine T.GN.okl uD λ_ _ _ s H vs Q E O h=>?_;intro X;obtain⟨p,dx,fs,a,e,k,rfl,G,I,⟨j,rfl,U,ha⟩,Y,q⟩:=h;refine⟨_,(aB (aD (gi (bI lZ (ar (pv 0) rfl) (pv 1) (aq _)) (cT (zF (bI cU (ar (pv 0) rfl) bg (aq _)) (cT (bI lZ (pv 1) (ar (pv 0) rfl) (aq _))))))))
  ,?_⟩
 have q:=q H (Same.refl H);rcases ha with rfl|⟨i,rfl,Z⟩
 .have q:Q (.bl (decide (j<=k))) H:=q;refine⟨_,rfl,p,_,dx,fs,_,rfl,G,T.b9,T.iW,I.end_,_,rfl,_,_,rfl,rfl,_,rfl,bK (λc=>⟨_,rfl,p,_,dx,fs,_,rfl,G,T.b9,T.iy,I.at_,rfl,_,rfl,fX rfl ?_⟩) (λc=>?_)⟩
  .rw[c]at q;exact q
  .rw[QP.mpr c]at q;exact q
 .have q:Q (.bl (decide (j<=k)&&decide (k<=i))) H:=q;refine⟨_,rfl,p,_,dx,fs,_,rfl,G,T.b9,T.iW,I.end_,_,rfl,_,_,rfl,rfl,_,rfl,bK (λc=>⟨_,rfl,p,_,dx,fs,_,rfl,G,T.b9,T.iy,I.at_,rfl,_,rfl,bf (λz=>by cases z) ⟨_,rfl,_,rfl,p,_,dx,fs,_,rfl,G,T.b9,T.iy,I.at_,_,_,rfl,rfl,?_⟩⟩) (λc=>?_)⟩
  .rw[c,ZV]at q;exact q
  .rw[QP.mpr c,ZC]at q;exact q
structure Mk1 where
 p:Addr
 mo:Int
 v:V
structure MkA (t:Adr) (H:Hp) (m l:Addr) (es:List Mk1):Prop where
 ob:∃dx,H m=some (.ins t.fV dx [("made",.ref l)])
 li:H l=some (.lst (es.map λe=>V.ref e.p))
 tu:∀e∈es,H e.p=some (.tup [.int e.mo,e.v])
theorem MkA.keep {m l:Addr} {es:List Mk1} (h:MkA t H m l es) (z:H' m=H m) (e2:H' l=H l) (G:∀b xs,H b=some (.tup xs)->H' b=some (.tup xs)):MkA t H' m l es:=⟨h.ob.imp λ_ e=>z.trans e,e2.trans h.li,λe he=>G _ _ (h.tu e he)⟩
def uh (t:Adr):Sp:=λvs H Q _=>∃(a dx:Addr),vs=[.ref a]/\H a=some (.ins t.fV dx [])/\∀(H':Hp) (l:Addr),MkA t H' a l []->H l=none->(∀b o,b≠a->H b=some o->H' b=some o)->Q .non H'
theorem uR (T:Txt K mg t):FnOk P w K mg base CX0 1 t.oJ t.jy ["self"] (uh t):=by
 refine T.GH.okl uA λ_ _ _ s H vs Q E I h=>?_;intro X;obtain⟨a,dx,rfl,ha,q⟩:=h;refine⟨_,(aB (bc (pv 0) (bT ag) rfl))
  ,?_⟩
 refine⟨Qj _,λl z=>⟨_,rfl,a,_,dx,[],rfl,(by rw[ae (ak ha z)];exact ha),T.Ai,T.wI,(by show 0<1000;decide),?_⟩⟩;have G:a≠l:=ak ha z;exact q _ l ⟨⟨dx,ac⟩,by rw[ae G.symm];exact ac,λe he=>by cases he⟩ z λb o n e=>by rw[ae n,ae (ak e z)];exact e
def ug (t:Adr):Sp:=λvs H Q _=>∃(m l:Addr) (es:List Mk1) (mo:Int) (v:V),vs=[.ref m,.int mo,v]/\MkA t H m l es/\es.length<100000/\
 ∀(H':Hp) (p:Addr),MkA t H' m l (es++ [⟨p,mo,v⟩])->H p=none->(∀b o,b≠l->H b=some o->H' b=some o)->Q .non H'
theorem uQ (T:Txt K mg t):FnOk P w K mg base CX0 1 t.oH t.jx ["self","moment","value"] (ug t):=by
 refine T.GG.okl uz λ_ _ _ s H vs Q E U h=>?_;intro X;obtain⟨m,l,es,mo,v,rfl,M,le,q⟩:=h;refine⟨_,(aB (aS (dJ Qq QV QW d7 (ar (pv 0) rfl) (aa (bC (aa (pv 1) (aa (pv 2) ag))) ag))))
  ,?_⟩
 obtain⟨dx,I⟩:=M.ob;refine⟨_,rfl,m,_,dx,_,_,rfl,I,T.Ai,T.wI,rfl,.inl ⟨rfl,_,SqL.of M.li⟩,_,rfl,_,rfl,(by show 2<=sizeLine;decide),λp G=>?_⟩;have s1:=ai (o:= .tup [.int mo,v]) G;have pl:p≠l:=λz=>by rw[z,M.li]at G;cases G
 have O:m≠l:=λz=>by have:=M.li;rw[<-z,I]at this;cases this
 refine⟨l,_,_,rfl,rfl,s1 _ _ M.li,br (by rw[Q0];lia),?_⟩;refine q _ p ⟨⟨dx,by rw[ae O];exact s1 _ _ I⟩,by rw[ac,Qc];rfl,λe he=>?_⟩ G λb o n e=>by rw[ae n];exact s1 _ _ e
 rcases Q5.mp he with he|he
 .have te:=s1 _ _ (M.tu e he);rw[ae (λz=>by rw[z,s1 _ _ M.li]at te;cases te)];exact te
 .rw[Q7.mp he];rw[ae pl];exact ac
section
theorem SlA.notup (h:SlA K t H a F st) (e:H b=some (.tup xs)):¬F b:=λhb=>by
 obtain⟨d,h1,h2,_⟩:=h;obtain⟨dx,I⟩:=h1.obj;have no:∀o,H b=some o->(∀ys,o≠ .tup ys)->False:=λo q n=>by rw[e]at q;exact n _ (Option.some.inj q).symm
 rcases(h2 b).mp hb with rfl|rfl|rfl|hb|⟨hs,rfl⟩|hb
 .exact no _ I (λ_ z=>by cases z)
 .exact no _ h1.tbl (λ_ z=>by cases z)
 .exact no _ h1.row0.lst (λ_ z=>by cases z)
 .obtain⟨_,_,_,_,q⟩:=h1.row0.has hb;exact no _ q (λ_ z=>by cases z)
 .have r1:=h1.row1;cases G:st.nxt with
  |none=>rw[G]at hs;cases hs
  |some m=>rw[G]at r1;exact no _ r1.lst (λ_ z=>by cases z)
 .have r1:=h1.row1;cases G:st.nxt with
  |none=>rw[G]at r1;rw[r1.1]at hb;cases hb
  |some m=>
   rw[G]at r1;obtain⟨_,_,_,_,q⟩:=r1.has hb;exact no _ q (λ_ z=>by cases z)
theorem LvA.notup (h:LvA K t H a F ks) (e:H b=some (.tup xs)):¬F b:=λhb=>by
 obtain⟨L,A,ls,h1,_,_,h2⟩:=h;obtain⟨dx,G⟩:=h1.obj;have no:∀o,H b=some o->(∀ys,o≠ .tup ys)->False:=λo q n=>by rw[e]at q;exact n _ (Option.some.inj q).symm
 rcases(h2 b).mp hb with rfl|rfl|hb
 .exact no _ G (λ_ z=>by cases z)
 .exact no _ h1.lst (λ_ z=>by cases z)
 .obtain⟨_,_,_,_,q⟩:=h1.has hb;exact no _ q (λ_ z=>by cases z)
end
structure Pk where
 k:Int
 m:Addr
 l:Addr
 es:List Mk1
structure HSt where
 now:Int
 fl:Int
 ma:Int
 st:SSt
 ks:List Int
 di:List (Addr×List V)
 pa:List Pk
 ho:List (Int×V)
def eS:List Pk->Int->List Mk1
 | [],_=> []
 |e::r,k=>if e.k=k then e.es else eS r k
def paD (pa:List Pk):List (Int×V):=pa.map λe=>(e.k,V.ref e.m)
def hoF (now fl:Int) (s l w:Addr) (mk:Int) (p h:Addr):List (Str×V):=[("now",.int now),("floor",.int fl),("slots",.ref s),("leaves",.ref l),("written",.ref w),("marks",.int mk),("past",.ref p),("holders",.ref h)]
def NoH (m:Str):Prop:=m≠("now":Str)/\m≠("floor":Str)/\m≠("slots":Str)/\m≠("leaves":Str)/\m≠("written":Str)/\m≠("marks":Str)/\m≠("past":Str)/\m≠("holders":Str)
instance {m:Str}:Decidable (NoH m):=by unfold NoH;infer_instance
section
variable {now now' fl mk mk':Int} {s l w h:Addr} {m:Str}
theorem tR:(hoF now fl s l w mk p h).lookup ("now":Str)=some (.int now):=fR
theorem JQ:(hoF now fl s l w mk p h).lookup ("floor":Str)=some (.int fl):=by unfold hoF;rw[bF (by decide+kernel),fR]
theorem vf:(hoF now fl s l w mk p h).lookup ("slots":Str)=some (.ref s):=by unfold hoF;rw[bF (by decide+kernel),bF (by decide+kernel),fR]
theorem BC:(hoF now fl s l w mk p h).lookup ("leaves":Str)=some (.ref l):=by unfold hoF;rw[bF (by decide+kernel),bF (by decide+kernel),bF (by decide+kernel),fR]
theorem BA:(hoF now fl s l w mk p h).lookup ("written":Str)=some (.ref w):=by unfold hoF;rw[bF (by decide+kernel),bF (by decide+kernel),bF (by decide+kernel),bF (by decide+kernel),fR]
theorem BB:(hoF now fl s l w mk p h).lookup ("marks":Str)=some (.int mk):=by unfold hoF;rw[bF (by decide+kernel),bF (by decide+kernel),bF (by decide+kernel),bF (by decide+kernel),bF (by decide+kernel),fR]
theorem JP:(hoF now fl s l w mk p h).lookup ("past":Str)=some (.ref p):=by unfold hoF;rw[bF (by decide+kernel),bF (by decide+kernel),bF (by decide+kernel),bF (by decide+kernel),bF (by decide+kernel),bF (by decide+kernel),fR]
theorem Fp (n:NoH m):(hoF now fl s l w mk p h).lookup m=none:=by
 obtain⟨h1,h2,z,G,I,O,U,Y⟩:=n;unfold hoF;rw[bF h1,bF h2,bF z,bF G,bF I,bF O,bF U,bF Y];rfl
theorem G8:a9 ("now":Str) (.int now') (hoF now fl s l w mk p h)=hoF now' fl s l w mk p h:=by unfold hoF;rw[a9,if_pos rfl]
theorem Jn:a9 ("marks":Str) (.int mk') (hoF now fl s l w mk p h)=hoF now fl s l w mk' p h:=by
 unfold hoF;rw[a9,if_neg (by decide+kernel),a9,if_neg (by decide+kernel),a9,if_neg (by decide+kernel),a9,if_neg (by decide+kernel),a9,if_neg (by decide+kernel),a9,if_pos rfl]
theorem Cm:(hoF now fl s l w mk p h).length<1000:=by show 8<1000;decide
end
def Ow (a w p h:Addr) (pa:List Pk):Addr->Prop:=λb=>b=a\/b=w\/b=p\/b=h\/∃e∈pa,b=e.m\/b=e.l
structure HoO (t:Adr) (H:Hp) (a s l w p h:Addr) (x:HSt):Prop where
 ob:∃dx,H a=some (.ins t.aL dx (hoF x.now x.fl s l w x.ma p h))
 wr:H w=some (.lst (x.di.map λe=>V.ref e.1))
 dr:∀e∈x.di,H e.1=some (.tup e.2)
 pa:H p=some (.dK (aK (paD x.pa)))
 ho:H h=some (.dK (aK x.ho))
 mx:∀e∈x.pa,MkA t H e.m e.l e.es
 ph:p≠h
 wl:∀e∈x.pa,e.l≠w
 kd:(x.pa.map (·.k)).Nodup
 md:(x.pa.map (·.m)).Nodup
 ld:(x.pa.map (·.l)).Nodup
theorem b6 {t u:TS} {D:qN} (M:St->Hp->Prop) (h1:∀nx,(∀z H',M z H'->nx z H')->t {D with nx:=nx} σ H) (h2:∀z H',M z H'->u D z H'):zl t u D σ H:=h1 (u D) h2
theorem xw:jO (aK kvs)=(kvs.map (·.1)).map V.int:=by
 unfold jO aK;rw[Qu,Qu];rfl
theorem bu:a9 f v []=[(f,v)]:=rfl
theorem au {g:Str} {x:V} (n:g≠f):a9 f v ((g,x)::r)=(g,x)::a9 f v r:=by rw[a9,if_neg n]
theorem de {H2:Hp} (s:Same H H2) (n:H2 p=none):H p=none:=by
 cases e:H p with
 |none=>rfl
 |some o=>rw[s _ _ e]at n;cases n
theorem EX {f:α->β} {l:List α} (n:(l.map f).Nodup) {x y:α} (hx:x∈l) (hy:y∈l) (e:f x=f y):x=y:=by
 induction l with
 |nil=>cases hx
 |cons z r I=>
  obtain⟨G,O⟩:=QM.mp n;rcases Qg.mp hx with rfl|hx'<;>rcases Qg.mp hy with rfl|hy'
  .rfl
  .exact absurd (Qh.mpr ⟨y,hy',e.symm⟩) G
  .exact absurd (Qh.mpr ⟨x,hx',e⟩) G
  .exact I O hx' hy'
section
variable {s l w h:Addr} {x:HSt} {pa:List Pk} {y:Mk1}
theorem HoO.dom (A:HoO t H a s l w p h x) (hb:Ow a w p h x.pa b):∃o,H b=some o/\∀ys,o≠ .tup ys:=by
 obtain⟨dx,G⟩:=A.ob;rcases hb with rfl|rfl|rfl|rfl|⟨e,he,rfl|rfl⟩
 .exact⟨_,G,λ_ z=>by cases z⟩
 .exact⟨_,A.wr,λ_ z=>by cases z⟩
 .exact⟨_,A.pa,λ_ z=>by cases z⟩
 .exact⟨_,A.ho,λ_ z=>by cases z⟩
 .obtain⟨O,I⟩:=(A.mx e he).ob;exact⟨_,I,λ_ z=>by cases z⟩
 .exact⟨_,(A.mx e he).li,λ_ z=>by cases z⟩
theorem HoO.keep (A:HoO t H a s l w p h x) (g:∀b,Ow a w p h x.pa b->H' b=H b) (z:∀b xs,H b=some (.tup xs)->H' b=some (.tup xs)):HoO t H' a s l w p h x:=
 ⟨A.ob.imp λ_ e=>(g a (.inl rfl)).trans e,(g w (.inr (.inl rfl))).trans A.wr,λe he=>z _ _ (A.dr e he),(g p (.inr (.inr (.inl rfl)))).trans A.pa,(g h (.inr (.inr (.inr (.inl rfl))))).trans A.ho,
  λe he=>(A.mx e he).keep (g _ (.inr (.inr (.inr (.inr ⟨e,he,.inl rfl⟩))))) (g _ (.inr (.inr (.inr (.inr ⟨e,he,.inr rfl⟩))))) z,A.ph,A.wl,A.kd,A.md,A.ld⟩
theorem HoO.same (A:HoO t H a s l w p h x) (m:Same H H'):HoO t H' a s l w p h x:=A.keep (λb hb=>by
 obtain⟨o,e,_⟩:=A.dom hb;rw[e];exact m _ _ e) λb xs e=>m _ _ e
theorem HoO.set (A:HoO t H a s l w p h x) {now mk:Int} {fl:Int}:HoO t (upd H a (.ins t.aL dx (hoF now fl s l w mk p h))) a s l w p h {x with now:=now,fl:=fl,ma:=mk}:=by
 obtain⟨U,I⟩:=A.ob;have n:∀{b:Addr} {o:HO},H b=some o->(∀c d fs,o= .ins c d fs->fs.length=1)->b≠a:=λe i z=>by
  rw[z,I]at e;have:=i _ _ _ (Option.some.inj e).symm;cases this
 have G:∀{b:Addr} {o:HO},H b=some o->(∀c d fs,o≠ .ins c d fs)->b≠a:=λe i=>n e λc d fs z=>absurd z (i c d fs);refine⟨⟨dx,ac⟩,by rw[ae (G A.wr λ_ _ _ z=>by cases z)];exact A.wr,λe he=>by rw[ae (G (A.dr e he) λ_ _ _ z=>by cases z)];exact A.dr e he,by rw[ae (G A.pa λ_ _ _ z=>by cases z)];exact A.pa,
  by rw[ae (G A.ho λ_ _ _ z=>by cases z)];exact A.ho,λe he=>?_,A.ph,A.wl,A.kd,A.md,A.ld⟩
 have M:=A.mx e he;obtain⟨Y,O⟩:=M.ob;exact M.keep (ae (n O λ_ _ _ z=>by cases z;rfl)) (ae (G M.li λ_ _ _ z=>by cases z)) λb xs e=>by rw[ae (G e λ_ _ _ z=>by cases z)];exact e
theorem HoO.row (A:HoO t H a s l w p h x) {r:Addr} (I:H r=some (.tup xs)):HoO t (upd H w (.lst (x.di.map (λe=>V.ref e.1)++ [.ref r]))) a s l w p h {x with di:=x.di++ [(r,xs)]}:=by
 obtain⟨U,O⟩:=A.ob;have G:∀{b:Addr} {o:HO},H b=some o->(∀ys,o≠ .lst ys)->b≠w:=λe i z=>by
  rw[z,A.wr]at e;exact i _ (Option.some.inj e).symm
 refine⟨⟨U,by rw[ae (G O λ_ z=>by cases z)];exact O⟩,by rw[ac,Qc];rfl,λe he=>?_,by rw[ae (G A.pa λ_ z=>by cases z)];exact A.pa,by rw[ae (G A.ho λ_ z=>by cases z)];exact A.ho,λe he=>?_,A.ph,A.wl,A.kd,A.md,A.ld⟩
 .rcases Q5.mp he with he|he
  .rw[ae (G (A.dr e he) λ_ z=>by cases z)];exact A.dr e he
  .rw[Q7.mp he,ae (G I λ_ z=>by cases z)];exact I
 .have M:=A.mx e he;obtain⟨Z,Y⟩:=M.ob;exact M.keep (ae (G Y λ_ z=>by cases z)) (ae (A.wl e he)) λb xs e=>by rw[ae (G e λ_ z=>by cases z)];exact e
def paN (pa:List Pk) (k:Int) (y:Mk1):List Pk:=pa.map λe=>if e.k=k then{e with es:=e.es++ [y]}else e
theorem xj {f:Pk->β} (hf:∀e es,f {e with es:=es}=f e):(paN pa k y).map f=pa.map f:=by
 unfold paN;rw[Qu];refine Zd λe _=>?_;show f (if e.k=k then _ else e)=_;split
 .exact hf _ _
 .rfl
theorem yv {e:Pk} (h:e∈paN pa k y):∃g∈pa,e.k=g.k/\e.m=g.m/\e.l=g.l/\((g.k=k/\e.es=g.es++ [y])\/(g.k≠k/\e.es=g.es)):=by
 obtain⟨g,z,rfl⟩:=Qh.mp h;refine⟨g,z,?_⟩;split
 .rename_i c;exact⟨rfl,rfl,rfl,.inl ⟨c,rfl⟩⟩
 .rename_i c;exact⟨rfl,rfl,rfl,.inr ⟨c,rfl⟩⟩
theorem Jt (hb:Ow a w p h (paN pa k y) b):Ow a w p h pa b:=by
 rcases hb with z|z|z|z|⟨e,he,z⟩
 .exact .inl z
 .exact .inr (.inl z)
 .exact .inr (.inr (.inl z))
 .exact .inr (.inr (.inr (.inl z)))
 .obtain⟨g,G,_,e2,I,_⟩:=yv he;rw[e2,I]at z;exact .inr (.inr (.inr (.inr ⟨g,G,z⟩)))
theorem HoO.noted (A:HoO t H a s l w p h x) {e:Pk} (he:e∈x.pa) (ek:e.k=k) (M:MkA t H' e.m e.l (e.es++ [y])) (Y:∀b o,b≠e.l->H b=some o->H' b=some o):HoO t H' a s l w p h {x with pa:=paN x.pa k y}:=by
 obtain⟨dy,ho⟩:=A.ob;have hl:=(A.mx e he).li;have G:∀{b:Addr} {o:HO},H b=some o->(∀ys,o≠ .lst ys)->H' b=some o:=λe i=>Y _ _ (λz=>by
  rw[z,hl]at e;exact i _ (Option.some.inj e).symm) e
 refine⟨⟨dy,G ho (λ_ z=>by cases z)⟩,Y _ _ (A.wl e he).symm A.wr,λe he=>G (A.dr e he) (λ_ z=>by cases z),?_,G A.ho (λ_ z=>by cases z),λf hf=>?_,A.ph,λf hf=>?_,?_,?_,?_⟩
 .show H' p=some (.dK (aK (paD (paN x.pa k y))));unfold paD;rw[xj λ_ _=>rfl];exact G A.pa λ_ z=>by cases z
 .obtain⟨g,I,e1,e2,O,⟨c,Z⟩|⟨c,Z⟩⟩:=yv hf
  .have:g=e:=EX A.kd I he (c.trans ek.symm);subst this;rw[e2,O,Z];exact M
  .have U:=A.mx g I;obtain⟨dm,hm⟩:=U.ob;rw[e2,O,Z];exact U.keep ((G hm λ_ z=>by cases z).trans hm.symm) ((Y _ _ (λz=>c (by rw[EX A.ld I he z];exact ek)) U.li).trans U.li.symm) λb xs e=>G e λ_ z=>by cases z
 .obtain⟨g,I,_,_,O,_⟩:=yv hf;rw[O];exact A.wl g I
 .show((paN x.pa k y).map (·.k)).Nodup;rw[xj λ_ _=>rfl];exact A.kd
 .show((paN x.pa k y).map (·.m)).Nodup;rw[xj λ_ _=>rfl];exact A.md
 .show((paN x.pa k y).map (·.l)).Nodup;rw[xj λ_ _=>rfl];exact A.ld
theorem B7 (pa:List Pk) (k:Int):(aP (paD pa) k=none/\k∉pa.map (·.k))\/∃e∈pa,e.k=k/\aP (paD pa) k=some (.ref e.m)/\eS pa k=e.es:=by
 induction pa with
 |nil=>exact .inl ⟨lH,λz=>by cases z⟩
 |cons e r O=>
  show(aP ((e.k,V.ref e.m)::paD r) k=none/\_)\/∃g∈e::r,g.k=k/\aP ((e.k,V.ref e.m)::paD r) k=_/\(if e.k=k then e.es else eS r k)=_;by_cases c:e.k=k
  .exact .inr ⟨e,Q9,c,bq c,if_pos c⟩
  .rw[bn c,if_neg c];rcases O with⟨G,I⟩|⟨g,U,G,I,Y⟩
   .refine .inl ⟨G,λz=>?_⟩;rw[Qs]at z;rcases Qg.mp z with z|z
    .exact c z.symm
    .exact I z
   .exact .inr ⟨g,Qd _ U,G,I,Y⟩
theorem xt:∀{pa:List Pk},k∉pa.map (·.k)->eS pa k=[]
 | [],_=>rfl
 |e::r,n=>by
  rw[Qs]at n;show(if e.k=k then e.es else eS r k)=[];rw[if_neg λz=>n (by rw[z];exact Q9)];exact xt λz=>n (Qd _ z)
theorem qc {j:Int}:∀{pa:List Pk},k∈pa.map (·.k)->eS (paN pa k y) j=if j=k then eS pa k++ [y]else eS pa j
 |e::r,n=>by
  show(if(if e.k=k then{e with es:=e.es++ [y]}else e:Pk).k=j then(if e.k=k then{e with es:=e.es++ [y]}else e:Pk).es else eS (paN r k y) j)=if j=k then(if e.k=k then e.es else eS r k)++ [y]else(if e.k=j then e.es else eS r j)
  by_cases c:e.k=k
  .rw[if_pos c,if_pos c];show(if e.k=j then e.es++ [y]else eS (paN r k y) j)=_;by_cases d:j=k
   .rw[if_pos d,if_pos (c.trans d.symm)]
   .rw[if_neg d,if_neg λz=>d (z.symm.trans c),if_neg λz=>d (z.symm.trans c)];by_cases m:k∈r.map (·.k)
    .rw[qc m,if_neg d]
    .have:paN r k y=r:=by
      unfold paN
      conv=>rhs;rw[<-List.map_id r]
      refine Zd λg G=>if_neg λz=>m ?_;rw[<-z];exact Qh.mpr ⟨g,G,rfl⟩
     rw[this]
  .rw[if_neg c,if_neg c];have m:k∈r.map (·.k):=by
    rw[Qs]at n;rcases Qg.mp n with z|z
    .exact absurd z.symm c
    .exact z
   rw[qc m];by_cases d:j=k
   .rw[if_pos d,if_pos d,if_neg λz=>c (z.trans d)]
   .rw[if_neg d,if_neg d]
theorem uX {e:Pk} {j:Int}:∀{pa:List Pk},e.k∉pa.map (·.k)->eS (pa++ [e]) j=if j=e.k then e.es else eS pa j
 | [],_=>by
  show(if e.k=j then e.es else[])=if j=e.k then e.es else[]
  by_cases c:e.k=j
  .rw[if_pos c,if_pos c.symm]
  .rw[if_neg c,if_neg (Ne.symm c)]
 |g::r,n=>by
  rw[Qs]at n;show(if g.k=j then g.es else eS (r++ [e]) j)=if j=e.k then e.es else(if g.k=j then g.es else eS r j)
  rw[uX λz=>n (Qd _ z)];by_cases c:g.k=j
  .rw[if_pos c,if_pos c,if_neg λz=>n (by rw[<-z,<-c];exact Q9)]
  .rw[if_neg c,if_neg c]
theorem HoO.newk (A:HoO t H a s l w p h x) {m g:Addr} (nk:k∉x.pa.map (·.k)) (M:MkA t H m g []) (n1:¬Ow a w p h x.pa m) (O:¬Ow a w p h x.pa g):HoO t (upd H p (.dK (aK (paD x.pa++ [(k,.ref m)])))) a s l w p h {x with pa:=x.pa++ [⟨k,m,g,[]⟩]}:=by
 obtain⟨dy,U⟩:=A.ob;have G:∀{b:Addr} {o:HO},H b=some o->(∀ys,o≠ .dK ys)->b≠p:=λe i z=>by
  rw[z,A.pa]at e;exact i _ (Option.some.inj e).symm
 have Y:∀{m' Z:Addr} {es:List Mk1} {o:HO},MkA t H m' Z es->MkA t (upd H p o) m' Z es:=λM=>by
  obtain⟨dm,hm⟩:=M.ob;exact M.keep (ae (G hm λ_ z=>by cases z)) (ae (G M.li λ_ z=>by cases z)) λb xs e=>by rw[ae (G e λ_ z=>by cases z)];exact e
 refine⟨⟨dy,by rw[ae (G U λ_ z=>by cases z)];exact U⟩,by rw[ae (G A.wr λ_ z=>by cases z)];exact A.wr,λe he=>by rw[ae (G (A.dr e he) λ_ z=>by cases z)];exact A.dr e he,?_,by rw[ae A.ph.symm];exact A.ho,λe he=>?_,A.ph,λe he=>?_,?_,?_,?_⟩
 .rw[ac];show _=some (HO.dK (aK (paD (x.pa++ [⟨k,m,g,[]⟩]))));unfold paD;rw[Qc];rfl
 .rcases Q5.mp he with he|he
  .exact Y (A.mx e he)
  .rw[Q7.mp he];exact Y M
 .rcases Q5.mp he with he|he
  .exact A.wl e he
  .rw[Q7.mp he];exact λz=>O (.inr (.inl z))
 all_goals
  rw[Qc];refine XJ.mpr ⟨?_,by simp,λu hu v hv z=>?_⟩
 .exact A.kd
 .cases Q7.mp hv;rw[z]at hu;exact nk hu
 .exact A.md
 .cases Q7.mp hv;obtain⟨e,he,I⟩:=Qh.mp hu;exact n1 (.inr (.inr (.inr (.inr ⟨e,he,.inl (z.symm.trans I.symm)⟩))))
 .exact A.ld
 .cases Q7.mp hv;obtain⟨e,he,I⟩:=Qh.mp hu;exact O (.inr (.inr (.inr (.inr ⟨e,he,.inr (z.symm.trans I.symm)⟩))))
end
structure vG (pa pa':List Pk) (k:Int) (y:Mk1):Prop where
 of:∀j,eS pa' j=if j=k then eS pa k++ [y]else eS pa j
 ky:pa'.map (·.k)=if k∈pa.map (·.k)then pa.map (·.k)else pa.map (·.k)++ [k]
structure HoB (K:PySem.W.Frag) (t:Adr) (H:Hp) (a s l w p h:Addr) (Fs Fl:Addr->Prop) (x:HSt):Prop where
 o:HoO t H a s l w p h x
 sl:SlA K t H s Fs x.st
 lv:LvA K t H l Fl x.ks
 a1:∀b,Fs b->¬Fl b
 a2:∀b,Ow a w p h x.pa b->¬Fs b
 a3:∀b,Ow a w p h x.pa b->¬Fl b
def HoF (a w p h:Addr) (Fs Fl:Addr->Prop) (pa:List Pk):Addr->Prop:=λb=>Fs b\/Fl b\/Ow a w p h pa b
section
variable {s l w h:Addr} {Fs Fs' Fl Fl':Addr->Prop} {x:HSt}
theorem HoB.slots (B:HoB K t H a s l w p h Fs Fl x) (S:SlA K t H' s Fs' st) (f:Fr Fs Fs' H H'):HoB K t H' a s l w p h Fs' Fl {x with st:=st}/\Fr (HoF a w p h Fs Fl x.pa) (HoF a w p h Fs' Fl x.pa) H H':=by
 have G:∀b,Fl b->H' b=H b/\¬Fs' b:=λb hb=>by
  obtain⟨o,e⟩:=B.lv.dom hb;have:=f b o (λz=>B.a1 b z hb) e;exact⟨this.1.trans e.symm,this.2⟩
 have k2:∀b,Ow a w p h x.pa b->H' b=H b/\¬Fs' b:=λb hb=>by
  obtain⟨o,e,_⟩:=B.o.dom hb;have:=f b o (B.a2 b hb) e;exact⟨this.1.trans e.symm,this.2⟩
 have O:=B.o.keep (H':=H') (λb hb=>(k2 b hb).1) λb xs e=>(f b _ (B.sl.notup e) e).1;exact⟨⟨⟨O.ob,O.wr,O.dr,O.pa,O.ho,O.mx,O.ph,O.wl,O.kd,O.md,O.ld⟩,S,B.lv.frame λb hb=>(G b hb).1,λb h1 h2=>(G b h2).2 h1,λb hb=>(k2 b hb).2,B.a3⟩,λb o n e=>⟨(f b o (λz=>n (.inl z)) e).1,λz=>z.elim (f b o (λz=>n (.inl z)) e).2 λz=>n (.inr z)⟩⟩
theorem HoB.leaves (B:HoB K t H a s l w p h Fs Fl x) (S:LvA K t H' l Fl' ks) (f:Fr Fl Fl' H H'):HoB K t H' a s l w p h Fs Fl' {x with ks:=ks}/\Fr (HoF a w p h Fs Fl x.pa) (HoF a w p h Fs Fl' x.pa) H H':=by
 have G:∀b,Fs b->H' b=H b/\¬Fl' b:=λb hb=>by
  obtain⟨o,e⟩:=B.sl.dom hb;have:=f b o (B.a1 b hb) e;exact⟨this.1.trans e.symm,this.2⟩
 have k2:∀b,Ow a w p h x.pa b->H' b=H b/\¬Fl' b:=λb hb=>by
  obtain⟨o,e,_⟩:=B.o.dom hb;have:=f b o (B.a3 b hb) e;exact⟨this.1.trans e.symm,this.2⟩
 have O:=B.o.keep (H':=H') (λb hb=>(k2 b hb).1) λb xs e=>(f b _ (B.lv.notup e) e).1;exact⟨⟨⟨O.ob,O.wr,O.dr,O.pa,O.ho,O.mx,O.ph,O.wl,O.kd,O.md,O.ld⟩,B.sl.frame λb hb=>(G b hb).1,S,λb h1=>(G b h1).2,B.a2,λb hb=>(k2 b hb).2⟩,λb o n e=>⟨(f b o (λz=>n (.inr (.inl z))) e).1,λz=>z.elim (λz=>n (.inl z)) λz=>z.elim (f b o (λz=>n (.inr (.inl z))) e).2 λz=>n (.inr (.inr z))⟩⟩
theorem HoB.own (B:HoB K t H a s l w p h Fs Fl x) (O:HoO t H' a s l w p h x') (I:x'.st=x.st) (e2:x'.ks=x.ks) (f:Fr (Ow a w p h x.pa) (Ow a w p h x'.pa) H H'):HoB K t H' a s l w p h Fs Fl x'/\Fr (HoF a w p h Fs Fl x.pa) (HoF a w p h Fs Fl x'.pa) H H':=by
 have G:∀b,Fs b->H' b=H b/\¬Ow a w p h x'.pa b:=λb hb=>by
  obtain⟨o,e⟩:=B.sl.dom hb;have:=f b o (λz=>B.a2 b z hb) e;exact⟨this.1.trans e.symm,this.2⟩
 have k2:∀b,Fl b->H' b=H b/\¬Ow a w p h x'.pa b:=λb hb=>by
  obtain⟨o,e⟩:=B.lv.dom hb;have:=f b o (λz=>B.a3 b z hb) e;exact⟨this.1.trans e.symm,this.2⟩
 exact⟨⟨O,by rw[I];exact B.sl.frame λb hb=>(G b hb).1,by rw[e2];exact B.lv.frame λb hb=>(k2 b hb).1,B.a1,λb h1 h2=>(G b h2).2 h1,λb h1 h2=>(k2 b h2).2 h1⟩,λb o n e=>⟨(f b o (λz=>n (.inr (.inr z))) e).1,λz=>z.elim (λz=>n (.inl z)) λz=>z.elim (λz=>n (.inr (.inl z))) (f b o (λz=>n (.inr (.inr z))) e).2⟩⟩
theorem HoB.dom (B:HoB K t H a s l w p h Fs Fl x) (hb:HoF a w p h Fs Fl x.pa b):∃o,H b=some o/\∀ys,o≠ .tup ys:=by
 have no:∀F:Addr->Prop,F b->(∀xs,H b=some (.tup xs)->¬F b)->∀o,H b=some o->∃o,H b=some o/\∀ys,o≠ .tup ys:=λF G n o e=>⟨o,e,λys z=>n ys (by rw[e,z]) G⟩;rcases hb with hb|hb|hb
 .obtain⟨o,e⟩:=B.sl.dom hb;exact no Fs hb (λxs e=>B.sl.notup e) o e
 .obtain⟨o,e⟩:=B.lv.dom hb;exact no Fl hb (λxs e=>B.lv.notup e) o e
 .exact B.o.dom hb
theorem HoB.keep (B:HoB K t H a s l w p h Fs Fl x) (g:∀b,HoF a w p h Fs Fl x.pa b->H' b=H b) (z:∀b xs,H b=some (.tup xs)->H' b=some (.tup xs)):HoB K t H' a s l w p h Fs Fl x:=
 ⟨B.o.keep (λb hb=>g b (.inr (.inr hb))) z,B.sl.frame λb hb=>g b (.inl hb),B.lv.frame λb hb=>g b (.inr (.inl hb)),B.a1,B.a2,B.a3⟩
end
structure HOk (x:HSt):Prop where
 ks:∀z,z∈x.ks↔(aP x.st.kv z).isSome=true
 n0:0<=x.now
 m0:0<=x.ma
 dl:(x.di.length:Int)=x.now+x.ma
 pl:(x.pa.length:Int)<=x.now
 el:∀j,((eS x.pa j).length:Int)<=x.now
 sl:(x.st.kv.length:Int)<=x.now
 hn:(x.ho.map (·.1)).Nodup
 hv:∀p∈x.ho,x.fl<=p.1/\p.1<=x.now/\∃n:Int,p.2= .int n/\0<n
 fb:0<=x.fl/\x.fl<=x.now
 up:∀j,(eS x.pa j).Pairwise (λa b=>a.mo<b.mo)/\∀y∈eS x.pa j,y.mo<=x.now
def HoA (K:PySem.W.Frag) (t:Adr) (H:Hp) (a:Addr) (F:Addr->Prop) (x:HSt):Prop:=∃s l w p h Fs Fl,HoB K t H a s l w p h Fs Fl x/\HOk x/\∀b,F b↔HoF a w p h Fs Fl x.pa b
section
variable {x:HSt}
theorem HoA.ins (A:HoA K t H a F x):∃dx fs,H a=some (.ins t.aL dx fs)/\(∀m,NoH m->fs.lookup m=none)/\fs.lookup ("now":Str)=some (.int x.now)/\fs.lookup ("floor":Str)=some (.int x.fl):=by
 obtain⟨s,l,w,p,h,Fs,Fl,B,_⟩:=A;obtain⟨dx,e⟩:=B.o.ob;exact⟨dx,_,e,λm z=>Fp z,tR,JQ⟩
theorem HoA.ok (A:HoA K t H a F x):HOk x:=by
 obtain⟨s,l,w,p,h,Fs,Fl,B,O,_⟩:=A;exact O
theorem HoA.dom (A:HoA K t H a F x) (hb:F b):∃o,H b=some o/\∀ys,o≠ .tup ys:=by
 obtain⟨s,l,w,p,h,Fs,Fl,B,_,g⟩:=A;exact B.dom ((g b).mp hb)
theorem HoA.out (A:HoA K t H a F x) (e:H b=none):¬F b:=λz=>by
 obtain⟨o,q,_⟩:=A.dom z;rw[q]at e;cases e
theorem HoA.keep (A:HoA K t H a F x) (g:∀b,F b->H' b=H b) (z:∀b xs,H b=some (.tup xs)->H' b=some (.tup xs)):HoA K t H' a F x:=by
 obtain⟨s,l,w,p,h,Fs,Fl,B,O,f⟩:=A;exact⟨s,l,w,p,h,Fs,Fl,B.keep (λb hb=>g b ((f b).mpr hb)) z,O,f⟩
theorem HoA.same (A:HoA K t H a F x) (m:Same H H'):HoA K t H' a F x:=A.keep (λb hb=>by
 obtain⟨o,e,_⟩:=A.dom hb;rw[e];exact m _ _ e) λb xs e=>m _ _ e
theorem HoA.upd (A:HoA K t H a F x) (n:¬F q) (G:∀xs,H q≠some (.tup xs)):HoA K t (L2.upd H q o) a F x:=A.keep (λb hb=>ae λz=>n (z▸hb)) λb xs e=>by rw[ae λz=>G xs (by rw[<-z];exact e)];exact e
end
def uq (t:Adr):Sp:=λvs H Q _=>∃(a s l w p h r:Addr) (k:Int) (x:HSt) (v:V) (xs:List V),vs=[.ref a,.ref r,v]/\HoO t H a s l w p h x/\H r=some (.tup xs)/\atI xs 1=some (.int k)/\x.di.length<50000/\x.pa.length<50000/\(eS x.pa k).length<50000/\
 ∀(H':Hp) (pa':List Pk) (q:Addr),HoO t H' a s l w p h {x with now:=x.now+1,di:=x.di++ [(r,xs)],pa:=pa'}->vG x.pa pa' k ⟨q,x.now+1,v⟩->Fr (Ow a w p h x.pa) (Ow a w p h pa') H H'->Q (.int (x.now+1)) H'
theorem mr (T:Txt K mg t):FnOk P w K mg base CX0 3 t.oP t.jD ["self","row","value"] (uq t):=by
 refine T.GM.okl sc_House__done λ_ _ _ s H vs Q E hr h=>?_;intro X;obtain⟨a,s,l,wr,p,h,r,k,x,v,xs,rfl,A,ht,hk,l1,l2,l3,q⟩:=h;refine ah (ay (i:=3) sc_House__done.nd rfl (Or.inl rfl) (aX bX (pv 1) af (λ_ _=>rfl)))
   (ah (gR (pv 0) af ve)
   (ah (aS (dJ Qq QV QW d7 (ar (pv 0) rfl) (aa (pv 1) ag)))
   (ah (aS (aR (dJ QQ XW PySem.F.type_dict_setdefault Dg (ar (pv 0) rfl) (aa (pv 3) (aa (pZ T.KP (uR T) hr.mo (by rfl) T.KS T.Gv .nil az) ag))) T.Ai T.Gk (uQ T) hr.mo T.Gu .nil az (aa (ar (pv 0) rfl) (aa (pv 2) ag))))
   (aA (aD (ar (pv 0) rfl)) ?_))))
 intros
 obtain⟨dx,ho⟩:=A.ob;refine⟨_,rfl,r,_,_,_,rfl,rfl,SqT.of ht,hk,?_⟩;refine⟨_,rfl,a,_,dx,_,_,rfl,ho,T.aO,T.kA,tR,_,_,rfl,rfl,dx,_,ho,Cm,?_⟩;rw[G8];have A1:=A.set (now:=x.now+1) (mk:=x.ma) (fl:=x.fl) (dx:=dx);have o1:∀b o,b≠a->H b=some o->upd H a (.ins t.aL dx (hoF (x.now+1) x.fl s l wr x.ma p h)) b=some o:=λb o n e=>by rw[ae n];exact e
 have ra:r≠a:=λz=>by rw[z,ho]at ht;cases ht
 have O:=o1 _ _ ra ht;generalize upd H a (.ins t.aL dx (hoF (x.now+1) x.fl s l wr x.ma p h))=H1 at A1 o1 O⊢;obtain⟨a3,a0⟩:=A1.ob;refine⟨_,rfl,a,_,a3,_,_,rfl,a0,T.aO,T.fE,BA,.inl ⟨rfl,_,SqL.of A1.wr⟩,_,rfl,wr,_,_,rfl,rfl,A1.wr,br (by rw[Q0];show x.di.length<=_;lia),?_⟩;have U:=A1.row O;have o2:∀b o,¬Ow a wr p h x.pa b->H b=some o->upd H1 wr (.lst (x.di.map (λe=>V.ref e.1)++ [.ref r])) b=some o:=λb o n e=>by rw[ae λz=>n (.inr (.inl z))];exact o1 _ _ (λz=>n (.inl z)) e
 generalize upd H1 wr (.lst (x.di.map (λe=>V.ref e.1)++ [.ref r]))=H2 at U o2⊢;obtain⟨a4,a1⟩:=U.ob;refine⟨_,rfl,a,_,a4,_,_,rfl,a1,T.aO,T.wJ,JP,.inr (.inr (.inl ⟨rfl,.inl ⟨_,U.pa⟩⟩)),_,rfl,λm dm nm nd a5=>⟨m,dm,rfl,ac,λH4 g M4 ng o4=>⟨rfl,?_⟩⟩⟩;have s3:Same H2 (upd (upd H2 dm (.own m)) m (.ins t.fV dm [])):=bP (ai nd) nm;have s4:Same H2 H4:=λb o e=>o4 b o (λz=>by rw[z,nm]at e;cases e) (s3 b o e);have Y:=de s3 ng;have A4:=U.same s4;have om:¬Ow a wr p h x.pa m:=λz=>by obtain⟨o,e,_⟩:=U.dom z;rw[nm]at e;cases e
 have og:¬Ow a wr p h x.pa g:=λz=>by obtain⟨o,e,_⟩:=U.dom z;rw[Y]at e;cases e
 have o5:∀b o,¬Ow a wr p h x.pa b->H b=some o->H4 b=some o/\b≠m/\b≠g:=λb o n e=>⟨s4 _ _ (o2 b o n e),λz=>(by have:=o2 b o n e;rw[z,nm]at this;cases this),λz=>(by have:=o2 b o n e;rw[z,Y]at this;cases this)⟩;clear s3 s4 o4 o2 o1 A1 U a1 a0 ho A ng nm nd a5 Y O ht;refine⟨p,_,Sum.inl k,.ref m,rfl,rfl,A4.pa,(by rw[cv];exact br (by show(paD x.pa).length<=_;unfold paD;rw[Q0];lia)),λu hu=>?A,λZ=>?B⟩
 case' A=>
  have hu:aP (aK (paD x.pa)) (Sum.inl k:Key)=some u:=hu;rw[liftK_val]at hu;obtain⟨e,he,I,ev,em⟩:∃e∈x.pa,e.k=k/\aP (paD x.pa) k=some (.ref e.m)/\eS x.pa k=e.es:=by
   rcases B7 x.pa k with⟨z,_⟩|z
   .rw[z]at hu;cases hu
   .exact z
  rw[ev]at hu;cases hu;obtain⟨G,A5,he,N,f5⟩:∃G,HoO t H4 a s l wr p h {x with now:=x.now+1,di:=x.di++ [(r,xs)],pa:=G}/\e∈G/\(∀y,vG x.pa (paN G k y) k y)/\Fr (Ow a wr p h x.pa) (Ow a wr p h G) H H4:=
   ⟨x.pa,A4,he,λy=>⟨λj=>qc (Qh.mpr ⟨e,he,I⟩),by rw[xj λ_ _=>rfl,if_pos (Qh.mpr ⟨e,he,I⟩)]⟩,λb o n e=>⟨(o5 b o n e).1,n⟩⟩
  have le:e.es.length<50000:=by rw[<-em];exact l3
  clear A4 em ev o5
 case' B=>
  have Z:aP (aK (paD x.pa)) (Sum.inl k:Key)=none:=Z;rw[liftK_val]at Z;have nk:k∉x.pa.map (·.k):=by
   rcases B7 x.pa k with⟨_,z⟩|⟨e,_,_,z,_⟩
   .exact z
   .rw[z]at Z;cases Z
  have ep:bz (aK (paD x.pa)) (Sum.inl k:Key) (.ref m)=aK (paD x.pa++ [(k,.ref m)]):=by
   rw[gT];unfold bz;rw[cO,Z];rfl
  rw[ep];obtain⟨e,ee,I,le⟩:∃e:Pk,e=⟨k,m,g,[]⟩/\e.k=k/\e.es.length<50000:=⟨_,rfl,rfl,by show 0<50000;decide⟩;obtain⟨G,A5,he,N,f5⟩:∃G,HoO t (upd H4 p (.dK (aK (paD x.pa++ [(k,.ref m)])))) a s l wr p h {x with now:=x.now+1,di:=x.di++ [(r,xs)],pa:=G}/\e∈G/\(∀y,vG x.pa (paN G k y) k y)/\Fr (Ow a wr p h x.pa) (Ow a wr p h G) H (upd H4 p (.dK (aK (paD x.pa++ [(k,.ref m)])))):=by
   refine⟨x.pa++ [e],ee▸A4.newk nk M4 om og,Qv _ Q9,λy=>⟨λj=>?_,?_⟩,λb o n eb=>⟨?_,λz=>?_⟩⟩
   .have a2:e.k∉x.pa.map (·.k):=by rw[I];exact nk
    rw[qc (by rw[Qc];exact Qv _ (Q7.mpr I.symm)),uX a2,uX a2,if_pos I.symm,xt nk,ee];by_cases c:j=k
    .rw[if_pos c,if_pos c]
    .rw[if_neg c,if_neg c,if_neg c]
   .rw[xj λ_ _=>rfl,if_neg nk,Qc,<-I];rfl
   .rw[ae λz=>n (.inr (.inr (.inl z)))];exact(o5 b o n eb).1
   .rcases z with z|z|z|z|⟨e',a7,z⟩
    .exact n (.inl z)
    .exact n (.inr (.inl z))
    .exact n (.inr (.inr (.inl z)))
    .exact n (.inr (.inr (.inr (.inl z))))
    .rcases Q5.mp a7 with y|y
     .exact n (.inr (.inr (.inr (.inr ⟨e',y,z⟩))))
     .rw[Q7.mp y,ee]at z;exact z.elim (o5 b o n eb).2.1 (o5 b o n eb).2.2
  have em:V.ref m=V.ref e.m:=by rw[ee]
  clear A4 M4 o5 om og Z nk ep;generalize upd H4 p (.dK (aK (paD x.pa++ [(k,.ref m)])))=H5 at A5 f5⊢;rw[em]
 all_goals
  have M5:=A5.mx e he;obtain⟨dy,hm⟩:=M5.ob;obtain⟨ab,an⟩:=A5.ob;refine⟨e.m,dy,_,rfl,hm,bF (by decide+kernel),_,rfl,a,_,ab,_,_,rfl,an,T.aO,T.kA,tR,_,rfl,e.m,e.l,e.es,_,v,rfl,M5,by lia,λH6 y M6 ny o6=>?_⟩;have A6:=A5.noted he I M6 o6;obtain⟨ap,aw⟩:=A6.ob;refine⟨_,rfl,a,_,ap,_,_,rfl,aw,T.aO,T.kA,tR,q _ _ y A6 (N _) (f5.trans λb o n eb=>⟨o6 b o (λz=>n (.inr (.inr (.inr (.inr ⟨e,he,.inr z⟩))))) eb,λz=>n (Jt z)⟩)⟩
def HSt.new:HSt:=⟨0,0,0,SSt.new,[],[],[],[]⟩
theorem HSt.new_ok:HOk HSt.new:=⟨λz=>⟨(λy=>by cases y),(λy=>by cases y)⟩,by decide,by decide,rfl,by decide,λ_=>by show((0:Nat):Int)<=0;decide,by decide,Zj,(λ_ z=>by cases z),by decide,λ_=>⟨List.Pairwise.nil,(λy z=>by cases z)⟩⟩
def uk (K:PySem.W.Frag) (t:Adr):Sp:=λvs H Q _=>∃(a dx:Addr),vs=[.ref a]/\H a=some (.ins t.aL dx [])/\∀H' F,HoA K t H' a F HSt.new->Fr (λb=>b=a) F H H'->Q .non H'
theorem uT (T:Txt K mg t):FnOk P w K mg base CX0 4 t.oN t.jB ["self"] (uk K t):=by
 refine T.GK.okl uB λ_ _ _ s H vs Q E hr h=>?_;intro X;obtain⟨a,dx,rfl,ha,q⟩:=h;refine ah (bc (pv 0) af rfl)
   (ah (bc (pv 0) af rfl)
   (ah (bc (pv 0) (pZ T.KO (uO T) hr.mo (by rfl) T.KR T.Gr .nil az) rfl)
   (ah (bc (pv 0) (pZ T.Kh (tD T) hr.mo (by rfl) T.Kj T.FW .nil az) rfl)
   (ah (bc (pv 0) (bT ag) rfl)
   (ah (bc (pv 0) af rfl)
   (ah (bc (pv 0) eO rfl)
   (aA (bc (pv 0) eO rfl) ?_)))))))
 intros
 refine⟨_,rfl,a,_,dx,[],rfl,ha,T.aO,T.kA,(by show 0<1000;decide),?_⟩;refine⟨_,rfl,a,_,dx,_,rfl,ac,T.aO,T.EY,(by show 1<1000;decide),?_⟩
 (try dsimp only)
 have e2:upd (upd H a (.ins t.aL dx (a9 ("now":Str) (.int 0) []))) a (.ins t.aL dx (a9 ("floor":Str) (.int 0) (a9 ("now":Str) (.int 0) []))) a=some (.ins t.aL dx [("now",.int 0),("floor",.int 0)]):=by
  rw[ac,bu,au (by decide+kernel),bu]
 have k2:∀b o,b≠a->H b=some o->upd (upd H a (.ins t.aL dx (a9 ("now":Str) (.int 0) []))) a (.ins t.aL dx (a9 ("floor":Str) (.int 0) (a9 ("now":Str) (.int 0) []))) b=some o:=λb o n e=>by rw[ae n,ae n];exact e
 generalize upd (upd H a (.ins t.aL dx (a9 ("now":Str) (.int 0) []))) a (.ins t.aL dx (a9 ("floor":Str) (.int 0) (a9 ("now":Str) (.int 0) [])))=H2 at e2 k2⊢;refine λs ds ns I a2=>⟨s,ds,rfl,ac,by rw[ae a2];exact ac,λH3 Fs S3 f3=>⟨rfl,?_⟩⟩;have k3:∀b o,H2 b=some o->H3 b=some o/\¬Fs b:=λb o e=>f3 b o (λz=>z.elim (λz=>by rw[z,ns]at e;cases e) λz=>by rw[z,I]at e;cases e) (bP (ai I) ns _ _ e);refine⟨_,rfl,a,_,dx,_,rfl,(k3 _ _ e2).1,T.aO,T.cV,(by show 2<1000;decide),?_⟩
 (try dsimp only)
 have e4:upd H3 a (.ins t.aL dx (a9 ("slots":Str) (.ref s) [("now",.int 0),("floor",.int 0)])) a=some (.ins t.aL dx [("now",.int 0),("floor",.int 0),("slots",.ref s)]):=by
  rw[ac,au (by decide+kernel),au (by decide+kernel),bu]
 have S4:=S3.upd (o:= .ins t.aL dx (a9 ("slots":Str) (.ref s) [("now",.int 0),("floor",.int 0)])) (k3 _ _ e2).2;have k4:∀b o,b≠a->H b=some o->upd H3 a (.ins t.aL dx (a9 ("slots":Str) (.ref s) [("now",.int 0),("floor",.int 0)])) b=some o/\¬Fs b:=λb o n e=>⟨by rw[ae n];exact(k3 _ _ (k2 b o n e)).1,(k3 _ _ (k2 b o n e)).2⟩;have na:=(k3 _ _ e2).2;clear f3 k3;generalize upd H3 a (.ins t.aL dx (a9 ("slots":Str) (.ref s) [("now",.int 0),("floor",.int 0)]))=H4 at e4 S4 k4⊢;refine λl dl nl U a3=>⟨l,dl,rfl,ac,by rw[ae a3];exact ac,λH5 Fl L5 f5=>⟨rfl,?_⟩⟩;have Y:∀b o,H4 b=some o->H5 b=some o/\¬Fl b:=λb o e=>f5 b o (λz=>z.elim (λz=>by rw[z,nl]at e;cases e) λz=>by rw[z,U]at e;cases e) (bP (ai U) nl _ _ e);refine⟨_,rfl,a,_,dx,_,rfl,(Y _ _ e4).1,T.aO,T.gk,(by show 3<1000;decide),?_⟩
 (try dsimp only)
 have e6:upd H5 a (.ins t.aL dx (a9 ("leaves":Str) (.ref l) [("now",.int 0),("floor",.int 0),("slots",.ref s)])) a=some (.ins t.aL dx [("now",.int 0),("floor",.int 0),("slots",.ref s),("leaves",.ref l)]):=by
  rw[ac,au (by decide+kernel),au (by decide+kernel),au (by decide+kernel),bu]
 have nb:=(Y _ _ e4).2;have L6:=L5.upd (o:= .ins t.aL dx (a9 ("leaves":Str) (.ref l) [("now",.int 0),("floor",.int 0),("slots",.ref s)])) nb;have S6:=(S4.same λb o e=>(Y b o e).1).upd (o:= .ins t.aL dx (a9 ("leaves":Str) (.ref l) [("now",.int 0),("floor",.int 0),("slots",.ref s)])) na;have ap:∀b,Fs b->¬Fl b:=λb hb=>by
  obtain⟨o,e⟩:=S4.dom hb;exact(Y b o e).2
 have k6:∀b o,b≠a->H b=some o->upd H5 a (.ins t.aL dx (a9 ("leaves":Str) (.ref l) [("now",.int 0),("floor",.int 0),("slots",.ref s)])) b=some o/\¬Fs b/\¬Fl b:=λb o n e=>⟨by rw[ae n];exact(Y _ _ (k4 b o n e).1).1,(k4 b o n e).2,(Y _ _ (k4 b o n e).1).2⟩;clear f5 Y k4 S4 L5 k2 e2 e4 S3 ns I a2 nl U a3;generalize upd H5 a (.ins t.aL dx (a9 ("leaves":Str) (.ref l) [("now",.int 0),("floor",.int 0),("slots",.ref s)]))=H6 at e6 S6 L6 k6⊢;refine⟨Qj _,λwr nw=>⟨_,rfl,a,_,dx,_,rfl,ai nw _ _ e6,T.aO,T.fE,(by show 4<1000;decide),?_⟩⟩
 (try dsimp only)
 have aw:a≠wr:=ak e6 nw;refine⟨_,rfl,a,_,dx,_,rfl,ac,T.aO,T.iw,(by rw[au (by decide+kernel),au (by decide+kernel),au (by decide+kernel),au (by decide+kernel),bu];show 5<1000;decide),?_⟩
 (try dsimp only)
 rw[au (f:="written") (by decide+kernel),au (f:="written") (by decide+kernel),au (f:="written") (by decide+kernel),au (f:="written") (by decide+kernel),bu,au (f:="marks") (by decide+kernel),au (f:="marks") (by decide+kernel),au (f:="marks") (by decide+kernel),au (f:="marks") (by decide+kernel),au (f:="marks") (by decide+kernel),bu,bG];have⟨H9,eH,e9,w9,k9⟩:∃H9,H9=upd (upd H6 wr (.lst [])) a (.ins t.aL dx [("now",.int 0),("floor",.int 0),("slots",.ref s),("leaves",.ref l),("written",.ref wr),("marks",.int 0)])/\H9 a=some (.ins t.aL dx [("now",.int 0),("floor",.int 0),("slots",.ref s),("leaves",.ref l),("written",.ref wr),("marks",.int 0)])/\H9 wr=some (.lst [])/\∀b o,b≠a->H6 b=some o->H9 b=some o:=
  ⟨_,rfl,ac,by rw[ae aw.symm];exact ac,λb o n e=>by rw[ae n];exact ai nw _ _ e⟩
 rw[<-eH];clear eH;refine λp Z=>⟨_,rfl,a,_,dx,_,rfl,ai Z _ _ e9,T.aO,T.wJ,(by show 6<1000;decide),?_⟩
 (try dsimp only)
 rw[au (by decide+kernel),au (by decide+kernel),au (by decide+kernel),au (by decide+kernel),au (by decide+kernel),au (by decide+kernel),bu];have⟨G,eH,e11,w11,p11,k11⟩:∃G,G=upd (upd H9 p (.dK [])) a (.ins t.aL dx [("now",.int 0),("floor",.int 0),("slots",.ref s),("leaves",.ref l),("written",.ref wr),("marks",.int 0),("past",.ref p)])/\G a=some (.ins t.aL dx [("now",.int 0),("floor",.int 0),("slots",.ref s),("leaves",.ref l),("written",.ref wr),("marks",.int 0),("past",.ref p)])/\G wr=some (.lst [])/\G p=some (.dK [])/\∀b o,b≠a->H6 b=some o->G b=some o:=
  ⟨_,rfl,ac,by rw[ae aw.symm];exact ai Z _ _ w9,by rw[ae (ak e9 Z).symm];exact ac,λb o n e=>by rw[ae n];exact ai Z _ _ (k9 _ _ n e)⟩
 rw[<-eH];clear eH;have pa':p≠a:=(ak e9 Z).symm;refine λh nh=>⟨_,rfl,a,_,dx,_,rfl,ai nh _ _ e11,T.aO,T.De,(by show 7<1000;decide),?_⟩
 (try dsimp only)
 rw[au (by decide+kernel),au (by decide+kernel),au (by decide+kernel),au (by decide+kernel),au (by decide+kernel),au (by decide+kernel),au (by decide+kernel),bu];have a4:h≠a:=(ak e11 nh).symm;have a0:∀b o,b≠a->G b=some o->upd (upd G h (.dK [])) a (.ins t.aL dx (hoF 0 0 s l wr 0 p h)) b=some o:=λb o n e=>by rw[ae n];exact ai nh _ _ e
 have a1:∀b o,b≠a->H6 b=some o->upd (upd G h (.dK [])) a (.ins t.aL dx (hoF 0 0 s l wr 0 p h)) b=some o:=λb o n e=>a0 b o n (k11 b o n e);have O:HoO t (upd (upd G h (.dK [])) a (.ins t.aL dx (hoF 0 0 s l wr 0 p h))) a s l wr p h HSt.new:=⟨⟨dx,ac⟩,a0 _ _ aw.symm w11,(λe he=>by cases he),a0 _ _ pa' p11,by rw[ae a4];exact ac,(λe he=>by cases he),ak p11 nh,(λe he=>by cases he),Zj,Zj,Zj⟩;have fresh:∀b,(b=wr\/b=p\/b=h)->H6 b=none:=λb hb=>by
  cases e:H6 b with
  |none=>rfl
  |some o=>
   have na:b≠a:=by
    rcases hb with rfl|rfl|rfl
    .exact aw.symm
    .exact pa'
    .exact a4
   rcases hb with rfl|rfl|rfl
   .rw[nw]at e;cases e
   .rw[k9 _ _ na e]at Z;cases Z
   .rw[k11 _ _ na e]at nh;cases nh
 have ow:∀b,Ow a wr p h [] b->b=a\/H6 b=none:=λb hb=>by
  rcases hb with z|z|z|z|⟨e,he,_⟩
  .exact .inl z
  .exact .inr (fresh b (.inl z))
  .exact .inr (fresh b (.inr (.inl z)))
  .exact .inr (fresh b (.inr (.inr z)))
  .cases he
 refine q _ (HoF a wr p h Fs Fl []) ⟨s,l,wr,p,h,Fs,Fl,⟨O,S6.frame λb hb=>?_,L6.frame λb hb=>?_,ap,λb hb z=>?_,λb hb z=>?_⟩,HSt.new_ok,λ_=>Iff.rfl⟩ λb o n e=>?_
 .obtain⟨o,e⟩:=S6.dom hb;rw[e];exact a1 b o (λz=>na (z▸hb)) e
 .obtain⟨o,e⟩:=L6.dom hb;rw[e];exact a1 b o (λz=>nb (z▸hb)) e
 .rcases ow b hb with y|y
  .exact na (y▸z)
  .exact S6.out y z
 .rcases ow b hb with y|y
  .exact nb (y▸z)
  .exact L6.out y z
 .obtain⟨c1,c2,c3⟩:=k6 b o n e;refine⟨a1 b o n c1,λz=>?_⟩;rcases z with z|z|z
  .exact c2 z
  .exact c3 z
  .rcases ow b z with y|y
   .exact n y
   .rw[c1]at y;cases y
def oW (K:PySem.W.Frag) (t:Adr):Sp:=λvs H Q _=>∃(a:Addr) (F:Addr->Prop) (x:HSt),vs=[.ref a]/\HoA K t H a F x/\x.now+x.ma<40000/\
 ∀(H':Hp) (F':Addr->Prop) (r:Addr),HoA K t H' a F' {x with ma:=x.ma+1,di:=x.di++ [(r,[.str "mark",.int (x.ma+1)])]}->Fr F F' H H'->Q (.int (x.ma+1)) H'
theorem iq (T:Txt K mg t):FnOk P w K mg base CX0 1 t.i7 t.eY ["self"] (oW K t):=by
 refine T.CJ.okl oX λ_ _ _ s H vs Q E hr h=>?_;intro X;obtain⟨a,F,x,rfl,A,l1,q⟩:=h;refine ah (gR (pv 0) af ve)
   (ah (aS (dJ Qq QV QW d7 (ar (pv 0) rfl) (aa (bC (aa gh (aa (ar (pv 0) rfl) ag))) ag)))
   (aA (aD (ar (pv 0) rfl)) ?_))
 intros
 obtain⟨s,l,wr,p,h,Fs,Fl,B,O,g⟩:=A;obtain⟨dx,ho⟩:=B.o.ob;refine⟨_,rfl,a,_,dx,_,_,rfl,ho,T.aO,T.iw,BB,_,_,rfl,rfl,dx,_,ho,Cm,?_⟩;rw[Jn];have A1:=B.o.set (now:=x.now) (mk:=x.ma+1) (fl:=x.fl) (dx:=dx);have f1:Fr (Ow a wr p h x.pa) (Ow a wr p h x.pa) H (upd H a (.ins t.aL dx (hoF x.now x.fl s l wr (x.ma+1) p h))):=λb o n e=>⟨by rw[ae λz=>n (.inl z)];exact e,n⟩;generalize upd H a (.ins t.aL dx (hoF x.now x.fl s l wr (x.ma+1) p h))=H1 at A1 f1⊢;obtain⟨G,I⟩:=A1.ob;have dl:=O.dl;refine⟨_,rfl,a,_,G,_,_,rfl,I,T.aO,T.fE,BA,.inl ⟨rfl,_,SqL.of A1.wr⟩,?_⟩;refine⟨_,rfl,a,_,G,_,_,rfl,I,T.aO,T.iw,BB,(by show 2<=sizeLine;decide),λr nr=>?_⟩;have s2:=ai (o:= .tup [.str "mark",.int (x.ma+1)]) nr;have U:=A1.same s2;have f2:=f1.trans (Fr.of_same s2);have ht:upd H1 r (.tup [.str "mark",.int (x.ma+1)]) r=some (.tup [.str "mark",.int (x.ma+1)]):=ac;generalize upd H1 r (.tup [.str "mark",.int (x.ma+1)])=H2 at U f2 ht⊢;refine⟨wr,_,_,rfl,rfl,U.wr,br (by rw[Q0];show x.di.length<=_;lia),?_⟩;have Y:=U.row ht;have f3:Fr (Ow a wr p h x.pa) (Ow a wr p h x.pa) H (upd H2 wr (.lst (x.di.map (λe=>V.ref e.1)++ [.ref r]))):=λb o n e=>⟨by rw[ae λz=>n (.inr (.inl z))];exact(f2 b o n e).1,n⟩;generalize upd H2 wr (.lst (x.di.map (λe=>V.ref e.1)++ [.ref r]))=H3 at Y f3⊢;obtain⟨Z,a0⟩:=Y.ob;obtain⟨B3,f4⟩:=B.own Y rfl rfl f3;refine⟨_,rfl,a,_,Z,_,_,rfl,a0,T.aO,T.iw,BB,q H3 F r ⟨s,l,wr,p,h,Fs,Fl,B3,⟨O.ks,O.n0,?_,?_,O.pl,O.el,O.sl,O.hn,O.hv,O.fb,O.up⟩,g⟩ ?_⟩
 .have:=O.m0;show 0<=x.ma+1;lia
 .show((x.di++ [(r,_)]).length:Int)=x.now+(x.ma+1);rw[Qa,Z4];lia
 .exact λb o n e=>⟨(f4 b o (λz=>n ((g b).mpr z)) e).1,n⟩
theorem HoA.klen {x:HSt} (A:HoA K t H a F x):(x.ks.length:Int)<=x.now:=by
 obtain⟨s,l,w,p,h,Fs,Fl,B,O,_⟩:=A;obtain⟨L,A,ls,_,ok,e,_⟩:=B.lv;have nd:x.ks.Nodup:=by
  rw[<-e];exact List.Pairwise.imp (λh z=>by lia) ok.up
 have:=iu (S:=x.st.kv.map (·.1)) nd λz hz=>mem_keys.mpr ((O.ks z).mp hz);rw[Q0]at this;have:=O.sl;lia
theorem HOk.noted {x:HSt} {y:Mk1} (O:HOk x) (N:vG x.pa pa' k y):(pa'.length:Int)<=x.now+1/\∀j,((eS pa' j).length:Int)<=x.now+1:=by
 constructor
 .have h1:=O.pl;have h2:=congrArg List.length N.ky;rw[Q0]at h2;split at h2
  .rw[Q0]at h2;lia
  .rw[Qa,Q0,Z4]at h2;lia
 .intro j;rw[N.of];split
  .have:=O.el k;rw[Qa,Z4];lia
  .have:=O.el j;lia
theorem HOk.hv1 {x:HSt} (O:HOk x):∀p∈x.ho,x.fl<=p.1/\p.1<=x.now+1/\∃n:Int,p.2= .int n/\0<n:=λp z=>⟨(O.hv p z).1,by have:=(O.hv p z).2.1;lia,(O.hv p z).2.2⟩
theorem HOk.fb1 {x:HSt} (O:HOk x):0<=x.fl/\x.fl<=x.now+1:=⟨O.fb.1,by have:=O.fb.2;lia⟩
theorem HOk.up1 {x:HSt} {y:Mk1} (O:HOk x) (N:vG x.pa pa' k y) (e:y.mo=x.now+1):∀j,(eS pa' j).Pairwise (λa b=>a.mo<b.mo)/\∀z∈eS pa' j,z.mo<=x.now+1:=λj=>by
 rw[N.of];obtain⟨I,G⟩:=O.up k;split
 .refine⟨Qk.mpr ⟨I,Zb _ _,λa ha b hb=>?_⟩,λz hz=>?_⟩
  .rw[Q7.mp hb,e];have:=G a ha;lia
  .rcases Q5.mp hz with hz|hz
   .have:=G z hz;lia
   .rw[Q7.mp hz,e];exact Zt _
 .obtain⟨U,Y⟩:=O.up j;exact⟨U,λz hz=>by have:=Y z hz;lia⟩
def v8 (K:PySem.W.Frag) (t:Adr):Sp:=λvs H Q _=>∃(a:Addr) (k i:Int) (F:Addr->Prop) (x:HSt),vs=[.ref a,.int k,.int i]/\HoA K t H a F x/\0<=k/\x.now+x.ma<4000/\
 ∀(H':Hp) (F':Addr->Prop) (ks':List Int) (r q:Addr) (pa':List Pk),HoA K t H' a F' {x with now:=x.now+1,st:=x.st.put k (.int i),ks:=ks',di:=x.di++ [(r,[.str "put",.int k,.int i])],pa:=pa'}->vG x.pa pa' k ⟨q,x.now+1,.int i⟩->Fr F F' H H'->Q (.int (x.now+1)) H'
theorem wE (T:Txt K mg t):FnOk P w K mg base CX0 5 t.qH t.kQ ["self","key","value"] (v8 K t):=by
 refine T.Ia.okl wm λ_ _ _ s H vs Q E hr h=>?_;intro X;obtain⟨a,k,i,F,x,rfl,A,k0,l1,q⟩:=h;refine ah (aV (rp (eK (aR (ar (pv 0) rfl) T.aH T.yE (n8 T) hr.mo T.yX .nil az (aa (pv 1) ag))))
    (aB (aS (aR (ar (pv 0) rfl) T.aM T.Gm (uS T) hr.mo T.Gw .nil az (aa (pv 1) ag))))
    aI)
   (ah (aS (aR (ar (pv 0) rfl) T.aH T.Hn (wA T) hr.mo T.HL .nil az (aa (pv 1) (aa (pv 2) ag))))
   (aA (aD (aR (pv 0) T.aO T.wN (mr T) hr.mo T.wT .nil az (aa (bC (aa gh (aa (pv 1) (aa (pv 2) ag)))) (aa (pv 2) ag)))) ?_))
 intros
 have kl:=A.klen;obtain⟨s,l,wr,p,h,Fs,Fl,B,O,g⟩:=A;have n0:=O.n0;have m0:=O.m0;have sl:=O.sl;obtain⟨dx,ho⟩:=B.o.ob;obtain⟨ds,fs,hs,hm⟩:=B.sl.ins
 (try dsimp only)
 refine b6 (λσ H2=>∃(U G:Addr->Prop) (I:List Int),σ=[some (.ref a),some (.int k),some (.int i)]/\HoB K t H2 a s l wr p h U G {x with ks:=I}/\(∀z,z∈I↔z=k\/z∈x.ks)/\Fr (HoF a wr p h Fs Fl x.pa) (HoF a wr p h U G x.pa) H H2) (λnx go=>?_) (λσ H2 w=>?_)
 .refine⟨_,rfl,a,_,dx,_,_,rfl,ho,T.aO,T.cV,vf,s,ds,fs,rfl,hs,hm _ (by decide+kernel),_,rfl,s,k,Fs,x.st,rfl,B.sl,k0,λH1 a0 S1 f1=>?_⟩;obtain⟨B1,g1⟩:=B.slots S1 f1;obtain⟨a1,a2⟩:=B1.o.ob;obtain⟨dl,fl,hl,a3⟩:=B1.lv.ins;cases ev:(aP x.st.kv k).isSome with
  |true=>
   refine⟨_,rfl,bK (λc=>?_) (λ_=>?_)⟩
   .cases c
   .exact go _ _ ⟨a0,Fl,x.ks,rfl,B1,λz=>⟨.inr,λy=>y.elim (λy=>by rw[y];exact(O.ks k).mpr ev) id⟩,g1⟩
  |false=>
   have nk:k∉x.ks:=λz=>by have:=(O.ks k).mp z;rw[ev]at this;cases this
   refine⟨_,rfl,bK (λ_=>?_) (λc=>?_)⟩
   .refine⟨_,rfl,a,_,a1,_,_,rfl,a2,T.aO,T.gk,BC,l,dl,fl,rfl,hl,a3 _ (by decide+kernel),_,rfl,l,k,Fl,x.ks,rfl,B1.lv,by lia,λ_ H2 G I L2 mem f2=>?_,λz=>absurd z nk⟩;obtain⟨Z,g2⟩:=B1.leaves L2 f2;exact go _ _ ⟨a0,G,I,rfl,Z,mem,g1.trans g2⟩
   .exact absurd rfl c
 .obtain⟨U,G,I,rfl,Z,mem,g2⟩:=w;obtain⟨a4,a5⟩:=Z.o.ob;obtain⟨a7,ab,an,ap⟩:=Z.sl.ins;refine⟨_,rfl,a,_,a4,_,_,rfl,a5,T.aO,T.cV,vf,s,a7,ab,rfl,an,ap _ (by decide+kernel),_,rfl,_,rfl,s,k,i,U,x.st,rfl,Z.sl,k0,by lia,λH3 Y S3 f3=>?_⟩;obtain⟨B3,g3⟩:=Z.slots S3 f3;obtain⟨aw,ax⟩:=B3.o.ob;refine⟨_,rfl,a,aw,_,rfl,ax,Fp (by decide+kernel),_,rfl,_,rfl,(by show 3<=sizeLine;decide),λr nr=>?_⟩;have s4:=ai (o:= .tup [.str "put",.int k,.int i]) nr;have ht:upd H3 r (.tup [.str "put",.int k,.int i]) r=some (.tup [.str "put",.int k,.int i]):=ac;have B4:HoB K t (upd H3 r (.tup [.str "put",.int k,.int i])) a s l wr p h Y G _:=B3.keep (λb hb=>by
   obtain⟨o,e,_⟩:=B3.dom hb;rw[e];exact s4 _ _ e) λb xs e=>s4 _ _ e
  have g4:=(g2.trans g3).trans (Fr.of_same s4);generalize upd H3 r (.tup [.str "put",.int k,.int i])=H4 at B4 ht g4⊢;have dl:=O.dl;have pl:=O.pl;have el:=O.el k;refine⟨_,rfl,a,s,l,wr,p,h,r,k,_,.int i,_,rfl,B4.o,ht,rfl,by show x.di.length<50000;lia,by show x.pa.length<50000;lia,by show(eS x.pa k).length<50000;lia,λH5 pa' y O5 N f5=>?_⟩;obtain⟨B5,g5⟩:=B4.own O5 rfl rfl f5;obtain⟨N1,N2⟩:=O.noted N;have ek:(x.st.put k (.int i)).kv=bz x.st.kv k (.int i):=SSt.three_kv;refine q H5 (HoF a wr p h Y G pa') I r y pa' ⟨s,l,wr,p,h,Y,G,B5,⟨λz=>?_,by show 0<=x.now+1;lia,m0,?_,N1,N2,?_,O.hn,O.hv1,O.fb1,O.up1 N rfl⟩,λ_=>Iff.rfl⟩ N ?_
  .show z∈I↔(aP (x.st.put k (.int i)).kv z).isSome=true;rw[mem,ek,<-mem_keys,qh,O.ks];split
   .rename_i c
    rw[mem_keys];exact⟨λy=>y.elim (λy=>y▸c) id,.inr⟩
   .rw[Q5,Q7,mem_keys];exact⟨λy=>y.elim .inr .inl,λy=>y.elim .inr .inl⟩
  .show((x.di++ [(r,_)]).length:Int)=x.now+1+x.ma;rw[Qa,Z4];lia
  .show((x.st.put k (.int i)).kv.length:Int)<=x.now+1;rw[ek];have:=cn x.st.kv k (.int i);lia
  .exact λb o n e=>(g4.trans g5) b o (λz=>n ((g b).mpr z)) e
def uo (K:PySem.W.Frag) (t:Adr):Sp:=λvs H Q E=>∃(a:Addr) (k:Int) (F:Addr->Prop) (x:HSt),vs=[.ref a,.int k]/\HoA K t H a F x/\0<=k/\x.now+x.ma<4000/\
 ((aP x.st.kv k).isSome=true->∀(H':Hp) (F':Addr->Prop) (ks':List Int) (r q:Addr) (pa':List Pk),HoA K t H' a F' {x with now:=x.now+1,st:=x.st.drop k,ks:=ks',di:=x.di++ [(r,[.str "drop",.int k])],pa:=pa'}->vG x.pa pa' k ⟨q,x.now+1,.non⟩->Fr F F' H H'->Q (.int (x.now+1)) H')/\
 (aP x.st.kv k=none->False)
theorem uU (T:Txt K mg t):FnOk P w K mg base CX0 6 t.oO t.jC ["self","key"] (uo K t):=by
 refine T.GL.okl uC λ_ _ _ s H vs Q E Z h=>?_;intro X;obtain⟨a,k,F,x,rfl,A,k0,l1,q,qx⟩:=h;refine ah (aS (aR (ar (pv 0) rfl) T.aH T.Gj (uP T) Z.mo T.Gs .nil az (aa (pv 1) ag)))
   (ah (aS (aR (ar (pv 0) rfl) T.aM T.Cd (pf T) Z.mo T.CB .nil az (aa (pv 1) ag)))
   (aA (aD (aR (pv 0) T.aO T.wN (mr T) Z.mo T.wT .nil az (aa (bC (aa gh (aa (pv 1) ag))) (aa bg ag)))) ?_))
 intros
 have kl:=A.klen;obtain⟨s,l,wr,p,h,Fs,Fl,B,O,g⟩:=A;have n0:=O.n0;have m0:=O.m0;have sl:=O.sl;obtain⟨dx,ho⟩:=B.o.ob;obtain⟨ds,fs,hs,hm⟩:=B.sl.ins
 (try dsimp only)
 refine⟨_,rfl,a,_,dx,_,_,rfl,ho,T.aO,T.cV,vf,s,ds,fs,rfl,hs,hm _ (by decide+kernel),_,rfl,s,k,Fs,x.st,rfl,B.sl,k0,λev=>⟨by lia,λH1 G S1 f1=>?_⟩,λhn=>(qx hn).elim⟩
 .obtain⟨Y,g1⟩:=B.slots S1 f1;obtain⟨a0,a1⟩:=Y.o.ob;obtain⟨dl,fl,hl,a2⟩:=Y.lv.ins;refine⟨_,rfl,a,_,a0,_,_,rfl,a1,T.aO,T.gk,BC,l,dl,fl,rfl,hl,a2 _ (by decide+kernel),_,rfl,l,k,Fl,x.ks,rfl,Y.lv,by lia,λ_ H2 I U L2 mem f2=>?_,λz=>absurd ((O.ks k).mpr ev) z⟩;obtain⟨B3,g3⟩:=Y.leaves L2 f2;obtain⟨a3,a4⟩:=B3.o.ob;refine⟨_,rfl,a,a3,_,rfl,a4,Fp (by decide+kernel),_,rfl,(by show 2<=sizeLine;decide),λr nr=>?_⟩;have s4:=ai (o:= .tup [.str "drop",.int k]) nr;have ht:upd H2 r (.tup [.str "drop",.int k]) r=some (.tup [.str "drop",.int k]):=ac;have B4:HoB K t (upd H2 r (.tup [.str "drop",.int k])) a s l wr p h G I _:=B3.keep (λb hb=>by
   obtain⟨o,e,_⟩:=B3.dom hb;rw[e];exact s4 _ _ e) λb xs e=>s4 _ _ e
  have g4:=(g1.trans g3).trans (Fr.of_same s4);generalize upd H2 r (.tup [.str "drop",.int k])=H4 at B4 ht g4⊢;have dl:=O.dl;have pl:=O.pl;have el:=O.el k;refine⟨a,s,l,wr,p,h,r,k,_,.non,_,rfl,B4.o,ht,rfl,by show x.di.length<50000;lia,by show x.pa.length<50000;lia,by show(eS x.pa k).length<50000;lia,λH5 pa' y O5 N f5=>?_⟩;obtain⟨B5,g5⟩:=B4.own O5 rfl rfl f5;obtain⟨N1,N2⟩:=O.noted N;have ek:(x.st.drop k).kv=bW x.st.kv k:=SSt.three_kv;refine q ev H5 (HoF a wr p h G I pa') U r y pa' ⟨s,l,wr,p,h,G,I,B5,⟨λz=>?_,by show 0<=x.now+1;lia,m0,?_,N1,N2,?_,O.hn,O.hv1,O.fb1,O.up1 N rfl⟩,λ_=>Iff.rfl⟩ N ?_
  .show z∈U↔(aP (x.st.drop k).kv z).isSome=true;rw[mem,ek,fo,O.ks];by_cases c:z=k
   .rw[if_pos c];exact⟨λy=>absurd c y.1,λy=>by cases y⟩
   .rw[if_neg c];exact⟨λy=>y.2,λy=>⟨c,y⟩⟩
  .show((x.di++ [(r,_)]).length:Int)=x.now+1+x.ma;rw[Qa,Z4];lia
  .show((x.st.drop k).kv.length:Int)<=x.now+1;rw[ek];have:(bW x.st.kv k).length<=x.st.kv.length:=Qo _ _;lia
  .exact λb o n e=>(g4.trans g5) b o (λz=>n ((g b).mpr z)) e
theorem FP {f:α->V} {ms:List α} {g:Int} (h:0<=g):nS (ms.map f) (some g) none=(ms.drop g.toNat).map f:=by
 unfold nS HT.sIx;dsimp only;rw[if_neg (by lia),ZJ];rcases Nat.le_total g.toNat (ms.map f).length with c|c
 .rw[X0 c];exact Qt (by rw[QA];lia)
 .rw[XQ c,List.drop_of_length_le c,List.drop_of_length_le (Q4 _),Xb]
def sN (K:PySem.W.Frag) (t:Adr):Sp:=λvs H Q _=>∃(a:Addr) (lo:Int) (F:Addr->Prop) (x:HSt),vs=[.ref a,.int lo]/\HoA K t H a F x/\0<=lo/\
 ∀(H':Hp) (r:Addr),Same H H'->H r=none->H' r=some (.lst ((x.di.drop lo.toNat).map λe=>V.ref e.1))->Q (.ref r) H'
theorem gj (T:Txt K mg t):FnOk P w K mg base CX0 1 t.mZ t.eZ ["self","low"] (sN K t):=by
 refine T.Ge.ok sV (λvs H Q E h=>?_) (λG A outer s H vs Q E Y h=>?_)
 .obtain⟨a,lo,F,x,rfl,_⟩:=h;rfl
 .obtain⟨a,lo,F,x,rfl,A,I,q⟩:=h;refine⟨_,(aB (aD (eL gK (ar (pv 0) rfl) (fP (aF (nN rfl) (by rfl) T.Ec yR (aa (pv 1) (aa af ag)))) iT)))
   ,?_⟩
  obtain⟨s,l,wr,p,h,Fs,Fl,B,O,g⟩:=A;obtain⟨dx,U⟩:=B.o.ob;refine⟨_,rfl,a,_,dx,_,_,rfl,U,T.aO,T.fE,BA,?_⟩;have e0:(if(0:Int)>lo then(0:Int)else lo)=lo:=if_neg (by lia);refine⟨_,rfl,_,_,rfl,lo,by rw[e0],wr,_,rfl,SqL.of B.o.wr,λr z=>q _ r (ai z) z ?_⟩;rw[ac,FP I]
theorem HoA.di {x:HSt} (A:HoA K t H a F x):∀e∈x.di,H e.1=some (.tup e.2):=by
 obtain⟨s,l,wr,p,h,Fs,Fl,B,O,g⟩:=A;exact B.o.dr
def TkA (t:Adr) (H:Hp) (p:Addr) (up:Bool) (a e:V):Prop:=∃dx fs,H p=some (.ins (if up=true then t.dh else t.bY) dx fs)/\wU (if up=true then "up" else "down") fs a e/\if up=true then okU a e else okD a e
def sj (up:Bool) (a:V) (ks:List Int):List Int:=match up,a with
 |true,.int i=>ks.filter λz=>decide (i<=z)
 |false,.int i=>ks.reverse.filter (eh (some i))
 |_,_=>ks.reverse.filter (eh none)
def x9 (K:PySem.W.Frag) (t:Adr):Sp:=λvs H Q _=>∃(l p:Addr) (n:Int) (up:Bool) (a e:V) (F:Addr->Prop) (ks:List Int),vs=[.ref l,.ref p,.int n]/\LvA K t H l F ks/\TkA t H p up a e/\ks.length<4096/\0<=n/\
 ∀(H':Hp) (r:Addr),Same H H'->H r=none->H' r=some (.lst (((sj up a ks).take n.toNat).map V.int))->Q (.ref r) H'
theorem yx (T:Txt K mg t):FnOk P w K mg base CX0 3 t.sC t.mF ["leaves","token","most"] (x9 K t):=by
 refine T.Ar.okl yh λ_ _ _ s H vs Q E I h=>?_;intro X;obtain⟨l,p,n,up,a,e,F,ks,rfl,L,Y,l1,G,q⟩:=h;refine bV (λx=>aV (eK (aF (kT K rfl) (by rfl) T.gJ dM (aa (pv 1) (aa (cG (v:= .ref t.dh) (by rfl) T.E2 rfl) ag)))) x aI) ?_;refine aA (aD (aR (pv 0) T.aM T.Cc (pe T) I.mo T.CA .nil az (aa (ar (pv 1) rfl) (aa (pv 2) ag)))) ?_
 intros
 refine aA (aD (aR (pv 0) T.aM T.Ax (mq T) I.mo T.AC .nil az (aa (ar (pv 1) rfl) (aa (pv 2) ag)))) ?_
 intros
 obtain⟨dx,fs,z,O,ok⟩:=Y;obtain⟨dl,fl,hl,U⟩:=L.ins;cases up with
 |true=>
  have z:H p=some (.ins t.dh dx fs):=z;obtain⟨i,rfl,i0,_⟩:=(show okU a e from ok);exact⟨_,rfl,_,_,_,_,rfl,TyOf.ins z T.gB T.lF.1 T.lF.2 T.lF.3 T.lF.4,T.Fk,_,rfl,db ⟨_,rfl,l,dl,fl,rfl,hl,U _ (by decide+kernel),_,rfl,p,_,dx,fs,_,rfl,z,T.gB,T.qa,O.at_,_,rfl,l,i,n,F,ks,rfl,L,l1,G,q⟩⟩
 |false=>
  have z:H p=some (.ins t.bY dx fs):=z;obtain⟨j,rfl,Z,ha⟩:=(show okD a e from ok);refine⟨_,rfl,_,_,_,_,rfl,TyOf.ins z T.b9 T.eB.1 T.eB.2 T.eB.3 T.eB.4,T.By,_,rfl,cM ⟨_,rfl,l,dl,fl,rfl,hl,U _ (by decide+kernel),_,rfl,p,_,dx,fs,_,rfl,z,T.b9,T.iy,O.at_,_,rfl,?_⟩⟩;rcases ha with rfl|⟨i,rfl,_⟩
  .exact⟨l,none,n,F,ks,rfl,L,l1,G,q⟩
  .exact⟨l,some i,n,F,ks,rfl,L,l1,G,q⟩
def sI (t:Adr):Sp:=λvs H Q _=>∃(p:Addr) (up:Bool) (a e:V) (k:Int),vs=[.ref p,.int k]/\TkA t H p up a e/\(if up=true then okU (.int (k+1)) e else okD (.int (k-1)) e)/\
 ∀(H':Hp) (r:Addr),Same H H'->H r=none->TkA t H' r up (.int (if up=true then k+1 else k-1)) e->Q (.ref r) H'
theorem sY (T:Txt K mg t):FnOk P w K mg base CX0 5 t.mT t.iB ["token","key"] (sI t):=by
 refine T.vI.okl sR λ_ _ _ s H vs Q E hr h=>?_;intro X;obtain⟨p,up,a,e,k,rfl,TK,G,q⟩:=h;refine bV (λx=>aV (eK (aF (kT K rfl) (by rfl) T.gJ dM (aa (pv 0) (aa (cG (v:= .ref t.dh) (by rfl) T.E2 rfl) ag)))) x aI) ?_;refine aA (aD (iU T.KN (si T) hr.mo (by rfl) T.E2 T.BI .nil az (aa (al bp (pv 1) af) (aa (ar (pv 0) rfl) ag)))) ?_
 intros
 refine aA (aD (iU T.Hj (oe T) hr.mo (by rfl) T.Hk T.yY .nil az (aa (al io (pv 1) af) (aa (ar (pv 0) rfl) ag)))) ?_
 intros
 obtain⟨dx,fs,I,tf,ok⟩:=TK;have kp:∀{H1 H':Hp} {r:Addr},Same H H1->H r=none->Keep r H1 H'->Same H H':=λs n k b o e=>k b o (s b o e) λz=>by rw[z,n]at e;cases e
 cases up with
 |true=>
  have I:H p=some (.ins t.dh dx fs):=I;have G:okU (.int (k+1)) e:=G;have se:Sc e:=by
   obtain⟨_,_,_,he|⟨j,he,_⟩⟩:=G
   .rw[he];exact True.intro
   .rw[he];exact T0 _
  refine⟨_,rfl,_,_,_,_,rfl,TyOf.ins I T.gB T.lF.1 T.lF.2 T.lF.3 T.lF.4,T.Fk,_,rfl,db ⟨_,rfl,_,_,rfl,rfl,_,rfl,p,_,dx,fs,_,rfl,I,T.gB,T.jL,tf.end_,λr Z O nd a0=>⟨r,Z,_,_,rfl,ac,T0 _,se,λ_ H' fs' U h' Y=>⟨rfl,?_⟩,λz=>absurd G z⟩⟩⟩;exact q H' r (kp (bP (ai nd) O) O U) O ⟨Z,fs',h',Y,G⟩
 |false=>
  have I:H p=some (.ins t.bY dx fs):=I;have G:okD (.int (k-1)) e:=G;have se:Sc e:=by
   obtain⟨_,he,_⟩:=G;rw[he];exact T0 _
  refine⟨_,rfl,_,_,_,_,rfl,TyOf.ins I T.b9 T.eB.1 T.eB.2 T.eB.3 T.eB.4,T.By,_,rfl,cM ⟨_,rfl,_,_,rfl,rfl,_,rfl,p,_,dx,fs,_,rfl,I,T.b9,T.iW,tf.end_,λr Z O nd a0=>⟨r,Z,_,_,rfl,ac,T0 _,se,λ_ H' fs' U h' Y=>⟨rfl,?_⟩,λz=>absurd G z⟩⟩⟩;exact q H' r (kp (bP (ai nd) O) O U) O ⟨Z,fs',h',Y,G⟩
def hK (up:Bool):V->V->Int->Bool:=if up=true then hU else hD
def b3 (up:Bool) (a e:V) (ks:List Int):List Int:=(if up=true then ks else ks.reverse).filter (hK up a e)
theorem iP {α:Type} {h:α->Bool}:∀{xs:List α} {n:Nat},xs.Pairwise (λx y=>h y=true->h x=true)->(xs.take n).filter h=(xs.filter h).take n
 | [],n,_=>by rw[Xb,List.filter_nil,Xb]
 |x::r,0,_=>rfl
 |x::r,n+1,w=>by
  obtain⟨I,G⟩:=Z5.mp w;rw[Xw];by_cases c:h x=true
  .rw[List.filter_cons_of_pos c,List.filter_cons_of_pos c,Xw,iP G]
  .have z:r.filter h=[]:=ZR.mpr λy hy O=>c (I y hy O);rw[List.filter_cons_of_neg c,List.filter_cons_of_neg c,iP G,z,Xb,Xb]
theorem Dd {a e:V} {n:Nat} (ok:if up=true then okU a e else okD a e) (r:cN ks):((sj up a ks).take n).filter (hK up a e)=(b3 up a e ks).take n:=by
 cases up with
 |true=>
  obtain⟨i,rfl,i0,he⟩:=(show okU a e from ok);have q:∀z,hU (.int i) e z=true->decide (i<=z)=true:=λz hz=>by
   rcases he with rfl|⟨j,rfl,_⟩
   .exact hz
   .exact(QE.mp hz).1
  show((ks.filter λz=>decide (i<=z)).take n).filter (hU (.int i) e)=(ks.filter (hU (.int i) e)).take n;rw[iP,List.filter_filter]
  .congr 1;refine XI λz _=>?_;cases c:hU (.int i) e z with
   |true=>rw[q z c];rfl
   |false=>rfl
  .have I:(ks.filter λz=>decide (i<=z)).Pairwise (· < ·):=List.Pairwise.filter _ r;refine List.Pairwise.imp_of_mem (λ{x y} hx hy lt G=>?_) I;have hx:=(QH.mp hx).2;rcases he with rfl|⟨j,rfl,_⟩
   .exact hx
   .refine QE.mpr ⟨hx,decide_eq_true ?_⟩;have:=of_decide_eq_true (QE.mp G).2;lia
 |false=>
  obtain⟨j,rfl,Z,ha⟩:=(show okD a e from ok);have U:ks.reverse.Pairwise (λx y=>y<x):=Xn.mpr r;obtain⟨k,Y,O⟩:∃k,sj false a ks=ks.reverse.filter (eh k)/\∀z,hD a (.int j) z=(decide (j<=z)&&eh k z):=by
   rcases ha with rfl|⟨i,rfl,_⟩
   .exact⟨none,rfl,λz=>(Bool.and_true _).symm⟩
   .exact⟨some i,rfl,λz=>rfl⟩
  rw[Y];show((ks.reverse.filter (eh k)).take n).filter (hD a (.int j))=(ks.reverse.filter (hD a (.int j))).take n;rw[iP,List.filter_filter]
  .congr 1;refine XI λz _=>?_;rw[O];cases eh k z<;>cases decide (j<=z)<;>rfl
  .have I:(ks.reverse.filter (eh k)).Pairwise (λx y=>y<x):=List.Pairwise.filter _ U;refine List.Pairwise.imp_of_mem (λ{x y} hx hy lt G=>?_) I;have hx:=(QH.mp hx).2;rw[O]at G⊢;refine QE.mpr ⟨decide_eq_true ?_,hx⟩;have:=of_decide_eq_true (QE.mp G).1;lia
theorem C6 {a e:V} {k':Int} (ok:if up=true then okU a e else okD a e) (r:cN ks) (h:(b3 up a e ks)[i]?=some k) (h':(b3 up a e ks)[i+1]?=some k'):if up=true then okU (.int (k+1)) e else okD (.int (k-1)) e:=by
 obtain⟨hi,G⟩:=Q2.mp h;obtain⟨hi',z⟩:=Q2.mp h';have m:=(QH.mp (G▸Zh hi:k∈b3 up a e ks)).2;have m':=(QH.mp (z▸Zh hi':k'∈b3 up a e ks)).2;cases up with
 |true=>
  obtain⟨i,rfl,i0,he⟩:=(show okU a e from ok);have lt:k<k':=by
   have:=(Z3.mp (List.Pairwise.filter (hU (.int i) e) r)) _ _ hi hi' (Zw _);rw[<-G,<-z];exact this
  have m:hU (.int i) e k=true:=m;have m':hU (.int i) e k'=true:=m';rcases he with rfl|⟨j,rfl,_⟩
  .have:=of_decide_eq_true m;exact⟨k+1,rfl,by lia,.inl rfl⟩
  .have:=of_decide_eq_true (QE.mp m).1;have:=of_decide_eq_true (QE.mp m').2;exact⟨k+1,rfl,by lia,.inr ⟨j,rfl,by lia⟩⟩
 |false=>
  obtain⟨j,rfl,I,ha⟩:=(show okD a e from ok);have O:ks.reverse.Pairwise (λx y=>y<x):=Xn.mpr r;have lt:k'<k:=by
   have:=(Z3.mp (List.Pairwise.filter (hD a (.int j)) O)) _ _ hi hi' (Zw _);rw[<-G,<-z];exact this
  have m':hD a (.int j) k'=true:=m';have:j<=k':=by
   rcases ha with rfl|⟨i,rfl,_⟩
   .exact of_decide_eq_true m'
   .exact of_decide_eq_true (QE.mp m').1
  exact⟨j,rfl,I,.inr ⟨k-1,rfl,by lia⟩⟩
def NxK (t:Adr) (H H':Hp) (p:Addr) (up:Bool) (e:V) (hs:List Int) (m:Nat) (v:V):Prop:=if hs.length<=m then v= .non else if m=0 then v= .ref p else ∃(q:Addr) (k:Int),hs[m-1]?=some k/\v= .ref q/\H q=none/\TkA t H' q up (.int (if up=true then k+1 else k-1)) e
theorem Cl {xs:List Int} {x:V} (h:(xs.map V.int)[i]?=some x):∃k:Int,x= .int k/\xs[i]?=some k:=by
 rw[Qn]at h;cases e:xs[i]? with
 |none=>rw[e]at h;cases h
 |some k=>rw[e]at h;cases h;exact⟨k,rfl,rfl⟩
theorem xB {P:Int->Bool} {xs:List Int} (e:xs[i]?=some k):(xs.take (i+1)).filter P=(xs.take i).filter P++(if P k=true then[k]else[]):=by
 rw[Qr,e,QB];by_cases c:P k=true
 .rw[if_pos c];simp[c]
 .rw[if_neg c];simp[c]
theorem FD (P:Int->Bool) (xs:List Int) (i:Nat):((xs.take i).filter P).length<=xs.length:=by
 have h1:=Qo P (xs.take i);have h2:(xs.take i).length<=xs.length:=by rw[Q8];lia
 lia
theorem TkA.same {a e:V} (h:TkA t H p up a e) (s:Same H H'):TkA t H' p up a e:=by
 obtain⟨dx,fs,z,r⟩:=h;exact⟨dx,fs,s _ _ z,r⟩
theorem TkA.ok {a e:V} (h:TkA t H p up a e):if up=true then okU a e else okD a e:=by
 obtain⟨dx,fs,z,G,ok⟩:=h;exact ok
theorem EV {a:V} {z:Int} (h:z∈sj up a ks):z∈ks:=by
 unfold sj at h;split at h
 .exact(QH.mp h).1
 .exact ZG.mp (QH.mp h).1
 .exact ZG.mp (QH.mp h).1
theorem EW {a:V}:(sj up a ks).length<=ks.length:=by
 unfold sj;split
 .exact Qo _ _
 .exact QD (Qo _ _) (Zq Z1)
 .exact QD (Qo _ _) (Zq Z1)
theorem dHK:DOr (D1 t.dh (c7 t)) (D1 t.bY (cc t)) (if up=true then t.dh else t.bY) (if up=true then c7 t else cc t):=by
 cases up
 .exact .inr ⟨rfl,rfl⟩
 .exact .inl ⟨rfl,rfl⟩
theorem Hz {a e:V} {E:XK} (h:H p=some (.ins (if up=true then t.dh else t.bY) dx fs)) (f:wU (if up=true then "up" else "down") fs a e) (ok:if up=true then okU a e else okD a e) (z:0<=k)
  (q:∀H',Same H H'->Q (.bl (hK up a e k)) H'):(if up=true then c7 t else cc t) [.ref p,.int k] H Q E:=by
 cases up
 .exact⟨p,dx,fs,a,e,k,rfl,h,f,ok,z,q⟩
 .exact⟨p,dx,fs,a,e,k,rfl,h,f,ok,z,q⟩
def sJ (K:PySem.W.Frag) (t:Adr):Sp:=λvs H Q _=>∃(l p:Addr) (n:Int) (up:Bool) (a e:V) (F:Addr->Prop) (ks:List Int),vs=[.ref l,.ref p,.int n]/\LvA K t H l F ks/\TkA t H p up a e/\ks.length<4096/\(∀k∈ks,0<=k)/\
 ∀(H':Hp) (r g:Addr) (v:V),Same H H'->H r=none->H g=none->H' r=some (.tup [.ref g,v])->H' g=some (.lst (((b3 up a e ks).take n.toNat).map V.int))->NxK t H H' p up e (b3 up a e ks) n.toNat v->Q (.ref r) H'
theorem tj (T:Txt K mg t):FnOk P w K mg base CX0 6 t.mV t.iD ["leaves","token","many"] (sJ K t):=by
 refine T.vL.okl sc_keys_of_page λ_ _ _ s H vs Q E hr h=>?_;intro X;obtain⟨l,p,n,up,a,e,F,ks,rfl,L,TK,l1,k0,q⟩:=h;refine ah (ay (i:=3) sc_keys_of_page.nd rfl (Or.inl rfl) (aF (nN rfl) (by rfl) T.Ec yR (aa (pv 2) (aa af ag))))
   (ah (EI (i:=4) rfl (CScope.of (M:=["key"]) (N:=["leaves","token","many","most","held","page"]) (N':=["leaves","token","many","most","held","page"]) (dsc:=aj eE) rfl rfl (by decide+kernel)) (c8 (aN (yx T) hr.mo (by rfl) T.Iy T.Ar.kp T.IG .nil az (aa (pv 0) (aa (pv 1) (aa (al bp (pv 3) af) ag))))) (λ_ _ _ _ _=>(eK (pY (kk:=1) (gN (b4 T.gB T.my (gL T) T.mO (by decide)) (b4 T.b9 T.jp (eP T) T.jF (by decide))) hr.mo (pv 2) (aa (pv 0) ag)))) (λ_ _ _ _ _=>(pv 0)) sc_keys_of_page.nd rfl rfl)
   (ah (ay (i:=5) sc_keys_of_page.nd rfl (Or.inl rfl) (eL gK (pv 4) iT (fP (pv 3))))
   (ah (aV (ao bN (aF aE (by rfl) T.bO bh (aa (pv 4) ag)) (aF aE (by rfl) T.bO bh (aa (pv 5) ag)) (aq _))
    (aB (aD (bC (aa (pv 5) (aa bg ag)))))
    aI)
   (ah (aV (ao bN (aF aE (by rfl) T.bO bh (aa (pv 5) ag)) af (aq _))
    (aB (aD (bC (aa (pv 5) (aa (pv 1) ag)))))
    aI)
   (aA (aD (bC (aa (pv 5) (aa (aN (sY T) hr.mo (by rfl) T.E8 T.vI.kp T.FS .nil az (aa (pv 1) (aa (aX aW (pv 5) (EK AN af) (λ_ _=>rfl)) ag))) ag)))) ?_)))))
 intros
 have RK:=L.rise;refine⟨_,rfl,n,0,rfl,?_⟩;obtain⟨m,em⟩:∃m:Nat,n.toNat=m:=⟨_,rfl⟩;have e0:(if(0:Int)>n then(0:Int)else n)=(m:Int):=by
  rw[<-em];split<;>lia
 rw[e0];rw[em]at q;have ok:=TK.ok;refine⟨_,rfl,_,rfl,_,rfl,_,_,rfl,rfl,l,p,(m:Int)+1,up,a,e,F,ks,rfl,L,TK,l1,by lia,λH1 g1 s1 a4 h1=>?_⟩;rw[show((m:Int)+1).toNat=m+1 by lia]at h1;obtain⟨ns,U⟩:∃ns,(sj up a ks).take (m+1)=ns:=⟨_,rfl⟩;have fl:=Dd (n:=m+1) ok RK;rw[U]at h1 fl;have nl:ns.length<=4096:=by
  rw[<-U];have h1:=EW (up:=up) (a:=a) (ks:=ks);rw[Q8];lia
 have n0:∀z∈ns,0<=z:=λz hz=>k0 z (EV (QY (U▸hz)));refine⟨g1,rfl,⟨_,SqL.of h1⟩,λD hD=>?_⟩;refine kS (K:=K) (a:=g1) (xs:=ns.map V.int) (λi ys H2=>Same H1 H2/\ys=((ns.take i).filter (hK up a e)).map V.int) ⟨ai hD,rfl⟩ (λi ys H2 _ w=>SqL.of (w.1 _ _ h1)) (λi x ys H2 hx w G=>?_) (λys H2 w G=>?_)
 .obtain⟨s2,ey⟩:=w;have hi:i<(ns.map V.int).length:=(Q2.mp hx).1;obtain⟨g,rfl,eg⟩:=Cl hx;obtain⟨dx,fs,hp,tf,_⟩:=TK.same (s1.trans s2);have a5:=FD (hK up a e) ns i;refine⟨_,rfl,p,_,dx,fs,_,rfl,hp,tf.ho,dHK,_,rfl,Hz hp tf ok (n0 g (Q1 eg)) λH3 s3=>⟨_,rfl,?_⟩⟩;by_cases c:hK up a e g=true
  .rw[c];refine db ⟨_,rfl,CNext.mk hi (s3 _ _ G) (br (by rw[ey,Q0];lia)) ⟨bP (s2.trans s3) hD,?_⟩⟩;rw[ey,xB eg,if_pos c,Qc];rfl
  .rw[QP.mpr c];refine cM (CSkip.mk hi (s3 _ _ G) ⟨s2.trans s3,?_⟩);rw[ey,xB eg,if_neg c,ZL]
 obtain⟨s2,ey⟩:=w;rw[ey,Q0,QF,fl]at G;clear ey h1 U fl nl n0;have Y:=s1.trans s2;obtain⟨hs,Z⟩:∃hs,b3 up a e ks=hs:=⟨_,rfl⟩;rw[Z]at G q;refine⟨_,rfl,_,rfl,(m:Int),rfl,D,_,rfl,SqL.of G,λg ng=>?_⟩;rw[mN (Xx m),<-Z7,show((m:Int)).toNat=m by lia,List.take_take,X0 (Zx m)];have a0:H g=none:=de Y ng;have O:upd H2 g (.lst ((hs.take m).map V.int)) g=some (.lst ((hs.take m).map V.int)):=ac;have a1:upd H2 g (.lst ((hs.take m).map V.int)) D=some (.lst ((hs.take (m+1)).map V.int)):=by rw[ae (ak G ng)];exact G
 have s3:=Y.trans (ai (o:= .lst ((hs.take m).map V.int)) ng);generalize upd H2 g (.lst ((hs.take m).map V.int))=H3 at O a1 s3⊢;clear G ng s2 Y s1 hD;refine⟨_,rfl,D,_,rfl,.inl (SqL.of a1),_,rfl,g,_,rfl,.inl (SqL.of O),rfl,_,rfl,?_⟩;by_cases c:hs.length<=m
 .refine fX ?_ ⟨_,rfl,(by show 2<=sizeLine;decide),λr I=>?_⟩
  .rw[Qt (by lia),Qt c]
  .refine q _ r g .non (s3.trans (ai I)) (de s3 I) a0 ac (by rw[ae (ak O I)];exact O) ?_;unfold NxK;rw[if_pos c]
 refine bf ?_ ?_
 .intro z;have z:=V.int.inj z;rw[Q0,Q0,Q8,Q8]at z;lia
 refine⟨_,rfl,g,_,rfl,.inl (SqL.of O),rfl,_,rfl,?_⟩;by_cases d:m=0
 .refine fX ?_ ⟨_,rfl,_,rfl,(by show 2<=sizeLine;decide),λr I=>?_⟩
  .rw[d];rfl
  .refine q _ r g (.ref p) (s3.trans (ai I)) (de s3 I) a0 ac (by rw[ae (ak O I)];exact O) ?_;unfold NxK;rw[if_neg c,if_pos d]
 refine bf ?_ ?_
 .intro z;have z:=V.int.inj z;rw[Q0,Q8]at z;lia
 obtain⟨k,ek⟩:∃k,hs[m-1]?=some k:=⟨_,Q3 (by lia)⟩;obtain⟨k',a2⟩:∃k',hs[m-1+1]?=some k':=⟨_,Q3 (by lia)⟩;have ob:=C6 ok RK (Z▸ek) (Z▸a2);refine⟨_,rfl,_,rfl,_,rfl,_,rfl,g,_,_,.int k,rfl,rfl,SqL.of O,?_,p,up,a,e,k,rfl,TK.same s3,ob,λH4 b s4 nb a3=>⟨(by show 2<=sizeLine;decide),λr I=>?_⟩⟩
 .refine CC (λz=>?_) ?_
  .have:=congrArg List.length z;rw[Q8]at this;have:([]:List Int).length=0:=rfl;lia
  .rw[Q8,X0 (by lia),X9 (by lia)];exact ek
 refine q _ r g (.ref b) ((s3.trans s4).trans (ai I)) (de (s3.trans s4) I) a0 ac (by rw[ae (ak (s4 _ _ O) I)];exact s4 _ _ O) ?_;unfold NxK;rw[if_neg c,if_neg d];exact⟨b,k,ek,rfl,de s3 nb,a3.same (ai I)⟩
def v9 (K:PySem.W.Frag) (t:Adr):Sp:=λvs H Q _=>∃(a:Addr) (k:Int) (v:V) (F:Addr->Prop) (x:HSt),vs=[.ref a,.int k]/\HoA K t H a F x/\0<=k/\aP x.st.kv k=some v/\∀H' F',HoA K t H' a F' x->Fr F F' H H'->Q v H'
theorem wF (T:Txt K mg t):FnOk P w K mg base CX0 5 t.qI t.kR ["self","key"] (v9 K t):=by
 refine T.Ib.okl wn λ_ _ _ s H vs Q E Y h=>?_;intro X;obtain⟨a,k,v,F,x,rfl,A,k0,U,q⟩:=h;refine⟨_,(aB (aD (aR (ar (pv 0) rfl) T.aH T.Ho (wB T) Y.mo T.HM .nil az (aa (pv 1) ag))))
  ,?_⟩
 obtain⟨s,l,wr,p,h,Fs,Fl,B,O,g⟩:=A;obtain⟨dx,Z⟩:=B.o.ob;obtain⟨ds,fs,hs,hm⟩:=B.sl.ins;refine⟨_,rfl,a,_,dx,_,_,rfl,Z,T.aO,T.cV,vf,s,ds,fs,rfl,hs,hm _ (by decide+kernel),_,rfl,s,k,Fs,x.st,rfl,B.sl,k0,λv' G H1 I S1 f1=>?_,λz=>by rw[U]at z;cases z⟩;rw[U]at G;cases G;obtain⟨B1,g1⟩:=B.slots S1 f1;exact q H1 (HoF a wr p h I Fl x.pa) ⟨s,l,wr,p,h,I,Fl,B1,O,λ_=>Iff.rfl⟩ λb o n e=>g1 b o (λz=>n ((g b).mpr z)) e
def NxH (t:Adr) (H H':Hp) (F':Addr->Prop) (p:Addr) (up:Bool) (e:V) (hs:List Int) (m:Nat) (v:V):Prop:=if hs.length<=m then v= .non else if m=0 then v= .ref p else ∃(q:Addr) (k:Int),hs[m-1]?=some k/\v= .ref q/\H q=none/\¬F' q/\TkA t H' q up (.int (if up=true then k+1 else k-1)) e
def Jf (K:PySem.W.Frag) (t:Adr) (more:List V):Sp:=λvs H Q _=>∃(a p:Addr) (n:Int) (up:Bool) (av e:V) (F:Addr->Prop) (x:HSt),vs=[.ref a,.ref p,.int n]++more/\HoA K t H a F x/\TkA t H p up av e/\¬F p/\x.ks.length<4096/\(∀k∈x.ks,0<=k)/\
 ∀(H':Hp) (F':Addr->Prop) (r g:Addr) (v:V) (ts:List Tp),HoA K t H' a F' x->Fr F F' H H'->PgA H H' F F' r g v ts->ts.map (·.k)=(b3 up av e x.ks).take n.toNat->(∀e∈ts,aP x.st.kv e.k=some e.v)->NxH t H H' F' p up e (b3 up av e x.ks) n.toNat v->Q (.ref r) H'
def kW (K:PySem.W.Frag) (t:Adr):Sp:=Jf K t []
theorem HoA.lvs {x:HSt} (A:HoA K t H a F x):∃(dx:Addr) (fs:List (Str×V)) (l:Addr) (Fl:Addr->Prop),H a=some (.ins t.aL dx fs)/\fs.lookup ("leaves":Str)=some (.ref l)/\LvA K t H l Fl x.ks:=by
 obtain⟨s,l,wr,p,h,Fs,Fl,B,O,g⟩:=A;obtain⟨dx,z⟩:=B.o.ob;exact⟨dx,_,l,Fl,z,BC,B.lv⟩
theorem Fu {a e:V} {z:Int} (h:z∈b3 up a e ks):z∈ks:=by
 have h:=(QH.mp h).1;cases up
 .exact ZG.mp h
 .exact h
theorem Fv {a e:V}:(b3 up a e ks).length<=ks.length:=by
 refine QD (Qo _ _) ?_;cases up
 .exact Zq Z1
 .exact Q4 _
theorem sZ (T:Txt K mg t):FnOk P w K mg base CX0 7 t.mU t.iC ["house","token","many"] (kW K t):=by
 refine T.vK.okl sc_page_by_keys λ_ _ _ s H vs Q E hr h=>?_;intro X;obtain⟨a,p,n,up,av,e,F,x,rfl,A,TK,np,l1,k0,q⟩:=h;refine ah (ay (i:=3) sc_page_by_keys.nd rfl (Or.inl rfl) (aN (tj T) hr.mo (by rfl) T.Fa T.vL.kp T.FU .nil az (aa (ar (pv 0) rfl) (aa (pv 1) (aa (pv 2) ag)))))
   (aA (aD (bC (aa (iV rfl (CScope.of (M:=["key"]) (N:=["house","token","many","page"]) (N':=["house","token","many","page"]) (dsc:=aj eD) rfl rfl (by decide+kernel)) (c8 (aX bX (pv 3) af (λ_ _=>rfl))) (λ_ _ _ _ _=>(bC (aa (pv 0) (aa (aR (pv 1) T.aO T.Hs (wF T) hr.mo T.HR .nil az (aa (pv 0) ag)) ag))))) (aa (aX bX (pv 3) af (λ_ _=>rfl)) ag)))) ?_)
 intros
 obtain⟨dx,fs,l,Fl,ho,hl,L⟩:=A.lvs;refine⟨_,rfl,a,_,dx,fs,_,rfl,ho,T.aO,T.gk,hl,_,rfl,_,rfl,l,p,n,up,av,e,Fl,x.ks,rfl,L,TK,l1,k0,λH1 r1 g1 v s1 a4 a5 a1 U nx=>?_⟩;have A1:=A.same s1;have f1:Fr F F H H1:=Fr.of_same s1;clear TK;obtain⟨pk,Y⟩:∃pk,(b3 up av e x.ks).take n.toNat=pk:=⟨_,rfl⟩;have pm:∀z∈pk,z∈x.ks:=λz hz=>Fu (QY (Y▸hz));have pl:pk.length<=4096:=by
  have:=Fv (up:=up) (a:=av) (e:=e) (ks:=x.ks);rw[<-Y,Q8];lia
 rw[Y]at U q;refine⟨_,rfl,r1,_,_,_,rfl,rfl,SqT.of a1,rfl,g1,rfl,⟨_,SqL.of U⟩,λD hD=>?_⟩;refine jR (K:=K) (a:=g1) (xs:=pk.map V.int) (λi ys H2=>∃(G:Addr->Prop) (ts:List Tp),HoA K t H2 a G x/\Fr F G H1 H2/\¬G D/\ys=ts.map (λe=>V.ref e.p)/\ts.map (·.k)=pk.take i/\∀e∈ts,H2 e.p=some (.tup [.int e.k,e.v])/\¬G e.p/\aP x.st.kv e.k=some e.v) ⟨F,[],A1.same (ai hD),Fr.of_same (ai hD),A1.out hD,rfl,rfl,λe he=>absurd he QT⟩ (λi ys H2 _ w=>?_) (λi y ys H2 hy w I=>?_) (λys H2 w I=>?_)
 .obtain⟨G,ts,A2,O,_⟩:=w;exact SqL.of (O _ _ (A.out a5) U).1
 .obtain⟨G,ts,A2,O,nD,ey,Z,tu⟩:=w;have hi:i<(pk.map V.int).length:=(Q2.mp hy).1;obtain⟨k,rfl,hk⟩:=Cl hy;have km:=pm k (Q1 hk);obtain⟨v2,a2⟩:=X8.mp ((A1.ok.ks k).mp km);obtain⟨d2,a7,ab,an,_⟩:=A2.ins;refine⟨_,rfl,_,rfl,a,d2,a7,rfl,ab,an _ (by decide+kernel),_,rfl,a,k,v2,G,x,rfl,A2,k0 k km,a2,λH3 F3 A3 f3=>⟨(by show 2<=sizeLine;decide),λb nb=>?_⟩⟩;obtain⟨ap,a3⟩:=f3 _ _ nD I;have sb:Same H3 (upd H3 b (.tup [.int k,v2])):=ai nb;have hb:upd H3 b (.tup [.int k,v2]) b=some (.tup [.int k,v2]):=ac;generalize upd H3 b (.tup [.int k,v2])=H4 at sb hb⊢;have A4:=A3.same sb;have aw:=A3.out nb;have f4:Fr F F3 H1 H4:=O.trans (f3.trans (Fr.of_same sb));have a0:=sb _ _ ap;have tl:ts.length<=4096:=by
   have:=congrArg List.length Z;rw[Q0,Q8]at this;lia
  refine CNext.mk hi a0 (br (by rw[ey,Q0];lia)) ⟨F3,ts++ [⟨b,k,v2⟩],A4.upd a3 (λxs z=>by rw[a0]at z;cases z),λc o n e=>⟨by rw[ae (ak e hD)];exact(f4 c o n e).1,(f4 c o n e).2⟩,a3,by rw[ey,Qc];rfl,by rw[Qc,Z,Qr,hk];rfl,λe he=>?_⟩;have key:H4 e.p=some (.tup [.int e.k,e.v])/\¬F3 e.p/\aP x.st.kv e.k=some e.v:=by
   rcases Q5.mp he with he|he
   .obtain⟨t1,t2,t3⟩:=tu e he;obtain⟨t4,t5⟩:=f3 _ _ t2 t1;exact⟨sb _ _ t4,t5,t3⟩
   .rw[Q7.mp he];exact⟨hb,aw,a2⟩
  refine⟨?_,key.2⟩;rw[ae (λz=>by rw[z,a0]at key;cases key.1)];exact key.1
 obtain⟨G,ts,A2,O,nD,ey,Z,tu⟩:=w;rw[ey]at I;rw[Q0,QF]at Z;have ax:=O _ _ (A.out a4) a1;refine⟨_,rfl,r1,_,_,_,rfl,rfl,SqT.of ax.1,rfl,(by show 2<=sizeLine;decide),λr nr=>?_⟩;have s3:Same H2 (upd H2 r (.tup [.ref D,v])):=ai nr;have hr:upd H2 r (.tup [.ref D,v]) r=some (.tup [.ref D,v]):=ac;have nF:=A2.out nr;generalize upd H2 r (.tup [.ref D,v])=H3 at s3 hr⊢;have f3:Fr F G H H3:=f1.trans (O.trans (Fr.of_same s3));refine q H3 G r D v ts (A2.same s3) f3 ⟨hr,s3 _ _ I,λe he=>⟨s3 _ _ (tu e he).1,(tu e he).2.1⟩,⟨λz=>?_,nF⟩,⟨λ_=>de s1 hD,nD⟩⟩ Z (λe he=>(tu e he).2.2) ?_
 .cases eo:H r with
  |none=>rfl
  |some o=>rw[((f1.trans O) _ _ z eo).1]at nr;cases nr
 .unfold NxK at nx;unfold NxH;by_cases c:(b3 up av e x.ks).length<=n.toNat
  .rw[if_pos c]at nx⊢;exact nx
  .rw[if_neg c]at nx⊢;by_cases d:n.toNat=0
   .rw[if_pos d]at nx⊢;exact nx
   .rw[if_neg d]at nx⊢;obtain⟨b,k,Z,ev,nb,dy,fy,hy,ry⟩:=nx;obtain⟨h2,n2⟩:=O _ _ (A.out nb) hy;exact⟨b,k,Z,ev,nb,n2,dy,fy,s3 _ _ h2,ry⟩
def vN (W j r:Int):Int:=if j<(r/W+1)*W then j else(r/W+1)*W
def a6 (W j i:Int):Nat->Int
 |0=>i
 |n+1=>vN W j (a6 W j i n)
theorem Ev {j r:Int} (z:0<W) (h:r<j):r<vN W j r/\vN W j r<=j:=by
 have:=X1 r z;unfold vN;split<;>lia
theorem pV {W j i:Int} (G:0<W) (h:i<=j):∀n:Nat,(∀x<n,a6 W j i x<j)->i<=a6 W j i n/\a6 W j i n<=j/\(0<n->vN W j i<=a6 W j i n)
 |0,_=>⟨Zt _,h,λz=>absurd z (by decide)⟩
 |n+1,w=>by
  obtain⟨a,b,c⟩:=pV G h n λx hx=>w x (by lia);obtain⟨d,e⟩:=Ev G (w n (by lia));refine⟨show i<=vN W j (a6 W j i n) by lia,e,λ_=>?_⟩;cases n with
  |zero=>exact Zt _
  |succ m=>exact Int.le_trans (c (by lia)) (XD d)
structure RwS (st:SSt) (lo hi:Int) (ps:List (Int×V)):Prop where
 so:ps.Pairwise rA
 me:∀k v,(k,v)∈ps↔(k,v)∈st.kv/\lo<=plc k/\plc k<hi
theorem RwS.app (h:RwS st lo m ps) (g:RwS st m hi qs) (l1:lo<=m) (l2:m<=hi):RwS st lo hi (ps++qs):=by
 refine⟨Qk.mpr ⟨h.so,g.so,λx hx y hy=> .inl ?_⟩,λk v=>?_⟩
 .have a:=((h.me x.1 x.2).mp hx).2;have b:=((g.me y.1 y.2).mp hy).2;lia
 .rw[Q5,h.me,g.me];constructor
  .rintro (⟨x,y,z⟩|⟨x,y,z⟩)
   .exact⟨x,y,by lia⟩
   .exact⟨x,by lia,z⟩
  .rintro ⟨x,y,z⟩;by_cases d:plc k<m
   .exact .inl ⟨x,y,d⟩
   .exact .inr ⟨x,by lia,z⟩
theorem RwS.uniq (h:RwS st lo hi ps) (g:RwS st lo hi qs):ps=qs:=by
 have nd:∀{l:List (Int×V)},l.Pairwise rA->l.Nodup:=λw=>w.imp λ{a b} z e=>by
  rw[e]at z;unfold rA at z;lia
 refine List.Perm.eq_of_pairwise (λx y _ _ h1 h2=>?_) h.so g.so ((List.perm_ext_iff_of_nodup (nd h.so) (nd g.so)).mpr λx=>(h.me x.1 x.2).trans (g.me x.1 x.2).symm);unfold rA at h1 h2;lia
theorem RwS.len (h:RwS st lo hi ps):ps.length<=st.kv.length:=by
 refine iu (h.so.imp λ{a b} z e=>?_) λx hx=>((h.me x.1 x.2).mp hx).1;rw[e]at z;unfold rA at z;lia
structure PgS (st:SSt) (i j n:Int) (m:Nat) (ps:List (Int×V)):Prop where
 rw:RwS st i (a6 (65536/st.low) j i m) ps
 go:∀x<m,a6 (65536/st.low) j i x<j
 le:∀x,0<x->x<m->∀qs,RwS st i (a6 (65536/st.low) j i x) qs->(qs.length:Int)<n/\(x:Int)<4*n
 st:a6 (65536/st.low) j i m=j\/(0<m/\(n<=ps.length\/4*n<=m))
def TkS (t:Adr) (H:Hp) (p:Addr) (i j:Int):Prop:=∃(dx:Addr) (fs:List (Str×V)),H p=some (.ins t.aU dx fs)/\wU "slots" fs (.int i) (.int j)/\0<=i/\i<=j/\j<=65536
theorem TkS.fr {i j:Int} (h:TkS t H p i j) (n:¬F p) (f:Fr F F' H H'):TkS t H' p i j/\¬F' p:=by
 obtain⟨dx,fs,z,r⟩:=h;exact⟨⟨dx,fs,(f _ _ n z).1,r⟩,(f _ _ n z).2⟩
def NxS (t:Adr) (H H':Hp) (F F':Addr->Prop) (r j:Int) (v:V):Prop:=if r=j then v= .non else ∃q:Addr,v= .ref q/\(¬F q->H q=none)/\¬F' q/\TkS t H' q r j
def qQ (K:PySem.W.Frag) (t:Adr):Sp:=λvs H Q _=>∃(a p:Addr) (n i j:Int) (F:Addr->Prop) (st:SSt),vs=[.ref a,.ref p,.int n]/\SlA K t H a F st/\TkS t H p i j/\¬F p/\1<=n/\n<=1000/\st.kv.length<4096/\(∀p∈st.kv,∃i:Int,p.2= .int i)/\
 ∀(H':Hp) (F':Addr->Prop) (r g:Addr) (v:V) (ts:List Tp) (m:Nat),SlA K t H' a F' st->Fr F F' H H'->PgA H H' F F' r g v ts->PgS st i j n m (ts.map Tp.kv)->NxS t H H' F F' (a6 (65536/st.low) j i m) j v->Q (.ref r) H'
structure WkS (K:PySem.W.Frag) (t:Adr) (H H':Hp) (a p l:Addr) (F F':Addr->Prop) (st:SSt) (i j:Int) (m:Nat) (ts:List Tp):Prop where
 sl:SlA K t H' a F' st
 fr:Fr F F' H H'
 tk:TkS t H' p i j
 np:¬F' p
 ol:¬F' l
 li:H' l=some (.lst (ts.map λe=>V.ref e.p))
 tu:∀e∈ts,H' e.p=some (.tup [.int e.k,e.v])/\¬F' e.p
 rw:RwS st i (a6 (65536/st.low) j i m) (ts.map Tp.kv)
 go:∀x<m,a6 (65536/st.low) j i x<j
theorem WkS.move {H1:Hp} {l:Addr} {F1:Addr->Prop} {i j:Int} {m:Nat} (h:WkS K t H H' a p l F F' st i j m ts) (s1:SlA K t H1 a F1 st) (z:Fr F' F1 H' H1):WkS K t H H1 a p l F F1 st i j m ts:=
 ⟨s1,h.fr.trans z,(h.tk.fr h.np z).1,(h.tk.fr h.np z).2,(z _ _ h.ol h.li).2,(z _ _ h.ol h.li).1,λe he=>z _ _ (h.tu e he).2 (h.tu e he).1,h.rw,h.go⟩
theorem rC (T:Txt K mg t):FnOk P w K mg base CX0 5 t.kX t.gr ["slots","token","many"] (qQ K t):=by
 obtain⟨I,G⟩:=T.g_STRETCHES_A_KEY;refine T.tM.okl sc_page_by_slots λ_ _ _ s H vs Q E hr h=>?_;intro X;obtain⟨a,p,n,i,j,F,st,rfl,hA,TK,np,n1,n2,l4,iv,q⟩:=h;refine ah (ay (i:=3) sc_page_by_slots.nd rfl (Or.inl rfl) (bT ag))
   (ah (ay (i:=4) sc_page_by_slots.nd rfl (Or.inl rfl) (ar (pv 1) rfl))
   (ah (ay (i:=5) sc_page_by_slots.nd rfl (Or.inl rfl) af)
   (bV (λx=>(lY PassesOwn.never (ao dZ (pv 4) (ar (pv 1) rfl) (aq _))
    x)) ?_)))
 refine ah (ay (i:=6) sc_page_by_slots.nd rfl (Or.inl rfl) (aF (nM rfl) (by rfl) T.ze rY (aa (aR (pv 0) T.aH T.wK (mf T) hr.mo T.wQ .nil az (aa (pv 4) ag)) (aa (ar (pv 1) rfl) ag))))
   (ah (aS (dJ Qq ZH ZI nC (pv 3) (aa (aR (pv 0) T.aH T.Gi (uN T) hr.mo T.Gq .nil az (aa (pv 4) (aa (pv 6) ag))) ag)))
   (ah (ay (i:=4) sc_page_by_slots.nd rfl (Or.inl rfl) (pv 6))
   (ah (Bh (i:=5) sc_page_by_slots.nd rfl (Or.inl rfl) af Fn)
   (aA (aV (PW.pt (ie (ao xn (aF aE (by rfl) T.bO bh (aa (pv 3) ag)) (pv 2) (aq _)) (fA (ao xn (pv 5) (al dA (cG (v:= .int 4) (by rfl) G ⟨_,rfl⟩) (pv 2)) (aq _)))))
    (aB EJ)
    aI) ?_))))
 intros
 refine ah (aV (ao bN (pv 4) (ar (pv 1) rfl) (aq _))
    (aB (aD (bC (aa (pv 3) (aa bg ag)))))
    aI)
   (aA (aD (bC (aa (pv 3) (aa (iU T.Bq (jK T) hr.mo (by rfl) T.uY T.tK .nil az (aa (pv 4) (aa (ar (pv 1) rfl) ag))) ag)))) ?_)
 intros
 have z:SzOk st:=let⟨_,_,_,_,_,z⟩:=hA;z
 obtain⟨s4,Z⟩:=bS (jq z);obtain⟨_,_,R⟩:=yp (jq z);have W0:=R.wpos';obtain⟨dx,fs,O,tf,i0,ij,j1⟩:=id TK;refine⟨Qj _,λl nl=>?_⟩;have W1:WkS K t H (upd H l (.lst [])) a p l F F st i j 0 []:=⟨hA.new nl,Fr.of_same (ai nl),⟨dx,fs,by rw[ae (ak O nl)];exact O,tf,i0,ij,j1⟩,np,hA.out nl,ac,(λe he=>by cases he),⟨List.Pairwise.nil,λk v=>⟨λh=>by(cases h),λh=>by have:=h.2;simp only[a6]at this;lia⟩⟩,λx hx=>absurd hx (XV x)⟩;refine⟨_,rfl,p,_,dx,fs,_,rfl,by rw[ae (ak O nl)];exact O,T.bE,T.jo,tf.at_,?_⟩
 (try dsimp only)
 generalize upd H l (.lst [])=H1 at W1⊢;clear O tf dx fs;show zl (Ep _ _) _ _ _ H1;refine b6 (λσ H'=>∃(F':Addr->Prop) (m:Nat) (ts:List Tp) (Y:Option V),σ=[some (.ref a),some (.ref p),some (.int n),some (.ref l),some (.int (a6 (65536/st.low) j i m)),some (.int m),Y]/\WkS K t H H' a p l F F' st i j m ts/\PgS st i j n m (ts.map Tp.kv)) (λnx go=>?_) (λσ H2 w=>?_)
 .refine⟨λmm σ H'=>∃(F':Addr->Prop) (m:Nat) (ts:List Tp) (Y:Option V),mm=(j-a6 (65536/st.low) j i m).toNat/\σ=[some (.ref a),some (.ref p),some (.int n),some (.ref l),some (.int (a6 (65536/st.low) j i m)),some (.int m),Y]/\WkS K t H H' a p l F F' st i j m ts/\(∀x,0<x->x<=m->∀qs,RwS st i (a6 (65536/st.low) j i x) qs->(qs.length:Int)<n/\(x:Int)<4*n),⟨_,F,0,[],none,rfl,rfl,W1,λx x0 xm=>absurd x0 (by lia)⟩,λmm σ H' w=>?_⟩;obtain⟨F',m,ts,Y,rfl,a7,w,lt⟩:=w;subst a7;obtain⟨dx,fs,O,tf,_⟩:=id w.tk;obtain⟨r0,r1,_⟩:=pV W0 ij m w.go;refine⟨_,rfl,_,rfl,p,_,dx,fs,_,rfl,O,T.bE,T.cm,tf.end_,_,_,rfl,rfl,_,rfl,bK (λc=>?_) (λc=>?_)⟩
  .have c:=of_decide_eq_true c;obtain⟨r2,r3⟩:=Ev W0 c;refine⟨λa2 H2=>∃(F2:Addr->Prop) (a0:List Tp) (Y:Option V),a2=[some (.ref a),some (.ref p),some (.int n),some (.ref l),some (.int (a6 (65536/st.low) j i (m+1))),some (.int (m+1:Nat)),Y]/\WkS K t H H2 a p l F F2 st i j (m+1) a0/\(a0.length:Int)<n/\((m+1:Nat):Int)<4*n,λa2 H2 g=>?_,?_⟩
   .obtain⟨F2,a0,Y,e,w2,b1,b2⟩:=g;refine⟨_,?_,F2,m+1,a0,Y,rfl,e,w2,λx x0 xm qs hq=>?_⟩
    .show(j-vN (65536/st.low) j (a6 (65536/st.low) j i m)).toNat<_;lia
    .rcases Xy xm with xm|rfl
     .exact lt x x0 (by lia) qs hq
     .rw[hq.uniq w2.rw,Q0];exact⟨b1,b2⟩
   obtain⟨ab,an,ap,aw⟩:=w.sl.ins;refine⟨_,rfl,a,ab,an,rfl,ap,aw _ (by decide+kernel),_,rfl,a,_,F',st,rfl,w.sl,by lia,by lia,λH2 F2 s2 f2=>?_⟩;have w2:=w.move s2 f2;obtain⟨ax,b5,b8,b9,_⟩:=id w2.tk;refine⟨_,rfl,p,_,ax,b5,_,rfl,b8,T.bE,T.cm,b9.end_,_,_,rfl,?_⟩
   (try dsimp only)
   change mE 6 (V.int (a6 (65536/st.low) j i (m+1))) _ _ _;obtain⟨ba,bb,be,bl⟩:=w2.sl.ins;refine⟨_,rfl,.inl ⟨rfl,_,SqL.of w2.li⟩,_,rfl,a,ba,bb,rfl,be,bl _ (by decide+kernel),_,rfl,_,rfl,a,_,_,F2,st,rfl,w2.sl,l4,iv,λH3 F3 l1 ts1 s3 f3 o3 n3 e3 u3 bo bt=>?_⟩;have U:=w2.move s3 f3;have a1:RwS st i (a6 (65536/st.low) j i (m+1)) ((ts++ts1).map Tp.kv):=by
    rw[Qc];exact U.rw.app ⟨bo,bt⟩ r0 (XD r2)
   have ln:=a1.len;rw[Q0,Qa]at ln;have a3:∀{p:Addr} {xs:List V},H3 p=some (.tup xs)->p≠l:=λ{p xs} e z=>by rw[z,U.li]at e;cases e
   have w4:WkS K t H (upd H3 l (.lst (ts.map (λe=>V.ref e.p)++ts1.map (λe=>V.ref e.p)))) a p l F F3 st i j (m+1) (ts++ts1):=by
    refine⟨U.sl.upd U.ol,U.fr.upd_new λ_=>nl,?_,U.np,U.ol,by rw[ac,Qc],λe he=>?_,a1,λx hx=>?_⟩
    .obtain⟨dx,fs,O,r⟩:=U.tk;exact⟨dx,fs,by rw[ae λz=>by rw[z,U.li]at O;cases O];exact O,r⟩
    .rcases Q5.mp he with he|he
     .exact⟨by rw[ae (a3 (U.tu e he).1)];exact(U.tu e he).1,(U.tu e he).2⟩
     .exact⟨by rw[ae (a3 (u3 e he).1)];exact(u3 e he).1,(u3 e he).2⟩
    .rcases Xy (Nat.le_of_lt_succ hx)with hx|rfl
     .exact w.go x hx
     .exact c
   refine⟨l,l1,_,_,rfl,rfl,U.li,e3,by rw[Q0,Q0];exact Zp (br (by lia)),?_⟩
   (try dsimp only)
   generalize upd H3 l (.lst (ts.map (λe=>V.ref e.p)++ts1.map (λe=>V.ref e.p)))=H4 at w4⊢;have pg:(n<=((ts++ts1).length:Int)\/4*n<=((m+1:Nat):Int))->PgS st i j n (m+1) ((ts++ts1).map Tp.kv):=λo=>⟨a1,w4.go,λx x0 xm=>lt x x0 (by lia),.inr ⟨Nat.succ_pos m,by rw[Q0];exact o⟩⟩;refine⟨_,rfl,_,rfl,_,_,rfl,rfl,?_⟩
   (try dsimp only)
   have em:((m:Int)+1)=((m+1:Nat):Int):=by lia
   rw[em];refine⟨_,rfl,l,_,rfl,.inl (SqL.of w4.li),_,rfl,_,_,rfl,rfl,_,rfl,bK (λc1=>?_) (λc1=>?_)⟩
   .have c1:=of_decide_eq_true c1;rw[Q0]at c1;exact db (go _ _ ⟨F3,m+1,ts++ts1,_,rfl,w4,pg (.inl c1)⟩)
   refine⟨_,rfl,_,rfl,_,_,rfl,rfl,.inl ⟨by decide,by decide⟩,_,_,rfl,rfl,_,rfl,bK (λc2=>?_) (λc2=>?_)⟩
   .exact go _ _ ⟨F3,m+1,ts++ts1,_,rfl,w4,pg (.inr (of_decide_eq_true c2))⟩
   .have c1:¬n<=(((ts++ts1).map λe=>V.ref e.p).length:Int):=λy=>c1 (decide_eq_true y);have c2:¬4*n<=((m+1:Nat):Int):=λy=>c2 (decide_eq_true y);rw[Q0]at c1;exact⟨F3,ts++ts1,_,rfl,w4,by lia,by lia⟩
  .have c:¬a6 (65536/st.low) j i m<j:=λy=>c (decide_eq_true y);exact go _ _ ⟨F',m,ts,Y,rfl,w,w.rw,w.go,λx x0 xm=>lt x x0 (by lia),.inl (by lia)⟩
 obtain⟨F2,m,ts,Y,rfl,w,pg⟩:=w;obtain⟨r0,r1,_⟩:=pV W0 ij m w.go;obtain⟨dx,fs,O,tf,_⟩:=id w.tk;refine⟨_,rfl,_,rfl,p,_,dx,fs,_,rfl,O,T.bE,T.cm,tf.end_,rfl,_,rfl,bK (λc=>?_) (λc=>?_)⟩
 .have c:a6 (65536/st.low) j i m=j:=V.int.inj (of_decide_eq_true c);refine⟨_,rfl,(by show 2<=sizeLine;decide),λr nr=>?_⟩;have Z:=ai (o:= .tup [.ref l,.non]) nr;refine q _ F2 r l .non ts m (w.sl.new nr) (w.fr.trans (Fr.of_same Z)) ⟨ac,Z _ _ w.li,λe he=>⟨Z _ _ (w.tu e he).1,(w.tu e he).2⟩,⟨λnF=>qk w.fr nF nr,w.sl.out nr⟩,⟨λ_=>nl,w.ol⟩⟩ pg ?_;unfold NxS;rw[if_pos c]
 .have c:¬a6 (65536/st.low) j i m=j:=λz=>c (decide_eq_true (by rw[z]));have ok:okS (.int (a6 (65536/st.low) j i m)) (.int j):=⟨_,_,rfl,rfl,by lia,by lia,j1⟩;refine⟨_,rfl,_,rfl,_,rfl,p,_,dx,fs,_,rfl,O,T.bE,T.cm,tf.end_,λx dr nx nd bw=>?_⟩;refine⟨x,dr,_,_,rfl,ac,T0 _,T0 _,λ_ H' fs' a4 h' bv=>⟨rfl,(by show 2<=sizeLine;decide),λr nr=>?_⟩,λz=>absurd ok z⟩;have Z:Same H2 (upd H' r (.tup [.ref l,.ref x])):=(qY nx nd a4).trans (ai nr);have a5:H2 r=none:=de (qY nx nd a4) nr;have xr:x≠r:=λz=>by rw[z,nr]at h';cases h'
  refine q _ F2 r l (.ref x) ts m (w.sl.same Z) (w.fr.trans (Fr.of_same Z)) ⟨ac,Z _ _ w.li,λe he=>⟨Z _ _ (w.tu e he).1,(w.tu e he).2⟩,⟨λnF=>qk w.fr nF a5,w.sl.out a5⟩,⟨λ_=>nl,w.ol⟩⟩ pg ?_;unfold NxS;rw[if_neg c];exact⟨x,rfl,λnF=>qk w.fr nF nx,w.sl.out nx,dr,fs',by rw[ae xr];exact h',bv,by lia,by lia,j1⟩
theorem HoB.newb {s l w h:Addr} {Fs Fs' Fl:Addr->Prop} {x:HSt} (B:HoB K t H a s l w p h Fs Fl x) (n:¬Fs b->H b=none) (n':¬Fs' b):¬HoF a w p h Fs' Fl x.pa b:=λz=>by
 rcases z with z|z|z
 .exact n' z
 .obtain⟨o,e⟩:=B.lv.dom z;rw[n λy=>B.a1 b y z]at e;cases e
 .obtain⟨o,e,_⟩:=B.o.dom z;rw[n (B.a2 b z)]at e;cases e
def inI:V->Int
 | .int i=>i|_=>0
def Tell (st:SSt) (ks:List Int) (kd n:Int) (av e:V) (ps:List (Int×V)) (r:Option V):Prop:=
 (kd=0/\∃m,PgS st (inI av) (inI e) n m ps/\r=if a6 (65536/st.low) (inI e) (inI av) m=inI e then none else some (.int (a6 (65536/st.low) (inI e) (inI av) m)))\/
 ∃up:Bool,kd=(if up=true then 1 else 2)/\ps.map (·.1)=(b3 up av e ks).take n.toNat/\(∀p∈ps,aP st.kv p.1=some p.2)/\r=if(b3 up av e ks).length<=n.toNat then none else((b3 up av e ks)[n.toNat-1]?).map λk=> .int (if up=true then k+1 else k-1)
theorem EA {i r:Int} (h:RwS st i r ps) (h':RwS st i r qs):ps=qs:=by
 have as:∀a b,rA a b->¬rA b a:=λa b x y=>by
  unfold rA at x y;lia
 have sub:∀{l m:List (Int×V)},l.Pairwise rA->m.Pairwise rA->(∀x,x∈l↔x∈m)->l=m:=by
  intro l
  induction l with
  |nil=>
   intro m _ _ h;cases m with
   |nil=>rfl
   |cons b m=>exact absurd ((h b).mpr Q9) QT
  |cons a l O=>
   intro m h1 h2 h;cases m with
   |nil=>exact absurd ((h a).mp Q9) QT
   |cons b m=>
    obtain⟨G,U⟩:=Z5.mp h1;obtain⟨p2,Y⟩:=Z5.mp h2;have e:a=b:=by
     rcases Qg.mp ((h a).mp Q9)with c|c
     .exact c
     .rcases Qg.mp ((h b).mpr Q9)with c2|c2
      .exact c2.symm
      .exact absurd (G b c2) (as _ _ (p2 a c))
    subst e;have I:∀{x:Int×V},¬rA x x:=λ{x} y=>as x x y y;rw[O U Y λx=>⟨λhx=>((Qg.mp ((h x).mp (Qd _ hx))).resolve_left λz=>I (z▸G x hx)),λhx=>((Qg.mp ((h x).mpr (Qd _ hx))).resolve_left λz=>I (z▸p2 x hx))⟩]
 exact sub h.so h'.so λx=>(h.me x.1 x.2).trans (h'.me x.1 x.2).symm
theorem Tell.uniq {kd:Int} {e:V} {r r':Option V} (h:Tell st ks kd n av e ps r) (h':Tell st ks kd n av e qs r'):ps=qs/\r=r':=by
 rcases h with⟨k0,m,g,U⟩|⟨up,Y,e1,v1,U⟩<;>rcases h' with⟨Z,m',g',O⟩|⟨up',I,a0,a1,O⟩
 .have lt:∀{m m':Nat} {ps qs:List (Int×V)},PgS st (inI av) (inI e) n m ps->PgS st (inI av) (inI e) n m' qs->¬m<m':=λ{m m' ps qs} g g' l=>by
   have h1:=g'.go m l;rcases g.st with z|⟨z,y⟩
   .lia
   .have:=g'.le m z l ps g.rw;lia
  have em:m=m':=by
   have h1:=lt g g';have h2:=lt g' g;lia
  subst em;exact⟨EA g.rw g'.rw,U.trans O.symm⟩
 .rw[k0]at I;cases up'<;>cases I
 .rw[Z]at Y;cases up<;>cases Y
 .have eu:up=up':=by
   rw[Y]at I;cases up<;>cases up'<;>first|rfl|cases I
  subst eu;refine⟨?_,U.trans O.symm⟩;have ek:=e1.trans a0.symm;refine List.ext_getElem? λj=>?_;have G:=congrArg (λl:List Int=>l[j]?) ek;rw[Qn,Qn]at G;cases c1:ps[j]? with
  |none=>rw[c1]at G;cases c2:qs[j]? with
   |none=>rfl
   |some y=>rw[c2]at G;cases G
  |some x=>
   rw[c1]at G;cases c2:qs[j]? with
   |none=>rw[c2]at G;cases G
   |some y=>
    rw[c2]at G;have G:x.1=y.1:=Option.some.inj G;have h1:=v1 x (Q1 c1);have h2:=a1 y (Q1 c2);rw[G,h2]at h1;rw[show x=y from Prod.ext G (Option.some.inj h1).symm]
structure AskU (t:Adr) (H':Hp) (F':Addr->Prop) (st:SSt) (kd n:Int) (av e v:V) (ts:List Tp) (a':V) (R:Int->Bool):Prop where
 rest:(v= .non/\R=λ_=>false)\/∃q:Addr,v= .ref q/\TkAt t H' q kd a' e/\okN kd a' e/\¬F' q/\R=hN kd a' e/\(kd=0->inI av<=inI a')
 less:∀k,0<=k->R k=true->hN kd av e k=true
 nd:(ts.map (·.k)).Nodup
 me:∀k v,(k,v)∈ts.map Tp.kv↔(k,v)∈st.kv/\hN kd av e k=true/\R k=false
 tell:∀ks,cN ks->(∀z,z∈ks↔(aP st.kv z).isSome=true)->Tell st ks kd n av e (ts.map Tp.kv) (if v= .non then none else some a')
 far:v= .non\/n<=ts.length\/(kd=0/\inI av/(65536/st.low)+4*n<=inI a'/(65536/st.low))
theorem xg {W j i:Int} (z:0<W):∀m:Nat,(∀x≤m,a6 W j i x≠j)->a6 W j i m/W=i/W+m
 |0,_=>(Int.add_zero _).symm
 |m+1,h=>by
  have G:=xg z m λx hx=>h x (by lia);have e:a6 W j i (m+1)=(a6 W j i m/W+1)*W:=by
   have:=h (m+1) (Q4 _);show vN W j (a6 W j i m)=_;change vN W j (a6 W j i m)≠j at this;unfold vN at this⊢;split
   .rw[if_pos (by assumption)]at this;exact absurd rfl this
   .rfl
  rw[e,Int.mul_ediv_cancel _ (QR z),G];lia
theorem yK {i j:Int}:hN 0 (.int i) (.int j) k=true↔i<=plc k/\plc k<j:=by
 show(decide (i<=tz (k%65536))&&decide (tz (k%65536)<j))=true↔_;rw[QK,decide_eq_true_eq,decide_eq_true_eq];exact Iff.rfl
theorem BK {i j:Int} {m:Nat} (I:0<65536/st.low) (i0:0<=i) (U:i<=j) (g:PgS st i j n m (ts.map Tp.kv)) (x:NxS t H H' F F' (a6 (65536/st.low) j i m) j v):∃a' R,AskU t H' F' st 0 n (.int i) (.int j) v ts a' R:=by
 obtain⟨r1,r2,_⟩:=pV I U m g.go;have nd:(ts.map (·.k)).Nodup:=by
  refine QO.mpr ((QO.mp g.rw.so).imp λ{a b} h e=>?_);have h:plc a.k<plc b.k\/(plc a.k=plc b.k/\a.k<b.k):=h;rw[e]at h;lia
 unfold NxS at x;by_cases G:a6 (65536/st.low) j i m=j
 .rw[if_pos G]at x;refine⟨.non,λ_=>false,.inl ⟨x,rfl⟩,λk _ h=>absurd h Qi,nd,λk v=>?_,(λks _ _=> .inl ⟨rfl,m,g,by rw[if_pos x];exact(if_pos G).symm⟩),.inl x⟩;rw[g.rw.me,G,yK];exact⟨λh=>⟨h.1,h.2,rfl⟩,λh=>⟨h.1,h.2.1⟩⟩
 .rw[if_neg G]at x;obtain⟨q,O,_,Y,dx,fs,hq,Z,q0,q1,q2⟩:=x;refine⟨_,hN 0 (.int (a6 (65536/st.low) j i m)) (.int j),.inr ⟨q,O,⟨dx,fs,hq,Z⟩,.inl ⟨rfl,_,_,rfl,rfl,q0,q1,q2⟩,Y,rfl,λ_=>r1⟩,λk _ h=>?_,nd,λk v=>?_,(λks _ _=> .inl ⟨rfl,m,g,by rw[if_neg λz=>by rw[O]at z;cases z];exact(if_neg G).symm⟩),?_⟩
  .rw[yK]at h⊢;lia
  .rw[g.rw.me,yK,<-Bool.not_eq_true,yK];constructor
   .rintro ⟨h1,h2,h3⟩;exact⟨h1,⟨h2,by lia⟩,by lia⟩
   .rintro ⟨h1,⟨h2,h3⟩,h4⟩;exact⟨h1,h2,by lia⟩
  .rcases g.st with z|⟨_,z|z⟩
   .exact absurd z G
   .rw[Q0]at z;exact .inr (.inl z)
   .refine .inr (.inr ⟨rfl,?_⟩);have ne:∀x≤m,a6 (65536/st.low) j i x≠j:=λx hx=>by
     rcases Xy hx with h|rfl
     .have:=g.go x h;lia
     .exact G
    show i/(65536/st.low)+4*n<=a6 (65536/st.low) j i m/(65536/st.low);rw[xg I m ne];lia
def wt (up:Bool) (x y:Int):Prop:=if up=true then x<y else y<x
theorem Ft {a e:V} (r:cN ks):(b3 up a e ks).Pairwise (wt up):=by
 unfold b3 wt;cases up
 .exact List.Pairwise.filter _ (Xn.mpr r)
 .exact List.Pairwise.filter _ r
theorem held_iff {a e:V} {z:Int}:z∈b3 up a e ks↔z∈ks/\hK up a e z=true:=by
 unfold b3;rw[QH];cases up
 .rw[if_neg Qi,ZG]
 .rw[if_pos rfl]
theorem Em {m:Nat} {z:Int} (r:l.Pairwise (wt up)) (h:l[m-1]?=some k) (I:1<=m):z∈l.take m↔z∈l/\(z=k\/wt up z k):=by
 have w:=Z3.mp r;obtain⟨hk,G⟩:=Q2.mp h;have as:∀{x y:Int},wt up x y->¬(y=x\/wt up y x):=λ{x y} h1 h2=>by
  unfold wt at h1 h2;cases up
  .rw[if_neg Qi]at h1 h2;lia
  .rw[if_pos rfl]at h1 h2;lia
 constructor
 .intro hz;obtain⟨i,hi,e⟩:=Qz hz;rw[Q8]at hi;rw[Zs]at e;refine⟨QY hz,?_⟩;rcases Nat.lt_or_ge i (m-1)with c|c
  .have:=w i (m-1) (by lia) hk c;rw[e,G]at this;exact .inr this
  .have:i=m-1:=by lia
   subst this;exact .inl (e.symm.trans G)
 .rintro ⟨hz,o⟩;obtain⟨i,hi,rfl⟩:=Qz hz;rcases Nat.lt_or_ge i m with c|c
  .exact List.mem_take_iff_getElem.mpr ⟨i,by lia,rfl⟩
  .have:=w (m-1) i hk hi (by lia);rw[G]at this;exact absurd o (as this)
theorem IV {a e:V} (h:TkA t H p up a e):TkAt t H p (if up=true then 1 else 2) a e/\okN (if up=true then 1 else 2) a e:=by
 obtain⟨dx,fs,z,G,ok⟩:=h;cases up
 .exact⟨⟨dx,fs,z,G⟩,.inr (.inr ⟨rfl,ok⟩)⟩
 .exact⟨⟨dx,fs,z,G⟩,.inr (.inl ⟨rfl,ok⟩)⟩
theorem JR:hN (if up=true then 1 else 2)=hK up:=by cases up<;>rfl
theorem vt {a e:V} {z:Int} (ok:if up=true then okU a e else okD a e) (hk:hK up a e k=true):hK up (.int (if up=true then k+1 else k-1)) e z=true↔hK up a e z=true/\¬(z=k\/wt up z k):=by
 unfold wt;cases up with
 |true=>
  rw[if_pos rfl,if_pos rfl];obtain⟨i,rfl,i0,he⟩:=(show okU a e from ok);rcases he with rfl|⟨j,rfl,_⟩
  .have h1:=of_decide_eq_true (show decide (i<=k)=true from hk);show decide (k+1<=z)=true↔decide (i<=z)=true/\_;rw[decide_eq_true_eq,decide_eq_true_eq];lia
  .have h1:=of_decide_eq_true (QE.mp (show(decide (i<=k)&&decide (k<j))=true from hk)).1;show(decide (k+1<=z)&&decide (z<j))=true↔(decide (i<=z)&&decide (z<j))=true/\_;rw[QK,QK,decide_eq_true_eq,decide_eq_true_eq,decide_eq_true_eq];lia
 |false=>
  rw[if_neg Qi,if_neg Qi];obtain⟨j,rfl,G,ha⟩:=(show okD a e from ok);rcases ha with rfl|⟨i,rfl,_⟩
  .show(decide (j<=z)&&decide (z<=k-1))=true↔decide (j<=z)=true/\_;rw[QK,decide_eq_true_eq,decide_eq_true_eq];lia
  .have h1:=of_decide_eq_true (QE.mp (show(decide (j<=k)&&decide (k<=i))=true from hk)).2;show(decide (j<=z)&&decide (z<=k-1))=true↔(decide (j<=z)&&decide (z<=i))=true/\_;rw[QK,QK,decide_eq_true_eq,decide_eq_true_eq,decide_eq_true_eq];lia
theorem DN {e:V} (nd:(st.kv.map (·.1)).Nodup) (r:cN ks) (mk:∀z,z∈ks↔(aP st.kv z).isSome=true) (n1:1<=n) (ok:if up=true then okU av e else okD av e)
  (Y:ts.map (·.k)=(b3 up av e ks).take n.toNat) (Z:∀e∈ts,aP st.kv e.k=some e.v) (x:NxH t H H' F' p up e (b3 up av e ks) n.toNat v):∃a' R,AskU t H' F' st (if up=true then 1 else 2) n av e v ts a' R:=by
 have ho:=Ft (up:=up) (a:=av) (e:=e) r;have I:(ts.map (·.k)).Nodup:=by
  rw[Y];refine(ho.sublist (X7 _ _)).imp λ{a b} h e=>?_;unfold wt at h;rw[e]at h;split at h<;>lia
 have me:∀(k:Int) (v:V),(k,v)∈ts.map Tp.kv↔(k,v)∈st.kv/\k∈(b3 up av e ks).take n.toNat:=λk v=>by
  rw[<-Y,Qh,Qh];constructor
  .rintro ⟨d,hd,h1⟩;have h2:d.k=k:=congrArg Prod.fst h1;have O:d.v=v:=congrArg Prod.snd h1;have:=iX (Z d hd);rw[h2,O]at this;exact⟨this,d,hd,h2⟩
  .rintro ⟨h1,d,hd,rfl⟩;have:=Z d hd;rw[fW nd h1]at this;exact⟨d,hd,by unfold Tp.kv;rw[Option.some.inj this]⟩
 have ik:∀{k:Int} {v:V},(k,v)∈st.kv->k∈ks:=λh=>(mk _).mpr (by rw[fW nd h];rfl);have tl:∀{r:Option V},(r=if(b3 up av e ks).length<=n.toNat then none else((b3 up av e ks)[n.toNat-1]?).map λk=> .int (if up=true then k+1 else k-1))->∀G,cN G->(∀z,z∈G↔(aP st.kv z).isSome=true)->Tell st G (if up=true then 1 else 2) n av e (ts.map Tp.kv) r:=λ{q} hq G r' mk'=>by
  have e1:G=ks:=zB r' r λz=>(mk' z).trans (mk z).symm;subst e1;refine .inr ⟨up,rfl,by rw[Qu];exact Y,λp hp=>?_,hq⟩;obtain⟨d,hd,rfl⟩:=Qh.mp hp;exact Z d hd
 unfold NxH at x;split at x
 .refine⟨.non,λ_=>false,.inl ⟨x,rfl⟩,λk _ h=>absurd h Qi,I,λk v=>?_,tl (by rw[if_pos x,if_pos (by assumption)]),.inl x⟩;rw[me,Qt (by assumption),held_iff,JR];exact⟨λh=>⟨h.1,h.2.2,rfl⟩,λh=>⟨h.1,ik h.1,h.2.1⟩⟩
 .rw[if_neg (by lia)]at x;obtain⟨q,k0,h0,U,_,nq,TQ⟩:=x;have hk:=(held_iff.mp (Q1 h0)).2;obtain⟨t1,t2⟩:=IV TQ;refine⟨_,hN (if up=true then 1 else 2) (.int (if up=true then k0+1 else k0-1)) e,.inr ⟨q,U,t1,t2,nq,rfl,λz=>by cases up<;>cases z⟩,λk _ h=>?_,I,λk v=>?_,tl (by rw[if_neg (show ¬v= .non from λz=>by rw[U]at z;cases z),if_neg (show ¬(b3 up av e ks).length<=n.toNat by assumption),h0];rfl),.inr (.inl ?_)⟩
  .rw[JR]at h⊢;exact((vt ok hk).mp h).1
  .rw[me,Em ho h0 (by lia),held_iff,JR,<-Bool.not_eq_true,vt ok hk];constructor
   .rintro ⟨h1,⟨_,h2⟩,O⟩;exact⟨h1,h2,λz=>z.2 O⟩
   .rintro ⟨h1,h2,O⟩;exact⟨h1,⟨ik h1,h2⟩,Classical.byContradiction λz=>O ⟨h2,z⟩⟩
  .have:=congrArg List.length Y;rw[Q0,Q8]at this;lia
def yb (K:PySem.W.Frag) (t:Adr):Sp:=λvs H Q _=>∃(a p:Addr) (n kd:Int) (av e:V) (F:Addr->Prop) (x:HSt),vs=[.ref a,.ref p,.int n,.non]/\HoA K t H a F x/\TkAt t H p kd av e/\okN kd av e/\¬F p/\1<=n/\n<=1000/\x.st.kv.length<4096/\x.ks.length<4096/\(∀k∈x.ks,0<=k)/\(∀p∈x.st.kv,∃i:Int,p.2= .int i)/\
 ∀(H':Hp) (F':Addr->Prop) (r g:Addr) (v:V) (ts:List Tp) (a':V) (R:Int->Bool),HoA K t H' a F' x->Fr F F' H H'->PgA H H' F F' r g v ts->AskU t H' F' x.st kd n av e v ts a' R->Q (.ref r) H'
theorem ET (T:Txt K mg t):FnOk P w K mg base CX0 8 t.IK t.Ae ["house","token","many","sieve"] (yb K t):=by
 refine T.Gb.ok sc_ask (λvs H Q E h=>?_) (λa2 A outer s H vs Q E hr h=>?_)
 .obtain⟨a,p,n,kd,av,e,F,x,rfl,_⟩:=h;rfl
 .obtain⟨a,p,n,kd,av,e,F,x,rfl,A,TK,Y,np,n1,n2,l4,lk,k0,iv,q⟩:=h;refine KM (λx y=>aV (eK (aF (kT K rfl) (by rfl) T.gJ dM (aa (pv 1) (aa (cG (v:= .ref t.aU) (by rfl) T.uY rfl) ag)))) x y) ?_;refine aA (ay (i:=4) sc_ask.nd rfl (Or.inl rfl) (aN (rC T) hr.mo (by rfl) T.DZ T.tM.kp T.D3 .nil az (aa (ar (pv 0) rfl) (aa (pv 1) (aa (pv 2) ag))))) ?_
  intros
  refine aA (ay (i:=4) sc_ask.nd rfl (Or.inl rfl) (aN (sZ T) hr.mo (by rfl) T.E9 T.vK.kp T.FT .nil az (aa (pv 0) (aa (pv 1) (aa (pv 2) ag))))) ?_
  intros
  refine ah (aV (ao cU (pv 3) bg (aq _))
   (aB (aD (pv 4)))
   aI)
     (aA cE ?_)
  intros
  obtain⟨dx,fs,G,tf⟩:=id TK;have nd:(x.st.kv.map (·.1)).Nodup:=by
   obtain⟨s,l,wr,p,h,Fs,Fl,B,O,g⟩:=A;obtain⟨_,_,_,_,nd,_⟩:=B.sl;exact nd
  have ri:cN x.ks:=by
   obtain⟨_,_,_,_,_,_,L⟩:=A.lvs;exact L.rise
  have I:∀(up:Bool) {Q':VK} {E':XK},kd=(if up=true then 1 else 2)->(∀v H',Q v H'->Q' v H')->kW K t [.ref a,.ref p,.int n] H Q' E':=λup Q' E' Z hQ=>by
   have ok:if up=true then okU av e else okD av e:=by
    subst Z;cases up
    .exact Y.d
    .exact Y.u
   refine⟨a,p,n,up,av,e,F,x,rfl,A,⟨dx,fs,?_,?_,ok⟩,np,lk,k0,λH' F' r g v ts A' f' pg ek ev nx=>?_⟩
   .subst Z;cases up<;>exact G
   .subst Z;cases up<;>exact tf
   .obtain⟨a',R,U⟩:=DN nd ri A.ok.ks n1 ok ek ev nx;rw[<-Z]at U;exact hQ _ _ (q H' F' r g v ts a' R A' f' pg U)
  rcases Y.kd with rfl|rfl|rfl
  .have G:H p=some (.ins t.aU dx fs):=G;obtain⟨i,j,rfl,rfl,i0,ij,j1⟩:=Y.s;obtain⟨s,l,wr,pp,h,Fs,Fl,B,O,g⟩:=A;obtain⟨a0,ho⟩:=B.o.ob;have W0:0<65536/x.st.low:=by
    have z:SzOk x.st:=let⟨_,_,_,_,_,z⟩:=B.sl;z
    obtain⟨_,_,R⟩:=yp (jq z);exact R.wpos'
   refine⟨_,rfl,_,_,_,_,rfl,TyOf.ins G T.bE T.oR.1 T.oR.2 T.oR.3 T.oR.4,T.Bz,_,rfl,db ⟨_,rfl,a,_,a0,_,_,rfl,ho,T.aO,T.cV,vf,_,rfl,_,rfl,s,p,n,i,j,Fs,x.st,rfl,B.sl,⟨dx,fs,G,tf,i0,ij,j1⟩,λz=>np ((g p).mpr (.inl z)),n1,n2,l4,iv,λH' Fs' r gg v ts m S' f' pg ps nx=>⟨_,rfl,rfl,_,rfl,fX rfl ⟨_,rfl,?_⟩⟩⟩⟩;obtain⟨B1,g1⟩:=B.slots S' f';have up:∀{b:Addr},¬F b->¬Fs b:=λn z=>n ((g _).mpr (.inl z));have A':HoA K t H' a (HoF a wr pp h Fs' Fl x.pa) x:=⟨s,l,wr,pp,h,Fs',Fl,B1,O,λ_=>Iff.rfl⟩;have a1:NxS t H H' F (HoF a wr pp h Fs' Fl x.pa) (a6 (65536/x.st.low) j i m) j v:=by
    unfold NxS at nx⊢;split
    .rw[if_pos (by assumption)]at nx;exact nx
    .rw[if_neg (by assumption)]at nx;obtain⟨y,e1,e2,e3,e4⟩:=nx;exact⟨y,e1,λn=>e2 (up n),B.newb e2 e3,e4⟩
   obtain⟨a',R,U⟩:=BK W0 i0 ij ps a1;refine q H' _ r gg v ts a' R A' (λb o n e=>g1 b o (λz=>n ((g b).mpr z)) e) ⟨pg.tu,pg.li,λe he=>⟨(pg.rw e he).1,λz=>?_⟩,⟨λn=>pg.nr.1 (up n),B.newb pg.nr.1 pg.nr.2⟩,λn=>pg.ng.1 (up n),B.newb pg.ng.1 pg.ng.2⟩ U;obtain⟨o,e',n⟩:=A'.dom z;rw[(pg.rw e he).1]at e';exact n _ (Option.some.inj e').symm
  .have G:H p=some (.ins t.dh dx fs):=G;refine⟨_,rfl,_,_,_,_,rfl,TyOf.ins G T.gB T.lF.1 T.lF.2 T.lF.3 T.lF.4,T.Gp,_,rfl,cM ⟨_,rfl,_,rfl,_,rfl,I true rfl λv H' h=>⟨_,rfl,rfl,_,rfl,fX rfl ⟨_,rfl,h⟩⟩⟩⟩
  .have G:H p=some (.ins t.bY dx fs):=G;refine⟨_,rfl,_,_,_,_,rfl,TyOf.ins G T.b9 T.eB.1 T.eB.2 T.eB.3 T.eB.4,T.D0,_,rfl,cM ⟨_,rfl,_,rfl,_,rfl,I false rfl λv H' h=>⟨_,rfl,rfl,_,rfl,fX rfl ⟨_,rfl,h⟩⟩⟩⟩
def sL (K:PySem.W.Frag):Sp:=λvs H Q _=>∃(a:Addr) (ns:List Int) (k:Int),vs=[.ref a,.int k]/\SqL K H a (ns.map V.int)/\0<=k/\Q (.int (ns.getD k.toNat 0)) H
theorem tw (T:Txt K mg t):FnOk P w K mg base CX0 1 t.mX t.iF ["_law_script","_law_k"] (sL K):=by
 refine T.m8.okl sS λ_ _ _ s H vs Q E I h=>?_;intro X;obtain⟨a,ns,i,rfl,hS,G,k⟩:=h;refine ah (aV (ao dZ (pv 1) (aF aE (by rfl) T.bO bh (aa (pv 0) ag)) (aq _))
    (aB (aD (aX aW (pv 0) (pv 1) (λ_ _=>rfl))))
    aI)
   (aA (aD af) ?_)
 intros
 refine⟨_,rfl,_,rfl,a,_,rfl,.inl hS,_,_,rfl,rfl,_,rfl,?_⟩;refine bK (λc=>?_) (λc=>?_)
 .have c:=of_decide_eq_true c;rw[Q0]at c;exact⟨_,rfl,_,rfl,a,_,_,_,rfl,rfl,hS,vn G c,k⟩
 .have c:¬i<((ns.map V.int).length:Int):=λz=>c (decide_eq_true z);rw[Q0]at c;rw[FQ c]at k;exact k
def vR:Sp:=λvs H Q _=>∃k:Int,vs=[.int k]/\Q (.int (tz (k%65536))) H
theorem wx (T:Txt K mg t):FnOk P w K mg base CX0 1 t.qy t.kH ["_law_key"] vR:=by
 refine T.qL.okl sc__law_place λ_ _ _ s H vs Q E I h=>?_;intro X;obtain⟨n,rfl,q⟩:=h;refine ah (ay (i:=1) sc__law_place.nd rfl (Or.inl rfl) (al aQ (pv 0) af))
   (ah (ay (i:=2) sc__law_place.nd rfl (Or.inl rfl) af)
   (bV (λx=>(ii PassesOwn.never rfl (gS (by rfl) T.ni (aa af ag)) (bH (i:=3) sc__law_place.nd rfl (Or.inl rfl))
    x)) ?_))
 refine ah (ay (i:=2) sc__law_place.nd rfl (Or.inl rfl) (al bp (al dA af (pv 2)) (al aQ (pv 1) af)))
   (aA (ay (i:=1) sc__law_place.nd rfl (Or.inl rfl) (al aT (pv 1) af)) ?_)
 intros
 refine aA (aD (pv 2)) ?_
 intros
 have z:=Qe n (show(65536:Int)≠0 by decide);refine⟨_,rfl,_,_,rfl,rfl,(by show(0:Int)<65536;decide),?_⟩
 (try dsimp only)
 generalize n%65536=m at z q⊢;have G:((m.toNat/2^0:Nat):Int)=m:=by rw[Nat.pow_zero,Nat.div_one];lia
 refine⟨16,rfl,by decide,by decide,rO (n:=16) (λi σ H'=>∃v,H'=H/\σ=[some (.int n),some (.int ((m.toNat/2^i:Nat):Int)),some (.int ((rv i m.toNat:Nat):Int)),v]) ?_ ?_ ?_⟩
 .refine⟨none,rfl,?_⟩;rw[G];rfl
 .rintro i σ H' hi ⟨v,rfl,rfl⟩;refine⟨_,rfl,_,_,rfl,rfl,.inl ⟨by decide,by decide⟩,_,rfl,_,_,rfl,rfl,(by show(0:Int)<2;decide),_,_,rfl,rfl,_,rfl,_,_,rfl,rfl,⟨by decide,by decide⟩,?_⟩;refine⟨some (.int (0+(i:Int))),rfl,?_⟩;rw[<-wZ i m.toNat,<-w5 i m.toNat,Xh];rfl
 .rintro σ H' ⟨v,rfl,rfl⟩;unfold tz at q;exact⟨_,rfl,q⟩
def vS:Sp:=λvs H Q _=>∃c k:Int,vs=[.int c,.int k]/\∀z:Int,0<=z->z<2147483647->Q (.int z) H
theorem nZ (T:Txt K mg t):FnOk P w K mg base CX0 1 t.qz t.kI ["_law_cell","_law_k"] vS:=by
 refine T.qM.okl sc__law_mixed λ_ _ _ s H vs Q E z h=>?_;intro X;obtain⟨c,k,rfl,q⟩:=h;refine ah (ay (i:=2) sc__law_mixed.nd rfl (Or.inl rfl) (al aQ (al dA (al bp (al bp (pv 0) (al dA af (pv 1))) af) af) af))
   (aA (aD (al aQ (al dA (pv 2) (al bp (al aT (pv 2) af) af)) af)) ?_)
 intros
 refine⟨_,rfl,_,rfl,_,_,rfl,rfl,.inl ⟨by decide,by decide⟩,_,_,rfl,rfl,_,_,rfl,rfl,_,_,rfl,rfl,.inr ⟨by decide,by decide⟩,_,_,rfl,rfl,(by show(0:Int)<2147483647;decide),?_⟩;have a:=Qe ((c+7919*k+1)*48271) (show(2147483647:Int)≠0 by decide);have b:=Qb ((c+7919*k+1)*48271) (show(0:Int)<2147483647 by decide)
 (try dsimp only)
 generalize (c+7919*k+1)*48271%2147483647=n at a b⊢;refine⟨_,rfl,_,rfl,_,_,rfl,rfl,⟨by decide,by decide⟩,_,_,rfl,rfl,_,_,rfl,rfl,.inl ⟨by lia,by lia⟩,_,_,rfl,rfl,(by show(0:Int)<2147483647;decide),?_⟩;exact q _ (Qe _ (by decide)) (Qb _ (by decide))
def Il (kd:Int) (H:Hp) (Q:VK):Prop:=∀(H':Hp) (p:Addr) (a e:V),Same H H'->H' p=some (.tup [.int kd,a,e])->okN kd a e->bdV a->bdV e->Q (.ref p) H'
theorem dH {i:Int} (h:i<10^80):bdV (.int i):=h
theorem yT:bdV .non:=True.intro
def lI:Sp:=λvs H Q _=>∃kd c:Int,vs=[.int kd,.int c]/\0<=kd/\kd<3/\Il kd H Q
theorem l5 (T:Txt K mg t):FnOk P w K mg base CX0 1 t.gE t.dD ["_law_kind","_law_cell"] lI:=by
 refine T.nT.okl sc__law_numbers_told λ_ _ _ s H vs Q E hr h=>?_;intro X;obtain⟨kd,c,rfl,d0,d3,q⟩:=h;refine bV (λx=>aV (ao bN (pv 0) af (aq _)) x aI) ?_;refine ah (ay (i:=2) sc__law_numbers_told.nd rfl (Or.inl rfl) (al aQ (pv 1) af))
   (aA (aD (bC (aa (pv 0) (aa (pv 2) (aa (al bp (pv 2) (al aQ (al aT (pv 1) af) (al io af (pv 2)))) ag))))) ?_)
 intros
 refine ah (ay (i:=2) sc__law_numbers_told.nd rfl (Or.inl rfl) (al aQ (al aT (pv 1) af) (al jn af af)))
   (ah (ay (i:=3) sc__law_numbers_told.nd rfl (Or.inl rfl) (al bp (pv 2) (al aQ (al zI (pv 1) (al dA af (al jn af af))) (al jn af af))))
   (ah (aV (PW.pt (fB (ao bN (al aQ (pv 1) af) af (aq _)) (dO (ao bN (pv 0) af (aq _)))))
    (aB (aD (bC (aa (pv 0) (aa (pv 2) (aa bg ag))))))
    aI)
   (ah (aV (ao bN (al aQ (pv 1) af) af (aq _))
    (aB (aD (bC (aa (pv 0) (aa bg (aa (pv 2) ag))))))
    aI)
   (aA (aD (bC (aa (pv 0) (aa (aX aW (bT (aa (pv 2) (aa (pv 3) ag))) (al io (pv 0) af) (λ_ _=>rfl)) (aa (aX aW (bT (aa (pv 3) (aa (pv 2) ag))) (al io (pv 0) af) (λ_ _=>rfl)) ag))))) ?_))))
 intros
 refine⟨_,rfl,rfl,_,rfl,bK (λz=>?_) (λz=>?_)⟩
 .obtain rfl:kd=0:=V.int.inj (of_decide_eq_true z);have G:=Qe c (show(65537:Int)≠0 by decide);have O:=Qb c (show(0:Int)<65537 by decide);refine⟨_,rfl,_,_,rfl,rfl,(by show(0:Int)<65537;decide),?_⟩
  (try dsimp only)
  generalize c%65537=lo at G O⊢;refine⟨_,rfl,_,rfl,_,rfl,_,rfl,_,_,rfl,rfl,⟨by decide,by decide⟩,_,rfl,_,_,rfl,rfl,_,_,rfl,rfl,(by show(0:Int)<65537-lo;lia),_,_,rfl,rfl,(by show 3<=sizeLine;decide),λp I=>?_⟩;have b0:=Qe (c/65537) (show(65537-lo:Int)≠0 by lia);have Y:=Qb (c/65537) (show(0:Int)<65537-lo by lia);exact q _ p (.int lo) (.int (lo+c/65537%(65537-lo))) (ai I) ac (.inl ⟨rfl,lo,_,rfl,rfl,G,by lia,by lia⟩) (dH (by lia)) (dH (by lia))
 .have dz:kd≠0:=λe=>z (decide_eq_true (by rw[e]));have G:=Qe (c/2) (QR tZ);have O:=Qb (c/2) tZ;have b0:=Qe (c/(2*10^(39:Int).toNat)) (QR tZ);have Y:=Qb (c/(2*10^(39:Int).toNat)) tZ;refine⟨_,rfl,_,_,rfl,rfl,⟨by decide,by decide⟩,_,_,rfl,rfl,⟨by decide,by decide,by decide⟩,_,_,rfl,rfl,tZ,?_⟩
  (try dsimp only)
  generalize c/2%10^(39:Int).toNat=lo at G O⊢;refine⟨_,rfl,_,rfl,_,_,rfl,rfl,⟨by decide,by decide,by decide⟩,_,_,rfl,rfl,.inl ⟨by decide,by decide⟩,_,_,rfl,rfl,⟨by decide,by decide⟩,_,_,rfl,rfl,⟨by decide,by decide,by decide⟩,_,_,rfl,rfl,tZ,_,_,rfl,rfl,?_⟩
  (try dsimp only)
  generalize c/(2*10^(39:Int).toNat)%10^(39:Int).toNat=hi at b0 Y⊢;have Z:(10:Int)^(39:Int).toNat=10^39:=rfl;rw[Z]at O Y;have two:(0:Int)<2:=by decide
  have U:3<=sizeLine:=by decide
  have l2:2<=sizeLine:=by decide
  rcases(show kd=1\/kd=2 by lia)with rfl|rfl
  .refine⟨_,rfl,_,_,rfl,rfl,two,rfl,_,rfl,bK (λy=>?_) (λy=>?_)⟩
   .refine⟨_,rfl,rfl,_,rfl,fX rfl ⟨_,rfl,_,rfl,U,λp I=>?_⟩⟩;exact q _ p (.int lo) .non (ai I) ac (.inr (.inl ⟨rfl,lo,rfl,G,.inl rfl⟩)) (dH (by lia)) yT
   .refine⟨_,rfl,_,_,rfl,rfl,two,rfl,_,rfl,bK (λy2=>absurd y2 y) (λ_=>?_)⟩;refine⟨_,rfl,_,rfl,_,rfl,l2,λp1 n1=>⟨_,rfl,_,_,rfl,rfl,p1,_,_,_,rfl,rfl,SqL.of ac,rfl,_,rfl,_,rfl,l2,λp2 n2=>⟨_,rfl,_,_,rfl,rfl,p2,_,_,_,rfl,rfl,SqL.of ac,rfl,U,λp3 n3=>?_⟩⟩⟩;exact q _ p3 (.int lo) (.int (lo+hi)) (((ai n1).trans (ai n2)).trans (ai n3)) ac (.inr (.inl ⟨rfl,lo,rfl,G,.inr ⟨_,rfl,by lia⟩⟩)) (dH (by lia)) (dH (by lia))
  .refine⟨_,rfl,_,_,rfl,rfl,two,rfl,_,rfl,bK (λy=>?_) (λy=>?_)⟩
   .refine⟨_,rfl,rfl,_,rfl,bf (λe=>by cases e) ⟨_,rfl,_,_,rfl,rfl,two,rfl,_,rfl,bK (λ_=>⟨_,rfl,_,rfl,U,λp I=>?_⟩) (λy2=>absurd y y2)⟩⟩;exact q _ p .non (.int lo) (ai I) ac (.inr (.inr ⟨rfl,lo,rfl,G,.inl rfl⟩)) yT (dH (by lia))
   .refine⟨_,rfl,_,_,rfl,rfl,two,rfl,_,rfl,bK (λy2=>absurd y2 y) (λ_=>?_)⟩;refine⟨_,rfl,_,rfl,_,rfl,l2,λp1 n1=>⟨_,rfl,_,_,rfl,rfl,p1,_,_,_,rfl,rfl,SqL.of ac,rfl,_,rfl,_,rfl,l2,λp2 n2=>⟨_,rfl,_,_,rfl,rfl,p2,_,_,_,rfl,rfl,SqL.of ac,rfl,U,λp3 n3=>?_⟩⟩⟩;exact q _ p3 (.int (lo+hi)) (.int lo) (((ai n1).trans (ai n2)).trans (ai n3)) ac (.inr (.inr ⟨rfl,lo,rfl,G,.inr ⟨_,rfl,by lia⟩⟩)) (dH (by lia)) (dH (by lia))
theorem Fx (h:i<ks.length):ks.getD i 0∈ks:=by
 rw[Qm,Q3 h];exact Zh h
def sK (K:PySem.W.Frag):Sp:=λvs H Q _=>∃(c:Int) (l:Addr) (ks:List Int),vs=[.int c,.ref l]/\H l=some (.lst (ks.map V.int))/\(∀k∈ks,0<=k/\k<10^40)/\Il (c%3) H Q
theorem tm (T:Txt K mg t):FnOk P w K mg base CX0 2 t.mW t.iE ["_law_cell","_law_keys"] (sK K):=by
 refine T.vM.okl sc__law_numbers λ_ _ _ s H vs Q E hr h=>?_;intro X;obtain⟨c,l,ks,rfl,hS,kb,q⟩:=h;refine ah (ay (i:=2) sc__law_numbers.nd rfl (Or.inl rfl) (al aQ (pv 0) af))
   (bV (λx=>aV (ao bN (al aQ (al aT (pv 0) af) af) af (aq _)) x aI) ?_)
 refine aA (aD (aN (l5 T) hr.mo (by rfl) T.Az T.nT.kp T.AA .nil az (aa (pv 2) (aa (al aT (pv 0) af) ag)))) ?_
 intros
 refine ah (ay (i:=3) sc__law_numbers.nd rfl (Or.inl rfl) (aN (nZ T) hr.mo (by rfl) T.yH T.qM.kp T.yW .nil az (aa (al aT (pv 0) af) (aa af ag))))
   (bV (λx=>aV (ao bN (pv 2) af (aq _)) x aI) ?_)
 refine ah (ay (i:=4) sc__law_numbers.nd rfl (Or.inl rfl) (al aQ (pv 3) af))
   (ah (ay (i:=5) sc__law_numbers.nd rfl (Or.inl rfl) (al bp (pv 4) (al aQ (al aT (pv 3) af) (al io af (pv 4)))))
   (aA (aD (bC (aa (pv 2) (aa (aX aW (bT (aa (pv 4) (aa af ag))) (al aQ (pv 3) af) (λ_ _=>rfl)) (aa (aX aW (bT (aa (pv 5) (aa af ag))) (al aQ (al aT (pv 3) af) af) (λ_ _=>rfl)) ag))))) ?_))
 intros
 refine ah (ay (i:=4) sc__law_numbers.nd rfl (Or.inl rfl) (al aQ (pv 3) af))
   (bV (λx=>aV (PW.pt (fB (ao zH (aF aE (by rfl) T.bO bh (aa (pv 1) ag)) af (aq _)) (dO (ao zH (al aQ (al aT (pv 3) af) af) af (aq _))))) x aI) ?_)
 refine aA (ay (i:=4) sc__law_numbers.nd rfl (Or.inl rfl) (al bp (aX aW (pv 1) (al aQ (al aT (pv 3) af) (aF aE (by rfl) T.bO bh (aa (pv 1) ag))) (λ_ _=>rfl)) (al aQ (al aT (pv 3) af) af))) ?_
 intros
 refine ah (ay (i:=5) sc__law_numbers.nd rfl (Or.inl rfl) (al bp (pv 4) (aX aW (bT (aa (al aQ (al aT (pv 3) af) af) (aa (al aQ (al aT (pv 0) af) (al jn af af)) (aa (al aQ (al aT (pv 3) af) af) ag)))) (al aQ (al aT (pv 3) af) af) (λ_ _=>rfl))))
   (ah (aV (PW.pt (fB (ao bN (al aQ (al aT (pv 3) af) af) af (aq _)) (dO (ao bN (pv 2) af (aq _)))))
    (aB (aD (bC (aa (pv 2) (aa (pv 4) (aa bg ag))))))
    aI)
   (ah (aV (ao bN (al aQ (al aT (pv 3) af) af) af (aq _))
    (aB (aD (bC (aa (pv 2) (aa bg (aa (pv 4) ag))))))
    aI)
   (aA (aD (bC (aa (pv 2) (aa (aX aW (bT (aa (pv 4) (aa (pv 5) ag))) (al io (pv 2) af) (λ_ _=>rfl)) (aa (aX aW (bT (aa (pv 5) (aa (pv 4) ag))) (al io (pv 2) af) (λ_ _=>rfl)) ag))))) ?_)))
 intros
 have d0:=Qe c (show(3:Int)≠0 by decide);have d3:=Qb c (show(0:Int)<3 by decide);have two:(0:Int)<2:=by decide
 have I:3<=sizeLine:=by decide
 have l2:2<=sizeLine:=by decide
 refine⟨_,rfl,_,_,rfl,rfl,(by show(0:Int)<3;decide),?_⟩
 (try dsimp only)
 generalize c%3=kd at d0 d3 q⊢;refine⟨_,rfl,_,_,rfl,rfl,⟨by decide,by decide⟩,_,_,rfl,rfl,two,rfl,_,rfl,bK (λ_=>?_) (λ_=>?_)⟩
 .exact⟨_,rfl,_,rfl,_,_,rfl,rfl,⟨by decide,by decide⟩,kd,_,rfl,d0,d3,q⟩
 refine⟨_,rfl,_,_,rfl,rfl,⟨by decide,by decide⟩,_,_,rfl,λn n0 n1=>?_⟩;refine⟨_,rfl,rfl,_,rfl,bK (λz=>?_) (λz=>?_)⟩
 .obtain rfl:kd=0:=V.int.inj (of_decide_eq_true z);have G:=Qe n (show(65537:Int)≠0 by decide);have O:=Qb n (show(0:Int)<65537 by decide);refine⟨_,rfl,_,_,rfl,rfl,(by show(0:Int)<65537;decide),?_⟩
  (try dsimp only)
  generalize n%65537=lo at G O⊢;have b0:=Qe (n/65537) (show(65537-lo:Int)≠0 by lia);have b1:=Qb (n/65537) (show(0:Int)<65537-lo by lia);refine⟨_,rfl,_,rfl,_,_,rfl,rfl,⟨by decide,by decide⟩,_,rfl,_,_,rfl,rfl,_,_,rfl,rfl,(by show(0:Int)<65537-lo;lia),_,_,rfl,rfl,?_⟩
  (try dsimp only)
  generalize n/65537%(65537-lo)=g at b0 b1⊢;obtain⟨x,hx,x0⟩:=xh (c:=n) (n:=2) (L:=[.int lo,.int 0]) (P:=λm=>0<=m/\m<=lo) ⟨⟨G,Zt _⟩,⟨Zt _,G⟩,trivial⟩ rfl two;obtain⟨y,hy,y0⟩:=xh (c:=n/2) (n:=2) (L:=[.int (lo+g),.int 65536]) (P:=λm=>lo<=m/\m<=65536) ⟨⟨by lia,by lia⟩,⟨by lia,by lia⟩,trivial⟩ rfl two;refine⟨_,rfl,_,rfl,l2,λU a2=>⟨_,rfl,_,_,rfl,rfl,two,U,_,_,_,rfl,rfl,SqL.of ac,hx,_,rfl,l2,λp2 Y=>⟨_,rfl,_,_,rfl,rfl,⟨by decide,by decide⟩,_,_,rfl,rfl,two,p2,_,_,_,rfl,rfl,SqL.of ac,hy,I,λZ n3=>?_⟩⟩⟩;exact q _ Z (.int x) (.int y) (((ai a2).trans (ai Y)).trans (ai n3)) ac (.inl ⟨rfl,x,y,rfl,rfl,x0.1,by lia,y0.2⟩) (dH (by lia)) (dH (by lia))
 .have dz:kd≠0:=λe=>z (decide_eq_true (by rw[e]));have G:=Qe n (show(60:Int)≠0 by decide);have O:=Qb n (show(0:Int)<60 by decide);refine⟨_,rfl,_,_,rfl,rfl,(by show(0:Int)<60;decide),?_⟩
  (try dsimp only)
  generalize n%60=lo at G O⊢;refine b6 (λσ H'=>H=H'/\∃lo:Int,σ=[some (.int c),some (.ref l),some (.int kd),some (.int n),some (.int lo),none]/\0<=lo/\lo<10^41) (λnx go=>?_) (λσ H' w=>?_)
  .refine⟨_,rfl,l,_,rfl,.inl (SqL.of hS),_,_,rfl,rfl,_,rfl,bK (λz=>?_) (λz=>?_)⟩
   .have kl:0<ks.length:=by
     have:=of_decide_eq_true z;rw[Q0]at this;lia
    have kl:(0:Int)<(ks.length:Int):=by lia
    have z0:=Qe (n/180) (QR kl);have z1:=Qb (n/180) kl;have y0:=Qe (n/72000) (show(2:Int)≠0 by decide);have y1:=Qb (n/72000) (show(0:Int)<2 by decide);refine⟨_,rfl,_,_,rfl,rfl,⟨by decide,by decide⟩,_,_,rfl,rfl,(by show(0:Int)<3;decide),_,_,rfl,rfl,_,rfl,bK (λ_=>?_) (λ_=>go _ _ ⟨rfl,lo,rfl,G,by lia⟩)⟩;refine⟨_,rfl,_,rfl,_,_,rfl,rfl,⟨by decide,by decide⟩,_,rfl,l,_,rfl,.inl (SqL.of hS),_,_,rfl,rfl,(by rw[Q0];exact kl),l,_,_,_,rfl,rfl,SqL.of hS,(by rw[Q0];exact vn z0 z1),_,rfl,_,_,rfl,rfl,⟨by decide,by decide⟩,_,_,rfl,rfl,two,_,_,rfl,rfl,go _ _ ⟨rfl,_,rfl,?_⟩⟩;obtain⟨b0,b1⟩:=kb (ks.getD (n/180%ks.length).toNat 0) (Fx (by lia));constructor<;>lia
   .exact go _ _ ⟨rfl,lo,rfl,G,by lia⟩
  clear G O lo;obtain⟨rfl,lo,rfl,G,O⟩:=w;have a3:(0:Int)<10^(38:Int).toNat:=by decide
  have a4:∀z:Int,0<=z%90/\z%90<10^38:=λz=>⟨Qe _ (by decide),Int.lt_trans (Qb _ (by decide)) (by decide)⟩;have a5:∀z:Int,0<=z%10^(38:Int).toNat/\z%10^(38:Int).toNat<10^38:=λz=>⟨Qe _ (by decide),Qb _ (by decide)⟩;have a7:∀z:Int,0<=z%70000/\z%70000<10^38:=λz=>⟨Qe _ (by decide),Int.lt_trans (Qb _ (by decide)) (by decide)⟩;obtain⟨hi,hh,b0,b1⟩:=xh (c:=n/216000) (n:=3) (L:=[.int (n/7%90),.int (c/11%10^(38:Int).toNat),.int (n/7%70000)]) (P:=λm=>0<=m/\m<10^38) ⟨a4 _,a5 _,a7 _,trivial⟩ rfl (by decide);refine⟨_,rfl,_,rfl,_,_,rfl,rfl,⟨by decide,by decide⟩,_,_,rfl,rfl,(by show(0:Int)<90;decide),_,rfl,_,_,rfl,rfl,⟨by decide,by decide⟩,_,_,rfl,rfl,⟨by decide,by decide,by decide⟩,_,_,rfl,rfl,a3,_,rfl,_,_,rfl,rfl,⟨by decide,by decide⟩,_,_,rfl,rfl,(by show(0:Int)<70000;decide),I,λp hp=>?_⟩;refine⟨_,rfl,_,_,rfl,rfl,⟨by decide,by decide⟩,_,_,rfl,rfl,(by show(0:Int)<3;decide),p,_,_,_,rfl,rfl,SqL.of ac,hh,_,_,rfl,rfl,?_⟩;have s0:Same H (upd H p (.lst [.int (n/7%90),.int (c/11%10^(38:Int).toNat),.int (n/7%70000)])):=ai hp
  (try dsimp only)
  generalize upd H p (.lst [.int (n/7%90),.int (c/11%10^(38:Int).toNat),.int (n/7%70000)])=H1 at s0⊢;have q:=λH' p' a e (s:Same H1 H')=>q H' p' a e (s0.trans s);have th:(0:Int)<3:=by decide
  have dv:CDiv n 648000:=⟨by decide,by decide⟩;rcases(show kd=1\/kd=2 by lia)with rfl|rfl
  .refine⟨_,rfl,_,_,rfl,rfl,dv,_,_,rfl,rfl,th,rfl,_,rfl,bK (λy=>?_) (λy=>?_)⟩
   .refine⟨_,rfl,rfl,_,rfl,fX rfl ⟨_,rfl,_,rfl,I,λp hp=>?_⟩⟩;exact q _ p (.int lo) .non (ai hp) ac (.inr (.inl ⟨rfl,lo,rfl,G,.inl rfl⟩)) (dH (by lia)) yT
   .refine⟨_,rfl,_,_,rfl,rfl,dv,_,_,rfl,rfl,th,rfl,_,rfl,bK (λy2=>absurd y2 y) (λ_=>?_)⟩;refine⟨_,rfl,_,rfl,_,rfl,l2,λU n1=>⟨_,rfl,_,_,rfl,rfl,U,_,_,_,rfl,rfl,SqL.of ac,rfl,_,rfl,_,rfl,l2,λp2 Y=>⟨_,rfl,_,_,rfl,rfl,p2,_,_,_,rfl,rfl,SqL.of ac,rfl,I,λZ n3=>?_⟩⟩⟩;exact q _ Z (.int lo) (.int (lo+hi)) (((ai n1).trans (ai Y)).trans (ai n3)) ac (.inr (.inl ⟨rfl,lo,rfl,G,.inr ⟨_,rfl,by lia⟩⟩)) (dH (by lia)) (dH (by lia))
  .refine⟨_,rfl,_,_,rfl,rfl,dv,_,_,rfl,rfl,th,rfl,_,rfl,bK (λy=>?_) (λy=>?_)⟩
   .refine⟨_,rfl,rfl,_,rfl,bf (λe=>by cases e) ⟨_,rfl,_,_,rfl,rfl,dv,_,_,rfl,rfl,th,rfl,_,rfl,bK (λ_=>⟨_,rfl,_,rfl,I,λp hp=>?_⟩) (λy2=>absurd y y2)⟩⟩;exact q _ p .non (.int lo) (ai hp) ac (.inr (.inr ⟨rfl,lo,rfl,G,.inl rfl⟩)) yT (dH (by lia))
   .refine⟨_,rfl,_,_,rfl,rfl,dv,_,_,rfl,rfl,th,rfl,_,rfl,bK (λy2=>absurd y2 y) (λ_=>?_)⟩;refine⟨_,rfl,_,rfl,_,rfl,l2,λU n1=>⟨_,rfl,_,_,rfl,rfl,U,_,_,_,rfl,rfl,SqL.of ac,rfl,_,rfl,_,rfl,l2,λp2 Y=>⟨_,rfl,_,_,rfl,rfl,p2,_,_,_,rfl,rfl,SqL.of ac,rfl,I,λZ n3=>?_⟩⟩⟩;exact q _ Z (.int (lo+hi)) (.int lo) (((ai n1).trans (ai Y)).trans (ai n3)) ac (.inr (.inr ⟨rfl,lo,rfl,G,.inr ⟨_,rfl,by lia⟩⟩)) (dH (by lia)) (dH (by lia))
theorem Bp {C N:Addr} {kd:Str} {ok:V->V->Prop} {a e:V} {E:XK} (G:ok a e) (I:Sc a) (O:Sc e) (x dx:Addr) (nx:H x=none) (nd:H dx=none)
  (q:∀H' fs,Same H H'->H' x=some (.ins C dx fs)->wU kd fs a e->Q .non H'):BW C N kd ok [.ref x,a,e] (upd (upd H dx (.own x)) x (.ins C dx [])) Q E:=
 ⟨x,dx,a,e,rfl,ac,I,O,λ_ H' fs k h f=>q H' fs (qY nx nd k) h f,λz=>absurd G z⟩
def vQ (K:PySem.W.Frag) (t:Adr):Sp:=λvs H Q _=>∃(n:Addr) (kd:Int) (a e:V),vs=[.ref n]/\SqT K H n [.int kd,a,e]/\okN kd a e/\∀H' p,Same H H'->H p=none->TkAt t H' p kd a e->Q (.ref p) H'
theorem ww (T:Txt K mg t):FnOk P w K mg base CX0 5 t.qw t.kG ["_law_numbers_here"] (vQ K t):=by
 refine T.y7.okl wg λ_ _ _ s H vs Q E O h=>?_;intro X;obtain⟨n,kd,a,e,rfl,G,I,q⟩:=h;refine bV (λx=>aV (ao bN (aX bX (pv 0) af (λ_ _=>rfl)) af (aq _)) x aI) ?_;refine aA (aD (iU T.Bq (jK T) O.mo (by rfl) T.uY T.tK .nil az (aa (aX bX (pv 0) af (λ_ _=>rfl)) (aa (aX bX (pv 0) af (λ_ _=>rfl)) ag)))) ?_
 intros
 refine bV (λx=>aV (ao bN (aX bX (pv 0) af (λ_ _=>rfl)) af (aq _)) x aI) ?_;refine aA (aD (iU T.KN (si T) O.mo (by rfl) T.E2 T.BI .nil az (aa (aX bX (pv 0) af (λ_ _=>rfl)) (aa (aX bX (pv 0) af (λ_ _=>rfl)) ag)))) ?_
 intros
 refine aA (aD (iU T.Hj (oe T) O.mo (by rfl) T.Hk T.yY .nil az (aa (aX bX (pv 0) af (λ_ _=>rfl)) (aa (aX bX (pv 0) af (λ_ _=>rfl)) ag)))) ?_
 intros
 obtain⟨U,Y⟩:=I.sc;rcases I.kd with rfl|rfl|rfl
 .refine⟨_,rfl,n,_,_,_,rfl,rfl,G,rfl,rfl,_,rfl,fX rfl ⟨_,rfl,n,_,_,_,rfl,rfl,G,rfl,_,rfl,n,_,_,_,rfl,rfl,G,rfl,λx dx nx nd Z=>?_⟩⟩;exact Bp I.s U Y x dx nx nd λH' fs s h f=>⟨rfl,q H' x s nx ⟨dx,fs,h,f⟩⟩
 .refine⟨_,rfl,n,_,_,_,rfl,rfl,G,rfl,rfl,_,rfl,bf (λz=>by cases z) ⟨_,rfl,n,_,_,_,rfl,rfl,G,rfl,rfl,_,rfl,fX rfl ⟨_,rfl,n,_,_,_,rfl,rfl,G,rfl,_,rfl,n,_,_,_,rfl,rfl,G,rfl,λx dx nx nd Z=>?_⟩⟩⟩;exact Bp I.u U Y x dx nx nd λH' fs s h f=>⟨rfl,q H' x s nx ⟨dx,fs,h,f⟩⟩
 .refine⟨_,rfl,n,_,_,_,rfl,rfl,G,rfl,rfl,_,rfl,bf (λz=>by cases z) ⟨_,rfl,n,_,_,_,rfl,rfl,G,rfl,rfl,_,rfl,bf (λz=>by cases z) ⟨_,rfl,n,_,_,_,rfl,rfl,G,rfl,_,rfl,n,_,_,_,rfl,rfl,G,rfl,λx dx nx nd Z=>?_⟩⟩⟩;exact Bp I.d U Y x dx nx nd λH' fs s h f=>⟨rfl,q H' x s nx ⟨dx,fs,h,f⟩⟩
def vU (K:PySem.W.Frag):Sp:=λvs H Q _=>∃(n:Addr) (kd k:Int) (a e:V),vs=[.ref n,.int k]/\SqT K H n [.int kd,a,e]/\okN kd a e/\Q (.bl (hN kd a e k)) H
theorem wz (T:Txt K mg t):FnOk P w K mg base CX0 2 t.qB t.kK ["_law_numbers_here","_law_key"] (vU K):=by
 refine T.za.okl sc__law_holds λ_ _ _ s H vs Q E I h=>?_;intro X;obtain⟨n,kd,k,a,e,rfl,O,G,q⟩:=h;refine ah (rq (pv 0) (uH rfl (cR (bH (i:=2) sc__law_holds.nd rfl (Or.inl rfl)) (cR (bH (i:=3) sc__law_holds.nd rfl (Or.inl rfl)) (cR (bH (i:=4) sc__law_holds.nd rfl (Or.inl rfl)) pX)))))
   (bV (λx=>aV (ao bN (pv 2) af (aq _)) x aI) ?_)
 refine aA (aD (gi (bI lZ (pv 3) (aN (wx T) I.mo (by rfl) T.yG T.qL.kp T.yV .nil az (aa (pv 1) ag)) (aq _)) (cT (bI dZ (aN (wx T) I.mo (by rfl) T.yG T.qL.kp T.yV .nil az (aa (pv 1) ag)) (pv 4) (aq _))))) ?_
 intros
 refine bV (λx=>aV (ao bN (pv 2) af (aq _)) x aI) ?_;refine aA (aD (gi (bI lZ (pv 3) (pv 1) (aq _)) (cT (zF (bI cU (pv 4) bg (aq _)) (cT (bI dZ (pv 1) (pv 4) (aq _))))))) ?_
 intros
 refine aA (aD (gi (bI lZ (pv 4) (pv 1) (aq _)) (cT (zF (bI cU (pv 3) bg (aq _)) (cT (bI lZ (pv 1) (pv 3) (aq _))))))) ?_
 intros
 refine⟨_,rfl,n,_,rfl,O,rfl,_,_,rfl,_,_,rfl,_,_,rfl,rfl,?_⟩;rcases G.kd with rfl|rfl|rfl
 .obtain⟨i,j,rfl,rfl,_⟩:=G.s;have q:Q (.bl (decide (i<=tz (k%65536))&&decide (tz (k%65536)<j))) H:=q;refine⟨_,rfl,rfl,_,rfl,fX rfl ⟨_,rfl,_,rfl,k,rfl,_,_,rfl,rfl,_,rfl,bK (λc=>⟨_,rfl,k,rfl,_,rfl,_,_,rfl,rfl,?_⟩) (λc=>?_)⟩⟩
  .rw[c,ZV]at q;exact q
  .rw[QP.mpr c,ZC]at q;exact q
 .refine⟨_,rfl,rfl,_,rfl,bf (λz=>by cases z) ⟨_,rfl,rfl,_,rfl,fX rfl ?_⟩⟩;obtain⟨i,rfl,i0,rfl|⟨j,rfl,_⟩⟩:=G.u
  .have q:Q (.bl (decide (i<=k))) H:=q;refine⟨_,rfl,_,rfl,_,_,rfl,rfl,_,rfl,bK (λc=>⟨_,rfl,rfl,_,rfl,fX rfl ?_⟩) (λc=>?_)⟩
   .rw[c]at q;exact q
   .rw[QP.mpr c]at q;exact q
  .have q:Q (.bl (decide (i<=k)&&decide (k<j))) H:=q;refine⟨_,rfl,_,rfl,_,_,rfl,rfl,_,rfl,bK (λc=>⟨_,rfl,rfl,_,rfl,bf (λz=>by cases z) ⟨_,rfl,_,rfl,_,_,rfl,rfl,?_⟩⟩) (λc=>?_)⟩
   .rw[c,ZV]at q;exact q
   .rw[QP.mpr c,ZC]at q;exact q
 .refine⟨_,rfl,rfl,_,rfl,bf (λz=>by cases z) ⟨_,rfl,rfl,_,rfl,bf (λz=>by cases z) ?_⟩⟩;obtain⟨j,rfl,U,rfl|⟨i,rfl,_⟩⟩:=G.d
  .have q:Q (.bl (decide (j<=k))) H:=q;refine⟨_,rfl,_,rfl,_,_,rfl,rfl,_,rfl,bK (λc=>⟨_,rfl,rfl,_,rfl,fX rfl ?_⟩) (λc=>?_)⟩
   .rw[c]at q;exact q
   .rw[QP.mpr c]at q;exact q
  .have q:Q (.bl (decide (j<=k)&&decide (k<=i))) H:=q;refine⟨_,rfl,_,rfl,_,_,rfl,rfl,_,rfl,bK (λc=>⟨_,rfl,rfl,_,rfl,bf (λz=>by cases z) ⟨_,rfl,_,rfl,_,_,rfl,rfl,?_⟩⟩) (λc=>?_)⟩
   .rw[c,ZV]at q;exact q
   .rw[QP.mpr c,ZC]at q;exact q
theorem w6:(0:Int)<10^(38:Int).toNat:=by decide
theorem Iw {i:Int} (G:0<=i) (h1:i<=11) (z:0<=m) (I:m<=65536):0<=i*m/\i*m<=720896:=⟨X6 G z,Int.le_trans (Int.mul_le_mul h1 I z (by decide)) (by decide)⟩
def G0 (H:Hp) (c n way:Int):St->Hp->Prop:=λσ H'=>H=H'/\∃st:Int,σ=[some (.int c),some (.int st),some (.int n),some (.int way),none]/\0<=st/\st<=10^38
def zp:Sp:=λvs H Q _=>∃c:Int,vs=[.int c]/\∀(H':Hp) (r:Addr) (rs:List Int),Same H H'->H r=none->H' r=some (.lst (rs.map V.int))->rs.length<=12->(∀k∈rs,0<=k/\k<10^39)->Q (.ref r) H'
theorem zK (T:Txt K mg t):FnOk P w K mg base CX0 2 t.vC t.pD ["_law_cell"] zp:=by
 refine T.BO.okl sc__law_run λ_ _ _ s H vs Q E hr h=>?_;intro X;obtain⟨c,rfl,q⟩:=h;refine bV (λx=>aV (ao bN (al aQ (pv 0) af) af (aq _)) x aI) ?_;refine ah (ay (i:=1) sc__law_run.nd rfl (Or.inr rfl) (al aQ (al aT (pv 0) af) (al jn af af)))
   (aA (aD (iV rfl (CScope.of (M:=["_law_k"]) (N:=["_law_cell","_law_start","_law_number","_law_way","_law_step"]) (N':=["_law_cell","_law_start","_law_number","_law_way","_law_step"]) (dsc:=aj gZ) rfl rfl (by decide+kernel)) (gS (by rfl) T.ni (aa (al bp af (al aQ (al aT (pv 0) af) af)) ag)) (λ_ _ _ _ _=>(al bp (pv 2) (al dA (pv 0) (aX (Fm K rfl) (bT (aa af (aa af (aa af (aa af (aa af ag)))))) (al aQ (al aT (pv 1) af) af) (λ_ _=>rfl))))))) ?_)
 intros
 refine ah (ay (i:=2) sc__law_run.nd rfl (Or.inl rfl) (aN (nZ T) hr.mo (by rfl) T.yH T.qM.kp T.yW .nil az (aa (pv 0) (aa af ag))))
   (ah (ay (i:=3) sc__law_run.nd rfl (Or.inl rfl) (al aQ (pv 2) af))
   (ah (ay (i:=1) sc__law_run.nd rfl (Or.inr rfl) (al aQ (al aT (pv 2) af) af))
   (ah (aV (ao bN (pv 3) af (aq _))
    (aB (ay (i:=1) sc__law_run.nd rfl (Or.inr rfl) (al aQ (al aT (pv 0) af) (al jn af af))))
    aI)
   (ah (aV (ao bN (pv 3) af (aq _))
    (aB (ay (i:=1) sc__law_run.nd rfl (Or.inr rfl) (al dA af (al aQ (al aT (pv 2) af) af))))
    aI)
   (bV (λx=>aV (ao bN (pv 3) af (aq _)) x aI) ?_)))))
 refine aA (ay (i:=1) sc__law_run.nd rfl (Or.inr rfl) (al bp (al dA af (al aQ (al aT (pv 2) af) af)) (al aQ (al aT (pv 2) af) af))) ?_
 intros
 refine ah (aV (ao bN (pv 3) af (aq _))
    (aB (ay (i:=1) sc__law_run.nd rfl (Or.inr rfl) (al aQ (al aT (pv 2) af) af)))
    aI)
   (ah (ay (i:=4) sc__law_run.nd rfl (Or.inr rfl) (aX aW (bT (aa af (aa af (aa af (aa af (aa af ag)))))) (al aQ (al aT (pv 2) af) af) (λ_ _=>rfl)))
   (aA (aD (iV rfl (CScope.of (M:=["_law_k"]) (N:=["_law_cell","_law_start","_law_number","_law_way","_law_step"]) (N':=["_law_cell","_law_start","_law_number","_law_way","_law_step"]) (dsc:=aj gZ) rfl rfl (by decide+kernel)) (gS (by rfl) T.ni (aa (al bp af (al aQ (al aT (pv 2) af) af)) ag)) (λ_ _ _ _ _=>(al bp (pv 2) (al dA (pv 0) (pv 5)))))) ?_))
 intros
 have two:(0:Int)<2:=by decide
 have a2:(10:Int)^(38:Int).toNat=10^38:=rfl;refine⟨_,rfl,_,_,rfl,rfl,two,rfl,_,rfl,bK (λz=>?_) (λz=>?_)⟩
 .have G:=Qe (c/120) (QR w6);have s1:=Qb (c/120) w6;refine⟨_,rfl,_,_,rfl,rfl,⟨by decide,by decide⟩,_,_,rfl,rfl,⟨by decide,by decide,by decide⟩,_,_,rfl,rfl,w6,?_⟩
  (try dsimp only)
  generalize c/120%10^(38:Int).toNat=st at G s1⊢;rw[a2]at s1;have b0:=Qe (c/2) (show(12:Int)≠0 by decide);have b1:=Qb (c/2) (show(0:Int)<12 by decide);refine⟨_,rfl,_,_,rfl,rfl,⟨by decide,by decide⟩,_,_,rfl,rfl,(by show(0:Int)<12;decide),_,_,rfl,rfl,?_⟩
  (try dsimp only)
  generalize c/2%12=m at b0 b1⊢;refine⟨1+m,rfl,by lia,by lia,λD hD=>pE (n:=(1+m).toNat) (lo:=0) (λi ys H2=>Same H H2/\∃rs:List Int,ys=rs.map V.int/\rs.length=i/\∀k∈rs,0<=k/\k<10^39) ⟨ai hD,[],rfl,rfl,λ_ z=>absurd z QT⟩ (λi ys H2 hi w I=>?_) (λys H2 w I=>?_)⟩
  .obtain⟨U,rs,rfl,lr,hb⟩:=w;obtain⟨sp,Y,p0,p1⟩:=xh (c:=c/24) (n:=5) (L:=[.int 1,.int 3,.int 256,.int 65536,.int 5000]) (P:=λm=>0<=m/\m<=65536) ⟨⟨by decide,by decide⟩,⟨by decide,by decide⟩,⟨by decide,by decide⟩,⟨by decide,by decide⟩,⟨by decide,by decide⟩,trivial⟩ rfl (by decide);refine⟨_,rfl,_,rfl,(by show 5<=sizeLine;decide),λp np=>⟨_,rfl,_,_,rfl,rfl,⟨by decide,by decide⟩,_,_,rfl,rfl,(by show(0:Int)<5;decide),p,_,_,_,rfl,rfl,SqL.of ac,Y,_,_,rfl,rfl,.inr ⟨by lia,by lia⟩,_,_,rfl,rfl,?_⟩⟩;have O:=ai (o:= .lst [.int 1,.int 3,.int 256,.int 65536,.int 5000]) np
   (try dsimp only)
   generalize upd H2 p (.lst [.int 1,.int 3,.int 256,.int 65536,.int 5000])=H3 at O⊢;obtain⟨x0,x1⟩:=Iw (i:=0+(i:Int)) (by lia) (by lia) p0 p1;generalize (0+(i:Int))*sp=x at x0 x1⊢;refine CNext.mk hi (O _ _ I) (cu (by rw[Q0];lia)) ⟨bP (U.trans O) hD,rs++ [st+x],by rw[Qc];rfl,by rw[Qa,lr];rfl,λk hk=>?_⟩;rcases Q5.mp hk with hk|hk
   .exact hb k hk
   .rw[Q7.mp hk];constructor<;>lia
  .obtain⟨U,rs,rfl,lr,hb⟩:=w;exact q H2 D rs U hD I (by lia) hb
 clear z;refine⟨_,rfl,c,1,rfl,λn n0 n1=>?_⟩;refine⟨_,rfl,_,_,rfl,rfl,(by show(0:Int)<5;decide),?_⟩
 (try dsimp only)
 generalize n%5=way;have G:=Qe (n/5) (show(50:Int)≠0 by decide);have s1:=Qb (n/5) (show(0:Int)<50 by decide);refine⟨_,rfl,_,_,rfl,rfl,⟨by decide,by decide⟩,_,_,rfl,rfl,(by show(0:Int)<50;decide),?_⟩
 (try dsimp only)
 generalize n/5%50=st at G s1⊢;refine b6 (G0 H c n way) (λnx go=>?_) (λZ H1 w=>?_)
 .refine⟨_,rfl,rfl,_,rfl,bK (λz=>?_) (λz=>go _ _ ⟨rfl,st,rfl,G,by lia⟩)⟩;have a0:=Qe (c/5) (QR w6);have a1:=Qb (c/5) w6;refine⟨_,rfl,_,_,rfl,rfl,⟨by decide,by decide⟩,_,_,rfl,rfl,⟨by decide,by decide,by decide⟩,_,_,rfl,rfl,w6,go _ _ ⟨rfl,_,rfl,a0,?_⟩⟩;rw[a2]at a1⊢;lia
 clear G s1 st;obtain⟨rfl,st,rfl,G,s1⟩:=w;refine b6 (G0 H c n way) (λnx go=>?_) (λZ H1 w=>?_)
 .refine⟨_,rfl,rfl,_,rfl,bK (λz=>?_) (λz=>go _ _ ⟨rfl,st,rfl,G,s1⟩)⟩;have a0:=Qe (n/5) (show(40:Int)≠0 by decide);have a1:=Qb (n/5) (show(0:Int)<40 by decide);exact⟨_,rfl,_,_,rfl,rfl,⟨by decide,by decide⟩,_,_,rfl,rfl,(by show(0:Int)<40;decide),_,_,rfl,rfl,.inl ⟨by decide,by decide⟩,go _ _ ⟨rfl,_,rfl,by lia,by lia⟩⟩
 clear G s1 st;obtain⟨rfl,st,rfl,G,s1⟩:=w;refine b6 (G0 H c n way) (λnx go=>?_) (λZ H1 w=>?_)
 .refine⟨_,rfl,rfl,_,rfl,bK (λz=>?_) (λz=>go _ _ ⟨rfl,st,rfl,G,s1⟩)⟩;have a0:=Qe (n/5) (show(9:Int)≠0 by decide);have a1:=Qb (n/5) (show(0:Int)<9 by decide);have b0:=Qe (n/45) (show(7:Int)≠0 by decide);have b1:=Qb (n/45) (show(0:Int)<7 by decide);exact⟨_,rfl,_,_,rfl,rfl,⟨by decide,by decide⟩,_,_,rfl,rfl,(by show(0:Int)<9;decide),_,_,rfl,rfl,.inl ⟨by decide,by decide⟩,_,rfl,_,_,rfl,rfl,⟨by decide,by decide⟩,_,_,rfl,rfl,(by show(0:Int)<7;decide),_,_,rfl,rfl,go _ _ ⟨rfl,_,rfl,by lia,by lia⟩⟩
 clear G s1 st;obtain⟨rfl,st,rfl,G,s1⟩:=w;refine b6 (G0 H c n way) (λnx go=>?_) (λZ H1 w=>?_)
 .refine⟨_,rfl,rfl,_,rfl,bK (λz=>?_) (λz=>go _ _ ⟨rfl,st,rfl,G,s1⟩)⟩;have a0:=Qe (n/5) (show(3000:Int)≠0 by decide);have a1:=Qb (n/5) (show(0:Int)<3000 by decide);exact⟨_,rfl,_,_,rfl,rfl,⟨by decide,by decide⟩,_,_,rfl,rfl,(by show(0:Int)<3000;decide),go _ _ ⟨rfl,_,rfl,by lia,by lia⟩⟩
 clear G s1 st;obtain⟨rfl,st,rfl,G,s1⟩:=w;obtain⟨sp,Y,p0,p1⟩:=xh (c:=n/20000) (n:=5) (L:=[.int 1,.int 3,.int 256,.int 65536,.int 5000]) (P:=λm=>0<=m/\m<=65536) ⟨⟨by decide,by decide⟩,⟨by decide,by decide⟩,⟨by decide,by decide⟩,⟨by decide,by decide⟩,⟨by decide,by decide⟩,trivial⟩ rfl (by decide);refine⟨(by show 5<=sizeLine;decide),λp np=>⟨_,rfl,_,_,rfl,rfl,⟨by decide,by decide⟩,_,_,rfl,rfl,(by show(0:Int)<5;decide),p,_,_,_,rfl,rfl,SqL.of ac,Y,?_⟩⟩;have O:=ai (o:= .lst [.int 1,.int 3,.int 256,.int 65536,.int 5000]) np
 (try dsimp only)
 generalize upd H p (.lst [.int 1,.int 3,.int 256,.int 65536,.int 5000])=H3 at O⊢;have b0:=Qe (n/100000) (show(12:Int)≠0 by decide);have b1:=Qb (n/100000) (show(0:Int)<12 by decide);refine⟨_,rfl,_,_,rfl,rfl,⟨by decide,by decide⟩,_,_,rfl,rfl,(by show(0:Int)<12;decide),_,_,rfl,rfl,?_⟩
 (try dsimp only)
 generalize n/100000%12=m at b0 b1⊢;refine⟨1+m,rfl,by lia,by lia,λD hD=>pE (n:=(1+m).toNat) (lo:=0) (λi ys H2=>Same H3 H2/\∃rs:List Int,ys=rs.map V.int/\rs.length=i/\∀k∈rs,0<=k/\k<10^39) ⟨ai hD,[],rfl,rfl,λ_ z=>absurd z QT⟩ (λi ys H2 hi w I=>?_) (λys H2 w I=>?_)⟩
 .obtain⟨U,rs,rfl,lr,hb⟩:=w;obtain⟨x0,x1⟩:=Iw (i:=0+(i:Int)) (by lia) (by lia) p0 p1;refine⟨_,rfl,_,rfl,_,rfl,_,_,rfl,rfl,.inr ⟨by lia,by lia⟩,_,_,rfl,rfl,?_⟩
  (try dsimp only)
  generalize (0+(i:Int))*sp=x at x0 x1⊢;refine CNext.mk hi I (cu (by rw[Q0];lia)) ⟨bP U hD,rs++ [st+x],by rw[Qc];rfl,by rw[Qa,lr];rfl,λk hk=>?_⟩;rcases Q5.mp hk with hk|hk
  .exact hb k hk
  .rw[Q7.mp hk];constructor<;>lia
 .obtain⟨U,rs,rfl,lr,hb⟩:=w;exact q H2 D rs (O.trans U) (de O hD) I (by lia) hb
def Wh (F:Addr->Prop) (d:Addr):Addr->Prop:=λb=>F b\/b=d
theorem Fr.wh {d:Addr} (f:Fr F F' H H'):Fr (Wh F d) (Wh F' d) H H':=λb o n G=>⟨(f b o (λz=>n (.inl z)) G).1,λz=>z.elim (f b o (λz=>n (.inl z)) G).2 λz=>n (.inr z)⟩
theorem Fr.wd {d:Addr}:Fr (Wh F d) (Wh F d) H (upd H d o):=λb o n G=>⟨by rw[ae λz=>n (.inr z)];exact G,n⟩
structure Jh (K:PySem.W.Frag) (t:Adr) (H:Hp) (a d:Addr) (F:Addr->Prop) (x:HSt):Prop where
 A:HoA K t H a F x
 di:H d=some (.dK (aK x.st.kv))
 nd:¬F d
 kb:∀k∈x.st.kv.map (·.1),0<=k/\k<10^40
 iv:∀p∈x.st.kv,∃i:Int,p.2= .int i
 le:x.st.kv.length<=301
 ma:x.ma=0
theorem Jo {kv:List (Int×V)} {i:Int} (h:∀p∈kv,∃i:Int,p.2= .int i):∀p∈bz kv k (.int i),∃i:Int,p.2= .int i:=λp z=>by
 unfold bz at z;split at z
 .obtain⟨q,hq,rfl⟩:=Qh.mp z;by_cases c:q.1=k
  .exact⟨i,by rw[if_pos c]⟩
  .rw[if_neg c];exact h q hq
 .rcases Q5.mp z with y|y
  .exact h p y
  .rw[Q7.mp y];exact⟨i,rfl⟩
section
variable {d:Addr} {x:HSt} {i:Int}
theorem Jh.fr (J:Jh K t H a d F x) (A:HoA K t H' a F' x) (f:Fr F F' H H'):Jh K t H' a d F' x:=⟨A,(f _ _ J.nd J.di).1,(f _ _ J.nd J.di).2,J.kb,J.iv,J.le,J.ma⟩
theorem Jh.same (J:Jh K t H a d F x) (s:Same H H'):Jh K t H' a d F x:=J.fr (J.A.same s) (Fr.of_same s)
theorem Jh.put (J:Jh K t H a d F x) (A:HoA K t H' a F' x') (f:Fr F F' H H') (e:x'.st=x.st.put k (.int i)) (m:x'.ma=x.ma) (k0:0<=k/\k<10^40) (l:x.st.kv.length<=300):Jh K t (L2.upd H' d (.dK (aK (bz x.st.kv k (.int i))))) a d F' x':=by
 obtain⟨O,I⟩:=f _ _ J.nd J.di;have G:x'.st.kv=bz x.st.kv k (.int i):=by rw[e];exact SSt.three_kv
 refine⟨A.upd I (λxs z=>by rw[O]at z;cases z),by rw[G];exact ac,I,λz hz=>?_,by rw[G];exact Jo J.iv,?_,m.trans J.ma⟩
 .rw[G,qh]at hz;split at hz
  .exact J.kb z hz
  .rcases Q5.mp hz with y|y
   .exact J.kb z y
   .rw[Q7.mp y];exact k0
 .rw[G];have:=cn x.st.kv k (.int i);lia
theorem Jh.drop (J:Jh K t H a d F x) (A:HoA K t H' a F' x') (f:Fr F F' H H') (e:x'.st=x.st.drop k) (m:x'.ma=x.ma):Jh K t (L2.upd H' d (.dK (aK (bW x.st.kv k)))) a d F' x':=by
 obtain⟨U,O⟩:=f _ _ J.nd J.di;have I:x'.st.kv=bW x.st.kv k:=by rw[e];exact SSt.three_kv
 have sub:∀p∈bW x.st.kv k,p∈x.st.kv:=λp G=>(QH.mp G).1;refine⟨A.upd O (λxs z=>by rw[U]at z;cases z),by rw[I];exact ac,O,λz hz=>?_,by rw[I];exact λp G=>J.iv p (sub p G),?_,m.trans J.ma⟩
 .rw[I]at hz;obtain⟨p,G,rfl⟩:=Qh.mp hz;exact J.kb _ (Qh.mpr ⟨p,sub p G,rfl⟩)
 .rw[I];exact QD (Qo _ _) J.le
end
def yd (K:PySem.W.Frag) (t:Adr):Sp:=λvs H Q _=>∃(a d:Addr) (c:Int) (F:Addr->Prop) (x:HSt),vs=[.ref a,.ref d,.int c]/\Jh K t H a d F x/\x.now<3900/\x.st.kv.length<=300/\
 ∀(H':Hp) (F':Addr->Prop) (x':HSt),Jh K t H' a d F' x'->x'.now<=x.now+12->x'.st.kv.length<=300->Fr (Wh F d) (Wh F' d) H H'->Q .non H'
theorem yA (T:Txt K mg t):FnOk P w K mg base CX0 7 t.sG t.mI ["_law_house_here","_law_kept","_law_cell"] (yd K t):=by
 refine T.At.okl sc__law_deed λ_ _ _ s H vs Q E Y h=>?_;intro X;obtain⟨a,d,c,F,x,rfl,J,l1,l0,q⟩:=h;refine ah (ay (i:=3) sc__law_deed.nd rfl (Or.inl rfl) (aN (zK T) Y.mo (by rfl) T.Jx T.BO.kp T.J0 .nil az (aa (al aT (pv 2) af) ag)))
   (uV (λx=>(ii PassesOwn.never rfl (gS (by rfl) T.ni (aa (aF aE (by rfl) T.bO bh (aa (pv 3) ag)) ag)) (bH (i:=4) sc__law_deed.nd rfl (Or.inl rfl))
    x)) ?_)
 refine Iv (λx y=>aV (ao bN (al aQ (pv 2) af) af (aq _)) x y) ?_;refine uV (λx=>aV (Bg (EN (su Y) (aX aW (pv 3) (pv 4) (λ_ _=>rfl)) (pv 1))) x aI) ?_;refine ah (aS (aR (pv 0) T.aO T.Gn (uU T) Y.mo T.Gy .nil az (aa (aX aW (pv 3) (pv 4) (λ_ _=>rfl)) ag)))
   (aA (aS (dJ QQ Xk PySem.F.type_dict_pop B9 (pv 1) (aa (aX aW (pv 3) (pv 4) (λ_ _=>rfl)) ag))) ?_)
 intros
 refine uV (λx=>aV (ao dZ (aF DI (by rfl) T.bO bh (aa (pv 1) ag)) af (aq _)) x aI) ?_;refine ah (ay (i:=5) sc__law_deed.nd rfl (Or.inl rfl) (al dA (al aQ (al bp (al aT (pv 2) af) (pv 4)) (al jn af af)) (aX aW (bT (aa af (aa (EK AN af) ag))) (al aQ (al aT (pv 2) af) af) (λ_ _=>rfl))))
   (bV (λx=>aV (ao bN (al aQ (al aT (pv 2) af) af) af (aq _)) x aI) ?_)
 refine aA (ay (i:=5) sc__law_deed.nd rfl (Or.inl rfl) (al io (al aQ (al bp (al zI (pv 2) (al dA af (al jn af af))) (pv 4)) (al dA af (al jn af af))) (al jn af af))) ?_
 intros
 refine ah (aS (aR (pv 0) T.aO T.Hr (wE T) Y.mo T.HQ .nil az (aa (aX aW (pv 3) (pv 4) (λ_ _=>rfl)) (aa (pv 5) ag))))
   (aA (yr (su Y) (pv 1) (aX aW (pv 3) (pv 4) (λ_ _=>rfl)) (pv 5) rfl) ?_)
 intros
 refine⟨_,rfl,_,_,rfl,rfl,⟨by decide,by decide⟩,_,rfl,λH1 r rs s1 nr Y lr rb=>?_⟩;have J1:=J.same s1;have nF:¬F r:=J.A.out nr;have a2:r≠d:=ak J.di nr|>.symm;refine⟨_,rfl,r,_,rfl,.inl (SqL.of Y),?_⟩;rw[Q0];refine⟨(rs.length:Int),rfl,by lia,by lia,BD (n:=(rs.length:Int).toNat) (λi σ H'=>∃(F':Addr->Prop) (x':HSt) (v4 v5:Option V),σ=[some (.ref a),some (.ref d),some (.int c),some (.ref r),v4,v5]/\Jh K t H' a d F' x'/\x'.now<=x.now+i/\x'.st.kv.length<=300/\Fr (Wh F d) (Wh F' d) H1 H') ⟨F,x,none,none,rfl,J1,by lia,l0,Fr.refl⟩ (λi σ H2 hi w=>?_) (λσ H2 w=>?_)⟩
 .obtain⟨F2,G,v4,v5,rfl,I,l2,e2,Z⟩:=w;obtain⟨U,a0⟩:=Z _ _ (λz=>z.elim nF a2) Y;have hi':i<rs.length:=by lia
  obtain⟨k,ek⟩:∃k,rs[i]?=some k:=⟨_,Q3 hi'⟩;obtain⟨k0,k1⟩:=rb k (Q1 ek);have O:atI (rs.map V.int) (0+(i:Int))=some (.int k):=by
   rw[Int.zero_add];refine tU ?_;rw[Qn,ek];rfl
  obtain⟨a3,a4,a5,a7,_⟩:=I.A.ins;have m2:=I.ma;refine⟨_,rfl,_,_,rfl,rfl,(by show(0:Int)<4;decide),rfl,_,rfl,bK (λz=>?_) (λz=>?_)⟩
  .refine⟨_,rfl,_,rfl,r,_,_,_,rfl,rfl,SqL.of U,O,_,rfl,d,_,rfl,DGet.k (k:=Sum.inl k) I.di,_,rfl,?_⟩;rw[liftK_val];cases ev:aP G.st.kv k with
   |none=>exact cM ⟨F2,G,_,_,rfl,I,by lia,e2,Z⟩
   |some v=>
    refine db ⟨_,rfl,a,a3,a4,rfl,a5,a7 _ (by decide+kernel),_,rfl,_,rfl,r,_,_,_,rfl,rfl,SqL.of U,O,a,k,F2,G,rfl,I.A,k0,by lia,λ_ H3 F3 b5 r3 q3 b8 A3 N3 f3=>?_,λz=>by rw[ev]at z;cases z⟩;obtain⟨d3,n3⟩:=f3 _ _ I.nd I.di;obtain⟨ab,b9⟩:=f3 _ _ (λz=>a0 (.inl z)) U;refine⟨_,rfl,.inr (.inr (.inl ⟨rfl,.inl ⟨_,d3⟩⟩)),_,rfl,_,rfl,r,_,_,_,rfl,rfl,SqL.of ab,O,d,_,Sum.inl k,v,rfl,rfl,d3,liftK_val.trans ev,?_⟩;rw[va];exact⟨F3,_,_,_,rfl,I.drop A3 f3 rfl rfl,by show G.now+1<=_;lia,by rw[show(G.st.drop k).kv=bW G.st.kv k from SSt.three_kv];exact QD (Qo _ _) e2,(Z.trans f3.wh).trans Fr.wd⟩
  .refine⟨_,rfl,d,_,rfl,I.di,_,_,rfl,rfl,_,rfl,bK (λy=>?_) (λy=>⟨F2,G,_,_,rfl,I,by lia,e2,Z⟩)⟩;have y:=of_decide_eq_true y;rw[cv]at y;refine b6 (λσ H'=>∃v:Int,σ=[some (.ref a),some (.ref d),some (.int c),some (.ref r),some (.int (0+(i:Int))),some (.int v)]/\Same H2 H') (λnx go=>?_) (λσ H3 w=>?_)
   .obtain⟨sg,an,g0⟩:=xh (c:=c/16) (n:=2) (L:=[.int 1,.int (-1)]) (P:=λm=> -2<m/\m<2) ⟨⟨by decide,by decide⟩,⟨by decide,by decide⟩,trivial⟩ rfl (by decide);exact⟨_,rfl,_,_,rfl,rfl,⟨by decide,by decide⟩,_,rfl,_,_,rfl,rfl,_,_,rfl,rfl,⟨by decide,by decide,by decide⟩,_,_,rfl,rfl,tZ,_,rfl,(by show 2<=sizeLine;decide),λp np=>⟨_,rfl,_,_,rfl,rfl,⟨by decide,by decide⟩,_,_,rfl,rfl,(by show(0:Int)<2;decide),p,_,_,_,rfl,rfl,SqL.of ac,an,_,_,rfl,rfl,.inr ⟨by lia,by lia⟩,go _ _ ⟨_,rfl,ai np⟩⟩⟩
   obtain⟨v,rfl,s3⟩:=w;refine b6 (λσ H'=>∃v:Int,σ=[some (.ref a),some (.ref d),some (.int c),some (.ref r),some (.int (0+(i:Int))),some (.int v)]/\Same H2 H') (λnx go=>?_) (λσ H4 w=>?_)
   .refine⟨_,rfl,_,_,rfl,rfl,⟨by decide,by decide⟩,_,_,rfl,rfl,(by show(0:Int)<2;decide),rfl,_,rfl,bK (λ_=>?_) (λ_=>go _ _ ⟨v,rfl,s3⟩)⟩;exact⟨_,rfl,_,_,rfl,rfl,⟨by decide,by decide,by decide⟩,_,_,rfl,rfl,.inl ⟨by decide,by decide⟩,_,_,rfl,rfl,⟨by decide,by decide⟩,_,rfl,_,_,rfl,rfl,_,_,rfl,rfl,⟨by decide,by decide,by decide⟩,_,_,rfl,rfl,.inl ⟨by decide,by decide⟩,_,_,rfl,rfl,(by show(0:Int)<2*10^(39:Int).toNat;decide),_,_,rfl,rfl,⟨by decide,by decide,by decide⟩,_,_,rfl,rfl,go _ _ ⟨_,rfl,s3⟩⟩
   clear s3 v;obtain⟨v,rfl,s4⟩:=w;have J4:=I.same s4;obtain⟨ap,aw,ax,b1,_⟩:=J4.A.ins;have a1:=s4 _ _ U;refine⟨_,rfl,a,ap,aw,rfl,ax,b1 _ (by decide+kernel),_,rfl,_,rfl,r,_,_,_,rfl,rfl,SqL.of a1,O,_,rfl,a,k,v,F2,G,rfl,J4.A,k0,by lia,λH5 F5 ba r5 q5 bb A5 N5 f5=>?_⟩;obtain⟨d5,n5⟩:=f5 _ _ J4.nd J4.di;obtain⟨b2,be⟩:=f5 _ _ (λz=>a0 (.inl z)) a1;refine⟨_,rfl,_,rfl,_,rfl,_,rfl,r,_,_,_,rfl,rfl,SqL.of b2,O,d,_,rfl,DPut.k (k:=Sum.inl k) d5 (by rw[cv];exact br (by lia)),?_⟩;rw[gT];exact⟨F5,_,_,_,rfl,J4.put A5 f5 rfl rfl ⟨k0,by lia⟩ (by lia),by show G.now+1<=_;lia,by rw[show(G.st.put k (.int v)).kv=bz G.st.kv k (.int v) from SSt.three_kv];have:=cn G.st.kv k (.int v);lia,(Z.trans ((Fr.of_same s4).trans f5.wh)).trans Fr.wd⟩
 .obtain⟨F2,G,v4,v5,rfl,I,l2,e2,Z⟩:=w;exact q H2 F2 G I (by lia) e2 ((Fr.of_same s1).trans Z)
def vT (K:PySem.W.Frag) (t:Adr):Sp:=λvs H Q _=>∃(l:Addr) (cs:List Int),vs=[.ref l]/\H l=some (.lst (cs.map V.int))/\cs.length<=63/\
 ∀(H':Hp) (r a d:Addr) (F:Addr->Prop) (x:HSt),H r=none->¬F r->H' r=some (.tup [.ref a,.ref d])->Jh K t H' a d F x->x.now<=12*cs.length->x.st.kv.length<=300->(∀b o,H b=some o->H' b=some o/\¬Wh F d b)->Q (.ref r) H'
theorem wy (T:Txt K mg t):FnOk P w K mg base CX0 8 t.qA t.kJ ["_law_cells"] (vT K t):=by
 refine T.y9.okl sc__law_house λ_ _ _ s H vs Q E hr h=>?_;intro X;obtain⟨l,cs,rfl,hl,ll,q⟩:=h;refine ah (ay (i:=1) sc__law_house.nd rfl (Or.inl rfl) (pZ T.KQ (uT T) hr.mo (by rfl) T.KU T.Gx .nil az))
   (ah (ay (i:=2) sc__law_house.nd rfl (Or.inl rfl) eO)
   (bV (λx=>(ii PassesOwn.never rfl (c8 (pv 0)) (bH (i:=3) sc__law_house.nd rfl (Or.inl rfl))
    x)) ?_))
 refine aA (aS (aN (yA T) hr.mo (by rfl) T.IB T.At.kp T.II .nil az (aa (pv 1) (aa (pv 2) (aa (pv 3) ag))))) ?_
 intros
 refine aA (aD (bC (aa (pv 1) (aa (pv 2) ag)))) ?_
 intros
 refine λa dx na nd a0=>⟨a,dx,rfl,ac,λH1 F1 A1 f1=>⟨rfl,λd O=>?_⟩⟩;have U:∀b o,H b=some o->H1 b=some o/\¬F1 b:=λb o e=>f1 b o (ak e na) (by rw[ae (ak e na),ae (ak e nd)];exact e);have J2:Jh K t (upd H1 d (.dK [])) a d F1 HSt.new:=⟨A1.same (ai O),ac,A1.out O,(λ_ z=>by cases z),(λ_ z=>by cases z),by decide,rfl⟩;have o2:∀b o,H b=some o->upd H1 d (.dK []) b=some o/\¬Wh F1 d b:=λb o e=>⟨by rw[ae (ak (U b o e).1 O)];exact(U b o e).1,λz=>z.elim (U b o e).2 (ak (U b o e).1 O)⟩;show zl _ _ _ _ (upd H1 d (.dK []));generalize upd H1 d (.dK [])=H2 at J2 o2⊢;refine⟨_,rfl,l,rfl,⟨_,SqL.of (o2 _ _ hl).1⟩,nI (K:=K) (a:=l) (xs:=cs.map V.int) (λi σ H'=>∃(F':Addr->Prop) (x':HSt) (Y:Option V),σ=[some (.ref l),some (.ref a),some (.ref d),Y]/\Jh K t H' a d F' x'/\x'.now<=12*i/\x'.st.kv.length<=300/\∀b o,H b=some o->H' b=some o/\¬Wh F' d b) ⟨F1,_,none,rfl,J2,by decide,by decide,o2⟩ (λi σ H' _ w=>?_) (λi z σ H' hz w=>?_) (λσ H' w=>?_)⟩
 .obtain⟨F',x',Y,rfl,G,l',Z,o'⟩:=w;exact SqL.of (o' _ _ hl).1
 .obtain⟨F',x',Y,rfl,G,l',Z,o'⟩:=w;have hi:=(Q2.mp hz).1;rw[Q0]at hi;obtain⟨c,hc,rfl⟩:=Qh.mp (Q1 hz);exact⟨_,rfl,_,rfl,_,rfl,a,d,c,F',x',rfl,G,by lia,Z,λH3 F3 x3 J3 l3 e3 f3=>⟨F3,x3,_,rfl,J3,by lia,e3,λb o e=>f3 b o (o' b o e).2 (o' b o e).1⟩⟩
 .obtain⟨F',x',Y,rfl,G,l',Z,o'⟩:=w;rw[Q0]at l';refine⟨_,rfl,_,rfl,(by show 2<=sizeLine;decide),λr I=>?_⟩;refine q _ r a d F' x' ?_ (G.A.out I) ac (G.same (ai I)) (by lia) Z λb o e=>⟨by rw[ae (ak (o' b o e).1 I)];exact(o' b o e).1,(o' b o e).2⟩;cases e:H r with
  |none=>rfl
  |some o=>rw[(o' _ _ e).1]at I;cases I
structure CoP (t:Adr) (H:Hp) (c a p dd:Addr) (rest:V) (n:Int) (page:V):Prop where
 ob:∃dx,H c=some (.ins t.a7 dx [("house",.ref a),("first",.ref p),("rest",rest),("followed",.int n),("copied",.ref dd),("page",page)])
structure PgO (t:Adr) (H:Hp) (g tk nd:Addr) (found ahead closing:V):Prop where
 ob:∃dx,H g=some (.ins t.cZ dx [("asked",.ref tk),("found",found),("ahead",ahead),("noted",.ref nd),("closing",closing)])
 no:H nd=some (.dK [])
theorem CoP.same {dd:Addr} {rest page:V} (C:CoP t H c a p dd rest n page) (s:Same H H'):CoP t H' c a p dd rest n page:=by
 obtain⟨dx,z⟩:=C.ob;exact⟨⟨dx,s _ _ z⟩⟩
theorem iS {x:V}:a9 f v ((f,x)::r)=(f,v)::r:=by rw[a9,if_pos rfl]
def vZ (t:Adr):Sp:=λvs H Q _=>∃(g dx tk:Addr),vs=[.ref g,.ref tk]/\H g=some (.ins t.cZ dx [])/\
 ∀H' nd,PgO t H' g tk nd .non .non .non->H nd=none->(∀b o,b≠g->H b=some o->H' b=some o)->Q .non H'
theorem wD (T:Txt K mg t):FnOk P w K mg base CX0 1 t.qG t.kP ["self","token"] (vZ t):=by
 refine T.HZ.okl wk λ_ _ _ s H vs Q E U h=>?_;intro X;obtain⟨g,dx,Y,rfl,O,q⟩:=h;refine ah (bc (pv 0) (pv 1) rfl)
   (ah (bc (pv 0) bg rfl)
   (ah (bc (pv 0) bg rfl)
   (ah (bc (pv 0) eO rfl)
   (aA (bc (pv 0) bg rfl) ?_))))
 intros
 refine⟨_,rfl,_,rfl,g,_,dx,[],rfl,O,T.bQ,T.wH,(by show 0<1000;decide),?_⟩;rw[bu];refine⟨_,rfl,g,_,dx,_,rfl,ac,T.bQ,T.dL,(by show 1<1000;decide),?_⟩;rw[bG,au (by decide+kernel),bu];refine⟨_,rfl,g,_,dx,_,rfl,ac,T.bQ,T.oi,(by show 2<1000;decide),?_⟩;rw[bG,au (by decide+kernel),au (by decide+kernel),bu];refine λnd G=>?_;have I:nd≠g:=λz=>by rw[z,ac]at G;cases G
 refine⟨_,rfl,g,_,dx,_,rfl,ai G _ _ ac,T.bQ,T.wG,(by show 3<1000;decide),?_⟩;rw[au (by decide+kernel),au (by decide+kernel),au (by decide+kernel),bu];refine⟨_,rfl,g,_,dx,_,rfl,ac,T.bQ,T.dP,(by show 4<1000;decide),?_⟩;rw[bG,au (by decide+kernel),au (by decide+kernel),au (by decide+kernel),au (by decide+kernel),bu];rw[ae I]at G;refine q _ nd ⟨⟨dx,ac⟩,by rw[ae I,ac]⟩ G λb o n e=>?_;rw[ae n,ae (ak e G),ae n];exact e
def lM (K:PySem.W.Frag) (t:Adr):Sp:=λvs H Q _=>∃(c a p dd:Addr) (n:Int) (F:Addr->Prop) (x:HSt),vs=[.ref c]/\CoP t H c a p dd (.ref p) n .non/\HoA K t H a F x/\¬F c/\x.now+x.ma<40000/\
 ∀(H':Hp) (F':Addr->Prop) (r g nd:Addr),HoA K t H' a F' {x with ma:=x.ma+1,di:=x.di++ [(r,[.str "mark",.int (x.ma+1)])]}->CoP t H' c a p dd (.ref p) n (.ref g)->PgO t H' g p nd .non .non .non->H g=none->H nd=none->¬F' c->¬F' g->¬F' nd->(∀b o,b≠c->¬F b->H b=some o->H' b=some o/\¬F' b)->Q (.int (x.ma+1)) H'
theorem mw (T:Txt K mg t):FnOk P w K mg base CX0 3 t.gI t.dG ["self"] (lM K t):=by
 refine T.AI.okl lN λ_ _ _ s H vs Q E hr h=>?_;intro X;obtain⟨c,a,p,dd,n,F,x,rfl,C,A,nc,l,q⟩:=h;refine ah (aV (ao p5 (ar (pv 0) rfl) bg (aq _))
    (aB cE)
    aI)
   (ah (aV (ao cU (ar (pv 0) rfl) bg (aq _))
    (aB cE)
    aI)
   (ah (bc (pv 0) (iU T.Lc (wD T) hr.mo (by rfl) T.Ld T.HP .nil az (aa (ar (pv 0) rfl) ag)) rfl)
   (aA (aD (bx (ar (pv 0) rfl) T.aO T.qd (iq T) hr.mo T.qt .nil az)) ?_)))
 intros
 obtain⟨dx,I⟩:=C.ob;refine⟨_,rfl,c,_,dx,_,_,rfl,I,T.aG,T.cf,rfl,rfl,_,rfl,oo rfl ?_⟩;unfold t7
 (try dsimp only)
 refine⟨_,rfl,c,_,dx,_,_,rfl,I,T.aG,T.cW,rfl,rfl,_,rfl,bf (λz=>by cases z) ?_⟩
 (try dsimp only)
 refine⟨_,rfl,c,_,dx,_,_,rfl,I,T.aG,T.cW,rfl,λg dg O nd a4=>?_⟩;have s1:=bP (ai (o:= .own g) nd) (o:= .ins t.cZ dg []) O;refine⟨g,dg,p,rfl,ac,λH2 no P2 nn kp=>⟨rfl,?_⟩⟩;have s2:Same H H2:=λb o e=>kp b o (ak e O) (s1 _ _ e);have gc:g≠c:=λz=>by rw[z,I]at O;cases O
 have A2:=(A.same s2);refine⟨_,rfl,c,_,dx,_,rfl,s2 _ _ I,T.aG,T.cf,(by show 6<1000;decide),?_⟩;rw[au (by decide+kernel),au (by decide+kernel),au (by decide+kernel),au (by decide+kernel),au (by decide+kernel),iS];have U:=s2 _ _ I;obtain⟨o3,e3⟩:∃o,o=HO.ins t.a7 dx [("house",V.ref a),("first",.ref p),("rest",.ref p),("followed",.int n),("copied",.ref dd),("page",.ref g)]:=⟨_,rfl⟩;rw[<-e3];have A3:HoA K t (upd H2 c o3) a F x:=A2.upd nc λxs z=>by rw[U]at z;cases z
 have h3:upd H2 c o3 c=some o3:=ac;have k3:∀b o,b≠c->H2 b=some o->upd H2 c o3 b=some o:=λb o n e=>by rw[ae n];exact e
 generalize upd H2 c o3=H3 at A3 h3 k3⊢;obtain⟨da,fa,ha,hm,_⟩:=A3.ins;subst e3;refine⟨_,rfl,c,_,dx,_,_,rfl,h3,T.aG,T.dQ,rfl,a,da,fa,rfl,ha,hm _ (by decide+kernel),a,F,x,rfl,A3,l,λH4 F4 r A4 G=>?_⟩;have Y:¬F g:=A.out O;have Z:¬F no:=A.out (de s1 nn);obtain⟨a2,a3⟩:=P2.ob;have a0:=k3 _ _ gc a3;have a1:=k3 no _ (λz=>by have h:=P2.no;rw[z,U]at h;cases h) P2.no;exact q H4 F4 r g no A4 ⟨⟨dx,(G _ _ nc h3).1⟩⟩ ⟨⟨a2,(G _ _ Y a0).1⟩,(G _ _ Z a1).1⟩ O (de s1 nn) (G _ _ nc h3).2 (G _ _ Y a0).2 (G _ _ Z a1).2 λb o n1 n2 e=>G b o n2 (k3 b o n1 (s2 _ _ e))
def vY (K:PySem.W.Frag) (t:Adr):Sp:=λvs H Q _=>∃(g a tk nd:Addr) (n kd:Int) (av e:V) (F:Addr->Prop) (x:HSt),vs=[.ref g,.ref a,.int n]/\PgO t H g tk nd .non .non .non/\¬F g/\¬F nd/\HoA K t H a F x/\TkAt t H tk kd av e/\okN kd av e/\¬F tk/\1<=n/\n<=1000/\x.st.kv.length<4096/\x.ks.length<4096/\(∀k∈x.ks,0<=k)/\(∀p∈x.st.kv,∃i:Int,p.2= .int i)/\
 ∀(H':Hp) (F':Addr->Prop) (r f:Addr) (v:V) (ts:List Tp) (a':V) (R:Int->Bool),HoA K t H' a F' x->(∀b o,b≠g->¬F b->H b=some o->H' b=some o/\¬F' b)->¬F' g->PgO t H' g tk nd (.ref f) v .non->¬F' nd->H' f=some (.lst (ts.map λe=>V.ref e.p))->¬F' f->(∀e∈ts,H' e.p=some (.tup [.int e.k,e.v])/\¬F' e.p)->(¬F f->H f=none)->AskU t H' F' x.st kd n av e v ts a' R->Q .non H'
theorem wC (T:Txt K mg t):FnOk P w K mg base CX0 9 t.qF t.kO ["self","house","many"] (vY K t):=by
 refine T.HY.okl sc_Page__read λ_ _ _ s H vs Q E hr h=>?_;intro X;obtain⟨g,a,tk,nd,n,kd,av,e,F,x,rfl,Pg,ng,nn,A,TK,on,nt,Z,O,l4,lk,k0,iv,q⟩:=h;refine ah (ay (i:=3) sc_Page__read.nd rfl (Or.inl rfl) (aN (ET T) hr.mo (by rfl) T.Iz T.Gb.kp T.BJ.choose_spec.1 T.BJ.choose_spec.2 az (aa (pv 1) (aa (ar (pv 0) rfl) (aa (pv 2) ag)))))
   (ah (bc (pv 0) (aX bX (pv 3) af (λ_ _=>rfl)) rfl)
   (aA (bc (pv 0) (aX bX (pv 3) af (λ_ _=>rfl)) rfl) ?_))
 intros
 obtain⟨dx,ho⟩:=Pg.ob;refine⟨_,rfl,_,rfl,g,_,dx,_,_,rfl,ho,T.bQ,T.wH,rfl,_,rfl,a,tk,n,kd,av,e,F,x,rfl,A,TK,on,nt,Z,O,l4,lk,k0,iv,λH2 F2 r f v ts a' R A2 Y pg U=>?_⟩;obtain⟨h2,I⟩:=Y _ _ ng ho;obtain⟨G,a0⟩:=Y _ _ nn Pg.no;have rg:r≠g:=λz=>by have h:=pg.tu;rw[z,h2]at h;cases h
 have fg:f≠g:=λz=>by have h:=pg.li;rw[z,h2]at h;cases h
 have a1:nd≠g:=λz=>by rw[z,h2]at G;cases G
 have tg:∀u∈ts,u.p≠g:=λu hu z=>by have h:=(pg.rw u hu).1;rw[z,h2]at h;cases h
 refine⟨_,rfl,r,_,_,_,rfl,rfl,SqT.of pg.tu,rfl,_,rfl,g,_,dx,_,rfl,h2,T.bQ,T.dL,(by show 5<1000;decide),?_⟩;rw[au (by decide+kernel),iS];refine⟨_,rfl,r,_,_,_,rfl,rfl,SqT.of (by rw[ae rg];exact pg.tu),rfl,_,rfl,g,_,dx,_,rfl,ac,T.bQ,T.oi,(by show 5<1000;decide),?_⟩;rw[bG,au (by decide+kernel),au (by decide+kernel),iS];have A3:=A2.upd (o:= .ins t.cZ dx [("asked",.ref tk),("found",.ref f),("ahead",v),("noted",.ref nd),("closing",.non)]) I λxs z=>by rw[h2]at z;cases z
 refine q _ F2 r f v ts a' R A3 (λb o Z O e=>⟨by rw[ae Z];exact(Y b o O e).1,(Y b o O e).2⟩) I ⟨⟨dx,ac⟩,by rw[ae a1];exact G⟩ a0 (by rw[ae fg];exact pg.li) pg.ng.2 (λu hu=>⟨by rw[ae (tg u hu)];exact(pg.rw u hu).1,(pg.rw u hu).2⟩) pg.ng.1 ?_;refine⟨?_,U.less,U.nd,U.me,U.tell,U.far⟩;rcases U.rest with h|h
 .exact .inl h
 obtain⟨q',h1,a2,h3⟩:=h;refine .inr ⟨q',h1,?_,h3⟩;obtain⟨dq,fq,hq,tq⟩:=a2;have qg:q'≠g:=λz=>by
  rw[z,h2]at hq;rw[<-(HO.ins.inj (Option.some.inj hq)).2.2]at tq;have h:(none:Option V)=some _:=tq.at_;cases h
 exact⟨dq,fq,by rw[ae qg];exact hq,tq⟩
theorem AskU.same {kd:Int} {e a':V} (U:AskU t H F st kd n av e v ts a' R) (s:Same H H'):AskU t H' F st kd n av e v ts a' R:=
 ⟨by rcases U.rest with h|h;exact .inl h;obtain⟨q,h1,h2,z⟩:=h;exact .inr ⟨q,h1,h2.same s,z⟩,U.less,U.nd,U.me,U.tell,U.far⟩
theorem PgO.same {g z nd:Addr} {f a c:V} (P:PgO t H g z nd f a c) (s:Same H H'):PgO t H' g z nd f a c:=by
 obtain⟨dx,G⟩:=P.ob;exact⟨⟨dx,s _ _ G⟩,s _ _ P.no⟩
def lL (K:PySem.W.Frag) (t:Adr):Sp:=λvs H Q _=>∃(c a p dd g nd:Addr) (rest:V) (m n kd:Int) (av e:V) (F:Addr->Prop) (x:HSt),vs=[.ref c,.int n]/\CoP t H c a p dd rest m (.ref g)/\PgO t H g p nd .non .non .non/\¬F c/\¬F g/\¬F nd/\HoA K t H a F x/\TkAt t H p kd av e/\okN kd av e/\¬F p/\1<=n/\n<=1000/\x.st.kv.length<4096/\x.ks.length<4096/\(∀k∈x.ks,0<=k)/\(∀p∈x.st.kv,∃i:Int,p.2= .int i)/\
 ∀(H':Hp) (F':Addr->Prop) (f l:Addr) (v:V) (ts:List Tp) (a':V) (R:Int->Bool),HoA K t H' a F' x->(∀b o,b≠g->¬F b->H b=some o->H' b=some o/\¬F' b)->¬F' g->PgO t H' g p nd (.ref f) v .non->¬F' nd->H' f=some (.lst (ts.map λe=>V.ref e.p))->¬F' f->(∀e∈ts,H' e.p=some (.tup [.int e.k,e.v])/\¬F' e.p)->(¬F f->H f=none)->AskU t H' F' x.st kd n av e v ts a' R->H' l=some (.lst (ts.map λe=>V.ref e.p))->¬F' l->l≠f->(∀b o,b≠g->¬F b->H b=some o->b≠l)->Q (.ref l) H'
theorem mt (T:Txt K mg t):FnOk P w K mg base CX0 10 t.gH t.b8 ["self","many"] (lL K t):=by
 refine T.AH.ok sc_Copier__read_page (λvs H Q E h=>?_) (λa4 A outer s H vs Q E hr h=>?_)
 .obtain⟨c,a,p,dd,g,nd,rest,m,n,kd,av,e,F,x,rfl,_⟩:=h;rfl
 .obtain⟨c,a,p,dd,g,nd,rest,m,n,kd,av,e,F,x,rfl,C,Pg,nc,ng,nn,A,TK,on,nt,G,I,l4,lk,k0,iv,q⟩:=h;refine ah (ay (i:=2) sc_Copier__read_page.nd rfl (Or.inl rfl) (ar (pv 0) rfl))
    (ah (aV (PW.pt (ie (ao cU (pv 2) bg (aq _)) (fA (ao p5 (ar (pv 2) rfl) bg (aq _)))))
   (aB cE)
   aI)
     (ah (aS (aR (pv 2) T.bQ T.Hq (wC T) hr.mo T.HN .nil az (aa (ar (pv 0) rfl) (aa (pv 1) ag))))
     (aA (aD (dY qr (by rfl) T.Ed yS (aa (ar (pv 2) rfl) ag))) ?_)))
  intros
  obtain⟨dx,Y⟩:=C.ob;obtain⟨dg,Z⟩:=Pg.ob;have cg:c≠g:=λz=>by rw[z,Z]at Y;exact absurd (congrArg List.length (HO.ins.inj (Option.some.inj Y)).2.2) (by show ¬5=6;decide)
  refine⟨_,rfl,c,_,dx,_,_,rfl,Y,T.aG,T.cf,rfl,?_⟩;refine⟨_,rfl,rfl,_,rfl,bf (λz=>by cases z) ⟨_,rfl,g,_,dg,_,_,rfl,Z,T.bQ,T.dL,rfl,rfl,_,rfl,oo rfl ?_⟩⟩;unfold t7
  (try dsimp only)
  refine⟨_,rfl,g,dg,_,rfl,Z,(by rfl),_,rfl,c,_,dx,_,_,rfl,Y,T.aG,T.dQ,rfl,_,rfl,g,a,p,nd,n,kd,av,e,F,x,rfl,Pg,ng,nn,A,TK,on,nt,G,I,l4,lk,k0,iv,λH2 F2 r f v ts a' R A2 f2 a0 P2 a1 hf nf tu of U=>?_⟩;obtain⟨a2,a3⟩:=P2.ob;refine⟨_,rfl,g,_,a2,_,_,rfl,a3,T.bQ,T.dL,rfl,f,_,rfl,.inl (SqL.of hf),λl O=>?_⟩;have s3:=ai (o:= .lst (ts.map λe=>V.ref e.p)) O;exact q _ F2 f l v ts a' R (A2.same s3) (λb o G I e=>⟨s3 _ _ (f2 b o G I e).1,(f2 b o G I e).2⟩) a0 (P2.same s3) a1 (s3 _ _ hf) nf (λu hu=>⟨s3 _ _ (tu u hu).1,(tu u hu).2⟩) of (U.same s3) ac (A2.out O) (λz=>by rw[z,hf]at O;cases O) λb o G I e z=>by have h:=(f2 b o G I e).1;rw[z,O]at h;cases h
def lq (K:PySem.W.Frag) (t:Adr):Sp:=λvs H Q _=>∃(c a p dd g nd f:Addr) (rest v:V) (m:Int) (F:Addr->Prop) (x:HSt),vs=[.ref c]/\CoP t H c a p dd rest m (.ref g)/\PgO t H g p nd (.ref f) v .non/\¬F c/\¬F g/\¬F nd/\HoA K t H a F x/\x.now+x.ma<40000/\
 ∀(H':Hp) (F':Addr->Prop) (r:Addr),HoA K t H' a F' {x with ma:=x.ma+1,di:=x.di++ [(r,[.str "mark",.int (x.ma+1)])]}->PgO t H' g p nd (.ref f) v (.int (x.ma+1))->¬F' g->¬F' nd->(∀b o,b≠g->¬F b->H b=some o->H' b=some o/\¬F' b)->Q (.int (x.ma+1)) H'
theorem lw (T:Txt K mg t):FnOk P w K mg base CX0 2 t.f7 t.cY ["self"] (lq K t):=by
 refine T.Av.okl sc_Copier__close_page λ_ _ _ s H vs Q E hr h=>?_;intro X;obtain⟨c,a,p,dd,g,nd,f,rest,v,m,F,x,rfl,C,Z,nc,ng,nn,A,l,q⟩:=h;refine ah (ay (i:=1) sc_Copier__close_page.nd rfl (Or.inl rfl) (ar (pv 0) rfl))
   (ah (aV (PW.pt (ie (ao cU (pv 1) bg (aq _)) (ie (ao cU (ar (pv 1) rfl) bg (aq _)) (fA (ao p5 (ar (pv 1) rfl) bg (aq _))))))
    (aB cE)
    aI)
   (ah (bc (pv 1) (bx (ar (pv 0) rfl) T.aO T.qd (iq T) hr.mo T.qt .nil az) rfl)
   (aA (aD (ar (pv 1) rfl)) ?_)))
 intros
 obtain⟨dx,ho⟩:=C.ob;obtain⟨G,I⟩:=Z.ob;have cg:c≠g:=λz=>by rw[z,I]at ho;exact absurd (congrArg List.length (HO.ins.inj (Option.some.inj ho)).2.2) (by show ¬5=6;decide)
 have a0:nd≠g:=λz=>by have h:=Z.no;rw[z,I]at h;cases h
 refine⟨_,rfl,c,_,dx,_,_,rfl,ho,T.aG,T.cf,rfl,?_⟩;refine⟨_,rfl,rfl,_,rfl,bf (λz=>by cases z) ⟨_,rfl,g,_,G,_,_,rfl,I,T.bQ,T.dL,rfl,rfl,_,rfl,bf (λz=>by cases z) ⟨_,rfl,g,_,G,_,_,rfl,I,T.bQ,T.dP,rfl,rfl,_,rfl,oo rfl ?_⟩⟩⟩;unfold t7
 (try dsimp only)
 obtain⟨da,fa,ha,hm,_⟩:=A.ins;refine⟨_,rfl,c,_,dx,_,_,rfl,ho,T.aG,T.dQ,rfl,a,da,fa,rfl,ha,hm _ (by decide+kernel),a,F,x,rfl,A,l,λH2 F2 r A2 O=>?_⟩;obtain⟨U,Y⟩:=O _ _ ng I;refine⟨_,rfl,g,_,G,_,rfl,U,T.bQ,T.dP,(by show 5<1000;decide),?_⟩;rw[au (by decide+kernel),au (by decide+kernel),au (by decide+kernel),au (by decide+kernel),iS];refine⟨_,rfl,g,_,G,_,_,rfl,ac,T.bQ,T.dP,rfl,?_⟩;exact q _ F2 r (A2.upd Y λxs z=>by rw[U]at z;cases z) ⟨⟨G,ac⟩,by rw[ae a0];exact(O _ _ nn Z.no).1⟩ Y (O _ _ nn Z.no).2 λb o n1 n2 e=>⟨by rw[ae n1];exact(O b o n2 e).1,(O b o n2 e).2⟩
theorem yC:∀{more acc:List (Int×V)},((acc++more).map (·.1)).Nodup->rH (aK acc) (aK more)=aK (acc++more)
 | [],acc,_=>by rw[ZL];rfl
 |p::r,acc,h=>by
  have n:aP acc p.1=none:=by
   cases c:aP acc p.1 with
   |none=>rfl
   |some w=>
    rw[Qc,XJ]at h;exact absurd rfl (h.2.2 p.1 (Qh.mpr ⟨(p.1,w),iX c,rfl⟩) p.1 Q9)
  show rH (bz (aK acc) (Sum.inl p.1) p.2) (aK r)=_;rw[gT,zD p.2 n,yC (by rw[Ql];exact h),Ql];rfl
def qR (K:PySem.W.Frag) (t:Adr):Sp:=λvs H Q _=>∃(g tk nd f:Addr) (v cl:V) (ts:List Tp),vs=[.ref g]/\PgO t H g tk nd (.ref f) v cl/\H f=some (.lst (ts.map λe=>V.ref e.p))/\(∀e∈ts,H e.p=some (.tup [.int e.k,e.v]))/\(ts.map (·.k)).Nodup/\
 ∀(H':Hp) (r:Addr),Same H H'->H r=none->H' r=some (.dK (aK (ts.map Tp.kv)))->Q (.ref r) H'
theorem rD (T:Txt K mg t):FnOk P w K mg base CX0 1 t.kY t.gs ["self"] (qR K t):=by
 refine T.D7.okl sc_Page__outcome λ_ _ _ s H vs Q E hr h=>?_;intro X;obtain⟨g,tk,nd,f,v,cl,ts,rfl,U,hf,tu,nt,q⟩:=h;refine ah (ay (i:=1) sc_Page__outcome.nd rfl (Or.inl rfl) (dY (vo hr.hd) (by rfl) T.AJ tT (aa (ar (pv 0) rfl) ag)))
   (ah (yq (ii PassesOwn.never rfl (Ha (uI QQ Xa PySem.F.type_dict_values xp (ar (pv 0) rfl))) (bH (i:=2) sc_Page__outcome.nd rfl (Or.inl rfl))
    (aB cE)))
   (aA (aD (pv 1)) ?_))
 intros
 obtain⟨Y,Z⟩:=U.ob;refine⟨_,rfl,g,_,Y,_,_,rfl,Z,T.bQ,T.dL,rfl,f,ts.map λu=>(u.p,Sum.inl u.k,u.v),rfl,by rw[Qu];exact SqL.of hf,(λu' O=>by obtain⟨u,hu,rfl⟩:=Qh.mp O;exact SqT.of (tu u hu)),λr nr=>?_⟩;rw[Qu];have el:ts.map ((λx:Addr×Key×V=>x.2)∘λu:Tp=>(u.p,(Sum.inl u.k:Key),u.v))=aK (ts.map Tp.kv):=by unfold aK;rw[Qu];rfl
 rw[el,show rH [] (aK (ts.map Tp.kv))=_ from yC (acc:=[]) (by rw[ZN,Qu];exact nt),ZN];have s1:=ai (o:= .dK (aK (ts.map Tp.kv))) nr;have h1:upd H r (.dK (aK (ts.map Tp.kv))) r=some (.dK (aK (ts.map Tp.kv))):=ac;generalize upd H r (.dK (aK (ts.map Tp.kv)))=H1 at s1 h1⊢;have z:=s1 _ _ U.no;refine⟨nd,_,z,_,rfl,g,_,Y,_,_,rfl,s1 _ _ Z,T.bQ,T.wG,rfl,.inr (.inr (.inl ⟨rfl,.inl ⟨_,z⟩⟩)),nd,_,rfl,rfl,z,λG nv=>⟨G,nd,_,rfl,ac,ai nv _ _ z,λob=>?_⟩⟩;have I:=ai (o:=vwV G nd) nv;generalize upd H1 G (vwV G nd)=H2 at I⊢;refine FA (g:=mE 2) (tb:=λ_ _ _=>False) (rt:=λ_ _=>True) (ob:=ob) (d:=nd) (kvs:=[]) (λi σ H'=>σ=[some (.ref g),some (.ref r),none]/\H'=upd H2 nd (.frz ob (.dK []))) ⟨rfl,rfl⟩ (λi σ H' _ w=>by rw[w.2];exact ac) (λi k v σ H' hk w=>by cases hk) (λσ H' w=>?_);obtain⟨rfl,rfl⟩:=w;refine⟨ob,ac,?_⟩;rw[bG,Ej (I _ _ z)];exact⟨_,rfl,q _ r (s1.trans I) nr (I _ _ h1)⟩
def jY (K:PySem.W.Frag) (t:Adr):Sp:=λvs H Q _=>∃(c a p dd g tk nd f:Addr) (rest v cl:V) (m z:Int) (kv:List (Int×V)) (ts:List Tp),vs=[.ref c,.int z]/\CoP t H c a p dd rest m (.ref g)/\PgO t H g tk nd (.ref f) v cl/\(∃y:Int,cl= .int y)/\H dd=some (.dK (aK kv))/\dd≠c/\H f=some (.lst (ts.map λe=>V.ref e.p))/\(∀e∈ts,H e.p=some (.tup [.int e.k,e.v]))/\(ts.map (·.k)).Nodup/\kv=[]/\ts.length<=400/\
 (cl≠ .int z->Q .non H)/\(cl= .int z->∀(H':Hp),CoP t H' c a p dd v m .non->H' dd=some (.dK (aK (ts.map Tp.kv)))->(∀b o,b≠c->b≠dd->H b=some o->H' b=some o)->Q .non H')
theorem kx (T:Txt K mg t):FnOk P w K mg base CX0 2 t.fk t.cx ["self","number"] (jY K t):=by
 refine T.zd.okl sc_Copier__follow_mark λ_ _ _ s H vs Q E hr h=>?_;intro X;obtain⟨c,a,p,dd,g,tk,nd,f,rest,v,cl,m,z,kv,ts,rfl,C,Pg,⟨y,rfl⟩,hd,dc,hf,tu,nt,rfl,lt,q1,q2⟩:=h;refine ah (ay (i:=2) sc_Copier__follow_mark.nd rfl (Or.inl rfl) (ar (pv 0) rfl))
   (ah (aV (PW.pt (ie (ao cU (pv 2) bg (aq _)) (fA (ao xk (ar (pv 2) rfl) (pv 1) (aq _)))))
    (aB nB)
    aI)
   (ah (aS (dJ QQ PySem.F.slot_dict_update PySem.F.type_dict_update Df (ar (pv 0) rfl) (aa (bx (pv 2) T.bQ T.DW (rD T) hr.mo T.D4 .nil az) ag)))
   (ah (bc (pv 0) (ar (pv 2) rfl) rfl)
   (aA (bc (pv 0) bg rfl) ?_))))
 intros
 obtain⟨dx,ho⟩:=C.ob;obtain⟨Y,G⟩:=Pg.ob;refine⟨_,rfl,c,_,dx,_,_,rfl,ho,T.aG,T.cf,rfl,?_⟩;refine⟨_,rfl,rfl,_,rfl,bf (λz=>by cases z) ⟨_,rfl,g,_,Y,_,_,rfl,G,T.bQ,T.dP,rfl,_,rfl,rfl,_,rfl,?_⟩⟩;by_cases cz:y=z
 case neg=>
  rw[decide_eq_false λh=>cz (V.int.inj h)];exact db (q1 λh=>cz (V.int.inj h))
 subst cz;refine oo rfl ?_;unfold t7
 (try dsimp only)
 refine⟨_,rfl,c,_,dx,_,_,rfl,ho,T.aG,T.fF,rfl,.inr (.inr (.inl ⟨rfl,.inl ⟨_,hd⟩⟩)),_,rfl,g,Y,_,rfl,G,(by rfl),g,tk,nd,f,v,.int y,ts,rfl,Pg,hf,tu,nt,λH2 o Z no a0=>?_⟩;have od:dd≠o:=ak hd no;refine⟨dd,o,_,_,rfl,rfl,od,Z _ _ hd,a0,(by rw[cv,cv,Q0];have:1000<=sizeLine:=(by decide);simp only[ZZ];lia),?_⟩;rw[show rH (aK []) (aK (ts.map Tp.kv))=_ from yC (acc:=[]) (by rw[ZN,Qu];exact nt),ZN];have I:upd H2 dd (.dK (aK (ts.map Tp.kv))) c=some (.ins t.a7 dx [("house",.ref a),("first",.ref p),("rest",rest),("followed",.int m),("copied",.ref dd),("page",.ref g)]):=by rw[ae (Ne.symm dc)];exact Z _ _ ho
 have O:upd H2 dd (.dK (aK (ts.map Tp.kv))) g=some (.ins t.cZ Y [("asked",.ref tk),("found",.ref f),("ahead",v),("noted",.ref nd),("closing",.int y)]):=by rw[ae λz=>by rw[z,hd]at G;cases G];exact Z _ _ G
 have U:upd H2 dd (.dK (aK (ts.map Tp.kv))) dd=some (.dK (aK (ts.map Tp.kv))):=ac;have k3:∀b o,b≠dd->H b=some o->upd H2 dd (.dK (aK (ts.map Tp.kv))) b=some o:=λb o n e=>by rw[ae n];exact Z _ _ e
 generalize upd H2 dd (.dK (aK (ts.map Tp.kv)))=H3 at I O U k3⊢
 (try dsimp only)
 refine⟨_,rfl,g,_,Y,_,_,rfl,O,T.bQ,T.oi,rfl,_,rfl,c,_,dx,_,rfl,I,T.aG,T.cW,(by show 6<1000;decide),?_⟩;rw[au (by decide+kernel),au (by decide+kernel),iS];refine⟨_,rfl,c,_,dx,_,rfl,ac,T.aG,T.cf,(by show 6<1000;decide),?_⟩;rw[bG,au (by decide+kernel),au (by decide+kernel),au (by decide+kernel),au (by decide+kernel),au (by decide+kernel),iS];exact q2 rfl _ ⟨⟨dx,ac⟩⟩ (by rw[ae dc];exact U) λb o n1 n2 e=>by rw[ae n1];exact k3 b o n2 e
structure CoF (t:Adr) (H:Hp) (c a p dd g tk nd f:Addr) (rest v:V) (n y:Int) (ts:List Tp):Prop where
 C:CoP t H c a p dd rest n (.ref g)
 P:PgO t H g tk nd (.ref f) v (.int y)
 cd:H dd=some (.dK [])
 hf:H f=some (.lst (ts.map λe=>V.ref e.p))
 tu:∀e∈ts,H e.p=some (.tup [.int e.k,e.v])
structure CoE (t:Adr) (H:Hp) (c a p dd:Addr) (v:V) (n:Int) (ts:List Tp):Prop where
 C:CoP t H c a p dd v n .non
 cd:H dd=some (.dK (aK (ts.map Tp.kv)))
theorem CoF.same {dd g z nd f:Addr} {rest:V} {y:Int} (S:CoF t H c a p dd g z nd f rest v n y ts) (s:Same H H'):CoF t H' c a p dd g z nd f rest v n y ts:=
 ⟨S.C.same s,S.P.same s,s _ _ S.cd,s _ _ S.hf,λe he=>s _ _ (S.tu e he)⟩
def pM (K:PySem.W.Frag) (t:Adr):Sp:=λvs H Q _=>∃(c a p dd g tk nd f:Addr) (rest v:V) (n y z:Int) (ts:List Tp) (F:Addr->Prop) (x:HSt) (ms:List Int),vs=[.ref c,.int z]/\CoF t H c a p dd g tk nd f rest v n y ts/\(ts.map (·.k)).Nodup/\ts.length<=400/\HoA K t H a F x/\¬F c/\¬F dd/\0<=n/\0<=z/\((x.di.drop n.toNat).take z.toNat).map (·.2)=ms.map (λi=> [V.str "mark",V.int i])/\y∉ms.dropLast/\ms.length<=1000/\
 (ms.getLast?≠some y->∀H',(∀b o,b≠c->b≠dd->H b=some o->H' b=some o)->CoF t H' c a p dd g tk nd f rest v (n+ms.length) y ts->Q (.int (n+ms.length)) H')/\
 (ms.getLast?=some y->∀H',(∀b o,b≠c->b≠dd->H b=some o->H' b=some o)->CoE t H' c a p dd v (n+ms.length) ts->Q (.int (n+ms.length)) H')
theorem p7 (T:Txt K mg t):FnOk P w K mg base CX0 3 t.jV t.fI ["self","steps"] (pM K t):=by
 refine T.DS.okl sc_Copier__follow λ_ _ _ s H vs Q E hr h=>?_;intro X;obtain⟨c,a,p,dd,g,tk,nd,f,rest,v,n,y,z,ts,F,x,ms,rfl,S,nt,lt,A,nc,a5,n0,z0,em,ny,lm,q1,q2⟩:=h;refine ah (ay (i:=2) sc_Copier__follow.nd rfl (Or.inl rfl) (eL gK (aR (ar (pv 0) rfl) T.aO T.iA (gj T) hr.mo T.vx .nil az (aa (ar (pv 0) rfl) ag)) iT (fP (aF (nN rfl) (by rfl) T.Ec yR (aa (pv 1) (aa af ag))))))
   (bV (λx=>(ii PassesOwn.never rfl (c8 (pv 2)) (bH (i:=3) sc_Copier__follow.nd rfl (Or.inl rfl))
    x)) ?_)
 refine bV (λx=>aV (ao bN (aX bX (pv 3) af (λ_ _=>rfl)) gh (aq _)) x (aB cE)) ?_;refine aA (aS (aR (pv 0) T.aG T.zb (kx T) hr.mo T.zc .nil az (aa (aX bX (pv 3) af (λ_ _=>rfl)) ag))) ?_
 intros
 refine aA (gR (pv 0) af ve) ?_
 intros
 refine aA (aD (ar (pv 0) rfl)) ?_
 intros
 obtain⟨dx,ho⟩:=S.C.ob;obtain⟨da,fa,ha,hm,_⟩:=A.ins;refine⟨_,rfl,c,_,dx,_,_,rfl,ho,T.aG,T.dQ,rfl,a,da,fa,rfl,ha,hm _ (by decide+kernel),_,rfl,c,_,dx,_,_,rfl,ho,T.aG,T.bD,rfl,a,_,F,x,rfl,A,n0,λH1 r s1 nr hr=>?_⟩;refine⟨_,rfl,_,_,rfl,_,rfl,r,_,rfl,SqL.of hr,λY a0=>?_⟩;have ez:(if(0:Int)>z then(0:Int)else z)=z:=by rw[if_neg (by lia)]
 rw[ez,mN z0,<-Z7];obtain⟨rs,a1⟩:∃rs,(x.di.drop n.toNat).take z.toNat=rs:=⟨_,rfl⟩;rw[a1]at em⊢;have rd:∀e∈rs,H1 e.1=some (.tup e.2):=λe he=>(A.same s1).di e (ZD (QY (a1▸he)));have lr:rs.length=ms.length:=by simpa using congrArg List.length em
 have s2:=s1.trans (ai (o:= .lst (rs.map λe=>V.ref e.1)) a0);have h2:upd H1 Y (.lst (rs.map λe=>V.ref e.1)) Y=some (.lst (rs.map λe=>V.ref e.1)):=ac;have a2:∀e∈rs,upd H1 Y (.lst (rs.map λe=>V.ref e.1)) e.1=some (.tup e.2):=λe he=>ai a0 _ _ (rd e he);generalize upd H1 Y (.lst (rs.map λe=>V.ref e.1))=H2 at s2 h2 a2⊢;have pc:Y≠c:=λz=>by rw[z,s2 _ _ ho]at h2;cases h2
 have pd:Y≠dd:=λz=>by rw[z,s2 _ _ S.cd]at h2;cases h2
 refine⟨_,rfl,Y,rfl,⟨_,SqL.of h2⟩,nI (K:=K) (a:=Y) (xs:=rs.map λe=>V.ref e.1) (λi σ H'=>∃v3:Option V,σ=[some (.ref c),some (.int z),some (.ref Y),v3]/\(∀b o,b≠c->b≠dd->H2 b=some o->H' b=some o)/\(if(ms.take i).getLast?=some y then CoE t H' c a p dd v (n+i) ts else CoF t H' c a p dd g tk nd f rest v (n+i) y ts)) ?_ (λi σ H' _ w=>by obtain⟨_,_,k,_⟩:=w;exact SqL.of (k _ _ pc pd h2)) (λi u σ H' hu w'=>?_) (λσ H' w'=>?_)⟩
 .refine⟨none,rfl,λ_ _ _ _ h=>h,?_⟩;rw[List.take_zero,if_neg (by simp)];have:=S.same s2;simpa using this
 .obtain⟨v3,rfl,kp,w⟩:=w';obtain⟨e,rfl,ee⟩:∃e,u=V.ref e.1/\rs[i]?=some e:=by
   rw[Qn]at hu;cases c:rs[i]? with
   |none=>rw[c]at hu;cases hu
   |some e=>rw[c]at hu;cases hu;exact⟨e,rfl,rfl⟩
  obtain⟨k,ek,e2⟩:∃k,ms[i]?=some k/\e.2=[V.str "mark",V.int k]:=by
   have h:=congrArg (λl:List (List V)=>l[i]?) em;rw[Qn,Qn,ee]at h;cases c:ms[i]? with
   |none=>rw[c]at h;cases h
   |some k=>rw[c]at h;exact⟨k,rfl,Option.some.inj h⟩
  have hi:=(Q2.mp ek).1;have no:(ms.take i).getLast?≠some y:=λh=>ny (by
   have h1:=List.mem_of_getLast? h;obtain⟨j,hj,ej⟩:=Qz h1;rw[Q8]at hj;rw[Zs]at ej;rw[Zr];exact⟨j,by rw[List.length_dropLast];lia,by rw[List.getElem_dropLast];exact ej⟩)
  rw[if_neg no]at w;have gl:(ms.take (i+1)).getLast?=some k:=by rw[Qr,ek];simp
  rw[gl];have te:H' e.1=some (.tup [.str "mark",.int k]):=by
   have h:=a2 e (Q1 ee);rw[e2]at h;exact kp _ _ (λz=>by rw[z,s2 _ _ ho]at h;cases h) (λz=>by rw[z,s2 _ _ S.cd]at h;cases h) h
  obtain⟨O,I⟩:=w.C.ob;have dc:dd≠c:=λz=>by have h:=w.cd;rw[z,I]at h;cases h
  unfold mE
  (try dsimp only)
  refine b6 (λσ H3=>σ=[some (.ref c),some (.int z),some (.ref Y),some (.ref e.1)]/\(∀b o,b≠c->b≠dd->H' b=some o->H3 b=some o)/\(if k=y then CoE t H3 c a p dd v (n+i) ts else CoF t H3 c a p dd g tk nd f rest v (n+i) y ts)) (λnx go=>?_) (λσ H3 G=>?_)
  .refine⟨_,rfl,e.1,_,_,_,rfl,rfl,SqT.of te,rfl,rfl,_,rfl,fX rfl ⟨_,rfl,c,O,_,rfl,I,(by rfl),_,rfl,e.1,_,_,_,rfl,rfl,SqT.of te,rfl,c,a,p,dd,g,tk,nd,f,rest,v,.int y,_,k,[],ts,rfl,w.C,w.P,⟨y,rfl⟩,w.cd,dc,w.hf,w.tu,nt,rfl,lt,λh=>?_,λh H3 C3 Z k3=>?_⟩⟩
   .exact go _ _ ⟨rfl,λ_ _ _ _ h=>h,by rw[if_neg λz=>h (by rw[z])];exact w⟩
   .exact go _ _ ⟨rfl,k3,by rw[if_pos (V.int.inj h).symm];exact⟨C3,Z⟩⟩
  obtain⟨rfl,k3,G⟩:=G;have en:(n+(i:Int))+1=n+((i+1:Nat):Int):=by lia
  have a3:∀{o:HO} b u,b≠c->b≠dd->H2 b=some u->upd H3 c o b=some u:=λ{o} b u n1 n2 e=>by rw[ae n1];exact k3 b u n1 n2 (kp b u n1 n2 e)
  by_cases hk:k=y
  .rw[if_pos hk]at G;obtain⟨Z,h3⟩:=G.C.ob;refine⟨_,rfl,c,_,Z,_,_,rfl,h3,T.aG,T.bD,rfl,_,_,rfl,rfl,Z,_,h3,(by show 6<1000;decide),?_⟩;rw[au (by decide+kernel),au (by decide+kernel),au (by decide+kernel),iS,en];exact⟨_,rfl,a3,by rw[if_pos (by rw[hk])];exact⟨⟨⟨Z,ac⟩⟩,by rw[ae dc];exact G.cd⟩⟩
  .rw[if_neg hk]at G;obtain⟨Z,h3⟩:=G.C.ob;refine⟨_,rfl,c,_,Z,_,_,rfl,h3,T.aG,T.bD,rfl,_,_,rfl,rfl,Z,_,h3,(by show 6<1000;decide),?_⟩;rw[au (by decide+kernel),au (by decide+kernel),au (by decide+kernel),iS,en];have U:∀{o:HO} b u,b≠c->H3 b=some u->upd H3 c o b=some u:=λ{o} b u n1 e=>by rw[ae n1];exact e
   obtain⟨dg,hg⟩:=G.P.ob;have gc:g≠c:=λz=>by rw[z,h3]at hg;exact absurd (congrArg List.length (HO.ins.inj (Option.some.inj hg)).2.2) (by show ¬6=5;decide)
   refine⟨_,rfl,a3,?_⟩;rw[if_neg λh=>hk (Option.some.inj h)];exact⟨⟨⟨Z,ac⟩⟩,⟨⟨dg,U _ _ gc hg⟩,U _ _ (λz=>by have h:=G.P.no;rw[z,h3]at h;cases h) G.P.no⟩,U _ _ dc G.cd,U _ _ (λz=>by have h:=G.hf;rw[z,h3]at h;cases h) G.hf,λe he=>U _ _ (λz=>by have h:=G.tu e he;rw[z,h3]at h;cases h) (G.tu e he)⟩
 .obtain⟨v3,rfl,kp,w⟩:=w';rw[Q0,lr,QF]at w;have a4:∀b o,b≠c->b≠dd->H b=some o->H' b=some o:=λb o n1 n2 e=>kp b o n1 n2 (s2 _ _ e);by_cases gy:ms.getLast?=some y
  .rw[if_pos gy]at w;obtain⟨O,I⟩:=w.C.ob;exact⟨_,rfl,c,_,O,_,_,rfl,I,T.aG,T.bD,rfl,q2 gy H' a4 w⟩
  .rw[if_neg gy]at w;obtain⟨O,I⟩:=w.C.ob;exact⟨_,rfl,c,_,O,_,_,rfl,I,T.aG,T.bD,rfl,q1 gy H' a4 w⟩
def sP (K:PySem.W.Frag) (t:Adr):Sp:=λvs H Q _=>∃(c dx a p:Addr) (F:Addr->Prop) (x:HSt),vs=[.ref c,.ref a,.ref p,.non]/\H c=some (.ins t.a7 dx [])/\HoA K t H a F x/\
 ∀H' dd,CoP t H' c a p dd (.ref p) x.di.length .non->H' dd=some (.dK [])->H dd=none->(∀b o,b≠c->H b=some o->H' b=some o)->Q .non H'
theorem tF (T:Txt K mg t):FnOk P w K mg base CX0 2 t.m5 t.fc ["self","house","token","stopped"] (sP K t):=by
 refine T.Gg.ok sc_Copier__init (λvs H Q E h=>?_) (λa1 A outer s H vs Q E hr h=>?_)
 .obtain⟨c,dx,a,p,F,x,rfl,_⟩:=h;rfl
 .obtain⟨c,dx,a,p,F,x,rfl,hc,A,q⟩:=h;refine bV (λx=>aV (ao cU (pv 3) bg (aq _)) x aI) ?_;refine aA (ay (i:=3) sc_Copier__init.nd rfl (Or.inl rfl) (bC (aa (pv 2) (aa (aF aE (by rfl) T.bO bh (aa (bx (pv 1) T.aO T.iA (gj T) hr.mo T.gw.choose_spec.1 T.gw.choose_spec.2 az) ag)) (aa eO ag))))) ?_
  intros
  refine ah (bc (pv 0) (pv 1) rfl)
    (ah (bc (pv 0) (pv 2) rfl)
    (ah (bc (pv 0) (aX bX (pv 3) af (λ_ _=>rfl)) rfl)
    (ah (bc (pv 0) (aX bX (pv 3) af (λ_ _=>rfl)) rfl)
    (ah (bc (pv 0) (dY vp (by rfl) T.AJ tT (aa (aX bX (pv 3) af (λ_ _=>rfl)) ag)) rfl)
    (aA (bc (pv 0) bg rfl) ?_)))))
  intros
  obtain⟨da,fa,hi,hm,_⟩:=A.ins;refine b6 (λσ H'=>∃G I:Addr,σ=[some (.ref c),some (.ref a),some (.ref p),some (.ref G)]/\Same H H'/\H' G=some (.tup [.ref p,.int x.di.length,.ref I])/\H' I=some (.dK [])) (λnx go=>?_) (λσ H2 w=>?_)
  .refine⟨_,rfl,rfl,_,rfl,fX rfl ⟨_,rfl,_,rfl,a,da,fa,rfl,hi,hm _ (by decide+kernel),a,0,F,x,rfl,A,Zt _,λH1 r s1 nr hr=>⟨r,_,rfl,.inl (SqL.of hr),λI a0=>⟨(by show 3<=sizeLine;decide),λG Z=>?_⟩⟩⟩⟩;rw[Q0,show(0:Int).toNat=0 from rfl,Z9];exact go _ _ ⟨G,I,rfl,(s1.trans (ai a0)).trans (ai Z),ac,ai Z _ _ ac⟩
  obtain⟨G,I,rfl,s2,O,U⟩:=w;have Y:=s2 _ _ hc;have n1:G≠c:=λz=>by rw[z,Y]at O;cases O
  have n2:I≠c:=λz=>by rw[z,Y]at U;cases U
  have hp:∀{o:HO},upd H2 c o G=some (.tup [.ref p,.int x.di.length,.ref I]):=λ{o}=>by rw[ae n1];exact O
  refine⟨_,rfl,_,rfl,c,_,dx,[],rfl,Y,T.aG,T.dQ,(by show 0<1000;decide),?_⟩;rw[bu];refine⟨_,rfl,_,rfl,c,_,dx,_,rfl,ac,T.aG,T.tH,(by show 1<1000;decide),?_⟩;rw[bG,au (by decide+kernel),bu];refine⟨_,rfl,G,_,_,_,rfl,rfl,SqT.of hp,rfl,_,rfl,c,_,dx,_,rfl,ac,T.aG,T.cW,(by show 2<1000;decide),?_⟩;rw[bG,au (by decide+kernel),au (by decide+kernel),bu];refine⟨_,rfl,G,_,_,_,rfl,rfl,SqT.of hp,rfl,_,rfl,c,_,dx,_,rfl,ac,T.aG,T.bD,(by show 3<1000;decide),?_⟩;rw[bG,au (by decide+kernel),au (by decide+kernel),au (by decide+kernel),bu];refine⟨_,rfl,G,_,_,_,rfl,rfl,SqT.of hp,rfl,I,_,rfl,by rw[ae n2];exact U,λdd nd=>?_⟩;have nc:dd≠c:=λz=>by rw[z,ac]at nd;cases nd
  refine⟨_,rfl,c,_,dx,_,rfl,ai nd _ _ ac,T.aG,T.fF,(by show 4<1000;decide),?_⟩;rw[au (by decide+kernel),au (by decide+kernel),au (by decide+kernel),au (by decide+kernel),bu];refine⟨_,rfl,c,_,dx,_,rfl,ac,T.aG,T.cf,(by show 5<1000;decide),?_⟩;rw[bG,au (by decide+kernel),au (by decide+kernel),au (by decide+kernel),au (by decide+kernel),au (by decide+kernel),bu];rw[ae nc]at nd;refine q _ dd ⟨⟨dx,ac⟩⟩ (by rw[ae nc,ac]) (de s2 nd) λb o n e=>?_;rw[ae n,ae (ak (s2 _ _ e) nd),ae n];exact s2 _ _ e
def qT (t:Adr):Sp:=λvs H Q _=>∃(c a p dd:Addr) (rest page:V) (n:Int),vs=[.ref c]/\CoP t H c a p dd rest n page/\Q (.int n) H
theorem rF (T:Txt K mg t):FnOk P w K mg base CX0 1 t.k7 t.gv ["self"] (qT t):=by
 refine T.D9.okl qW λ_ _ _ s H vs Q E G h=>?_;intro X;obtain⟨c,a,p,dd,rest,page,n,rfl,C,q⟩:=h;refine⟨_,(aB (aD (ar (pv 0) rfl)))
  ,?_⟩
 obtain⟨dx,z⟩:=C.ob;exact⟨_,rfl,c,_,dx,_,_,rfl,z,T.aG,T.bD,rfl,q⟩
def sO (t:Adr):Sp:=λvs H Q _=>∃(c a p dd:Addr) (rest page:V) (n:Int),vs=[.ref c]/\CoP t H c a p dd rest n page/\Q rest H
theorem tE (T:Txt K mg t):FnOk P w K mg base CX0 1 t.m4 t.iJ ["self"] (sO t):=by
 refine T.Gf.okl sW λ_ _ _ s H vs Q E G h=>?_;intro X;obtain⟨c,a,p,dd,rest,page,n,rfl,C,q⟩:=h;refine⟨_,(aB (aD (ar (pv 0) rfl)))
  ,?_⟩
 obtain⟨dx,z⟩:=C.ob;exact⟨_,rfl,c,_,dx,_,_,rfl,z,T.aG,T.cW,rfl,q⟩
def sQ (t:Adr):Sp:=λvs H Q _=>∃(c a p dd:Addr) (rest page:V) (n:Int) (kvs:List (Key×V)),vs=[.ref c]/\CoP t H c a p dd rest n page/\H dd=some (.dK kvs)/\∀r,H r=none->Q (.ref r) (upd H r (.dK kvs))
theorem tG (T:Txt K mg t):FnOk P w K mg base CX0 1 t.m6 t.iK ["self"] (sQ t):=by
 refine T.Gh.okl sX λ_ _ _ s H vs Q E G h=>?_;intro X;obtain⟨c,a,p,dd,rest,page,n,kvs,rfl,C,hd,q⟩:=h;refine⟨_,(aB (aD (dY vp (by rfl) T.AJ tT (aa (ar (pv 0) rfl) ag))))
  ,?_⟩
 obtain⟨dx,z⟩:=C.ob;exact⟨_,rfl,c,_,dx,_,_,rfl,z,T.aG,T.fF,rfl,dd,_,rfl,hd,q⟩
def qS (t:Adr):Sp:=λvs H Q _=>∃(c a p dd:Addr) (rest page:V) (n:Int) (kvs:List (Key×V)) (ns:List Int),vs=[.ref c]/\CoP t H c a p dd rest n page/\H dd=some (.dK kvs)/\kvs.map (·.2)=ns.map V.int/\∀H',Same H H'->Q (.int ns.sum) H'
theorem rE (T:Txt K mg t):FnOk P w K mg base CX0 1 t.kZ t.gu ["self"] (qS t):=by
 refine T.D8.okl qV λ_ _ _ s H vs Q E G h=>?_;intro X;obtain⟨c,a,p,dd,rest,page,n,kvs,ns,rfl,C,hd,I,q⟩:=h;refine⟨_,(aB (aD (aF (DG G.hd) (by rfl) T.Kn FR (aa (uI QQ Xa PySem.F.type_dict_values xp (ar (pv 0) rfl)) ag))))
  ,?_⟩
 obtain⟨dx,O⟩:=C.ob;exact⟨_,rfl,c,_,dx,_,_,rfl,O,T.aG,T.fF,rfl,.inr (.inr (.inl ⟨rfl,.inl ⟨_,hd⟩⟩)),dd,_,rfl,rfl,hd,λv z=>⟨v,dd,_,ns,rfl,ac,ai z _ _ hd,I,q _ (ai z)⟩⟩
def TkO (t:Adr) (H:Hp) (v:V) (kd:Int) (a e:V) (R:Int->Bool):Prop:=(v= .non/\R=λ_=>false)\/∃q:Addr,v= .ref q/\TkAt t H q kd a e/\okN kd a e/\R=hN kd a e
theorem TkO.same {kd:Int} {a e:V} (h:TkO t H v kd a e R) (s:Same H H'):TkO t H' v kd a e R:=by
 rcases h with h|h
 .exact .inl h
 .obtain⟨q,h1,h2,z⟩:=h;exact .inr ⟨q,h1,h2.same s,z⟩
def AW (t:Adr):Sp:=λvs H Q _=>∃(v av e:V) (kd k:Int) (R:Int->Bool),vs=[v,.int k]/\TkO t H v kd av e R/\0<=k/\∀H',Same H H'->Q (.bl (R k)) H'
theorem Bl (T:Txt K mg t):FnOk P w K mg base CX0 4 t.xT t.rW ["token","key"] (AW t):=by
 refine T.DQ.okl Be λ_ _ _ s H vs Q E U h=>?_;intro X;obtain⟨v,av,e,kd,k,R,rfl,Y,k0,q⟩:=h;refine⟨_,(aB (aD (gi (bI p5 (pv 0) bg (aq _)) (cT (pY (kk:=3) (gN (b4 T.bE T.jM (eQ T) T.jT (by decide)) (gN (b4 T.gB T.my (gL T) T.mO (by decide)) (b4 T.b9 T.jp (eP T) T.jF (by decide)))) U.mo (pv 0) (aa (pv 1) ag))))))
  ,?_⟩
 rcases Y with⟨rfl,rfl⟩|⟨p,rfl,⟨Z,fr,G,I⟩,O,rfl⟩
 .exact⟨_,rfl,rfl,_,rfl,cM (q H (Same.refl _))⟩
 refine⟨_,rfl,rfl,_,rfl,?_⟩;rw[show decide (V.ref p=V.non)=false from decide_eq_false λz=>by cases z];exact db ⟨_,rfl,p,_,Z,fr,_,rfl,G,I.ho,dHN O.kd,_,rfl,ye O G I k0 λH2 s2=>q H2 s2⟩
def pN (t:Adr):Sp:=λvs H Q _=>∃(c a p dd:Addr) (rest page av e a':V) (n kd k:Int) (R:Int->Bool),vs=[.ref c,.int k]/\CoP t H c a p dd rest n page/\TkAt t H p kd av e/\okN kd av e/\TkO t H rest kd a' e R/\0<=k/\∀H',Same H H'->Q (.bl (hN kd av e k&&!R k)) H'
theorem p8 (T:Txt K mg t):FnOk P w K mg base CX0 5 t.jW t.fJ ["self","key"] (pN t):=by
 refine T.DT.okl pR λ_ _ _ s H vs Q E I h=>?_;intro X;obtain⟨c,a,p,dd,rest,page,av,e,a',n,kd,k,R,rfl,C,Z,O,TR,k0,q⟩:=h;refine⟨_,(aB (aD (gi (pY (kk:=3) (gN (b4 T.bE T.jM (eQ T) T.jT (by decide)) (gN (b4 T.gB T.my (gL T) T.mO (by decide)) (b4 T.b9 T.jp (eP T) T.jF (by decide)))) I.mo (ar (pv 0) rfl) (aa (pv 1) ag)) (cT (Bj (aN (Bl T) I.mo (by rfl) T.Kl T.DQ.kp T.Km .nil az (aa (ar (pv 0) rfl) (aa (pv 1) ag))))))))
  ,?_⟩
 obtain⟨dx,U⟩:=C.ob;obtain⟨dr,fr,z,Y⟩:=Z;refine⟨_,rfl,c,_,dx,_,_,rfl,U,T.aG,T.tH,rfl,p,_,dr,fr,_,rfl,z,Y.ho,dHN O.kd,_,rfl,ye O z Y k0 λH2 G=>⟨_,rfl,?_⟩⟩;cases hc:hN kd av e k with
 |false=>
  have:=q H2 G;rw[hc]at this;exact cM this
 |true=>
  refine db ⟨_,rfl,c,_,dx,_,_,rfl,G _ _ U,T.aG,T.cW,rfl,_,rfl,rest,a',e,kd,k,R,rfl,TR.same G,k0,λH3 s3=>⟨_,rfl,?_⟩⟩;have:=q H3 (G.trans s3);rw[hc]at this;exact this
def vP (t:Adr):Sp:=λvs H Q _=>∃(v av e:V) (kd:Int) (R:Int->Bool),vs=[v]/\TkO t H v kd av e R/\(v≠ .non->bdV av/\bdV e)/\∀H',Same H H'->Q (.str (if v= .non then "end" else xY (kdS kd) av e)) H'
theorem wv (T:Txt K mg t):FnOk P w K mg base CX0 3 t.qv t.kF ["_law_token_here"] (vP t):=by
 refine T.qK.okl wf λ_ _ _ s H vs Q E Y h=>?_;intro X;obtain⟨v,av,e,kd,R,rfl,Z,bd,q⟩:=h;refine ah (aV (ao cU (pv 0) bg (aq _))
    (aB (aD gh))
    aI)
   (aA (aD (C2 (kk:=2) (gN (b4 T.bE T.Dj (tx T) T.mP (by decide)) (gN (b4 T.gB T.Ix (tx T) T.mP (by decide)) (b4 T.b9 T.Go (tx T) T.mP (by decide)))) Y.mo (pv 0))) ?_)
 intros
 rcases Z with⟨rfl,rfl⟩|⟨p,rfl,⟨I,fr,G,O⟩,U,rfl⟩
 .exact⟨_,rfl,rfl,_,rfl,fX rfl (q H (Same.refl _))⟩
 obtain⟨ba,be⟩:=bd λz=>by cases z
 refine⟨_,rfl,rfl,_,rfl,bf (λz=>by cases z) ?_⟩;exact⟨_,rfl,p,_,I,fr,_,rfl,G,O.wo,dWN U.kd,p,I,kd,fr,av,e,rfl,G,O,U,ba,be,λH2 s2=>q H2 s2⟩
theorem HoA.nd {x:HSt} (A:HoA K t H a F x):(x.st.kv.map (·.1)).Nodup:=by
 obtain⟨s,l,wr,p,h,Fs,Fl,B,O,g⟩:=A;obtain⟨_,_,_,_,nd,_⟩:=B.sl;exact nd
theorem HoA.rise {x:HSt} (A:HoA K t H a F x):cN x.ks:=by
 obtain⟨_,_,_,_,_,_,L⟩:=A.lvs;exact L.rise
theorem Jh.kl {d:Addr} {x:HSt} (J:Jh K t H a d F x):x.ks.length<=301:=by
 have G:x.ks.Nodup:=J.A.rise.imp λh=>Int.ne_of_lt h;have:=iu G (S:=x.st.kv.map (·.1)) λz hz=>mem_keys.mpr ((J.A.ok.ks z).mp hz);rw[Q0]at this;exact QD this J.le
theorem Jh.k0 {d:Addr} {x:HSt} (J:Jh K t H a d F x):∀k∈x.ks,0<=k:=λk hk=>(J.kb k (mem_keys.mpr ((J.A.ok.ks k).mp hk))).1
theorem HoA.notup {x:HSt} (A:HoA K t H a F x) (e:H b=some (.tup xs)):¬F b:=λz=>by
 obtain⟨o,G,n⟩:=A.dom z;rw[e]at G;exact n _ (Option.some.inj G).symm
def Ga (H7:Hp) (i:Nat) (ys:List V) (H':Hp):Prop:=Same H7 H'/\∃zs:List Int,ys=zs.map V.int/\zs.length=i/\∀z∈zs,0<=z
theorem Db {G H8:Hp} {D:Addr} {y:V} {ys:List V} {z:Int} (hy:xs[i]?=some y) (w:Ga G i ys H8) (hD:G D=none) (I:H8 D=some (.lst ys)) (hn:xs.length<=4000) (O:0<=z):CNext xs.length i ys D (Ga G) (.int z) H8:=by
 obtain⟨U,zs,rfl,Y,Z⟩:=w;have hi:i<xs.length:=(Q2.mp hy).1;refine CNext.mk hi I (br (by rw[Q0];lia)) ⟨bP U hD,zs++ [z],by rw[Qc];rfl,by rw[Qa,Y];rfl,λv hv=>?_⟩;rcases Q5.mp hv with hv|hv
 .exact Z v hv
 .rw[Q7.mp hv];exact O
theorem AskU.fr {kd:Int} {e a':V} (U:AskU t H F st kd n av e v ts a' R) (f:Fr F F' H H'):AskU t H' F' st kd n av e v ts a' R:=
 ⟨U.rest.imp id λ⟨q,h1,⟨dx,fs,hq,G⟩,I,z,O⟩=>⟨q,h1,⟨dx,fs,(f _ _ z hq).1,G⟩,I,(f _ _ z hq).2,O⟩,U.less,U.nd,U.me,U.tell,U.far⟩
def yc (K:PySem.W.Frag) (t:Adr):Sp:=λvs H Q _=>∃(c a p dd g nd:Addr) (rest:V) (m z kd:Int) (av e:V) (F:Addr->Prop) (x:HSt),vs=[.ref c,.ref a,.ref p,.int z]/\CoP t H c a p dd rest m (.ref g)/\PgO t H g p nd .non .non .non/\¬F c/\¬F g/\¬F nd/\HoA K t H a F x/\TkAt t H p kd av e/\okN kd av e/\¬F p/\x.st.kv.length<4096/\x.ks.length<4096/\(∀k∈x.ks,0<=k)/\(∀p∈x.st.kv,∃i:Int,p.2= .int i)/\p≠g/\
 ∀(H':Hp) (F':Addr->Prop) (w r f l g2:Addr) (v v2:V) (ts ts2:List Tp) (a' a2:V) (R R2:Int->Bool) (n:Int),HoA K t H' a F' x->(∀b o,b≠g->¬F b->H b=some o->H' b=some o/\¬F' b)->PgO t H' g p nd (.ref f) v .non->¬F' g->¬F' nd->H' f=some (.lst (ts.map λe=>V.ref e.p))->¬F' f->(∀e∈ts,H' e.p=some (.tup [.int e.k,e.v])/\¬F' e.p)->(¬F f->H f=none)->AskU t H' F' x.st kd n av e v ts a' R->H' l=some (.lst (ts.map λe=>V.ref e.p))->¬F' l->l≠f->(∀b o,b≠g->¬F b->H b=some o->b≠l)->
  H' w=some (.tup [.ref l,.ref r])->H' r=some (.tup [.ref g2,v2])->H' g2=some (.lst (ts2.map λe=>V.ref e.p))->g2≠l->g2≠f->¬F' g2->(∀e∈ts2,H' e.p=some (.tup [.int e.k,e.v]))->AskU t H' F' x.st kd n av e v2 ts2 a2 R2->Q (.ref w) H'
theorem yz (T:Txt K mg t):FnOk P w K mg base CX0 11 t.sF t.mH ["_law_copier","_law_house_here","_law_token_here","_law_cell"] (yc K t):=by
 refine T.As.okl sc__law_read λ_ _ _ s H vs Q E hr h=>?_;intro X;obtain⟨c,a,p,dd,g,nd,rest,m,z,kd,av,e,F,x,rfl,C,Pg,nc,ng,nn,A,TK,on,nt,l4,lk,k0,iv,a1,q⟩:=h;refine bV (λx=>aV (ao bN (al aQ (pv 3) af) af (aq _)) x aI) ?_;refine aA (aD (bC (aa (bx (pv 0) T.aG T.nR (mt T) hr.mo T.mS.choose_spec.1 T.mS.choose_spec.2 az) (aa (aN (ET T) hr.mo (by rfl) T.Iz T.Gb.kp T.J6.choose_spec.1 T.J6.choose_spec.2 az (aa (pv 1) (aa (pv 2) ag))) ag)))) ?_
 intros
 refine ah (ay (i:=4) sc__law_read.nd rfl (Or.inl rfl) (al bp af (al aQ (al aT (pv 3) af) af)))
   (aA (aD (bC (aa (aR (pv 0) T.aG T.nR (mt T) hr.mo T.AD .nil az (aa (pv 4) ag)) (aa (aN (ET T) hr.mo (by rfl) T.Iz T.Gb.kp T.BJ.choose_spec.1 T.BJ.choose_spec.2 az (aa (pv 1) (aa (pv 2) (aa (pv 4) ag)))) ag)))) ?_)
 intros
 obtain⟨dx,ho⟩:=C.ob;obtain⟨dt,ft,a3,a4⟩:=id TK;have fin:∀(n:Int),1<=n->n<=1000->∀(H2:Hp) (G:Addr->Prop) (f l:Addr) (v:V) (ts:List Tp) (a':V) (R:Int->Bool),HoA K t H2 a G x->(∀b o,b≠g->¬F b->H b=some o->H2 b=some o/\¬G b)->¬G g->PgO t H2 g p nd (.ref f) v .non->¬G nd->H2 f=some (.lst (ts.map λe=>V.ref e.p))->¬G f->(∀e∈ts,H2 e.p=some (.tup [.int e.k,e.v])/\¬G e.p)->(¬F f->H f=none)->AskU t H2 G x.st kd n av e v ts a' R->H2 l=some (.lst (ts.map λe=>V.ref e.p))->¬G l->l≠f->(∀b o,b≠g->¬F b->H b=some o->b≠l)->
   ∀(Q':VK) (E':XK),(∀y H3,(∀w,H3 w=none->Q (.ref w) (upd H3 w (.tup [.ref l,y])))->Q' y H3)->yb K t [.ref a,.ref p,.int n,.non] H2 Q' E':=λn n1 n2 H2 G f l v ts a' R A2 f2 I P2 O hf nf tu of U hl nl lf lo Q' E' hQ=>by
  obtain⟨a5,a7⟩:=f2 _ _ a1 nt a3;refine⟨a,p,n,kd,av,e,G,x,rfl,A2,⟨dt,ft,a5,a4⟩,on,a7,n1,n2,l4,lk,k0,iv,λH3 F3 r g2 v2 ab a2 R2 A3 Y Z U3=>hQ _ _ λw nw=>?_⟩;have s4:=ai (o:= .tup [.ref l,.ref r]) nw;obtain⟨an,a0⟩:=P2.ob;have ol:∀{b:Addr} {o:HO},¬G b->H2 b=some o->g2≠b:=λ{b o} n1 e1 z=>by
   have:=Z.ng.1 (z▸n1);rw[z,e1]at this;cases this
  exact q _ F3 w r f l g2 v v2 ts ab a' a2 R R2 n (A3.same s4) (λb o n1 n2 e1=>⟨s4 _ _ (Y _ _ (f2 b o n1 n2 e1).2 (f2 b o n1 n2 e1).1).1,(Y _ _ (f2 b o n1 n2 e1).2 (f2 b o n1 n2 e1).1).2⟩) ⟨⟨an,s4 _ _ (Y _ _ I a0).1⟩,s4 _ _ (Y _ _ O P2.no).1⟩ (Y _ _ I a0).2 (Y _ _ O P2.no).2 (s4 _ _ (Y _ _ nf hf).1) (Y _ _ nf hf).2 (λu hu=>⟨s4 _ _ (Y _ _ (tu u hu).2 (tu u hu).1).1,(Y _ _ (tu u hu).2 (tu u hu).1).2⟩) of ((U.fr Y).same s4) (s4 _ _ (Y _ _ nl hl).1) (Y _ _ nl hl).2 lf lo ac (s4 _ _ Z.tu) (s4 _ _ Z.li) (ol nl hl) (ol nf hf) Z.ng.2 (λu hu=>s4 _ _ (Z.rw u hu).1) (U3.same s4)
 refine⟨_,rfl,_,_,rfl,rfl,(by show(0:Int)<3;decide),rfl,_,rfl,bK (λ_=>?_) (λ_=>?_)⟩
 .refine⟨_,rfl,c,dx,_,rfl,ho,(by rfl),c,a,p,dd,g,nd,rest,m,10,kd,av,e,F,x,rfl,C,Pg,nc,ng,nn,A,TK,on,nt,by decide,by decide,l4,lk,k0,iv,λH2 G f l v ts a' R A2 f2 I P2 O hf nf tu of U hl nl lf lo=>?_⟩;refine⟨_,rfl,_,rfl,?_⟩;show yb K t [.ref a,.ref p,.int 10,.non] H2 (λy H3=> [V.ref l,y].length<=sizeLine/\∀w,H3 w=none->Q (.ref w) (upd H3 w (.tup [.ref l,y]))) E0;exact fin 10 (by decide) (by decide) H2 G f l v ts a' R A2 f2 I P2 O hf nf tu of U hl nl lf lo _ _ λy H3 h=>⟨(by show 2<=sizeLine;decide),h⟩
 .have m0:=Qe (z/3) (show(100:Int)≠0 by decide);have m1:=Qb (z/3) (show(0:Int)<100 by decide);unfold t7
  (try dsimp only)
  refine⟨_,rfl,_,_,rfl,rfl,⟨by decide,by decide⟩,_,_,rfl,rfl,(by show(0:Int)<100;decide),_,_,rfl,rfl,?_⟩
  (try dsimp only)
  refine⟨_,rfl,c,dx,_,rfl,ho,(by rfl),_,rfl,c,a,p,dd,g,nd,rest,m,1+z/3%100,kd,av,e,F,x,rfl,C,Pg,nc,ng,nn,A,TK,on,nt,by lia,by lia,l4,lk,k0,iv,λH2 G f l v ts a' R A2 f2 I P2 O hf nf tu of U hl nl lf lo=>?_⟩;refine⟨_,rfl,_,rfl,_,rfl,?_⟩;show yb K t [.ref a,.ref p,.int (1+z/3%100),.non] H2 (λy H3=> [V.ref l,y].length<=sizeLine/\∀w,H3 w=none->Q (.ref w) (upd H3 w (.tup [.ref l,y]))) E0;exact fin (1+z/3%100) (by lia) (by lia) H2 G f l v ts a' R A2 f2 I P2 O hf nf tu of U hl nl lf lo _ _ λy H3 h=>⟨(by show 2<=sizeLine;decide),h⟩
structure O52 (K:PySem.W.Frag) (t:Adr) (H:Hp) (sc d p n:Addr) (F E:Addr->Prop) (kv:List (Int×V)) (ns:List Int) (kd:Int) (av e:V):Prop where
 di:H d=some (.dK (aK kv))/\¬F d/\¬E d
 TK:TkAt t H p kd av e/\¬F p/\¬E p
 hn:H n=some (.tup [.int kd,av,e])/\¬F n/\¬E n
 cS:SqF K (λb=>F b\/E b) H sc (ns.map V.int)
theorem O52.go {sc d n:Addr} {E E':Addr->Prop} {kv:List (Int×V)} {ns:List Int} {kd:Int} {e:V} (O:O52 K t H sc d p n F E kv ns kd av e) (f:∀b o,¬F b->¬E b->H b=some o->H' b=some o/\¬F' b/\¬E' b):O52 K t H' sc d p n F' E' kv ns kd av e:=by
 obtain⟨dx,fs,G,r⟩:=O.TK.1;obtain⟨I,p2⟩:=f _ _ O.TK.2.1 O.TK.2.2 G;exact⟨f _ _ O.di.2.1 O.di.2.2 O.di.1,⟨⟨dx,fs,I,r⟩,p2⟩,f _ _ O.hn.2.1 O.hn.2.2 O.hn.1,O.cS.fr λb o n e=>⟨(f b o (λz=>n (.inl z)) (λz=>n (.inr z)) e).1,λz=>z.elim (f b o (λz=>n (.inl z)) (λz=>n (.inr z)) e).2.1 (f b o (λz=>n (.inl z)) (λz=>n (.inr z)) e).2.2⟩⟩
theorem ED {kv:List (Int×V)} {z:List Tp} {A B:Int->Prop} (iv:∀p∈kv,∃i:Int,p.2= .int i) (me:∀k v,(k,v)∈ts.map Tp.kv↔(k,v)∈kv/\A k/\B k) (Y:ts.map Tp.kv=z.map Tp.kv):(ts.map λe=>V.ref e.p).length=(z.map λe=>V.ref e.p).length/\∀{H:Hp},(∀e∈ts,H e.p=some (.tup [.int e.k,e.v]))->(∀e∈z,H e.p=some (.tup [.int e.k,e.v]))->∀(j:Nat) (u v:V),(ts.map λe=>V.ref e.p)[j]?=some u->(z.map λe=>V.ref e.p)[j]?=some v->Alk K H 4 u v:=by
 refine⟨by have:=congrArg List.length Y;simpa using this,λ{H} h1 h2 j u v hu hv=>?_⟩;rw[Qn]at hu hv;cases G:ts[j]? with
 |none=>rw[G]at hu;cases hu
 |some x=>
  cases I:z[j]? with
  |none=>rw[I]at hv;cases hv
  |some y=>
   rw[G]at hu;rw[I]at hv;cases hu;cases hv;have Z:=congrArg (λl:List (Int×V)=>l[j]?) Y;rw[Qn,Qn,G,I]at Z;have e3:x.kv=y.kv:=Option.some.inj Z;have e4:x.k=y.k:=congrArg Prod.fst e3;have e5:x.v=y.v:=congrArg Prod.snd e3;have hx:=Q1 G;obtain⟨i,O⟩:=iv _ ((me x.k x.v).mp (Z0 (f:=Tp.kv) hx)).1;have O:x.v= .int i:=O;have t1:=h1 x hx;have U:=h2 y (Q1 I);rw[<-e4,<-e5]at U;rw[O]at t1 U;refine .inr ⟨_,_,_,_,rfl,rfl,.inr ⟨SqT.of t1,SqT.of U⟩,rfl,λj u v hu hv=>?_⟩;rcases j with _|_|j
   .cases hu;cases hv;exact .inl ⟨True.intro,rfl⟩
   .cases hu;cases hv;exact .inl ⟨True.intro,rfl⟩
   .cases hu
theorem Tell.bd {kd:Int} {e a':V} (h:Tell st ks kd n av e ps (some a')) (hk:∀k∈ks,k<10^40) (O:okN kd a' e):bdV a':=by
 rcases h with⟨k0,m,g,G⟩|⟨up,Y,Z,v1,G⟩
 .rcases O with⟨_,i,j,rfl,rfl,h1,h2,h3⟩|⟨z,_⟩|⟨z,_⟩
  .show i<10^80;lia
  .lia
  .lia
 .split at G
  .cases G
  .cases c:(b3 up av e ks)[n.toNat-1]? with
   |none=>rw[c]at G;cases G
   |some k=>
    rw[c]at G;cases G;have I:=Q1 c;unfold b3 at I;have I:=(QH.mp I).1;have U:k<10^40:=hk k (by split at I;exact I;exact ZG.mp I);show(if up=true then k+1 else k-1)<10^80;split<;>lia
theorem Bs {di:List (Addr×List V)} {r:Addr} {i j:Int} (m z:Nat):(((di++ [(r,[V.str "mark",.int i])]++ [(q,[V.str "mark",.int j])]).drop ((di.length:Int)+m).toNat).take z).map (·.2)=(([i,j].drop m).take z).map λi=> [V.str "mark",V.int i]:=by
 rw[Ql,show((di.length:Int)+m).toNat=di.length+m by lia,<-Xo,List.drop_left,Z7,ZJ,Z7,ZJ];rfl
theorem HoA.but {dd:Addr} {x:HSt} (A:HoA K t H a F x) (I:¬F c) (nd:¬F dd) (tc:∀xs,H c≠some (.tup xs)) (td:∀xs,H dd≠some (.tup xs)) (G:∀b o,b≠c->b≠dd->H b=some o->H' b=some o):HoA K t H' a F x:=
 A.keep (λb hb=>by
  obtain⟨o,e,_⟩:=A.dom hb;rw[e];exact G b o (λz=>I (z▸hb)) (λz=>nd (z▸hb)) e) λb xs e=>G b _ (λz=>tc xs (z▸e)) (λz=>td xs (z▸e)) e
def Ex (K:PySem.W.Frag):Sp:=λvs H Q _=>∃(a:Addr) (ns:List Int),vs=[.ref a]/\SqL K H a (ns.map V.int)/\ns.length<=63/\∀H',Q (.bl true) H'
theorem Jv (T:Txt K mg t):FnOk P w K mg base CX0 12 t.IJ t.Cv ["_law_script"] (Ex K):=by
 refine T.La.okl sc_law λ_ _ _ s H vs Q E Y h=>?_;intro X;obtain⟨sc,ns,rfl,hS,fb,q⟩:=h;refine ah (rq (aN (wy T) Y.mo (by rfl) T.Hv T.y9.kp T.HJ .nil az (aa (eL gK (pv 0) (fP af) (fP af)) ag)) (uH rfl (cR (bH (i:=1) sc_law.nd rfl (Or.inl rfl)) (cR (bH (i:=2) sc_law.nd rfl (Or.inl rfl)) pX))))
   (ah (ay (i:=3) sc_law.nd rfl (Or.inl rfl) (aN (tm T) Y.mo (by rfl) T.Fb T.vM.kp T.FV .nil az (aa (aN (tw T) Y.mo (by rfl) T.u8 T.m8.kp T.vv .nil az (aa (pv 0) (aa af ag))) (aa (aF (yP Y.hd) (by rfl) T.Eb xJ (aa (pv 2) ag)) ag))))
   (ah (ay (i:=4) sc_law.nd rfl (Or.inl rfl) (aN (ww T) Y.mo (by rfl) T.Hu T.y7.kp T.HI .nil az (aa (pv 3) ag)))
   (ah (ay (i:=5) sc_law.nd rfl (Or.inl rfl) (aN (tw T) Y.mo (by rfl) T.u8 T.m8.kp T.vv .nil az (aa (pv 0) (aa af ag))))
   (ah (ay (i:=6) sc_law.nd rfl (Or.inl rfl) (iU T.Ki (tF T) Y.mo (by rfl) T.Kk T.tL.choose_spec.1 T.tL.choose_spec.2 az (aa (pv 1) (aa (pv 4) ag))))
   (ah (ay (i:=7) sc_law.nd rfl (Or.inl rfl) (aF aE (by rfl) T.bO bh (aa (bx (pv 1) T.aO T.iA (gj T) Y.mo T.gw.choose_spec.1 T.gw.choose_spec.2 az) ag)))
   (ah (ay (i:=8) sc_law.nd rfl (Or.inl rfl) (bx (pv 6) T.aG T.Ay (mw T) Y.mo T.AE .nil az))
   (ah (rq (aN (yz T) Y.mo (by rfl) T.IA T.As.kp T.IH .nil az (aa (pv 6) (aa (pv 1) (aa (pv 4) (aa (al aT (pv 5) af) ag))))) (uH rfl (cR (bH (i:=9) sc_law.nd rfl (Or.inl rfl)) (cR (bH (i:=10) sc_law.nd rfl (Or.inl rfl)) pX))))
   (ah (ay (i:=11) sc_law.nd rfl (Or.inl rfl) (dY qr (by rfl) T.Ed yS (aa (pv 9) ag)))
   (ah (aS (uI Qq PySem.F.slot_list_clear PySem.F.type_list_clear EZ (pv 9)))
   (ah (ay (i:=12) sc_law.nd rfl (Or.inl rfl) (bx (pv 6) T.aG T.zU (lw T) Y.mo T.Ao .nil az))
   (ah (aV (PW.pt (ie (ao (EQ K rfl Y.u20) (pv 11) (aX bX (pv 10) af (λ_ _=>rfl)) (aq _)) (fA (ao xk (pv 12) (al bp (pv 8) af) (aq _)))))
    (aB (aD uJ))
    aI)
   (ah (aV (PW.pt (ie (ao (EQ K rfl Y.u20) (aR (pv 1) T.aO T.iA (gj T) Y.mo T.vx .nil az (aa (pv 7) ag)) (bT (aa (bC (aa gh (aa (pv 8) ag))) (aa (bC (aa gh (aa (pv 12) ag))) ag))) (aq _)) (fA (ao (EO Y.u20) (bx (pv 6) T.aG T.mC (tG T) Y.mo T.mR .nil az) eO (aq _)))))
    (aB (aD uJ))
    aI)
   (ah (aV (PW.pt (fB (ao bN (al aQ (pv 5) af) af (aq _)) (dO (PW.pt (ie (ao xk (aR (pv 6) T.aG T.rK (p7 T) Y.mo T.rZ .nil az (aa af ag)) (al bp (pv 7) af) (aq _)) (fA (ao (EO Y.u20) (bx (pv 6) T.aG T.mC (tG T) Y.mo T.mR .nil az) eO (aq _))))))))
    (aB (aD uJ))
    aI)
   (ah (aV (PW.pt (ie (ao xk (aR (pv 6) T.aG T.rK (p7 T) Y.mo T.rZ .nil az (aa af ag)) (al bp (pv 7) af) (aq _)) (ie (ao xk (bx (pv 6) T.aG T.DY (rF T) Y.mo T.D6 .nil az) (al bp (pv 7) af) (aq _)) (fA (ao (Hc Y.u20) (bx (pv 6) T.aG T.mC (tG T) Y.mo T.mR .nil az) (dY (vo Y.hd) (by rfl) T.AJ tT (aa (pv 11) ag)) (aq _))))))
    (aB (aD uJ))
    aI)
   (ah (ay (i:=13) sc_law.nd rfl (Or.inl rfl) (aX bX (pv 10) af (λ_ _=>rfl)))
   (bV (λx=>(ii PassesOwn.never rfl (c8 (al ER (dY (BF Y.hd) (by rfl) T.Ed yS (aa (pv 2) ag)) (iV rfl (CScope.of (M:=["_law_cell"]) (N:=["_law_script","_law_house_here","_law_kept","_law_numbers_here","_law_token_here","_law_cell","_law_copier","_law_before","_law_opening","_law_told","_law_found","_law_rows","_law_closing","_law_rest","_law_key","_law_due"]) (N':=["_law_script","_law_house_here","_law_kept","_law_numbers_here","_law_token_here","","_law_copier","_law_before","_law_opening","_law_told","_law_found","_law_rows","_law_closing","_law_rest","_law_key","_law_due"]) (dsc:=aj zy) rfl rfl (by decide+kernel)) (c8 (eL gK (pv 0) iT (fP af))) (λ_ _ _ _ _=>(al aQ (pv 0) af))))) (bH (i:=14) sc_law.nd rfl (Or.inl rfl))
    x)) ?_))))))))))))))))
 refine ah (ay (i:=15) sc_law.nd rfl (Or.inl rfl) (gi (aN (wz T) Y.mo (by rfl) T.Hw T.za.kp T.HK .nil az (aa (pv 3) (aa (pv 14) ag))) (cT (zF (bI cU (pv 13) bg (aq _)) (cT (Bj (pY (kk:=3) (gN (b4 T.bE T.jM (eQ T) T.jT (by decide)) (gN (b4 T.gB T.my (gL T) T.mO (by decide)) (b4 T.b9 T.jp (eP T) T.jF (by decide)))) Y.mo (pv 13) (aa (pv 14) ag))))))))
   (ah (ay (i:=9) sc_law.nd rfl (Or.inl rfl) (aR (pv 6) T.aG T.Di (p8 T) Y.mo T.DM .nil az (aa (pv 14) ag)))
   (aA (aV (PW.pt (ie (PW.pt (fB (ao xl (pv 9) uJ (aq _)) (dO (ao xl (pv 9) uJ (aq _))))) (fA (ao xk (pv 9) (pv 15) (aq _)))))
    (aB (aD uJ))
    aI) ?_))
 intros
 refine aA (aD (gi (bI bN (aN (wv T) Y.mo (by rfl) T.yF T.qK.kp T.yU .nil az (aa (bx (pv 6) T.aG T.E6 (tE T) Y.mo T.FX .nil az) ag)) (aN (wv T) Y.mo (by rfl) T.yF T.qK.kp T.yU .nil az (aa (pv 13) ag)) (aq _)) (cT (bI bN (bx (pv 6) T.aG T.DX (rE T) Y.mo T.D5 .nil az) (aF (DH rfl) (by rfl) T.Kn FR (aa (iV rfl (CScope.of (M:=["_law_row"]) (N:=["_law_script","_law_house_here","_law_kept","_law_numbers_here","_law_token_here","_law_cell","_law_copier","_law_before","_law_opening","_law_told","_law_found","_law_rows","_law_closing","_law_rest","_law_key","_law_due"]) (N':=["_law_script","_law_house_here","_law_kept","_law_numbers_here","_law_token_here","_law_cell","_law_copier","_law_before","_law_opening","_law_told","_law_found","_law_rows","_law_closing","_law_rest","_law_key","_law_due"]) (dsc:=aj zy) rfl rfl (by decide+kernel)) (c8 (pv 11)) (λ_ _ _ _ _=>(aX (tQ K rfl) (pv 0) af (λ_ _=>rfl)))) ag)) (aq _))))) ?_
 intros
 obtain⟨cs,fc,sb⟩:=FO ns (some 3) (some 43);refine⟨_,rfl,_,rfl,_,rfl,sc,_,rfl,hS,λp1 fe=>?_⟩;rw[fc];have hj:cs.length<=63:=QD sb.length_le fb;have cS:=(SqF.of (F:=λ_=>False) hS λ_ _ z=>z).new (o:= .lst (cs.map V.int)) fe;have h1:upd H p1 (.lst (cs.map V.int)) p1=some (.lst (cs.map V.int)):=ac
 (try dsimp only)
 generalize upd H p1 (.lst (cs.map V.int))=H1 at cS h1⊢;refine⟨p1,cs,rfl,h1,hj,λH2 r2 a d F x hl ff fg J l2 e2 o2=>?_⟩;have cS:=cS.fr (F':=Wh F d) (H':=H2) λb o _ e=>o2 b o e;refine⟨r2,_,rfl,SqT.of fg,rfl,_,_,rfl,_,_,rfl,rfl,?_⟩;clear hS h1 o2 fe fc sb fg hl ff;obtain⟨c1,hp⟩:∃c:Int,ns.getD (1:Int).toNat 0=c:=⟨_,rfl⟩;obtain⟨c2,hq⟩:∃c:Int,ns.getD (2:Int).toNat 0=c:=⟨_,rfl⟩;refine⟨_,rfl,sc,ns,1,rfl,cS.sq,by decide,?_⟩;rw[hp];refine⟨_,rfl,d,_,x.st.kv.map (·.1),rfl,.inl J.di,xw,λl ms nl pm pw=>?_⟩;have s3:=ai (o:= .lst (ms.map V.int)) nl;have h3:upd H2 l (.lst (ms.map V.int)) l=some (.lst (ms.map V.int)):=ac
 (try dsimp only)
 generalize upd H2 l (.lst (ms.map V.int))=H3 at s3 h3⊢;refine⟨_,l,ms,rfl,h3,λk hk=>J.kb k (pm.mem_iff.mp hk),?_⟩;intro H4 n av e s4 hn on ba be;obtain⟨kd,hs⟩:∃kd:Int,c1%3=kd:=⟨_,rfl⟩;rw[hs]at hn on;have ee:=s3.trans s4;have J4:=J.same ee;have fi:=cS.fr (Fr.of_same ee);clear s3 s4 h3 nl pm pw cS J;refine⟨_,rfl,n,kd,av,e,rfl,SqT.of hn,on,λH5 p s5 np TK=>?_⟩;have J5:=J4.same s5;have fk:¬F p:=J4.A.out np;have ef:=fi.fr (Fr.of_same s5);have eg:=s5 _ _ hn;clear np s5 ee hn fi J4;refine⟨_,rfl,sc,ns,2,rfl,ef.sq,by decide,?_⟩;rw[hq]
 (try dsimp only)
 refine⟨_,rfl,_,rfl,λc dx nc ht jw=>?_⟩;have dp:=bP (ai (o:= .own c) ht) (o:= .ins t.a7 dx []) nc;refine⟨c,dx,a,p,F,x,rfl,ac,J5.A.same dp,λH6 dd C ek hx kp=>⟨rfl,?_⟩⟩;have s6:Same H5 H6:=λb o e=>kp b o (ak e nc) (dp _ _ e);have fm:H5 dd=none:=de dp hx;have O6:O52 K t H6 sc d p n F (λb=>b=c\/b=dd) x.st.kv ns kd av e:=by
  have O5:O52 K t H5 sc d p n F (λ_=>False) x.st.kv ns kd av e:=⟨⟨J5.di,J5.nd,id⟩,⟨TK,fk,id⟩,⟨eg,J5.A.notup eg,id⟩,ef.fr λb o n e=>⟨e,λz=>z.elim (λz=>n (.inl z)) id⟩⟩;exact O5.go λb o Z _ e=>⟨s6 _ _ e,Z,λz=>z.elim (λz=>by rw[z,nc]at e;cases e) λz=>by rw[z,fm]at e;cases e⟩
 have A6:=J5.A.same s6;have i1:¬F c:=J5.A.out nc;have i2:¬F dd:=J5.A.out fm;obtain⟨da,fa,ha,hm,_⟩:=A6.ins;refine⟨_,rfl,a,da,fa,rfl,ha,hm _ (by decide+kernel),a,0,F,x,rfl,A6,Zt _,λH7 r7 s7 jx fn=>⟨r7,_,rfl,.inl (SqL.of fn),?_⟩⟩;rw[Q0,show(0:Int).toNat=0 from rfl,Z9];have C7:=C.same s7;have A7:=A6.same s7;have ma:=J5.ma;obtain⟨dc,hc⟩:=C7.ob
 (try dsimp only)
 refine⟨_,rfl,c,dc,_,rfl,hc,(by rfl),c,a,p,dd,_,F,x,rfl,C7,A7,i1,by lia,λH8 F8 r8 g nd A8 C8 P8 i3 i4 dq e8 e9 k8=>?_⟩;have O8:O52 K t H8 sc d p n F8 (λb=>b=c\/b=dd\/b=g\/b=nd) x.st.kv ns kd av e:=(O6.go (F':=F) (E':=λb=>b=c\/b=dd) λb o Z O e=>⟨s7 _ _ e,Z,O⟩).go λb o Z O e=>⟨(k8 b o (λz=>O (.inl z)) Z e).1,(k8 b o (λz=>O (.inl z)) Z e).2,λz=>z.elim (λz=>O (.inl z)) λz=>z.elim (λz=>O (.inr z)) λz=>z.elim (λz=>by rw[z,i3]at e;cases e) λz=>by rw[z,i4]at e;cases e⟩;have i5:dd≠c:=λz=>by rw[z]at ek;obtain⟨_,h⟩:=C.ob;rw[ek]at h;cases h
 obtain⟨dt,fq⟩:=k8 dd _ i5 i2 (s7 _ _ ek);have kl:=J5.kl;have i6:=J5.k0;have ck:=J5.iv;have kb:∀k∈x.st.kv.map (·.1),0<=k:=λk hk=>(J5.kb k hk).1;have kt:∀k∈x.ks,k<10^40:=λk hk=>(J5.kb k (mem_keys.mpr ((J5.A.ok.ks k).mp hk))).2;have en:=J5.A.rise;have eo:=J5.A.ok.ks;have jy:=J5.A.nd;have i7:=J5.le;clear O6 A6 A7 C7 hc ha hm fn s7 C kp s6 dp J5 TK eg ef fk;refine⟨_,rfl,_,rfl,_,rfl,_,rfl,_,_,rfl,rfl,⟨by decide,by decide⟩,c,a,p,dd,g,nd,.ref p,_,c2/2,kd,av,e,F8,_,rfl,C8,P8,dq,e8,e9,A8,O8.TK.1,on,O8.TK.2.1,by show x.st.kv.length<4096;lia,by show x.ks.length<4096;lia,i6,ck,(λz=>O8.TK.2.2 (.inr (.inr (.inl z)))),?_⟩;intro H9 F9 w r f l g2 v v2 ts cm a' a2 R R2 m9 A9 k9 P9 ft fx ia fy ep jz U9 dv g0 ib ic ih g1 ij ik k1 g3 g4 V9;refine⟨w,_,rfl,SqT.of ih,rfl,_,_,rfl,_,_,rfl,rfl,?_⟩;obtain⟨il,b8⟩:=Tell.uniq (U9.tell x.ks en eo) (V9.tell x.ks en eo);have O9:O52 K t H9 sc d p n F9 (λb=>(b=c\/b=dd\/b=g\/b=nd)\/b=l) x.st.kv ns kd av e:=O8.go λb o Z O e=>⟨(k9 b o (λz=>O (.inr (.inr (.inl z)))) Z e).1,(k9 b o (λz=>O (.inr (.inr (.inl z)))) Z e).2,λz=>z.elim O (ic b o (λz=>O (.inr (.inr (.inl z)))) Z e)⟩;have cg:c≠g:=λz=>by obtain⟨_,h⟩:=C8.ob;obtain⟨_,h'⟩:=P8.ob;rw[z,h']at h;exact absurd (congrArg List.length (HO.ins.inj (Option.some.inj h)).2.2) (by show ¬5=6;decide)
 have dg:dd≠g:=λz=>by obtain⟨_,h'⟩:=P8.ob;rw[z,h']at dt;cases dt
 have C9:CoP t H9 c a p dd (.ref p) x.di.length (.ref g):=by
  obtain⟨d1,h1⟩:=C8.ob;exact⟨⟨d1,(k9 _ _ cg dq h1).1⟩⟩
 have eq:¬F9 c:=by obtain⟨d1,h1⟩:=C8.ob;exact(k9 _ _ cg dq h1).2
 obtain⟨g5,im⟩:=k9 _ _ dg fq dt;clear O8 C8 P8 A8 k8 k9 dt fq dq e8 e9;refine⟨_,rfl,l,_,rfl,.inl (SqL.of dv),λl2 dy=>?_⟩;have dz:=ai (o:= .lst (ts.map λe=>V.ref e.p)) dy;have ga:upd H9 l2 (.lst (ts.map λe=>V.ref e.p)) l2=some (.lst (ts.map λe=>V.ref e.p)):=ac;have ir:¬F9 l2:=A9.out dy;have is:l2≠l:=λz=>by rw[z,dv]at dy;cases dy
 (try dsimp only)
 generalize upd H9 l2 (.lst (ts.map λe=>V.ref e.p))=e0 at dz ga⊢;have co:=dz _ _ dv;refine⟨_,rfl,.inl ⟨rfl,_,SqL.of co⟩,l,_,rfl,rfl,co,?_⟩;have a0:∀b o,b≠l->H9 b=some o->upd e0 l (.lst []) b=some o:=λb o n e=>by rw[ae n];exact dz _ _ e
 have cr:HoA K t (upd e0 l (.lst [])) a F9 _:=(A9.same dz).upd g0 λxs z=>by rw[co]at z;cases z
 have er:upd e0 l (.lst []) l2=some (.lst (ts.map λe=>V.ref e.p)):=by rw[ae is];exact ga
 have nl:∀{b:Addr} {o:HO},H9 b=some o->(∀xs,o≠ .lst xs)->b≠l:=λ{b o} e n z=>by rw[z,dv]at e;exact n _ (Option.some.inj e).symm
 (try dsimp only)
 generalize upd e0 l (.lst [])=bo at a0 cr er⊢;have e1:CoP t bo c a p dd (.ref p) x.di.length (.ref g):=by
  obtain⟨d1,h1⟩:=C9.ob;exact⟨⟨d1,a0 _ _ (nl h1 λxs z=>by cases z) h1⟩⟩
 have et:PgO t bo g p nd (.ref f) v .non:=by
  obtain⟨d1,h1⟩:=P9.ob;exact⟨⟨d1,a0 _ _ (nl h1 λxs z=>by cases z) h1⟩,a0 _ _ (nl P9.no λxs z=>by cases z) P9.no⟩
 have ct:=a0 _ _ (Ne.symm ib) ia;have bw:∀e∈ts,bo e.p=some (.tup [.int e.k,e.v])/\¬F9 e.p:=λe he=>⟨a0 _ _ (nl (ep e he).1 λxs z=>by cases z) (ep e he).1,(ep e he).2⟩;have cx:=a0 _ _ (nl g5 λxs z=>by cases z) g5;have c0:=a0 _ _ (nl g1 λxs z=>by cases z) g1;have cz:=a0 _ _ ik ij;have c4:∀e∈cm,bo e.p=some (.tup [.int e.k,e.v]):=λe he=>a0 _ _ (nl (g4 e he) λxs z=>by cases z) (g4 e he);have eu:∀{q:Addr} {a3:V},TkAt t H9 q kd a3 e->TkAt t bo q kd a3 e:=λh=>by obtain⟨d1,f1,h1,t1⟩:=h;exact⟨d1,f1,a0 _ _ (nl h1 λxs z=>by cases z) h1,t1⟩
 obtain⟨dc,hc⟩:=e1.ob;refine⟨_,rfl,c,dc,_,rfl,hc,(by rfl),c,a,p,dd,g,nd,f,.ref p,v,_,F9,_,rfl,e1,et,eq,ft,fx,cr,by show x.now+(x.ma+1)<40000;lia,λb2 ax e3 ce gc iw ix ge=>?_⟩;have G:∀{b:Addr} {o:HO},¬F9 b->b≠g->bo b=some o->b2 b=some o/\¬ax b:=λZ O e=>ge _ _ O Z e;obtain⟨k2,ey⟩:=et.ob;have an:∀{b:Addr} {o:HO},bo b=some o->(∀C d fs,o≠ .ins C d fs)->b≠g:=λ{b o} e n z=>by rw[z,ey]at e;exact n _ _ _ (Option.some.inj e).symm
 have ab:=G ir (an er λ_ _ _ z=>by cases z) er;have bt:=G (cr.notup c0) (an c0 λ_ _ _ z=>by cases z) c0;have ea:=G g3 (an cz λ_ _ _ z=>by cases z) cz;have eb:∀e∈cm,b2 e.p=some (.tup [.int e.k,e.v]):=λe he=>(G (cr.notup (c4 e he)) (an (c4 e he) λ_ _ _ z=>by cases z) (c4 e he)).1;have c5:∀e∈ts,b2 e.p=some (.tup [.int e.k,e.v]):=λe he=>(G (bw e he).2 (an (bw e he).1 λ_ _ _ z=>by cases z) (bw e he).1).1;have aw:=G im (an cx λ_ _ _ z=>by cases z) cx;have ec:=G fy (an ct λ_ _ _ z=>by cases z) ct;have cf:CoP t b2 c a p dd (.ref p) x.di.length (.ref g)/\¬ax c:=by
  obtain⟨d1,h1⟩:=e1.ob;exact⟨⟨⟨d1,(G eq cg h1).1⟩⟩,(G eq cg h1).2⟩
 have d0:∀{q:Addr} {a3:V},¬F9 q->TkAt t H9 q kd a3 e->TkAt t b2 q kd a3 e:=λ{q a3} Z h=>by
  obtain⟨d1,f1,h1,t1⟩:=eu h;refine⟨d1,f1,(G Z (λz=>?_) h1).1,t1⟩;rw[z,ey]at h1;rw[<-(HO.ins.inj (Option.some.inj h1)).2.2]at t1;have h:(none:Option V)=some _:=t1.at_;cases h
 have gg:O52 K t b2 sc d p n ax (λb=>(b=c\/b=dd\/b=g\/b=nd)\/b=l) x.st.kv ns kd av e:=O9.go λb o Z O e=>⟨(G Z (λz=>O (.inl (.inr (.inr (.inl z))))) (a0 b o (λz=>O (.inr z)) e)).1,(G Z (λz=>O (.inl (.inr (.inr (.inl z))))) (a0 b o (λz=>O (.inr z)) e)).2,O⟩;have ez:(ts.map λe=>V.ref e.p).length=(cm.map λe=>V.ref e.p).length/\∀{H:Hp},(∀e∈ts,H e.p=some (.tup [.int e.k,e.v]))->(∀e∈cm,H e.p=some (.tup [.int e.k,e.v]))->∀(j:Nat) (u v:V),(ts.map λe=>V.ref e.p)[j]?=some u->(cm.map λe=>V.ref e.p)[j]?=some v->Alk K H 4 u v:=ED ck U9.me il;clear G ge a0 nl
 (try dsimp only)
 show zl (tIfS _ _ _) _ _ _ b2;refine b6 (λσ H'=>σ=[some (.ref sc),some (.ref a),some (.ref d),some (.ref n),some (.ref p),some (.int c2),some (.ref c),some (.int x.di.length),some (.int (x.ma+1)),some (.ref l),some (.ref r),some (.ref l2),some (.int (x.ma+1+1)),none,none,none]/\H'=b2) (λnx go=>?_) (λσ iy w=>?_)
 .refine⟨_,rfl,_,rfl,r,_,_,_,rfl,rfl,SqT.of bt.1,rfl,l2,g2,_,_,rfl,rfl,.inl ⟨SqL.of ab.1,SqL.of ea.1⟩,ez.1,ez.2 c5 eb,_,rfl,cM ⟨_,rfl,_,rfl,_,_,rfl,rfl,rfl,_,rfl,oo rfl (go _ _ ⟨rfl,rfl⟩)⟩⟩
 obtain⟨rfl,rfl⟩:=w;obtain⟨da,fa,ha,hm,_⟩:=ce.ins;refine b6 (λσ H'=>σ=[some (.ref sc),some (.ref a),some (.ref d),some (.ref n),some (.ref p),some (.int c2),some (.ref c),some (.int x.di.length),some (.int (x.ma+1)),some (.ref l),some (.ref r),some (.ref l2),some (.int (x.ma+1+1)),none,none,none]/\Same iy H') (λnx go=>?_) (λσ b5 w=>?_)
 .refine⟨_,rfl,a,da,fa,rfl,ha,hm _ (by decide+kernel),_,rfl,a,_,ax,_,rfl,ce,by lia,λb5 gk I jv gl=>?_⟩;have di:=(ce.same I).di;have j0:b5 gk=some (.lst [.ref r8,.ref e3]):=by
   rw[gl,show(x.di.length:Int).toNat=x.di.length from rfl];show some (HO.lst (((x.di++ [(r8,_)]++ [(e3,_)]).drop x.di.length).map λe:Addr×List V=>V.ref e.1))=_;rw[Ql,List.drop_left];rfl
  have d8:=di (r8,[.str "mark",.int (x.ma+1)]) (by simp);have j1:=di (e3,[.str "mark",.int (x.ma+1+1)]) (by simp);refine⟨_,rfl,(by show 2<=sizeLine;decide),λt1 ja=>⟨_,rfl,(by show 2<=sizeLine;decide),λt2 jb=>⟨(by show 2<=sizeLine;decide),λtl jl=>?_⟩⟩⟩;have q1:=ai (o:= .tup [.str "mark",.int (x.ma+1)]) ja;have q2:=ai (o:= .tup [.str "mark",.int (x.ma+1+1)]) jb;have q3:=ai (o:= .lst [.ref t1,.ref t2]) jl;have c6:=(q1.trans q2).trans q3;have tup:∀{u v:Addr} {i:Int} {H:Hp},H u=some (.tup [.str "mark",.int i])->H v=some (.tup [.str "mark",.int i])->Alk K H 4 (.ref u) (.ref v):=λh1 h2=>by
   refine .inr ⟨_,_,_,_,rfl,rfl,.inr ⟨SqT.of h1,SqT.of h2⟩,rfl,λj u v hu hv=>?_⟩;rcases j with _|_|j
   .cases hu;cases hv;exact .inl ⟨True.intro,rfl⟩
   .cases hu;cases hv;exact .inl ⟨True.intro,rfl⟩
   .cases hu
  refine⟨gk,tl,_,_,rfl,rfl,.inl ⟨SqL.of (c6 _ _ j0),SqL.of ac⟩,rfl,λj u v hu hv=>?_,_,rfl,cM ?_⟩
  .rcases j with _|_|j
   .cases hu;cases hv;exact tup (c6 _ _ d8) (q3 _ _ (q2 _ _ ac))
   .cases hu;cases hv;exact tup (c6 _ _ j1) (q3 _ _ ac)
   .cases hu
  have f0:=I.trans c6;have gm:=cf.1.same f0;obtain⟨jm,gn⟩:=gm.ob;refine⟨_,rfl,c,jm,_,rfl,gn,(by rfl),c,a,p,dd,_,_,_,[],rfl,gm,f0 _ _ aw.1,λjo jr=>λz nz=>⟨jo,z,[],rfl,rfl,.inl (ai nz _ _ ac),.inl ac,_,rfl,cM (go _ _ ⟨rfl,f0.trans ((ai jr).trans (ai nz))⟩)⟩⟩
 obtain⟨rfl,I⟩:=w;have lt:ts.length<=301:=by
  have h:=iu U9.nd (S:=x.st.kv.map (·.1)) λz hz=>by
   obtain⟨u,hu,rfl⟩:=Qh.mp hz;exact Z0 (f:=Prod.fst) ((U9.me u.k u.v).mp (Z0 (f:=Tp.kv) hu)).1
  rw[Q0,Q0]at h;exact QD h i7
 have a5:CoF t b5 c a p dd g p nd f (.ref p) v x.di.length (x.ma+1+1) ts:=⟨cf.1.same I,gc.same I,I _ _ aw.1,I _ _ ec.1,λe he=>I _ _ (c5 e he)⟩;have e4:=ce.same I;obtain⟨x',ex'⟩:∃x':HSt,x'={x with ma:=x.ma+1+1,di:=x.di++ [(r8,[.str "mark",.int (x.ma+1)])]++ [(e3,[.str "mark",.int (x.ma+1+1)])]}:=⟨_,rfl⟩;have e4:HoA K t b5 a ax x':=by rw[ex'];exact ce.same I
 have dr:∀m z:Nat,((x'.di.drop ((x.di.length:Int)+m).toNat).take z).map (·.2)=(([x.ma+1,x.ma+1+1].drop m).take z).map λi=> [V.str "mark",V.int i]:=λm z=>by rw[ex'];exact Bs m z
 refine b6 (λσ H'=>∃m:Nat,m<=1/\σ=[some (.ref sc),some (.ref a),some (.ref d),some (.ref n),some (.ref p),some (.int c2),some (.ref c),some (.int x.di.length),some (.int (x.ma+1)),some (.ref l),some (.ref r),some (.ref l2),some (.int (x.ma+1+1)),none,none,none]/\(∀b o,b≠c->b≠dd->b5 b=some o->H' b=some o)/\CoF t H' c a p dd g p nd f (.ref p) v (x.di.length+m) (x.ma+1+1) ts) (λnx go=>?_) (λσ e5 w=>?_)
 .refine⟨_,rfl,_,_,rfl,rfl,(by show(0:Int)<2;decide),rfl,_,rfl,bK (λ_=>?_) (λ_=>?_)⟩
  .obtain⟨d4,h4⟩:=a5.C.ob;refine⟨_,rfl,c,d4,_,rfl,h4,(by rfl),c,a,p,dd,g,p,nd,f,.ref p,v,_,x.ma+1+1,1,ts,ax,x',[x.ma+1],rfl,a5,U9.nd,by lia,e4,cf.2,aw.2,by lia,by decide,dr 0 1,(by simp),(by show 1<=1000;decide),λ_ e5 ci a1=>?_,λz=>absurd (show x.ma+1=x.ma+1+1 from Option.some.inj z) (by lia)⟩;obtain⟨d5,h5⟩:=a1.C.ob;refine⟨_,rfl,_,_,rfl,rfl,rfl,_,rfl,oo rfl ⟨_,rfl,c,d5,_,rfl,h5,(by rfl),c,a,p,dd,_,_,_,[],rfl,a1.C,a1.cd,λr5 n5=>λz nz=>⟨r5,z,[],rfl,rfl,.inl (ai nz _ _ ac),.inl ac,_,rfl,cM (go _ _ ⟨1,Q4 _,rfl,λb o Z O e=>ai nz _ _ (ai n5 _ _ (ci b o Z O e)),(a1.same (ai n5)).same (ai nz)⟩)⟩⟩⟩
  .exact go _ _ ⟨0,by decide,rfl,λb o _ _ e=>e,by simpa using a5⟩
 obtain⟨m,k3,rfl,ci,a1⟩:=w;have gq:HoA K t e5 a ax x':=e4.but cf.2 aw.2 (λxs z=>by obtain⟨_,h⟩:=a5.C.ob;rw[h]at z;cases z) (λxs z=>by rw[a5.cd]at z;cases z) ci;have ml:([x.ma+1,x.ma+1+1].drop m).length=2-m:=by rw[QA];rfl
 have mg:([x.ma+1,x.ma+1+1].drop m).getLast?=some (x.ma+1+1):=by
  rcases m with _|_|m
  .rfl
  .rfl
  .lia
 have mn:x.ma+1+1∉([x.ma+1,x.ma+1+1].drop m).dropLast:=by
  rcases m with _|_|m
  .exact λz=>absurd (Q7.mp z) (by lia)
  .exact QT
  .lia
 obtain⟨d5,h5⟩:=a1.C.ob;have ed:∀{b:Addr} {o:HO},b5 b=some o->(∀C d fs,o≠ .ins C d fs)->o≠ .dK []->e5 b=some o:=λ{b o} e Z O=>ci b o (λz=>by obtain⟨_,h⟩:=a5.C.ob;rw[z,h]at e;exact Z _ _ _ (Option.some.inj e).symm) (λz=>by rw[z,a5.cd]at e;exact O (Option.some.inj e).symm) e;have U:=ed (I _ _ ab.1) (λ_ _ _ z=>by cases z) (λz=>by cases z);refine b6 (λσ H'=>σ=[some (.ref sc),some (.ref a),some (.ref d),some (.ref n),some (.ref p),some (.int c2),some (.ref c),some (.int x.di.length),some (.int (x.ma+1)),some (.ref l),some (.ref r),some (.ref l2),some (.int (x.ma+1+1)),none,none,none]/\(∀b o,b≠c->b≠dd->e5 b=some o->H' b=some o)/\CoE t H' c a p dd v (x.di.length+2) ts) (λnx go=>?_) (λσ a4 w=>?_)
 .refine⟨_,rfl,c,d5,_,rfl,h5,(by rfl),c,a,p,dd,g,p,nd,f,.ref p,v,_,x.ma+1+1,5,ts,ax,x',[x.ma+1,x.ma+1+1].drop m,rfl,a1,U9.nd,by lia,gq,cf.2,aw.2,by lia,by decide,?_,mn,by lia,λz=>absurd mg z,λ_ a4 cj ap=>?_⟩
  .rw[show Int.toNat 5=5 from rfl,dr m 5,Qt (by lia)]
  rw[ml,show(x.di.length:Int)+m+(2-m:Nat)=x.di.length+2 by lia]at ap⊢;obtain⟨d6,h6⟩:=ap.C.ob;have gr:=cj _ _ (λz=>by rw[z,h5]at U;cases U) (λz=>by rw[z,a1.cd]at U;cases U) U;have c9:∀u∈ts,a4 u.p=some (.tup [.int u.k,u.v]):=λu hu=>cj _ _ (λz=>by have h:=a1.tu u hu;rw[z,h5]at h;cases h) (λz=>by have h:=a1.tu u hu;rw[z,a1.cd]at h;cases h) (a1.tu u hu);refine⟨_,rfl,_,_,rfl,rfl,rfl,_,rfl,oo rfl ⟨_,rfl,c,d6,_,rfl,h6,(by rfl),c,a,p,dd,_,_,_,rfl,ap.C,_,rfl,_,_,rfl,rfl,rfl,_,rfl,oo rfl ⟨_,rfl,c,d6,_,rfl,h6,(by rfl),c,a,p,dd,_,_,_,_,rfl,ap.C,ap.cd,λr6 n6=>?_⟩⟩⟩;have s6:=ai (o:= .dK (aK (ts.map Tp.kv))) n6;have gs:upd a4 r6 (.dK (aK (ts.map Tp.kv))) r6=some (.dK (aK (ts.map Tp.kv))):=ac;generalize upd a4 r6 (.dK (aK (ts.map Tp.kv)))=f2 at s6 gs⊢;refine⟨_,rfl,l2,ts.map λu=>(u.p,Sum.inl u.k,u.v),rfl,(by rw[Qu];exact SqL.of (s6 _ _ gr)),(λu' js=>by obtain⟨u,hu,rfl⟩:=Qh.mp js;exact SqT.of (s6 _ _ (c9 u hu))),λp2 e6=>?_⟩;rw[Qu];have el:ts.map ((λx:Addr×Key×V=>x.2)∘λu:Tp=>(u.p,(Sum.inl u.k:Key),u.v))=aK (ts.map Tp.kv):=by unfold aK;rw[Qu];rfl
  have nl:((ts.map Tp.kv).map (·.1)).Nodup:=by
   rw[Qu];exact U9.nd
  rw[el,show rH [] (aK (ts.map Tp.kv))=_ from yC (acc:=[]) nl,ZN];refine⟨r6,p2,_,_,rfl,rfl,ai e6 _ _ gs,ac,rfl,λz hz=>?_,_,rfl,cM (go _ _ ⟨rfl,λb o Z O e=>ai e6 _ _ (s6 _ _ (cj b o Z O e)),⟨ap.C.same (s6.trans (ai e6)),ai e6 _ _ (s6 _ _ ap.cd)⟩⟩)⟩;unfold aK at hz;obtain⟨w,hw,rfl⟩:=Qh.mp hz;obtain⟨i,ei⟩:=ck _ ((U9.me w.1 w.2).mp hw).1;have ei:w.2= .int i:=ei;exact⟨by show Fl w.2;rw[ei];exact True.intro,by show aP (aK (ts.map Tp.kv)) (Sum.inl w.1)=_;rw[liftK_val];exact fW nl hw⟩
 obtain⟨rfl,cj,ap⟩:=w;have kk:∀{b:Addr} {o:HO},b≠c->b≠dd->b5 b=some o->a4 b=some o:=λZ O e=>cj _ _ Z O (ci _ _ Z O e);have e7:∀{b:Addr} {o:HO},b5 b=some o->(∀C d fs,o≠ .ins C d fs)->o≠ .dK []->a4 b=some o:=λ{b o} e Z O=>kk (λz=>by obtain⟨_,h⟩:=a5.C.ob;rw[z,h]at e;exact Z _ _ _ (Option.some.inj e).symm) (λz=>by rw[z,a5.cd]at e;exact O (Option.some.inj e).symm) e;have d2:=gg.go (H':=a4) (F':=ax) (E':=λb=>(b=c\/b=dd\/b=g\/b=nd)\/b=l) λb o Z O e=>⟨kk (λz=>O (.inl (.inl z))) (λz=>O (.inl (.inr (.inl z)))) (I _ _ e),Z,O⟩;have df:=e7 (I _ _ bt.1) (λ_ _ _ z=>by cases z) (λz=>by cases z);have ca:=e7 (I _ _ ab.1) (λ_ _ _ z=>by cases z) (λz=>by cases z);have c9:∀u∈ts,a4 u.p=some (.tup [.int u.k,u.v]):=λu hu=>e7 (I _ _ (c5 u hu)) (λ_ _ _ z=>by cases z) (λz=>by cases z);have bv:∀{q:Addr} {a3:V},¬F9 q->TkAt t H9 q kd a3 e->TkAt t a4 q kd a3 e:=λ{q a3} Z h=>by
  obtain⟨d1,f1,h1,t1⟩:=d0 Z h;have dh:=I _ _ h1;refine⟨d1,f1,kk (λz=>?_) (λz=>by rw[z,a5.cd]at dh;cases dh) dh,t1⟩;obtain⟨_,h2⟩:=a5.C.ob;rw[z,h2]at dh;rw[<-(HO.ins.inj (Option.some.inj dh)).2.2]at t1;have h:(none:Option V)=some _:=t1.at_;cases h
 have T1:TkO t a4 v kd a' e R:=by rcases U9.rest with h|h;exact .inl h;obtain⟨q,h1,h2,h3,h4,h5,_⟩:=h;exact .inr ⟨q,h1,bv h4 h2,h3,h5⟩
 have T2:TkO t a4 v2 kd a2 e R2:=by rcases V9.rest with h|h;exact .inl h;obtain⟨q,h1,h2,h3,h4,h5,_⟩:=h;exact .inr ⟨q,h1,bv h4 h2,h3,h5⟩
 have ev:(v= .non/\v2= .non)\/(v≠ .non/\v2≠ .non/\a'=a2):=by
  by_cases h1:v= .non<;>by_cases h2:v2= .non
  .exact .inl ⟨h1,h2⟩
  .rw[if_pos h1,if_neg h2]at b8;cases b8
  .rw[if_neg h1,if_pos h2]at b8;cases b8
  .rw[if_neg h1,if_neg h2]at b8;exact .inr ⟨h1,h2,Option.some.inj b8⟩
 have eR:R2=R:=by
  rcases ev with⟨h1,h2⟩|⟨h1,h2,h3⟩
  .rw[(T1.resolve_right λh=>by obtain⟨q,z,_⟩:=h;rw[h1]at z;cases z).2,(T2.resolve_right λh=>by obtain⟨q,z,_⟩:=h;rw[h2]at z;cases z).2]
  .obtain⟨_,_,_,_,r1⟩:=T1.resolve_left λz=>h1 z.1;obtain⟨_,_,_,_,r2⟩:=T2.resolve_left λz=>h2 z.1;rw[r1,r2,h3]
 subst eR;have jt:v≠ .non->bdV a':=λh=>by
  have h1:=U9.tell x.ks en eo;rw[if_neg h]at h1;obtain⟨_,_,_,o,_⟩:=T1.resolve_left λz=>h z.1;exact h1.bd kt o
 have nt:=U9.nd;have me:=U9.me;clear bv d0 kk e7 b8 ez U9 V9 gg O9 cf gc ce e4 gq a5 a1 ci cj I dr ml mg mn ed U h5 ey et e1 cr bw c4 cx ct c0 cz aw ec bt ab ea c5 eb;refine⟨_,rfl,r,_,_,_,rfl,rfl,SqT.of df,rfl,?_⟩
 (try dsimp only)
 refine⟨_,rfl,d,_,rfl,.inl d2.di.1,λl6 gt=>?_⟩;rw[show jO (aK x.st.kv)=(x.st.kv.map (·.1)).map V.int from xw];have s6:=ai (o:= .lst ((x.st.kv.map (·.1)).map V.int)) gt;have h6:upd a4 l6 (.lst ((x.st.kv.map (·.1)).map V.int)) l6=some (.lst ((x.st.kv.map (·.1)).map V.int)):=ac;generalize upd a4 l6 (.lst ((x.st.kv.map (·.1)).map V.int))=f2 at s6 h6⊢;refine⟨_,rfl,20,rfl,sc,_,rfl,(d2.cS.fr (Fr.of_same s6)).sq,λl7 f3=>?_⟩;rw[mN (by decide),<-Z7];obtain⟨xs,gu⟩:∃xs,ns.take (20:Int).toNat=xs:=⟨_,rfl⟩;have lx:xs.length<=63:=by rw[<-gu,Q8];lia
 rw[gu];have s7:=s6.trans (ai (o:= .lst (xs.map V.int)) f3);have h6:=ai (o:= .lst (xs.map V.int)) f3 _ _ h6;have h7:upd f2 l7 (.lst (xs.map V.int)) l7=some (.lst (xs.map V.int)):=ac;generalize upd f2 l7 (.lst (xs.map V.int))=H7 at s7 h6 h7⊢;refine⟨l7,rfl,⟨_,SqL.of h7⟩,λD hD=>?_⟩;refine jR (K:=K) (a:=l7) (xs:=xs.map V.int) (Ga H7) ⟨ai hD,[],rfl,rfl,λ_ z=>absurd z QT⟩ (λi ys H8 _ w=>SqL.of (w.1 _ _ h7)) (λi y ys H8 hy w b1=>?_) (λys H8 w b1=>?_)
 .obtain⟨z,_,rfl⟩:=Qh.mp (Q1 hy);exact⟨_,rfl,_,_,rfl,rfl,(by show(0:Int)<70000;decide),Db hy w hD b1 (by rw[Q0];lia) (Qe _ (by decide))⟩
 obtain⟨s8,zs,rfl,lz,z0⟩:=w;rw[Q0]at lz;refine⟨l6,D,_,_,rfl,rfl,s8 _ _ h6,b1,(by simp only[Q0];have:1000<=sizeLine:=(by decide);lia),λl9 n9=>?_⟩;rw[<-Qc];obtain⟨ks,f4⟩:∃ks,x.st.kv.map (·.1)++zs=ks:=⟨_,rfl⟩;have k0:∀k∈ks,0<=k:=λk hk=>by
  rw[<-f4]at hk;exact(Q5.mp hk).elim (kb k) (z0 k)
 rw[f4];have s9:=(s7.trans s8).trans (ai (o:= .lst (ks.map V.int)) n9);have h9:upd H8 l9 (.lst (ks.map V.int)) l9=some (.lst (ks.map V.int)):=ac;generalize upd H8 l9 (.lst (ks.map V.int))=dm at s9 h9⊢;have f5:=ap.C.same s9;have gv:=s9 _ _ ap.cd;have gy:TkO t dm v kd a' e R2:=T1.same s9;have gz:TkO t dm v2 kd a2 e R2:=T2.same s9;have h0:=d2.TK.1.same s9;have h8:=s9 _ _ d2.hn.1;have cb:=s9 _ _ ca;have hb:∀u∈ts,dm u.p=some (.tup [.int u.k,u.v]):=λu hu=>s9 _ _ (c9 u hu);clear d2 T1 T2 ap ca c9 df h6 h7 hD b1 s6 s7 s8 s9 n9 gt f3 z0 lz f4;refine⟨l9,rfl,⟨_,SqL.of h9⟩,nI (K:=K) (a:=l9) (xs:=ks.map V.int) (λi σ H'=>∃u1 u2 u3:Option V,σ=[some (.ref sc),some (.ref a),some (.ref d),some (.ref n),some (.ref p),some (.int c2),some (.ref c),some (.int x.di.length),some (.int (x.ma+1)),u1,some (.ref r),some (.ref l2),some (.int (x.ma+1+1)),some v2,u2,u3]/\Same dm H') ⟨_,_,_,rfl,Same.refl _⟩ (λi σ H' _ w=>by obtain⟨_,_,_,_,s⟩:=w;exact SqL.of (s _ _ h9)) (λi z σ H' hz w'=>?_) (λσ H' w'=>?_)⟩
 .obtain⟨u1,u2,u3,rfl,s⟩:=w';obtain⟨k,hf,rfl⟩:=Qh.mp (Q1 hz);unfold mE
  (try dsimp only)
  refine b6 (λσ H2=>σ=[some (.ref sc),some (.ref a),some (.ref d),some (.ref n),some (.ref p),some (.int c2),some (.ref c),some (.int x.di.length),some (.int (x.ma+1)),u1,some (.ref r),some (.ref l2),some (.int (x.ma+1+1)),some v2,some (.int k),some (.bl (hN kd av e k&&!R2 k))]/\Same H' H2) (λnx go=>?_) (λσ H2 w=>?_)
  .refine⟨_,rfl,_,rfl,n,kd,k,av,e,rfl,SqT.of (s _ _ h8),on,_,rfl,?_⟩;cases hc:hN kd av e k with
   |false=>rw[hc]at go;exact cM (go _ _ ⟨rfl,Same.refl _⟩)
   |true=>
    rw[hc]at go;refine db ?_;rcases gz with⟨rfl,rfl⟩|⟨q',rfl,TQ,oq,rfl⟩
    .exact⟨_,rfl,rfl,_,rfl,fX rfl (go _ _ ⟨rfl,Same.refl _⟩)⟩
    .obtain⟨dr,fr,hg,tr⟩:=TQ.same s;refine⟨_,rfl,rfl,_,rfl,bf (λz=>by cases z) ⟨_,rfl,q',_,dr,fr,_,rfl,hg,tr.ho,dHN oq.kd,_,rfl,ye oq hg tr (k0 k hf) λH2 s2=>⟨_,rfl,go _ _ ⟨rfl,s2⟩⟩⟩⟩
  obtain⟨rfl,s2⟩:=w;have s':=s.trans s2;have C':=f5.same s';obtain⟨d3,f6⟩:=C'.ob;refine⟨_,rfl,c,d3,_,rfl,f6,(by rfl),_,rfl,c,a,p,dd,v,_,av,e,a',_,kd,k,R2,rfl,C',h0.same s',on,(gy.same s'),k0 k hf,λH3 s3=>?_⟩;generalize (hN kd av e k&&!R2 k)=bb;have fin:Same dm H3:=s'.trans s3;cases bb with
  |true=>exact⟨_,rfl,_,_,rfl,rfl,_,rfl,cM ⟨_,rfl,_,rfl,rfl,_,rfl,oo rfl ⟨_,_,_,rfl,fin⟩⟩⟩
  |false=>exact⟨_,rfl,_,_,rfl,rfl,_,rfl,db ⟨_,rfl,_,_,rfl,rfl,_,rfl,cM ⟨_,rfl,_,rfl,rfl,_,rfl,oo rfl ⟨_,_,_,rfl,fin⟩⟩⟩⟩
 obtain⟨u1,u2,u3,rfl,s⟩:=w';have C':=f5.same s;obtain⟨d3,f6⟩:=C'.ob;have hh:v≠ .non->bdV a'/\bdV e:=λh=>⟨jt h,be⟩;have ju:v2≠ .non->bdV a2/\bdV e:=λh=>by
  rcases ev with⟨h1,h2⟩|⟨h1,h2,h3⟩
  .exact absurd h2 h
  .rw[<-h3];exact hh h1
 refine⟨_,rfl,c,d3,_,rfl,f6,(by rfl),c,a,p,dd,v,.non,_,rfl,C',v,a',e,kd,R2,rfl,(gy.same s),hh,λH2 s2=>?_⟩;refine⟨_,rfl,v2,a2,e,kd,R2,rfl,((gz.same s).same s2),ju,λH3 s3=>?_⟩;have ew:(if v2= .non then("end":Str)else xY (kdS kd) a2 e)=if v= .non then("end":Str)else xY (kdS kd) a' e:=by
  rcases ev with⟨h1,h2⟩|⟨h1,h2,h3⟩
  .rw[if_pos h1,if_pos h2]
  .rw[if_neg h1,if_neg h2,h3]
 rw[ew];have s5:=(s.trans s2).trans s3;have C5:=f5.same s5;obtain⟨d5,h5⟩:=C5.ob;have em:(aK (ts.map Tp.kv)).map (·.2)=(ts.map λu=>inI u.v).map V.int:=by
  unfold aK;rw[Qu,Qu,Qu];refine Zd λu hu=>?_;obtain⟨i,ei⟩:=ck _ ((me u.k u.v).mp (Z0 (f:=Tp.kv) hu)).1;have ei:u.v= .int i:=ei;show u.v=V.int (inI u.v);rw[ei];rfl
 refine⟨rfl,_,rfl,?_⟩;rw[decide_eq_true rfl];refine db ⟨_,rfl,c,d5,_,rfl,h5,(by rfl),c,a,p,dd,v,.non,_,_,_,rfl,C5,s5 _ _ gv,em,λH6 s6=>?_⟩;have f7:=s5.trans s6;refine⟨_,rfl,l2,rfl,⟨_,SqL.of (f7 _ _ cb)⟩,λD hD=>?_⟩;refine jR (K:=K) (a:=l2) (xs:=ts.map λe=>V.ref e.p) (λi ys H'=>Same H6 H'/\ys=(ts.take i).map λu=>V.int (inI u.v)) ⟨ai hD,by rw[List.take_zero];rfl⟩ (λi ys H8 _ w=>SqL.of (w.1 _ _ (f7 _ _ cb))) (λi y ys H8 hy w b1=>?_) (λys H8 w b1=>?_)
 .obtain⟨s8,rfl⟩:=w;rw[Qn]at hy;cases c3:ts[i]? with
  |none=>rw[c3]at hy;cases hy
  |some u=>
   rw[c3]at hy;cases hy;have hu:=Q1 c3;obtain⟨j,ej⟩:=ck _ ((me u.k u.v).mp (Z0 (f:=Tp.kv) hu)).1;have ej:u.v= .int j:=ej;have hi:=(Q2.mp c3).1;refine⟨_,rfl,u.p,_,_,_,rfl,rfl,SqT.of (s8 _ _ (f7 _ _ (hb u hu))),rfl,?_⟩;refine CNext.mk (by rw[Q0];exact hi) b1 (br (by rw[Q0,Q8];lia)) ⟨bP s8 hD,?_⟩;rw[Qr,c3,Qc];show _++ [u.v]=_++ [V.int (inI u.v)];rw[ej];rfl
 .obtain⟨s8,rfl⟩:=w;rw[Q0,QF]at b1;refine⟨D,ts.map λu=>inI u.v,rfl,by rw[Qu];exact SqL.of b1,rfl,?_⟩;rw[decide_eq_true rfl];exact q _
end
end SW
namespace ZK
open PySem PySem.W SW L2
theorem fM {P:Params} {x qual:Str} {st:Stmt} {a:Addr} {kV G I z ct:Value} {O:Option Addr} (l:(K P).lookup a=some (f (D x qual st N kV G I O z ct)):=by kernel_rfl) (c:codeIn (K P) z qual=true:=by kernel_rfl) (k:keepIn (K P) (.ref a)=true:=by kernel_rfl):Fun (K P) x qual st a (D x qual st N kV G I O z ct):=JS l c k
theorem nA {P:Params} {C:Addr} {x:Str} (h:findIn (K P) (.ref C) x=some none:=by kernel_rfl):NoAttr (K P) C x:=h
theorem fT {P:Params} {x qual:Str} {st:Stmt} {a b:Addr} {kV G I z ct:Value} {O:Option Addr} (l:(K P).lookup a=some (f (D x qual st (R b) kV G I O z ct)):=by kernel_rfl) (c:codeIn (K P) z qual=true:=by kernel_rfl) (k:keepIn (K P) (.ref a)=true:=by kernel_rfl):Ke (K P) x qual st b a (D x qual st (R b) kV G I O z ct):=Cn l c k
theorem fU {P:Params} {x qual:Str} {st:Stmt} {a b:Addr} {kV G I z ct:Value} {O:Option Addr} (l:(K P).lookup a=some (f (D x qual st (R b) kV G I O z ct)):=by kernel_rfl) (c:codeIn (K P) z qual=true:=by kernel_rfl) (k:keepIn (K P) (.ref a)=true:=by kernel_rfl):FunD (K P) x qual st a (D x qual st (R b) kV G I O z ct):=(Cn l c k).1
theorem Kb {P:Params}:(K P).lookup 233=some ⟨(T "tuple"),none,.seq #[(.int 0 479),(.int 65536 480)] 0, #[]⟩:=by kernel_rfl
theorem Ka {P:Params}:(K P).lookup 260=some ⟨(T "tuple"),none,.seq #[(.int 0 514),N] 0, #[]⟩:=by kernel_rfl
theorem J9 {P:Params}:(K P).lookup 287=some ⟨(T "tuple"),none,.seq #[N,(.int 0 548)] 0, #[]⟩:=by kernel_rfl
theorem J8 {P:Params}:(K P).lookup 307=some ⟨(T "tuple"),none,.seq #[(.int 10 574),N] 0, #[]⟩:=by kernel_rfl
theorem T407 {P:Params}:(K P).lookup 407=some ⟨(T "tuple"),none,.seq #[N] 0, #[]⟩:=by kernel_rfl
theorem T422 {P:Params}:(K P).lookup 422=some ⟨(T "tuple"),none,.seq #[(.int 10 730)] 0, #[]⟩:=by kernel_rfl
theorem T815 {P:Params}:(K P).lookup 815=some ⟨(T "tuple"),none,.seq #[(.int 0 1241)] 0, #[]⟩:=by kernel_rfl
end ZK
namespace SW
open PySem L2
set_option maxHeartbeats 0
variable {α:Type} {YP:World->Heap->Prop}
theorem us1 {us:List α} (hl:us.length=1):∃z,us=[z]:=by rcases us with _|⟨z,_|⟨y,t⟩⟩<;>first|exact⟨_,rfl⟩|simp at hl
theorem us2 {us:List α} (hl:us.length=2):∃z G,us=[z,G]:=by rcases us with _|⟨z,_|⟨G,_|⟨y,t⟩⟩⟩<;>first|exact⟨_,_,rfl⟩|simp at hl
theorem us3 {us:List α} (hl:us.length=3):∃z G I,us=[z,G,I]:=by rcases us with _|⟨z,_|⟨G,_|⟨I,_|⟨y,t⟩⟩⟩⟩<;>first|exact⟨_,_,_,rfl⟩|simp at hl
theorem us4 {us:List α} (hl:us.length=4):∃z G I O,us=[z,G,I,O]:=by rcases us with _|⟨z,_|⟨G,_|⟨I,_|⟨O,_|⟨y,t⟩⟩⟩⟩⟩<;>first|exact⟨_,_,_,_,rfl⟩|simp at hl
open ZK in
theorem txt {P:Params} {h:Heap} {mg:Str->Option Value} (X:(ZK.K P).In h) (G:h.Ns mainGlobals mg):Txt (ZK.K P) mg ZK.t:=by
 constructor
 case g_BITS=>exact⟨348,Zz X G (by kernel_rfl)⟩
 case g_PLACES=>exact⟨350,Zz X G (by kernel_rfl)⟩
 case g_STRETCHES_A_KEY=>exact⟨572,Zz X G (by kernel_rfl)⟩
 case g_MOST_IN_LEAF=>exact⟨836,Zz X G (by kernel_rfl)⟩
 case g_LEAST_IN_TWO=>exact⟨838,Zz X G (by kernel_rfl)⟩
 case g_LEAST_SIZE=>exact⟨1012,Zz X G (by kernel_rfl)⟩
 case g_GREATEST_SIZE=>exact⟨1014,Zz X G (by kernel_rfl)⟩
 all_goals first
  |exact ZK.fM
  |exact⟨(by kernel_rfl),(by kernel_rfl),(by kernel_rfl)⟩
  |exact Zz X G (by kernel_rfl)
  |exact ZK.nA
  |exact .all λus hl=>by obtain⟨_,_,rfl⟩:=us2 hl;rfl
  |exact .all λus hl=>by obtain⟨_,rfl⟩:=us1 hl;rfl
  |exact⟨(by kernel_rfl),(by kernel_rfl),(by kernel_rfl),(by kernel_rfl)⟩
  |exact Fj (by kernel_rfl) (by kernel_rfl) (by kernel_rfl) (λz=>absurd z (by decide))
  |exact .all λus hl=>by obtain⟨_,_,_,rfl⟩:=us3 hl;rfl
  |exact PySem.W.mg_none_of X G (by kernel_rfl)
  |exact ZK.fU
  |exact⟨⟨_,_,_,_,_,_,_,_,_,_,_,_,_,_,(by rfl)⟩,⟨[ZK.t.b5],rfl⟩,(by kernel_rfl),(by kernel_rfl),(by kernel_rfl),(by kernel_rfl)⟩
  |exact .all λus hl=>by obtain⟨_,_,_,_,rfl⟩:=us4 hl;rfl
  |exact Fj (by kernel_rfl) (by kernel_rfl) (by kernel_rfl) (λ_=>rfl)
  |exact cy (ds:=[]) 2 rfl (fT (a:=429)) T422 λ_ _ _ _ _ _ us hl=>by obtain⟨_,_,rfl⟩:=us2 hl;exact⟨_,rfl,rfl⟩
  |exact cy (ds:=[]) 2 rfl (fT (a:=822)) T815 λ_ _ _ _ _ _ us hl=>by obtain⟨_,_,rfl⟩:=us2 hl;exact⟨_,rfl,rfl⟩
  |exact cy (ds:=[]) 3 rfl (fT (a:=240)) Kb λ_ _ _ _ _ _ us hl=>by obtain⟨_,_,_,rfl⟩:=us3 hl;exact⟨_,rfl,rfl⟩
  |exact cy (ds:=[]) 3 rfl (fT (a:=267)) Ka λ_ _ _ _ _ _ us hl=>by obtain⟨_,_,_,rfl⟩:=us3 hl;exact⟨_,rfl,rfl⟩
  |exact cy (ds:=[]) 3 rfl (fT (a:=294)) J9 λ_ _ _ _ _ _ us hl=>by obtain⟨_,_,_,rfl⟩:=us3 hl;exact⟨_,rfl,rfl⟩
  |exact cy (ds:=[]) 4 rfl (fT (a:=312)) J8 λ_ _ _ _ _ _ us hl=>by obtain⟨_,_,_,_,rfl⟩:=us4 hl;exact⟨_,rfl,rfl⟩
  |exact cy (ds:=[]) 4 rfl (fT (a:=414)) T407 λ_ _ _ _ _ _ us hl=>by obtain⟨_,_,_,_,rfl⟩:=us4 hl;exact⟨_,rfl,rfl⟩
  |exact⟨_,cy (ds:=[(.int 0 1241)]) 1 rfl (fT (a:=822)) T815 λ_ _ _ _ _ _ us hl=>by obtain⟨_,rfl⟩:=us1 hl;exact⟨_,rfl,rfl⟩,(.cons ⟨_,rfl⟩ .nil)⟩
  |exact⟨_,cy (ds:=[(.int 0 479),(.int 65536 480)]) 1 rfl (fT (a:=240)) Kb λ_ _ _ _ _ _ us hl=>by obtain⟨_,rfl⟩:=us1 hl;exact⟨_,rfl,rfl⟩,(.cons ⟨_,rfl⟩ (.cons ⟨_,rfl⟩ .nil))⟩
  |exact⟨_,cy (ds:=[(.int 0 514),N]) 1 rfl (fT (a:=267)) Ka λ_ _ _ _ _ _ us hl=>by obtain⟨_,rfl⟩:=us1 hl;exact⟨_,rfl,rfl⟩,(.cons ⟨_,rfl⟩ (.cons rfl .nil))⟩
  |exact⟨_,cy (ds:=[(.int 0 548)]) 2 rfl (fT (a:=294)) J9 λ_ _ _ _ _ _ us hl=>by obtain⟨_,_,rfl⟩:=us2 hl;exact⟨_,rfl,rfl⟩,(.cons ⟨_,rfl⟩ .nil)⟩
  |exact⟨_,cy (ds:=[(.int 10 574),N]) 2 rfl (fT (a:=312)) J8 λ_ _ _ _ _ _ us hl=>by obtain⟨_,_,rfl⟩:=us2 hl;exact⟨_,rfl,rfl⟩,(.cons ⟨_,rfl⟩ (.cons rfl .nil))⟩
  |exact⟨_,cy (ds:=[(.int 10 730)]) 1 rfl (fT (a:=429)) T422 λ_ _ _ _ _ _ us hl=>by obtain⟨_,rfl⟩:=us1 hl;exact⟨_,rfl,rfl⟩,(.cons ⟨_,rfl⟩ .nil)⟩
  |exact⟨_,cy (ds:=[(.int 65536 480)]) 2 rfl (fT (a:=240)) Kb λ_ _ _ _ _ _ us hl=>by obtain⟨_,_,rfl⟩:=us2 hl;exact⟨_,rfl,rfl⟩,(.cons ⟨_,rfl⟩ .nil)⟩
  |exact⟨_,cy (ds:=[N,(.int 0 548)]) 1 rfl (fT (a:=294)) J9 λ_ _ _ _ _ _ us hl=>by obtain⟨_,rfl⟩:=us1 hl;exact⟨_,rfl,rfl⟩,(.cons rfl (.cons ⟨_,rfl⟩ .nil))⟩
  |exact⟨_,cy (ds:=[N]) 2 rfl (fT (a:=267)) Ka λ_ _ _ _ _ _ us hl=>by obtain⟨_,_,rfl⟩:=us2 hl;exact⟨_,rfl,rfl⟩,(.cons rfl .nil)⟩
  |exact⟨_,cy (ds:=[N]) 3 rfl (fT (a:=312)) J8 λ_ _ _ _ _ _ us hl=>by obtain⟨_,_,_,rfl⟩:=us3 hl;exact⟨_,rfl,rfl⟩,(.cons rfl .nil)⟩
  |exact⟨_,cy (ds:=[N]) 3 rfl (fT (a:=414)) T407 λ_ _ _ _ _ _ us hl=>by obtain⟨_,_,_,rfl⟩:=us3 hl;exact⟨_,rfl,rfl⟩,(.cons rfl .nil)⟩
  |exact⟨⟨_,_,_,_,_,_,_,_,_,_,_,_,_,_,(by rfl)⟩,⟨[],rfl⟩,(by kernel_rfl),(by kernel_rfl),(by kernel_rfl),(by kernel_rfl)⟩
theorem walk {l:PySem.W.OpenLaw} {q:Program} {loose:List Str} {XP:(Str->Option Value)->Heap->Prop} {d:DefRec} {K:Params->PySem.W.Frag} (U:l.most=some 63) (I:d.params.defaults=[])
  (Y:∀(w:World) (h:Heap),YP w h->(K w.params).In h) (hd:d.name="law")
  (F:∀(w:World) (mg:Str->Option Value) (h:Heap),(K w.params).In h->h.Ns mainGlobals mg->∃t,Txt (K w.params) mg t):
  PySem.W.WalkO q loose XP YP l.row.toRowW d [] (λf vs=>PySem.call f vs):=by
 refine L2.walk_of (n:=63) (k:=12) (x:="_law_script") (CX:=λ_=>CX0) (sp:=λw=>Ex (K w.params)) U (by decide) I ⟨rfl,by decide,by decide⟩ Y (λw mg fa h Z G O=>?_) (λ_ _ a ns hl _ hS=>⟨a,ns,rfl,hS,hl,λ_=>rfl⟩) λ_ _ _ _ _ z=>z;obtain⟨t,T⟩:=F w mg h Z G;have e:=O.symm.trans ((congrArg mg hd).trans T.Lh);cases e;obtain⟨oc,od,kV,a0,pm,an,a1,ct,a2,e1,lk,a3⟩:=T.La.ex;refine⟨t.Cv,λs u=>?_,λbase _ _=>Jv T⟩;rw[e1];exact .of_eq rfl
end SW
open PySem PySem.W PyProof.Rows
set_option maxRecDepth 100000 in
set_option maxHeartbeats 0 in
theorem PySem.Challenge.cw_staywalk_k52_a_page_in_peace_holds : PySem.Challenge.rw_staywalk_k52_a_page_in_peace.Holds := by
 w_on
 refine holds_law ZK.said λsaid=>?_;refine holds_open (q:=ZK.q) (loose:=["BySlots","Up","Down","ask"]) (Xt:=λs=>xlAt ZK.q [] s&&recOk (RowW.records (OpenRow.toRowW (OpenLaw.row PySem.Challenge.rw_staywalk_k52_a_page_in_peace))) s) (XP:=XL ZK.q []) (Yf:=Hook.obs ZK.H) (Ya:=Hook.val ZK.H) (YP:=Hook.says ZK.H) ZK.left (Hook.of ZK.H) (Hook.keeps ZK.H) (λs e=>xl_of s (QE.mp e).1) XL.keeps (by rfl) (by rfl) (by rfl) (λs e=>recFacts_of (QE.mp e).2) (by rfl) (by first|assumption|decide+kernel) (by decide+kernel) ⟨rfl,rfl,rfl,rfl,rfl,by decide+kernel⟩ ?hw ?hc
 (case hw=>w_witness2)
 exact SW.walk (l:=PySem.Challenge.rw_staywalk_k52_a_page_in_peace) rfl rfl (λw h Y=>kIn_of Y) rfl λw mg h KX G=>⟨_,SW.txt KX G⟩
#print axioms PySem.Challenge.cw_staywalk_k52_a_page_in_peace_holds
