import PyProof.Rows.All
import PySem.Challenge.RW_staywalk_k51_a_copier_begins
import KE.KFromBytes
import KE.KIntText
import KE.KPairComp
import KE.KSortTup
import KE.KIsAll
import KE.KDictSum
import KE.KRevIter
import KE.KRevSl
import KE.KEqDict
import KE.LcSums
import KE.KDictOf
set_option Elab.async false
set_option linter.all false
set_option maxRecDepth 100000
set_option maxHeartbeats 0
local macro_rules | `(tactic| omega) => `(tactic| lia)
abbrev Q0:=@List.mem_of_getElem?
abbrev Q1:=@List.length_map
abbrev Q2:=@List.getElem?_eq_some_iff
abbrev Q3:=@List.getElem?_eq_getElem
abbrev Q4:=@List.mem_append
abbrev Q5:=@Nat.le_refl
abbrev Q6:=@Array.length_toList
abbrev Q7:=@Bool.false_ne_true
abbrev Q8:=@List.mem_singleton
abbrev Q9:=@PySem.W.mg_of
abbrev Qa:=@List.length_append
abbrev Qb:=@Int.emod_lt_of_pos
abbrev Qc:=@List.pairwise_append
abbrev Qd:=@List.size_toArray
abbrev Qe:=@Int.emod_nonneg
abbrev Qf:=@List.mem_cons_of_mem
abbrev Qg:=@Nat.zero_le
abbrev Qh:=@List.mem_cons
abbrev Qi:=@List.mem_cons_self
abbrev Qj:=@List.length_cons
abbrev Qk:=@List.append_assoc
abbrev Ql:=@List.mem_map
abbrev Qm:=@List.length_take
abbrev Qn:=@Nat.lt_of_lt_of_le
abbrev Qo:=@List.mem_append_right
abbrev Qp:=@Array.getElem?_toList
abbrev Qq:=@List.getElem?_set
abbrev Qr:=@List.map_append
abbrev Qs:=@List.map_cons
abbrev Qt:=@PySem.F.plainAttrs_list
abbrev Qu:=@List.length_drop
abbrev Qv:=@List.getD_eq_getElem?_getD
abbrev Qw:=@Array.toList_append
abbrev Qx:=@List.length_set
abbrev Qy:=@PySem.W.mg_none_of
abbrev Qz:=@Nat.ne_of_lt
abbrev QA:=@Nat.max_eq_right
abbrev QB:=@List.take_of_length_le
abbrev QC:=@List.take_append_drop
abbrev QD:=@List.getElem?_map
abbrev QE:=@List.nodup_cons
abbrev QF:=@Nat.le_trans
abbrev QG:=@List.extract_eq_take_drop
abbrev QH:=@List.getElem_of_mem
abbrev QI:=@PySem.W.kia_one
abbrev QJ:=@List.contains_cons
abbrev QK:=@Bool.false_eq_true
abbrev QL:=@List.length_pos_iff
abbrev QM:=@PySem.W.methodCall_KW
abbrev QN:=@List.length_filter_le
abbrev QO:=@List.mem_of_mem_eraseIdx
abbrev QP:=@PySem.F.slot_list_append
abbrev QQ:=@PySem.F.type_list_append
abbrev QR:=@List.mem_append_left
abbrev QS:=@Array.toList_extract
abbrev QT:=@List.drop_zero
abbrev QU:=@List.drop_eq_nil_of_le
abbrev QV:=@List.all_eq_true
abbrev QW:=@List.getElem?_append_right
abbrev QX:=@List.length_replicate
abbrev QY:=@List.length_singleton
abbrev QZ:=@List.getElem?_append_left
abbrev Z0:=@List.drop_eq_getElem_cons
abbrev Z1:=@List.getElem?_eq_none_iff
abbrev Z2:=@List.ne_nil_of_length_pos
abbrev Z3:=@List.map_map
abbrev Z4:=@List.flatten_cons
abbrev Z5:=@Nat.lt_irrefl
abbrev Z6:=@List.eq_of_mem_replicate
abbrev Z7:=@List.nodup_nil
abbrev Z8:=@List.not_mem_nil
abbrev Z9:=@PySem.F.plainAttrs_dict
abbrev Za:=@Option.map_eq_some_iff
abbrev Zb:=@PySem.W.callWith_K
abbrev Zc:=@Nat.eq_zero_or_pos
abbrev Zd:=@Bool.eq_false_iff
abbrev Ze:=@List.getElem_drop
abbrev Zf:=@Nat.le_succ
abbrev Zg:=@Array.getElem?_eq_some_iff
abbrev Zh:=@List.mem_iff_getElem
abbrev Zi:=@Int.le_refl
abbrev Zj:=@Option.bind_some
abbrev Zk:=@List.getElem_mem
abbrev Zl:=@List.lookup_cons
abbrev Zm:=@List.map_congr_left
abbrev Zn:=@List.flatten_append
abbrev Zo:=@List.find?_cons
abbrev Zp:=@List.pairwise_singleton
abbrev Zq:=@List.getElem?_set_self
abbrev Zr:=@Nat.le_of_eq
abbrev Zs:=@Int.toNat_natCast
abbrev Zt:=@List.getElem_take
abbrev Zu:=@List.take_add_one
abbrev Zv:=@List.perm_append_comm
abbrev Zw:=@Bool.and_eq_true
abbrev Zx:=@List.filter_cons
abbrev Zy:=@List.any_cons
abbrev Zz:=@Array.push_eq_append
abbrev ZA:=@List.mem_of_mem_take
abbrev ZB:=@List.mem_of_mem_drop
abbrev ZC:=@PySem.W.callWith_K0
abbrev ZD:=@Int.ne_of_gt
abbrev ZE:=@Nat.lt_of_le_of_lt
abbrev ZF:=@PySem.F.excBase_ValueError
abbrev ZG:=@List.getElem?_drop
abbrev ZH:=@List.pairwise_iff_getElem
abbrev ZI:=@List.map_take
abbrev ZJ:=@List.map_drop
abbrev ZL:=@Nat.lt_succ_self
abbrev ZM:=@Int.eq_ofNat_of_zero_le
abbrev ZN:=@List.length_eq_zero_iff
abbrev ZO:=@List.getElem?_cons_succ
abbrev ZP:=@Nat.le_of_lt
abbrev ZQ:=@Bool.or_true
abbrev ZR:=@Nat.add_zero
abbrev ZS:=@List.mem_filter
abbrev ZT:=@Bool.eq_iff_iff
abbrev ZU:=@List.append_nil
abbrev ZV:=@Option.map_some
abbrev ZW:=@PySem.F.slot_dict_pop
abbrev ZX:=@Array.getElem_push_lt
abbrev ZY:=@Array.toArray_toList
abbrev ZZ:=@List.getElem?_set_ne
abbrev X0:=@Bool.false_and
abbrev X1:=@List.getElem?_append
abbrev X2:=@List.length_eraseIdx
abbrev X3:=@List.filterMap_cons
abbrev X4:=@PySem.W.plainGet_of
abbrev X5:=@List.eraseIdx_append_of_length_le
abbrev X6:=@Nat.ne_of_gt
abbrev X7:=@List.take_sublist
abbrev X8:=@List.map_nil
abbrev X9:=@Option.isSome_map
abbrev Xa:=@Nat.pow_succ
abbrev Xb:=@Nat.zero_add
abbrev Xc:=@Array.toList_push
abbrev Xd:=@List.eraseIdxIfInBounds_toArray
abbrev Xe:=@List.mem_flatten
abbrev Xf:=@List.take_length
abbrev Xg:=@List.of_mem_zip
abbrev Xh:=@List.length_nil
abbrev Xi:=@PySem.F.slot_dict_setdefault
abbrev Xj:=@Int.fdiv_eq_ediv_of_nonneg
abbrev Xk:=@Nat.not_lt
abbrev Xl:=@List.drop_drop
abbrev Xm:=@Array.toList_setIfInBounds
abbrev Xn:=@Array.perm_iff_toList_perm
namespace L2
open PySem PySem.Spec PyProof.Rows
noncomputable def aE (s:Stmt) (j:Nat):Stmt:=match s with
 | .ClassDef _ _ _ body _ _ _ _ _ _ _=>body.getD j (.Pass ⟨0,0,0,0⟩)
 |_=> .Pass ⟨0,0,0,0⟩
noncomputable def eJ (s:Stmt):Arguments:=match s with
 | .FunctionDef _ a _ _ _ _ _ _ _ _=>a
 |_=>{posonlyargs:=[],args:=[],vararg:=none,kwonlyargs:=[],kw_defaults:=[],kwarg:=none,defaults:=[]}
noncomputable def b9 (s:Stmt):List Stmt:=match s with
 | .FunctionDef _ _ b _ _ _ _ _ _ _=>b
 |_=> []
noncomputable def aj (s:Stmt):Scope:=match s with
 | .FunctionDef _ _ _ _ _ _ sc _ _ _=>sc
 |_=>{kind:= .function,names:=[],isGenerator:=false,isCoroutine:=false}
end L2
namespace HD
open PySem PySem.W
noncomputable def z8 (p:Program) (w:World) (n₀:Nat) (ann:Option Value):Nat→SharedT→Thread→Option SharedT
 |0,_,_=>none
 |n+1,s,t=>match through t with
  |true=>some s
  |false=>match Fast.tw6613529449190102663 n₀ ann t with
   |false=>none
   |true=>match Fast.tw10156331382660048174 (Fast.tw11892475500146522536 Fast.tw14364793385576792824) p w s t with
    |some (s',t')=>z8 p w n₀ ann n s' t'
    |none=>none
theorem vt {p:Program} {w:World} {n₀:Nat} {ann:Option Value}:∀{n:Nat} {s s':SharedT} {t:Thread},z8 p w n₀ ann n s t=some s'→topRun treeTable p w n₀ ann n s.abs t=some s'.abs
 |0,_,_,_,h=>by cases h
 |n+1,s,s',t,h=>by
  unfold z8 at h
  rw[←Fast.te6613529449190102663,←Fast.te10156331382660048174,←Fast.te11892475500146522536,←Fast.te14364793385576792824]at h
  unfold topRun
  cases ht:through t with
  |true=>rw[ht]at h;cases h;rfl
  |false=>
   rw[ht]at h
   cases hk:stepOk n₀ ann t with
   |false=>rw[hk]at h;cases h
   |true=>
    rw[hk]at h
    cases hs:stepT (denote treeTable) p w s t with
    |none=>rw[hs]at h;cases h
    |some x=>
     obtain⟨s2,t2⟩:=x
     rw[hs]at h
     show(match step (denote treeTable) p w s.abs t with| .go s' t'=>topRun treeTable p w n₀ ann n s' t'| .halt _ _=>none)=_
     rw[stepT_spec hs]
     exact vt h
noncomputable def yE:List Obj→BT→Nat→Option (BT×Nat)
 | [],t,n=>some (t,n)
 |o::r,t,n=>match ((t.ins n o).get n).isSome with
  |true=>yE r (t.ins n o) (n+1)
  |false=>none
theorem vI {life:Life}:∀{l:List Obj} {t t':BT} {n n':Nat},yE l t n=some (t',n')→absHeap t' n' life=⟨(absHeap t n life).objs++l.toArray,life⟩
 | [],t,t',n,n',h=>by
  cases h
  rw[Array.append_empty]
  rfl
 |o::r,t,t',n,n',h=>by
  unfold yE at h
  cases g:((t.ins n o).get n).isSome with
  |false=>rw[g]at h;cases h
  |true=>
   rw[g]at h
   rw[vI h,absHeap_ins g]
   show Heap.mk _ _=Heap.mk _ _
   congr 1
   show(absHeap t n life).objs.push o++r.toArray=_
   rw[←Array.append_singleton,Array.append_assoc]
   congr 1
   simp
noncomputable def toT (s:Shared):Option SharedT:=match yE s.heap.objs.toList .nil 0 with
 |some (t,n)=>some ⟨t,n,s.heap.life,s.gens,s.drawn,s.toks,s.os⟩
 |none=>none
theorem BB {s:Shared} {S:SharedT} (h:toT s=some S):S.abs=s:=by
 unfold toT at h
 cases e:yE s.heap.objs.toList .nil 0 with
 |none=>rw[e]at h;cases h
 |some x=>
  obtain⟨t,n⟩:=x
  rw[e]at h
  cases h
  obtain⟨⟨objs,life⟩,gens,drawn,toks,os⟩:=s
  show Shared.mk (absHeap t n life) _ _ _ _=_
  rw[vI e]
  show Shared.mk (Heap.mk (#[]++objs.toList.toArray) life) _ _ _ _=_
  rw[ZY,Array.empty_append]
noncomputable def Cp (p:Program) (w:World) (N:Nat) (s₀:Shared):Option Shared:=match toT s₀ with
 |some S=>(z8 p w S.n (s₀.heap.nsMap mainGlobals "__annotations__") N S (topStub p)).map SharedT.abs
 |none=>none
theorem AE {p:Program} {w:World} {N:Nat} {s₀ s₁:Shared} (h:Cp p w N s₀=some s₁):topRun treeTable p w s₀.heap.objs.size (s₀.heap.nsMap mainGlobals "__annotations__") N s₀ (topStub p)=some s₁:=by
 unfold Cp at h
 cases e:toT s₀ with
 |none=>rw[e]at h;cases h
 |some S=>
  rw[e]at h
  obtain⟨S1,h1,rfl⟩:=Za.mp h
  have ea:=BB e
  have en:S.n=s₀.heap.objs.size:=by
   rw[←ea]
   exact(absHeap_size _ _ _).symm
  rw[en]at h1
  have:=vt h1
  rw[ea]at this
  exact this
noncomputable def endP (p:Program) (w:World) (N:Nat):Option Shared:=((Fast.tw10274390034422433532 Fast.tw14364793385576792824 (opening p) w N (start (opening p)).1 (start (opening p)).2).bind (Fast.tw14289696077712309145 p)).bind λs₀=>match s₀.heap.isNs mainGlobals&&s₀.gens.size==0 with
 |true=>(Cp p w N s₀).bind λs₁=>match staticsOk (importedModules p.main.body) s₀.heap s₁.heap&&namesBound p s₁.heap&&gensDone s₁&&laidKept s₀.heap s₁.heap with
  |true=>some s₁
  |false=>none
 |false=>none
noncomputable def lA (p q:Program) (N:Nat) (w:World):=(endP p w N).map λs=>(Fast.tw5160383126252970620 (R.mapR (λx=>x.name) (Fast.tw3399658132070893891 q)) (Fast.tw5991557255702980513 q) [] {s with gens:= #[]},s.heap.bltView)
noncomputable def lB (p q:Program) (loose:List Str) (Xt:Shared→Bool) (N:Nat) (w:World):=(endP p w N).map λs=>(Fast.tw10880121769531294198 s.heap (Fast.tw821141287760084731 q loose) (R.mapR (λx=>x.name) (Fast.tw3399658132070893891 q)) (R.mapR (λx=>x.fst) (Fast.tw7409074990110511671 q)) (R.mapR (λx=>x.name) (Fast.tw13664370479719496447 q (Fast.tw821141287760084731 q loose)))&&Fast.tw14722251495701143533 s.heap (importedModules p.main.body)&&s.heap.isNs mainGlobals&&s.heap.isNs builtinsNs&&Fast.tw10994771534591457954 q s.heap&&Xt s&&(s.gens.size==0),Fast.tw479339242167458305 q s)
noncomputable def lC (p q:Program) (loose:List Str) (N:Nat) (w:World):=(endP p w N).map λs=>(Fast.tw16090120013241838585 q (Fast.tw3247288618530077131 q) s,Fast.tw2386780881361962483 q (Fast.tw821141287760084731 q loose) s,Fast.tw11698064438423848299 q loose s,Fast.tw7317090234206586261 q s,Fast.tw7369524293546568484 q loose s)
theorem left_of {p q:Program} {loose:List Str} {Xt:Shared→Bool} {α:Type} {Yf:Shared→α} {Ya:World→α} {N:Nat} (hA:∀w,lA p q N w=some ((openGood q loose).1,(openGood q loose).2.1)) (hB:∀w,lB p q loose Xt N w=some (true,true)) (hC:∀w,lC p q loose N w=some (openGood q loose).2.2.2.2) (hD:∀w,(endP p w N).map Yf=some (Ya w)):LeftO p q loose Xt Yf Ya N:=λw=>by
 obtain⟨s₁,e,a⟩:=Za.mp (hA w)
 obtain⟨_,e2,b⟩:=Za.mp (hB w)
 rw[e]at e2
 cases e2
 obtain⟨_,e3,c⟩:=Za.mp (hC w)
 rw[e]at e3
 cases e3
 obtain⟨_,e4,d⟩:=Za.mp (hD w)
 rw[e]at e4
 cases e4
 obtain⟨a1,a2⟩:=Prod.mk.inj a
 obtain⟨b1,b2⟩:=Prod.mk.inj b
 have g:Fast.tw4187177175401517315 q loose (importedModules p.main.body) Xt true s₁=openGood q loose:=by
  exact Prod.ext a1 (Prod.ext a2 (Prod.ext b1 (Prod.ext b2 c)))
 rw[←Fast.te4187177175401517315]at g
 unfold endP at e
 rw[←Fast.te10274390034422433532,←Fast.te14364793385576792824,←Fast.te14289696077712309145]at e
 obtain⟨s₀,h0,e⟩:=Option.bind_eq_some_iff.mp e
 unfold openEnds fencedOpening
 rw[h0]
 show(topFrom treeTable p w N s₀).map _=_
 unfold topFrom
 cases hg:(s₀.heap.isNs mainGlobals&&s₀.gens.size==0)with
 |false=>rw[hg]at e;cases e
 |true=>
  rw[hg]at e
  obtain⟨s₂,h1,e⟩:=Option.bind_eq_some_iff.mp e
  show Option.map _ ((topRun treeTable p w s₀.heap.objs.size (s₀.heap.nsMap mainGlobals "__annotations__") N s₀ (topStub p)).bind _)=_
  rw[AE h1]
  cases hs:(staticsOk (importedModules p.main.body) s₀.heap s₂.heap&&namesBound p s₂.heap&&gensDone s₂&&laidKept s₀.heap s₂.heap)with
  |false=>rw[hs]at e;cases e
  |true=>
   rw[hs]at e
   cases e
   show Option.map _ (match (staticsOk (importedModules p.main.body) s₀.heap s₁.heap&&namesBound p s₁.heap&&gensDone s₁&&laidKept s₀.heap s₁.heap)with|true=>some s₁|false=>none)=_
   rw[hs]
   show some (_,_)=some (_,_)
   rw[g,d]
end HD
namespace SW
open PySem L2
set_option maxHeartbeats 0
noncomputable def top (i:Nat):Stmt:=PySem.Challenge.pw_staywalk_k51_a_copier_begins.main.body.getD i (.Pass ⟨0,0,0,0⟩)
noncomputable abbrev jY:Stmt:=aE (top 5) 0
noncomputable abbrev jX:Stmt:=aE (top 6) 0
noncomputable abbrev i4:Stmt:=aE (top 7) 0
noncomputable abbrev gO:Stmt:=aE (top 8) 0
noncomputable abbrev o9:Stmt:=top 12
noncomputable abbrev mH:Stmt:=top 13
noncomputable abbrev kF:Stmt:=top 14
noncomputable abbrev mG:Stmt:=top 15
noncomputable abbrev kG:Stmt:=top 17
noncomputable abbrev mJ:Stmt:=top 19
noncomputable abbrev mF:Stmt:=top 20
noncomputable abbrev gb:Stmt:=aE (top 21) 0
noncomputable abbrev eY:Stmt:=aE (top 21) 1
noncomputable abbrev dW:Stmt:=aE (top 22) 0
noncomputable abbrev dw:Stmt:=aE (top 22) 1
noncomputable abbrev kH:Stmt:=aE (top 23) 0
noncomputable abbrev iZ:Stmt:=aE (top 23) 1
noncomputable abbrev ii:Stmt:=aE (top 24) 0
noncomputable abbrev gl:Stmt:=aE (top 24) 1
noncomputable abbrev mI:Stmt:=top 26
noncomputable abbrev fc:Stmt:=aE (top 28) 0
noncomputable abbrev cm:Stmt:=aE (top 28) 2
noncomputable abbrev bY:Stmt:=aE (top 28) 3
noncomputable abbrev dt:Stmt:=aE (top 28) 4
noncomputable abbrev fg:Stmt:=aE (top 28) 7
noncomputable abbrev du:Stmt:=aE (top 28) 8
noncomputable abbrev dU:Stmt:=aE (top 28) 9
noncomputable abbrev e8:Stmt:=aE (top 28) 10
noncomputable abbrev dS:Stmt:=aE (top 28) 11
noncomputable abbrev cV:Stmt:=aE (top 28) 12
noncomputable abbrev eZ:Stmt:=aE (top 32) 0
noncomputable abbrev dJ:Stmt:=aE (top 32) 1
noncomputable abbrev cT:Stmt:=aE (top 32) 2
noncomputable abbrev gh:Stmt:=aE (top 32) 3
noncomputable abbrev i5:Stmt:=aE (top 32) 4
noncomputable abbrev cR:Stmt:=aE (top 32) 8
noncomputable abbrev cf:Stmt:=aE (top 32) 9
noncomputable abbrev bX:Stmt:=aE (top 32) 10
noncomputable abbrev gg:Stmt:=aE (top 34) 0
noncomputable abbrev gf:Stmt:=aE (top 34) 1
noncomputable abbrev fP:Stmt:=top 38
noncomputable abbrev gc:Stmt:=aE (top 39) 0
noncomputable abbrev hZ:Stmt:=aE (top 39) 1
noncomputable abbrev gd:Stmt:=aE (top 39) 2
noncomputable abbrev ie:Stmt:=aE (top 39) 4
noncomputable abbrev dq:Stmt:=aE (top 39) 11
noncomputable abbrev cE:Stmt:=aE (top 39) 13
noncomputable abbrev cG:Stmt:=aE (top 39) 14
noncomputable abbrev gi:Stmt:=aE (top 41) 0
noncomputable abbrev ig:Stmt:=aE (top 41) 1
noncomputable abbrev gj:Stmt:=aE (top 41) 2
noncomputable abbrev cU:Stmt:=aE (top 41) 6
noncomputable abbrev e7:Stmt:=aE (top 41) 7
noncomputable abbrev gk:Stmt:=aE (top 41) 15
noncomputable abbrev eX:Stmt:=top 43
noncomputable abbrev hW:Stmt:=top 44
noncomputable abbrev eV:Stmt:=top 46
noncomputable abbrev iY:Stmt:=top 47
noncomputable abbrev hX:Stmt:=top 48
noncomputable abbrev cc:Stmt:=top 49
noncomputable abbrev eW:Stmt:=top 50
noncomputable abbrev hV:Stmt:=top 51
noncomputable abbrev cz:Stmt:=top 53
noncomputable abbrev vp:Stmt:=top 54
set_option genSizeOf false in
set_option genInjectivity false in
structure Adr where
 zH:Addr
 j9:FuncData
 zG:Addr
 j8:FuncData
 zi:Addr
 jt:FuncData
 xt:Addr
 gV:FuncData
 t7:Addr
 pT:FuncData
 rA:Addr
 mX:FuncData
 pX:Addr
 kR:FuncData
 rq:Addr
 mW:FuncData
 pY:Addr
 kS:FuncData
 rC:Addr
 mZ:FuncData
 rp:Addr
 mV:FuncData
 gM:Addr
 gx:FuncData
 b6:Addr
 fF:FuncData
 iQ:Addr
 bR:FuncData
 g7:Addr
 dI:FuncData
 p4:Addr
 fE:FuncData
 nB:Addr
 js:FuncData
 mq:Addr
 de:FuncData
 ku:Addr
 gK:FuncData
 rB:Addr
 mY:FuncData
 jD:Addr
 dh:FuncData
 eF:Addr
 bG:FuncData
 dR:Addr
 b5:FuncData
 gZ:Addr
 dG:FuncData
 jE:Addr
 fI:FuncData
 g6:Addr
 dH:FuncData
 iP:Addr
 d8:FuncData
 jC:Addr
 fH:FuncData
 iO:Addr
 d7:FuncData
 f9:Addr
 dg:FuncData
 jA:Addr
 fG:FuncData
 ko:Addr
 gG:FuncData
 fZ:Addr
 c7:FuncData
 km:Addr
 gF:FuncData
 p5:Addr
 ju:FuncData
 fY:Addr
 c6:FuncData
 eE:Addr
 cr:FuncData
 dQ:Addr
 b4:FuncData
 kj:Addr
 gE:FuncData
 kh:Addr
 gB:FuncData
 nq:Addr
 jq:FuncData
 kf:Addr
 gy:FuncData
 ml:Addr
 iD:FuncData
 kg:Addr
 gA:FuncData
 mm:Addr
 iE:FuncData
 gY:Addr
 dF:FuncData
 fK:Addr
 cK:FuncData
 fL:Addr
 cM:FuncData
 kq:Addr
 gH:FuncData
 mn:Addr
 iF:FuncData
 kr:Addr
 gI:FuncData
 f8:Addr
 c8:FuncData
 jB:Addr
 db:FuncData
 kt:Addr
 gJ:FuncData
 jz:Addr
 fB:FuncData
 mi:Addr
 iB:FuncData
 pZ:Addr
 kT:FuncData
 nu:Addr
 jr:FuncData
 mj:Addr
 iC:FuncData
 eD:Addr
 cq:FuncData
 jy:Addr
 fA:FuncData
 mh:Addr
 iA:FuncData
 fJ:Addr
 cJ:FuncData
 Bw:Addr
 vW:FuncData
 aU:Addr
 jP:Addr
 bD:Addr
 vY:Addr
 vX:Addr
 t4:Addr
 pV:Addr
 iG:Addr
 bz:Addr
 oj:Addr
 d9:Addr
 bc:Addr
 bE:Addr
 iH:Addr
 a8:Addr
 aB:Addr
end SW
namespace ZK
open PySem PySem.W SW L2
noncomputable abbrev N:Value:= .none
noncomputable abbrev B (b:Bool):Value:= .bool b
noncomputable abbrev I (i:Int):Value:= .int i 0
noncomputable abbrev S (x:Str) (t:Nat):Value:= .str x t
noncomputable abbrev F (t:Nat):Value:= .str "/claim/cut.py" t
noncomputable abbrev R (a:Addr):Value:= .ref a
noncomputable abbrev T (n:String):Value:= .type n
noncomputable abbrev E (P:Params) (x:Str) (t:Nat) (v:Value):DictEntry:=⟨PyData.keyHash P x,.str x t,v⟩
noncomputable abbrev c (vs:List Value):Obj:=⟨.type "code",none,.fields vs.toArray, #[]⟩
noncomputable abbrev D (nm qn:Str) (s:Stmt) (df kV dc pm:Value) (an:Option Addr) (cd ct:Value):FuncData:=fnOf nm qn (eJ s) (b9 s) (aj s) df kV dc pm an cd ct
noncomputable abbrev f (d:FuncData):Obj:=⟨.type "function",none,.func d, #[]⟩
noncomputable def t:Adr:=⟨72,D "__init__" "NoKey.__init__" jY N N N (S "staywalk.errors" 194) none (R 71) N,91,D "__init__" "Twice.__init__" jX N N N (S "staywalk.errors" 194) none (R 90) N,110,D "__init__" "TooOld.__init__" i4 N N N (S "staywalk.errors" 194) none (R 109) N,129,D "__init__" "NoMoment.__init__" gO N N N (S "staywalk.errors" 194) none (R 128) N,141,D "turned" "turned" o9 N N N (S "staywalk.bits" 346) none (R 140) N,148,D "mark_of" "mark_of" mH N N N (S "staywalk.bits" 346) none (R 147) N,155,D "place_of" "place_of" kF N N N (S "staywalk.bits" 346) none (R 154) N,162,D "slot_of" "slot_of" mG N N N (S "staywalk.bits" 346) none (R 161) N,169,D "is_whole" "is_whole" kG N N N (S "staywalk.wholes" 384) none (R 168) N,176,D "is_from" "is_from" mJ N N N (S "staywalk.tokens" 393) none (R 175) N,183,D "word_of" "word_of" mF N N N (S "staywalk.tokens" 393) none (R 182) N,197,D "__init__" "Token.__init__" gb N N N (S "staywalk.tokens" 393) none (R 196) N,204,D "words" "Token.words" eY N N N (S "staywalk.tokens" 393) none (R 203) N,226,D "__init__" "BySlots.__init__" dW (R 219) N N (S "staywalk.tokens" 393) none (R 225) N,233,D "holds" "BySlots.holds" dw N N N (S "staywalk.tokens" 393) none (R 232) N,253,D "__init__" "Up.__init__" kH (R 246) N N (S "staywalk.tokens" 393) none (R 252) N,260,D "holds" "Up.holds" iZ N N N (S "staywalk.tokens" 393) none (R 259) N,280,D "__init__" "Down.__init__" ii (R 273) N N (S "staywalk.tokens" 393) none (R 279) N,287,D "holds" "Down.holds" gl N N N (S "staywalk.tokens" 393) none (R 286) N,299,D "is_left" "is_left" mI N N N (S "staywalk.copier" 553) none (R 298) N,321,D "__init__" "Copier.__init__" fc (R 314) N N (S "staywalk.copier" 553) none (R 320) N,336,D "read_page" "Copier.read_page" cm (R 329) N N (S "staywalk.copier" 553) none (R 335) N,343,D "close_page" "Copier.close_page" bY N N N (S "staywalk.copier" 553) none (R 342) N,350,D "follow" "Copier.follow" dt N N N (S "staywalk.copier" 553) none (R 349) N,371,D "copy" "Copier.copy" fg N N N (S "staywalk.copier" 553) none (R 370) N,378,D "covers" "Copier.covers" du N N N (S "staywalk.copier" 553) none (R 377) N,385,D "place" "Copier.place" dU N N N (S "staywalk.copier" 553) none (R 384) N,392,D "left" "Copier.left" e8 N N N (S "staywalk.copier" 553) none (R 391) N,399,D "total" "Copier.total" dS N N N (S "staywalk.copier" 553) none (R 398) N,406,D "stopped" "Copier.stopped" cV N N N (S "staywalk.copier" 553) none (R 405) N,427,D "__init__" "Leaves.__init__" eZ N N N (S "staywalk.leaves" 704) none (R 426) N,432,D "add" "Leaves.add" dJ N N N (S "staywalk.leaves" 704) none (R 431) N,439,D "discard" "Leaves.discard" cT N N N (S "staywalk.leaves" 704) none (R 438) N,446,D "has" "Leaves.has" gh N N N (S "staywalk.leaves" 704) none (R 445) N,451,D "many" "Leaves.many" i5 N N N (S "staywalk.leaves" 704) none (R 450) N,479,D "leaf_of" "Leaves.leaf_of" cR N N N (S "staywalk.leaves" 704) none (R 478) N,486,D "part_leaf" "Leaves.part_leaf" cf N N N (S "staywalk.leaves" 704) none (R 485) N,493,D "join_small" "Leaves.join_small" bX N N N (S "staywalk.leaves" 704) none (R 492) N,514,D "__init__" "Makes.__init__" gg N N N (S "staywalk.makes" 823) none (R 513) N,521,D "note" "Makes.note" gf N N N (S "staywalk.makes" 823) none (R 520) N,554,D "empty_row" "empty_row" fP N N N (S "staywalk.slots" 886) none (R 553) N,568,D "__init__" "Slots.__init__" gc N N N (S "staywalk.slots" 886) none (R 567) N,575,D "put" "Slots.put" hZ N N N (S "staywalk.slots" 886) none (R 574) N,582,D "drop" "Slots.drop" gd N N N (S "staywalk.slots" 886) none (R 581) N,596,D "has" "Slots.has" ie N N N (S "staywalk.slots" 886) none (R 595) N,643,D "cell_of" "Slots.cell_of" dq N N N (S "staywalk.slots" 886) none (R 642) N,657,D "move_slot" "Slots.move_slot" cE N N N (S "staywalk.slots" 886) none (R 656) N,664,D "begin_row" "Slots.begin_row" cG N N N (S "staywalk.slots" 886) none (R 663) N,685,D "__init__" "House.__init__" gi N N N (S "staywalk.house" 1045) none (R 684) N,692,D "put" "House.put" ig N N N (S "staywalk.house" 1045) none (R 691) N,699,D "drop" "House.drop" gj N N N (S "staywalk.house" 1045) none (R 698) N,727,D "lay_mark" "House.lay_mark" cU N N N (S "staywalk.house" 1045) none (R 726) N,735,D "diary" "House.diary" e7 (R 728) N N (S "staywalk.house" 1045) none (R 734) N,792,D "done" "House.done" gk N N N (S "staywalk.house" 1045) none (R 791) N,820,D "_law_cell_at" "_law_cell_at" eX N N N (S "law_staywalk_k51_a_copier_begins" 1222) none (R 819) N,827,D "_law_mixed" "_law_mixed" hW N N N (S "law_staywalk_k51_a_copier_begins" 1222) none (R 826) N,839,D "_law_run" "_law_run" eV N N N (S "law_staywalk_k51_a_copier_begins" 1222) none (R 838) N,846,D "_law_deed" "_law_deed" iY N N N (S "law_staywalk_k51_a_copier_begins" 1222) none (R 845) N,853,D "_law_house" "_law_house" hX N N N (S "law_staywalk_k51_a_copier_begins" 1222) none (R 852) N,860,D "_law_numbers_told" "_law_numbers_told" cc N N N (S "law_staywalk_k51_a_copier_begins" 1222) none (R 859) N,867,D "_law_numbers" "_law_numbers" eW N N N (S "law_staywalk_k51_a_copier_begins" 1222) none (R 866) N,874,D "_law_token" "_law_token" hV N N N (S "law_staywalk_k51_a_copier_begins" 1222) none (R 873) N,888,D "_law_out_of_turn" "_law_out_of_turn" cz N N N (S "law_staywalk_k51_a_copier_begins" 1222) none (R 887) N,893,D "law" "law" vp N N N (S "law_staywalk_k51_a_copier_begins" 1222) none (R 892) N,31,44,56,75,94,113,132,207,236,263,290,409,496,545,667,809⟩
noncomputable def K:Params→Frag:=λP=>(nat_lit 2,⟨N,none,.dict #[] 0, #[]⟩)::
(nat_lit 3,⟨(T "dict"),none,.dict #[E P "__name__" 165 (S "law_staywalk_k51_a_copier_begins" 1222),E P "__doc__" 166 N,E P "__package__" 167 N,E P "__loader__" 168 (.builtin "__main__.__loader__#opaque"),E P "__spec__" 169 N,E P "__annotations__" 170 (R 6),E P "__builtins__" 171 (R 4),E P "__file__" 173 (S "/claim/cut.py" 172),E P "__cached__" 174 N,E P "_wall" 193 (R 21),E P "WalkError" 213 (R 31),E P "NoToken" 229 (R 44),E P "OutOfTurn" 245 (R 56),E P "NoKey" 270 (R 75),E P "Twice" 295 (R 94),E P "TooOld" 320 (R 113),E P "NoMoment" 345 (R 132),E P "BITS" 349 (.int 16 348),E P "PLACES" 351 (.int 65536 350),E P "turned" 361 (R 141),E P "mark_of" 368 (R 148),E P "place_of" 375 (R 155),E P "slot_of" 383 (R 162),E P "is_whole" 392 (R 169),E P "is_from" 402 (R 176),E P "word_of" 409 (R 183),E P "Token" 449 (R 207),E P "BySlots" 484 (R 236),E P "Up" 518 (R 263),E P "Down" 552 (R 290),E P "is_left" 562 (R 299),E P "change" 570 (R 306),E P "Copier" 703 (R 409),E P "MOST_IN_LEAF" 707 (.int 8 706),E P "LEAST_IN_TWO" 709 (.int 5 708),E P "Leaves" 822 (R 496),E P "Makes" 885 (R 545),E P "LEAST_SIZE" 889 (.int 4 888),E P "GREATEST_SIZE" 891 (.int 256 890),E P "empty_row" 897 (R 554),E P "Slots" 1044 (R 667),E P "House" 1221 (R 809),E P "_law_cell_at" 1231 (R 820),E P "_law_mixed" 1240 (R 827),E P "_law_place" 1250 (R 834),E P "_law_run" 1256 (R 839),E P "_law_deed" 1268 (R 846),E P "_law_house" 1278 (R 853),E P "_law_numbers_told" 1288 (R 860),E P "_law_numbers" 1300 (R 867),E P "_law_token" 1307 (R 874),E P "_law_holds" 1318 (R 881),E P "_law_out_of_turn" 1328 (R 888),E P "law" 1334 (R 893)] 54, #[]⟩)::
(nat_lit 30,⟨(T "dict"),none,.dict #[E P "__module__" 203 (S "staywalk.errors" 194),E P "__firstlineno__" 207 (.int 5 206),E P "__static_attributes__" 208 (R 29),E P "__weakref__" 210 (R 32),E P "__doc__" 211 N] 3, #[]⟩)::
(nat_lit 31,⟨(T "type"),none,.cls ⟨"WalkError",[(T "ValueError")],[(R 31),(T "ValueError"),(T "Exception"),(T "BaseException"),(T "object")],30,"WalkError",true,[],[(R 44),(R 56),(R 75),(R 94),(R 113),(R 132)],false,none,false⟩, #[some (R 22),none,some (S "WalkError" 196),some (S "WalkError" 204),some (.builtin "ValueError.__new__"),some (B true)]⟩)::
(nat_lit 43,⟨(T "dict"),none,.dict #[E P "__module__" 221 (S "staywalk.errors" 194),E P "__firstlineno__" 225 (.int 7 224),E P "__static_attributes__" 226 (R 42),E P "__doc__" 227 N] 2, #[]⟩)::
(nat_lit 44,⟨(T "type"),none,.cls ⟨"NoToken",[(R 31)],[(R 44),(R 31),(T "ValueError"),(T "Exception"),(T "BaseException"),(T "object")],43,"NoToken",true,[],[],false,none,false⟩, #[some (R 35),none,some (S "NoToken" 214),some (S "NoToken" 222),some (.builtin "ValueError.__new__"),some (B true)]⟩)::
(nat_lit 55,⟨(T "dict"),none,.dict #[E P "__module__" 237 (S "staywalk.errors" 194),E P "__firstlineno__" 241 (.int 9 240),E P "__static_attributes__" 242 (R 54),E P "__doc__" 243 N] 2, #[]⟩)::
(nat_lit 56,⟨(T "type"),none,.cls ⟨"OutOfTurn",[(R 31)],[(R 56),(R 31),(T "ValueError"),(T "Exception"),(T "BaseException"),(T "object")],55,"OutOfTurn",true,[],[],false,none,false⟩, #[some (R 47),none,some (S "OutOfTurn" 230),some (S "OutOfTurn" 238),some (.builtin "ValueError.__new__"),some (B true)]⟩)::
(nat_lit 71,c [(S "__init__" 258),(S "NoKey.__init__" 259),(F 260),(I 13),(I 2),(I 0),(I 0),(I 3),(R 66),(B true),(I 181),(R 67),N,(R 68),(R 69),(R 70),(I 263),(I 13),(F 264)])::
(nat_lit 72,f t.j9)::
(nat_lit 74,⟨(T "dict"),none,.dict #[E P "__module__" 253 (S "staywalk.errors" 194),E P "__firstlineno__" 257 (.int 11 256),E P "__init__" 265 (R 72),E P "__static_attributes__" 267 (R 73),E P "__doc__" 268 N] 2, #[]⟩)::
(nat_lit 75,⟨(T "type"),none,.cls ⟨"NoKey",[(R 31)],[(R 75),(R 31),(T "ValueError"),(T "Exception"),(T "BaseException"),(T "object")],74,"NoKey",true,[],[],false,none,false⟩, #[some (R 59),none,some (S "NoKey" 246),some (S "NoKey" 254),some (.builtin "ValueError.__new__"),some (B true)]⟩)::
(nat_lit 90,c [(S "__init__" 283),(S "Twice.__init__" 284),(F 285),(I 18),(I 2),(I 0),(I 0),(I 3),(R 85),(B true),(I 181),(R 86),N,(R 87),(R 88),(R 89),(I 288),(I 18),(F 289)])::
(nat_lit 91,f t.j8)::
(nat_lit 93,⟨(T "dict"),none,.dict #[E P "__module__" 278 (S "staywalk.errors" 194),E P "__firstlineno__" 282 (.int 16 281),E P "__init__" 290 (R 91),E P "__static_attributes__" 292 (R 92),E P "__doc__" 293 N] 2, #[]⟩)::
(nat_lit 94,⟨(T "type"),none,.cls ⟨"Twice",[(R 31)],[(R 94),(R 31),(T "ValueError"),(T "Exception"),(T "BaseException"),(T "object")],93,"Twice",true,[],[],false,none,false⟩, #[some (R 78),none,some (S "Twice" 271),some (S "Twice" 279),some (.builtin "ValueError.__new__"),some (B true)]⟩)::
(nat_lit 109,c [(S "__init__" 308),(S "TooOld.__init__" 309),(F 310),(I 23),(I 2),(I 0),(I 0),(I 3),(R 104),(B true),(I 181),(R 105),N,(R 106),(R 107),(R 108),(I 313),(I 23),(F 314)])::
(nat_lit 110,f t.jt)::
(nat_lit 112,⟨(T "dict"),none,.dict #[E P "__module__" 303 (S "staywalk.errors" 194),E P "__firstlineno__" 307 (.int 21 306),E P "__init__" 315 (R 110),E P "__static_attributes__" 317 (R 111),E P "__doc__" 318 N] 2, #[]⟩)::
(nat_lit 113,⟨(T "type"),none,.cls ⟨"TooOld",[(R 31)],[(R 113),(R 31),(T "ValueError"),(T "Exception"),(T "BaseException"),(T "object")],112,"TooOld",true,[],[],false,none,false⟩, #[some (R 97),none,some (S "TooOld" 296),some (S "TooOld" 304),some (.builtin "ValueError.__new__"),some (B true)]⟩)::
(nat_lit 128,c [(S "__init__" 333),(S "NoMoment.__init__" 334),(F 335),(I 28),(I 2),(I 0),(I 0),(I 3),(R 123),(B true),(I 181),(R 124),N,(R 125),(R 126),(R 127),(I 338),(I 28),(F 339)])::
(nat_lit 129,f t.gV)::
(nat_lit 131,⟨(T "dict"),none,.dict #[E P "__module__" 328 (S "staywalk.errors" 194),E P "__firstlineno__" 332 (.int 26 331),E P "__init__" 340 (R 129),E P "__static_attributes__" 342 (R 130),E P "__doc__" 343 N] 2, #[]⟩)::
(nat_lit 132,⟨(T "type"),none,.cls ⟨"NoMoment",[(R 31)],[(R 132),(R 31),(T "ValueError"),(T "Exception"),(T "BaseException"),(T "object")],131,"NoMoment",true,[],[],false,none,false⟩, #[some (R 116),none,some (S "NoMoment" 321),some (S "NoMoment" 329),some (.builtin "ValueError.__new__"),some (B true)]⟩)::
(nat_lit 140,c [(S "turned" 352),(S "turned" 353),(F 354),(I 34),(I 1),(I 0),(I 0),(I 3),(R 135),(B true),(I 181),(R 136),N,(R 137),(R 138),(R 139),(I 359),(I 34),(F 360)])::
(nat_lit 141,f t.pT)::
(nat_lit 147,c [(S "mark_of" 362),(S "mark_of" 363),(F 364),(I 41),(I 1),(I 0),(I 0),(I 3),(R 142),(B true),(I 181),(R 143),N,(R 144),(R 145),(R 146),(I 366),(I 41),(F 367)])::
(nat_lit 148,f t.mX)::
(nat_lit 154,c [(S "place_of" 369),(S "place_of" 370),(F 371),(I 43),(I 1),(I 0),(I 0),(I 3),(R 149),(B true),(I 181),(R 150),N,(R 151),(R 152),(R 153),(I 373),(I 43),(F 374)])::
(nat_lit 155,f t.kR)::
(nat_lit 161,c [(S "slot_of" 376),(S "slot_of" 377),(F 378),(I 45),(I 2),(I 0),(I 0),(I 3),(R 156),(B true),(I 181),(R 157),N,(R 158),(R 159),(R 160),(I 381),(I 45),(F 382)])::
(nat_lit 162,f t.mW)::
(nat_lit 168,c [(S "is_whole" 386),(S "is_whole" 387),(F 388),(I 48),(I 1),(I 0),(I 0),(I 3),(R 163),(B true),(I 181),(R 164),N,(R 165),(R 166),(R 167),(I 390),(I 48),(F 391)])::
(nat_lit 169,f t.kS)::
(nat_lit 175,c [(S "is_from" 395),(S "is_from" 396),(F 397),(I 51),(I 2),(I 0),(I 0),(I 3),(R 170),(B true),(I 181),(R 171),N,(R 172),(R 173),(R 174),(I 400),(I 51),(F 401)])::
(nat_lit 176,f t.mZ)::
(nat_lit 182,c [(S "word_of" 403),(S "word_of" 404),(F 405),(I 53),(I 1),(I 0),(I 0),(I 3),(R 177),(B true),(I 181),(R 178),N,(R 179),(R 180),(R 181),(I 407),(I 53),(F 408)])::
(nat_lit 183,f t.mV)::
(nat_lit 196,c [(S "__init__" 422),(S "Token.__init__" 423),(F 424),(I 57),(I 4),(I 0),(I 0),(I 3),(R 191),(B true),(I 181),(R 192),N,(R 193),(R 194),(R 195),(I 429),(I 57),(F 430)])::
(nat_lit 197,f t.gx)::
(nat_lit 203,c [(S "words" 432),(S "Token.words" 433),(F 434),(I 62),(I 1),(I 0),(I 0),(I 3),(R 198),(B true),(I 181),(R 199),N,(R 200),(R 201),(R 202),(I 436),(I 62),(F 437)])::
(nat_lit 204,f t.fF)::
(nat_lit 206,⟨(T "dict"),none,.dict #[E P "__module__" 417 (S "staywalk.tokens" 393),E P "__firstlineno__" 421 (.int 55 420),E P "__init__" 431 (R 197),E P "words" 438 (R 204),E P "__static_attributes__" 442 (R 205),E P "__dict__" 444 (R 208),E P "__weakref__" 446 (R 209),E P "__doc__" 447 N] 4, #[]⟩)::
(nat_lit 207,⟨(T "type"),none,.cls ⟨"Token",[(T "object")],[(R 207),(T "object")],206,"Token",true,[],[(R 236),(R 263),(R 290)],false,none,false⟩, #[none,none,some (S "Token" 410),some (S "Token" 418),some (.builtin "object.__new__"),some (B true)]⟩)::
(nat_lit 219,⟨(T "tuple"),none,.seq #[(.int 0 462),(.int 65536 463)] 0, #[]⟩)::
(nat_lit 225,c [(S "__init__" 464),(S "BySlots.__init__" 465),(F 466),(I 66),(I 3),(I 0),(I 0),(I 3),(R 220),(B true),(I 181),(R 221),N,(R 222),(R 223),(R 224),(I 470),(I 66),(F 471)])::
(nat_lit 226,f t.bR)::
(nat_lit 232,c [(S "holds" 473),(S "BySlots.holds" 474),(F 475),(I 71),(I 2),(I 0),(I 0),(I 3),(R 227),(B true),(I 181),(R 228),N,(R 229),(R 230),(R 231),(I 478),(I 71),(F 479)])::
(nat_lit 233,f t.dI)::
(nat_lit 235,⟨(T "dict"),none,.dict #[E P "__module__" 457 (S "staywalk.tokens" 393),E P "__firstlineno__" 461 (.int 64 460),E P "__init__" 472 (R 226),E P "holds" 480 (R 233),E P "__static_attributes__" 481 (R 234),E P "__doc__" 482 N] 2, #[]⟩)::
(nat_lit 236,⟨(T "type"),none,.cls ⟨"BySlots",[(R 207)],[(R 236),(R 207),(T "object")],235,"BySlots",true,[],[],false,none,false⟩, #[some (R 212),none,some (S "BySlots" 450),some (S "BySlots" 458),some (.builtin "object.__new__"),some (B true)]⟩)::
(nat_lit 246,⟨(T "tuple"),none,.seq #[(.int 0 497),N] 0, #[]⟩)::
(nat_lit 252,c [(S "__init__" 498),(S "Up.__init__" 499),(F 500),(I 75),(I 3),(I 0),(I 0),(I 3),(R 247),(B true),(I 181),(R 248),N,(R 249),(R 250),(R 251),(I 504),(I 75),(F 505)])::
(nat_lit 253,f t.fE)::
(nat_lit 259,c [(S "holds" 507),(S "Up.holds" 508),(F 509),(I 80),(I 2),(I 0),(I 0),(I 3),(R 254),(B true),(I 181),(R 255),N,(R 256),(R 257),(R 258),(I 512),(I 80),(F 513)])::
(nat_lit 260,f t.js)::
(nat_lit 262,⟨(T "dict"),none,.dict #[E P "__module__" 492 (S "staywalk.tokens" 393),E P "__firstlineno__" 496 (.int 73 495),E P "__init__" 506 (R 253),E P "holds" 514 (R 260),E P "__static_attributes__" 515 (R 261),E P "__doc__" 516 N] 2, #[]⟩)::
(nat_lit 263,⟨(T "type"),none,.cls ⟨"Up",[(R 207)],[(R 263),(R 207),(T "object")],262,"Up",true,[],[],false,none,false⟩, #[some (R 239),none,some (S "Up" 485),some (S "Up" 493),some (.builtin "object.__new__"),some (B true)]⟩)::
(nat_lit 273,⟨(T "tuple"),none,.seq #[N,(.int 0 531)] 0, #[]⟩)::
(nat_lit 279,c [(S "__init__" 532),(S "Down.__init__" 533),(F 534),(I 84),(I 3),(I 0),(I 0),(I 3),(R 274),(B true),(I 181),(R 275),N,(R 276),(R 277),(R 278),(I 538),(I 84),(F 539)])::
(nat_lit 280,f t.de)::
(nat_lit 286,c [(S "holds" 541),(S "Down.holds" 542),(F 543),(I 89),(I 2),(I 0),(I 0),(I 3),(R 281),(B true),(I 181),(R 282),N,(R 283),(R 284),(R 285),(I 546),(I 89),(F 547)])::
(nat_lit 287,f t.gK)::
(nat_lit 289,⟨(T "dict"),none,.dict #[E P "__module__" 526 (S "staywalk.tokens" 393),E P "__firstlineno__" 530 (.int 82 529),E P "__init__" 540 (R 280),E P "holds" 548 (R 287),E P "__static_attributes__" 549 (R 288),E P "__doc__" 550 N] 2, #[]⟩)::
(nat_lit 290,⟨(T "type"),none,.cls ⟨"Down",[(R 207)],[(R 290),(R 207),(T "object")],289,"Down",true,[],[],false,none,false⟩, #[some (R 266),none,some (S "Down" 519),some (S "Down" 527),some (.builtin "object.__new__"),some (B true)]⟩)::
(nat_lit 298,c [(S "is_left" 555),(S "is_left" 556),(F 557),(I 92),(I 2),(I 0),(I 0),(I 3),(R 293),(B true),(I 181),(R 294),N,(R 295),(R 296),(R 297),(I 560),(I 92),(F 561)])::
(nat_lit 299,f t.mY)::
(nat_lit 314,⟨(T "tuple"),none,.seq #[N] 0, #[]⟩)::
(nat_lit 320,c [(S "__init__" 583),(S "Copier.__init__" 584),(F 585),(I 101),(I 4),(I 0),(I 0),(I 3),(R 315),(B true),(I 181),(R 316),N,(R 317),(R 318),(R 319),(I 590),(I 101),(F 591)])::
(nat_lit 321,f t.dh)::
(nat_lit 329,⟨(T "tuple"),none,.seq #[(.int 10 600)] 0, #[]⟩)::
(nat_lit 335,c [(S "read_page" 601),(S "Copier.read_page" 602),(F 603),(I 114),(I 2),(I 0),(I 0),(I 3),(R 330),(B true),(I 181),(R 331),N,(R 332),(R 333),(R 334),(I 607),(I 114),(F 608)])::
(nat_lit 336,f t.bG)::
(nat_lit 342,c [(S "close_page" 610),(S "Copier.close_page" 611),(F 612),(I 121),(I 1),(I 0),(I 0),(I 3),(R 337),(B true),(I 181),(R 338),N,(R 339),(R 340),(R 341),(I 615),(I 121),(F 616)])::
(nat_lit 343,f t.b5)::
(nat_lit 349,c [(S "follow" 618),(S "Copier.follow" 619),(F 620),(I 128),(I 2),(I 0),(I 0),(I 3),(R 344),(B true),(I 181),(R 345),N,(R 346),(R 347),(R 348),(I 625),(I 128),(F 626)])::
(nat_lit 350,f t.dG)::
(nat_lit 370,c [(S "copy" 647),(S "Copier.copy" 648),(F 649),(I 154),(I 1),(I 0),(I 0),(I 3),(R 365),(B true),(I 181),(R 366),N,(R 367),(R 368),(R 369),(I 651),(I 154),(F 652)])::
(nat_lit 371,f t.fI)::
(nat_lit 377,c [(S "covers" 654),(S "Copier.covers" 655),(F 656),(I 157),(I 2),(I 0),(I 0),(I 3),(R 372),(B true),(I 181),(R 373),N,(R 374),(R 375),(R 376),(I 659),(I 157),(F 660)])::
(nat_lit 378,f t.dH)::
(nat_lit 384,c [(S "place" 662),(S "Copier.place" 663),(F 664),(I 160),(I 1),(I 0),(I 0),(I 3),(R 379),(B true),(I 181),(R 380),N,(R 381),(R 382),(R 383),(I 666),(I 160),(F 667)])::
(nat_lit 385,f t.d8)::
(nat_lit 391,c [(S "left" 669),(S "Copier.left" 670),(F 671),(I 163),(I 1),(I 0),(I 0),(I 3),(R 386),(B true),(I 181),(R 387),N,(R 388),(R 389),(R 390),(I 673),(I 163),(F 674)])::
(nat_lit 392,f t.fH)::
(nat_lit 398,c [(S "total" 676),(S "Copier.total" 677),(F 678),(I 166),(I 1),(I 0),(I 0),(I 3),(R 393),(B true),(I 181),(R 394),N,(R 395),(R 396),(R 397),(I 680),(I 166),(F 681)])::
(nat_lit 399,f t.d7)::
(nat_lit 405,c [(S "stopped" 683),(S "Copier.stopped" 684),(F 685),(I 169),(I 1),(I 0),(I 0),(I 3),(R 400),(B true),(I 181),(R 401),N,(R 402),(R 403),(R 404),(I 687),(I 169),(F 688)])::
(nat_lit 406,f t.dg)::
(nat_lit 408,⟨(T "dict"),none,.dict #[E P "__module__" 578 (S "staywalk.copier" 553),E P "__firstlineno__" 582 (.int 99 581),E P "__init__" 592 (R 321),E P "open_page" 599 (R 328),E P "read_page" 609 (R 336),E P "close_page" 617 (R 343),E P "follow" 627 (R 350),E P "follow_mark" 636 (R 357),E P "follow_change" 646 (R 364),E P "copy" 653 (R 371),E P "covers" 661 (R 378),E P "place" 668 (R 385),E P "left" 675 (R 392),E P "total" 682 (R 399),E P "stopped" 689 (R 406),E P "__static_attributes__" 696 (R 407),E P "__dict__" 698 (R 410),E P "__weakref__" 700 (R 411),E P "__doc__" 701 N] 4, #[]⟩)::
(nat_lit 409,⟨(T "type"),none,.cls ⟨"Copier",[(T "object")],[(R 409),(T "object")],408,"Copier",true,[],[],false,none,false⟩, #[none,none,some (S "Copier" 571),some (S "Copier" 579),some (.builtin "object.__new__"),some (B true)]⟩)::
(nat_lit 426,c [(S "__init__" 722),(S "Leaves.__init__" 723),(F 724),(I 176),(I 1),(I 0),(I 0),(I 3),(R 421),(B true),(I 181),(R 422),N,(R 423),(R 424),(R 425),(I 726),(I 176),(F 727)])::
(nat_lit 427,f t.fG)::
(nat_lit 431,c [(S "add" 729),(S "Leaves.add" 730),(F 731),(I 179),(I 2),(I 0),(I 0),(I 3),(R 428),(B true),(I 181),(R 429),N,N,N,(R 430),(I 732),(I 179),(F 733)])::
(nat_lit 432,f t.gG)::
(nat_lit 438,c [(S "discard" 735),(S "Leaves.discard" 736),(F 737),(I 191),(I 2),(I 0),(I 0),(I 3),(R 433),(B true),(I 181),(R 434),N,(R 435),(R 436),(R 437),(I 741),(I 191),(F 742)])::
(nat_lit 439,f t.c7)::
(nat_lit 445,c [(S "has" 744),(S "Leaves.has" 745),(F 746),(I 202),(I 2),(I 0),(I 0),(I 3),(R 440),(B true),(I 181),(R 441),N,(R 442),(R 443),(R 444),(I 750),(I 202),(F 751)])::
(nat_lit 446,f t.gF)::
(nat_lit 450,c [(S "many" 753),(S "Leaves.many" 754),(F 755),(I 206),(I 1),(I 0),(I 0),(I 3),(R 447),(B true),(I 181),(R 448),N,N,N,(R 449),(I 756),(I 206),(F 757)])::
(nat_lit 451,f t.ju)::
(nat_lit 478,c [(S "leaf_of" 784),(S "Leaves.leaf_of" 785),(F 786),(I 218),(I 2),(I 0),(I 0),(I 3),(R 473),(B true),(I 181),(R 474),N,(R 475),(R 476),(R 477),(I 792),(I 218),(F 793)])::
(nat_lit 479,f t.c6)::
(nat_lit 485,c [(S "part_leaf" 795),(S "Leaves.part_leaf" 796),(F 797),(I 229),(I 2),(I 0),(I 0),(I 3),(R 480),(B true),(I 181),(R 481),N,(R 482),(R 483),(R 484),(I 802),(I 229),(F 803)])::
(nat_lit 486,f t.cr)::
(nat_lit 492,c [(S "join_small" 805),(S "Leaves.join_small" 806),(F 807),(I 235),(I 2),(I 0),(I 0),(I 3),(R 487),(B true),(I 181),(R 488),N,(R 489),(R 490),(R 491),(I 811),(I 235),(F 812)])::
(nat_lit 493,f t.b4)::
(nat_lit 495,⟨(T "dict"),none,.dict #[E P "__module__" 717 (S "staywalk.leaves" 704),E P "__firstlineno__" 721 (.int 174 720),E P "__init__" 728 (R 427),E P "add" 734 (R 432),E P "discard" 743 (R 439),E P "has" 752 (R 446),E P "many" 758 (R 451),E P "all_of" 765 (R 458),E P "from_on" 774 (R 465),E P "down_from" 783 (R 472),E P "leaf_of" 794 (R 479),E P "part_leaf" 804 (R 486),E P "join_small" 813 (R 493),E P "__static_attributes__" 815 (R 494),E P "__dict__" 817 (R 497),E P "__weakref__" 819 (R 498),E P "__doc__" 820 N] 4, #[]⟩)::
(nat_lit 496,⟨(T "type"),none,.cls ⟨"Leaves",[(T "object")],[(R 496),(T "object")],495,"Leaves",true,[],[],false,none,false⟩, #[none,none,some (S "Leaves" 710),some (S "Leaves" 718),some (.builtin "object.__new__"),some (B true)]⟩)::
(nat_lit 513,c [(S "__init__" 837),(S "Makes.__init__" 838),(F 839),(I 245),(I 1),(I 0),(I 0),(I 3),(R 508),(B true),(I 181),(R 509),N,(R 510),(R 511),(R 512),(I 841),(I 245),(F 842)])::
(nat_lit 514,f t.gE)::
(nat_lit 520,c [(S "note" 844),(S "Makes.note" 845),(F 846),(I 248),(I 3),(I 0),(I 0),(I 3),(R 515),(B true),(I 181),(R 516),N,(R 517),(R 518),(R 519),(I 850),(I 248),(F 851)])::
(nat_lit 521,f t.gB)::
(nat_lit 544,⟨(T "dict"),none,.dict #[E P "__module__" 832 (S "staywalk.makes" 823),E P "__firstlineno__" 836 (.int 243 835),E P "__init__" 843 (R 514),E P "note" 852 (R 521),E P "all_told" 859 (R 528),E P "value_at" 868 (R 535),E P "sweep" 876 (R 542),E P "__static_attributes__" 878 (R 543),E P "__dict__" 880 (R 546),E P "__weakref__" 882 (R 547),E P "__doc__" 883 N] 4, #[]⟩)::
(nat_lit 545,⟨(T "type"),none,.cls ⟨"Makes",[(T "object")],[(R 545),(T "object")],544,"Makes",true,[],[],false,none,false⟩, #[none,none,some (S "Makes" 825),some (S "Makes" 833),some (.builtin "object.__new__"),some (B true)]⟩)::
(nat_lit 553,c [(S "empty_row" 892),(S "empty_row" 893),(F 894),(I 265),(I 1),(I 0),(I 0),(I 3),(R 550),(B true),(I 181),(R 551),N,N,N,(R 552),(I 895),(I 265),(F 896)])::
(nat_lit 554,f t.jq)::
(nat_lit 567,c [(S "__init__" 910),(S "Slots.__init__" 911),(F 912),(I 269),(I 1),(I 0),(I 0),(I 3),(R 562),(B true),(I 181),(R 563),N,(R 564),(R 565),(R 566),(I 914),(I 269),(F 915)])::
(nat_lit 568,f t.gy)::
(nat_lit 574,c [(S "put" 917),(S "Slots.put" 918),(F 919),(I 274),(I 3),(I 0),(I 0),(I 3),(R 569),(B true),(I 181),(R 570),N,(R 571),(R 572),(R 573),(I 924),(I 274),(F 925)])::
(nat_lit 575,f t.iD)::
(nat_lit 581,c [(S "drop" 927),(S "Slots.drop" 928),(F 929),(I 282),(I 2),(I 0),(I 0),(I 3),(R 576),(B true),(I 181),(R 577),N,(R 578),(R 579),(R 580),(I 932),(I 282),(F 933)])::
(nat_lit 582,f t.gA)::
(nat_lit 595,c [(S "has" 944),(S "Slots.has" 945),(F 946),(I 296),(I 2),(I 0),(I 0),(I 3),(R 590),(B true),(I 181),(R 591),N,(R 592),(R 593),(R 594),(I 949),(I 296),(F 950)])::
(nat_lit 596,f t.iE)::
(nat_lit 642,c [(S "cell_of" 996),(S "Slots.cell_of" 997),(F 998),(I 317),(I 2),(I 0),(I 0),(I 3),(R 637),(B true),(I 181),(R 638),N,(R 639),(R 640),(R 641),(I 1004),(I 317),(F 1005)])::
(nat_lit 643,f t.dF)::
(nat_lit 656,c [(S "move_slot" 1015),(S "Slots.move_slot" 1016),(F 1017),(I 328),(I 1),(I 0),(I 0),(I 3),(R 651),(B true),(I 181),(R 652),N,(R 653),(R 654),(R 655),(I 1023),(I 328),(F 1024)])::
(nat_lit 657,f t.cK)::
(nat_lit 663,c [(S "begin_row" 1026),(S "Slots.begin_row" 1027),(F 1028),(I 341),(I 1),(I 0),(I 0),(I 3),(R 658),(B true),(I 181),(R 659),N,(R 660),(R 661),(R 662),(I 1031),(I 341),(F 1032)])::
(nat_lit 664,f t.cM)::
(nat_lit 666,⟨(T "dict"),none,.dict #[E P "__module__" 905 (S "staywalk.slots" 886),E P "__firstlineno__" 909 (.int 267 908),E P "__init__" 916 (R 568),E P "put" 926 (R 575),E P "drop" 934 (R 582),E P "get" 943 (R 589),E P "has" 951 (R 596),E P "many" 958 (R 603),E P "rows" 964 (R 608),E P "moved" 971 (R 615),E P "cells" 978 (R 622),E P "span" 987 (R 629),E P "stop" 995 (R 636),E P "cell_of" 1006 (R 643),E P "lying_at" 1014 (R 650),E P "move_slot" 1025 (R 657),E P "begin_row" 1033 (R 664),E P "__static_attributes__" 1037 (R 665),E P "__dict__" 1039 (R 668),E P "__weakref__" 1041 (R 669),E P "__doc__" 1042 N] 4, #[]⟩)::
(nat_lit 667,⟨(T "type"),none,.cls ⟨"Slots",[(T "object")],[(R 667),(T "object")],666,"Slots",true,[],[],false,none,false⟩, #[none,none,some (S "Slots" 898),some (S "Slots" 906),some (.builtin "object.__new__"),some (B true)]⟩)::
(nat_lit 684,c [(S "__init__" 1059),(S "House.__init__" 1060),(F 1061),(I 352),(I 1),(I 0),(I 0),(I 3),(R 679),(B true),(I 181),(R 680),N,(R 681),(R 682),(R 683),(I 1063),(I 352),(F 1064)])::
(nat_lit 685,f t.gH)::
(nat_lit 691,c [(S "put" 1066),(S "House.put" 1067),(F 1068),(I 362),(I 3),(I 0),(I 0),(I 3),(R 686),(B true),(I 181),(R 687),N,(R 688),(R 689),(R 690),(I 1072),(I 362),(F 1073)])::
(nat_lit 692,f t.iF)::
(nat_lit 698,c [(S "drop" 1075),(S "House.drop" 1076),(F 1077),(I 368),(I 2),(I 0),(I 0),(I 3),(R 693),(B true),(I 181),(R 694),N,(R 695),(R 696),(R 697),(I 1080),(I 368),(F 1081)])::
(nat_lit 699,f t.gI)::
(nat_lit 726,c [(S "lay_mark" 1106),(S "House.lay_mark" 1107),(F 1108),(I 382),(I 1),(I 0),(I 0),(I 3),(R 721),(B true),(I 181),(R 722),N,(R 723),(R 724),(R 725),(I 1110),(I 382),(F 1111)])::
(nat_lit 727,f t.c8)::
(nat_lit 728,⟨(T "tuple"),none,.seq #[(.int 0 1113)] 0, #[]⟩)::
(nat_lit 734,c [(S "diary" 1114),(S "House.diary" 1115),(F 1116),(I 387),(I 2),(I 0),(I 0),(I 3),(R 729),(B true),(I 181),(R 730),N,(R 731),(R 732),(R 733),(I 1119),(I 387),(F 1120)])::
(nat_lit 735,f t.db)::
(nat_lit 791,c [(S "done" 1179),(S "House.done" 1180),(F 1181),(I 412),(I 3),(I 0),(I 0),(I 3),(R 786),(B true),(I 181),(R 787),N,(R 788),(R 789),(R 790),(I 1186),(I 412),(F 1187)])::
(nat_lit 792,f t.gJ)::
(nat_lit 808,⟨(T "dict"),none,.dict #[E P "__module__" 1054 (S "staywalk.house" 1045),E P "__firstlineno__" 1058 (.int 350 1057),E P "__init__" 1065 (R 685),E P "put" 1074 (R 692),E P "drop" 1082 (R 699),E P "get" 1090 (R 706),E P "has" 1098 (R 713),E P "many" 1105 (R 720),E P "lay_mark" 1112 (R 727),E P "diary" 1121 (R 735),E P "makes" 1129 (R 742),E P "hold" 1136 (R 749),E P "let_go" 1144 (R 756),E P "held" 1151 (R 763),E P "sweep" 1158 (R 770),E P "was" 1167 (R 777),E P "page_at" 1178 (R 785),E P "done" 1188 (R 792),E P "refuse_outside" 1196 (R 799),E P "value_then" 1205 (R 806),E P "__static_attributes__" 1214 (R 807),E P "__dict__" 1216 (R 810),E P "__weakref__" 1218 (R 811),E P "__doc__" 1219 N] 4, #[]⟩)::
(nat_lit 809,⟨(T "type"),none,.cls ⟨"House",[(T "object")],[(R 809),(T "object")],808,"House",true,[],[],false,none,false⟩, #[none,none,some (S "House" 1047),some (S "House" 1055),some (.builtin "object.__new__"),some (B true)]⟩)::
(nat_lit 819,c [(S "_law_cell_at" 1224),(S "_law_cell_at" 1225),(F 1226),(I 428),(I 2),(I 0),(I 0),(I 3),(R 814),(B true),(I 181),(R 815),N,(R 816),(R 817),(R 818),(I 1229),(I 428),(F 1230)])::
(nat_lit 820,f t.fB)::
(nat_lit 826,c [(S "_law_mixed" 1232),(S "_law_mixed" 1233),(F 1234),(I 432),(I 2),(I 0),(I 0),(I 3),(R 821),(B true),(I 181),(R 822),N,(R 823),(R 824),(R 825),(I 1238),(I 432),(F 1239)])::
(nat_lit 827,f t.iB)::
(nat_lit 838,c [(S "_law_run" 1251),(S "_law_run" 1252),(F 1253),(I 442),(I 1),(I 0),(I 0),(I 3),(R 835),(B true),(I 181),(R 836),N,N,N,(R 837),(I 1254),(I 442),(F 1255)])::
(nat_lit 839,f t.kT)::
(nat_lit 845,c [(S "_law_deed" 1257),(S "_law_deed" 1258),(F 1259),(I 459),(I 3),(I 0),(I 0),(I 3),(R 840),(B true),(I 181),(R 841),N,(R 842),(R 843),(R 844),(I 1266),(I 459),(F 1267)])::
(nat_lit 846,f t.jr)::
(nat_lit 852,c [(S "_law_house" 1269),(S "_law_house" 1270),(F 1271),(I 472),(I 1),(I 0),(I 0),(I 3),(R 847),(B true),(I 181),(R 848),N,(R 849),(R 850),(R 851),(I 1276),(I 472),(F 1277)])::
(nat_lit 853,f t.iC)::
(nat_lit 859,c [(S "_law_numbers_told" 1279),(S "_law_numbers_told" 1280),(F 1281),(I 478),(I 2),(I 0),(I 0),(I 3),(R 854),(B true),(I 181),(R 855),N,(R 856),(R 857),(R 858),(I 1286),(I 478),(F 1287)])::
(nat_lit 860,f t.cq)::
(nat_lit 866,c [(S "_law_numbers" 1289),(S "_law_numbers" 1290),(F 1291),(I 489),(I 2),(I 0),(I 0),(I 3),(R 861),(B true),(I 181),(R 862),N,(R 863),(R 864),(R 865),(I 1298),(I 489),(F 1299)])::
(nat_lit 867,f t.fA)::
(nat_lit 873,c [(S "_law_token" 1301),(S "_law_token" 1302),(F 1303),(I 507),(I 1),(I 0),(I 0),(I 3),(R 868),(B true),(I 181),(R 869),N,(R 870),(R 871),(R 872),(I 1305),(I 507),(F 1306)])::
(nat_lit 874,f t.iA)::
(nat_lit 887,c [(S "_law_out_of_turn" 1319),(S "_law_out_of_turn" 1320),(F 1321),(I 520),(I 2),(I 0),(I 0),(I 3),(R 882),(B true),(I 181),(R 883),N,(R 884),(R 885),(R 886),(I 1326),(I 520),(F 1327)])::
(nat_lit 888,f t.cJ)::
(nat_lit 892,c [(S "law" 1329),(S "law" 1330),(F 1331),(I 530),(I 1),(I 0),(I 0),(I 3),(R 889),(B true),(I 181),(R 890),N,N,N,(R 891),(I 1332),(I 530),(F 1333)])::
(nat_lit 893,f t.vW)::[]
noncomputable abbrev as:List Addr:=[2,3,30,31,43,44,55,56,71,72,74,75,90,91,93,94,109,110,112,113,128,129,131,132,140,141,147,148,154,155,161,162,168,169,175,176,182,183,196,197,203,204,206,207,219,225,226,232,233,235,236,246,252,253,259,260,262,263,273,279,280,286,287,289,290,298,299,314,320,321,329,335,336,342,343,349,350,370,371,377,378,384,385,391,392,398,399,405,406,408,409,426,427,431,432,438,439,445,446,450,451,478,479,485,486,492,493,495,496,513,514,520,521,544,545,553,554,567,568,574,575,581,582,595,596,642,643,656,657,663,664,666,667,684,685,691,692,698,699,726,727,728,734,735,791,792,808,809,819,820,826,827,838,839,845,846,852,853,859,860,866,867,873,874,887,888,892,893]
noncomputable abbrev p:Program:=PySem.Challenge.pw_staywalk_k51_a_copier_begins
noncomputable abbrev q:Program:=view p [0,2,3,4,5,6,7,8,10,11,12,13,14,15,17,19,20,21,22,23,24,26,27,28,30,31,32,34,36,37,38,39,41,43,44,45,46,47,48,49,50,51,52,53,54]
noncomputable abbrev H:Hook:=kHook K as λ_=>rfl
theorem said:OpenLaw.wellSaid PySem.Challenge.rw_staywalk_k51_a_copier_begins=true:=by
 rw[Fast.te9446332074065402090]
 kernel_rfl
noncomputable abbrev M:Nat:=13096
noncomputable abbrev L:List Str:=["BySlots","Up","Down"]
noncomputable abbrev X:Shared→Bool:=λs=>xlAt q [] s&&recOk [] s
theorem lA:∀w,HD.lA p q M w=some ((openGood q L).1,(openGood q L).2.1):=λw=>by kernel_rfl
theorem lB:∀w,HD.lB p q L X M w=some (true,true):=λw=>by kernel_rfl
theorem lC:∀w,HD.lC p q L M w=some (openGood q L).2.2.2.2:=λw=>by kernel_rfl
theorem lD:∀w,(HD.endP p w M).map (Hook.obs H)=some (Hook.val H w):=λw=>by kernel_rfl
theorem left:LeftO p q L X (Hook.obs H) (Hook.val H) M:=HD.left_of lA lB lC lD
end ZK
namespace L2
open PySem PySem.Spec PyProof.Rows
abbrev Key:=Sum Int Str
def jp:Key→Value→Bool
 | .inl k,v=>Value.isInt k v
 | .inr x,v=>Value.isStrOf x v
def keyH (w:World):Key→Int
 | .inl k=>hashInt k
 | .inr x=>hashStr w x
theorem bC:∀{k:Key} {v:Value},jp k v=true→(∃i t,k=Sum.inl i∧v=Value.int i t)∨(∃x t,k=Sum.inr x∧v=Value.str x t)
 | .inl i,v,h=>by
  obtain⟨t,e⟩:=Value.isInt_shape (k:=i) (v:=v) h
  exact .inl ⟨i,t,rfl,e⟩
 | .inr x,v,h=>by
  obtain⟨t,e⟩:=Value.isStrOf_shape (x:=x) (v:=v) h
  exact .inr ⟨x,t,rfl,e⟩
theorem wW (i:Int) (t:Tok):jp (.inl i) (.int i t)=true:=by simp[jp,Value.isInt]
theorem wV (x:Str) (t:Tok):jp (.inr x) (.str x t)=true:=by simp[jp,Value.isStrOf]
theorem Cg (a b:Int):decide ((Sum.inl a:Key)=Sum.inl b)=(a==b):=by
 by_cases e:a=b
 ·subst e;simp
 ·have h:¬(Sum.inl a:Key)=Sum.inl b:=λq=>e (Sum.inl.inj q)
  rw[decide_eq_false h]
  exact(beq_eq_false_iff_ne.mpr e).symm
theorem Cd (a b:Str):decide ((Sum.inr a:Key)=Sum.inr b)=decide (a=b):=by
 by_cases e:a=b
 ·subst e;simp
 ·have h:¬(Sum.inr a:Key)=Sum.inr b:=λq=>e (Sum.inr.inj q)
  rw[decide_eq_false h,decide_eq_false e]
theorem Cf (a:Int) (b:Str):decide ((Sum.inl a:Key)=Sum.inr b)=false:=decide_eq_false (λq=>nomatch q)
theorem Ce (a:Str) (b:Int):decide ((Sum.inr a:Key)=Sum.inl b)=false:=decide_eq_false (λq=>nomatch q)
def a6 (prog:Program) (w:World):PySem.KeyKind prog w Key where
 is:=jp
 hash:=keyH w
 inj:=λv a b ha hb=>by
  rcases bC ha with⟨i,t,rfl,rfl⟩|⟨x,t,rfl,rfl⟩
  ·rcases bC hb with⟨j,u,rfl,e⟩|⟨y,u,rfl,e⟩
   ·injection e with e1 _;rw[e1]
   ·exact nomatch e
  ·rcases bC hb with⟨j,u,rfl,e⟩|⟨y,u,rfl,e⟩
   ·exact nomatch e
   ·injection e with e1 _;rw[e1]
 byValue:=λk v h=>by
  rcases bC h with⟨i,t,rfl,rfl⟩|⟨x,t,rfl,rfl⟩<;>rfl
 pyHash:=λhv h=>by
  rcases bC hv with⟨i,t,rfl,rfl⟩|⟨x,t,rfl,rfl⟩
  ·exact wpAny_pyHash_int h
  ·exact wpAny_pyHash_str h
 eqBool:=λhu hv h=>by
  rcases bC hu with⟨i,t,rfl,rfl⟩|⟨x,t,rfl,rfl⟩
  ·rcases bC hv with⟨j,u,rfl,rfl⟩|⟨y,u,rfl,rfl⟩
   ·rw[Cg]at h;exact wpAny_eqBool_int h
   ·rw[Cf]at h;exact SeqAt.EqAt.int_str i t y u _ _ _ _ h
  ·rcases bC hv with⟨j,u,rfl,rfl⟩|⟨y,u,rfl,rfl⟩
   ·rw[Ce]at h;exact SeqAt.EqAt.str_int x t j u _ _ _ _ h
   ·rw[Cd]at h;exact wpAny_eqBool_str h
 «strs»:=λk x t v h=>by
  rcases bC h with⟨i,u,rfl,e⟩|⟨y,u,rfl,e⟩
  ·exact nomatch e
  ·injection e with e1 _
   subst e1
   cases v<;>rfl
theorem uN (prog:Program) (w:World) (k:Key) (v:Value):(a6 prog w).is k v=jp k v:=rfl
theorem tL (prog:Program) (w:World) (i:Int) (t:Tok):(a6 prog w).is (.inl i) (.int i t)=true:=wW i t
theorem tK (prog:Program) (w:World) (x:Str) (t:Tok):(a6 prog w).is (.inr x) (.str x t)=true:=wV x t
end L2
namespace L2
open PySem PySem.Spec PyProof.Rows
inductive V where
 |non|bl (b:Bool)|int (i:Int)|str (x:Str)|byt (b:Array UInt8)|flt (b:UInt64)|ref (a:Addr)|ty (n:String)
 deriving DecidableEq
def RelV:V→Value→Prop
 | .non,u=>u=Value.none
 | .bl b,u=>u=Value.bool b
 | .int i,u=>∃t,u=Value.int i t
 | .str x,u=>∃t,u=Value.str x t
 | .byt b,u=>∃t,u=Value.bytes b t
 | .flt b,u=>∃t,u=Value.float b t
 | .ref a,u=>u=Value.ref a
 | .ty n,u=>u=Value.type n
abbrev Vals:List V→List Value→Prop:=Paired RelV
theorem Vals.length {xs:List V} {us:List Value} (r:Vals xs us):xs.length=us.length:=Paired.length r
theorem Vals.get:∀{xs:List V} {us:List Value} {i:Nat} {x:V},Vals xs us→xs[i]?=some x→∃u,us[i]?=some u∧RelV x u
 |_,_,_,_,.nil,e=>by simp at e
 |_,_,0,_,.cons r _,e=>by simp at e;subst e;exact⟨_,rfl,r⟩
 |_,_,i+1,x,.cons _ t,e=>by
  obtain⟨u,h1,h2⟩:=Vals.get (i:=i) (x:=x) t (by simpa using e)
  exact⟨u,by simpa using h1,h2⟩
theorem Vals.set {x:V} {u:Value} (r:RelV x u):∀{xs:List V} {us:List Value} (i:Nat),Vals xs us→Vals (xs.set i x) (us.set i u)
 |_,_,_,.nil=> .nil
 |_,_,0,.cons _ t=> .cons r t
 |_,_,i+1,.cons q t=> .cons q (Vals.set r i t)
theorem Vals.append:∀{xs ys:List V} {us ws:List Value},Vals xs us→Vals ys ws→Vals (xs++ys) (us++ws)
 |_,_,_,_,.nil,s=>s
 |_,_,_,_,.cons r t,s=> .cons r (Vals.append t s)
theorem Vals.take:∀{xs:List V} {us:List Value} (n:Nat),Vals xs us→Vals (xs.take n) (us.take n)
 |_,_,0,_=> .nil
 |_,_,_+1,.nil=> .nil
 |_,_,n+1,.cons r t=> .cons r (Vals.take n t)
theorem Vals.drop:∀{xs:List V} {us:List Value} (n:Nat),Vals xs us→Vals (xs.drop n) (us.drop n)
 |_,_,0,r=>r
 |_,_,_+1,.nil=> .nil
 |_,_,n+1,.cons _ t=>Vals.drop n t
def RelO:Option V→Option Value→Prop
 |some v,some u=>RelV v u
 |none,none=>True
 |_,_=>False
def KV {κ:Type}:List (κ×V)→List (κ×Value)→Prop:=Paired λ(p:κ×V) (q:κ×Value)=>p.1=q.1∧RelV p.2 q.2
def kV:Key→V
 | .inl i=> .int i
 | .inr x=> .str x
inductive HO where
 |lst (xs:List V)
 |tup (xs:List V)
 |dK (kvs:List (Key×V))|dT (kvs:List (List Key×V))
 |set (S:Int→Bool) (n:Nat)
 |ins (C dx:Addr) (fs:List (Str×V))
 |own (x:Addr)
 |xd (fs:List (Str×V))
 |met (f x:Addr)
 |rng (lo hi:Int)
 |frz (o:Obj) (u:HO)
 |tbl (ps:Array Value)
 |ext (φ:Heap→Prop)
abbrev Hp:=Addr→Option HO
def upd (H:Hp) (a:Addr) (o:HO):Hp:=λb=>if b=a then some o else H b
theorem ag {H:Hp} {a:Addr} {o:HO}:upd H a o a=some o:=by unfold upd;rw[if_pos rfl]
theorem ac {H:Hp} {a b:Addr} {o:HO} (h:b≠a):upd H a o b=H b:=by unfold upd;rw[if_neg h]
theorem b7 {H:Hp} {a:Addr} {o u:HO}:upd (upd H a o) a u=upd H a u:=by
 funext b;unfold upd;split<;>rfl
theorem bP {H:Hp} {a b:Addr} {o u:HO} (h:H a=some o) (h':H b=some u) (d:o≠u):a≠b:=by
 intro e;subst e;rw[h]at h';exact d (Option.some.inj h')
theorem am {H:Hp} {a b:Addr} {o:HO} (h:H a=some o) (h':H b=none):a≠b:=by
 intro e;subst e;rw[h]at h';cases h'
section
variable (P:Program) (w:World)
def ObjOk (H:Hp) (h:Heap) (a:Addr):HO→Prop
 | .lst xs=>xs.length≤sizeLine∧∃(its:List Value) (n:Nat),Vals xs its∧h.get? a=some {cls:= .type "list",data:= .seq its.toArray n}
 | .tup xs=>xs.length≤sizeLine∧∃its:List Value,Vals xs its∧IsTup h a its.toArray
 | .dK kvs=>kvs.length≤sizeLine∧(a==sysModules)=false∧∃vs,KV kvs vs∧h.DictOf (a6 P w) a vs
 | .dT kvs=>kvs.length≤sizeLine∧(a==sysModules)=false∧∃xs:List (List Key×Addr×Value),
   Paired (λ(p:List Key×V) (q:List Key×Addr×Value)=>p.1=q.1∧H q.2.1=some (.tup (p.1.map kV))∧RelV p.2 q.2.2) kvs xs∧
   ∃o es ep,h.get? a=some o∧o.ExactDict∧o.data= .dict es ep∧es.toList=xs.map (entryOfKey (tupleKind (a6 P w)))∧(xs.map (·.1)).Nodup
 | .set S n=>h.SetOf (intKind P w) a S n
 | .ins C dx fs=>H dx=some (.own a)∧fs.length≤1000∧dx≠a∧h.get? a=some (PySem.W.instObj C dx)∧
   ∃mA,h.Ns1 dx mA∧(∀f,RelO (fs.lookup f) (mA f))∧PySem.Within mA (fs.map (·.1))
 | .own _=>∃o,h.get? a=some o
 | .xd fs=>∃mA,h.Ns1 a mA∧∀f,RelO (fs.lookup f) (mA f)
 | .rng lo hi=>∃t u v,h.get? a=some {cls:= .type "range",data:= .fields #[.int lo t,.int hi u,.int 1 v]}
 | .frz o u=>h.get? a=some o∧ObjOk H h a u
 | .tbl ps=>h.get? a=some {cls:= .none,data:= .fields ps}
 | .met f x=>h.get? a=some (PySem.W.methodObj (.ref f) (.ref x))
 | .ext φ=>φ h∧(∃o,h.get? a=some o)∧∀h1 h2:Heap,φ h1→(∀o,h1.get? a=some o→h2.get? a=some o)→φ h2
def HOk (H:Hp) (h:Heap):Prop:=∀a o,H a=some o→ObjOk P w H h a o
end
section
variable {P:Program} {w:World} {H H':Hp} {h h':Heap} {a:Addr} {o:HO}
theorem ObjOk.lt (x:ObjOk P w H h a o):a<h.objs.size:=by
 cases o with
 |lst xs=>obtain⟨_,_,_,_,e⟩:=x;exact Heap.lt_size e
 |tup xs=>obtain⟨_,_,_,p⟩:=x;exact p.lt
 |dK kvs=>obtain⟨_,_,_,_,o,_,_,e,_⟩:=x;exact Heap.lt_size e
 |dT kvs=>obtain⟨_,_,_,_,o,_,_,e,_⟩:=x;exact Heap.lt_size e
 |set S n=>obtain⟨o,_,_,_,e,_⟩:=x;exact Heap.lt_size e
 |ins C dx fs=>obtain⟨_,_,_,e,_⟩:=x;exact Heap.lt_size e
 |own y=>obtain⟨_,e⟩:=x;exact Heap.lt_size e
 |xd fs=>obtain⟨_,⟨_,_,_,e,_⟩,_⟩:=x;exact Heap.lt_size e
 |rng lo hi=>obtain⟨_,_,_,e⟩:=x;exact Heap.lt_size e
 |frz ob u=>obtain⟨e,_⟩:=x;exact Heap.lt_size e
 |tbl ps=>exact Heap.lt_size (show h.get? a=some _ from x)
 |met f y=>exact Heap.lt_size (show h.get? a=some _ from x)
 |ext φ=>obtain⟨_,⟨_,e⟩,_⟩:=x;exact Heap.lt_size e
theorem Paired.mapP {α β:Type} {F G:α→β→Prop}:∀{l₁:List α} {l₂:List β},Paired F l₁ l₂→(∀a b,F a b→G a b)→Paired G l₁ l₂
 |_,_,.nil,_=> .nil
 |_,_,.cons r t,f=> .cons (f _ _ r) (Paired.mapP t f)
theorem ObjOk.stay (x:ObjOk P w H h a o) (k:∀b u,(b=a∨H b=some (.own a))→h.get? b=some u→h'.get? b=some u)
  (ho:∀b,H b=some (.own a)→H' b=some (.own a)) (ht:∀b xs,H b=some (.tup xs)→H' b=some (.tup xs)):ObjOk P w H' h' a o:=by
 induction o with
 |lst xs=>obtain⟨z,its,n,r,e⟩:=x;exact⟨z,its,n,r,k _ _ (.inl rfl) e⟩
 |tup xs=>obtain⟨z,its,r,ob,e,c⟩:=x;exact⟨z,its,r,ob,k _ _ (.inl rfl) e,c⟩
 |dK kvs=>obtain⟨z,y,vs,r,ob,es,ep,e,c⟩:=x;exact⟨z,y,vs,r,ob,es,ep,k _ _ (.inl rfl) e,c⟩
 |dT kvs=>
  obtain⟨z,y,xs,r,ob,es,ep,e,c⟩:=x
  exact⟨z,y,xs,Paired.mapP r λp q z=>⟨z.1,ht _ _ z.2.1,z.2.2⟩,ob,es,ep,k _ _ (.inl rfl) e,c⟩
 |set S n=>obtain⟨ob,es,ep,t,e,c⟩:=x;exact⟨ob,es,ep,t,k _ _ (.inl rfl) e,c⟩
 |ins C dx fs=>
  obtain⟨d,z,ne,e,mA,⟨od,es,ep,e2,c⟩,r⟩:=x
  exact⟨ho _ d,z,ne,k _ _ (.inl rfl) e,mA,⟨od,es,ep,k _ _ (.inr d) e2,c⟩,r⟩
 |own y=>obtain⟨ob,e⟩:=x;exact⟨ob,k _ _ (.inl rfl) e⟩
 |xd fs=>obtain⟨mA,⟨od,es,ep,e,c⟩,r⟩:=x;exact⟨mA,⟨od,es,ep,k _ _ (.inl rfl) e,c⟩,r⟩
 |rng lo hi=>obtain⟨t,u,v,e⟩:=x;exact⟨t,u,v,k _ _ (.inl rfl) e⟩
 |frz ob u ih=>obtain⟨e,q⟩:=x;exact⟨k _ _ (.inl rfl) e,ih q⟩
 |tbl ps=>
  have e:h.get? a=some {cls:= .none,data:= .fields ps}:=x
  show h'.get? a=some {cls:= .none,data:= .fields ps}
  exact k a _ (.inl rfl) e
 |met f y=>
  have e:h.get? a=some (PySem.W.methodObj (.ref f) (.ref y)):=x
  show h'.get? a=some (PySem.W.methodObj (.ref f) (.ref y))
  exact k a _ (.inl rfl) e
 |ext φ=>obtain⟨p,⟨o,e⟩,st⟩:=x;exact⟨st _ _ p λo q=>k _ _ (.inl rfl) q,⟨o,k _ _ (.inl rfl) e⟩,st⟩
theorem HOk.lt (x:HOk P w H h) (e:H a=some o):a<h.objs.size:=(x a o e).lt
theorem HOk.fresh (x:HOk P w H h) (e:h.objs.size≤a):H a=none:=by
 cases q:H a with
 |none=>rfl
 |some u=>exact absurd (Qn (x.lt q) e) (Z5 _)
theorem HOk.kept (x:HOk P w H h) (k:∀b u,h.get? b=some u→h'.get? b=some u):HOk P w H h':=λa o e=>
 (x a o e).stay (λb u _ q=>k b u q) (λ_ q=>q) λ_ _ q=>q
theorem HOk.laid (x:HOk P w H h) (k:∀b u,h.get? b=some u→h'.get? b=some u) (hp:h.objs.size≤a) (new:ObjOk P w (upd H a o) h' a o):HOk P w (upd H a o) h':=λb u e=>by
 have hn:=x.fresh hp
 by_cases hb:b=a
 ·subst hb;rw[ag]at e;cases e;exact new
 ·rw[ac hb]at e
  exact(x b u e).stay (λc v _ q=>k c v q) (λc q=>by rw[ac (am q hn)];exact q) λc xs q=>by rw[ac (am q hn)];exact q
end
def Rd (H:Hp) (a:Addr) (u:HO):Prop:=H a=some u∨∃o,H a=some (.frz o u)
theorem Rd.ok {P:Program} {w:World} {H:Hp} {h:Heap} {a:Addr} {u:HO} (r:Rd H a u) (x:HOk P w H h):ObjOk P w H h a u:=by
 rcases r with r|⟨o,r⟩
 ·exact x a u r
 ·obtain⟨_,q⟩:=x a _ r
  exact q
def Mut:Option HO→Prop
 |some (.lst _)=>True
 |some (.dK _)=>True
 |some (.dT _)=>True
 |some (.set _ _)=>True
 |some (.ins _ _ _)=>True
 |some (.ext _)=>True
 |_=>False
section
variable {P:Program} {w:World} {H:Hp} {h h':Heap} {x e:Addr} {o':HO}
theorem HOk.write (ok:HOk P w H h) (mu:Mut (H x)) (he:e=x∨H e=some (.own x)) (k:∀b u,b≠e→h.get? b=some u→h'.get? b=some u) (heo:∃u,h'.get? e=some u)
  (new:ObjOk P w (upd H x o') h' x o'):HOk P w (upd H x o') h':=λb u q=>by
 have nown:∀c y,H c=some (.own y)→c≠x:=λc y r z=>by subst z;rw[r]at mu;exact mu
 have ntup:∀c xs,H c=some (.tup xs)→c≠x:=λc xs r z=>by subst z;rw[r]at mu;exact mu
 by_cases hb:b=x
 ·subst hb;rw[ag]at q;cases q;exact new
 ·rw[ac hb]at q
  by_cases hbe:b=e
  ·have q':H b=some (.own x):=by
    rcases he with z|z
    ·exact absurd (hbe.trans z) hb
    ·rw[hbe];exact z
   rw[q]at q';cases q'
   obtain⟨v,hv⟩:=heo
   exact⟨v,by rw[hbe];exact hv⟩
  ·refine(ok b u q).stay (λc v hc r=>k c v ?_ r) (λc r=>by rw[ac (nown c b r)];exact r) λc xs r=>by rw[ac (ntup c xs r)];exact r
   rcases hc with rfl|hc
   ·exact hbe
   ·rintro rfl
    rcases he with z|z
    ·exact nown c b hc z
    ·rw[hc]at z;cases z;exact hb rfl
end
structure Un (fs ex:List Addr) (H H':Hp) (h h':Heap):Prop where
 keep:∀b o,h.get? b=some o→H b=none→b∉fs→b∉ex→h'.get? b=some o
 slot:∀b o,h.get? b=some o→H b=none→b∈fs→b∉ex→∃sl,h'.get? b=some {o with slots:=sl}
 free:∀b o,h.get? b=some o→H b=none→b∉ex→H' b=none
 there:∀b o,h.get? b=some o→b∉ex→∃o',h'.get? b=some o'
 tups:∀b xs,H b=some (.tup xs)→H' b=some (.tup xs)
 frzs:∀b o u,H b=some (.frz o u)→H' b=some (.frz o u)
 tbls:∀b ps,H b=some (.tbl ps)→∃more,H' b=some (.tbl (ps++more))
section
variable {fs fs' ex ex':List Addr} {H H1 H2:Hp} {h h1 h2 h':Heap} {a x e:Addr} {o:HO}
theorem Un.any (u:Un fs ex H H1 h h1) {b:Addr} {ob:Obj} (q:h.get? b=some ob) (n:H b=none) (hx:b∉ex):∃sl,h1.get? b=some {ob with slots:=sl}:=by
 by_cases hb:b∈fs
 ·exact u.slot b ob q n hb hx
 ·exact⟨ob.slots,u.keep b ob q n hb hx⟩
theorem Un.kept (k:∀b u,h.get? b=some u→h'.get? b=some u):Un fs ex H H h h':=
 ⟨λb ob q _ _ _=>k b ob q,λb ob q _ _ _=>⟨ob.slots,k b ob q⟩,λ_ _ _ n _=>n,λb ob q _=>⟨ob,k b ob q⟩,λ_ _ q=>q,λ_ _ _ q=>q,λ_ ps q=>⟨#[],by rw[q];simp⟩⟩
theorem Un.refl:Un fs ex H H h h:=Un.kept λ_ _ q=>q
theorem Un.laid (k:∀b u,h.get? b=some u→h'.get? b=some u) (hp:h.objs.size≤a) (hn:H a=none):Un fs ex H (upd H a o) h h' where
 keep:=λb u q _ _ _=>k b u q
 slot:=λb u q _ _ _=>⟨u.slots,k b u q⟩
 free:=λb u q n _=>by rw[ac (Qz (Qn (Heap.lt_size q) hp))];exact n
 there:=λb u q _=>⟨u,k b u q⟩
 tups:=λb xs q=>by rw[ac (am q hn)];exact q
 frzs:=λb u xs q=>by rw[ac (am q hn)];exact q
 tbls:=λb ps q=>⟨#[],by rw[ac (am q hn),q];simp⟩
theorem Un.write (mu:Mut (H x)) (he:e=x∨H e=some (.own x)) (k:∀b u,b≠e→h.get? b=some u→h'.get? b=some u) (heo:∃u,h'.get? e=some u):Un fs ex H (upd H x o) h h':=by
 have hx:∀b,H b=none→b≠x:=λb n z=>by subst z;rw[n]at mu;exact mu
 have hb:∀b,H b=none→b≠e:=λb n z=>by
  subst z
  rcases he with r|r
  ·exact hx b n r
  ·rw[n]at r;cases r
 have hm:∀b u,H b=some u→¬Mut (some u)→b≠x:=λb u q nm z=>by subst z;rw[q]at mu;exact nm mu
 refine⟨λb u q n _ _=>k b u (hb b n) q,λb u q n _ _=>⟨u.slots,k b u (hb b n) q⟩,λb u q n _=>by rw[ac (hx b n)];exact n,λb u q _=>?_,
  λb xs q=>by rw[ac (hm b _ q λz=>z)];exact q,λb u xs q=>by rw[ac (hm b _ q λz=>z)];exact q,λb ps q=>⟨#[],by rw[ac (hm b _ q λz=>z),q];simp⟩⟩
 by_cases hbe:b=e
 ·subst hbe;exact heo
 ·exact⟨u,k b u hbe q⟩
end
def trk (h:Heap) (H:Hp):List Addr:=(List.range h.objs.size).filter λa=>(H a).isSome
def si (h:Heap) (H:Hp):Heap:=PySem.W.hideAll h (trk h H)
theorem xa (h:Heap) (H:Hp):(si h H).objs.size=h.objs.size:=PySem.W.hideAll_size _ _
theorem yM {h:Heap} {H:Hp} {b:Addr} {o:Obj} (e:h.get? b=some o) (n:H b=none):(si h H).get? b=some o:=
 PySem.W.hideAll_get _ e λhm=>by
  have q:(H b).isSome=true:=(ZS.mp hm).2
  rw[n]at q;simp at q
theorem Ap {h:Heap} {H:Hp} {b:Addr} {o:Obj} (e:(si h H).get? b=some o):h.get? b=some o∧H b=none:=by
 have e':h.get? b=some o:=PySem.W.of_hideAll (trk h H) e
 refine⟨e',?_⟩
 cases q:H b with
 |none=>rfl
 |some x=>
  have hm:b∈trk h H:=ZS.mpr ⟨List.mem_range.mpr (Heap.lt_size e'),by simp[q]⟩
  have z:(si h H).get? b=none:=PySem.W.hideAll_none (trk h H) hm
  rw[z]at e;cases e
end L2
namespace L2
open PySem PySem.Spec PyProof.Rows
structure Mod (K:PySem.W.Frag) (mg:Str→Option Value) (base:Heap):Prop where
 kin:K.In base
 glob:base.Ns mainGlobals mg
 blt:∃mb,base.Ns builtinsNs mb∧∀x:Str,x≠"__name__"→mb x=bootBuiltins x
 nolimit:base.NoLimit
/-- the context: a def's body (or a comprehension's block) running. base: fixed through the whole law; s₀, H₀: the entry; outer: the frames whose slots others may change (a def's callers); stack: all frames that run;
  ex:iterators that were made ahead of the entry and are walked here (a comprehension's);fn:the names whose cells were made at the entry (a def:all;a comprehension's block:its own);calm:not within an except suite;pn:pins that every state bears;xe:what is wanted of an exception that leaves the code-/
structure Cx where
 prog:Program
 w:World
 K:PySem.W.Frag
 mg:Str→Option Value
 base:Heap
 A:Around
 N:List Str
 s₀:Shared
 H₀:Hp
 env:Env
 outer:List Env
 stack:List Env
 ex:List Addr
 fn:Str→Bool
 calm:Bool
 pn:List (Addr×Obj)
 xe:Value→Shared→Prop
def frs (l:List Env):List Addr:=l.filterMap (·.frame)
abbrev Cx.fs (X:Cx):List Addr:=frs X.outer
def Vis (sc:Scope) (x:Str):Prop:=sc.names.lookup x=some .local∨sc.names.lookup x=some .cell∨sc.names.lookup x=some .free
def Loc (sc:Scope) (x:Str):Prop:=sc.names.lookup x=some .local∨sc.names.lookup x=some .cell
def Look (env:Env) (h:Heap) (m:Str→Option Value) (x:Str) (u:Value):Prop:=
 (env.kindOf x=some .local∧m x=some u)∨((env.kindOf x=some .cell∨env.kindOf x=some .free)∧∃c,env.cells.lookup x=some c∧h.IsCell c (some u))
structure Cx.Ok (X:Cx):Prop where
 mod:Mod X.K X.mg X.base
 kind:X.env.scope.kind= .function
 glob:X.env.globals=mainGlobals
 blt:X.env.builtins=builtinsNs
 above:X.s₀.heap.objs.size≤X.env.locals
 inj:∀x y c,X.env.cells.lookup x=some c→X.env.cells.lookup y=some c→x=y
 has:∀x,(X.env.kindOf x=some .cell∨X.env.kindOf x=some .free)→∃c,X.env.cells.lookup x=some c
 cab:∀x c,X.fn x=true→X.env.cells.lookup x=some c→X.s₀.heap.objs.size≤c
 hd:X.calm=true→X.A.handled=none
 frames:X.A.frames=some X.stack
 stk:X.stack=X.outer∨(X.stack=X.env::X.outer∧X.env.frame=some X.env.locals)
 exf:∀b∈X.ex,b≠X.env.locals∧∀x c,X.env.cells.lookup x=some c→c≠b
 bs:∀b o,X.base.get? b=some o→X.s₀.heap.get? b=some o∧X.H₀ b=none
 bsz:X.base.objs.size≤X.s₀.heap.objs.size
 noex:∀b o,X.base.get? b=some o→b∉X.ex
 exfs:∀b∈X.ex,b∉X.fs
 funs:X.s₀.heap.FunFrames X.base X.outer
 frf:∀b∈X.fs,X.H₀ b=none
structure Inv (X:Cx) (pins:List (Addr×Obj)) (σ:List (Option V)) (H:Hp) (s:Shared):Prop where
 ok:X.Ok
 os:s.os=X.s₀.os
 bare:AllBare s.gens
 base:Un X.fs X.ex X.H₀ H X.s₀.heap s.heap
 loc:∃m,s.heap.Ns X.env.locals m∧∀(i:Nat) (x:Str) (v:V),X.N[i]?=some x→σ[i]?=some (some v)→Vis X.env.scope x→∃u,RelV v u∧Look X.env s.heap m x u
 cell:∀x c,X.env.cells.lookup x=some c→∃v,s.heap.IsCell c v
 free:H X.env.locals=none
 freeC:∀x c,X.env.cells.lookup x=some c→H c=none
 pin:∀p∈X.pn++pins,s.heap.get? p.1=some p.2∧H p.1=none∧p.1≠X.env.locals∧p.1∉X.fs∧∀v,p.2.data≠ .cell v
 hok:HOk X.prog X.w H s.heap
 len:σ.length=X.N.length
section
variable {X:Cx} {pins:List (Addr×Obj)} {σ:List (Option V)} {H H':Hp} {s:Shared} {h':Heap}
theorem Cx.Ok.nofr (ok:X.Ok) {b:Addr} {o:Obj} (e:X.base.get? b=some o):b∉X.fs:=λhb=>by
 have:=(ok.funs.mem hb).1
 rw[e]at this;cases this
theorem Inv.bs (I:Inv X pins σ H s):∀b o,X.base.get? b=some o→s.heap.get? b=some o∧H b=none:=λb o e=>
 ⟨I.base.keep b o (I.ok.bs b o e).1 (I.ok.bs b o e).2 (I.ok.nofr e) (I.ok.noex b o e),I.base.free b o (I.ok.bs b o e).1 (I.ok.bs b o e).2 (I.ok.noex b o e)⟩
theorem Inv.bk (I:Inv X pins σ H s):∀b o,X.base.get? b=some o→s.heap.get? b=some o:=λb o e=>(I.bs b o e).1
theorem Inv.mod (I:Inv X pins σ H s):Mod X.K X.mg X.base:=I.ok.mod
theorem Inv.kIn (I:Inv X pins σ H s):X.K.In s.heap:=I.ok.mod.kin.keeps I.bk
theorem Inv.lt (I:Inv X pins σ H s):X.env.locals<s.heap.objs.size:=let⟨_,hn,_⟩:=I.loc;hn.lt
theorem Inv.sz (I:Inv X pins σ H s):X.s₀.heap.objs.size≤s.heap.objs.size:=QF I.ok.above (ZP I.lt)
theorem Inv.nofs (I:Inv X pins σ H s) {a:Addr} (h:s.heap.objs.size≤a):a∉X.fs:=λhb=>by
 obtain⟨_,o,ho,_⟩:=I.ok.funs.mem hb
 exact absurd (Qn (Heap.lt_size ho) (QF I.sz h)) (Z5 _)
theorem Inv.cne (I:Inv X pins σ H s):∀x c,X.env.cells.lookup x=some c→c≠X.env.locals:=λx c e z=>by
 obtain⟨v,o,ho,hd⟩:=I.cell x c e
 obtain⟨m,⟨o',es,ep,ho',hd',_⟩,_⟩:=I.loc
 rw[z,ho']at ho;cases ho;rw[hd']at hd;cases hd
theorem Inv.funs (I:Inv X pins σ H s):s.heap.FunFrames X.base X.outer:=by
 have all:∀(l:List Env),(∀b∈frs l,b∈X.fs)→X.s₀.heap.FunFrames X.base l→s.heap.FunFrames X.base l:=by
  intro l
  induction l with
  |nil=>intro _ _;trivial
  |cons env r ih=>
   intro hs hl
   obtain⟨hk,⟨L,o,hf,hn,ho,hd⟩,hr⟩:=hl
   have hL:L∈X.fs:=hs L (by unfold frs;rw[X3,hf];exact Qi)
   obtain⟨sl,e⟩:=I.base.slot L o ho (I.ok.frf L hL) hL λz=>I.ok.exfs L z hL
   exact⟨hk,⟨L,_,hf,hn,e,hd⟩,ih (λb hb=>hs b (by unfold frs;rw[X3,hf];exact Qf _ hb)) hr⟩
 exact all X.outer (λ_ hb=>hb) I.ok.funs
theorem Inv.stack (I:Inv X pins σ H s):s.heap.FunFrames X.base X.stack:=by
 rcases I.ok.stk with e|⟨e,hf⟩
 ·rw[e];exact I.funs
 ·rw[e]
  obtain⟨m,hn,_⟩:=I.loc
  refine .cons (by rw[I.ok.kind];decide) hf hn ?_ I.funs
  exact Heap.get?_none_of_le (QF I.ok.bsz I.ok.above)
theorem Inv.stkSub (I:Inv X pins σ H s):∀b∈frs X.stack,b∈X.env.locals::X.fs:=λb hb=>by
 rcases I.ok.stk with e|⟨e,hf⟩
 ·rw[e]at hb;exact Qf _ hb
 ·rw[e]at hb
  unfold frs at hb
  rw[X3,hf]at hb
  exact hb
theorem Inv.stkFree (I:Inv X pins σ H s):∀b∈frs X.stack,H b=none:=λb hb=>by
 rcases Qh.mp (I.stkSub b hb)with e|hb
 ·rw[e];exact I.free
 ·obtain⟨_,o,ho,_⟩:=I.ok.funs.mem hb
  exact I.base.free b o ho (I.ok.frf b hb) λz=>I.ok.exfs b z hb
theorem Inv.step {g':Array GenState} {t':Nat} {d':Drawn} {ch:List Addr} (I:Inv X pins σ H s)
  (hch:∀b∈ch,(b∈X.ex∨X.s₀.heap.objs.size≤b)∧b≠X.env.locals∧(∀x c,X.env.cells.lookup x=some c→c≠b)∧∀p∈X.pn++pins,p.1≠b)
  (keep:∀b o,b≠X.env.locals→b∉X.fs→b∉ch→s.heap.get? b=some o→H b=none→h'.get? b=some o)
  (slot:∀b o,b≠X.env.locals→b∈X.fs→b∉ch→s.heap.get? b=some o→H b=none→∃sl,h'.get? b=some {o with slots:=sl}) (free:∀b o,b∉ch→s.heap.get? b=some o→H b=none→H' b=none)
  (there:∀b o,b∉ch→s.heap.get? b=some o→∃o',h'.get? b=some o')
  (tups:∀b xs,H b=some (.tup xs)→H' b=some (.tup xs)) (frzs:∀b o u,H b=some (.frz o u)→H' b=some (.frz o u)) (tbls:∀b ps,H b=some (.tbl ps)→∃more,H' b=some (.tbl (ps++more)))
  (ns:∀m,s.heap.Ns X.env.locals m→h'.Ns X.env.locals m) (hok:HOk X.prog X.w H' h') (hg:AllBare g'):
  Inv X pins σ H' {s with heap:=h',gens:=g',drawn:=d',toks:=t'}:=by
 have neL:∀b o,X.s₀.heap.get? b=some o→b≠X.env.locals:=λb o e=>Qz (Qn (Heap.lt_size e) I.ok.above)
 have neC:∀b o,X.s₀.heap.get? b=some o→b∉X.ex→b∉ch:=λb o e hx hb=>by
  rcases(hch b hb).1 with z|z
  ·exact hx z
  ·exact absurd (Qn (Heap.lt_size e) z) (Z5 _)
 have cellK:∀x c,X.env.cells.lookup x=some c→∀v,s.heap.IsCell c v→h'.IsCell c v:=λx c e v ⟨o,ho,hd⟩=>by
  have nch:c∉ch:=λz=>(hch c z).2.2.1 x c e rfl
  by_cases hc:c∈X.fs
  ·obtain⟨sl,q⟩:=slot c o (I.cne x c e) hc nch ho (I.freeC x c e)
   exact⟨_,q,hd⟩
  ·exact⟨o,keep c o (I.cne x c e) hc nch ho (I.freeC x c e),hd⟩
 refine⟨I.ok,I.os,hg,⟨λb o e n hb hx=>?_,λb o e n hb hx=>?_,λb o e n hx=>?_,λb o e hx=>?_,λb xs e=>tups b xs (I.base.tups b xs e),λb o xs e=>frzs b o xs (I.base.frzs b o xs e),λb ps e=>?_⟩,?_,λx c e=>?_,?_,λx c e=>?_,λp hp=>?_,hok,I.len⟩
 ·exact keep b o (neL b o e) hb (neC b o e hx) (I.base.keep b o e n hb hx) (I.base.free b o e n hx)
 ·obtain⟨sl,e1⟩:=I.base.slot b o e n hb hx
  obtain⟨sl',e2⟩:=slot b _ (neL b o e) hb (neC b o e hx) e1 (I.base.free b o e n hx)
  exact⟨sl',e2⟩
 ·obtain⟨o',e1⟩:=I.base.there b o e hx
  exact free b o' (neC b o e hx) e1 (I.base.free b o e n hx)
 ·obtain⟨o',e1⟩:=I.base.there b o e hx
  exact there b o' (neC b o e hx) e1
 ·obtain⟨m1,e1⟩:=I.base.tbls b ps e
  obtain⟨m2,e2⟩:=tbls b _ e1
  exact⟨m1++m2,by rw[e2,Array.append_assoc]⟩
 ·obtain⟨m,hn,hl⟩:=I.loc
  refine⟨m,ns m hn,λi x v e1 e2 e3=>?_⟩
  obtain⟨u,r,l⟩:=hl i x v e1 e2 e3
  refine⟨u,r,?_⟩
  rcases l with l|⟨k,c,e,z⟩
  ·exact .inl l
  ·exact .inr ⟨k,c,e,cellK x c e _ z⟩
 ·obtain⟨v,z⟩:=I.cell x c e
  exact⟨v,cellK x c e v z⟩
 ·obtain⟨m,⟨o,_,_,ho,_⟩,_⟩:=I.loc
  exact free _ o (λz=>(hch _ z).2.1 rfl) ho I.free
 ·obtain⟨v,o,ho,hd⟩:=I.cell x c e
  exact free c o (λz=>(hch c z).2.2.1 x c e rfl) ho (I.freeC x c e)
 ·obtain⟨e,n,ne,nf,d⟩:=I.pin p hp
  have nch:p.1∉ch:=λz=>(hch p.1 z).2.2.2 p hp rfl
  exact⟨keep p.1 p.2 ne nf nch e n,free p.1 p.2 nch e n,ne,nf,d⟩
theorem Inv.un {t':Nat} (I:Inv X pins σ H s) (u:Un X.fs [] H H' s.heap h') (hok:HOk X.prog X.w H' h'):Inv X pins σ H' {s with heap:=h',toks:=t'}:=by
 obtain⟨m,⟨o,es,ep,ho,r⟩,_⟩:=id I.loc
 obtain⟨sl,hL⟩:=u.any ho I.free (by simp)
 exact I.step (g':=s.gens) (d':=s.drawn) (ch:=[]) (λ_ z=>nomatch z) (λb o _ hb _ e n=>u.keep b o e n hb (by simp)) (λb o _ hb _ e n=>u.slot b o e n hb (by simp)) (λb o _ e n=>u.free b o e n (by simp)) (λb o _ e=>u.there b o e (by simp)) u.tups u.frzs u.tbls (λm' hm=>by
  obtain⟨o',es',ep',ho',r'⟩:=hm
  rw[ho]at ho';cases ho'
  exact⟨_,es',ep',hL,r'⟩) hok I.bare
theorem Inv.call {g':Array GenState} {t':Nat} {d':Drawn} {ch:List Addr} (I:Inv X pins σ H s) (u:Un (frs X.stack) ch H H' s.heap h') (hok:HOk X.prog X.w H' h') (hg:AllBare g')
  (hch:∀b∈ch,(b∈X.ex∨X.s₀.heap.objs.size≤b)∧b≠X.env.locals∧(∀x c,X.env.cells.lookup x=some c→c≠b)∧∀p∈X.pn++pins,p.1≠b):
  Inv X pins σ H' {s with heap:=h',gens:=g',drawn:=d',toks:=t'}:=by
 obtain⟨m,⟨o,es,ep,ho,r⟩,_⟩:=id I.loc
 obtain⟨sl,hL⟩:=u.any ho I.free λz=>(hch _ z).2.1 rfl
 exact I.step (ch:=ch) hch (λb o hL hb hc e n=>u.keep b o e n (λz=>(Qh.mp (I.stkSub b z)).elim hL hb) hc) (λb o _ _ hc e n=>u.any e n hc) (λb o hc e n=>u.free b o e n hc) (λb o hc e=>u.there b o e hc) u.tups u.frzs u.tbls (λm' hm=>by
  obtain⟨o',es',ep',ho',r'⟩:=hm
  rw[ho]at ho';cases ho'
  exact⟨_,es',ep',hL,r'⟩) hok hg
theorem Inv.turned {t':Nat} {it:Addr} (I:Inv X pins σ H s) (k:∀b o,b≠it→s.heap.get? b=some o→h'.get? b=some o) (hn:H it=none) (hL:it≠X.env.locals)
  (h1:it∈X.ex∨X.s₀.heap.objs.size≤it) (h2:∀x c,X.env.cells.lookup x=some c→c≠it) (h3:∀p∈X.pn++pins,p.1≠it):Inv X pins σ H {s with heap:=h',toks:=t'}:=by
 have nit:∀b u,H b=some u→b≠it:=λb u e z=>by rw[z,hn]at e;cases e
 refine I.step (g':=s.gens) (d':=s.drawn) (ch:=[it]) (λb hb=>?_) (λb o _ _ hc e _=>k b o (λz=>hc (by simp[z])) e) (λb o _ _ hc e _=>⟨o.slots,k b o (λz=>hc (by simp[z])) e⟩) (λ_ _ _ _ n=>n)
  (λb o hc e=>⟨o,k b o (λz=>hc (by simp[z])) e⟩) (λ_ _ e=>e) (λ_ _ _ e=>e) (λb ps e=>⟨#[],by rw[e];simp⟩) (λm hm=>?_) (λb u e=>?_) I.bare
 ·have e:b=it:=by simpa using hb
  subst e
  exact⟨h1,hL,h2,h3⟩
 ·obtain⟨o,es,ep,ho,r⟩:=hm
  exact⟨o,es,ep,k _ o (Ne.symm hL) ho,r⟩
 ·refine(I.hok b u e).stay (λc v hc q=>k c v ?_ q) (λ_ q=>q) λ_ _ q=>q
  rcases hc with z|z
  ·rw[z];exact nit b u e
  ·exact nit c _ z
theorem Inv.tok (I:Inv X pins σ H s) (t:Nat):Inv X pins σ H {s with toks:=t}:=I.un (h':=s.heap) (t':=t) Un.refl I.hok
theorem Inv.kept {t':Nat} (I:Inv X pins σ H s) (k:∀b u,s.heap.get? b=some u→h'.get? b=some u):Inv X pins σ H {s with heap:=h',toks:=t'}:=I.un (Un.kept k) (I.hok.kept k)
theorem Inv.laid {a:Addr} {o:HO} {t':Nat} (I:Inv X pins σ H s) (k:∀b u,s.heap.get? b=some u→h'.get? b=some u) (hp:s.heap.objs.size≤a) (new:ObjOk X.prog X.w (upd H a o) h' a o):
  Inv X pins σ (upd H a o) {s with heap:=h',toks:=t'}:=I.un (Un.laid k hp (I.hok.fresh hp)) (I.hok.laid k hp new)
theorem Inv.write {x e:Addr} {o:HO} {t':Nat} (I:Inv X pins σ H s) (mu:Mut (H x)) (he:e=x∨H e=some (.own x)) (k:∀b u,b≠e→s.heap.get? b=some u→h'.get? b=some u) (heo:∃u,h'.get? e=some u)
  (new:ObjOk X.prog X.w (upd H x o) h' x o):Inv X pins σ (upd H x o) {s with heap:=h',toks:=t'}:=I.un (Un.write mu he k heo) (I.hok.write mu he k heo new)
theorem Inv.pins_of {pins':List (Addr×Obj)} (I:Inv X pins σ H s) (h:∀p∈pins',s.heap.get? p.1=some p.2∧H p.1=none∧p.1≠X.env.locals∧p.1∉X.fs∧∀v,p.2.data≠ .cell v):Inv X pins' σ H s:=
 ⟨I.ok,I.os,I.bare,I.base,I.loc,I.cell,I.free,I.freeC,λp hp=>(Q4.mp hp).elim (λz=>I.pin p (QR _ z)) (h p),I.hok,I.len⟩
theorem pF {N:List Str} (hN:N.Nodup) {i j:Nat} {x:Str} (a:N[i]?=some x) (b:N[j]?=some x):i=j:=by
 obtain⟨h1,e1⟩:=Q2.mp a
 obtain⟨h2,e2⟩:=Q2.mp b
 exact(List.getElem_inj hN).mp (e1.trans e2.symm)
theorem wu {M:Model} {A:Around} {E:Value→Shared→Prop} {i:Nat} {x:Str} {v:V} {u:Value} {Q:Unit→Shared→Prop} (I:Inv X pins σ H s) (hN:X.N.Nodup) (hi:X.N[i]?=some x) (hx:Loc X.env.scope x) (r:RelV v u)
  (h:∀s',Inv X pins (σ.set i (some v)) H s'→(∃a,Heap.SameBut a s.heap s'.heap∧(a=X.env.locals∨X.env.cells.lookup x=some a))→Q () s') (hf:X.fn x=true∨X.env.scope.names.lookup x=some .local:=by first|exact .inl rfl|exact .inr rfl|assumption):wpAny M A (storeName X.env x u) Q E s:=by
 obtain⟨m,hn,hl⟩:=id I.loc
 have hcls:(X.env.scope.kind== .class||(X.env.scope.kind== .module&&X.env.locals !=X.env.globals))=false:=by rw[I.ok.kind];rfl
 have hiσ:i<σ.length:=by rw[I.len];exact(Q2.mp hi).1
 have cne:=I.cne
 have tracked:∀{a:Addr} {h':Heap},(∃o,s.heap.get? a=some o∧H a=none)→Heap.SameBut a s.heap h'→HOk X.prog X.w H h':=λ{a h'} ha hs b ob e=>by
  obtain⟨_,_,hfree⟩:=ha
  refine(I.hok b ob e).stay (λc w' hc q=>(hs.2 c ?_).trans q) (λ_ q=>q) λ_ _ q=>q
  rintro rfl
  rcases hc with rfl|hc
  ·rw[hfree]at e;cases e
  ·rw[hfree]at hc;cases hc
 rcases hx with hk|hk
 ·refine wpAny_storeName_local hk hn (λh' hn' hs=>?_) hcls
  obtain⟨oL,_,_,hoL,_⟩:=id hn
  refine h _ ⟨I.ok,I.os,I.bare,⟨λb o e n hb hx=>?_,λb o e n hb hx=>?_,I.base.free,λb o e hx=>?_,I.base.tups,I.base.frzs,I.base.tbls⟩,⟨_,hn',λj y v' e1 e2 e3=>?_⟩,λy c e=>?_,I.free,I.freeC,λp hp=>?_,tracked ⟨oL,hoL,I.free⟩ hs,by simpa using I.len⟩ ⟨_,hs,.inl rfl⟩
  ·exact(hs.2 b (Qz (Qn (Heap.lt_size e) I.ok.above))).trans (I.base.keep b o e n hb hx)
  ·obtain⟨sl,e1⟩:=I.base.slot b o e n hb hx
   exact⟨sl,(hs.2 b (Qz (Qn (Heap.lt_size e) I.ok.above))).trans e1⟩
  ·obtain⟨o',e1⟩:=I.base.there b o e hx
   exact⟨o',(hs.2 b (Qz (Qn (Heap.lt_size e) I.ok.above))).trans e1⟩
  ·by_cases hj:j=i
   ·subst hj
    rw[hi]at e1;cases e1
    rw[Zq hiσ]at e2
    cases e2
    exact⟨u,r,.inl ⟨hk,by simp⟩⟩
   ·rw[ZZ (Ne.symm hj)]at e2
    obtain⟨u',r',q⟩:=hl j y v' e1 e2 e3
    refine⟨u',r',?_⟩
    rcases q with⟨k,e⟩|⟨k,c,e,z⟩
    ·refine .inl ⟨k,?_⟩
     have:y≠x:=λe=>hj (pF hN e1 (e▸hi))
     simp[this,e]
    ·exact .inr ⟨k,c,e,z.sameBut hs (cne y c e)⟩
  ·obtain⟨w',z⟩:=I.cell y c e
   exact⟨w',z.sameBut hs (cne y c e)⟩
  ·obtain⟨e,n,ne,nf,d⟩:=I.pin p hp
   exact⟨(hs.2 p.1 ne).trans e,n,ne,nf,d⟩
 ·have hfn:X.fn x=true:=by
   rcases hf with z|z
   ·exact z
   ·rw[z]at hk;cases hk
  obtain⟨c,hc⟩:=I.ok.has x (.inl hk)
  obtain⟨w',z⟩:=I.cell x c hc
  refine wpAny_storeName_cell I.ok.kind hk hc z (λh' hc' hs=>?_)
  obtain⟨oc,hoc,hocd⟩:=id z
  refine h {s with heap:=h'} ⟨I.ok,I.os,I.bare,⟨λb o e n hb hx=>?_,λb o e n hb hx=>?_,I.base.free,λb o e hx=>?_,I.base.tups,I.base.frzs,I.base.tbls⟩,⟨m,hn.sameBut hs (Ne.symm (cne x c hc)),λj y v' e1 e2 e3=>?_⟩,λy c' e=>?_,I.free,I.freeC,λp hp=>?_,tracked ⟨oc,hoc,I.freeC x c hc⟩ hs,by simpa using I.len⟩ ⟨c,hs,.inr hc⟩
  ·exact(hs.2 b (Qz (Qn (Heap.lt_size e) (I.ok.cab x c hfn hc)))).trans (I.base.keep b o e n hb hx)
  ·obtain⟨sl,e1⟩:=I.base.slot b o e n hb hx
   exact⟨sl,(hs.2 b (Qz (Qn (Heap.lt_size e) (I.ok.cab x c hfn hc)))).trans e1⟩
  ·obtain⟨o',e1⟩:=I.base.there b o e hx
   exact⟨o',(hs.2 b (Qz (Qn (Heap.lt_size e) (I.ok.cab x c hfn hc)))).trans e1⟩
  ·by_cases hj:j=i
   ·subst hj
    rw[hi]at e1;cases e1
    rw[Zq hiσ]at e2
    cases e2
    exact⟨u,r,.inr ⟨.inl hk,c,hc,hc'⟩⟩
   ·rw[ZZ (Ne.symm hj)]at e2
    obtain⟨u',r',q⟩:=hl j y v' e1 e2 e3
    refine⟨u',r',?_⟩
    rcases q with q|⟨k,c',e,z'⟩
    ·exact .inl q
    ·refine .inr ⟨k,c',e,z'.sameBut hs ?_⟩
     rintro rfl
     exact hj (pF hN e1 (I.ok.inj _ _ _ e hc▸hi))
  ·by_cases hcc:c'=c
   ·subst hcc;exact⟨_,hc'⟩
   ·obtain⟨w2,z2⟩:=I.cell y c' e
    exact⟨w2,z2.sameBut hs hcc⟩
  ·obtain⟨e,n,ne,nf,d⟩:=I.pin p hp
   refine⟨(hs.2 p.1 ?_).trans e,n,ne,nf,d⟩
   intro q
   rw[q,hoc]at e
   have q':oc=p.2:=Option.some.inj e
   exact d w' (by rw[←q'];exact hocd)
theorem oF {M:Model} {A:Around} {E:Value→Shared→Prop} {i:Nat} {x:Str} {v:V} {u:Value} {Q:Unit→Shared→Prop} (I:Inv X pins σ H s) (hN:X.N.Nodup) (hi:X.N[i]?=some x) (hx:Loc X.env.scope x) (r:RelV v u)
  (h:∀s',Inv X pins (σ.set i (some v)) H s'→Q () s') (hf:X.fn x=true∨X.env.scope.names.lookup x=some .local:=by first|exact .inl rfl|exact .inr rfl|assumption):wpAny M A (storeName X.env x u) Q E s:=
 wu I hN hi hx r (λs' I' _=>h s' I') hf
theorem Inv.call' {s':Shared} {ch:List Addr} (I:Inv X pins σ H s) (ho:s'.os=s.os) (u:Un (frs X.stack) ch H H' s.heap s'.heap) (hok:HOk X.prog X.w H' s'.heap) (hg:AllBare s'.gens)
  (hch:∀b∈ch,(b∈X.ex∨X.s₀.heap.objs.size≤b)∧b≠X.env.locals∧(∀x c,X.env.cells.lookup x=some c→c≠b)∧∀p∈X.pn++pins,p.1≠b):Inv X pins σ H' s':=by
 obtain⟨h',g',d',t',o'⟩:=s'
 have e:o'=s.os:=ho
 subst e
 exact I.call (g':=g') (t':=t') (d':=d') u hok hg hch
end
abbrev XK:=Value→Option Addr→Hp→Prop
abbrev St:=List (Option V)
abbrev VK:=V→Hp→Prop
abbrev TE:=St→Hp→VK→Prop
abbrev TT:=St→Hp→(Bool→Hp→Prop)→Prop
abbrev TA:=St→Hp→(List V→Hp→Prop)→Prop
structure Ends where
 nx:St→Hp→Prop
 rt:VK
 bk:St→Hp→Prop:=λ_ _=>False
 ct:St→Hp→Prop:=λ_ _=>False
abbrev TS:=Ends→St→Hp→Prop
def EP (X:Cx) (pins:List (Addr×Obj)) (σ:St) (Q:VK) (u:Value) (s':Shared):Prop:=∃v H',Inv X pins σ H' s'∧RelV v u∧Q v H'
def TP (X:Cx) (pins:List (Addr×Obj)) (σ:St) (Q:Bool→Hp→Prop) (b:Bool) (s':Shared):Prop:=∃H',Inv X pins σ H' s'∧Q b H'
def AP (X:Cx) (pins:List (Addr×Obj)) (σ:St) (Q:List V→Hp→Prop) (us:List Value) (s':Shared):Prop:=∃vs H',Inv X pins σ H' s'∧Vals vs us∧Q vs H'
def SP (X:Cx) (pins:List (Addr×Obj)) (D:Ends) (f:Flow) (s':Shared):Prop:=
 match f with
 | .next=>∃σ' H',Inv X pins σ' H' s'∧D.nx σ' H'
 | .brk=>∃σ' H',Inv X pins σ' H' s'∧D.bk σ' H'
 | .cont=>∃σ' H',Inv X pins σ' H' s'∧D.ct σ' H'
 | .ret u=>∃v σ' H',Inv X pins σ' H' s'∧RelV v u∧D.rt v H'
def PE (X:Cx) (e:Expr) (t:TE):Prop:=
 ∀(pins:List (Addr×Obj)) (s:Shared) (σ:St) (H:Hp) (Q:VK),Inv X pins σ H s→t σ H Q→wpAny (model X.prog X.w) X.A (eval e X.env) (EP X pins σ Q) X.xe s
def PT (X:Cx) (e:Expr) (t:TT):Prop:=
 ∀(pins:List (Addr×Obj)) (s:Shared) (σ:St) (H:Hp) (Q:Bool→Hp→Prop),Inv X pins σ H s→t σ H Q→wpAny (model X.prog X.w) X.A (isTrue e X.env (eval e X.env)) (TP X pins σ Q) X.xe s
def PW (X:Cx) (e:Expr) (t:TT):Prop:=
 ∀(whole:Sem Value) (pins:List (Addr×Obj)) (s:Shared) (σ:St) (H:Hp) (Q:Bool→Hp→Prop),Inv X pins σ H s→t σ H Q→wpAny (model X.prog X.w) X.A (isTrue e X.env whole) (TP X pins σ Q) X.xe s
theorem PW.pt {X:Cx} {e:Expr} {t:TT} (h:PW X e t):PT X e t:=h _
def PA (X:Cx) (es:List Expr) (t:TA):Prop:=
 ∀(pos:Pos) (pins:List (Addr×Obj)) (s:Shared) (σ:St) (H:Hp) (Q:List V→Hp→Prop),Inv X pins σ H s→t σ H Q→wpAny (model X.prog X.w) X.A (spliced (backTo pos (starEach es X.env))) (AP X pins σ Q) X.xe s
def PS (X:Cx) (st:Stmt) (t:TS):Prop:=
 ∀(pins:List (Addr×Obj)) (s:Shared) (σ:St) (H:Hp) (D:Ends),Inv X pins σ H s→t D σ H→wpAny (model X.prog X.w) X.A (exec st X.env) (SP X pins D) X.xe s
def PSs (X:Cx) (st:List Stmt) (t:TS):Prop:=
 ∀(pins:List (Addr×Obj)) (s:Shared) (σ:St) (H:Hp) (D:Ends),Inv X pins σ H s→t D σ H→wpAny (model X.prog X.w) X.A (execs st X.env) (SP X pins D) X.xe s
theorem thn {α:Type} {t:Sem α} {Q Q':α→Shared→Prop} {M:Model} {A:Around} {E:Value→Shared→Prop} {s:Shared} (h:wpAny M A t Q E s) (hQ:∀a s,Q a s→Q' a s):wpAny M A t Q' E s:=wpAny_mono h hQ λ_ _ x=>x
end L2
namespace L2
open PySem PySem.Spec PyProof.Rows
section
variable {X:Cx}
def BD (i:Nat):TE:=λσ H Q=>∃v,σ[i]?=some (some v)∧Q v H
def tC (v:V):TE:=λ_ H Q=>Q v H
theorem BP {i:Nat} {x:Str} {pos:Pos} (hN:X.N[i]?=some x) (hv:Vis X.env.scope x) (hd:(x==("__debug__":Str))=false:=by decide) (hcd:(x==("__classdict__":Str))=false:=by decide):PE X (.Name x pos) (BD i):=by
 intro pins s σ H Q I h
 obtain⟨v,e,h⟩:=h
 obtain⟨m,hn,hl⟩:=I.loc
 obtain⟨u,r,l⟩:=hl i x v hN e hv
 have fin:EP X pins σ Q u s:=⟨v,H,I,r,h⟩
 rcases l with⟨hk,hm⟩|⟨hk,c,hc,hcell⟩
 ·exact wpAny_Name (wpAny_loadName_local I.ok.kind hk hn hm fin) hd
 ·rcases hk with hk|hk
  ·exact wpAny_Name (wpAny_loadName_cell I.ok.kind hk hc hcell fin) hd
  ·exact wpAny_Name (wpAny_loadName_free I.ok.kind hk hc hcell fin hcd) hd
theorem ae {i j pos}:PE X (.Constant (.int i) j pos) (tC (.int i)):=λ_ _ _ H _ I h=>wpAny_Constant_int ⟨.int i,H,I.tok _,⟨_,rfl⟩,h⟩
theorem qL {b j pos}:PE X (.Constant (.bool b) j pos) (tC (.bl b)):=λ_ _ _ H _ I h=>Constant_bool ⟨.bl b,H,I,rfl,h⟩
theorem bK {j pos}:PE X (.Constant .none j pos) (tC .non):=λ_ _ _ H _ I h=>Constant_none ⟨.non,H,I,rfl,h⟩
theorem gp {x j pos}:PE X (.Constant (.str x) j pos) (tC (.str x)):=λ_ _ _ H _ I h=>Calls.Constant_str ⟨.str x,H,I.tok _,⟨_,rfl⟩,h⟩
def Gl (X:Cx) (x:Str):Prop:=X.env.kindOf x=some .globalImplicit
theorem iz {E:Value→Shared→Prop} {pins:List (Addr×Obj)} {s:Shared} {σ:St} {H:Hp} {x:Str} {u:Value} {pos:Pos} {Q:Value→Shared→Prop} (I:Inv X pins σ H s) (hg:Gl X x) (hm:X.mg x=some u) (h:Q u s)
  (hd:(x==("__debug__":Str))=false:=by decide):wpAny (model X.prog X.w) X.A (eval (.Name x pos) X.env) Q E s:=
 Calls.Name_function_global I.ok.kind hg (Calls.loadGlobal_global (by rw[I.ok.glob];exact I.mod.glob.keeps I.bk) hm h) hd
theorem r9 {E:Value→Shared→Prop} {pins:List (Addr×Obj)} {s:Shared} {σ:St} {H:Hp} {x:Str} {u:Value} {pos:Pos} {Q:Value→Shared→Prop} (I:Inv X pins σ H s) (hg:Gl X x) (hm:X.mg x=none) (hv:bootBuiltins x=some u) (h:Q u s)
  (hn:x≠"__name__":=by decide) (hd:(x==("__debug__":Str))=false:=by decide):wpAny (model X.prog X.w) X.A (eval (.Name x pos) X.env) Q E s:=by
 obtain⟨mb,h1,h2⟩:=I.mod.blt
 exact Calls.Name_function_global I.ok.kind hg (Calls.loadGlobal_builtin (by rw[I.ok.glob];exact I.mod.glob.keeps I.bk) hm (by rw[I.ok.blt];exact h1.keeps I.bk) ((h2 x hn).trans hv) h) hd
theorem eG {x:Str} {v:V} {u:Value} {pos:Pos} (hg:Gl X x) (hm:X.mg x=some u) (r:RelV v u) (hd:(x==("__debug__":Str))=false:=by decide):PE X (.Name x pos) (tC v):=
 λ_ _ _ H _ I h=>iz I hg hm ⟨v,H,I,r,h⟩ hd
theorem vx {x:Str} {v:V} {u:Value} {pos:Pos} (hg:Gl X x) (hm:X.mg x=none) (hv:bootBuiltins x=some u) (r:RelV v u) (hn:x≠"__name__":=by decide) (hd:(x==("__debug__":Str))=false:=by decide):PE X (.Name x pos) (tC v):=
 λ_ _ _ H _ I h=>r9 I hg hm hv ⟨v,H,I,r,h⟩ hn hd
variable {a b:Expr} {ta tb:TE} {pos:Pos}
def PC (X:Cx) (op:CmpOp) (a b:Expr) (t:TE):Prop:=
 ∀(pins:List (Addr×Obj)) (s:Shared) (σ:St) (H:Hp) (Q:VK),Inv X pins σ H s→t σ H Q→
  wpAny (model X.prog X.w) X.A (eval a X.env) (λv s₁=>wpAny (model X.prog X.w) X.A (eval b X.env) (λu s₂=>wpAny (model X.prog X.w) X.A (compareOp op v u) (EP X pins σ Q) X.xe s₂) X.xe s₁) X.xe s
def tB (t:TE):TT:=λσ H Q=>t σ H λx H1=>∃c,x= .bl c∧Q c H1
theorem BQ {op:CmpOp} {t:TE} (h:PC X op a b t) (h1:behindInMarks op b=false:=by first|exact nobehind _ (by decide) (by decide)|rfl):PE X (.Compare a [op] [b] pos) t:=λpins s σ H Q I hw=>wpAny_Compare1 (h pins s σ H Q I hw) h1
theorem yb {op:CmpOp} {t:TE} (h:PC X op a b t) (h1:behindInMarks op b=false:=by first|exact nobehind _ (by decide) (by decide)|rfl):PT X (.Compare a [op] [b] pos) (tB t):=by
 intro pins s σ H Q I hw
 refine wpAny_isTrue_Compare1 (thn (h pins s σ H _ I hw) λv s1 h1=>thn h1 λu s2 h2=>thn h2 λc s3 hzz=>?_) h1
 obtain⟨x,H1,I1,r1,q1⟩:=hzz
 obtain⟨d,rfl,q⟩:=q1
 cases r1
 exact wpAny_truthy_bool ⟨H1,I1,q⟩
theorem dX {e:Expr} {t:TE} (h:PE X e t) (he:∀whole,isTrue e X.env whole=(do let v←whole;standAt e.pos;holding [v] (truthy v)):=by intro _;rfl):PT X e (tB t):=by
 intro pins s σ H Q I hw
 refine isTrue_plain (thn (h pins s σ H _ I hw) λv s1 hzz=>?_) (he _)
 obtain⟨x,H1,I1,r1,q1⟩:=hzz
 obtain⟨d,rfl,q⟩:=q1
 cases r1
 exact wpAny_truthy_bool ⟨H1,I1,q⟩
variable {tA tB':TT} {rest:List Expr}
def tAnd (t u:TT):TT:=λσ H Q=>t σ H λc H1=>if c=true then u σ H1 Q else Q false H1
def tOr (t u:TT):TT:=λσ H Q=>t σ H λc H1=>if c=true then Q true H1 else u σ H1 Q
def tNot (t:TT):TT:=λσ H Q=>t σ H λc H1=>Q (!c) H1
theorem fQ (ha:PT X a tA):PW X (.BoolOp .And [a] pos) tA:=by
 intro wh pins s σ H Q I h
 refine isTrue_and (thn (ha pins s σ H Q I h) λc s1 e=>?_)
 cases c with
 |true=>exact isTrue_and_nil e
 |false=>exact e
theorem i6 (ha:PT X a tA):PW X (.BoolOp .Or [a] pos) tA:=by
 intro wh pins s σ H Q I h
 refine isTrue_or (thn (ha pins s σ H Q I h) λc s1 e=>?_)
 cases c with
 |false=>exact isTrue_or_nil e
 |true=>exact e
theorem ik (ha:PT X a tA) (hb:PW X (.BoolOp .And (b::rest) pos) tB'):PW X (.BoolOp .And (a::b::rest) pos) (tAnd tA tB'):=by
 intro wh pins s σ H Q I h
 refine isTrue_and (thn (ha pins s σ H _ I h) λc s1 ⟨H1,I1,q1⟩=>?_)
 cases c with
 |true=>exact hb wh pins s1 σ H1 Q I1 q1
 |false=>exact⟨H1,I1,q1⟩
theorem i7 (ha:PT X a tA) (hb:PW X (.BoolOp .Or (b::rest) pos) tB'):PW X (.BoolOp .Or (a::b::rest) pos) (tOr tA tB'):=by
 intro wh pins s σ H Q I h
 refine isTrue_or (thn (ha pins s σ H _ I h) λc s1 ⟨H1,I1,q1⟩=>?_)
 cases c with
 |true=>exact⟨H1,I1,q1⟩
 |false=>exact hb wh pins s1 σ H1 Q I1 q1
theorem i9 (ha:PT X a tA):PT X (.UnaryOp .Not a pos) (tNot tA):=by
 intro pins s σ H Q I h
 exact isTrue_not (ha pins s σ H (λc H1=>Q (!c) H1) I h)
def C5 (ta tb:TE):TE:=λσ H Q=>ta σ H λx H1=>∃c,x= .bl c∧if c=true then tb σ H1 Q else Q (.bl false) H1
def tOrV (ta tb:TE):TE:=λσ H Q=>ta σ H λx H1=>∃c,x= .bl c∧if c=true then Q (.bl true) H1 else tb σ H1 Q
def CZ (ta:TE):TE:=λσ H Q=>ta σ H λx H1=>∃c,x= .bl c∧Q (.bl (!c)) H1
theorem gr {op} {t:TE} (h:PE X a t):PE X (.BoolOp op [a] pos) t:=λpins s σ H Q I hw=>BoolOp_one (h pins s σ H Q I hw)
theorem gs (ha:PE X a ta) (hb:PE X (.BoolOp .And (b::rest) pos) tb):PE X (.BoolOp .And (a::b::rest) pos) (C5 ta tb):=by
 intro pins s σ H Q I h
 refine BoolOp_and (thn (ha pins s σ H _ I h) λv s1 hzz=>?_)
 obtain⟨x,H1,I1,r1,q1⟩:=hzz
 obtain⟨c,rfl,q1⟩:=q1
 cases r1
 refine wpAny_truthy_bool ?_
 cases c with
 |true=>exact hb pins s1 σ H1 Q I1 q1
 |false=>exact⟨.bl false,H1,I1,rfl,q1⟩
theorem Bm (ha:PE X a ta) (hb:PE X (.BoolOp .Or (b::rest) pos) tb):PE X (.BoolOp .Or (a::b::rest) pos) (tOrV ta tb):=by
 intro pins s σ H Q I h
 refine BoolOp_or (thn (ha pins s σ H _ I h) λv s1 hzz=>?_)
 obtain⟨x,H1,I1,r1,q1⟩:=hzz
 obtain⟨c,rfl,q1⟩:=q1
 cases r1
 refine wpAny_truthy_bool ?_
 cases c with
 |false=>exact hb pins s1 σ H1 Q I1 q1
 |true=>exact⟨.bl true,H1,I1,rfl,q1⟩
theorem ye (ha:PE X a ta):PE X (.UnaryOp .Not a pos) (CZ ta):=by
 intro pins s σ H Q I h
 refine UnaryOp_ (thn (ha pins s σ H _ I h) λv s1 hzz=>?_)
 obtain⟨x,H1,I1,r1,q1⟩:=hzz
 obtain⟨c,rfl,q1⟩:=q1
 cases r1
 exact not_of (wpAny_truthy_bool ⟨.bl (!c),H1,I1,rfl,q1⟩)
def tIf (t:TT) (ta tb:TE):TE:=λσ H Q=>t σ H λc H1=>if c=true then ta σ H1 Q else tb σ H1 Q
theorem yf {c:Expr} (hc:PT X c tA) (ha:PE X a ta) (hb:PE X b tb):PE X (.IfExp c a b pos) (tIf tA ta tb):=by
 intro pins s σ H Q I h
 refine wpAny_IfExp (thn (hc pins s σ H _ I h) λd s1 ⟨H1,I1,q1⟩=>?_)
 cases d with
 |true=>exact ha pins s1 σ H1 Q I1 q1
 |false=>exact hb pins s1 σ H1 Q I1 q1
end
end L2
namespace L2
open PySem PySem.Spec PyProof.Rows
def SqL (K:PySem.W.Frag) (H:Hp) (a:Addr) (xs:List V):Prop:=
 Rd H a (.lst xs)∨
  ∃(o:Obj) (its:Array Value) (n:Nat),K.lookup a=some o∧o.cls= .type "list"∧o.dict=none∧o.data= .seq its n∧its.size≤sizeLine∧Vals xs its.toList
def SqT (K:PySem.W.Frag) (H:Hp) (a:Addr) (xs:List V):Prop:=
 Rd H a (.tup xs)∨
  ∃(o:Obj) (its:Array Value) (n:Nat),K.lookup a=some o∧o.cls= .type "tuple"∧o.data= .seq its n∧its.size≤sizeLine∧Vals xs its.toList
def absV:Value→Option V
 | .none=>some .non
 | .bool b=>some (.bl b)
 | .int i _=>some (.int i)
 | .str x _=>some (.str x)
 | .bytes b _=>some (.byt b)
 | .float b _=>some (.flt b)
 | .ref a=>some (.ref a)
 | .type n=>some (.ty n)
 |_=>none
theorem RelV.abs {x:V} {u:Value} (r:RelV x u):absV u=some x:=by
 cases x with
 |non=>cases r;rfl
 |bl _=>cases r;rfl
 |int _=>obtain⟨t,rfl⟩:=r;rfl
 |str _=>obtain⟨t,rfl⟩:=r;rfl
 |byt _=>obtain⟨t,rfl⟩:=r;rfl
 |flt _=>obtain⟨t,rfl⟩:=r;rfl
 |ref _=>cases r;rfl
 |ty _=>cases r;rfl
theorem RelV.inj {x y:V} {u:Value} (r:RelV x u) (q:RelV y u):x=y:=Option.some.inj (r.abs.symm.trans q.abs)
theorem Vals.inj:∀{xs ys:List V} {us:List Value},Vals xs us→Vals ys us→xs=ys
 |_,_,_,.nil,.nil=>rfl
 |_,_,_,.cons r t,.cons r' t'=>by rw[r.inj r',Vals.inj t t']
section
variable {X:Cx} {pins:List (Addr×Obj)} {σ:St} {H:Hp} {s:Shared} {a:Addr} {xs ys:List V}
theorem SqL.of {K:PySem.W.Frag} (h:H a=some (.lst xs)):SqL K H a xs:= .inl (.inl h)
theorem SqT.of {K:PySem.W.Frag} (h:H a=some (.tup xs)):SqT K H a xs:= .inl (.inl h)
theorem Inv.list (I:Inv X pins σ H s) (h:SqL X.K H a xs):∃its:List Value,Vals xs its∧PlainL s.heap a its.toArray∧xs.length≤sizeLine:=by
 rcases h with h|⟨o,its,n,hk,hc,hd,hs,hz,r⟩
 ·obtain⟨z,its,n,r,e⟩:=h.ok I.hok
  exact⟨its,r,⟨_,n,e,rfl,rfl,rfl⟩,z⟩
 ·refine⟨its.toList,r,⟨o,n,I.kIn a o hk,hc,hd,by simpa using hs⟩,?_⟩
  have e:=r.length
  simp only[Q6]at e
  omega
theorem Inv.tuple (I:Inv X pins σ H s) (h:SqT X.K H a xs):∃its:List Value,Vals xs its∧IsTup s.heap a its.toArray∧xs.length≤sizeLine:=by
 rcases h with h|⟨o,its,n,hk,hc,hs,hz,r⟩
 ·obtain⟨z,its,r,p⟩:=h.ok I.hok
  exact⟨its,r,p,z⟩
 ·refine⟨its.toList,r,⟨o,I.kIn a o hk,hc,n,by simpa using hs⟩,?_⟩
  have e:=r.length
  simp only[Q6]at e
  omega
theorem Inv.list_inj (I:Inv X pins σ H s) (h:SqL X.K H a xs) (h':SqL X.K H a ys):xs=ys:=by
 obtain⟨its,r,⟨o,n,e,_,_,d⟩,_⟩:=I.list h
 obtain⟨its',r',⟨o',n',e',_,_,d'⟩,_⟩:=I.list h'
 rw[e]at e';cases e'
 rw[d]at d'
 injection d' with d1 _
 have:its=its':=by simpa using congrArg Array.toList d1
 subst this
 exact r.inj r'
end
abbrev Cx.wish (X:Cx) (E:Value→Shared→Prop):Cx:={X with xe:=E}
abbrev Cx.nox (X:Cx):Cx:=X.wish λ_ _=>False
theorem Cx.Ok.wish {X:Cx} (ok:X.Ok) (E:Value→Shared→Prop):(X.wish E).Ok:=
 ⟨ok.mod,ok.kind,ok.glob,ok.blt,ok.above,ok.inj,ok.has,ok.cab,ok.hd,ok.frames,ok.stk,ok.exf,ok.bs,ok.bsz,ok.noex,ok.exfs,ok.funs,ok.frf⟩
theorem Cx.Ok.unwish {X:Cx} {E:Value→Shared→Prop} (ok:(X.wish E).Ok):X.Ok:=
 ⟨ok.mod,ok.kind,ok.glob,ok.blt,ok.above,ok.inj,ok.has,ok.cab,ok.hd,ok.frames,ok.stk,ok.exf,ok.bs,ok.bsz,ok.noex,ok.exfs,ok.funs,ok.frf⟩
section
variable {X:Cx} {pins:List (Addr×Obj)} {σ:St} {H:Hp} {s:Shared} {E:Value→Shared→Prop}
theorem Inv.wish (I:Inv X pins σ H s) (E:Value→Shared→Prop):Inv (X.wish E) pins σ H s:=⟨I.ok.wish E,I.os,I.bare,I.base,I.loc,I.cell,I.free,I.freeC,I.pin,I.hok,I.len⟩
theorem Inv.unwish (I:Inv (X.wish E) pins σ H s):Inv X pins σ H s:=⟨I.ok.unwish,I.os,I.bare,I.base,I.loc,I.cell,I.free,I.freeC,I.pin,I.hok,I.len⟩
theorem SP.unwish {D:Ends} {f:Flow} {s':Shared} (h:SP (X.wish E) pins D f s'):SP X pins D f s':=by
 cases f with
 |next=>obtain⟨σ',H',I,q⟩:=h;exact⟨σ',H',I.unwish,q⟩
 |brk=>obtain⟨σ',H',I,q⟩:=h;exact⟨σ',H',I.unwish,q⟩
 |cont=>obtain⟨σ',H',I,q⟩:=h;exact⟨σ',H',I.unwish,q⟩
 |ret u=>obtain⟨v,σ',H',I,r,q⟩:=h;exact⟨v,σ',H',I.unwish,r,q⟩
theorem PSs.nox {st:List Stmt} {t:TS} (h:PSs X.nox st t):PSs X st t:=λpins s σ H D I hw=>
 wpAny_mono (h pins s σ H D (I.wish _) hw) (λ_ _ q=>q.unwish) λ_ _ z=>False.elim z
end
section
variable {X:Cx} {st:Stmt} {rest:List Stmt} {t u:TS} {e:Expr} {te:TE} {pos:Pos}
def C2:TS:=λD σ H=>D.nx σ H
def BE (t u:TS):TS:=λD σ H=>t {D with nx:=u D} σ H
theorem aF:PSs X [] C2:=λ_ _ σ H _ I h=>wpAny_execs_nil ⟨σ,H,I,h⟩
theorem af (h1:PS X st t) (h2:PSs X rest u):PSs X (st::rest) (BE t u):=by
 intro pins s σ H D I h
 refine wpAny_execs_cons (thn (h1 pins s σ H {D with nx:=u D} I h) λf s1 q=>?_)
 cases f with
 |next=>
  obtain⟨σ',H',I',q⟩:=q
  exact h2 pins s1 σ' H' D I' q
 |ret v=>exact q
 |brk=>exact q
 |cont=>exact q
theorem ai (h1:PS X st t):PSs X [st] t:=by
 intro pins s σ H D I h
 refine wpAny_execs_cons (thn (h1 pins s σ H D I h) λf s1 q=>?_)
 cases f with
 |next=>exact wpAny_execs_nil q
 |ret v=>exact q
 |brk=>exact q
 |cont=>exact q
theorem Inv.quiet {pins:List (Addr×Obj)} {σ:St} {H:Hp} {s:Shared} (I:Inv X pins σ H s):interactive X.env=false:=by simp[interactive,I.ok.kind]
def C3 (te:TE):TS:=λD σ H=>te σ H λ_ H1=>D.nx σ H1
theorem aP (he:PE X e te) (hs:swapsWith e none pos.line X.env=pure false:=by rfl):PS X (.Expr e pos) (C3 te):=by
 intro pins s σ H D I h
 exact wpAny_Expr_any (thn (he pins s σ H _ I h) λv s1 ⟨x,H1,I1,r1,q1⟩=>⟨σ,H1,I1,q1⟩) I.quiet hs
def tRet (te:TE):TS:=λD σ H=>te σ H D.rt
theorem aG (he:PE X e te):PS X (.Return (some e) pos) (tRet te):=by
 intro pins s σ H D I h
 exact wpAny_Return_some (thn (he pins s σ H _ I h) λv s1 ⟨x,H1,I1,r1,q1⟩=>⟨x,σ,H1,I1,r1,q1⟩)
def CW:TS:=λD _ H=>D.rt .non H
theorem lM:PS X (.Return none pos) CW:=λ_ _ σ H _ I h=>wpAny_Return_none ⟨.non,σ,H,I,rfl,h⟩
def tIfS (c:TT) (t u:TS):TS:=λD σ H=>c σ H λb H1=>if b=true then t D σ H1 else u D σ H1
theorem aV {c:Expr} {a b:List Stmt} {tc:TT} (hc:PT X c tc) (ha:PSs X a t) (hb:PSs X b u):PS X (.If c a b pos) (tIfS tc t u):=by
 intro pins s σ H D I h
 refine wpAny_If (thn (hc pins s σ H _ I h) λd s1 ⟨H1,I1,q1⟩=>?_)
 cases d with
 |true=>exact ha pins s1 σ H1 D I1 q1
 |false=>exact hb pins s1 σ H1 D I1 q1
end
abbrev TG:=V→St→Hp→(St→Hp→Prop)→Prop
abbrev TGs:=List V→St→Hp→(St→Hp→Prop)→Prop
def PG (X:Cx) (target:Expr) (t:TG):Prop:=
 ∀(pins:List (Addr×Obj)) (s:Shared) (σ:St) (H:Hp) (v:V) (u:Value) (Q:St→Hp→Prop),Inv X pins σ H s→RelV v u→t v σ H Q→
  wpAny (model X.prog X.w) X.A (assign target X.env u) (λ_ s'=>∃σ' H',Inv X pins σ' H' s'∧Q σ' H') X.xe s
def PGs (X:Cx) (ts:List Expr) (t:TGs):Prop:=
 ∀(pins:List (Addr×Obj)) (s:Shared) (σ:St) (H:Hp) (vs:List V) (us:List Value) (Q:St→Hp→Prop),Inv X pins σ H s→Vals vs us→t vs σ H Q→
  wpAny (model X.prog X.w) X.A (assignInOrder ((assignEach ts X.env).map (·.2)) us) (λ_ s'=>∃σ' H',Inv X pins σ' H' s'∧Q σ' H') X.xe s
abbrev CB:=V→V→V→Hp→(Hp→Prop)→Prop
def PSet (X:Cx) (t:CB):Prop:=
 ∀(pins:List (Addr×Obj)) (s:Shared) (σ:St) (H:Hp) (o i v:V) (ov iv u:Value) (Q:Hp→Prop),Inv X pins σ H s→RelV o ov→RelV i iv→RelV v u→t o i v H Q→
  wpAny (model X.prog X.w) X.A (setItem ov iv u) (λ_ s'=>∃H',Inv X pins σ H' s'∧Q H') X.xe s
section
variable {X:Cx} {pos:Pos}
def tT (i:Nat):TG:=λv σ H Q=>Q (σ.set i (some v)) H
theorem bU {i:Nat} {x:Str} (hN:X.N.Nodup) (hi:X.N[i]?=some x) (hx:Loc X.env.scope x) (hf:X.fn x=true∨X.env.scope.names.lookup x=some .local:=by first|exact .inl rfl|exact .inr rfl|assumption):PG X (.Name x pos) (tT i):=by
 intro pins s σ H v u Q I r h
 exact wpAny_assign_Name (oF I hN hi hx r (λs' I'=>⟨_,H,I',h⟩) hf)
def gNil:TGs:=λvs σ H Q=>vs=[]∧Q σ H
def Du (t:TG) (u:TGs):TGs:=λvs σ H Q=>∃v r,vs=v::r∧t v σ H λσ' H'=>u r σ' H' Q
theorem rP:PGs X [] gNil:=by
 intro pins s σ H vs us Q I r h
 obtain⟨e,h⟩:=h
 subst e
 cases r
 exact assignInOrder_nil ⟨σ,H,I,h⟩
theorem fj {e:Expr} {es:List Expr} {t:TG} {u:TGs} (h1:PG X e t) (h2:PGs X es u)
  (hs:(assignEach (e::es) X.env).map (·.2)=assign e X.env::(assignEach es X.env).map (·.2):=by rfl):PGs X (e::es) (Du t u):=by
 intro pins s σ H vs us Q I r h
 obtain⟨v,vr,e1,h⟩:=h
 subst e1
 cases r with
 |cons r rr=>
  rw[hs]
  refine assignInOrder_cons (thn (h1 pins s σ H _ _ _ I r h) λ_ s1 hzz=>?_)
  obtain⟨σ1,H1,I1,q1⟩:=hzz
  exact h2 pins s1 σ1 H1 _ _ Q I1 rr q1
def gTup (K:PySem.W.Frag) (n:Nat) (t:TGs):TG:=λv σ H Q=>∃a xs,v= .ref a∧SqT K H a xs∧xs.length=n∧t xs σ H Q
theorem uD {es:List Expr} {k:Nat} {t:TGs} {n:Nat} (hc:X.calm=true) (h:PGs X es t)
  (hn:(assignEach es X.env).length=n:=by rfl) (hst:(assignEach es X.env).findIdx? (·.1)=none:=by rfl):PG X (.Tuple es k pos) (gTup X.K n t):=by
 intro pins s σ H v u Q I r hw
 obtain⟨a,xs,e1,hq,hl,hw⟩:=hw
 subst e1
 cases r
 obtain⟨its,rv,ht,hz⟩:=I.tuple hq
 refine assign_Tuple_tuple (I.ok.hd hc) ht (by simp[hn,←hl,rv.length]) hst λh' hx=>?_
 have I1:Inv X pins σ H {s with heap:=h'}:=I.kept (t':=s.toks) λb o e=>hx b o (Qz (Heap.lt_size e)) e
 exact h pins _ σ H xs _ Q I1 (by simpa using rv) hw
def gSub (to ti:TE) (t:CB):TG:=λv σ H Q=>to σ H λo H1=>ti σ H1 λi H2=>t o i v H2 λH3=>Q σ H3
theorem uE {o i:Expr} {to ti:TE} {t:CB} (ho:PE X o to) (hi:PE X i ti) (hs:PSet X t)
  (ha:∀v,assign (.Subscript o i pos) X.env v=(do
   let ov←holding [v] (eval o X.env)
   let iv←holding [v,ov] (eval i X.env)
   standAt pos
   holding [v,ov,iv] (setItem ov iv v)
   release [v,ov,iv] []):=by intro _;rfl):PG X (.Subscript o i pos) (gSub to ti t):=by
 intro pins s σ H v u Q I r h
 rw[ha]
 refine wpAny_bind (wpAny_holding (thn (ho pins s σ H _ I h) λov s1 hzz=>?_))
 obtain⟨x,H1,I1,r1,q1⟩:=hzz
 refine wpAny_bind (wpAny_holding (thn (hi pins s1 σ H1 _ I1 q1) λiv s2 hzz=>?_))
 obtain⟨y,H2,I2,r2,q2⟩:=hzz
 refine wpAny_bind (wpAny_standAt (wpAny_bind (wpAny_holding (thn (hs pins s2 σ H2 x y v ov iv u _ I2 r1 r2 r q2) λ_ s3 hzz=>?_))))
 obtain⟨H3,I3,q3⟩:=hzz
 exact wpAny_release ⟨σ,H3,I3,q3⟩
def tAsg (te:TE) (g:TG):TS:=λD σ H=>te σ H λx H1=>g x σ H1 D.nx
theorem pc {tg e:Expr} {te:TE} {g:TG} (he:PE X e te) (hg:PG X tg g) (hs:swapsWithSole [tg] e pos.line X.env=pure false:=by rfl) (hw:swappedStores [tg] e X.env=pure none:=by rfl)
  (h1:(assignEach [tg] X.env).map (·.2)=[assign tg X.env]:=by rfl):PS X (.Assign [tg] e pos) (tAsg te g):=by
 intro pins s σ H D I h
 refine wpAny_Assign_stores (thn (he pins s σ H _ I h) λv s1 hzz=>?_) hs hw
 obtain⟨x,H1,I1,r1,q1⟩:=hzz
 rw[h1]
 exact thn (hg pins s1 σ H1 x v _ I1 r1 q1) λ_ s2 q=>q
theorem aD {i:Nat} {x:Str} {e:Expr} {te:TE} {pos':Pos} (hN:X.N.Nodup) (hi:X.N[i]?=some x) (hx:Loc X.env.scope x) (he:PE X e te) (hs:swapsWith e (some (.Name x pos')) pos.line X.env=pure false:=by rfl) (hf:X.fn x=true∨X.env.scope.names.lookup x=some .local:=by first|exact .inl rfl|exact .inr rfl|assumption):
  PS X (.Assign [.Name x pos'] e pos) (tAsg te (tT i)):=by
 intro pins s σ H D I h
 refine wpAny_Assign_Name (thn (he pins s σ H _ I h) λv s1 hzz=>?_) hs
 obtain⟨y,H1,I1,r1,q1⟩:=hzz
 exact oF I1 hN hi hx r1 (λs2 I2=>⟨_,H1,I2,q1⟩) hf
end
section
variable {X:Cx} {pos:Pos}
def BC (c:TT) (tb:TS):TS:=λD σ H=>∃W:Nat→St→Hp→Prop,(∃m,W m σ H)∧∀m σ H,W m σ H→
 c σ H λb H1=>if b=true then ∃N:St→Hp→Prop,(∀σ' H',N σ' H'→∃m',m'<m∧W m' σ' H')∧tb {D with nx:=N,ct:=N,bk:=D.nx} σ H1 else D.nx σ H1
theorem yc {c:Expr} {body:List Stmt} {tc:TT} {tb:TS} (hp:PassesOwn (model X.prog X.w) X.A X.env X.xe) (hc:PT X c tc) (hb:PSs X body tb):PS X (.While c body [] pos) (BC tc tb):=by
 intro pins s σ H D I h
 obtain⟨W,⟨m0,w0⟩,turn⟩:=h
 refine wpAny_While (codeAny_whileLoop (λn s'=>∃σ' H',Inv X pins σ' H' s'∧W n σ' H') ?_ m0 ⟨σ,H,I,w0⟩)
 rintro n s1 ⟨σ1,H1,I1,w1⟩
 refine wpAny_passesOwn hp (thn (hc pins s1 σ1 H1 _ I1 (turn n σ1 H1 w1)) λb s2 ⟨H2,I2,q2⟩=>?_)
 cases b with
 |true=>
  obtain⟨N,hN,q2⟩:=q2
  rw[if_pos rfl]
  refine wpAny_passesOwn hp (thn (hb pins s2 σ1 H2 _ I2 q2) λf s3 q3=>?_)
  cases f with
  |next=>
   obtain⟨σ3,H3,I3,n3⟩:=q3
   obtain⟨m',hm,w3⟩:=hN σ3 H3 n3
   exact⟨m',hm,σ3,H3,I3,w3⟩
  |cont=>
   obtain⟨σ3,H3,I3,n3⟩:=q3
   obtain⟨m',hm,w3⟩:=hN σ3 H3 n3
   exact⟨m',hm,σ3,H3,I3,w3⟩
  |brk=>exact q3
  |ret v=>exact q3
 |false=>
  rw[if_neg Q7]
  exact wpAny_execs_nil ⟨σ1,H2,I2,q2⟩
end
structure It where
 go:Nat→Hp→Prop
 yld:Nat→Hp→V→Hp→Prop
 stop:Nat→Hp→Prop
def jF (X:Cx) (pins:List (Addr×Obj)) (H:Hp) (b:Addr):Prop:=
 H b=none∧b≠X.env.locals∧b∉X.fs∧(b∈X.ex∨X.s₀.heap.objs.size≤b)∧(∀x c,X.env.cells.lookup x=some c→c≠b)∧∀p∈X.pn++pins,p.1≠b
theorem Inv.fpOk {X:Cx} {pins:List (Addr×Obj)} {σ:St} {H H':Hp} {s:Shared} {b:Addr} (I:Inv X pins σ H s) (hb:s.heap.objs.size≤b) (hn:H' b=none):jF X pins H' b:=by
 refine⟨hn,X6 (Qn I.lt hb),I.nofs hb,.inr (QF I.sz hb),λx c e z=>?_,λp hp z=>?_⟩
 ·obtain⟨v,q⟩:=I.cell x c e
  exact absurd (Qn q.lt (by rw[z];exact hb)) (Z5 _)
 ·exact absurd (Qn (Heap.lt_size (I.pin p hp).1) (by rw[z];exact hb)) (Z5 _)
structure AR (P:Program) (w:World) (K:PySem.W.Frag) (tg:Expr) (J:It) (fp:List Addr) (it:Addr) (tn:Nat→Heap→Prop):Prop where
 mem:it∈fp
 obj:∀i h,tn i h→∀b∈fp,∃o,h.get? b=some o∧∀v,o.data≠ .cell v
 keep:∀i h h',tn i h→(∀b∈fp,∀o,h.get? b=some o→h'.get? b=some o)→tn i h'
 item:∀(X:Cx),X.prog=P→X.w=w→X.K=K→X.calm=true→∀(i:Nat) (pins:List (Addr×Obj)) (s:Shared) (σ:St) (H:Hp) (E:Value→Shared→Prop),Inv X pins σ H s→(∀b∈fp,jF X pins H b)→tn i s.heap→J.go i H→
  wpAny (model P w) X.A (pyNext (.ref it)) (λr s1=>∃u,r=some u∧
   wpAny (model P w) X.A (letOwnedTupleGo tg (.ref it) u) (λ_ s2=>∃x H',Inv X pins σ H' s2∧RelV x u∧J.yld i H x H'∧tn (i+1) s2.heap∧∀b∈fp,H' b=none) E s1) E s
 done:∀(X:Cx),X.prog=P→X.w=w→X.K=K→X.calm=true→∀(i:Nat) (pins:List (Addr×Obj)) (s:Shared) (σ:St) (H:Hp) (E:Value→Shared→Prop),Inv X pins σ H s→(∀b∈fp,jF X pins H b)→tn i s.heap→J.stop i H→
  wpAny (model P w) X.A (pyNext (.ref it)) (λr s1=>r=none∧Inv X pins σ H s1) E s
 self:∀(A:Around) (i:Nat) (s:Shared) (Q:Value→Shared→Prop) (E:Value→Shared→Prop),tn i s.heap→Q (.ref it) s→wpAny (model P w) A (pyIter (.ref it)) Q E s
abbrev TI:=St→Hp→(It→Hp→Prop)→Prop
def PIE (X:Cx) (pins:List (Addr×Obj)) (σ:St) (tg:Expr) (R:It→Hp→Prop) (itv:Value) (s2:Shared):Prop:=
 ∃(it:Addr) (fp:List Addr) (tn:Nat→Heap→Prop) (J:It) (H':Hp),itv= .ref it∧Inv X pins σ H' s2∧AR X.prog X.w X.K tg J fp it tn∧tn 0 s2.heap∧(∀b∈fp,jF X pins H' b)∧R J H'
def PI (X:Cx) (tg iter:Expr) (wi:TI):Prop:=
 ∀(pins:List (Addr×Obj)) (s:Shared) (σ:St) (H:Hp) (R:It→Hp→Prop),Inv X pins σ H s→wi σ H R→
  wpAny (model X.prog X.w) X.A (eval iter X.env) (λv s1=>wpAny (model X.prog X.w) X.A (pyIter v) (PIE X pins σ tg R) X.xe s1) X.xe s
theorem Bt {M:Model} {A:Around} {E:Value→Shared→Prop} {s:Shared} {tg:Expr} {it:Addr} {u:Value} {o:Obj} {n:String} {vs:Array Value} {Q:Unit→Shared→Prop} (ho:s.heap.get? it=some o) (hc:o.cls= .type n) (hd:o.data= .fields vs)
  (hn:["enumerate","zip","dict_itemiterator","dict_reverseitemiterator","odict_iterator","itertools.zip_longest","itertools.pairwise"].contains n=false) (hQ:Q () s):wpAny M A (letOwnedTupleGo tg (.ref it) u) Q E s:=by
 unfold letOwnedTupleGo
 cases tg<;>first
  |exact wpAny_pure hQ
  |(cases u<;>first
    |exact wpAny_pure hQ
    |(refine wpAny_bind (wpAny_load ho ?_)
      rw[hc,hd]
      show wpAny M A (if(["enumerate","zip","dict_itemiterator","dict_reverseitemiterator","odict_iterator","itertools.zip_longest","itertools.pairwise"].contains n&&vs[0]?==some (rawInt _))=true then _ else _) Q E s
      rw[if_neg (by intro h;rw[hn,X0]at h;cases h)]
      exact wpAny_pure hQ))
def Itl (K:PySem.W.Frag) (a:Addr):It:=
 ⟨λi H=>∃xs x,SqL K H a xs∧xs[i]?=some x,λi H x H'=>H'=H∧∀xs,SqL K H a xs→xs[i]?=some x,λi H=>∃xs,SqL K H a xs∧xs.length≤i⟩
def Itr (lo:Int) (n:Nat):It:=⟨λi _=>i<n,λi H x H'=>H'=H∧x= .int (lo+i),λi _=>n≤i⟩
theorem wq {P:Program} {w:World} {K:PySem.W.Frag} {tg:Expr} (a it:Addr):AR P w K tg (Itl K a) [it] it (λi h=>h.IsListIter it a i) where
 mem:=by simp
 obj:=λi h st b hb=>by
  have e:b=it:=by simpa using hb
  subst e
  obtain⟨o,e,c,d⟩:=st
  exact⟨o,e,λv z=>by rw[d]at z;cases z⟩
 keep:=λi h h' st k=>st.at λo e=>k it (by simp) o e
 item:=by
  intro X hP hw hK hc i pins s σ H E I hf st hg
  subst hP hw hK
  obtain⟨xs,x,hq,hx⟩:=hg
  obtain⟨its,rv,p,hz⟩:=I.list hq
  obtain⟨u,hu,ru⟩:=rv.get hx
  obtain⟨f0,f1,f2,f3,f4,f5⟩:=hf it (by simp)
  refine wpAny_pyNext_list_item st p.isList (x:=u) (by simpa using hu) λh' st' sb=>?_
  have I1:Inv X pins σ H {s with heap:=h'}:=I.turned (t':=s.toks) (λb o hb e=>(sb.2 b hb).trans e) f0 f1 f3 f4 f5
  obtain⟨o,e,c,d⟩:=id st'
  exact⟨u,rfl,Bt (s:={s with heap:=h'}) e c d (by decide) ⟨x,H,I1,ru,⟨rfl,λys hy=>by rw[I.list_inj hy hq];exact hx⟩,st',λb hb=>(hf b hb).1⟩⟩
 done:=by
  intro X hP hw hK hc i pins s σ H E I hf st hg
  subst hP hw hK
  obtain⟨xs,hq,hx⟩:=hg
  obtain⟨its,rv,p,hz⟩:=I.list hq
  obtain⟨f0,f1,f2,f3,f4,f5⟩:=hf it (by simp)
  have hl:=rv.length
  exact wpAny_pyNext_list_end (I.ok.hd hc) st p.isList (by simp;omega) λh' eb=>⟨rfl,I.turned (t':=s.toks) (λb o hb e=>eb b o hb e) f0 f1 f3 f4 f5⟩
 self:=λ_ _ _ _ _ st h=>wpAny_pyIter_listiter st h
theorem um {P:Program} {w:World} {K:PySem.W.Frag} {tg:Expr} (it:Addr) (lo:Int) (n:Nat):AR P w K tg (Itr lo n) [it] it (λi h=>IsRangeIter h it (lo+(i:Nat)*1) ((n:Int)-(i:Nat)) 1) where
 mem:=by simp
 obj:=λi h st b hb=>by
  have e:b=it:=by simpa using hb
  subst e
  exact⟨_,st,λv z=>by
   have z':Data.fields _=Data.cell v:=z
   cases z'⟩
 keep:=λi h h' st k=>k it (by simp) _ st
 item:=by
  intro X hP hw hK hc i pins s σ H E I hf st hg
  subst hP hw hK
  obtain⟨f0,f1,f2,f3,f4,f5⟩:=hf it (by simp)
  have W:=Walks.range (prog:=X.prog) (w:=X.w) (I.ok.hd hc) it lo 1 n
  refine W.item i s _ _ hg st λv h' tk hv st' kk=>?_
  obtain⟨t,rfl⟩:=hv
  have I1:Inv X pins σ H {s with heap:=h',toks:=tk}:=I.turned (λb o hb e=>kk b o (by simpa using hb) e) f0 f1 f3 f4 f5
  refine⟨_,rfl,Bt (s:={s with heap:=h',toks:=tk}) (n:="range_iterator") st' rfl rfl (by decide) ⟨.int (lo+i),H,I1,⟨t,?_⟩,⟨rfl,rfl⟩,st',λb hb=>(hf b hb).1⟩⟩
  rw[Int.mul_one]
 done:=by
  intro X hP hw hK hc i pins s σ H E I hf st hg
  subst hP hw hK
  obtain⟨f0,f1,f2,f3,f4,f5⟩:=hf it (by simp)
  exact wpAny_pyNext_range_end (I.ok.hd hc) st (by have:n≤i:=hg;omega) λh' eb=>⟨rfl,I.turned (t':=s.toks) (λb o hb e=>eb b o hb e) f0 f1 f3 f4 f5⟩
 self:=λ_ _ _ _ _ st h=>wpAny_pyIter_rangeiter st h
end L2
namespace L2
open PySem PySem.Spec PyProof.Rows
section
variable {X:Cx} {tg:Expr}
def Dr (K:PySem.W.Frag) (tl:TE):TI:=λσ H R=>tl σ H λx H1=>∃a,x= .ref a∧(∃xs,SqL K H1 a xs)∧R (Itl K a) H1
theorem lO {l:Expr} {tl:TE} (hl:PE X l tl):PI X tg l (Dr X.K tl):=by
 intro pins s σ H R I h
 refine thn (hl pins s σ H _ I h) λv s1 hzz=>?_
 obtain⟨x,H1,I1,r1,q1⟩:=hzz
 obtain⟨a,e,⟨xs,hq⟩,q⟩:=q1
 subst e
 cases r1
 obtain⟨its,rv,p,hz⟩:=I1.list hq
 refine wpAny_pyIter_list p.isList ?_
 refine⟨s1.heap.objs.size,[s1.heap.objs.size],_,_,H1,rfl,I1.kept (t':=s1.toks) λb o e=>Heap.get?_push_of_some _ e,wq a _,⟨_,Heap.get?_push_size _ rfl,rfl,rfl⟩,λb hb=>?_,q⟩
 have e:b=s1.heap.objs.size:=by simpa using hb
 subst e
 exact I1.fpOk (Q5 _) (I1.hok.fresh (Q5 _))
theorem x9 {pins:List (Addr×Obj)} {σ:St} {H:Hp} {s:Shared} {R:It→Hp→Prop} {E:Value→Shared→Prop} {lo hi:Int} {t u v:Tok} {tk:Nat} (I:Inv X pins σ H s) (h1: -(2^62)≤lo) (h2:lo<2^62) (h3: -(2^62)≤hi) (h4:hi<2^62)
  (q:R (Itr lo (hi-lo).toNat) H):wpAny (model X.prog X.w) X.A (pyIter (.ref s.heap.objs.size)) (PIE X pins σ tg R) E {s with heap:=s.heap.push {cls:= .type "range",data:= .fields #[.int lo t,.int hi u,.int 1 v]},toks:=tk}:=by
 refine wpAny_pyIter_range (IsRange.new ..) (small_one h1 h2 h3 h4) ?_
 have I1:Inv X pins σ H {s with heap:=s.heap.push {cls:= .type "range",data:= .fields #[.int lo t,.int hi u,.int 1 v]},toks:=tk}:=I.kept λb o e=>Heap.get?_push_of_some _ e
 refine⟨(s.heap.push {cls:= .type "range",data:= .fields #[.int lo t,.int hi u,.int 1 v]}).objs.size,[(s.heap.push {cls:= .type "range",data:= .fields #[.int lo t,.int hi u,.int 1 v]}).objs.size],_,_,H,rfl,
  I1.kept (t':=tk) λb o e=>Heap.get?_push_of_some _ e,um _ lo (hi-lo).toNat,?_,λb hb=>?_,q⟩
 ·have e1:lo+((0:Nat):Int)*1=lo:=by simp
  have e2:(((hi-lo).toNat:Nat):Int)-((0:Nat):Int)=Builtin.Range.rangeSize lo hi 1:=by rw[rangeSize_one];split<;>omega
  show IsRangeIter _ _ (lo+((0:Nat):Int)*1) ((((hi-lo).toNat:Nat):Int)-((0:Nat):Int)) 1
  rw[e1,e2]
  exact Heap.get?_push_size _ rfl
 ·have e:b=(s.heap.push {cls:= .type "range",data:= .fields #[.int lo t,.int hi u,.int 1 v]}).objs.size:=by simpa using hb
  subst e
  exact I1.fpOk (Q5 _) (I1.hok.fresh (Q5 _))
def Dq (ta:TA):TI:=λσ H R=>ta σ H λvs H1=>∃j:Int,vs=[.int j]∧-(2^62)≤j∧j<2^62∧R (Itr 0 j.toNat) H1
theorem eO {a:Expr} {ta:TA} {p pos:Pos} (hg:Gl X "range") (hm:X.mg "range"=none) (ha:PA X [a] ta) (hs:starEach [a] X.env=[(false,eval a X.env)]:=by rfl):PI X tg (.Call (.Name "range" p) [a] [] pos) (Dq ta):=by
 intro pins s σ H R I h
 refine Call_ (r9 I hg hm boot_range (PyProof.Rows.callWith_type1 (thn (ha pos pins s σ H _ I h) λus s1 hzz=>?_) hs rfl))
 obtain⟨vs,H1,I1,r1,q1⟩:=hzz
 obtain⟨j,e,q1,q2,q⟩:=q1
 subst e
 cases r1 with
 |cons r rr=>
  cases rr
  obtain⟨t,rfl⟩:=r
  exact call_range_1 (x9 I1 (by omega) (by omega) q1 q2 (by simpa using q))
def tFor (wi:TI) (g:TG) (tb:TS):TS:=λD σ H=>wi σ H λJ H1=>∃W:Nat→Nat→St→Hp→Prop,(∃m,W 0 m σ H1)∧∀i m σ H,W i m σ H→
 (J.stop i H∧D.nx σ H)∨(J.go i H∧∃N:St→Hp→Prop,(∀σ' H',N σ' H'→∃m',m'<m∧W (i+1) m' σ' H')∧∀x H',J.yld i H x H'→g x σ H' λσ2 H2=>tb {D with nx:=N,ct:=N,bk:=D.nx} σ2 H2)
def pd (fp:List Addr) (h:Heap):List (Addr×Obj):=fp.filterMap λb=>(h.get? b).map λo=>(b,o)
theorem iw {fp:List Addr} {h:Heap} {b:Addr} {o:Obj} (hb:b∈fp) (e:h.get? b=some o):(b,o)∈pd fp h:=List.mem_filterMap.mpr ⟨b,hb,by rw[e];rfl⟩
theorem wH {fp:List Addr} {h:Heap} {p:Addr×Obj} (hp:p∈pd fp h):p.1∈fp∧h.get? p.1=some p.2:=by
 obtain⟨b,hb,e⟩:=List.mem_filterMap.mp hp
 cases q:h.get? b with
 |none=>rw[q]at e;cases e
 |some o=>
  rw[q]at e
  have e':(b,o)=p:=Option.some.inj e
  subst e'
  exact⟨hb,q⟩
theorem Inv.pinned {pins:List (Addr×Obj)} {σ:St} {H:Hp} {s:Shared} {fp:List Addr} (I:Inv X pins σ H s) (hf:∀b∈fp,jF X pins H b) (ho:∀b∈fp,∃o,s.heap.get? b=some o∧∀v,o.data≠ .cell v):Inv X (pins++pd fp s.heap) σ H s:=
 I.pins_of λp hp=>(Q4.mp hp).elim (λz=>I.pin p (Qo _ z)) λz=>by
  obtain⟨hb,e⟩:=wH z
  obtain⟨f0,f1,f2,_⟩:=hf p.1 hb
  obtain⟨o,e',d⟩:=ho p.1 hb
  rw[e]at e';cases e'
  exact⟨e,f0,f1,f2,d⟩
theorem Inv.unpinned {pins pl:List (Addr×Obj)} {σ:St} {H:Hp} {s:Shared} (I:Inv X (pins++pl) σ H s):Inv X pins σ H s:=I.pins_of λp hp=>I.pin p (Qo _ (QR _ hp))
theorem kI {iter:Expr} {body:List Stmt} {wi:TI} {g:TG} {tb:TS} {pos:Pos} (hp:PassesOwn (model X.prog X.w) X.A X.env X.xe) (hc:X.calm=true) (hi:PI X tg iter wi) (hg:PG X tg g) (hb:PSs X body tb)
  (hs:∀x,foldedSetIterable iter X.env x=pure x:=by intro _;rfl):PS X (.For tg iter body [] pos) (tFor wi g tb):=by
 intro pins s σ H D I h
 refine wpAny_For (thn (hi pins s σ H _ I h) λv s1 h1=>thn h1 λitv s2 h2=>?_) hs
 obtain⟨it,fp,tn,J,H2,e,I2,T,st2,f2,W,⟨m0,w0⟩,turn⟩:=h2
 subst e
 have stat:∀{H':Hp},(∀b∈fp,H' b=none)→∀b∈fp,jF X pins H' b:=λhn b hb=>⟨hn b hb,(f2 b hb).2⟩
 refine codeAny_forLoop_any (λn s'=>∃i σ' H',Inv X pins σ' H' s'∧tn i s'.heap∧(∀b∈fp,H' b=none)∧W i n σ' H') ?_ m0 ⟨0,σ,H2,I2,st2,λb hb=>(f2 b hb).1,w0⟩
 rintro n s3 ⟨i,σ3,H3,I3,st3,fr3,w3⟩
 rcases turn i n σ3 H3 w3 with⟨stop,qn⟩|⟨go,N,hN,step⟩
 ·refine wpAny_passesOwn hp (thn (T.done X rfl rfl rfl hc i pins s3 σ3 H3 X.xe I3 (stat fr3) st3 stop) λr s4 ⟨hr,I4⟩=>?_)
  subst hr
  exact wpAny_execs_nil ⟨σ3,H3,I4,qn⟩
 ·refine wpAny_passesOwn hp (thn (T.item X rfl rfl rfl hc i pins s3 σ3 H3 X.xe I3 (stat fr3) st3 go) λr s4 ⟨u,hr,h4⟩=>?_)
  subst hr
  refine wpAny_passesOwn hp (thn h4 λ_ s5 hzz=>?_)
  obtain⟨x,H5,I5,r5,y5,st5,fr5⟩:=hzz
  have I5':=I5.pinned (stat fr5) (T.obj _ _ st5)
  refine wpAny_passesOwn hp (thn (hg _ s5 σ3 H5 x u _ I5' r5 (step x H5 y5)) λ_ s6 hzz=>?_)
  obtain⟨σ6,H6,I6,q6⟩:=hzz
  refine wpAny_passesOwn hp (thn (hb _ s6 σ6 H6 _ I6 q6) λf s7 q7=>?_)
  have again:∀{σ7:St} {H7:Hp},Inv X (pins++pd fp s5.heap) σ7 H7 s7→N σ7 H7→∃m,m<n∧∃i σ' H',Inv X pins σ' H' s7∧tn i s7.heap∧(∀b∈fp,H' b=none)∧W i m σ' H':=λ{σ7 H7} I7 n7=>by
   obtain⟨m',hm,w7⟩:=hN σ7 H7 n7
   refine⟨m',hm,i+1,σ7,H7,I7.unpinned,T.keep _ _ _ st5 λb hb o e=>(I7.pin (b,o) (Qo _ (Qo _ (iw hb e)))).1,λb hb=>?_,w7⟩
   obtain⟨o,e,d⟩:=T.obj _ _ st5 b hb
   exact(I7.pin (b,o) (Qo _ (Qo _ (iw hb e)))).2.1
  cases f with
  |next=>obtain⟨σ7,H7,I7,n7⟩:=q7;exact again I7 n7
  |cont=>obtain⟨σ7,H7,I7,n7⟩:=q7;exact again I7 n7
  |brk=>obtain⟨σ7,H7,I7,q7⟩:=q7;exact⟨σ7,H7,I7.unpinned,q7⟩
  |ret v=>obtain⟨x7,σ7,H7,I7,r7,q7⟩:=q7;exact⟨x7,σ7,H7,I7.unpinned,r7,q7⟩
end
theorem yU {K:PySem.W.Frag} {a:Addr} {xs:List V} {g:TG} {tb:TS} {D:Ends} {σ:St} {H:Hp} (Pv:Nat→St→Hp→Prop) (h0:Pv 0 σ H) (hl:∀i σ H,i≤xs.length→Pv i σ H→SqL K H a xs)
  (hs:∀i x σ H,xs[i]?=some x→Pv i σ H→g x σ H λσ2 H2=>tb {D with nx:=Pv (i+1),ct:=Pv (i+1),bk:=D.nx} σ2 H2) (hd:∀σ H,Pv xs.length σ H→D.nx σ H):
  ∃W:Nat→Nat→St→Hp→Prop,(∃m,W 0 m σ H)∧∀i m σ H,W i m σ H→
   ((Itl K a).stop i H∧D.nx σ H)∨((Itl K a).go i H∧∃N:St→Hp→Prop,(∀σ' H',N σ' H'→∃m',m'<m∧W (i+1) m' σ' H')∧∀x H',(Itl K a).yld i H x H'→g x σ H' λσ2 H2=>tb {D with nx:=N,ct:=N,bk:=D.nx} σ2 H2):=by
 refine⟨λi m σ H=>m=xs.length-i∧i≤xs.length∧Pv i σ H,⟨xs.length,by simp,Qg _,h0⟩,?_⟩
 rintro i m σ H ⟨rfl,hi,p⟩
 have q:=hl i σ H hi p
 by_cases hlt:i<xs.length
 ·refine .inr ⟨⟨xs,xs[i],q,by simp[hlt]⟩,Pv (i+1),λσ' H' p'=>⟨xs.length-(i+1),by omega,rfl,hlt,p'⟩,λx H' y=>?_⟩
  obtain⟨e,y⟩:=y
  subst e
  exact hs i x σ _ (y xs q) p
 ·have e:i=xs.length:=by omega
  subst e
  exact .inl ⟨⟨xs,q,Q5 _⟩,hd σ H p⟩
theorem qX {lo:Int} {n:Nat} {g:TG} {tb:TS} {D:Ends} {σ:St} {H:Hp} (Pv:Nat→St→Hp→Prop) (h0:Pv 0 σ H)
  (hs:∀i σ H,i<n→Pv i σ H→g (.int (lo+i)) σ H λσ2 H2=>tb {D with nx:=Pv (i+1),ct:=Pv (i+1),bk:=D.nx} σ2 H2) (hd:∀σ H,Pv n σ H→D.nx σ H):
  ∃W:Nat→Nat→St→Hp→Prop,(∃m,W 0 m σ H)∧∀i m σ H,W i m σ H→
   ((Itr lo n).stop i H∧D.nx σ H)∨((Itr lo n).go i H∧∃N:St→Hp→Prop,(∀σ' H',N σ' H'→∃m',m'<m∧W (i+1) m' σ' H')∧∀x H',(Itr lo n).yld i H x H'→g x σ H' λσ2 H2=>tb {D with nx:=N,ct:=N,bk:=D.nx} σ2 H2):=by
 refine⟨λi m σ H=>m=n-i∧i≤n∧Pv i σ H,⟨n,by simp,Qg _,h0⟩,?_⟩
 rintro i m σ H ⟨rfl,hi,p⟩
 by_cases hlt:i<n
 ·refine .inr ⟨hlt,Pv (i+1),λσ' H' p'=>⟨n-(i+1),by omega,rfl,hlt,p'⟩,λx H' y=>?_⟩
  obtain⟨e,y⟩:=y
  subst e y
  exact hs i σ _ hlt p
 ·have e:i=n:=by omega
  subst e
  exact .inl ⟨Q5 _,hd σ H p⟩
end L2
namespace L2
open PySem PySem.Spec PyProof.Rows
abbrev R2:=V→V→Hp→VK→Prop
def OpR (X:Cx) (f:Value→Value→Sem Value) (r:R2):Prop:=
 ∀(pins:List (Addr×Obj)) (s:Shared) (σ:St) (H:Hp) (x y:V) (v u:Value) (Q:VK),Inv X pins σ H s→RelV x v→RelV y u→r x y H Q→
  wpAny (model X.prog X.w) X.A (f v u) (EP X pins σ Q) X.xe s
def UnR (X:Cx) (f:Value→Sem Value) (r:V→Hp→VK→Prop):Prop:=
 ∀(pins:List (Addr×Obj)) (s:Shared) (σ:St) (H:Hp) (x:V) (v:Value) (Q:VK),Inv X pins σ H s→RelV x v→r x H Q→
  wpAny (model X.prog X.w) X.A (f v) (EP X pins σ Q) X.xe s
def g8 (X:Cx) (f:Value) (r:List V→Hp→VK→Prop):Prop:=
 ∀(pins:List (Addr×Obj)) (s:Shared) (σ:St) (H:Hp) (xs:List V) (us:List Value) (Q:VK),Inv X pins σ H s→Vals xs us→r xs H Q→
  wpAny (model X.prog X.w) X.A (call f us) (EP X pins σ Q) X.xe s
def tOp (r:R2) (ta tb:TE):TE:=λσ H Q=>ta σ H λx H1=>tb σ H1 λy H2=>r x y H2 Q
def tUn (r:V→Hp→VK→Prop) (ta:TE):TE:=λσ H Q=>ta σ H λx H1=>r x H1 Q
def rI (C:Int→Int→Prop) (g:Int→Int→V):R2:=λx y H Q=>∃i j,x= .int i∧y= .int j∧C i j∧Q (g i j) H
def rI0 (g:Int→Int→V):R2:=λx y H Q=>∃i j,x= .int i∧y= .int j∧Q (g i j) H
def rU (g:Int→V):V→Hp→VK→Prop:=λx H Q=>∃i,x= .int i∧Q (g i) H
section
variable {X:Cx} {a b c:Expr} {ta tb tc:TE} {pos:Pos}
theorem Cv (ha:PE X a ta) (hb:PE X b tb) {pins:List (Addr×Obj)} {s:Shared} {σ:St} {H:Hp} {R:V→V→Hp→Prop} (I:Inv X pins σ H s)
  (h:ta σ H λx H1=>tb σ H1 λy H2=>R x y H2) {Q:Value→Shared→Prop} {f:Value→Value→Sem Value}
  (hf:∀v u s2 x y H2,Inv X pins σ H2 s2→RelV x v→RelV y u→R x y H2→wpAny (model X.prog X.w) X.A (f v u) Q X.xe s2):
  wpAny (model X.prog X.w) X.A (eval a X.env) (λv s₁=>wpAny (model X.prog X.w) X.A (eval b X.env) (λu s₂=>wpAny (model X.prog X.w) X.A (f v u) Q X.xe s₂) X.xe s₁) X.xe s:=by
 refine thn (ha pins s σ H _ I h) λv s1 hzz=>?_
 obtain⟨x,H1,I1,r1,q1⟩:=hzz
 refine thn (hb pins s1 σ H1 _ I1 q1) λu s2 hzz=>?_
 obtain⟨y,H2,I2,r2,q2⟩:=hzz
 exact hf v u s2 x y H2 I2 r1 r2 q2
theorem al {op:Operator} {r:R2} (ho:OpR X (binaryOp op) r) (ha:PE X a ta) (hb:PE X b tb):PE X (.BinOp a op b pos) (tOp r ta tb):=by
 intro pins s σ H Q I h
 exact wpAny_BinOp (Cv ha hb I h λv u s2 x y H2 I2 rx ry q=>ho pins s2 σ H2 x y v u Q I2 rx ry q)
theorem Bl {op:UnaryOp} {r:V→Hp→VK→Prop} (ho:UnR X (unaryOp op) r) (ha:PE X a ta):PE X (.UnaryOp op a pos) (tUn r ta):=by
 intro pins s σ H Q I h
 exact UnaryOp_ (thn (ha pins s σ H _ I h) λv s1 ⟨x,H1,I1,r1,q1⟩=>ho pins s1 σ H1 x v Q I1 r1 q1)
theorem opI {f:Value→Value→Sem Value} {C:Int→Int→Prop} {g:Int→Int→Int}
  (rule:∀(i j:Int) (t u:Tok) (s:Shared) (Q:Value→Shared→Prop) (E:Value→Shared→Prop),C i j→Q (.int (g i j) s.toks) {s with toks:=s.toks+1}→wpAny (model X.prog X.w) X.A (f (.int i t) (.int j u)) Q E s):
  OpR X f (rI C λi j=> .int (g i j)):=by
 intro pins s σ H x y v u Q I rx ry h
 obtain⟨i,j,rfl,rfl,hc,q⟩:=h
 obtain⟨t,rfl⟩:=rx
 obtain⟨t',rfl⟩:=ry
 exact rule i j t t' s _ _ hc ⟨.int (g i j),H,I.tok _,⟨_,rfl⟩,q⟩
theorem opI0 {f:Value→Value→Sem Value} {g:Int→Int→Int}
  (rule:∀(i j:Int) (t u:Tok) (s:Shared) (Q:Value→Shared→Prop) (E:Value→Shared→Prop),Q (.int (g i j) s.toks) {s with toks:=s.toks+1}→wpAny (model X.prog X.w) X.A (f (.int i t) (.int j u)) Q E s):
  OpR X f (rI0 λi j=> .int (g i j)):=by
 intro pins s σ H x y v u Q I rx ry h
 obtain⟨i,j,rfl,rfl,q⟩:=h
 obtain⟨t,rfl⟩:=rx
 obtain⟨t',rfl⟩:=ry
 exact rule i j t t' s _ _ ⟨.int (g i j),H,I.tok _,⟨_,rfl⟩,q⟩
theorem An {f:Value→Value→Sem Value} {g:Int→Int→Bool}
  (rule:∀(i j:Int) (t u:Tok) (s:Shared) (Q:Value→Shared→Prop) (E:Value→Shared→Prop),Q (.bool (g i j)) s→wpAny (model X.prog X.w) X.A (f (.int i t) (.int j u)) Q E s):
  OpR X f (rI0 λi j=> .bl (g i j)):=by
 intro pins s σ H x y v u Q I rx ry h
 obtain⟨i,j,rfl,rfl,q⟩:=h
 obtain⟨t,rfl⟩:=rx
 obtain⟨t',rfl⟩:=ry
 exact rule i j t t' s _ _ ⟨.bl (g i j),H,I,rfl,q⟩
def CDiv (i j:Int):Prop:=0<j∧j<1073741824
def CPow (i j:Int):Prop:=0≤j∧j≤1000000∧i.natAbs<2^64
def CMul (i j:Int):Prop:=(-(2^64)<i∧i<2^64)∨(-(2^64)<j∧j<2^64)
theorem CMul.ok {i j:Int} (h:CMul i j):IntMulOk i j:=by
 rcases h with⟨h1,h2⟩|⟨h1,h2⟩
 ·exact .of_left (intBits_le_64 h1 h2)
 ·exact .of_right (intBits_le_64 h1 h2)
theorem bx:OpR X (binaryOp .Add) (rI0 λi j=> .int (i+j)):=opI0 λ_ _ _ _ _ _ _ q=>add_int q
theorem iq:OpR X (binaryOp .Sub) (rI0 λi j=> .int (i-j)):=opI0 λ_ _ _ _ _ _ _ q=>sub_int q
theorem cY:OpR X (binaryOp .Mult) (rI CMul λi j=> .int (i*j)):=opI λ_ _ _ _ _ _ _ hc q=>mul_int q hc.ok
theorem aM:OpR X (binaryOp .FloorDiv) (rI CDiv λi j=> .int (i/j)):=opI λi j _ _ _ _ _ hc q=>by
 have h1:(0:Int)<j:=hc.1
 have h2:j<1073741824:=hc.2
 exact floordiv_int (by omega) (by rw[Xj i (by omega)];exact q) (.inl (PyProof.noPylong_small (by omega)))
theorem aK:OpR X (binaryOp .Mod) (rI (λ_ j=>0<j) λi j=> .int (i%j)):=opI λi j _ _ _ _ _ hc q=>by
 have h1:(0:Int)<j:=hc
 exact mod_int' (by omega) (by rw[Int.fmod_eq_emod_of_nonneg i (by omega)];exact q)
theorem gu:OpR X (binaryOp .Pow) (rI CPow λi j=> .int (i^j.toNat)):=opI λ_ _ _ _ _ _ _ hc q=>pow_int_small hc.1 hc.2.1 hc.2.2 q
theorem unI {f:Value→Sem Value} {g:Int→Int}
  (rule:∀(i:Int) (t:Tok) (s:Shared) (Q:Value→Shared→Prop) (E:Value→Shared→Prop),Q (.int (g i) s.toks) {s with toks:=s.toks+1}→wpAny (model X.prog X.w) X.A (f (.int i t)) Q E s):
  UnR X f (rU λi=> .int (g i)):=by
 intro pins s σ H x v Q I rx h
 obtain⟨i,rfl,q⟩:=h
 obtain⟨t,rfl⟩:=rx
 exact rule i t s _ _ ⟨.int (g i),H,I.tok _,⟨_,rfl⟩,q⟩
theorem xR:UnR X (unaryOp .USub) (rU λi=> .int (-i)):=unI λ_ _ _ _ _ q=>neg_int q
end
def scal:V→V→Bool
 | .non,.non=>true| .non,.int _=>true| .int _,.non=>true| .non,.bl _=>true| .bl _,.non=>true| .non,.str _=>true| .str _,.non=>true
 | .int _,.int _=>true| .bl _,.bl _=>true| .str _,.str _=>true| .byt _,.byt _=>true
 | .int _,.str _=>true| .str _,.int _=>true| .bl _,.str _=>true| .str _,.bl _=>true
 |_,_=>false
def rEq:R2:=λx y H Q=>scal x y=true∧Q (.bl (decide (x=y))) H
def rNe:R2:=λx y H Q=>scal x y=true∧Q (.bl (!decide (x=y))) H
theorem vT {i j:Int}:decide (V.int i=V.int j)=(i==j):=by
 rw[ZT]
 simp
theorem y6 {i j:Bool}:decide (V.bl i=V.bl j)=(i==j):=by
 rw[ZT]
 simp
theorem vS {i j:Str}:decide (V.str i=V.str j)=(i==j):=by
 rw[ZT]
 simp
theorem vU {i j:Array UInt8}:decide (V.byt i=V.byt j)=(i.toList==j.toList):=by
 rw[ZT]
 cases i
 cases j
 simp
section
variable {X:Cx} {a b c:Expr} {ta tb tc:TE} {pos:Pos}
theorem aZ {pins:List (Addr×Obj)} {σ:St} {H:Hp} {s:Shared} {Q:VK} {k k':Bool} (I:Inv X pins σ H s) (q:Q (.bl k) H) (e:k=k'):EP X pins σ Q (.bool k') s:=by
 subst e
 exact⟨.bl k,H,I,rfl,q⟩
theorem bH:OpR X (compareOp .Eq) rEq:=by
 intro pins s σ H x y v u Q I rx ry h
 obtain⟨hs,q⟩:=h
 cases x with
 |non=>
  cases rx
  cases y with
  |non=>cases ry;exact PySem.EqNone.eq_none_none (aZ I q (by simp))
  |bl j=>cases ry;exact PySem.EqNone.eq_none_bool (aZ I q (by simp))
  |int j=>obtain⟨t',rfl⟩:=ry;exact PySem.EqNone.eq_none_int (aZ I q (by simp))
  |str j=>obtain⟨t',rfl⟩:=ry;exact PySem.EqNone.eq_none_str (aZ I q (by simp))
  |_=>exact absurd (show false=true from hs) Q7
 |bl i=>
  cases rx
  cases y with
  |non=>cases ry;exact PySem.EqNone.eq_bool_none (aZ I q (by simp))
  |bl j=>cases ry;exact eq_bool (aZ I q y6)
  |str j=>obtain⟨t',rfl⟩:=ry;exact PySem.EqMixed.eq_bool_str (aZ I q (by simp))
  |_=>exact absurd (show false=true from hs) Q7
 |int i=>
  obtain⟨t,rfl⟩:=rx
  cases y with
  |non=>cases ry;exact PySem.EqNone.eq_int_none (aZ I q (by simp))
  |int j=>obtain⟨t',rfl⟩:=ry;exact eq_int (aZ I q vT)
  |str j=>obtain⟨t',rfl⟩:=ry;exact PySem.EqMixed.eq_int_str (aZ I q (by simp))
  |_=>exact absurd (show false=true from hs) Q7
 |str i=>
  obtain⟨t,rfl⟩:=rx
  cases y with
  |non=>cases ry;exact PySem.EqNone.eq_str_none (aZ I q (by simp))
  |bl j=>cases ry;exact PySem.EqMixed.eq_str_bool (aZ I q (by simp))
  |int j=>obtain⟨t',rfl⟩:=ry;exact PySem.EqMixed.eq_str_int (aZ I q (by simp))
  |str j=>obtain⟨t',rfl⟩:=ry;exact eq_str (aZ I q vS)
  |_=>exact absurd (show false=true from hs) Q7
 |byt i=>
  obtain⟨t,rfl⟩:=rx
  cases y with
  |byt j=>obtain⟨t',rfl⟩:=ry;exact PySem.W.eq_bytes (aZ I q vU)
  |_=>exact absurd (show false=true from hs) Q7
 |_=>cases y<;>exact absurd (show false=true from hs) Q7
theorem vA:OpR X (compareOp .NotEq) rNe:=by
 intro pins s σ H x y v u Q I rx ry h
 obtain⟨hs,q⟩:=h
 cases x with
 |non=>
  cases rx
  cases y with
  |non=>cases ry;exact PySem.EqNone.ne_none_none (aZ I q (by simp))
  |bl j=>cases ry;exact PySem.EqNone.ne_none_bool (aZ I q (by simp))
  |int j=>obtain⟨t',rfl⟩:=ry;exact PySem.EqNone.ne_none_int (aZ I q (by simp))
  |str j=>obtain⟨t',rfl⟩:=ry;exact PySem.EqNone.ne_none_str (aZ I q (by simp))
  |_=>exact absurd (show false=true from hs) Q7
 |bl i=>
  cases rx
  cases y with
  |non=>cases ry;exact PySem.EqNone.ne_bool_none (aZ I q (by simp))
  |bl j=>cases ry;exact ne_bool (aZ I q (congrArg not y6))
  |str j=>obtain⟨t',rfl⟩:=ry;exact PySem.EqMixed.ne_bool_str (aZ I q (by simp))
  |_=>exact absurd (show false=true from hs) Q7
 |int i=>
  obtain⟨t,rfl⟩:=rx
  cases y with
  |non=>cases ry;exact PySem.EqNone.ne_int_none (aZ I q (by simp))
  |int j=>obtain⟨t',rfl⟩:=ry;exact ne_int (aZ I q (congrArg not vT))
  |str j=>obtain⟨t',rfl⟩:=ry;exact PySem.EqMixed.ne_int_str (aZ I q (by simp))
  |_=>exact absurd (show false=true from hs) Q7
 |str i=>
  obtain⟨t,rfl⟩:=rx
  cases y with
  |non=>cases ry;exact PySem.EqNone.ne_str_none (aZ I q (by simp))
  |bl j=>cases ry;exact PySem.EqMixed.ne_str_bool (aZ I q (by simp))
  |int j=>obtain⟨t',rfl⟩:=ry;exact PySem.EqMixed.ne_str_int (aZ I q (by simp))
  |str j=>obtain⟨t',rfl⟩:=ry;exact ne_str (aZ I q (congrArg not vS))
  |_=>exact absurd (show false=true from hs) Q7
 |byt i=>
  obtain⟨t,rfl⟩:=rx
  cases y with
  |byt j=>obtain⟨t',rfl⟩:=ry;exact PySem.W.ne_bytes (aZ I q (congrArg not vU))
  |_=>exact absurd (show false=true from hs) Q7
 |_=>cases y<;>exact absurd (show false=true from hs) Q7
theorem iL:OpR X (compareOp .Lt) (rI0 λi j=> .bl (decide (i<j))):=An λ_ _ _ _ _ _ _ q=>lt_int q
theorem tm:OpR X (compareOp .LtE) (rI0 λi j=> .bl (decide (i≤j))):=An λ_ _ _ _ _ _ _ q=>le_int q
theorem tq:OpR X (compareOp .Gt) (rI0 λi j=> .bl (decide (j<i))):=An λ_ _ _ _ _ _ _ q=>gt_int q
theorem Bo:OpR X (compareOp .GtE) (rI0 λi j=> .bl (decide (j≤i))):=An λ_ _ _ _ _ _ _ q=>ge_int q
theorem gv:OpR X (compareOp .Is) (λx y H Q=>y= .non∧Q (.bl (decide (x= .non))) H):=by
 intro pins s σ H x y v u Q I rx ry h
 obtain⟨rfl,q⟩:=h
 cases ry
 refine is_none_gen (aZ I q ?_)
 cases x<;>first
  |(cases rx;rfl)
  |(obtain⟨t,rfl⟩:=rx;rfl)
theorem rS:OpR X (compareOp .IsNot) (λx y H Q=>y= .non∧Q (.bl (!decide (x= .non))) H):=by
 intro pins s σ H x y v u Q I rx ry h
 obtain⟨rfl,q⟩:=h
 cases ry
 refine isnot_none_gen (aZ I q ?_)
 cases x<;>first
  |(cases rx;rfl)
  |(obtain⟨t,rfl⟩:=rx;rfl)
theorem ax (b:Expr) {op:CmpOp} (h:op≠ .In:=by decide) (h2:op≠ .NotIn:=by decide):behindInMarks op b=false:=by
 have e1:(op==CmpOp.In)=false:=by cases op<;>first|rfl|exact absurd rfl h
 have e2:(op==CmpOp.NotIn)=false:=by cases op<;>first|rfl|exact absurd rfl h2
 cases b<;>simp[behindInMarks,e1,e2]
theorem bV {op:CmpOp} {r:R2} (ho:OpR X (compareOp op) r) (ha:PE X a ta) (hb:PE X b tb) (hm:behindInMarks op b=false):PE X (.Compare a [op] [b] pos) (tOp r ta tb):=by
 intro pins s σ H Q I h
 exact wpAny_Compare1 (Cv ha hb I h λv u s2 x y H2 I2 rx ry q=>ho pins s2 σ H2 x y v u Q I2 rx ry q) hm
def CV (t:TE):TT:=λσ H Q=>t σ H λx H'=>∃k,x= .bl k∧Q k H'
theorem au {op:CmpOp} {r:R2} (ho:OpR X (compareOp op) r) (ha:PE X a ta) (hb:PE X b tb) (hm:behindInMarks op b=false):PT X (.Compare a [op] [b] pos) (CV (tOp r ta tb)):=by
 intro pins s σ H Q I h
 refine wpAny_isTrue_Compare1 (thn (ha pins s σ H _ I h) λv s1 ⟨x,H1,I1,r1,q1⟩=>thn (hb pins s1 σ H1 _ I1 q1) λu s2 ⟨y,H2,I2,r2,q2⟩=>
  thn (ho pins s2 σ H2 x y v u _ I2 r1 r2 q2) λc s3 ⟨z,H3,I3,r3,k,e,q3⟩=>?_) hm
 subst e
 cases r3
 exact wpAny_truthy_bool ⟨H3,I3,q3⟩
def BI (r r':R2) (ta tb tc:TE):TE:=λσ H Q=>ta σ H λx H1=>tb σ H1 λy H2=>r x y H2 λz H3=>∃k,z= .bl k∧
 (if k=true then tc σ H3 λw' H4=>r' y w' H4 Q else Q (.bl false) H3)
theorem yh {op op':CmpOp} {r r':R2} (ho:OpR X (compareOp op) r) (ho':OpR X (compareOp op') r') (ha:PE X a ta) (hb:PE X b tb) (hc:PE X c tc)
  (hm:lastMarks [op,op'] [b,c]=false:=by with_unfolding_all rfl):PE X (.Compare a [op,op'] [b,c] pos) (BI r r' ta tb tc):=by
 intro pins s σ H Q I h
 refine Compare_chain (thn (ha pins s σ H _ I h) λv s1 ⟨x,H1,I1,r1,q1⟩=>chain_link (thn (hb pins s1 σ H1 _ I1 q1) λu s2 ⟨y,H2,I2,r2,q2⟩=>
  thn (ho pins s2 σ H2 x y v u _ I2 r1 r2 q2) λd s3 ⟨z,H3,I3,r3,k,e,q3⟩=>?_)) hm
 subst e
 cases r3
 refine wpAny_truthy_bool ?_
 cases k with
 |false=>exact ite_ff ⟨.bl false,H3,I3,rfl,q3⟩
 |true=>exact ite_tt (chain_last (thn (hc pins s3 σ H3 _ I3 q3) λw' s4 ⟨z',H4,I4,r4,q4⟩=>ho' pins s4 σ H4 y z' u w' Q I4 r2 r4 q4))
theorem pL:(sizeLine:Nat)<2^63:=by rw[sizeLine_eq];decide
theorem oC {x:V} {us:List Value} (r:Vals [x] us):∃u,us=[u]∧RelV x u:=by
 cases r with
 |cons r1 r2=>cases r2;exact⟨_,rfl,r1⟩
theorem sI {x y:V} {us:List Value} (r:Vals [x,y] us):∃u w',us=[u,w']∧RelV x u∧RelV y w':=by
 cases r with
 |cons r1 r2=>
  cases r2 with
  |cons r3 r4=>cases r4;exact⟨_,_,rfl,r1,r3⟩
theorem rf (hc:X.calm=true):g8 X (.builtin "max") (λxs H Q=>∃i j,xs=[.int i,.int j]∧Q (.int (if j>i then j else i)) H):=by
 intro pins s σ H xs us Q I r h
 obtain⟨i,j,rfl,q⟩:=h
 obtain⟨u,w',rfl,⟨t,rfl⟩,⟨t',rfl⟩⟩:=sI r
 refine max_two_ints (I.ok.hd hc) λh' tk k=>⟨_,H,I.kept k,?_,q⟩
 by_cases hj:j>i
 ·rw[if_pos hj,if_pos hj];exact⟨_,rfl⟩
 ·rw[if_neg hj,if_neg hj];exact⟨_,rfl⟩
theorem xl (hc:X.calm=true):g8 X (.builtin "min") (λxs H Q=>∃i j,xs=[.int i,.int j]∧Q (.int (if j<i then j else i)) H):=by
 intro pins s σ H xs us Q I r h
 obtain⟨i,j,rfl,q⟩:=h
 obtain⟨u,w',rfl,⟨t,rfl⟩,⟨t',rfl⟩⟩:=sI r
 refine min_two_ints (I.ok.hd hc) λh' tk k=>⟨_,H,I.kept k,?_,q⟩
 by_cases hj:j<i
 ·rw[if_pos hj,if_pos hj];exact⟨_,rfl⟩
 ·rw[if_neg hj,if_neg hj];exact⟨_,rfl⟩
theorem sr:g8 X (.type "str") (λxs H Q=>∃i,xs=[.int i]∧i.natAbs.log2<1920∧Q (.str (toString i)) H):=by
 intro pins s σ H xs us Q I r h
 obtain⟨i,rfl,hz,q⟩:=h
 obtain⟨u,rfl,t,rfl⟩:=oC r
 exact PySem.P.str_of_int hz ⟨.str _,H,I.tok _,⟨_,rfl⟩,q⟩
end
end L2
namespace L2
open PySem PySem.Spec PyProof.Rows
structure ObjM (h:Heap) (x dx C:Addr) (mA:Str→Option Value):Prop where
 obj:h.get? x=some (PySem.W.instObj C dx)
 ns:h.Ns1 dx mA
 ne:dx≠x
theorem wS {h:Heap} {dx:Addr} {mA:Str→Option Value} (n:h.Ns1 dx mA):∃od,h.get? dx=some od∧∀name,PySem.W.lookIn name od=some (mA name):=by
 obtain⟨o,es,ep,ho,hd,hk,_,hm⟩:=n
 refine⟨o,ho,λname=>?_⟩
 have e:=hm name
 unfold nsFind findBy at e
 rw[←Array.find?_toList]at e
 unfold PySem.W.lookIn
 rw[hd]
 dsimp only
 split
 ·rename_i y q
  rw[q]at e
  exact congrArg some e
 ·rename_i q
  rw[q]at e
  have a:es.toList.any (·.refKey)=false:=by
   rw[List.any_eq_false]
   intro y hy
   obtain⟨z,t,hkey⟩:=hk y (Array.mem_toList_iff.mp hy)
   simp[DictEntry.refKey,hkey]
  have a':¬es.toList.any (·.refKey)=true:=by rw[a];exact Q7
  rw[if_neg a']
  exact congrArg some e
theorem ObjM.look {h:Heap} {x dx C:Addr} {mA:Str→Option Value} (I:ObjM h x dx C mA):∃od,PySem.W.InstAt h x (PySem.W.instObj C dx) C (some od)∧∀name,PySem.W.lookIn name od=some (mA name):=
 let⟨od,ho,hl⟩:=wS I.ns
 ⟨od,⟨I.obj,rfl,rfl,ho⟩,hl⟩
section
variable {prog:Program} {w:World} {A:Around} {E:Value→Shared→Prop} {s:Shared} {K:PySem.W.Frag} {x dx C f:Addr} {mA:Str→Option Value} {name:Str} {v:Value}
theorem AA {expr:Bool} {Q:Value→Shared→Prop} (X:K.In s.heap) (I:ObjM s.heap x dx C mA) (hg:PySem.W.plainGet K C name=true) (hh:PySem.W.hasDictIn K C=true)
  (ha:PySem.W.findIn K (.ref C) name=some none) (hv:mA name=some v) (hv':PySem.W.handedIn v=true) (h:Q v {s with toks:=s.toks+1}):
  wpAny (model prog w) A (getAttr (.ref x) name expr) Q E s:=by
 obtain⟨od,J,hl⟩:=I.look
 exact PySem.W.get_value X J (X4 hg).1 (PySem.W.findObj_own hh ha rfl (by rw[hl,hv])) hv' h
theorem yN {pl:Sem Bool} {Q:Value×List Value→Shared→Prop} (X:K.In s.heap) (I:ObjM s.heap x dx C mA) (hg:PySem.W.plainGet K C name=true)
  (hf:PySem.W.findIn K (.ref C) name=some (some (.ref f))) (ht:PySem.W.isFn K (.ref f)=true) (hv:mA name=none) (h:Q (.ref f,[.ref x]) s):
  wpAny (model prog w) A (getMethod (.ref x) name pl) Q E s:=by
 obtain⟨od,J,hl⟩:=I.look
 exact PySem.W.method_fn X J (X4 hg).1 (X4 hg).2 hf (beq_iff_eq.mp ht) (by show(PySem.W.lookIn name od).map (·.isSome)=some false;rw[hl,hv];rfl) h
theorem zY {ns:List Str} {Q:Unit→Shared→Prop} (X:K.In s.heap) (I:ObjM s.heap x dx C mA)
  (hs:PySem.W.findIn K (.ref C) "__setattr__"=some (some (.builtin "object.__setattr__"))) (hp:PySem.W.plainOver K C=true) (ht:PySem.W.takerIn K C name=some none) (hh:PySem.W.hasDictIn K C=true)
  (hw:PySem.Within mA ns) (hsz:ns.length≤sizeLine)
  (h:∀h',ObjM h' x dx C (λy=>if y=name then some v else mA y)→Heap.SameBut dx s.heap h'→Q () {s with heap:=h',toks:=s.toks+2}):
  wpAny (model prog w) A (setAttr (.ref x) name v) Q E s:=by
 obtain⟨od,J,hl⟩:=I.look
 refine PySem.W.set_plain X J hs (PySem.W.osa_open (s:={s with toks:=s.toks+1}) (r:=none) X J hp ht λb=>?_)
 obtain⟨cd,hc,hd'⟩:=PySem.W.any_some hh
 have hx:s.heap.get? x=some ⟨.ref C,some dx,.plain, #[]⟩:=I.obj
 refine wpAny_bind (wpAny_pure (wpAny_bind (wpAny_bind (wpAny_loadPart hx (wpAny_bind (PySem.W.Looks.here (s:={s with toks:=s.toks+1}) (PySem.W.looks_clsIn X hc) ?_))))))
 rw[hd']
 refine wpAny_pure (a:=some dx) (wpAny_bind (wpAny_pure (wpAny_bind ?_)))
 refine wpAny_nsSet1 (s:={s with toks:=s.toks+1}) I.ns λh' hn2 hs2=>?_
 obtain⟨oD,esD,epD,hoD,hdD,hcD⟩:=hn2.count (PySem.Within.cons name v hw)
 refine wpAny_bind (wpAny_lookBehind hoD (by rw[hdD];exact pastItsLine_dict (QF hcD (by rw[Qj];omega))) ?_)
 exact wpAny_pure (h _ ⟨(hs2.2 _ (Ne.symm I.ne)).trans I.obj,hn2,I.ne⟩ hs2)
theorem yx {R:Result→Shared→Prop} {vs:List Value} {kw:List (Str×Value)} (X:K.In s.heap) (hm:PySem.W.makesIn K C=true)
  (hi:PySem.W.findIn K (.ref C) "__init__"=some (some (.ref f))) (hf:PySem.W.typeIn K (.ref f)=some (.type "function"))
  (h:codeAny (model prog w) (A.under (.builtin "type.__call__" ⟨.ref C::vs,kw⟩)) (.call (.ref f) ⟨.ref (s.heap.objs.size+1)::vs,kw⟩) (PySem.W.InitBack (s.heap.objs.size+1) R)
   {s with heap:=(s.heap.push PySem.W.emptyDict).push (PySem.W.instObj C s.heap.objs.size)}):
  codeAny (model prog w) A (.call (.ref C) ⟨vs,kw⟩) R s:=by
 obtain⟨hh,g,d,t,os⟩:=s
 exact PySem.W.make_core (PySem.W.makes_of X hm) (PySem.W.looks_findIn X hi) (λself=>PySem.W.bind_fn X self hf) (.inl rfl) h
end
def aY (f:Str) (v:V):List (Str×V)→List (Str×V)
 | []=> [(f,v)]
 |(g,x)::r=>if g=f then(g,v)::r else(g,x)::aY f v r
theorem a7 (f g:Str) (v:V):∀fs:List (Str×V),(aY f v fs).lookup g=if g=f then some v else fs.lookup g
 | []=>by
  show List.lookup g [(f,v)]=_
  by_cases h:g=f
  ·have hb:(g==f)=true:=beq_iff_eq.mpr h
   simp only[List.lookup,hb,if_pos h]
  ·have hb:(g==f)=false:=beq_eq_false_iff_ne.mpr h
   simp only[List.lookup,hb,if_neg h]
 |(k,x)::r=>by
  have ih:=a7 f g v r
  rw[show aY f v ((k,x)::r)=(if k=f then(k,v)::r else(k,x)::aY f v r) from rfl]
  by_cases hk:k=f
  ·rw[if_pos hk]
   by_cases h:g=k
   ·have hb:(g==k)=true:=beq_iff_eq.mpr h
    simp only[List.lookup,hb,if_pos (h.trans hk)]
   ·have hb:(g==k)=false:=beq_eq_false_iff_ne.mpr h
    simp only[List.lookup,hb,if_neg (λe:g=f=>h (e.trans hk.symm))]
  ·rw[if_neg hk]
   by_cases h:g=k
   ·have hb:(g==k)=true:=beq_iff_eq.mpr h
    simp only[List.lookup,hb,if_neg (λe:g=f=>hk (h.symm.trans e))]
   ·have hb:(g==k)=false:=beq_eq_false_iff_ne.mpr h
    simp only[List.lookup,hb]
    exact ih
theorem mS (f:Str) (v:V):∀fs:List (Str×V),f∈(aY f v fs).map (·.1)∧∀g,g∈fs.map (·.1)→g∈(aY f v fs).map (·.1)
 | []=>⟨by simp[aY],λg h=>by simp at h⟩
 |(k,x)::r=>by
  obtain⟨i1,i2⟩:=mS f v r
  rw[show aY f v ((k,x)::r)=(if k=f then(k,v)::r else(k,x)::aY f v r) from rfl]
  by_cases hk:k=f
  ·rw[if_pos hk]
   subst hk
   exact⟨by simp,λg h=>by simpa using h⟩
  ·rw[if_neg hk]
   refine⟨?_,λg h=>?_⟩
   ·rw[Qs]
    exact Qf _ i1
   ·rw[Qs]at h⊢
    rcases Qh.mp h with e|e
    ·exact Qh.mpr (.inl e)
    ·exact Qf _ (i2 g e)
theorem m7 (f:Str) (v:V):∀fs:List (Str×V),(aY f v fs).length≤fs.length+1
 | []=>by simp[aY]
 |(k,x)::r=>by
  have ih:=m7 f v r
  rw[show aY f v ((k,x)::r)=(if k=f then(k,v)::r else(k,x)::aY f v r) from rfl]
  by_cases hk:k=f
  ·rw[if_pos hk,Qj,Qj];omega
  ·rw[if_neg hk,Qj,Qj];omega
theorem RelO.some_of {v:V} {o:Option Value} (r:RelO (some v) o):∃u,o=some u∧RelV v u:=by
 cases o with
 |none=>exact(show False from r).elim
 |some u=>exact⟨u,rfl,r⟩
theorem RelO.none_of {o:Option Value} (r:RelO none o):o=none:=by
 cases o with
 |none=>rfl
 |some u=>exact(show False from r).elim
theorem xb {v:V} {u:Value} (r:RelV v u):PySem.W.handedIn u=true:=by
 cases v with
 |non=>cases (show u=Value.none from r);rfl
 |bl b=>cases (show u=Value.bool b from r);rfl
 |int i=>obtain⟨t,e⟩:=(show ∃t,u=Value.int i t from r);cases e;rfl
 |str x=>obtain⟨t,e⟩:=(show ∃t,u=Value.str x t from r);cases e;rfl
 |byt b=>obtain⟨t,e⟩:=(show ∃t,u=Value.bytes b t from r);cases e;rfl
 |flt b=>obtain⟨t,e⟩:=(show ∃t,u=Value.float b t from r);cases e;rfl
 |ref a=>cases (show u=Value.ref a from r);rfl
 |ty n=>cases (show u=Value.type n from r);rfl
section
variable {P:Program} {w:World} {H H':Hp} {h h':Heap} {a C dx:Addr} {fs fs':List (Str×V)}
theorem ins_get (hok:HOk P w H h) (e:H a=some (.ins C dx fs)):∃mA,ObjM h a dx C mA∧(∀f,RelO (fs.lookup f) (mA f))∧PySem.Within mA (fs.map (·.1))∧fs.length≤1000∧H dx=some (.own a):=by
 obtain⟨d,z,ne,ob,mA,n,r,q⟩:=(show ObjOk P w H h a (.ins C dx fs) from hok a _ e)
 exact⟨mA,⟨ob,n,ne⟩,r,q,z,d⟩
end
structure Cls (K:PySem.W.Frag) (C:Addr):Prop where
 pg:PySem.W.plainGet K C Str.empty=true
 hd:PySem.W.hasDictIn K C=true
 po:PySem.W.plainOver K C=true
 sa:PySem.W.findIn K (.ref C) "__setattr__"=some (some (.builtin "object.__setattr__"))
theorem Cls.get {K:PySem.W.Frag} {C:Addr} (c:Cls K C) (f:Str):PySem.W.plainGet K C f=true:=c.pg
def NoAttr (K:PySem.W.Frag) (C:Addr) (f:Str):Prop:=PySem.W.findIn K (.ref C) f=some none
theorem NoAttr.taker {K:PySem.W.Frag} {C:Addr} {f:Str} (n:NoAttr K C f):PySem.W.takerIn K C f=some none:=by
 unfold PySem.W.takerIn
 rw[show PySem.W.findIn K (.ref C) f=some none from n]
 rfl
structure bF (K:PySem.W.Frag) (C:Addr) (m:Str) (f:Addr):Prop where
 at_:PySem.W.findIn K (.ref C) m=some (some (.ref f))
 fn:PySem.W.isFn K (.ref f)=true
 kp:PySem.W.keepIn K (.ref f)=true
section
variable {X:Cx} {pins:List (Addr×Obj)} {σ:St} {H:Hp} {s:Shared} {a C dx:Addr} {fs:List (Str×V)} {f:Str} {v:V} {A:Around} {E:Value→Shared→Prop}
theorem pQ {b:Bool} {Q:Value→Shared→Prop} (I:Inv X pins σ H s) (e:H a=some (.ins C dx fs)) (c:Cls X.K C) (n:NoAttr X.K C f) (l:fs.lookup f=some v)
  (h:∀u s',Inv X pins σ H s'→RelV v u→Q u s'):wpAny (model X.prog X.w) A (getAttr (.ref a) f b) Q E s:=by
 obtain⟨mA,O,r,_,_,_⟩:=ins_get I.hok e
 obtain⟨u,hu,ru⟩:=RelO.some_of (v:=v) (o:=mA f) (by rw[←l];exact r f)
 exact AA I.kIn O (c.get f) c.hd n hu (xb ru) (h u _ (I.tok _) ru)
theorem dE {m:Str} {g:Addr} {pl:Sem Bool} {Q:Value×List Value→Shared→Prop} (I:Inv X pins σ H s) (e:H a=some (.ins C dx fs)) (c:Cls X.K C) (k:bF X.K C m g) (l:fs.lookup m=none)
  (h:Q (.ref g,[.ref a]) s):wpAny (model X.prog X.w) A (getMethod (.ref a) m pl) Q E s:=by
 obtain⟨mA,O,r,_,_,_⟩:=ins_get I.hok e
 have hn:mA m=none:=RelO.none_of (by rw[←l];exact r m)
 exact yN I.kIn O (c.get m) k.at_ k.fn hn h
theorem oS {y:V} {u:Value} {Q:Unit→Shared→Prop} (I:Inv X pins σ H s) (e:H a=some (.ins C dx fs)) (c:Cls X.K C) (n:NoAttr X.K C f) (hl:fs.length<1000) (ry:RelV y u)
  (h:∀s',Inv X pins σ (upd H a (.ins C dx (aY f y fs))) s'→Q () s'):wpAny (model X.prog X.w) A (setAttr (.ref a) f u) Q E s:=by
 obtain⟨mA,O,r,wi,_,ho⟩:=ins_get I.hok e
 have hz:(fs.map (·.1)).length≤sizeLine:=by rw[Q1,sizeLine_eq];omega
 refine zY I.kIn O c.sa c.po n.taker c.hd wi hz λh' O' sb=>h _ ?_
 have hd:∃o,h'.get? dx=some o:=let⟨o,_,_,e',_⟩:=O'.ns;⟨o,e'⟩
 refine I.write (x:=a) (e:=dx) (by rw[e];exact True.intro) (.inr ho) (λb q hb z=>(sb.2 b hb).trans z) hd ?_
 refine⟨by rw[ac O.ne];exact ho,?_,O.ne,O'.obj,_,O'.ns,λg=>?_,λg hg=>?_⟩
 ·have:=m7 f y fs;omega
 ·show RelO ((aY f y fs).lookup g) (if g=f then some u else mA g)
  rw[a7]
  by_cases q:g=f
  ·rw[if_pos q,if_pos q];exact ry
  ·rw[if_neg q,if_neg q];exact r g
 ·by_cases q:g=f
  ·rw[q];exact(mS f y fs).1
  ·refine(mS f y fs).2 g (wi g λz=>hg ?_)
   show(if g=f then some u else mA g)=none
   rw[if_neg q];exact z
theorem Inv.made (I:Inv X pins σ H s):Inv X pins σ (upd (upd H s.heap.objs.size (.own (s.heap.objs.size+1))) (s.heap.objs.size+1) (.ins C s.heap.objs.size []))
  {s with heap:=(s.heap.push PySem.W.emptyDict).push (PySem.W.instObj C s.heap.objs.size)}:=by
 have e1:(s.heap.push PySem.W.emptyDict).get? s.heap.objs.size=some PySem.W.emptyDict:=Heap.get?_push_size s.heap rfl
 have e2:((s.heap.push PySem.W.emptyDict).push (PySem.W.instObj C s.heap.objs.size)).get? (s.heap.objs.size+1)=some (PySem.W.instObj C s.heap.objs.size):=by
  have:=Heap.get?_push_size (s.heap.push PySem.W.emptyDict) (o:=PySem.W.instObj C s.heap.objs.size) rfl
  rwa [Heap.size_push]at this
 have e3:(s.heap.push PySem.W.emptyDict).Ns s.heap.objs.size (λ_=>none):=⟨PySem.W.emptyDict, #[],_,e1,rfl,(λe he=>absurd he (by simp)),λ_=>rfl⟩
 have I1:=I.laid (a:=s.heap.objs.size) (o:= .own (s.heap.objs.size+1)) (h':=s.heap.push PySem.W.emptyDict) (t':=s.toks) (λb u q=>Heap.get?_push_of_some _ q) (Q5 _) ⟨_,e1⟩
 refine I1.laid (a:=s.heap.objs.size+1) (o:= .ins C s.heap.objs.size []) (t':=s.toks) (λb u q=>Heap.get?_push_of_some _ q) (Zr (Heap.size_push _ _)) ?_
 have ne:s.heap.objs.size≠s.heap.objs.size+1:=Qz (ZL _)
 refine⟨by rw[ac ne,ag],Qg _,ne,e2,λ_=>none,(Heap.Ns1.of_empty e3).at λo q=>Heap.get?_push_of_some _ q,λ_=>True.intro,λy hy=>absurd rfl hy⟩
theorem AO {prog:Program} {w:World} {env:Env} {e:Expr} {f:Str} {pos:Pos} {s:Shared} {Q:Value→Shared→Prop} (hb:attributeBase e f env (eval e env)=eval e env)
  (h:wpAny (model prog w) A (eval e env) (λo s₁=>wpAny (model prog w) A (getAttr o f true) Q E s₁) E s):wpAny (model prog w) A (eval (.Attribute e f pos) env) Q E s:=
 Attribute_any_ h (by rw[arm_eval_Attribute,hb])
end
def tFld (K:PySem.W.Frag) (ta:TE) (f:Str):TE:=λσ H Q=>ta σ H λx H1=>∃a C dx fs v,x= .ref a∧H1 a=some (.ins C dx fs)∧Cls K C∧NoAttr K C f∧fs.lookup f=some v∧Q v H1
def sFld (K:PySem.W.Frag) (ta tv:TE) (f:Str):TS:=λD σ H=>tv σ H λy H1=>ta σ H1 λx H2=>∃a C dx fs,x= .ref a∧H2 a=some (.ins C dx fs)∧Cls K C∧NoAttr K C f∧fs.length<1000∧
 D.nx σ (upd H2 a (.ins C dx (aY f y fs)))
def CH (X:Cx) (op:Operator) (rd:V→V→Hp→VK→Prop):Prop:=
 ∀(pins:List (Addr×Obj)) (s:Shared) (σ:St) (H:Hp) (x y:V) (u v:Value) (Q:VK),Inv X pins σ H s→RelV x u→RelV y v→rd x y H Q→wpAny (model X.prog X.w) X.A (inplaceOp op u v) (EP X pins σ Q) X.xe s
def zZ (K:PySem.W.Frag) (ta tv:TE) (rd:V→V→Hp→VK→Prop) (f:Str):TS:=λD σ H=>ta σ H λx H1=>∃a C dx fs v,x= .ref a∧H1 a=some (.ins C dx fs)∧Cls K C∧NoAttr K C f∧fs.lookup f=some v∧
 tv σ H1 λy H2=>rd v y H2 λz H3=>∃dx' fs',H3 a=some (.ins C dx' fs')∧fs'.length<1000∧D.nx σ (upd H3 a (.ins C dx' (aY f z fs')))
section
variable {X:Cx} {o e value:Expr} {f:Str} {pos pos' tpos:Pos} {ta tv:TE}
theorem aq (he:PE X e ta) (hb:attributeBase e f X.env (eval e X.env)=eval e X.env):PE X (.Attribute e f pos) (tFld X.K ta f):=by
 intro pins s σ H Q I h
 refine AO hb (thn (he pins s σ H _ I h) λu s1 hzz=>?_)
 obtain⟨x,H1,I1,rx,a,C,dx,fs,v,ex,ea,c,n,l,q⟩:=hzz
 subst ex
 obtain rfl:u=Value.ref a:=rx
 exact pQ I1 ea c n l λu' s2 I2 ru=>⟨v,H1,I2,ru,q⟩
theorem bq (ha:PE X o ta) (hv:PE X value tv) (hs:swapsWith value (some (.Attribute o f pos')) pos.line X.env=pure false):PS X (.Assign [.Attribute o f pos'] value pos) (sFld X.K ta tv f):=by
 intro pins s σ H D I h
 refine plainObj_wpAny_Assign_Attribute (thn (hv pins s σ H _ I h) λu s1 ⟨y,H1,I1,ry,q⟩=>thn (ha pins s1 σ H1 _ I1 q) λov s2 hzz=>?_) hs
 obtain⟨x,H2,I2,rx,a,C,dx,fs,ex,ea,c,n,l,q2⟩:=hzz
 subst ex
 obtain rfl:ov=Value.ref a:=rx
 exact oS I2 ea c n l ry λs3 I3=>⟨σ,_,I3,q2⟩
theorem eM {op:Operator} {rd:V→V→Hp→VK→Prop} (ha:PE X o ta) (hv:PE X value tv) (hop:CH X op rd):PS X (.AugAssign (.Attribute o f tpos) op value pos) (zZ X.K ta tv rd f):=by
 intro pins s σ H D I h
 refine wpAny_AugAssign_AttributeAny (thn (ha pins s σ H _ I h) λov s1 hzz=>?_)
 obtain⟨x,H1,I1,rx,a,C,dx,fs,v,ex,ea,c,n,l,q⟩:=hzz
 subst ex
 obtain rfl:ov=Value.ref a:=rx
 refine pQ I1 ea c n l λu s2 I2 ru=>thn (hv pins s2 σ H1 _ I2 q) λw3 s3 ⟨y,H2,I3,ry,q3⟩=>thn (hop pins s3 σ H2 v y u w3 _ I3 ru ry q3) λw4 s4 hzz=>?_
 obtain⟨z,H3,I4,rz,dx',fs',ea',l',q4⟩:=hzz
 exact oS I4 ea' c n l' rz λs5 I5=>⟨σ,_,I5,q4⟩
def rAdd:V→V→Hp→VK→Prop:=λx y H Q=>∃i j,x= .int i∧y= .int j∧Q (.int (i+j)) H
def rSub:V→V→Hp→VK→Prop:=λx y H Q=>∃i j,x= .int i∧y= .int j∧Q (.int (i-j)) H
theorem pP:CH X .Add rAdd:=by
 rintro pins s σ H x y u v Q I rx ry ⟨i,j,rfl,rfl,q⟩
 obtain⟨t,rfl⟩:=(show ∃t,u=Value.int i t from rx)
 obtain⟨t',rfl⟩:=(show ∃t',v=Value.int j t' from ry)
 exact PyProof.Rows.iadd_int ⟨.int (i+j),H,I.tok _,⟨_,rfl⟩,q⟩
theorem Ci:CH X .Sub rSub:=by
 rintro pins s σ H x y u v Q I rx ry ⟨i,j,rfl,rfl,q⟩
 obtain⟨t,rfl⟩:=(show ∃t,u=Value.int i t from rx)
 obtain⟨t',rfl⟩:=(show ∃t',v=Value.int j t' from ry)
 exact PyProof.Rows.isub_int ⟨.int (i-j),H,I.tok _,⟨_,rfl⟩,q⟩
theorem Bq {pl:Sem Bool} {m:Str} {apos:Pos} {args:List Expr} {pins:List (Addr×Obj)} {s:Shared} {σ:St} {H:Hp} {Q:Value→Shared→Prop} {te:TE} (he:PE X e te) (I:Inv X pins σ H s)
  (h:te σ H λx H1=>∃a C dx fs g,x= .ref a∧H1 a=some (.ins C dx fs)∧Cls X.K C∧bF X.K C m g∧fs.lookup m=none∧
   ∀s1,Inv X pins σ H1 s1→wpAny (model X.prog X.w) X.A (callWith pos (.ref g) [.ref a] (backTo pos (starEach args X.env)) (backToKw pos (keywordEach [] X.env))) Q X.xe s1)
  (ht:eval (.Call (.Attribute e m apos) args [] pos) X.env=(do
   let ov←eval e X.env
   standAt apos.atName
   let(f,first)←holding [ov] (getMethod ov m pl)
   callWith pos f first (backTo pos (starEach args X.env)) (backToKw pos (keywordEach [] X.env)))):
  wpAny (model X.prog X.w) X.A (eval (.Call (.Attribute e m apos) args [] pos) X.env) Q X.xe s:=by
 refine QM (pl:=pl) (thn (he pins s σ H _ I h) λu s1 hzz=>?_) ht
 obtain⟨x,H1,I1,rx,a,C,dx,fs,g,ex,ea,c,k,l,q⟩:=hzz
 subst ex
 obtain rfl:u=Value.ref a:=rx
 exact dE I1 ea c k l (q s1 I1)
end
section
variable {X:Cx} {pins:List (Addr×Obj)} {σ:St} {H:Hp} {s:Shared} {A:Around} {E:Value→Shared→Prop} {Q:Value→Shared→Prop} {c:Value} {b:Bool}
inductive TyOf (K:PySem.W.Frag) (H:Hp):V→Value→Prop where
 |non:TyOf K H .non (.type "NoneType")
 |bl (x:Bool):TyOf K H (.bl x) (.type "bool")
 |int (i:Int):TyOf K H (.int i) (.type "int")
 |str (x:Str):TyOf K H (.str x) (.type "str")
 |flt (x:UInt64):TyOf K H (.flt x) (.type "float")
 |lst {a:Addr} {xs:List V} (e:H a=some (.lst xs)):TyOf K H (.ref a) (.type "list")
 |frz {a:Addr} {o:Obj} {xs:List V} (e:H a=some (.frz o (.lst xs))):TyOf K H (.ref a) (.type "list")
 |tup {a:Addr} {xs:List V} (e:H a=some (.tup xs)):TyOf K H (.ref a) (.type "tuple")
 |dK {a:Addr} {kvs:List (Key×V)} (e:H a=some (.dK kvs)):TyOf K H (.ref a) (.type "dict")
 |dT {a:Addr} {kvs:List (List Key×V)} (e:H a=some (.dT kvs)):TyOf K H (.ref a) (.type "dict")
 |ins {a C dx:Addr} {fs:List (Str×V)} (e:H a=some (.ins C dx fs)) (cl:Cls K C) (ha:PySem.W.findIn K (.ref C) "__class__"=some (some (.builtin "object.__class__")))
   (hn:PySem.W.specialIn K (.builtin "object.__class__") "__get__"=some (some (.builtin "getset_descriptor.__get__"))) (htk:PySem.W.takesIn K (.builtin "object.__class__")=some true)
   (hm:PySem.W.mroIn K C (.type "object")=some true):TyOf K H (.ref a) (.ref C)
theorem wZ {x:V} {u t:Value} (I:Inv X pins σ H s) (rx:RelV x u) (ty:TyOf X.K H x t) (e:PySem.W.kitOne X.K t c=some b) (h:∀tk,Q (.bool b) {s with toks:=tk}):
  wpAny (model X.prog X.w) A (call (.builtin "isinstance") [u,c]) Q E s:=by
 cases ty with
 |non=>cases (show u=Value.none from rx);exact QI PySem.W.kitx_none I.kIn True.intro e (λz=>nomatch z) h
 |bl y=>cases (show u=Value.bool y from rx);exact QI PySem.W.kitx_bool I.kIn True.intro e (λz=>nomatch z) h
 |int i=>obtain⟨t,q⟩:=(show ∃t,u=Value.int i t from rx);cases q;exact QI PySem.W.kitx_int I.kIn True.intro e (λz=>nomatch z) h
 |str y=>obtain⟨t,q⟩:=(show ∃t,u=Value.str y t from rx);cases q;exact QI PySem.W.kitx_str I.kIn True.intro e (λz=>nomatch z) h
 |flt y=>obtain⟨t,q⟩:=(show ∃t,u=Value.float y t from rx);cases q;exact QI PySem.W.kitx_float I.kIn True.intro e (λz=>nomatch z) h
 | @lst a xs ea=>
  cases (show u=Value.ref a from rx)
  obtain⟨_,_,n,_,h1⟩:=(show ObjOk X.prog X.w H s.heap a (.lst xs) from I.hok a _ ea)
  exact QI PySem.W.kitx_list I.kIn ⟨_,h1,rfl⟩ e (λz=>nomatch z) h
 | @frz a ob xs ea=>
  cases (show u=Value.ref a from rx)
  obtain⟨_,_,_,n,_,h1⟩:=(show ObjOk X.prog X.w H s.heap a (.frz ob (.lst xs)) from I.hok a _ ea)
  exact QI PySem.W.kitx_list I.kIn ⟨_,h1,rfl⟩ e (λz=>nomatch z) h
 | @tup a xs ea=>
  cases (show u=Value.ref a from rx)
  obtain⟨_,_,_,p⟩:=(show ObjOk X.prog X.w H s.heap a (.tup xs) from I.hok a _ ea)
  obtain⟨o,h1,h2,_⟩:=p
  exact QI PySem.W.kitx_tuple I.kIn ⟨o,h1,h2⟩ e (λz=>nomatch z) h
 | @dK a kvs ea=>
  cases (show u=Value.ref a from rx)
  obtain⟨_,_,vs,_,p⟩:=(show ObjOk X.prog X.w H s.heap a (.dK kvs) from I.hok a _ ea)
  obtain⟨o,es,ep,h1,h2,_⟩:=p
  exact QI PySem.W.kitx_dict I.kIn ⟨o,h1,h2.1⟩ e (λz=>nomatch z) h
 | @dT a kvs ea=>
  cases (show u=Value.ref a from rx)
  obtain⟨_,_,xs,_,o,es,ep,h1,h2,_⟩:=(show ObjOk X.prog X.w H s.heap a (.dT kvs) from I.hok a _ ea)
  exact QI PySem.W.kitx_dict I.kIn ⟨o,h1,h2.1⟩ e (λz=>nomatch z) h
 | @ins a C dx fs ea cl ha hn htk hm=>
  cases (show u=Value.ref a from rx)
  obtain⟨mA,O,_⟩:=ins_get I.hok ea
  obtain⟨od,J,_⟩:=O.look
  exact QI (PySem.W.kitx_own (cl.get _) cl.hd ha hn htk hm) I.kIn J e (λz=>nomatch z) h
end
end L2
namespace L2
open PySem PySem.Spec PyProof.Rows
structure Room (k:Nat) (A:Around):Prop where
 hd:A.handled=none
 dp:A.depth+3*k+5<recursionLimit
 un:A.units+16*k+200<cLine
theorem Room.mono {j k:Nat} {A:Around} (r:Room k A) (h:j≤k):Room j A:=⟨r.hd,by have:=r.dp;omega,by have:=r.un;omega⟩
theorem Room.deeper {k:Nat} {A:Around} (r:Room (k+1) A) (env:Env):Room k (A.deeper env):=
 ⟨r.hd,by have:=r.dp;show A.depth+1+3*k+5<_;omega,by have:=r.un;show A.units+3+16*k+200<_;omega⟩
theorem uQ {A:Around} {C:Addr} {us:List Value} {kw:List (Str×Value)}:(A.under (.builtin "type.__call__" ⟨.ref C::us,kw⟩)).depth=A.depth+1:=by
 first|rfl|simp[Around.under,Code.weight,Code.isCreation,Code.isGuard,Code.isCaller,Code.frames,Code.isFrame,guardIds]
theorem uP {A:Around} {C:Addr} {us:List Value} {kw:List (Str×Value)}:(A.under (.builtin "type.__call__" ⟨.ref C::us,kw⟩)).units=A.units+1:=by
 first|rfl|simp[Around.under,Code.cUnits,Code.frames,Code.isFrame]
theorem Room.make {k:Nat} {A:Around} (r:Room (k+1) A) (C:Addr) (us:List Value) (kw:List (Str×Value)):Room k (A.under (.builtin "type.__call__" ⟨.ref C::us,kw⟩)):=
 ⟨r.hd,by have:=r.dp;rw[uQ];omega,by have:=r.un;rw[uP];omega⟩
theorem Room.depth {k:Nat} {A:Around} (r:Room k A):A.depth<recursionLimit:=by have:=r.dp;omega
theorem Room.units {k:Nat} {A:Around} (r:Room k A):A.units+64<cLine:=by have:=r.un;omega
def wt:TA:=λ_ H Q=>Q [] H
def Bc (ta:TE) (tr:TA):TA:=λσ H Q=>ta σ H λx H1=>tr σ H1 λxs H2=>Q (x::xs) H2
section
variable {X:Cx} {e:Expr} {es:List Expr} {te:TE} {t:TA} {pos:Pos}
theorem ah:PA X [] wt:=λ_ _ _ _ H Q I h=>Calls.spliced_nil ⟨[],H,I,.nil,h⟩
theorem aa (ha:PE X e te) (hr:PA X es t) (hs:starEach (e::es) X.env=(false,eval e X.env)::starEach es X.env:=by rfl):PA X (e::es) (Bc te t):=by
 intro pos pins s σ H Q I h
 rw[hs]
 show wpAny _ _ (spliced ((false,eval e X.env)::backTo pos (starEach es X.env))) _ _ s
 refine Calls.spliced_cons (thn (ha pins s σ H _ I h) λu s1 hzz=>?_)
 obtain⟨x,H1,I1,r1,q1⟩:=hzz
 exact thn (hr pos pins s1 σ H1 _ I1 q1) λus s2 ⟨xs,H2,I2,r2,q2⟩=>⟨x::xs,H2,I2,.cons r1 r2,q2⟩
def tTup (t:TA):TE:=λσ H Q=>t σ H λxs H1=>xs.length≤sizeLine∧∀p,H1 p=none→Q (.ref p) (upd H1 p (.tup xs))
def tLst (t:TA):TE:=λσ H Q=>t σ H λxs H1=>xs.length≤sizeLine∧∀p,H1 p=none→Q (.ref p) (upd H1 p (.lst xs))
theorem cH {x1} (h:PA X es t):PE X (.Tuple es x1 pos) (tTup t):=by
 intro pins s σ H Q I hq
 refine wpAny_Tuple_spliced (thn (h pos pins s σ H _ I hq) λus s1 ⟨xs,H1,I1,r,z,q⟩=>⟨by rw[←r.length];exact z,?_⟩)
 have hf:H1 s1.heap.objs.size=none:=I1.hok.fresh (Q5 _)
 refine⟨.ref s1.heap.objs.size,upd H1 s1.heap.objs.size (.tup xs),I1.laid (t':=s1.toks) (λb u e=>Heap.get?_push_of_some _ e) (Q5 _) ?_,rfl,q _ hf⟩
 exact⟨z,us,r,⟨_,Heap.get?_push_size _ rfl,rfl,_,rfl⟩⟩
theorem bZ (h:PA X es t):PE X (.List es pos) (tLst t):=by
 intro pins s σ H Q I hq
 refine wpAny_List_spliced (thn (h pos pins s σ H _ I hq) λus s1 ⟨xs,H1,I1,r,z,q⟩=>⟨by rw[←r.length];exact z,?_⟩)
 have hf:H1 s1.heap.objs.size=none:=I1.hok.fresh (Q5 _)
 refine⟨.ref s1.heap.objs.size,upd H1 s1.heap.objs.size (.lst xs),I1.laid (t':=s1.toks) (λb u e=>Heap.get?_push_of_some _ e) (Q5 _) ?_,rfl,q _ hf⟩
 exact⟨z,us,0,r,Heap.get?_push_size _ rfl⟩
end
abbrev Sp:=List V→Hp→VK→XK→Prop
abbrev CXT:=List Env→Hp→Shared→XK→Value→Shared→Prop
structure Env0 (P:Program) (w:World) (K:PySem.W.Frag) (mg:Str→Option Value) (base:Heap) (A:Around) (outer:List Env) (s:Shared) (H:Hp):Prop where
 frames:A.frames=some outer
 mod:Mod K mg base
 bs:∀b o,base.get? b=some o→s.heap.get? b=some o∧H b=none
 bsz:base.objs.size≤s.heap.objs.size
 funs:s.heap.FunFrames base outer
 frf:∀b∈frs outer,H b=none
 hok:HOk P w H s.heap
 bare:AllBare s.gens
def CE (outer:List Env) (P:Program) (w:World) (H:Hp) (s:Shared) (Q:VK) (u:Value) (s':Shared):Prop:=
 ∃v H',s'.os=s.os∧AllBare s'.gens∧Un (frs outer) [] H H' s.heap s'.heap∧HOk P w H' s'.heap∧RelV v u∧Q v H'
def CR (CX:CXT) (outer:List Env) (P:Program) (w:World) (H:Hp) (s:Shared) (Q:VK) (E:XK) (r:Result) (s':Shared):Prop:=
 match r with
 | .ok (.ret u)=>CE outer P w H s Q u s'
 | .ok _=>False
 | .error e=>CX outer H s E e s'
structure FnOk (P:Program) (w:World) (K:PySem.W.Frag) (mg:Str→Option Value) (base:Heap) (CX:CXT) (k:Nat) (f:Addr) (fd:FuncData) (ps:List Str) (sp:Sp):Prop where
 len:∀vs H Q E,sp vs H Q E→vs.length=ps.length
 run:∀(A:Around) (outer:List Env) (s:Shared) (H:Hp) (args:Args) (us:List Value) (vs:List V) (Q:VK) (E:XK),Room k A→Env0 P w K mg base A outer s H→BindsTo s fd args (ps.zip us)→Vals vs us→sp vs H Q E→
  codeAny (model P w) A (.call (.ref f) args) (CR CX outer P w H s Q E) s
theorem FnOk.mono {P:Program} {w:World} {K:PySem.W.Frag} {mg:Str→Option Value} {base:Heap} {CX:CXT} {j k:Nat} {f:Addr} {fd:FuncData} {ps:List Str} {sp:Sp} (F:FnOk P w K mg base CX j f fd ps sp) (h:j≤k):
  FnOk P w K mg base CX k f fd ps sp:=⟨F.len,λA outer s H args us vs Q E hr=>F.run A outer s H args us vs Q E (hr.mono h)⟩
theorem Env0.make {P:Program} {w:World} {K:PySem.W.Frag} {mg:Str→Option Value} {base:Heap} {A:Around} {outer:List Env} {s:Shared} {H:Hp} (e:Env0 P w K mg base A outer s H) (C:Addr) (us:List Value) (kw:List (Str×Value)):
  Env0 P w K mg base (A.under (.builtin "type.__call__" ⟨.ref C::us,kw⟩)) outer s H:=⟨by first|exact e.frames|(simpa[Around.under,Code.envs,Code.isFrame,pushEnvs]using e.frames),e.mod,e.bs,e.bsz,e.funs,e.frf,e.hok,e.bare⟩
section
variable {X:Cx} {pins:List (Addr×Obj)} {σ:St} {H:Hp} {s s':Shared}
theorem Inv.env0 (I:Inv X pins σ H s):Env0 X.prog X.w X.K X.mg X.base X.A X.stack s H:=
 ⟨I.ok.frames,I.ok.mod,I.bs,QF I.ok.bsz I.sz,I.stack,I.stkFree,I.hok,I.bare⟩
theorem Inv.after {Q:VK} {u:Value} (I:Inv X pins σ H s) (h:CE X.stack X.prog X.w H s Q u s'):EP X pins σ Q u s':=by
 obtain⟨v,H',os,bare,un,hok,r,q⟩:=h
 obtain⟨hh,g,d,t,os'⟩:=s'
 obtain rfl:os'=s.os:=os
 exact⟨v,H',I.call (h':=hh) (g':=g) (d':=d) (t':=t) (ch:=[]) un hok bare (λb z=>absurd z (by simp)),r,q⟩
end
def Bd (sp:Sp) (dvs:List V) (E:XK) (t:TA):TE:=λσ H Q=>t σ H λvs H1=>sp (vs++dvs) H1 Q E
def Ba (C:Addr) (m:Str) (sp:Sp) (dvs:List V) (E:XK) (ta:TE) (t:TA):TE:=λσ H Q=>ta σ H λx H1=>∃a dx fs,x= .ref a∧H1 a=some (.ins C dx fs)∧fs.lookup m=none∧
 t σ H1 λvs H2=>sp (x::(vs++dvs)) H2 Q E
def Bb (C:Addr) (sp:Sp) (dvs:List V) (E:XK) (t:TA):TE:=λσ H Q=>t σ H λvs H1=>∀x dx,H1 x=none→H1 dx=none→dx≠x→
 sp (.ref x::(vs++dvs)) (upd (upd H1 dx (.own x)) x (.ins C dx [])) (λv H2=>v= .non∧Q (.ref x) H2) E
def Binds (K:PySem.W.Frag) (fd:FuncData) (ps:List Str) (ds:List Value):Prop:=
 ∀(s:Shared) (us:List Value),K.In s.heap→(us++ds).length=ps.length→BindsTo s fd ⟨us,[]⟩ (ps.zip (us++ds))
theorem Binds.all {K:PySem.W.Frag} {fd:FuncData} {ps:List Str} (h:∀us:List Value,us.length=ps.length→bindArgs fd ⟨us,[]⟩=pure (ps.zip us)):Binds K fd ps []:=λs us _ hl=>by
 rw[ZU]at hl⊢
 exact .of_eq (h us hl)
def iI (CX:CXT) (X:Cx) (E:XK):Prop:=∀(pins:List (Addr×Obj)) (σ:St) (H:Hp) (s:Shared) (e:Value) (s':Shared),Inv X pins σ H s→CX X.stack H s E e s'→X.xe e s'
section
variable {X:Cx} {CX:CXT} {k:Nat} {f C:Addr} {fd:FuncData} {ps:List Str} {sp:Sp} {dvs:List V} {ds:List Value} {E:XK} {x m:Str} {p pos apos:Pos} {e o:Expr} {es:List Expr} {ta:TE} {t:TA}
theorem mK {pins:List (Addr×Obj)} {σ:St} {H:Hp} {s:Shared} {Q:VK} {us:List Value} {vs:List V} (F:FnOk X.prog X.w X.K X.mg X.base CX k f fd ps sp) (hr:Room k X.A) (hb:Binds X.K fd ps ds) (hd:Vals dvs ds) (hx:iI CX X E)
  (I:Inv X pins σ H s) (r:Vals vs us) (h:sp (vs++dvs) H Q E):wpAny (model X.prog X.w) X.A (call (.ref f) us) (EP X pins σ Q) X.xe s:=by
 have r2:Vals (vs++dvs) (us++ds):=r.append hd
 have hl:(us++ds).length=ps.length:=by rw[←r2.length];exact F.len _ _ _ _ h
 refine wpAny_call (codeAny_mono (F.run X.A X.stack s H ⟨us,[]⟩ (us++ds) (vs++dvs) Q E hr I.env0 (hb s us I.kIn hl) r2 h) λr s' hq=>?_)
 cases r with
 |error e=>exact hx pins σ H s e s' I hq
 |ok fl=>
  cases fl with
  |ret u=>exact I.after hq
  |next=>exact False.elim hq
  |brk=>exact False.elim hq
  |cont=>exact False.elim hq
theorem aQ (F:FnOk X.prog X.w X.K X.mg X.base CX k f fd ps sp) (hr:Room k X.A) (hg:Gl X x) (hm:X.mg x=some (.ref f)) (hk:PySem.W.keepIn X.K (.ref f)=true) (hb:Binds X.K fd ps ds) (hd:Vals dvs ds) (hx:iI CX X E)
  (ha:PA X (e::es) t) (hdb:(x==("__debug__":Str))=false:=by decide) (he:starEach (e::es) X.env=(false,eval e X.env)::starEach es X.env:=by rfl) (hpl:(backTo pos (starEach es X.env)).any (·.1)=false:=by rfl):
  PE X (.Call (.Name x p) (e::es) [] pos) (Bd sp dvs E t):=by
 intro pins s σ H Q I h
 refine wpAny_Call_Name_kw (iz I hg hm ?_ hdb)
 refine Zb (h₀:=X.base) I.ok.mod.kin hk (thn (ha pos pins s σ H _ I h) λus s1 ⟨vs,H1,I1,r,q⟩=>⟨I1.kIn,?_⟩) he hpl
 exact mK F hr hb hd hx I1 r q
theorem a9 {pl:Sem Bool} (he:PE X o ta) (c:Cls X.K C) (hm:bF X.K C m f) (F:FnOk X.prog X.w X.K X.mg X.base CX k f fd ps sp) (hr:Room k X.A) (hb:Binds X.K fd ps ds) (hd:Vals dvs ds) (hx:iI CX X E) (ha:PA X (e::es) t)
  (hst:starEach (e::es) X.env=(false,eval e X.env)::starEach es X.env:=by rfl) (hpl:(backTo pos (starEach es X.env)).any (·.1)=false:=by rfl)
  (ht:eval (.Call (.Attribute o m apos) (e::es) [] pos) X.env=(do
   let ov←eval o X.env
   standAt apos.atName
   let(f,first)←holding [ov] (getMethod ov m pl)
   callWith pos f first (backTo pos (starEach (e::es) X.env)) (backToKw pos (keywordEach [] X.env))):=by rfl):
  PE X (.Call (.Attribute o m apos) (e::es) [] pos) (Ba C m sp dvs E ta t):=by
 intro pins s σ H Q I h
 refine QM (pl:=pl) (thn (he pins s σ H _ I h) λu s1 hzz=>?_) ht
 obtain⟨x,H1,I1,rx,a,dx,fs,ex,ea,l,q⟩:=hzz
 subst ex
 obtain rfl:u=Value.ref a:=rx
 refine dE I1 ea c hm l ?_
 refine Zb (first:=[.ref a]) (h₀:=X.base) I.ok.mod.kin hm.kp (thn (ha pos pins s1 σ H1 _ I1 q) λus s2 ⟨vs,H2,I2,r,q2⟩=>⟨I2.kIn,?_⟩) hst hpl
 exact mK (us:= .ref a::us) (vs:= .ref a::vs) F hr hb hd hx I2 (.cons rfl r) q2
theorem bB {pl:Sem Bool} (he:PE X o ta) (c:Cls X.K C) (hm:bF X.K C m f) (F:FnOk X.prog X.w X.K X.mg X.base CX k f fd ps sp) (hr:Room k X.A) (hb:Binds X.K fd ps ds) (hd:Vals dvs ds) (hx:iI CX X E)
  (ht:eval (.Call (.Attribute o m apos) [] [] pos) X.env=(do
   let ov←eval o X.env
   standAt apos.atName
   let(f,first)←holding [ov] (getMethod ov m pl)
   callWith pos f first (backTo pos (starEach [] X.env)) (backToKw pos (keywordEach [] X.env))):=by rfl):
  PE X (.Call (.Attribute o m apos) [] [] pos) (Ba C m sp dvs E ta wt):=by
 intro pins s σ H Q I h
 refine QM (pl:=pl) (thn (he pins s σ H _ I h) λu s1 hzz=>?_) ht
 obtain⟨x,H1,I1,rx,a,dx,fs,ex,ea,l,q⟩:=hzz
 subst ex
 obtain rfl:u=Value.ref a:=rx
 refine dE I1 ea c hm l ?_
 exact ZC (first:=[.ref a]) I1.kIn hm.kp (mK (us:=[.ref a]) (vs:=[.ref a]) F hr hb hd hx I1 (.cons rfl .nil) q)
structure Mk (K:PySem.W.Frag) (C f:Addr):Prop where
 makes:PySem.W.makesIn K C=true
 init:PySem.W.findIn K (.ref C) "__init__"=some (some (.ref f))
 fn:PySem.W.isFn K (.ref f)=true
 kp:PySem.W.keepIn K (.ref C)=true
theorem sW {pins:List (Addr×Obj)} {σ:St} {H:Hp} {s:Shared} {Q:VK} {us:List Value} {vs:List V} (M:Mk X.K C f) (F:FnOk X.prog X.w X.K X.mg X.base CX k f fd ps sp) (hr:Room (k+1) X.A) (hb:Binds X.K fd ps ds) (hd:Vals dvs ds)
  (hx:iI CX X E) (I:Inv X pins σ H s) (r:Vals vs us)
  (h:∀x dx,H x=none→H dx=none→dx≠x→sp (.ref x::(vs++dvs)) (upd (upd H dx (.own x)) x (.ins C dx [])) (λv H2=>v= .non∧Q (.ref x) H2) E):
  wpAny (model X.prog X.w) X.A (call (.ref C) us) (EP X pins σ Q) X.xe s:=by
 have hq:=h (s.heap.objs.size+1) s.heap.objs.size (I.hok.fresh (Zf _)) (I.hok.fresh (Q5 _)) (Qz (ZL _))
 have I2:=Inv.made (C:=C) I
 have r2:Vals (V.ref (s.heap.objs.size+1)::(vs++dvs)) (Value.ref (s.heap.objs.size+1)::(us++ds)):= .cons rfl (r.append hd)
 have hl:(Value.ref (s.heap.objs.size+1)::us++ds).length=ps.length:=by
  have e:=r2.length
  rw[F.len _ _ _ _ hq]at e
  exact e.symm
 refine wpAny_call (yx (f:=f) I.kIn M.makes M.init (beq_iff_eq.mp M.fn) (codeAny_mono (F.run _ X.stack _ _ ⟨Value.ref (s.heap.objs.size+1)::us,[]⟩ (Value.ref (s.heap.objs.size+1)::(us++ds)) _ _ E (hr.make C us [])
  (I2.env0.make C us []) (hb _ (Value.ref (s.heap.objs.size+1)::us) I2.kIn hl) r2 hq) λr s' hq'=>?_))
 cases r with
 |error e=>exact hx pins σ _ _ e s' I2 hq'
 |ok fl=>
  cases fl with
  |ret u=>
   obtain⟨v,H',I3,rv,ev,q3⟩:=I2.after hq'
   subst ev
   exact⟨rv,⟨V.ref (s.heap.objs.size+1),H',I3,rfl,q3⟩⟩
  |next=>exact False.elim hq'
  |brk=>exact False.elim hq'
  |cont=>exact False.elim hq'
theorem oq (M:Mk X.K C f) (F:FnOk X.prog X.w X.K X.mg X.base CX k f fd ps sp) (hr:Room (k+1) X.A) (hg:Gl X x) (hm:X.mg x=some (.ref C)) (hb:Binds X.K fd ps ds) (hd:Vals dvs ds) (hx:iI CX X E)
  (ha:PA X (e::es) t) (hdb:(x==("__debug__":Str))=false:=by decide) (he:starEach (e::es) X.env=(false,eval e X.env)::starEach es X.env:=by rfl) (hpl:(backTo pos (starEach es X.env)).any (·.1)=false:=by rfl):
  PE X (.Call (.Name x p) (e::es) [] pos) (Bb C sp dvs E t):=by
 intro pins s σ H Q I h
 refine wpAny_Call_Name_kw (iz I hg hm ?_ hdb)
 refine Zb (h₀:=X.base) I.ok.mod.kin M.kp (thn (ha pos pins s σ H _ I h) λus s1 ⟨vs,H1,I1,r,q⟩=>⟨I1.kIn,?_⟩) he hpl
 exact sW M F hr hb hd hx I1 r q
theorem lP (M:Mk X.K C f) (F:FnOk X.prog X.w X.K X.mg X.base CX k f fd ps sp) (hr:Room (k+1) X.A) (hg:Gl X x) (hm:X.mg x=some (.ref C)) (hb:Binds X.K fd ps ds) (hd:Vals dvs ds) (hx:iI CX X E)
  (hdb:(x==("__debug__":Str))=false:=by decide):PE X (.Call (.Name x p) [] [] pos) (Bb C sp dvs E wt):=by
 intro pins s σ H Q I h
 refine wpAny_Call_Name_kw (iz I hg hm ?_ hdb)
 exact ZC I.kIn M.kp (sW (us:=[]) M F hr hb hd hx I .nil h)
end
structure ao (N P:List Str) (sc:Scope):Prop where
 kind:sc.kind= .function
 co:sc.isCoroutine=false
 gen:sc.isGenerator=false
 nd:N.Nodup
 pre:N.take P.length=P
 par:∀x∈P,sc.names.lookup x=some .local∨sc.names.lookup x=some .cell
 nofree:∀y∈sc.names,y.2≠ .free
theorem rg {kindOf:Str→Option NameKind} {x:Str}:∀{binds:List (Str×Value)} {m:Str→Option Value},(∀v,(x,v)∉binds)→bindL kindOf binds m x=m x
 | [],_,_=>rfl
 |(n,v)::r,m,h=>by
  unfold bindL
  rw[rg λw hw=>h w (Qf _ hw)]
  split
  ·have:x≠n:=by rintro rfl;exact h v Qi
   simp[this]
  ·rfl
theorem rj {kindOf:Str→Option NameKind} {x:Str}:∀{binds:List (Str×Value)} {m:Str→Option Value},(∀v,(x,v)∉binds)→bindC kindOf binds m x=m x
 | [],_,_=>rfl
 |(n,v)::r,m,h=>by
  unfold bindC
  rw[rj λw hw=>h w (Qf _ hw)]
  split
  ·rfl
  ·have:x≠n:=by rintro rfl;exact h v Qi
   simp[this]
theorem rh {kindOf:Str→Option NameKind} {x:Str} {v:Value}:∀{P:List Str} {vs:List Value} {i:Nat} {m:Str→Option Value},P.Nodup→P[i]?=some x→vs[i]?=some v→kindOf x=some .local→
  bindL kindOf (P.zip vs) m x=some v
 | [],_,_,_,_,h,_,_=>by simp at h
 |_::_,[],_,_,_,_,h,_=>by simp at h
 |p::P,w::vs,0,m,nd,h1,h2,hk=>by
  simp at h1 h2;subst h1;subst h2
  show bindL kindOf ((p,w)::P.zip vs) m p=_
  unfold bindL
  rw[rg λv hv=>(QE.mp nd).1 (Xg hv).1,if_pos hk]
  simp
 |p::P,w::vs,i+1,m,nd,h1,h2,hk=>by
  show bindL kindOf ((p,w)::P.zip vs) m x=_
  unfold bindL
  exact rh (i:=i) (QE.mp nd).2 (by simpa using h1) (by simpa using h2) hk
theorem rl {kindOf:Str→Option NameKind} {x:Str} {v:Value}:∀{P:List Str} {vs:List Value} {i:Nat} {m:Str→Option Value},P.Nodup→P[i]?=some x→vs[i]?=some v→kindOf x≠some .local→
  bindC kindOf (P.zip vs) m x=some v
 | [],_,_,_,_,h,_,_=>by simp at h
 |_::_,[],_,_,_,_,h,_=>by simp at h
 |p::P,w::vs,0,m,nd,h1,h2,hk=>by
  simp at h1 h2;subst h1;subst h2
  show bindC kindOf ((p,w)::P.zip vs) m p=_
  unfold bindC
  rw[rj λv hv=>(QE.mp nd).1 (Xg hv).1,if_neg hk]
  simp
 |p::P,w::vs,i+1,m,nd,h1,h2,hk=>by
  show bindC kindOf ((p,w)::P.zip vs) m x=_
  unfold bindC
  exact rl (i:=i) (QE.mp nd).2 (by simpa using h1) (by simpa using h2) hk
def start (N:List Str) (vs:List V):St:=vs.map some++List.replicate (N.length-vs.length) none
def oi (CX:CXT) (P:Program) (w:World) (K:PySem.W.Frag) (mg:Str→Option Value) (base:Heap) (N:List Str) (qual:Str) (scope:Scope) (f:Addr) (cd:Value) (A:Around) (outer:List Env) (s:Shared) (H:Hp) (E:XK):Cx where
 prog:=P
 w:=w
 K:=K
 mg:=mg
 base:=base
 A:=A.deeper (envOfC qual scope s.heap.objs.size f cd)
 N:=N
 s₀:=s
 H₀:=H
 env:=envOfC qual scope s.heap.objs.size f cd
 outer:=outer
 stack:=envOfC qual scope s.heap.objs.size f cd::outer
 ex:=[]
 calm:=true
 fn:=λ_=>true
 pn:=[]
 xe:=λe s'=>wpAny (model P w) (A.deeper (envOfC qual scope s.heap.objs.size f cd)) (leaving (envOfC qual scope s.heap.objs.size f cd) e) (λ_ s''=>CX outer H s E e s'') (λe' s''=>CX outer H s E e' s'') s'
theorem t3 {sc:Scope} {n:Nat} {x:Str} (h:sc.names.lookup x=some .cell):∃c,(cellsFrom n sc.names []).lookup x=some c:=by
 have q:=PySem.W.cellsFrom_some sc.names n [] (.inl h)
 exact Option.isSome_iff_exists.mp q
theorem w5 {CX:CXT} {P:Program} {w:World} {K:PySem.W.Frag} {mg:Str→Option Value} {base:Heap} {N ps:List Str} {qual:Str} {scope:Scope} {f:Addr} {cd:Value} {A:Around} {outer:List Env} {s s1:Shared} {H:Hp} {E:XK} {us:List Value} {vs:List V}
  (S:ao N ps scope) (hd:A.handled=none) (e0:Env0 P w K mg base A outer s H) (hl:vs.length=ps.length) (r:Vals vs us)
  (x:InCallC s s.heap.objs.size (bindL (envOfC qual scope s.heap.objs.size f cd).kindOf (ps.zip us) λ_=>none) (cellsFrom (s.heap.objs.size+1) scope.names []) (bindC (envOfC qual scope s.heap.objs.size f cd).kindOf (ps.zip us) λ_=>none) s1):
  Inv (oi CX P w K mg base N qual scope f cd A outer s H E) [] (start N vs) H s1:=by
 have hpl:ps.length≤N.length:=by have:=congrArg List.length S.pre;rw[Qm]at this;omega
 obtain⟨h1,tk,rfl,hk⟩:=x.done
 have noA:∀b:Addr,b∉(oi CX P w K mg base N qual scope f cd A outer s H E).ex:=λb z=>absurd (show b∈([]:List Addr) from z) (by simp)
 refine⟨⟨e0.mod,S.kind,rfl,rfl,Q5 _,λy z c h1 h2=>?_,λy hy=>?_,λy c _ h=>?_,λ_=>hd,Around.frames_deeper e0.frames,.inr ⟨rfl,rfl⟩,λb z=>absurd z (noA b),e0.bs,e0.bsz,λb _ _=>noA b,λb z=>absurd z (noA b),e0.funs,e0.frf⟩,
  rfl,e0.bare,Un.kept hk,⟨_,x.toInCall.ns,λi y v h1 h2 h3=>?_⟩,λy c h=>⟨_,x.cell y c h⟩,e0.hok.fresh (Q5 _),λy c h=>?_,λp hp=>absurd (show p∈([]:List (Addr×Obj)) from hp) (by simp),e0.hok.kept hk,?_⟩
 ·exact name_of_addr x.apart (PySem.mem_of_lookup h1) (PySem.mem_of_lookup h2)
 ·have hy:scope.names.lookup y=some .cell∨scope.names.lookup y=some .free:=hy
  rcases hy with hy|hy
  ·exact t3 hy
  ·exact absurd rfl (S.nofree _ (PySem.mem_of_lookup hy))
 ·exact ZP (x.above y c (PySem.mem_of_lookup h))
 ·have hi:i<vs.length:=by
   unfold start at h2
   by_cases hi:i<vs.length
   ·exact hi
   ·rw[QW (by simpa using hi)]at h2
    rw[List.getElem?_replicate]at h2
    split at h2<;>cases h2
  have ha:vs[i]?=some v:=by
   unfold start at h2
   rw[QZ (by simpa using hi),QD]at h2
   cases e:vs[i]? with
   |none=>rw[e]at h2;cases h2
   |some a=>rw[e]at h2;cases h2;rfl
  obtain⟨u,hu,rv⟩:=r.get ha
  have hp:ps[i]?=some y:=by
   rw[←S.pre,List.getElem?_take_of_lt (by omega)];exact h1
  have ndP:ps.Nodup:=by rw[←S.pre];exact S.nd.sublist (X7 _ _)
  refine⟨u,rv,?_⟩
  rcases S.par y (Q0 hp)with k|k
  ·exact .inl ⟨k,rh ndP hp hu k⟩
  ·obtain⟨c,e⟩:=t3 (n:=s.heap.objs.size+1) k
   refine .inr ⟨.inl k,c,e,?_⟩
   have q:=x.cell y c e
   rw[rl ndP hp hu (by show scope.names.lookup y≠_;rw[k];decide)]at q
   exact q
 ·exact e0.hok.fresh (ZP (x.above y c (PySem.mem_of_lookup h)))
 ·unfold start
  show _=N.length
  rw[Qa,Q1,QX]
  omega
theorem vP {CX:CXT} {P:Program} {w:World} {K:PySem.W.Frag} {mg:Str→Option Value} {base:Heap} {k:Nat} {f:Addr} {name qual:Str} {params:Arguments} {body:List Stmt} {scope:Scope} {dV kV doc pm cdv ct oc:Value} {an od:Option Addr}
  {osl:Array (Option Value)} {N ps:List Str} {sp:Sp} (lk:K.lookup f=some ⟨oc,od,.func (PySem.W.fnOf name qual params body scope dV kV doc pm an cdv ct),osl⟩) (hcd:PySem.W.codeIn K cdv qual=true) (S:ao N ps scope)
  (len:∀vs H Q E,sp vs H Q E→vs.length=ps.length)
  (hbody:∀(A:Around) (outer:List Env) (s:Shared) (H:Hp) (vs:List V) (Q:VK) (E:XK),Room k (A.deeper (envOfC qual scope s.heap.objs.size f cdv))→sp vs H Q E→
   ∃t,PSs (oi CX P w K mg base N qual scope f cdv A outer s H E) body t∧t {nx:=λ_ H'=>Q .non H',rt:=Q} (start N vs) H):
  FnOk P w K mg base CX (k+1) f (PySem.W.fnOf name qual params body scope dV kV doc pm an cdv ct) ps sp:=by
 refine⟨len,λA outer s H args us vs Q E hr e0 hb r hsp=>?_⟩
 have hl:=len _ _ _ _ hsp
 have KX:K.In s.heap:=e0.mod.kin.keeps λb o e=>(e0.bs b o e).1
 have lim:s.heap.NoLimit:=e0.mod.nolimit.keeps λb o e=>(e0.bs b o e).1
 have hkind:∀y∈ps.zip us,scope.names.lookup y.1=some .local∨(scope.names.lookup y.1=some .cell∧((cellsFrom (s.heap.objs.size+1) scope.names []).lookup y.1).isSome=true):=λ⟨n,v⟩ hy=>by
  rcases S.par n (Xg hy).1 with q|q
  ·exact .inl q
  ·exact .inr ⟨q,PySem.W.cellsFrom_some _ _ _ (.inl q)⟩
 refine codeAny_call_function hr.depth (KX _ _ lk) rfl S.co S.gen rfl (PySem.W.codeRec_of KX hcd) (hb _ _ _ _ ?_)
 refine wpAny_newFunctionEnv_cells S.kind hkind λenv he s1 x=>?_
 subst he
 refine⟨lim.keeps x.toInCall.keep,codeAny_func ?_⟩
 obtain⟨t,ht,hq⟩:=hbody A outer s H vs Q E (hr.deeper _) hsp
 have I:Inv (oi CX P w K mg base N qual scope f cdv A outer s H E) [] (start N vs) H s1:=w5 S hr.hd e0 hl r x
 refine wpAny_mono (ht [] s1 (start N vs) H _ I hq) (λfl s' hs=>?_) λe s' hs=>hs
 have fin:∀{σ':St} {H':Hp} {v:V} {u:Value},Inv (oi CX P w K mg base N qual scope f cdv A outer s H E) [] σ' H' s'→RelV v u→Q v H'→CE outer P w H s Q u s':=
  λ{σ' H' v u} J rv q=>⟨v,H',J.os,J.bare,J.base,J.hok,rv,q⟩
 cases fl with
 |ret u=>
  obtain⟨v,σ',H',J,rv,q⟩:=hs
  exact fin J rv q
 |next=>
  obtain⟨σ',H',J,q⟩:=hs
  exact fin (v:=V.non) (u:=Value.none) J rfl q
 |brk=>
  obtain⟨_,_,_,q⟩:=hs
  exact False.elim q
 |cont=>
  obtain⟨_,_,_,q⟩:=hs
  exact False.elim q
end L2
namespace L2
open PySem PySem.Spec PyProof.Rows
section
variable {X:Cx} {x:Str} {p pos:Pos} {e:Expr} {es:List Expr} {t:TA} {id T:String} {r:List V→Hp→VK→Prop}
def tCB (r:List V→Hp→VK→Prop) (t:TA):TE:=λσ H Q=>t σ H λvs H1=>r vs H1 Q
theorem aI (hc:g8 X (.builtin id) r) (hg:Gl X x) (hm:X.mg x=none) (hv:bootBuiltins x=some (.builtin id)) (ha:PA X (e::es) t) (hn:x≠"__name__":=by decide) (hdb:(x==("__debug__":Str))=false:=by decide)
  (he:starEach (e::es) X.env=(false,eval e X.env)::starEach es X.env:=by rfl) (hpl:(backTo pos (starEach es X.env)).any (·.1)=false:=by rfl):PE X (.Call (.Name x p) (e::es) [] pos) (tCB r t):=by
 intro pins s σ H Q I h
 refine wpAny_Call_Name_kw (r9 I hg hm hv ?_ hn hdb)
 exact PyProof.Rows.callWith_builtin1 (thn (ha pos pins s σ H _ I h) λus s1 ⟨vs,H1,I1,r1,q1⟩=>hc pins s1 σ H1 vs us Q I1 r1 q1) he hpl
theorem gQ (hc:g8 X (.type T) r) (hg:Gl X x) (hm:X.mg x=none) (hv:bootBuiltins x=some (.type T)) (ha:PA X (e::es) t) (hn:x≠"__name__":=by decide) (hdb:(x==("__debug__":Str))=false:=by decide)
  (he:starEach (e::es) X.env=(false,eval e X.env)::starEach es X.env:=by rfl) (hpl:(backTo pos (starEach es X.env)).any (·.1)=false:=by rfl):PE X (.Call (.Name x p) (e::es) [] pos) (tCB r t):=by
 intro pins s σ H Q I h
 refine wpAny_Call_Name_kw (r9 I hg hm hv ?_ hn hdb)
 exact PyProof.Rows.callWith_type1 (thn (ha pos pins s σ H _ I h) λus s1 ⟨vs,H1,I1,r1,q1⟩=>hc pins s1 σ H1 vs us Q I1 r1 q1) he hpl
end
end L2
namespace HT
open PySem PyProof.Rows
def lexLt:List Int→List Int→Bool
 | [],[]=>false
 | [],_::_=>true
 |_::_,[]=>false
 |x::xs,y::ys=>if x=y then lexLt xs ys else decide (x<y)
theorem lexLt_cons (x y:Int) (xs ys:List Int):lexLt (x::xs) (y::ys)=if x=y then lexLt xs ys else decide (x<y):=rfl
theorem lexLt_nil_nil:lexLt [] []=false:=rfl
theorem lexLt_nil_cons (y:Int) (ys:List Int):lexLt [] (y::ys)=true:=rfl
theorem lexLt_cons_nil (x:Int) (xs:List Int):lexLt (x::xs) []=false:=rfl
section
variable {prog:Program} {w:World} {A:Around} {E:Value→Shared→Prop} {s:Shared}
def sIx (n d:Nat):Option Int→Nat
 |none=>d
 |some v=>if v<0 then(v+(n:Int)).toNat else min v.toNat n
end
end HT
namespace L2
open PySem PySem.Spec PyProof.Rows
abbrev TO:=St→Hp→(Option Int→Hp→Prop)→Prop
def PO (X:Cx) (e:Option Expr) (t:TO):Prop:=
 ∀(pins:List (Addr×Obj)) (s:Shared) (σ:St) (H:Hp) (Q:Option Int→Hp→Prop),Inv X pins σ H s→t σ H Q→
  wpAny (model X.prog X.w) X.A (evalPart e X.env) (λu s'=>∃o H',Inv X pins σ H' s'∧IsPart u o∧Q o H') X.xe s
def zV:TO:=λ_ H Q=>Q none H
def CY (t:TE):TO:=λσ H Q=>t σ H λx H1=>∃i,x= .int i∧Q (some i) H1
theorem uR {ns:List Int}:∀{us:List Value},Vals (ns.map V.int) us→IntsAre us ns:=by
 induction ns with
 |nil=>intro us r;rw[X8]at r;cases r;exact .nil
 |cons n ns ih=>
  intro us r
  rw[Qs]at r
  cases r with
  |cons r1 r2=>
   obtain⟨t,e⟩:=r1
   subst e
   exact .cons n t (ih r2)
section
variable {X:Cx} {e:Expr} {te:TE} {lo hi:Option Expr} {tl th:TO} {pos p2:Pos}
theorem lN:PO X none zV:=by
 intro pins s σ H Q I h
 rw[evalPart_none]
 exact wpAny_pure ⟨none,H,I,.none,h⟩
theorem io (h:PE X e te):PO X (some e) (CY te):=by
 intro pins s σ H Q I hw
 rw[evalPart_some]
 refine thn (h pins s σ H _ I hw) λu s1 hzz=>?_
 obtain⟨x,H1,I1,r1,q1⟩:=hzz
 obtain⟨i,rfl,q⟩:=q1
 obtain⟨t,rfl⟩:=r1
 exact⟨some i,H1,I1,.int i t,q⟩
def SlR (X:Cx) (r:V→Option Int→Option Int→Hp→VK→Prop):Prop:=
 ∀(pins:List (Addr×Obj)) (s:Shared) (σ:St) (H:Hp) (x:V) (v vl vu:Value) (lo hi:Option Int) (sl:Addr) (Q:VK),Inv X pins σ H s→RelV x v→s.heap.IsSliceOf sl vl vu .none→IsPart vl lo→IsPart vu hi→r x lo hi H Q→
  ∃T id,typeLookup (.type T) "__getitem__"=pure (some (.builtin id))∧s.TypeIs v T∧wpAny (model X.prog X.w) X.A (getItem v (.ref sl)) (EP X pins σ Q) X.xe s
def tSl (r:V→Option Int→Option Int→Hp→VK→Prop) (te:TE) (tl th:TO):TE:=λσ H Q=>te σ H λx H1=>tl σ H1 λl H2=>th σ H2 λu H3=>r x l u H3 Q
theorem gP {r:V→Option Int→Option Int→Hp→VK→Prop} (hr:SlR X r) (he:PE X e te) (hl:PO X lo tl) (hu:PO X hi th):PE X (.Subscript e (.Slice lo hi none p2) pos) (tSl r te tl th):=by
 intro pins s σ H Q I h
 refine Subscript_ (thn (he pins s σ H _ I h) λv s1 hzz=>?_)
 obtain⟨x,H1,I1,r1,q1⟩:=hzz
 refine wpAny_Slice (thn (hl pins s1 σ H1 _ I1 q1) λvl s2 ⟨l,H2,I2,pl,q2⟩=>thn (hu pins s2 σ H2 _ I2 q2) λvu s3 hzz=>?_)
 obtain⟨u,H3,I3,pu,q3⟩:=hzz
 rw[evalPart_none]
 refine wpAny_pure ?_
 have I4:Inv X pins σ H3 {s3 with heap:=s3.heap.push {cls:= .type "slice",data:= .fields #[vl,vu,.none]}}:=I3.kept (t':=s3.toks) λb ob q=>Heap.get?_push_of_some _ q
 obtain⟨T,id,hT,ht,hg⟩:=hr pins {s3 with heap:=s3.heap.push {cls:= .type "slice",data:= .fields #[vl,vu,.none]}} σ H3 x v vl vu l u s3.heap.objs.size Q I4 r1 (Heap.IsSliceOf.new ..) pl pu q3
 show wpAny (model X.prog X.w) X.A (subscriptTail e (.Slice lo hi none p2) v (.ref s3.heap.objs.size)) (EP X pins σ Q) X.xe {s3 with heap:=s3.heap.push {cls:= .type "slice",data:= .fields #[vl,vu,.none]}}
 exact tail_any (ops:=[.ref s3.heap.objs.size,v]) ht hT hg (by with_unfolding_all rfl)
def jV (xs:List V) (lo hi:Option Int):List V:=(xs.drop (HT.sIx xs.length 0 lo)).take (HT.sIx xs.length xs.length hi-HT.sIx xs.length 0 lo)
theorem tY (xs:List V) (lo hi:Option Int):(jV xs lo hi).length≤xs.length:=by
 unfold jV
 rw[Qm,Qu]
 omega
end
end L2
namespace L2
open PySem PySem.Spec PyProof.Rows
def ixN (n:Nat) (i:Int):Option Nat:=if 0≤i then(if i<n then some i.toNat else none)else if-(n:Int)≤i then some (i+n).toNat else none
def atI {α:Type} (xs:List α) (i:Int):Option α:=(ixN xs.length i).bind λj=>xs[j]?
theorem vL {n:Nat} {i:Int} {j:Nat} (h:ixN n i=some j):seqIndex? i n=some j∧j<n∧-(n:Int)≤i∧i<n:=by
 unfold ixN at h
 by_cases h0:0≤i
 ·rw[if_pos h0]at h
  by_cases h1:i<n
  ·rw[if_pos h1]at h
   have e:i.toNat=j:=Option.some.inj h
   exact⟨by rw[seqIndex_of h0 h1,e],by omega,by omega,h1⟩
  ·rw[if_neg h1]at h;cases h
 ·rw[if_neg h0]at h
  by_cases h1: -(n:Int)≤i
  ·rw[if_pos h1]at h
   have e:(i+n).toNat=j:=Option.some.inj h
   exact⟨by rw[seqIndex_neg (by omega) h1,e],by omega,h1,by omega⟩
  ·rw[if_neg h1]at h;cases h
theorem wc {α:Type} {xs:List α} {i:Int} {v:α} (h:atI xs i=some v):∃j,seqIndex? i xs.length=some j∧xs[j]?=some v∧j<xs.length∧-(xs.length:Int)≤i∧i<xs.length:=by
 unfold atI at h
 cases e:ixN xs.length i with
 |none=>rw[e]at h;cases h
 |some j=>
  rw[e]at h
  obtain⟨h1,h2,h3,h4⟩:=vL e
  exact⟨j,h1,h,h2,h3,h4⟩
theorem oz {α:Type} {xs:List α} {j:Nat} {v:α} (h:xs[j]?=some v):atI xs (j:Int)=some v:=by
 have hj:j<xs.length:=(Q2.mp h).1
 have e:ixN xs.length (j:Int)=some j:=by
  unfold ixN
  rw[if_pos (by omega),if_pos (by omega)];simp
 unfold atI;rw[e];exact h
def AT (b:Expr):Prop:=∀o i,subscripted b false o i=operate [o,i] (getItem o i)
def IxR (X:Cx) (r:R2):Prop:=
 ∀(value slice:Expr) (pins:List (Addr×Obj)) (s:Shared) (σ:St) (H:Hp) (x y:V) (v u:Value) (Q:VK),Inv X pins σ H s→RelV x v→RelV y u→r x y H Q→
  subscripted slice false v u=operate [v,u] (getItem v u)→wpAny (model X.prog X.w) X.A (subscriptTail value slice v u) (EP X pins σ Q) X.xe s
def MtR (X:Cx) (id:String) (r:V→List V→Hp→VK→Prop):Prop:=
 ∀(pins:List (Addr×Obj)) (s:Shared) (σ:St) (H:Hp) (x:V) (xs:List V) (v:Value) (us:List Value) (Q:VK),Inv X pins σ H s→RelV x v→Vals xs us→r x xs H Q→
  wpAny (model X.prog X.w) X.A (call (.builtin id) (v::us)) (EP X pins σ Q) X.xe s
section
variable {X:Cx} {a b:Expr} {ta tb:TE} {pos:Pos}
theorem aW {r:R2} (hr:IxR X r) (ha:PE X a ta) (hb:PE X b tb) (hs:AT b):PE X (.Subscript a b pos) (tOp r ta tb):=by
 intro pins s σ H Q I h
 exact Subscript_ (Cv ha hb I h λv u s2 x y H2 I2 rx ry q=>hr a b pins s2 σ H2 x y v u Q I2 rx ry q (hs _ _))
def rIxL (K:PySem.W.Frag):R2:=λx y H Q=>∃p xs i v,x= .ref p∧y= .int i∧SqL K H p xs∧atI xs i=some v∧Q v H
def rIxT (K:PySem.W.Frag):R2:=λx y H Q=>∃p xs i v,x= .ref p∧y= .int i∧SqT K H p xs∧atI xs i=some v∧Q v H
theorem aN:IxR X (rIxL X.K):=by
 intro value slice pins s σ H x y v u Q I rx ry h hs
 obtain⟨p,xs,i,z,rfl,rfl,hq,he,q⟩:=h
 cases rx
 obtain⟨t,rfl⟩:=ry
 obtain⟨its,r,pl,hz⟩:=I.list hq
 obtain⟨j,h1,h2,h3,h4,h5⟩:=wc he
 obtain⟨w,ew,rw'⟩:=r.get h2
 have hl:=r.length
 have hn:=pL
 have fin:EP X pins σ Q w s:=⟨z,H,I,rw',q⟩
 by_cases h0:0≤i
 ·have hj:i.toNat=j:=by
   rw[seqIndex_of h0 h5]at h1
   exact Option.some.inj h1
  exact item_listR pl.isList h0 (by omega) (by rw[hj];simpa using ew) fin hs
 ·have hj:(i+(its.toArray.size:Int)).toNat=j:=by
   rw[seqIndex_neg (by omega) h4]at h1
   rw[Qd,←hl]
   exact Option.some.inj h1
  exact subscriptTail_builtinR (x:=w) pl.isList.typeIs slot_list_getitem.lookup
   (wpAny_getItem_list_neg (Q:=λr s'=>r=w∧EP X pins σ Q r s') pl.isList (by omega) (by rw[Qd]<;>omega) (by omega) (by rw[hj];simpa using ew) ⟨rfl,fin⟩) hs
theorem d6:IxR X (rIxT X.K):=by
 intro value slice pins s σ H x y v u Q I rx ry h hs
 obtain⟨p,xs,i,z,rfl,rfl,hq,he,q⟩:=h
 cases rx
 obtain⟨t,rfl⟩:=ry
 obtain⟨its,r,pl,hz⟩:=I.tuple hq
 obtain⟨j,h1,h2,h3,h4,h5⟩:=wc he
 obtain⟨w,ew,rw'⟩:=r.get h2
 have hl:=r.length
 have hn:=pL
 have fin:EP X pins σ Q w s:=⟨z,H,I,rw',q⟩
 exact subscriptTail_builtinR (x:=w) pl.typeIs slot_tuple_getitem.lookup
  (getItem_tuple (j:=j) (Q:=λr s'=>r=w∧EP X pins σ Q r s') pl (by omega) (by omega) (by rw[Qd,←hl];exact h1) (by simpa using ew) ⟨rfl,fin⟩) hs
theorem uO (its:List Value) (n j:Nat) (u:Value):Obj.mapSeq (·.setIfInBounds j u) {cls:= .type "list",data:= .seq its.toArray n}={cls:= .type "list",data:= .seq (its.set j u).toArray n}:=by
 simp[Obj.mapSeq]
theorem Inv.lst {pins:List (Addr×Obj)} {σ:St} {H:Hp} {s:Shared} {p:Addr} {xs:List V} (I:Inv X pins σ H s) (h:H p=some (.lst xs)):
  ∃(its:List Value) (n:Nat),Vals xs its∧s.heap.get? p=some {cls:= .type "list",data:= .seq its.toArray n}∧xs.length≤sizeLine:=by
 obtain⟨z,its,n,r,e⟩:=I.hok p _ h
 exact⟨its,n,r,e,z⟩
theorem Inv.lstUpd {pins:List (Addr×Obj)} {σ:St} {H:Hp} {s:Shared} {p:Addr} {xs ys:List V} {its its':List Value} {n n':Nat} {f:Obj→Obj} (I:Inv X pins σ H s) (h:H p=some (.lst xs))
  (ho:s.heap.get? p=some {cls:= .type "list",data:= .seq its.toArray n}) (hf:f {cls:= .type "list",data:= .seq its.toArray n}={cls:= .type "list",data:= .seq its'.toArray n'}) (r:Vals ys its') (hz:ys.length≤sizeLine) (t:Nat):
  Inv X pins σ (upd H p (.lst ys)) {s with heap:=s.heap.update p f,toks:=t}:=by
 have e:(s.heap.update p f).get? p=some {cls:= .type "list",data:= .seq its'.toArray n'}:=by
  rw[Heap.get?_update_self f ho (by rw[hf]<;>rfl),hf]
 refine I.write (x:=p) (e:=p) (by rw[h];trivial) (.inl rfl) (λb u hb q=>(Heap.get?_update_other _ _ (Ne.symm hb)).trans q) ⟨_,e⟩ ?_
 exact⟨hz,its',n',r,e⟩
def Da:V→V→V→Hp→(Hp→Prop)→Prop:=λo i v H Q=>∃p xs k j,o= .ref p∧i= .int k∧H p=some (.lst xs)∧ixN xs.length k=some j∧Q (upd H p (.lst (xs.set j v)))
theorem oU:PSet X Da:=by
 intro pins s σ H o i v ov iv u Q I ro ri rv h
 obtain⟨p,xs,k,j,rfl,rfl,hp,hj,q⟩:=h
 cases ro
 obtain⟨t,rfl⟩:=ri
 obtain⟨its,n,r,ho,hz⟩:=I.lst hp
 obtain⟨h1,h2,h3,h4⟩:=vL hj
 have hl:=r.length
 have hn:=pL
 have I':Inv X pins σ (upd H p (.lst (xs.set j v))) {s with heap:=s.heap.update p (Obj.mapSeq (·.setIfInBounds j u))}:=
  I.lstUpd hp ho (uO its n j u) (r.set rv j) (by rw[Qx];exact hz) s.toks
 by_cases h0:0≤k
 ·have hk:k.toNat=j:=by
   rw[seqIndex_of h0 h4]at h1
   exact Option.some.inj h1
  exact PySem.W.ki_setAt ho h0 (by omega) (by rw[Qd,←hl];exact h4) (by rw[hk];exact⟨_,I',q⟩)
 ·have hk:(k+(its.toArray.size:Int)).toNat=j:=by
   rw[seqIndex_neg (by omega) h3]at h1
   rw[Qd,←hl]
   exact Option.some.inj h1
  exact PySem.W.ki_setBack ho (by omega) (by rw[Qd,←hl];exact h3) (by omega) (by rw[hk];exact⟨_,I',q⟩)
theorem rK (lo hi:Option Int) (n:Nat):(sliceBounds lo hi none n).1=((HT.sIx n 0 lo:Nat):Int)∧(sliceBounds lo hi none n).2.1=((HT.sIx n n hi:Nat):Int)∧(sliceBounds lo hi none n).2.2=1:=by
 refine⟨?_,?_,rfl⟩
 ·cases lo with
  |none=>simp[sliceBounds,HT.sIx]
  |some i=>
   simp only[sliceBounds,HT.sIx,Option.getD_none,show(1:Int)>0 by decide,if_true]
   by_cases h:i<0
   ·simp only[h,if_true]<;>omega
   ·simp only[h,if_false]<;>omega
 ·cases hi with
  |none=>simp[sliceBounds,HT.sIx]
  |some i=>
   simp only[sliceBounds,HT.sIx,Option.getD_none,show(1:Int)>0 by decide,if_true]
   by_cases h:i<0
   ·simp only[h,if_true]<;>omega
   ·simp only[h,if_false]<;>omega
theorem qe (its:List Value) (lo hi:Option Int):slicePick its.toArray lo hi none=((its.drop (HT.sIx its.length 0 lo)).take (HT.sIx its.length its.length hi-HT.sIx its.length 0 lo)).toArray:=by
 obtain⟨h1,h2,h3⟩:=rK lo hi its.toArray.size
 unfold slicePick
 rw[h1,h2,h3]
 simp only[sliceRange_one,pick_run,Qd]<;>rfl
def rSlL (K:PySem.W.Frag):V→Option Int→Option Int→Hp→VK→Prop:=λx lo hi H Q=>∃a xs,x= .ref a∧SqL K H a xs∧∀p,H p=none→Q (.ref p) (upd H p (.lst (jV xs lo hi)))
theorem jI:SlR X (rSlL X.K):=by
 intro pins s σ H x v vl vu lo hi sl Q I rx hs pl pu h
 obtain⟨a,xs,rfl,hx,q⟩:=h
 cases rx
 obtain⟨its,r,ht,hz⟩:=I.list hx
 have hlen:=r.length
 refine⟨"list",_,slot_list_getitem.lookup,ht.isList.typeIs,?_⟩
 refine wpAny_getItem_list_slice ht.isList hs pl pu .none (by simp) ?_ (by rw[Qd]<;>omega)
 rw[qe,←hlen]
 refine⟨.ref s.heap.objs.size,_,I.laid (t':=s.toks) (o:= .lst (jV xs lo hi)) (λb ob q=>Heap.get?_push_of_some _ q) (Q5 _) ?_,rfl,q _ (I.hok.fresh (Q5 _))⟩
 exact⟨QF (tY xs lo hi) hz,_,0,(r.drop (HT.sIx xs.length 0 lo)).take (HT.sIx xs.length xs.length hi-HT.sIx xs.length 0 lo),Heap.get?_push_size _ rfl⟩
def me:V→Bool
 | .non=>true
 | .bl _=>true
 | .int _=>true
 | .str _=>true
 |_=>false
def eqV:V→V→Bool
 | .non,.non=>true
 | .bl a,.bl b=>a==b
 | .bl a,.int b=>(if a then 1 else 0)==b
 | .int a,.bl b=>a==(if b then 1 else 0)
 | .int a,.int b=>a==b
 | .str a,.str b=>a==b
 |_,_=>false
theorem Co {A:Around} {s:Shared} {y x:V} {u v:Value} (ry:RelV y u) (rx:RelV x v) (fy:me y=true) (fx:me x=true):SeqAt.EqAt A s u v (eqV y x):=by
 cases y with
 |non=>
  cases ry
  cases x with
  |non=>cases rx;exact SeqAt.EqAt.same _
  |bl b=>cases rx;exact SeqAt.EqAt.none_bool b
  |int b=>obtain⟨t,rfl⟩:=rx;exact SeqAt.EqAt.none_int b t
  |str b=>obtain⟨t,rfl⟩:=rx;exact SeqAt.EqAt.none_str b t
  |_=>exact absurd (show false=true from fx) Q7
 |bl a=>
  cases ry
  cases x with
  |non=>cases rx;exact SeqAt.EqAt.bool_none a
  |bl b=>cases rx;exact SeqAt.EqAt.bool_bool a b
  |int b=>obtain⟨t,rfl⟩:=rx;exact SeqAt.EqAt.bool_int a b t
  |str b=>obtain⟨t,rfl⟩:=rx;exact SeqAt.EqAt.bool_str a b t
  |_=>exact absurd (show false=true from fx) Q7
 |int a=>
  obtain⟨t',rfl⟩:=ry
  cases x with
  |non=>cases rx;exact SeqAt.EqAt.int_none a t'
  |bl b=>cases rx;exact SeqAt.EqAt.int_bool a t' b
  |int b=>obtain⟨t,rfl⟩:=rx;exact SeqAt.EqAt.int_int a t' b t
  |str b=>obtain⟨t,rfl⟩:=rx;exact SeqAt.EqAt.int_str a t' b t
  |_=>exact absurd (show false=true from fx) Q7
 |str a=>
  obtain⟨t',rfl⟩:=ry
  cases x with
  |non=>cases rx;exact SeqAt.EqAt.str_none a t'
  |bl b=>cases rx;exact SeqAt.EqAt.str_bool a t' b
  |int b=>obtain⟨t,rfl⟩:=rx;exact SeqAt.EqAt.str_int a t' b t
  |str b=>obtain⟨t,rfl⟩:=rx;exact SeqAt.EqAt.str_str a t' b t
  |_=>exact absurd (show false=true from fx) Q7
 |_=>exact absurd (show false=true from fy) Q7
def eqU (x:V) (u:Value):Bool:=match u with
 | .none=>eqV .non x
 | .bool b=>eqV (.bl b) x
 | .int i _=>eqV (.int i) x
 | .str z _=>eqV (.str z) x
 |_=>false
theorem yZ {x y:V} {u:Value} (r:RelV y u) (f:me y=true):eqU x u=eqV y x:=by
 cases y with
 |non=>cases r;rfl
 |bl b=>cases r;rfl
 |int i=>obtain⟨t,rfl⟩:=r;rfl
 |str z=>obtain⟨t,rfl⟩:=r;rfl
 |_=>exact absurd (show false=true from f) Q7
theorem sB {x:V}:∀{xs:List V} {us:List Value},Vals xs us→xs.all me=true→us.any (eqU x)=xs.any λy=>eqV y x
 |_,_,.nil,_=>rfl
 |y::xs,u::us,.cons r t,f=>by
  rw[List.all_cons,Zw]at f
  rw[Zy,Zy,yZ r f.1,sB t f.2]
theorem pJ {A:Around} {s:Shared} {x:V} {v:Value} (rx:RelV x v) (fx:me x=true):∀{xs:List V} {us:List Value},Vals xs us→xs.all me=true→∀u∈us,SeqAt.EqAt A s u v (eqU x u)
 |_,_,.nil,_=>λu hu=>by cases hu
 |y::xs,u::us,.cons r t,f=>λu' hu=>by
  rw[List.all_cons,Zw]at f
  rcases Qh.mp hu with rfl|hu
  ·rw[yZ r f.1];exact Co r rx f.1 fx
  ·exact pJ rx fx t f.2 u' hu
def inV (x:V) (xs:List V):Bool:=xs.any λy=>eqV y x
def rIn (K:PySem.W.Frag) (neg:Bool):R2:=λx y H Q=>∃p xs,y= .ref p∧(SqL K H p xs∨SqT K H p xs)∧me x=true∧xs.all me=true∧Q (.bl (if neg then !inV x xs else inV x xs)) H
theorem wF:OpR X (compareOp .In) (rIn X.K false):=by
 intro pins s σ H x y v u Q I rx ry h
 obtain⟨p,xs,rfl,hq,fx,fs,q⟩:=h
 cases ry
 rcases hq with hq|hq
 ·obtain⟨its,r,pl,hz⟩:=I.list hq
  refine SeqAt.in_listAt (eqU x) pl.isList (λw hw=>pJ rx fx r fs w (by simpa using hw)) ⟨.bl _,H,I,rfl,?_⟩
  rw[show its.toArray.any (eqU x)=its.any (eqU x) by simp,sB r fs]
  exact q
 ·obtain⟨its,r,pl,hz⟩:=I.tuple hq
  refine SeqAt.in_tupleAt (eqU x) pl (λw hw=>pJ rx fx r fs w (by simpa using hw)) ⟨.bl _,H,I,rfl,?_⟩
  rw[show its.toArray.any (eqU x)=its.any (eqU x) by simp,sB r fs]
  exact q
theorem ay:g8 X (.builtin "len") (λxs H Q=>∃p ys,xs=[.ref p]∧(SqL X.K H p ys∨SqT X.K H p ys)∧Q (.int ys.length) H):=by
 intro pins s σ H xs us Q I r h
 obtain⟨p,ys,rfl,hq,q⟩:=h
 obtain⟨u,rfl,rx⟩:=oC r
 cases rx
 have hn:=pL
 rcases hq with hq|hq
 ·obtain⟨its,r',pl,hz⟩:=I.list hq
  have hlen:=r'.length
  exact Calls.call_len_list pl.isList (by simp only[Qd]<;>omega) ⟨.int ys.length,H,I.tok _,⟨s.toks+1,by rw[Qd,hlen]⟩,q⟩
 ·obtain⟨its,r',pl,hz⟩:=I.tuple hq
  have hlen:=r'.length
  exact len_tuple pl (by simp only[Qd]<;>omega) ⟨.int ys.length,H,I.tok _,⟨s.toks+1,by rw[Qd,hlen]⟩,q⟩
def tyV (K:PySem.W.Frag) (T:String) (x:V) (H:Hp):Prop:=match x with
 | .str _=>T="str"
 | .int _=>T="int"
 | .ref p=>(T="list"∧∃xs,SqL K H p xs)∨(T="tuple"∧∃o,K.lookup p=some o∧o.cls= .type "tuple"∧o.dict=none)∨
   (T="dict"∧((∃kvs,H p=some (.dK kvs))∨∃kvs,H p=some (.dT kvs)))∨(T="set"∧∃S n,H p=some (.set S n))
 |_=>False
theorem xT {pins:List (Addr×Obj)} {σ:St} {H:Hp} {s:Shared} {T:String} {x:V} {v:Value} (I:Inv X pins σ H s) (r:RelV x v) (ty:tyV X.K T x H):
  s.TypeIs v T∧∀a,v= .ref a→∃ob,s.heap.get? a=some ob∧ob.dict=none:=by
 cases x with
 |str z=>
  obtain⟨t,rfl⟩:=r
  cases (show T="str" from ty)
  exact⟨typeIs_str s z t,λ_ e=>nomatch e⟩
 |int i=>
  obtain⟨t,rfl⟩:=r
  cases (show T="int" from ty)
  exact⟨typeIs_int s i t,λ_ e=>nomatch e⟩
 |ref p=>
  cases r
  rcases ty with⟨rfl,xs,hq⟩|⟨rfl,o,hk,hc,hd⟩|⟨rfl,hk⟩|⟨rfl,S,n,hk⟩
  ·obtain⟨its,_,pl,_⟩:=I.list hq
   refine⟨pl.isList.typeIs,λa e=>?_⟩
   cases e
   obtain⟨o,n,e,c,hd,_⟩:=pl
   exact⟨o,e,hd⟩
  ·refine⟨⟨o,I.kIn p o hk,hc⟩,λa e=>?_⟩
   cases e
   exact⟨o,I.kIn _ o hk,hd⟩
  ·have z:∃o,s.heap.get? p=some o∧o.ExactDict:=by
    rcases hk with⟨kvs,hk⟩|⟨kvs,hk⟩
    ·obtain⟨_,_,_,_,o,_,_,e,ex,_⟩:=I.hok p _ hk
     exact⟨o,e,ex⟩
    ·obtain⟨_,_,_,_,o,_,_,e,ex,_⟩:=I.hok p _ hk
     exact⟨o,e,ex⟩
   obtain⟨o,e,ex⟩:=z
   refine⟨⟨o,e,ex.1⟩,λa e2=>?_⟩
   cases e2
   exact⟨o,e,ex.2.1⟩
  ·obtain⟨o,_,_,_,e,ex,_⟩:=I.hok p _ hk
   refine⟨⟨o,e,ex.1⟩,λa e2=>?_⟩
   cases e2
   exact⟨o,e,ex.2.1⟩
 |_=>exact False.elim ty
def tBM0 (K:PySem.W.Frag) (T:String) (r:V→List V→Hp→VK→Prop) (to:TE):TE:=λσ H Q=>to σ H λx H1=>tyV K T x H1∧r x [] H1 Q
def tBM (K:PySem.W.Frag) (T:String) (r:V→List V→Hp→VK→Prop) (to:TE) (t:TA):TE:=λσ H Q=>to σ H λx H1=>tyV K T x H1∧t σ H1 λxs H2=>r x xs H2 Q
variable {o e:Expr} {es:List Expr} {to:TE} {t:TA} {name:Str} {apos cpos:Pos} {T id:String} {r:V→List V→Hp→VK→Prop}
theorem yi (pa:PlainAttrs T) (slot:Slot T name id) (hty:typeOf (.builtin id)=pure (.type "method_descriptor")) (hm:MtR X id r) (ho:PE X o to)
  (hbase:attributeBase o name X.env (eval o X.env)=eval o X.env:=by rfl) (hline:(apos.endLine==cpos.line)=true:=by rfl):PE X (.Call (.Attribute o name apos) [] [] cpos) (tBM0 X.K T r to):=by
 intro pins s σ H Q I h
 refine wpAny_Call_method0_late hbase hline (thn (ho pins s σ H _ I h) λv s1 hzz=>?_)
 obtain⟨x,H1,I1,r1,ty,q1⟩:=hzz
 obtain⟨h1,h2⟩:=xT I1 r1 ty
 exact⟨T,id,pa,slot,hty,h1,h2,Calls.callWith_builtin rfl (PySem.evalArgs_none (hm pins s1 σ H1 x [] v [] Q I1 r1 .nil q1))⟩
theorem fk (pa:PlainAttrs T) (slot:Slot T name id) (hty:typeOf (.builtin id)=pure (.type "method_descriptor")) (hm:MtR X id r) (ho:PE X o to) (ha:PA X (e::es) t)
  (hbase:attributeBase o name X.env (eval o X.env)=eval o X.env:=by rfl)
  (hfew:((backTo cpos (starEach (e::es) X.env)).all (λx=>!x.1)&&(backToKw cpos (keywordEach [] X.env)).all (λx=>x.1.isSome)
   &&decide ((e::es).length+([]:List Keyword).length+(if([]:List Keyword).isEmpty then 0 else 1)<30))=true:=by rfl)
  (hline:(apos.endLine==cpos.line)=true:=by rfl) (hs:starEach (e::es) X.env=(false,eval e X.env)::starEach es X.env:=by rfl) (hplain:(backTo cpos (starEach es X.env)).any (·.1)=false:=by rfl):
  PE X (.Call (.Attribute o name apos) (e::es) [] cpos) (tBM X.K T r to t):=by
 intro pins s σ H Q I h
 refine wpAny_Call_method_late hbase hfew hline rfl (thn (ho pins s σ H _ I h) λv s1 hzz=>?_)
 obtain⟨x,H1,I1,r1,ty,q1⟩:=hzz
 obtain⟨h1,h2⟩:=xT I1 r1 ty
 refine⟨T,id,pa,slot,hty,h1,h2,?_⟩
 have hA:=ha cpos pins s1 σ H1 _ I1 q1
 rw[hs]at hA⊢
 refine Calls.callWith_builtin (by show(false||(backTo cpos (starEach es X.env)).any (·.1))=false;rw[hplain]<;>rfl) (Calls.evalArgs_plain ?_)
 exact thn hA λus s2 ⟨vs,H2,I2,r2,q2⟩=>hm pins s2 σ H2 x vs v us Q I2 r1 r2 q2
end
end L2
namespace L2
open PySem PySem.Spec PyProof.Rows
def MtM (X:Cx) (id:String) (r:V→List V→Hp→VK→Prop):Prop:=
 ∀(pins:List (Addr×Obj)) (s:Shared) (σ:St) (H:Hp) (x:V) (xs:List V) (v:Value) (us:List Value) (Q:VK),Inv X pins σ H s→RelV x v→Vals xs us→r x xs H Q→
  wpAny (model X.prog X.w) X.A (call (.builtin id) (v::us)) (EP X pins σ Q) X.xe s
theorem Vals.one:∀{x:V} {us:List Value},Vals [x] us→∃u,us=[u]∧RelV x u
 |_,_,.cons r .nil=>⟨_,rfl,r⟩
theorem Vals.two:∀{x y:V} {us:List Value},Vals [x,y] us→∃u v,us=[u,v]∧RelV x u∧RelV y v
 |_,_,_,.cons r (.cons q .nil)=>⟨_,_,rfl,r,q⟩
theorem Vals.eraseIdx:∀{xs:List V} {us:List Value} (i:Nat),Vals xs us→Vals (xs.eraseIdx i) (us.eraseIdx i)
 |_,_,_,.nil=> .nil
 |_,_,0,.cons _ t=>t
 |_,_,i+1,.cons r t=> .cons r (Vals.eraseIdx i t)
theorem mR {α:Type}:∀(l:List α) (i:Nat),(l.eraseIdx i).length≤l.length
 | [],_=>Q5 _
 |_::_,0=>Zf _
 |_::r,i+1=>Nat.succ_le_succ (mR r i)
section
variable {X:Cx} {pins:List (Addr×Obj)} {σ:St} {H:Hp} {s:Shared} {l b:Addr} {xs ys zs:List V}
theorem Inv.lset {its its':List Value} {n:Nat} {f:Array Value→Array Value} {t':Nat} (I:Inv X pins σ H s) (hH:H l=some (.lst xs))
  (e:s.heap.get? l=some {cls:= .type "list",data:= .seq its.toArray n}) (hf:f its.toArray=its'.toArray) (hv:Vals ys its') (hz:ys.length≤sizeLine):
  Inv X pins σ (upd H l (.lst ys)) {s with heap:=s.heap.update l (Obj.mapSeq f),toks:=t'}:=by
 have q:=PySem.IsL.update e f
 rw[hf]at q
 refine I.write (x:=l) (e:=l) (by rw[hH];exact trivial) (.inl rfl) (λb' u hb hu=>(Heap.get?_update_other s.heap (Obj.mapSeq f) (Ne.symm hb)).trans hu) ⟨_,q⟩ ?_
 exact⟨hz,its',_,hv,q⟩
theorem Inv.lnew {its:List Value} {t':Nat} (I:Inv X pins σ H s) (hv:Vals ys its) (hz:ys.length≤sizeLine):
  Inv X pins σ (upd H s.heap.objs.size (.lst ys)) {s with heap:=s.heap.push {cls:= .type "list",data:= .seq its.toArray},toks:=t'}:=
 I.laid (λ_ _ q=>Heap.get?_push_of_some _ q) (Q5 _) ⟨hz,its,0,hv,Heap.get?_push_size _ rfl⟩
theorem Inv.fresh (I:Inv X pins σ H s):H s.heap.objs.size=none:=I.hok.fresh (Q5 _)
theorem Inv.lstM (I:Inv X pins σ H s) (hH:H l=some (.lst xs)):xs.length≤sizeLine∧∃(its:List Value) (n:Nat),Vals xs its∧xs.length=its.length∧s.heap.get? l=some {cls:= .type "list",data:= .seq its.toArray n}:=by
 obtain⟨z,its,n,r,e⟩:=I.hok l _ hH
 exact⟨z,its,n,r,r.length,e⟩
end
section
variable {X:Cx}
def Af:V→List V→Hp→VK→Prop:=λx vs H Q=>∃l xs y,x= .ref l∧vs=[y]∧H l=some (.lst xs)∧xs.length<sizeLine∧Q .non (upd H l (.lst (xs++ [y])))
theorem dC:MtM X "list.append" Af:=by
 intro pins s σ H x vs v us Q I rx rv h
 obtain⟨l,xs,y,rfl,rfl,hH,hz,q⟩:=h
 cases rx
 obtain⟨u,rfl,ru⟩:=rv.one
 obtain⟨z,its,n,r,hl,e⟩:=I.lstM hH
 refine call_meets F.slot_list_append ⟨_,e,rfl⟩ F.entry_list_append (F.args_list_append_2 _ _) (PySem.list_append l its.toArray n u (by rw[Qd];omega)) ⟨e,?_⟩
 refine⟨.non,_,I.lset (its':=its++ [u]) hH e (by simp) (r.append (.cons ru .nil)) ?_,rfl,q⟩
 rw[Qa,QY]
 omega
def BK:V→List V→Hp→VK→Prop:=λx vs H Q=>∃l xs i k y,x= .ref l∧vs=[.int i]∧H l=some (.lst xs)∧-(2^63)≤i∧i<2^63∧seqIndex? i xs.length=some k∧xs[k]?=some y∧Q y (upd H l (.lst (xs.eraseIdx k)))
theorem tG:MtM X "list.pop" BK:=by
 intro pins s σ H x vs v us Q I rx rv h
 obtain⟨l,xs,i,k,y,rfl,rfl,hH,h1,h2,hk,hy,q⟩:=h
 cases rx
 obtain⟨u,rfl,ru⟩:=rv.one
 obtain⟨t,rfl⟩:=ru
 obtain⟨z,its,n,r,hl,e⟩:=I.lstM hH
 obtain⟨w,hw,rw'⟩:=r.get hy
 refine call_meets F.slot_list_pop ⟨_,e,rfl⟩ F.entry_list_pop (F.args_list_pop_2 _ _)
  (MeetsSeq.list_pop_at l its.toArray n i t k w (fitsIndex_both h1 h2) (by rw[Qd,←hl];exact hk) (by rw[←Qp];exact hw) (by rw[Qd];omega)) ⟨e,?_⟩
 refine⟨y,_,I.lset (its':=its.eraseIdx k) hH e ?_ (r.eraseIdx k) ?_,rw',q⟩
 ·show its.toArray.eraseIdxIfInBounds k=(its.eraseIdx k).toArray
  rw[Xd]
 ·have:=mR xs k
  omega
def rCat:R2:=λx y H Q=>∃l b xs zs,x= .ref l∧y= .ref b∧H l=some (.lst xs)∧H b=some (.lst zs)∧xs.length+zs.length≤sizeLine∧∀p,H p=none→Q (.ref p) (upd H p (.lst (xs++zs)))
theorem yk:OpR X (binaryOp .Add) rCat:=by
 intro pins s σ H x y v u Q I rx ry h
 obtain⟨l,b,xs,zs,rfl,rfl,hH,hB,hz,q⟩:=h
 cases rx
 cases ry
 obtain⟨z,its,n,r,hl,e⟩:=I.lstM hH
 obtain⟨z2,its2,n2,r2,hl2,e2⟩:=I.lstM hB
 refine PySem.P.add_list e e2 ?_ (by rw[Qd,Qd];omega)
 have ea:its.toArray++its2.toArray=(its++its2).toArray:=by simp
 rw[ea]
 exact⟨.ref _,_,I.lnew (t':=s.toks) (r.append r2) (by rw[Qa];omega),rfl,q _ I.fresh⟩
end
end L2
namespace L2
open PySem PySem.Spec PyProof.Rows
section
variable {κ:Type} [DecidableEq κ]
def aO (kvs:List (κ×V)) (k:κ):Option V:=(kvs.find? λkv=>decide (kv.1=k)).map (·.2)
def bi (kvs:List (κ×V)) (k:κ) (v:V):List (κ×V):=
 if(kvs.any λkv=>decide (kv.1=k))=true then kvs.map (λkv=>if kv.1=k then(kv.1,v)else kv)else kvs++ [(k,v)]
def bv (kvs:List (κ×V)) (k:κ):List (κ×V):=kvs.filter λkv=>decide (kv.1≠k)
theorem lq {k:κ}:aO ([]:List (κ×V)) k=none:=rfl
theorem bf {p:κ×V} {r:List (κ×V)} {k:κ} (e:p.1=k):aO (p::r) k=some p.2:=by simp[aO,Zo,e]
theorem bd {p:κ×V} {r:List (κ×V)} {k:κ} (e:¬p.1=k):aO (p::r) k=aO r k:=by simp[aO,Zo,e]
theorem bW (k:κ):∀kvs:List (κ×V),(kvs.any λkv=>decide (kv.1=k))=(aO kvs k).isSome
 | []=>rfl
 |p::r=>by
  rw[Zy]
  by_cases e:p.1=k
  ·simp only[bf e,decide_eq_true e,Bool.true_or,Option.isSome_some]
  ·rw[bd e,decide_eq_false e,Bool.false_or];exact bW k r
theorem sJ (k j:κ) (y:V):∀kvs:List (κ×V),aO (kvs.map λkv=>if kv.1=k then(kv.1,y)else kv) j=(aO kvs j).map λx=>if j=k then y else x
 | []=>rfl
 |p::r=>by
  have ih:=sJ k j y r
  rw[Qs]
  by_cases h:p.1=k
  ·rw[if_pos h]
   by_cases e:p.1=j
   ·rw[bf (p:=(p.1,y)) e,bf e,ZV,if_pos (e.symm.trans h)]
   ·rw[bd (p:=(p.1,y)) e,bd e,ih]
  ·rw[if_neg h]
   by_cases e:p.1=j
   ·rw[bf (p:=p) e,bf e,ZV,if_neg (λz=>h (e.trans z))]
   ·rw[bd (p:=p) e,bd e,ih]
theorem qE (k j:κ) (y:V):∀kvs:List (κ×V),aO kvs k=none→aO (kvs++ [(k,y)]) j=if j=k then some y else aO kvs j
 | [],_=>by
  by_cases e:k=j
  ·rw[if_pos e.symm];exact bf (p:=(k,y)) e
  ·rw[if_neg (λz=>e z.symm)];exact bd (p:=(k,y)) e
 |p::r,hn=>by
  rw[List.cons_append]
  have hk:¬p.1=k:=λz=>by rw[bf z]at hn;cases hn
  rw[bd hk]at hn
  have ih:=qE k j y r hn
  by_cases e:p.1=j
  ·rw[bf e,bf e,if_neg (λz=>hk (e.trans z))]
  ·rw[bd e,bd e,ih]
theorem eS (kvs:List (κ×V)) (k j:κ) (y:V):aO (bi kvs k y) j=if j=k then some y else aO kvs j:=by
 unfold bi
 by_cases a:(kvs.any λkv=>decide (kv.1=k))=true
 ·rw[if_pos a,sJ]
  rw[bW]at a
  by_cases e:j=k
  ·obtain⟨x,hx⟩:=Option.isSome_iff_exists.mp a
   rw[if_pos e,e,hx,ZV,if_pos rfl]
  ·rw[if_neg e]
   cases aO kvs j with
   |none=>rfl
   |some x=>rw[ZV,if_neg e]
 ·rw[if_neg a]
  refine qE k j y kvs ?_
  rw[bW]at a
  cases q:aO kvs k with
  |none=>rfl
  |some x=>rw[q]at a;exact(a rfl).elim
theorem b3 (kvs:List (κ×V)) (k:κ) (v:V):(bi kvs k v).length≤kvs.length+1:=by
 unfold bi
 split
 ·rw[Q1];omega
 ·rw[Qa,Qj,Xh];omega
theorem ya {kvs:List (κ×V)} {k:κ} (v:V) (h:aO kvs k=none):bi kvs k v=kvs++ [(k,v)]:=by
 unfold bi
 rw[bW,h]
 exact if_neg (by decide)
theorem RelO.isSome_eq {o:Option V} {u:Option Value} (r:RelO o u):o.isSome=u.isSome:=by
 cases o with
 |none=>cases u with
  |none=>rfl
  |some _=>exact(show False from r).elim
 |some _=>cases u with
  |none=>exact(show False from r).elim
  |some _=>rfl
theorem KV.val {kvs:List (κ×V)} {vs:List (κ×Value)} (r:KV kvs vs) (k:κ):RelO (aO kvs k) (valueAt vs k):=by
 unfold KV at r
 induction r with
 |nil=>exact True.intro
 | @cons p q ps qs h t ih=>
  obtain⟨h1,h2⟩:=h
  by_cases e:p.1=k
  ·have e':q.1=k:=h1.symm.trans e
   have b:valueAt (q::qs) k=some q.2:=by simp[valueAt,Zo,e']
   rw[bf e,b];exact h2
  ·have e':¬q.1=k:=λz=>e (h1.trans z)
   have b:valueAt (q::qs) k=valueAt qs k:=by simp[valueAt,Zo,e']
   rw[bd e,b];exact ih
theorem KV.any {kvs:List (κ×V)} {vs:List (κ×Value)} (r:KV kvs vs) (k:κ):(kvs.any λkv=>decide (kv.1=k))=vs.any λkv=>decide (kv.1=k):=by
 unfold KV at r
 induction r with
 |nil=>rfl
 |cons h t ih=>rw[Zy,Zy,ih,h.1]
theorem KV.repl {kvs:List (κ×V)} {vs:List (κ×Value)} (r:KV kvs vs) (k:κ) {y:V} {u:Value} (ry:RelV y u):
  KV (kvs.map λkv=>if kv.1=k then(kv.1,y)else kv) (vs.map λkv=>if kv.1=k then(kv.1,u)else kv):=by
 unfold KV at r⊢
 induction r with
 |nil=>exact .nil
 | @cons p q ps qs h t ih=>
  rw[Qs,Qs]
  refine .cons ?_ ih
  obtain⟨h1,h2⟩:=h
  by_cases e:p.1=k
  ·rw[if_pos e,if_pos (h1.symm.trans e)];exact⟨h1,ry⟩
  ·rw[if_neg e,if_neg (λz=>e (h1.trans z))];exact⟨h1,h2⟩
theorem KV.put {kvs:List (κ×V)} {vs:List (κ×Value)} (r:KV kvs vs) (k:κ) {y:V} {u:Value} (ry:RelV y u):KV (bi kvs k y) (stored vs k u):=by
 unfold bi stored
 rw[r.any k]
 by_cases e:(vs.any λkv=>decide (kv.1=k))=true
 ·rw[if_pos e,if_pos e];exact r.repl k ry
 ·rw[if_neg e,if_neg e];exact Paired.snoc r ⟨rfl,ry⟩
theorem KV.drop {kvs:List (κ×V)} {vs:List (κ×Value)} (r:KV kvs vs) (k:κ):KV (bv kvs k) (without vs k):=by
 unfold KV at r⊢
 unfold bv without
 induction r with
 |nil=>exact .nil
 | @cons p q ps qs h t ih=>
  obtain⟨h1,h2⟩:=h
  rw[Zx,Zx]
  by_cases e:p.1=k
  ·have a:¬decide (p.1≠k)=true:=by simp[e]
   have b:¬decide (q.1≠k)=true:=by simp[h1.symm.trans e]
   rw[if_neg a,if_neg b];exact ih
  ·have e':¬q.1=k:=λz=>e (h1.trans z)
   have a:decide (p.1≠k)=true:=by simp[e]
   have b:decide (q.1≠k)=true:=by simp[e']
   rw[if_pos a,if_pos b];exact .cons ⟨h1,h2⟩ ih
theorem KV.length {kvs:List (κ×V)} {vs:List (κ×Value)} (r:KV kvs vs):kvs.length=vs.length:=Paired.length r
theorem y4 (kvs:List (κ×V)) (k:κ):(bv kvs k).length≤kvs.length:=QN _ _
end
theorem qT {P:Program} {w:World} {k:Key} {u:Value} (r:RelV (kV k) u):(a6 P w).is k u=true:=by
 cases k with
 |inl i=>obtain⟨t,e⟩:=(show ∃t,u=Value.int i t from r);subst e;exact tL P w i t
 |inr x=>obtain⟨t,e⟩:=(show ∃t,u=Value.str x t from r);subst e;exact tK P w x t
theorem qU {P:Program} {w:World}:∀{ks:List Key} {us:List Value},Vals (ks.map kV) us→ItemsAre (a6 P w) ks us
 | [],_,r=>by rw[X8]at r;cases r;exact .nil
 |k::ks,_,r=>by
  rw[Qs]at r
  cases r with
  |cons h t=>exact .cons (qT h) (qU t)
abbrev KT (H:Hp):List (List Key×V)→List (List Key×Addr×Value)→Prop:=Paired λp q=>p.1=q.1∧H q.2.1=some (.tup (p.1.map kV))∧RelV p.2 q.2.2
theorem KT.val {H:Hp} {kvs:List (List Key×V)} {xs:List (List Key×Addr×Value)} (r:KT H kvs xs) (k:List Key):RelO (aO kvs k) ((atKey xs k).map (·.2)):=by
 induction r with
 |nil=>exact True.intro
 | @cons p q ps qs h t ih=>
  obtain⟨h1,_,h2⟩:=h
  by_cases e:p.1=k
  ·have e':q.1=k:=h1.symm.trans e
   have b:atKey (q::qs) k=some q.2:=by simp[atKey,Zo,e']
   rw[bf e,b];exact h2
  ·have e':¬q.1=k:=λz=>e (h1.trans z)
   have b:atKey (q::qs) k=atKey qs k:=by simp[atKey,Zo,e']
   rw[bd e,b];exact ih
theorem KT.repl {H:Hp} {kvs:List (List Key×V)} {xs:List (List Key×Addr×Value)} (r:KT H kvs xs) (k:List Key) {y:V} {u:Value} (ry:RelV y u):
  KT H (kvs.map λkv=>if kv.1=k then(kv.1,y)else kv) (xs.map (putAt k u)):=by
 induction r with
 |nil=>exact .nil
 | @cons p q ps qs h t ih=>
  rw[Qs,Qs]
  refine .cons ?_ ih
  obtain⟨h1,h2,h3⟩:=h
  unfold putAt
  by_cases e:p.1=k
  ·rw[if_pos e,if_pos (h1.symm.trans e)];exact⟨h1,h2,ry⟩
  ·rw[if_neg e,if_neg (λz=>e (h1.trans z))];exact⟨h1,h2,h3⟩
theorem KT.put {H:Hp} {kvs:List (List Key×V)} {xs:List (List Key×Addr×Value)} (r:KT H kvs xs) (k:List Key) {b:Addr} {y:V} {u:Value} (hb:H b=some (.tup (k.map kV))) (ry:RelV y u):
  KT H (bi kvs k y) (storedH xs k b u):=by
 have e:(kvs.any λkv=>decide (kv.1=k))=(atKey xs k).isSome:=by
  rw[bW,(r.val k).isSome_eq,X9]
 unfold bi storedH
 rw[e]
 by_cases q:(atKey xs k).isSome=true
 ·rw[if_pos q,if_pos q];exact r.repl k ry
 ·rw[if_neg q,if_neg q];exact Paired.snoc r ⟨rfl,hb,ry⟩
theorem KT.keeps {H H':Hp} {kvs:List (List Key×V)} {xs:List (List Key×Addr×Value)} (r:KT H kvs xs) (ht:∀b ys,H b=some (.tup ys)→H' b=some (.tup ys)):KT H' kvs xs:=
 Paired.mapP r λ_ _ z=>⟨z.1,ht _ _ z.2.1,z.2.2⟩
section
variable {P:Program} {w:World} {H:Hp} {h:Heap} {a:Addr}
theorem Bg {u:HO} (ok:HOk P w H h) (e:Rd H a u):ObjOk P w H h a u:=e.ok ok
theorem m8 {kvs:List (Key×V)} (ok:HOk P w H h) (e:Rd H a (.dK kvs)):kvs.length≤sizeLine∧(a==sysModules)=false∧∃vs,KV kvs vs∧h.DictOf (a6 P w) a vs:=
 show ObjOk P w H h a (.dK kvs) from Bg ok e
theorem j7 {kvs:List (Key×V)} (ok:HOk P w H h) (e:H a=some (.dK kvs)):kvs.length≤sizeLine∧(a==sysModules)=false∧∃vs,KV kvs vs∧h.DictOf (a6 P w) a vs:=m8 ok (.inl e)
theorem sd {ks:List Key} (ok:HOk P w H h) (e:H a=some (.tup (ks.map kV))):(tupleKind (a6 P w)).is h ks a:=by
 obtain⟨_,its,r,o,h1,h2,n,h3⟩:=(show ObjOk P w H h a (.tup (ks.map kV)) from ok a _ e)
 exact⟨o,its.toArray,n,h1,h2,h3,by simpa using qU r⟩
theorem y3 {kvs:List (List Key×V)} (ok:HOk P w H h) (e:Rd H a (.dT kvs)):kvs.length≤sizeLine∧(a==sysModules)=false∧
  ∃xs,KT H kvs xs∧h.DictOfH (tupleKind (a6 P w)) a xs:=by
 obtain⟨z,y,xs,r,o,es,ep,h1,h2,h3,h4,h5⟩:=(show ObjOk P w H h a (.dT kvs) from Bg ok e)
 refine⟨z,y,xs,r,o,es,ep,h1,h2,h3,h4,λx hx=>?_,h5⟩
 have all:∀{l:List (List Key×V)} {m:List (List Key×Addr×Value)},KT H l m→∀x∈m,(tupleKind (a6 P w)).is h x.1 x.2.1:=by
  intro l m q
  induction q with
  |nil=>intro x hx;exact nomatch hx
  | @cons p q ps qs hq t ih=>
   intro x hx
   rcases Qh.mp hx with e|hx
   ·subst e
    exact sd ok (by rw[←hq.1];exact hq.2.1)
   ·exact ih x hx
 exact all r x hx
theorem Dv {kvs:List (List Key×V)} (ok:HOk P w H h) (e:H a=some (.dT kvs)):kvs.length≤sizeLine∧(a==sysModules)=false∧
  ∃xs,KT H kvs xs∧h.DictOfH (tupleKind (a6 P w)) a xs:=y3 ok (.inl e)
end
def DGet (H:Hp) (a:Addr) (y:V) (r:Option V):Prop:=
 (∃kvs k,Rd H a (.dK kvs)∧y=kV k∧r=aO kvs k)∨∃kvs k b,Rd H a (.dT kvs)∧y= .ref b∧H b=some (.tup (k.map kV))∧r=aO kvs k
def DPut (H:Hp) (a:Addr) (y v:V) (H':Hp):Prop:=
 (∃kvs k,H a=some (.dK kvs)∧y=kV k∧kvs.length<sizeLine∧H'=upd H a (.dK (bi kvs k v)))∨
 ∃kvs k b,H a=some (.dT kvs)∧y= .ref b∧H b=some (.tup (k.map kV))∧kvs.length<sizeLine∧H'=upd H a (.dT (bi kvs k v))
theorem DGet.k {H:Hp} {a:Addr} {kvs:List (Key×V)} {k:Key} (e:H a=some (.dK kvs)):DGet H a (kV k) (aO kvs k):= .inl ⟨kvs,k,.inl e,rfl,rfl⟩
theorem DPut.k {H:Hp} {a:Addr} {kvs:List (Key×V)} {k:Key} {v:V} (e:H a=some (.dK kvs)) (hl:kvs.length<sizeLine):DPut H a (kV k) v (upd H a (.dK (bi kvs k v))):= .inl ⟨kvs,k,e,rfl,hl,rfl⟩
section
variable {X:Cx} {pins:List (Addr×Obj)} {σ:St} {H:Hp} {s:Shared} {a:Addr} {y v:V} {u r:Value} {o:Option V} {A:Around} {E:Value→Shared→Prop}
theorem Inv.big (I:Inv X pins σ H s):sysModules<s.heap.objs.size:=by
 have h:mainGlobals<s.heap.objs.size:=(I.mod.glob.keeps I.bk).lt
 exact Nat.lt_trans (by decide) h
theorem d_in {Q:Value→Shared→Prop} (hu:A.units+1<cLine) (I:Inv X pins σ H s) (g:DGet H a y o) (ry:RelV y u) (h:∀s',Inv X pins σ H s'→Q (.bool o.isSome) s'):
  wpAny (model X.prog X.w) A (compareOp .In u (.ref a)) Q E s:=by
 rcases g with⟨kvs,k,e,ey,l⟩|⟨kvs,k,b,e,ey,eb,l⟩
 ·subst ey
  obtain⟨z,hd,vs,rel,dd⟩:=m8 I.hok e
  refine wpAny_in_of (qT ry) hd dd.mapOf ?_
  rw[←(rel.val k).isSome_eq,←l]
  exact h _ (I.tok _)
 ·subst ey
  cases (show u=Value.ref b from ry)
  obtain⟨z,hd,xs,rel,dd⟩:=y3 I.hok e
  refine wpAny_in_heap (tupleKind_room_in1 hu) (sd I.hok eb) hd dd ?_
  have q:=(rel.val k).isSome_eq
  rw[X9]at q
  rw[←q,←l]
  exact h _ (I.tok _)
theorem AF {Q:Value→Shared→Prop} (hu:A.units+1<cLine) (I:Inv X pins σ H s) (g:DGet H a y o) (ry:RelV y u) (h:∀s',Inv X pins σ H s'→Q (.bool (!o.isSome)) s'):
  wpAny (model X.prog X.w) A (compareOp .NotIn u (.ref a)) Q E s:=by
 rcases g with⟨kvs,k,e,ey,l⟩|⟨kvs,k,b,e,ey,eb,l⟩
 ·subst ey
  obtain⟨z,hd,vs,rel,dd⟩:=m8 I.hok e
  refine wpAny_notIn_of (qT ry) hd dd.mapOf ?_
  rw[←(rel.val k).isSome_eq,←l]
  exact h _ (I.tok _)
 ·subst ey
  cases (show u=Value.ref b from ry)
  obtain⟨z,hd,xs,rel,dd⟩:=y3 I.hok e
  refine wpAny_notIn_heap (tupleKind_room_in1 hu) (sd I.hok eb) hd dd ?_
  have q:=(rel.val k).isSome_eq
  rw[X9]at q
  rw[←q,←l]
  exact h _ (I.tok _)
theorem oy {h':Heap} {t':Nat} {ob:HO} (I:Inv X pins σ H s) (mu:Mut (H a)) (hs:Heap.SameBut a s.heap h') (he:∃q,h'.get? a=some q) (new:ObjOk X.prog X.w (upd H a ob) h' a ob):
  Inv X pins σ (upd H a ob) {s with heap:=h',toks:=t'}:=
 I.write (x:=a) (e:=a) mu (.inl rfl) (λb q hb z=>(hs.2 b hb).trans z) he new
theorem uW {P:Program} {w:World} {H':Hp} {h':Heap} {kvs:List (Key×V)} {vs:List (Key×Value)} (z:kvs.length≤sizeLine) (hd:(a==sysModules)=false) (rel:KV kvs vs) (dd:h'.DictOf (a6 P w) a vs):
  ObjOk P w H' h' a (.dK kvs):=⟨z,hd,vs,rel,dd⟩
theorem xh {H':Hp} {Q:Unit→Shared→Prop} (hu:A.units+1<cLine) (I:Inv X pins σ H s) (g:DPut H a y v H') (ry:RelV y u) (rv:RelV v r) (h:∀s',Inv X pins σ H' s'→Q () s'):
  wpAny (model X.prog X.w) A (setItem (.ref a) u r) Q E s:=by
 rcases g with⟨kvs,k,e,ey,l,eH⟩|⟨kvs,k,b,e,ey,eb,l,eH⟩
 ·subst ey eH
  obtain⟨z,hd,vs,rel,dd⟩:=j7 I.hok e
  have hz:vs.length≤sizeLine:=by rw[←rel.length];exact z
  have hl:(bi kvs k v).length≤sizeLine:=by have:=b3 kvs k v;omega
  refine wpAny_setItem_pairs (hsz:=hz) (qT ry) dd λh' dd' hs=>h _ ?_
  have he:∃q,h'.get? a=some q:=let⟨q,_,_,hq,_⟩:=dd';⟨q,hq⟩
  exact oy I (by rw[e];exact True.intro) hs he (uW hl hd (rel.put k rv) dd')
 ·subst ey eH
  cases (show u=Value.ref b from ry)
  obtain⟨z,hd,xs,rel,dd⟩:=Dv I.hok e
  have hz:xs.length≤sizeLine:=by rw[←Paired.length rel];exact z
  have hl:(bi kvs k v).length≤sizeLine:=by have:=b3 kvs k v;omega
  refine wpAny_setItem_heap (hsz:=hz) (tupleKind_room_in1 hu) (sd I.hok eb) dd λh' dd' hs=>h _ ?_
  obtain⟨q,es,ep,hq,h2,h3,h4,_,h5⟩:=dd'
  refine oy I (by rw[e];exact True.intro) hs ⟨q,hq⟩ ⟨hl,hd,_,(rel.put k eb rv).keeps λc ys ec=>?_,q,es,ep,hq,h2,h3,h4,h5⟩
  rw[ac (bP ec e (λz=>nomatch z))]
  exact ec
end
section
variable {X:Cx} {pins:List (Addr×Obj)} {σ:St} {H:Hp} {s:Shared} {a:Addr} {kvs:List (Key×V)} {k:Key} {u:Value} {A:Around} {E:Value→Shared→Prop}
theorem Dw {v:V} {more:List Value} {Q:Value→Shared→Prop} (I:Inv X pins σ H s) (e:H a=some (.dK kvs)) (ry:RelV (kV k) u) (l:aO kvs k=some v) (hm:more=[]∨∃x,more=[x])
  (h:∀w' s',Inv X pins σ (upd H a (.dK (bv kvs k))) s'→RelV v w'→Q w' s'):wpAny (model X.prog X.w) A (call (.builtin "dict.pop") (.ref a::u::more)) Q E s:=by
 obtain⟨z,hd,vs,rel,dd⟩:=j7 I.hok e
 obtain⟨w',hw,rw'⟩:=RelO.some_of (v:=v) (o:=valueAt vs k) (by rw[←l];exact rel.val k)
 have hp:(keyPart u).isSome=true:=by
  cases k with
  |inl i=>obtain⟨t,q⟩:=(show ∃t,u=Value.int i t from ry);subst q;rfl
  |inr x=>obtain⟨t,q⟩:=(show ∃t,u=Value.str x t from ry);subst q;rfl
 have ha:argsOk "dict.pop" ⟨.ref a::u::more,[]⟩:=by
  rcases hm with q|⟨x,q⟩
  ·subst q;exact PySem.F.args_dict_pop_2 _ _
  ·subst q;exact PySem.F.args_dict_pop_3 _ _ _
 refine call_meetsIn ZW dd.typeIs PySem.F.entry_dict_pop ha (meets_dict_pop_there (a6 X.prog X.w) a (qT ry) more hm hp)
  ⟨vs,w',dd,by rw[←rel.length];exact z,hw,λh' dd' hs=>h w' _ ?_ rw'⟩
 have he:∃q,h'.get? a=some q:=let⟨q,_,_,hq,_⟩:=dd';⟨q,hq⟩
 exact oy I (by rw[e];exact True.intro) hs he (uW (QF (y4 kvs k) z) hd (rel.drop k) dd')
theorem Dx {Q:Value→Shared→Prop} (I:Inv X pins σ H s) (e:Rd H a (.dK kvs)) (h:∀t s',Inv X pins σ H s'→Q (.int kvs.length t) s'):wpAny (model X.prog X.w) A (call (.builtin "len") [.ref a]) Q E s:=by
 obtain⟨z,hd,vs,rel,dd⟩:=m8 I.hok e
 refine call_len_dict hd dd (by rw[←rel.length];rw[sizeLine_eq]at z;omega) ?_
 rw[←rel.length]
 exact h _ _ (I.tok _)
end
def tDIn (ty td:TE):TE:=λσ H Q=>ty σ H λy H1=>td σ H1 λx H2=>∃a o,x= .ref a∧DGet H2 a y o∧Q (.bl o.isSome) H2
def zW (ty td:TE):TE:=λσ H Q=>ty σ H λy H1=>td σ H1 λx H2=>∃a o,x= .ref a∧DGet H2 a y o∧Q (.bl (!o.isSome)) H2
def C6 (td ty tv:TE):TS:=λD σ H=>tv σ H λv H1=>td σ H1 λx H2=>ty σ H2 λy H3=>∃a H4,x= .ref a∧DPut H3 a y v H4∧D.nx σ H4
section
variable {X:Cx} {o i e value:Expr} {pos pos' tpos:Pos} {td ty tv:TE}
theorem yj (hu:X.A.units+1<cLine) (hi:PE X i ty) (ho:PE X o td):PC X .In i o (tDIn ty td):=by
 intro pins s σ H Q I h
 refine thn (hi pins s σ H _ I h) λiv s1 ⟨y,H1,I1,ry,q1⟩=>thn (ho pins s1 σ H1 _ I1 q1) λu s2 hzz=>?_
 obtain⟨x,H2,I2,rx,a,ov,ex,g,q2⟩:=hzz
 subst ex
 obtain rfl:u=Value.ref a:=rx
 exact d_in hu I2 g ry λs3 I3=>⟨.bl ov.isSome,H2,I3,rfl,q2⟩
theorem wD (hu:X.A.units+1<cLine) (hi:PE X i ty) (ho:PE X o td):PC X .NotIn i o (zW ty td):=by
 intro pins s σ H Q I h
 refine thn (hi pins s σ H _ I h) λiv s1 ⟨y,H1,I1,ry,q1⟩=>thn (ho pins s1 σ H1 _ I1 q1) λu s2 hzz=>?_
 obtain⟨x,H2,I2,rx,a,ov,ex,g,q2⟩:=hzz
 subst ex
 obtain rfl:u=Value.ref a:=rx
 exact AF hu I2 g ry λs3 I3=>⟨.bl (!ov.isSome),H2,I3,rfl,q2⟩
theorem rO (hu:X.A.units+1<cLine) (ho:PE X o td) (hi:PE X i ty) (hv:PE X value tv) (hs:swapsWith value (some (.Subscript o i pos')) pos.line X.env=pure false):
  PS X (.Assign [.Subscript o i pos'] value pos) (C6 td ty tv):=by
 intro pins s σ H D I h
 refine wpAny_Assign_Subscript (thn (hv pins s σ H _ I h) λr s1 ⟨v,H1,I1,rv,q1⟩=>thn (ho pins s1 σ H1 _ I1 q1) λu s2 ⟨x,H2,I2,rx,q2⟩=>thn (hi pins s2 σ H2 _ I2 q2) λiv s3 hzz=>?_) hs
 obtain⟨y,H3,I3,ry,a,H4,ex,g,q3⟩:=hzz
 subst ex
 obtain rfl:u=Value.ref a:=rx
 exact xh hu I3 g ry rv λs4 I4=>⟨σ,H4,I4,q3⟩
end
theorem tW {P:Program} {w:World} {H:Hp} (h:Heap) (hb:sysModules<h.objs.size):ObjOk P w H (h.push {cls:= .type "dict",data:= .dict #[]}) h.objs.size (.dK []):=
 ⟨Qg _,beq_eq_false_iff_ne.mpr (Ne.symm (Qz hb)),[],.nil,Heap.DictOf.new h⟩
def BG:TE:=λ_ H Q=>∀p,H p=none→Q (.ref p) (upd H p (.dK []))
section
variable {X:Cx} {pos:Pos}
theorem dO:PE X (.Dict [] [] pos) BG:=λpins s σ H Q I h=>
 wpAny_Dict_empty ⟨.ref s.heap.objs.size,_,I.laid (a:=s.heap.objs.size) (o:= .dK []) (t':=s.toks) (λ_ _ q=>Heap.get?_push_of_some _ q) (Q5 _) (tW s.heap I.big),rfl,h _ (I.hok.fresh (Q5 _))⟩
end
end L2
namespace Att
open PySem PySem.W PySem.Calls PyProof.Rows
theorem oh {P:Params} {h:Heap}:∀(ns:List Int) (vs:List Value),WellAll P h vs (ns.map WData.int)→IntsAre vs ns:=by
 intro ns
 induction ns with
 |nil=>
  intro vs w
  rw[X8]at w
  cases w
  exact .nil
 |cons n ns ih=>
  intro vs w
  rw[Qs]at w
  cases w with
  |cons a b=>
   cases a
   exact .cons _ _ (ih _ b)
theorem wy {l:OpenLaw} {n:Nat} (hn:l.most=some n) {P:Params} {h:Heap} {args:List WData} {vals:List Value}
  (hpre:l.row.toRowW.claim.pre args=true) (hwl:WellAll P h vals args):
  ∃a vs ns,vals=[Value.ref a]∧args=[WData.list (ns.map WData.int)]∧h.get? a=some {cls:= .type "list",data:= .seq vs.toArray}∧IntsAre vs ns∧ns.length≤n:=by
 have hsh:WShape.hasAll [] args [.list .int]=true:=(pre_splitW hpre).1
 have hc:l.pre.holds [] {args:=args}=true:=(pre_splitW hpre).2
 obtain⟨d,r,rfl,h1,h2⟩:=hasAllW_cons hsh
 obtain rfl:=hasAllW_nil h2
 obtain⟨xs,rfl,h3⟩:=hasW_list h1
 obtain⟨ns,rfl⟩:=items_int h3
 have hlen:ns.length≤n:=by
  unfold OpenLaw.pre at hc
  have h4:(WTm.not (.lt (.lit (.int (n:Int))) (.len (.arg 0)))).holds [] {args:=[.list (ns.map .int)]}=true:=by
   have h4:=(holds_andW hc).1
   rw[hn]at h4
   exact h4
  have h5:=condW_of h4 (w_not (w_lt w_lit (w_len_list (w_arg rfl))))
  rw[Q1]at h5
  refine Nat.le_of_not_lt λq=>?_
  have q':(n:Int)<((ns.length:Nat):Int):=by omega
  first
   |(rw[decide_eq_true q']at h5;exact absurd h5 (by decide))
   |(simp at h5;omega)
 cases hwl with
 |cons w1 w2=>
  cases w2
  cases w1 with
  |list ho hall=>exact⟨_,_,ns,rfl,rfl,ho,oh ns _ hall,hlen⟩
theorem wB (l:OpenLaw) (args:List WData):l.row.toRowW.claim.post args (.bool true) args=true:=
 postW_of (r:=l.row.toRowW) (X:=(true==true))
  (show WShape.has [] (.bool true) .bool=true by first|rfl|decide|simp[WShape.has,WShape.arms,WShape.armsAll])
  (show(WTm.eq .res (.lit (.bool true))).value [] {args:=args,res:=some (.bool true),after:=args}=some (.bool (true==true)) from w_eq_bool (w_res rfl) w_lit) rfl
theorem attach_call {l:OpenLaw} {n:Nat} {q:Program} {loose:List Str} {XP:(Str→Option Value)→Heap→Prop} {YP:World→Heap→Prop} {d:DefRec}
  (hn:l.most=some n) (hdf:d.params.defaults=[])
  (call:∀(w:World) (s₀ s₁:Shared) (mg mb:Str→Option Value) (fa:Addr) (o:Obj) (pm cd doc:Value) (a:Addr) (vs:List Value) (ns:List Int),
   Ground q loose [] XP w s₀ mg mb s₁.heap→YP w s₁.heap→
   s₁.heap.get? fa=some o→o.data= .func (docDef d.name d.params d.body d.scope pm cd doc)→s₁.heap.CodeRec cd d.name→mg d.name=some (.ref fa)→
   s₁.heap.get? a=some {cls:= .type "list",data:= .seq vs.toArray}→IntsAre vs ns→ns.length≤n→s₁.gens= #[]→
   codeAny (model l.prog w) callerA (.call (.ref fa) ⟨[.ref a],[]⟩) (λr s'=>r= .ok (.ret (.bool true))∧OldK s₁.heap s'.heap∧s'.os=s₁.os∧AllBare s'.gens) s₁):
  WalkO q loose XP YP l.row.toRowW d [] (λf vs=>PySem.call f vs):=by
 intro w s₀ s₁ mg mb G Y fa o pm cd doc dV kV ho hd hcd hD hmg hg args vals as hpre hlay hrd hwl hlo
 obtain rfl:dV= .none:=Dflts.none hD hdf
 obtain rfl:kV= .none:=Dflts.noKw hD
 obtain⟨a,vs,ns,rfl,rfl,hobj,hints,hlen⟩:=wy hn hpre hwl
 refine enter_call (codeAny_mono (call w s₀ s₁ mg mb fa o pm cd doc a vs ns G Y ho (fd_plain hd) hcd hmg hobj hints hlen hg) λr s' hq=>?_)
 obtain⟨rfl,h2,h3,h4⟩:=hq
 exact⟨.inl ⟨.bool true,.bool true,[],rfl,λ_=>rfl,.bool true,wB l _,λ_=>⟨List.Pairwise.nil,λ_ hm=>(nomatch hm)⟩⟩,h2,h3,h4⟩
end Att
namespace L2
open PySem PySem.Spec PyProof.Rows
theorem qD:∀{vs:List Value} {ns:List Int},IntsAre vs ns→Vals (ns.map V.int) vs
 |_,_,.nil=> .nil
 |_,_,.cons n t h=> .cons ⟨t,rfl⟩ (qD h)
def CG (H:Hp):Prop:=∀b,H b=none∨∃o xs,H b=some (.frz o (.lst xs))
theorem yF {P:Program} {w:World} {K:PySem.W.Frag} {mg mb:Str→Option Value} {CX:CXT} {k:Nat} {fa a:Addr} {fd:FuncData} {x:Str} {sp:Sp} {s₁:Shared} {vs:List Value} {ns:List Int}
  (KX:K.In s₁.heap) (hns:s₁.heap.Ns mainGlobals mg) (hb:s₁.heap.Ns builtinsNs mb) (hbb:∀x:Str,x≠"__name__"→mb x=bootBuiltins x) (hlim:s₁.heap.NoLimit) (hg:s₁.gens= #[])
  (ha:s₁.heap.get? a=some {cls:= .type "list",data:= .seq vs.toArray}) (hi:IntsAre vs ns) (hl:ns.length≤sizeLine) (hr:Room k callerA)
  (F:∀base:Heap,K.In base→base.Ns mainGlobals mg→FnOk P w K mg base CX k fa fd [x] sp) (hbind:∀(s:Shared) (u:Value),BindsTo s fd ⟨[u],[]⟩ [(x,u)])
  (hsp:∀H:Hp,CG H→SqL K H a (ns.map V.int)→sp [.ref a] H (λv _=>v= .bl true) λ_ _ _=>False)
  (hCX:∀H e s',CX [] H s₁ (λ_ _ _=>False) e s'→False):
  codeAny (model P w) callerA (.call (.ref fa) ⟨[.ref a],[]⟩) (λr s'=>r= .ok (.ret (.bool true))∧OldK s₁.heap s'.heap∧s'.os=s₁.os∧AllBare s'.gens) s₁:=by
 have rv:=qD hi
 have lenV:=hi.length
 have core:∀H:Hp,CG H→SqL K H a (ns.map V.int)→HOk P w H s₁.heap→(∀b,H b≠none→b=a)→(H a≠none→K.lookup a=none)→
   codeAny (model P w) callerA (.call (.ref fa) ⟨[.ref a],[]⟩) (λr s'=>r= .ok (.ret (.bool true))∧OldK s₁.heap s'.heap∧s'.os=s₁.os∧AllBare s'.gens) s₁:=by
  intro H hO hS hok hA hK
  have base_of:∀{b:Addr} {o:Obj},s₁.heap.get? b=some o→H b=none→(si s₁.heap H).get? b=some o:=λe n=>yM e n
  have noA:∀{b:Addr} {o:Obj} {es:Array DictEntry} {ep:Nat},s₁.heap.get? b=some o→o.data= .dict es ep→H b=none:=λ{b o es ep} e d=>by
   cases q:H b with
   |none=>rfl
   |some u=>
    have e':b=a:=hA b (by rw[q];simp)
    subst e'
    rw[ha]at e;cases e
    have d':Data.seq vs.toArray _=Data.dict es ep:=d
    cases d'
  have nsK:∀{b:Addr} {m:Str→Option Value},s₁.heap.Ns b m→(si s₁.heap H).Ns b m:=λ{b m} ⟨o,es,ep,e,d,r⟩=>⟨o,es,ep,base_of e (noA e d),d,r⟩
  have hKb:K.In (si s₁.heap H):=λb o e=>base_of (KX b o e) (by
   cases q:H b with
   |none=>rfl
   |some u=>
    have e':b=a:=hA b (by rw[q];simp)
    subst e'
    rw[hK (by rw[q];simp)]at e;cases e)
  have hM:Mod K mg (si s₁.heap H):=⟨hKb,nsK hns,⟨mb,nsK hb,hbb⟩,let⟨mc,h1,h2⟩:=hlim;⟨mc,nsK h1,h2⟩⟩
  have e0:Env0 P w K mg (si s₁.heap H) callerA [] s₁ H:=⟨rfl,hM,λb o e=>Ap e,Zr (xa _ _),trivial,λb hb=>absurd (show b∈([]:List Addr) from hb) (by simp),hok,.of_eq hg⟩
  refine codeAny_mono ((F _ hKb (nsK hns)).run callerA [] s₁ H ⟨[.ref a],[]⟩ [.ref a] [.ref a] _ _ hr e0 (hbind s₁ (.ref a)) (.cons rfl .nil) (hsp H hO hS)) λr s' h=>?_
  cases r with
  |error e=>exact(hCX H e s' h).elim
  |ok fl=>
   cases fl with
   |next=>exact False.elim h
   |brk=>exact False.elim h
   |cont=>exact False.elim h
   |ret u=>
    obtain⟨v,H',os,bare,un,hok',r',q⟩:=h
    have q':v= .bl true:=q
    subst q'
    obtain rfl:u=Value.bool true:=r'
    refine⟨rfl,OldK.of_keep λb o e=>?_,os,bare⟩
    cases q:H b with
    |none=>exact un.keep b o e q (by intro z;exact absurd (show b∈([]:List Addr) from z) (by simp)) (by simp)
    |some u=>
     rcases hO b with z|⟨ob,xs,z⟩
     ·rw[q]at z;cases z
     ·have z2:=un.frzs b ob _ z
      obtain⟨e1,_⟩:=hok b _ z
      obtain⟨e2,_⟩:=hok' b _ z2
      rw[e]at e1;cases e1
      exact e2
 cases hk:K.lookup a with
 |some o=>
  have e:=KX a o hk
  rw[ha]at e
  cases e
  refine core (λ_=>none) (λ_=> .inl rfl) (.inr ⟨_,vs.toArray,_,hk,rfl,rfl,rfl,by rw[Qd,lenV];exact hl,by simpa using rv⟩) (λb u z=>by have z':(none:Option HO)=some u:=z;cases z') (λb z=>absurd rfl z) λz=>absurd rfl z
 |none=>
  refine core (λb=>if b=a then some (.frz {cls:= .type "list",data:= .seq vs.toArray} (.lst (ns.map V.int)))else none) (λb=>?_) (.inl (.inr ⟨{cls:= .type "list",data:= .seq vs.toArray},if_pos rfl⟩)) (λb u z=>?_) (λb z=>?_) λ_=>hk
  ·by_cases hb:b=a
   ·exact .inr ⟨_,_,if_pos hb⟩
   ·exact .inl (if_neg hb)
  ·by_cases hb:b=a
   ·have z':=(if_pos hb).symm.trans z
    cases z'
    subst hb
    exact⟨ha,by rw[Q1];exact hl,vs,_,rv,ha⟩
   ·have z':=(if_neg hb).symm.trans z
    cases z'
  ·by_cases hb:b=a
   ·exact hb
   ·exact absurd (if_neg hb) z
end L2
namespace L2
open PySem PySem.Spec PyProof.Rows
theorem walk_of {l:PySem.W.OpenLaw} {n k:Nat} {q:Program} {loose:List Str} {XP:(Str→Option Value)→Heap→Prop} {YP:World→Heap→Prop} {d:DefRec} {K:Params→PySem.W.Frag} {CX:World→CXT} {sp:World→Sp} {x:Str}
  (hn:l.most=some n) (hn2:n≤sizeLine) (hdf:d.params.defaults=[]) (hr:Room k callerA)
  (hY:∀(w:World) (h:Heap),YP w h→(K w.params).In h)
  (F:∀(w:World) (mg:Str→Option Value) (fa:Addr) (h:Heap),(K w.params).In h→h.Ns mainGlobals mg→mg d.name=some (.ref fa)→
   ∃fd:FuncData,(∀(s:Shared) (u:Value),BindsTo s fd ⟨[u],[]⟩ [(x,u)])∧
    ∀base:Heap,(K w.params).In base→base.Ns mainGlobals mg→FnOk l.prog w (K w.params) mg base (CX w) k fa fd [x] (sp w))
  (hsp:∀(w:World) (H:Hp) (a:Addr) (ns:List Int),ns.length≤n→CG H→SqL (K w.params) H a (ns.map V.int)→sp w [.ref a] H (λv _=>v= .bl true) λ_ _ _=>False)
  (hCX:∀(w:World) (H:Hp) (s:Shared) (e:Value) (s':Shared),CX w [] H s (λ_ _ _=>False) e s'→False):
  PySem.W.WalkO q loose XP YP l.row.toRowW d [] (λf vs=>PySem.call f vs):=by
 refine Att.attach_call hn hdf λw s₀ s₁ mg mb fa o pm cd doc a vs ns G Y ho hd hcd hmg hobj hints hlen hg=>?_
 have KX:=hY w _ Y
 obtain⟨fd,hb,hF⟩:=F w mg fa _ KX G.T.g hmg
 exact yF KX G.T.g G.T.b G.T.builtins G.T.nolimit hg hobj hints (QF hlen hn2) hr hF hb (λH hO hS=>hsp w H a ns hlen hO hS) λH e s'=>hCX w H s₁ e s'
end L2
namespace L2
open PySem PySem.Spec PyProof.Rows
abbrev CX0:CXT:=λ_ _ _ _ _ _=>False
abbrev E0:XK:=λ_ _ _=>False
theorem az {X:Cx}:iI CX0 X E0:=λ_ _ _ _ _ _ _ h=>h.elim
structure Fun (K:PySem.W.Frag) (x qual:Str) (st:Stmt) (f:Addr) (fd:FuncData):Prop where
 ex:∃(oc:Value) (od:Option Addr) (kV doc pm:Value) (an:Option Addr) (cdv ct:Value) (osl:Array (Option Value)),
  fd=PySem.W.fnOf x qual (eJ st) (b9 st) (aj st) .none kV doc pm an cdv ct∧K.lookup f=some ⟨oc,od,.func fd,osl⟩∧PySem.W.codeIn K cdv qual=true
 kp:PySem.W.keepIn K (.ref f)=true
section
variable {P:Program} {w:World} {K:PySem.W.Frag} {mg:Str→Option Value} {base:Heap}
theorem Fun.ok {x qual:Str} {st:Stmt} {f:Addr} {fd:FuncData} {N ps:List Str} {k:Nat} {sp:Sp} (F:Fun K x qual st f fd) (S:ao N ps (aj st)) (len:∀vs H Q E,sp vs H Q E→vs.length=ps.length)
  (hbody:∀(cdv:Value) (A:Around) (outer:List Env) (s:Shared) (H:Hp) (vs:List V) (Q:VK) (E:XK),Room k (A.deeper (envOfC qual (aj st) s.heap.objs.size f cdv))→sp vs H Q E→
   ∃t,PSs (oi CX0 P w K mg base N qual (aj st) f cdv A outer s H E).nox (b9 st) t∧t {nx:=λ_ H'=>Q .non H',rt:=Q} (start N vs) H):FnOk P w K mg base CX0 (k+1) f fd ps sp:=by
 obtain⟨oc,od,kV,doc,pm,an,cdv,ct,osl,rfl,lk,hcd⟩:=F.ex
 refine vP lk hcd S len λA outer s H vs Q E hr hsp=>?_
 obtain⟨t,h,q⟩:=hbody cdv A outer s H vs Q E hr hsp
 exact⟨t,h.nox,q⟩
theorem Cm {x qual:Str} {st:Stmt} {f:Addr} {oc:Value} {od an:Option Addr} {osl:Array (Option Value)} {kV doc pm cdv ct:Value} (l:K.lookup f=some ⟨oc,od,.func (PySem.W.fnOf x qual (eJ st) (b9 st) (aj st) .none kV doc pm an cdv ct),osl⟩)
  (c:PySem.W.codeIn K cdv qual=true) (k:PySem.W.keepIn K (.ref f)=true):Fun K x qual st f (PySem.W.fnOf x qual (eJ st) (b9 st) (aj st) .none kV doc pm an cdv ct):=⟨⟨oc,od,kV,doc,pm,an,cdv,ct,osl,rfl,l,c⟩,k⟩
end
theorem qV {A:Around} {k:Nat} (hr:Room k A):A.units+1<cLine:=ZE (Nat.add_le_add_left (by decide:1≤64) _) hr.units
theorem bT {n:Nat} (h:n≤1000):n<sizeLine:=ZE h (by decide)
section
variable {X:Cx}
theorem pv (i:Nat) {x:Str} {pos:Pos} (hN:X.N[i]?=some x:=by rfl) (hv:Vis X.env.scope x:=by first|exact Or.inl rfl|exact Or.inr (Or.inl rfl)|exact Or.inr (Or.inr rfl)) (hd:(x==("__debug__":Str))=false:=by decide)
  (hcd:(x==("__classdict__":Str))=false:=by decide):PE X (.Name x pos) (BD i):=BP hN hv hd hcd
end
theorem fz {A B:Prop} (h:B):if false=true then A else B:=by
 rw[if_neg Q7]
 exact h
theorem dj {A B:Prop} (h:A):if true=true then A else B:=by
 rw[if_pos rfl]
 exact h
theorem bI {c A B:Prop} [Decidable c] (h1:c→A) (h2:¬c→B):if c then A else B:=by
 by_cases h:c
 ·rw[if_pos h]
  exact h1 h
 ·rw[if_neg h]
  exact h2 h
theorem vM {c A B:Prop} [Decidable c] (hc:c) (h:B):if(!decide c)=true then A else B:=by
 rw[decide_eq_true hc]
 exact fz h
def Same (H H':Hp):Prop:=∀b o,H b=some o→H' b=some o
theorem Same.refl (H:Hp):Same H H:=λ_ _ h=>h
theorem Same.trans {H H1 H2:Hp} (a:Same H H1) (b:Same H1 H2):Same H H2:=λc o h=>b c o (a c o h)
end L2
namespace L2
open PySem PySem.Spec PyProof.Rows
section
variable {X:Cx}
theorem xm:g8 X (.builtin "len") (λxs H Q=>∃a kvs,xs=[V.ref a]∧H a=some (.dK kvs)∧Q (.int kvs.length) H):=by
 intro pins s σ H xs us Q I r h
 obtain⟨a,kvs,rfl,ha,q⟩:=h
 obtain⟨u,rfl,ru⟩:=oC r
 cases ru
 exact Dx I (.inl ha) λt s' I'=>⟨.int kvs.length,H,I',⟨t,rfl⟩,q⟩
end
section
variable {κ:Type} [DecidableEq κ]
theorem xP {kvs:List (κ×V)} {k:κ} (h:aO kvs k=none):¬k∈kvs.map (·.1):=by
 intro m
 obtain⟨p,hp,e⟩:=Ql.mp m
 have q:(kvs.any λkv=>decide (kv.1=k))=true:=List.any_eq_true.mpr ⟨p,hp,decide_eq_true e⟩
 rw[bW,h]at q
 exact absurd q (by simp)
theorem oo {kvs:List (κ×V)} {k:κ} {v:V} (h:aO kvs k=some v):k∈kvs.map (·.1):=by
 have q:(kvs.any λkv=>decide (kv.1=k))=true:=by
  rw[bW,h]
  all_goals rfl
 obtain⟨p,hp,e⟩:=List.any_eq_true.mp q
 exact Ql.mpr ⟨p,hp,of_decide_eq_true e⟩
theorem vB:∀{l:List κ} {k:κ},l.Nodup→¬k∈l→(l++ [k]).Nodup
 | [],k,_,_=>by simp
 |a::r,k,h,hk=>by
  obtain⟨h1,h2⟩:=QE.mp h
  show(a::(r++ [k])).Nodup
  refine QE.mpr ⟨λm=>?_,vB h2 λm=>hk (Qh.mpr (Or.inr m))⟩
  rcases Q4.mp m with q|q
  ·exact h1 q
  ·exact hk (Qh.mpr (Or.inl (Q8.mp q).symm))
theorem Aq {kvs:List (κ×V)} {k:κ} (v:V) (hn:(kvs.map (·.1)).Nodup) (h:aO kvs k=none):((bi kvs k v).map (·.1)).Nodup:=by
 rw[ya v h,Qr]
 exact vB hn (xP h)
theorem mU {p:κ×V} {r:List (κ×V)} {k:κ} (e:p.1=k):bv (p::r) k=bv r k:=by
 unfold bv
 rw[Zx,if_neg (by simp[e])]
theorem jO {p:κ×V} {r:List (κ×V)} {k:κ} (e:¬p.1=k):bv (p::r) k=p::bv r k:=by
 unfold bv
 rw[Zx,if_pos (by simp[e])]
theorem tV:∀{kvs:List (κ×V)} {k:κ},¬k∈kvs.map (·.1)→bv kvs k=kvs
 | [],_,_=>rfl
 |p::r,k,h=>by
  have h':¬k∈r.map (·.1):=λm=>by
   obtain⟨q,hq,e⟩:=Ql.mp m
   exact h (Ql.mpr ⟨q,Qh.mpr (Or.inr hq),e⟩)
  rw[jO λe=>h (Ql.mpr ⟨p,Qh.mpr (Or.inl rfl),e⟩),tV h']
theorem q9 {kvs:List (κ×V)} {k:κ} {p:κ×V} (h:p∈bv kvs k):p∈kvs:=(ZS.mp h).1
theorem lV:∀{kvs:List (κ×V)} {k:κ},(kvs.map (·.1)).Nodup→((bv kvs k).map (·.1)).Nodup
 | [],_,_=>Z7
 |p::r,k,h=>by
  have h:(p.1::r.map (·.1)).Nodup:=h
  obtain⟨h1,h2⟩:=QE.mp h
  by_cases e:p.1=k
  ·rw[mU e]
   exact lV h2
  ·rw[jO e]
   show(p.1::(bv r k).map (·.1)).Nodup
   refine QE.mpr ⟨λm=>h1 ?_,lV h2⟩
   obtain⟨q,hq,eq⟩:=Ql.mp m
   exact Ql.mpr ⟨q,q9 hq,eq⟩
theorem rc:∀{kvs:List (κ×V)} {k:κ},(kvs.map (·.1)).Nodup→k∈kvs.map (·.1)→(bv kvs k).length+1=kvs.length
 | [],_,_,m=>by simp at m
 |p::r,k,h,m=>by
  have h:(p.1::r.map (·.1)).Nodup:=h
  have m:k=p.1∨k∈r.map (·.1):=Qh.mp m
  obtain⟨h1,h2⟩:=QE.mp h
  by_cases e:p.1=k
  ·subst e
   rw[mU rfl,tV h1]
   all_goals rfl
  ·have m':k∈r.map (·.1):=m.resolve_left λz=>e z.symm
   have q:=rc h2 m'
   rw[jO e,Qj,Qj]
   omega
end
end L2
namespace L2
open PySem PySem.Spec PyProof.Rows
theorem bn:bootBuiltins "len"=some (.builtin "len"):=by decide+kernel
theorem gL:bootBuiltins "isinstance"=some (.builtin "isinstance"):=by decide+kernel
theorem Ct:bootBuiltins "min"=some (.builtin "min"):=by decide+kernel
theorem xn:bootBuiltins "sorted"=some (.builtin "sorted"):=by decide+kernel
theorem Cu:bootBuiltins "int"=some (.type "int"):=by decide+kernel
theorem AI:bootBuiltins "bool"=some (.type "bool"):=by decide+kernel
theorem Cs:bootBuiltins "str"=some (.type "str"):=by decide+kernel
theorem zc:bootBuiltins "max"=some (.builtin "max"):=by decide+kernel
theorem AH:bootBuiltins "list"=some (.type "list"):=by decide+kernel
theorem su:bootBuiltins "dict"=some (.type "dict"):=by decide+kernel
theorem B9 {K:PySem.W.Frag}:PySem.W.kitOne K (.type "int") (.type "int")=some true:=by kernel_rfl
theorem Ca {K:PySem.W.Frag}:PySem.W.kitOne K (.type "int") (.type "bool")=some false:=by kernel_rfl
theorem Cb {K:PySem.W.Frag}:PySem.W.kitOne K (.type "bool") (.type "int")=some true:=by kernel_rfl
theorem Cc {K:PySem.W.Frag}:PySem.W.kitOne K (.type "bool") (.type "bool")=some true:=by kernel_rfl
theorem B8 {K:PySem.W.Frag}:PySem.W.kitOne K (.type "NoneType") (.type "int")=some false:=by kernel_rfl
theorem B7 {K:PySem.W.Frag}:PySem.W.kitOne K (.type "str") (.type "int")=some false:=by kernel_rfl
theorem qv {c A B:Prop} [Decidable c] (hc:c) (h:A):if decide c=true then A else B:=by
 rw[decide_eq_true hc]
 exact dj h
theorem bQ {c A B:Prop} [Decidable c] (hc:¬c) (h:B):if decide c=true then A else B:=by
 rw[decide_eq_false hc]
 exact fz h
theorem mT {K:PySem.W.Frag} {a:Addr} {xs:List V} {g:TG} {tb:TS} {nx:St→Hp→Prop} {rt:VK} {σ:St} {H:Hp} (Pv:Nat→St→Hp→Prop) (h0:Pv 0 σ H) (hl:∀i σ H,i≤xs.length→Pv i σ H→SqL K H a xs)
  (hs:∀i x σ H,xs[i]?=some x→Pv i σ H→g x σ H λσ2 H2=>tb ⟨Pv (i+1),rt,nx,Pv (i+1)⟩ σ2 H2) (hd:∀σ H,Pv xs.length σ H→nx σ H):
  ∃W:Nat→Nat→St→Hp→Prop,(∃m,W 0 m σ H)∧∀i m σ H,W i m σ H→
   ((Itl K a).stop i H∧nx σ H)∨((Itl K a).go i H∧∃N:St→Hp→Prop,(∀σ' H',N σ' H'→∃m',m'<m∧W (i+1) m' σ' H')∧∀x H',(Itl K a).yld i H x H'→g x σ H' λσ2 H2=>tb ⟨N,rt,nx,N⟩ σ2 H2):=
 yU (D:=⟨nx,rt,λ_ _=>False,λ_ _=>False⟩) Pv h0 hl hs hd
theorem pR {lo:Int} {n:Nat} {g:TG} {tb:TS} {nx:St→Hp→Prop} {rt:VK} {σ:St} {H:Hp} (Pv:Nat→St→Hp→Prop) (h0:Pv 0 σ H)
  (hs:∀i σ H,i<n→Pv i σ H→g (.int (lo+i)) σ H λσ2 H2=>tb ⟨Pv (i+1),rt,nx,Pv (i+1)⟩ σ2 H2) (hd:∀σ H,Pv n σ H→nx σ H):
  ∃W:Nat→Nat→St→Hp→Prop,(∃m,W 0 m σ H)∧∀i m σ H,W i m σ H→
   ((Itr lo n).stop i H∧nx σ H)∨((Itr lo n).go i H∧∃N:St→Hp→Prop,(∀σ' H',N σ' H'→∃m',m'<m∧W (i+1) m' σ' H')∧∀x H',(Itr lo n).yld i H x H'→g x σ H' λσ2 H2=>tb ⟨N,rt,nx,N⟩ σ2 H2):=
 qX (D:=⟨nx,rt,λ_ _=>False,λ_ _=>False⟩) Pv h0 hs hd
theorem pU {ns:List Int} {k:Int} (h0:0≤k) (h:k<(ns.length:Int)):atI (ns.map V.int) k=some (.int (ns.getD k.toNat 0)):=by
 obtain⟨j,rfl⟩:=ZM h0
 refine oz ?_
 have hj:j<ns.length:=by omega
 rw[QD,Q3 hj,Zs,Qv,Q3 hj]
 rfl
theorem zb {ns:List Int} {k:Int} (h:¬k<(ns.length:Int)):ns.getD k.toNat 0=0:=by
 rw[Qv,List.getElem?_eq_none (by omega)]
 rfl
section
variable {X:Cx}
theorem m9:g8 X (.builtin "isinstance") (λxs H Q=>∃x n t b,xs=[x,.ty n]∧TyOf X.K H x t∧PySem.W.kitOne X.K t (.type n)=some b∧Q (.bl b) H):=by
 intro pins s σ H xs us Q I r h
 obtain⟨x,n,t,b,rfl,ty,e,q⟩:=h
 obtain⟨u,w',rfl,ru,rw'⟩:=sI r
 cases (show w'=Value.type n from rw')
 exact wZ I ru ty e λtk=>⟨.bl b,H,I.tok _,rfl,q⟩
theorem wE:OpR X (compareOp .IsNot) (λx y H Q=>∃a b,x= .bl a∧y= .bl b∧Q (.bl (a !=b)) H):=by
 intro pins s σ H x y v u Q I rx ry h
 obtain⟨a,b,rfl,rfl,q⟩:=h
 cases rx
 cases ry
 exact isnot_bool (aZ I q rfl)
end
end L2
namespace SW
def rv:Nat→Nat→Nat
 |0,_=>0
 |k+1,n=>(n%2)*2^k+rv k (n/2)
theorem C7:∀(k n:Nat),rv k n<2^k
 |0,_=>by simp[rv]
 |k+1,n=>by
  have h:=C7 k (n/2)
  have m:n%2<2:=Nat.mod_lt _ (by decide)
  have e:rv (k+1) n=(n%2)*2^k+rv k (n/2):=rfl
  have p:2^(k+1)=2*2^k:=by rw[Xa,Nat.mul_comm]
  rw[e,p]
  rcases Nat.mod_two_eq_zero_or_one n with z|z<;>rw[z]<;>omega
theorem vq:∀(k n:Nat),rv (k+1) n=rv k n*2+(n/2^k)%2
 |0,n=>by simp[rv]
 |k+1,n=>by
  have h:=vq k (n/2)
  have e1:rv (k+2) n=(n%2)*2^(k+1)+rv (k+1) (n/2):=rfl
  have e2:rv (k+1) n=(n%2)*2^k+rv k (n/2):=rfl
  have d:n/2/2^k=n/2^(k+1):=by
   rw[Nat.div_div_eq_div_mul,Xa,Nat.mul_comm]
  rw[e1,e2,h,d,Xa]
  rw[Nat.add_mul,Nat.mul_assoc]
  omega
@[irreducible] def tz (n:Int):Int:=((rv 16 n.toNat:Nat):Int)
theorem wn (i:Nat) (m:Nat):((rv i m:Nat):Int)*2+((m/2^i:Nat):Int)%2=((rv (i+1) m:Nat):Int):=by
 rw[vq];omega
theorem wp (i:Nat) (m:Nat):((m/2^i:Nat):Int)/2=((m/2^(i+1):Nat):Int):=by
 have d:m/2^i/2=m/2^(i+1):=by rw[Nat.div_div_eq_div_mul,Xa]
 rw[←d];omega
end SW
namespace L2
open PySem PySem.Spec PyProof.Rows
abbrev aT (C:Addr) (od:Option Addr) (vs:Array Value):Obj:={cls:= .ref C,dict:=od,data:= .fields vs}
def Trc (h:Heap) (e:Addr) (vs:Array Value) (T:Addr) (fl:Value):Prop:=
 vs[1]?=some (.ref T)∧T≠e∧∃oT ts,h.get? T=some oT∧oT.data= .fields ts∧ts[3]?=some fl
structure Noted (l:List Addr) (e:Addr) (old:Addr→Prop) (h h':Heap):Prop where
 keep:∀b o,h.get? b=some o→b∉l→b≠e→¬old b→h'.get? b=some o
 slot:∀b o,h.get? b=some o→b∈l→b≠e→¬old b→∃sl,h'.get? b=some {o with slots:=sl}
 there:∀b o,h.get? b=some o→∃o',h'.get? b=some o'
section
variable {M:Model} {A:Around} {E:Value→Shared→Prop} {s:Shared} {base:Heap} {env:Env} {outer:List Env} {L e C:Addr} {od:Option Addr} {vs:Array Value} {Q:Unit→Shared→Prop}
theorem Cn (hl:s.heap.FunFrames base (env::outer)) (he:s.heap.get? e=some (aT C od vs)):e∉frs (env::outer):=λhm=>by
 obtain⟨_,o,ho,hn⟩:=hl.mem hm
 cases he.symm.trans ho
 exact hn vs rfl
theorem pD {head:Value} {had:Bool} (hfr:A.frames=some (env::outer)) (hl:s.heap.FunFrames base (env::outer)) (hf:env.frame=some L) (he:s.heap.get? e=some (aT C od vs)) (hsz:1<vs.size)
  (q:∀h' T vs',Noted (frs (env::outer)) e (λ_=>False) s.heap h'→h'.get? e=some (aT C od vs')→(vs'.size=vs.size∧vs'[2]?=vs[2]?)→s.heap.objs.size≤T→Trc h' e vs' T (rawInt L)→Q () {s with heap:=h'}):
  wpAny M A (do let a←frameOf env;let pl←entryPlaceOf L had;let b←EntryCells.newEntry head a .none (rawInt L) .none pl;setField (.ref e) 1 b) Q E s:=by
 have nf:e∉(env::outer).filterMap (·.frame):=Cn hl he
 refine wpAny_bind (wpAny_frameOf_fun hfr hl hf λh1 so=>?_)
 refine wpAny_bind (wpAny_entryPlaceOf λpl ip=>?_)
 unfold EntryCells.newEntry newFields
 refine wpAny_bind (wpAny_newObj_type ?_ (ip.sizeOk5 _ _ _ _ _))
 have e1:h1.get? e=some (aT C od vs):=(so.2.1 e nf).trans he
 have big:3<([head,Value.ref L,.none,rawInt L,.none]++(if pl.isEmpty then List.replicate 6 Value.none else pl)).toArray.size:=by
  simp only[Qd,Qa,Qj,Xh]
  omega
 have at3:([head,Value.ref L,.none,rawInt L,.none]++(if pl.isEmpty then List.replicate 6 Value.none else pl)).toArray[3]?=some (rawInt L):=by simp
 generalize ([head,Value.ref L,.none,rawInt L,.none]++(if pl.isEmpty then List.replicate 6 Value.none else pl)).toArray=ts at big at3
 generalize eo:({cls:= .type "traceback",dict:=none,data:= .fields ts}:Obj)=oT
 have e2:(h1.push oT).get? e=some (aT C od vs):=Heap.get?_push_of_some _ e1
 have ne:h1.objs.size≠e:=X6 (Heap.lt_size e1)
 refine wpAny_setField e2 rfl hsz (q _ h1.objs.size (vs.setIfInBounds 1 (.ref h1.objs.size)) ⟨λb o g1 g2 g3 _=>?_,λb o g1 _ g3 _=>?_,λb o g1=>?_⟩ ?_ ⟨Array.size_setIfInBounds,by simp⟩ (Zr so.1.symm) ⟨by simp[hsz],ne,oT,ts,?_,by rw[←eo],at3⟩)
 ·rw[Heap.get?_update_other _ _ (Ne.symm g3)]
  exact Heap.get?_push_of_some _ ((so.2.1 b g2).trans g1)
 ·obtain⟨sl,r⟩:=so.2.2 b o g1
  exact⟨sl,(Heap.get?_update_other _ _ (Ne.symm g3)).trans (Heap.get?_push_of_some _ r)⟩
 ·by_cases z:b=e
  ·subst z
   exact⟨_,Heap.get?_update_self _ e2 rfl⟩
  ·obtain⟨sl,r⟩:=so.2.2 b o g1
   exact⟨_,(Heap.get?_update_other _ _ (Ne.symm z)).trans (Heap.get?_push_of_some _ r)⟩
 ·exact Heap.get?_update_self _ e2 rfl
 ·rw[Heap.get?_update_other _ _ (Ne.symm ne),←eo]
  exact Heap.get?_push_size h1 rfl
theorem uI (hfr:A.frames=some (env::outer)) (hl:s.heap.FunFrames base (env::outer)) (hf:env.frame=some L) (he:s.heap.get? e=some (aT C od vs)) (h1:vs[1]?=some .none)
  (q:∀h' T vs',Noted (frs (env::outer)) e (λ_=>False) s.heap h'→h'.get? e=some (aT C od vs')→(vs'.size=vs.size∧vs'[2]?=vs[2]?)→s.heap.objs.size≤T→Trc h' e vs' T (rawInt L)→Q () {s with heap:=h'}):
  wpAny M A (noteFrame (.ref e) env) Q E s:=by
 unfold noteFrame
 simp only[hf]
 refine wpAny_bind (wpAny_field he rfl h1 ?_)
 rw[if_neg (by decide)]
 exact pD hfr hl hf he (Zg.mp h1).1 q
theorem wJ {T:Addr} (hfr:A.frames=some (env::outer)) (hl:s.heap.FunFrames base (env::outer)) (hf:env.frame=some L) (he:s.heap.get? e=some (aT C od vs)) (tr:Trc s.heap e vs T .none)
  (q:∀h' T' vs',Noted (frs (env::outer)) e (· =T) s.heap h'→h'.get? e=some (aT C od vs')→(vs'.size=vs.size∧vs'[2]?=vs[2]?)→s.heap.objs.size≤T'→Trc h' e vs' T' (rawInt L)→Q () {s with heap:=h'}):
  wpAny M A (noteFrame (.ref e) env) Q E s:=by
 obtain⟨h1,ne,oT,ts,hT,hd,h3⟩:=tr
 unfold noteFrame
 simp only[hf]
 refine wpAny_bind (wpAny_field he rfl h1 ?_)
 rw[if_pos (show(Value.ref T !=Value.none)=true by simp)]
 refine wpAny_bind (wpAny_field hT hd h3 ?_)
 rw[if_neg (show ¬(Value.none==rawInt L)=true by simp[rawInt])]
 have oth:∀b,b≠T→(s.heap.update T (Obj.mapFields (·.setIfInBounds 3 Value.none))).get? b=s.heap.get? b:=λb z=>Heap.get?_update_other _ _ (Ne.symm z)
 have nofr:∀b o,s.heap.get? b=some o→(∀ws,o.data≠ .fields ws)→b≠T:=λb o g1 g2 z=>by
  subst z
  cases hT.symm.trans g1
  exact g2 ts hd
 refine wpAny_bind (wpAny_setField hT hd (Zg.mp h3).1 ?_)
 refine pD hfr (hl.of_keeps λb o g1 g2=>⟨o,(oth b (nofr b o g1 g2)).trans g1,rfl⟩) hf ((oth e (Ne.symm ne)).trans he) (Zg.mp h1).1 λh' T' vs' n g1 g2 g3 g4=>?_
 refine q h' T' vs' ⟨λb o k1 k2 k3 k4=>n.keep b o ((oth b k4).trans k1) k2 k3 id,λb o k1 k2 k3 k4=>n.slot b o ((oth b k4).trans k1) k2 k3 id,λb o k1=>?_⟩ g1 g2 (by rw[Heap.size_after_update]at g3;exact g3) g4
 by_cases z:b=T
 ·subst z
  exact n.there b _ (Heap.get?_update_self _ hT (Obj.isFreed_of_fields (Obj.data_mapFields hd _)))
 ·exact n.there b o ((oth b z).trans k1)
theorem kP {l:List Addr} {T:Addr} {fl:Value} (he:s.heap.get? e=some (aT C od vs)) (tr:Trc s.heap e vs T fl)
  (q:∀h',(∀b o,b≠T→s.heap.get? b=some o→h'.get? b=some o)→h'.get? e=some (aT C od vs)→(∃o,h'.get? T=some o)→h'.objs.size=s.heap.objs.size→Trc h' e vs T .none→Q () {s with heap:=h'}):
  wpAny M A (setFlight (.ref e) none) Q E s:=by
 obtain⟨h1,ne,oT,ts,hT,hd,h3⟩:=tr
 have big:3<ts.size:=(Zg.mp h3).1
 unfold setFlight
 refine wpAny_bind (wpAny_field he rfl h1 ?_)
 rw[if_pos (show(Value.ref T !=Value.none)=true by simp)]
 have oth:∀b,b≠T→(s.heap.update T (Obj.mapFields (·.setIfInBounds 3 ((none:Option Addr).elim Value.none λf=>rawInt f)))).get? b=s.heap.get? b:=λb z=>Heap.get?_update_other _ _ (Ne.symm z)
 have new:=Heap.get?_update_self (Obj.mapFields (·.setIfInBounds 3 ((none:Option Addr).elim Value.none λf=>rawInt f))) hT (Obj.isFreed_of_fields (Obj.data_mapFields hd _))
 exact wpAny_setField hT hd big (q _ (λb o z g=>(oth b z).trans g) ((oth e (Ne.symm ne)).trans he) ⟨_,new⟩ (Heap.size_after_update ..) ⟨h1,ne,_,_,new,Obj.data_mapFields hd _,by simp[big]⟩)
end
end L2
namespace L2
open PySem PySem.Spec PyProof.Rows
def XN (e C:Addr) (od:Option Addr):HO:= .ext λh=>∃t,h.get? e=some (aT C od #[.ref t,.none,.none,.none,.bool false,.none])
def XO (e C:Addr) (od:Option Addr):HO:= .ext λh=>∃vs,h.get? e=some (aT C od vs)∧1<vs.size
section
variable {P:Program} {w:World} {H:Hp} {h h':Heap} {e C:Addr} {od:Option Addr} {vs:Array Value}
theorem A8 {t:Addr} (k:h.get? e=some (aT C od #[.ref t,.none,.none,.none,.bool false,.none])):ObjOk P w H h e (XN e C od):=
 ⟨⟨t,k⟩,⟨_,k⟩,λ_ _ ⟨t,k⟩ st=>⟨t,st _ k⟩⟩
theorem AY (k:h.get? e=some (aT C od vs)) (z:1<vs.size):ObjOk P w H h e (XO e C od):=
 ⟨⟨vs,k,z⟩,⟨_,k⟩,λ_ _ ⟨vs,k,z⟩ st=>⟨vs,st _ k,z⟩⟩
theorem CT (ok:HOk P w H h) (q:H e=some (XN e C od)):∃t,h.get? e=some (aT C od #[.ref t,.none,.none,.none,.bool false,.none]):=(ok e _ q).1
theorem AZ (ok:HOk P w H h) (q:H e=some (XO e C od)):∃vs,h.get? e=some (aT C od vs)∧1<vs.size:=(ok e _ q).1
theorem Noted.hok {l:List Addr} {old:Addr→Prop} {φ:Heap→Prop} (n:Noted l e old h h') (ok:HOk P w H h) (hl:∀b∈l,H b=none) (ho:∀b,old b→H b=none) (he:H e=some (.ext φ))
  (new:h'.get? e=some (aT C od vs)) (z:1<vs.size):HOk P w (upd H e (XO e C od)) h':=λb u q=>by
 by_cases hb:b=e
 ·subst hb
  rw[ag]at q
  cases q
  exact AY new z
 ·rw[ac hb]at q
  have oth:∀c v,H c=some v→c≠e→∀o,h.get? c=some o→h'.get? c=some o:=λc v r ne o g=>
   n.keep c o g (λm=>by rw[hl c m]at r;cases r) ne λm=>by rw[ho c m]at r;cases r
  refine(ok b u q).stay (λc v hc r=>?_) (λc r=>?_) λc xs r=>?_
  ·rcases hc with rfl|hc
   ·exact oth _ _ q hb v r
   ·exact oth _ _ hc (λm=>by rw[m,he]at hc;cases hc) v r
  ·rw[ac (λm=>by rw[m,he]at r;cases r)]
   exact r
  ·rw[ac (λm=>by rw[m,he]at r;cases r)]
   exact r
theorem Noted.un {l:List Addr} {old:Addr→Prop} {ch:List Addr} {φ:Heap→Prop} {o':HO} (n:Noted l e old h h') (hc:∀b,old b→b∈ch) (he:H e=some (.ext φ)):Un l ch H (upd H e o') h h':=by
 have ne:∀b,H b=none→b≠e:=λb r z=>by rw[z,he]at r;cases r
 refine⟨λb o g r m k=>n.keep b o g m (ne b r) λz=>k (hc b z),λb o g r m k=>n.slot b o g m (ne b r) λz=>k (hc b z),λb o _ r _=>by rw[ac (ne b r)];exact r,λb o g _=>n.there b o g,λb xs r=>?_,λb o u r=>?_,λb ps r=>⟨#[],?_⟩⟩
 ·rw[ac (λm=>by rw[m,he]at r;cases r)]
  exact r
 ·rw[ac (λm=>by rw[m,he]at r;cases r)]
  exact r
 ·rw[ac (λm=>by rw[m,he]at r;cases r),r]
  simp
end
def CX1 (P:Program) (w:World):CXT:=λouter H s E e s'=>∃(ea C:Addr) (od:Option Addr) (vs:Array Value) (T:Addr) (H':Hp),
 e= .ref ea∧s'.os=s.os∧AllBare s'.gens∧Un (frs outer) [] H H' s.heap s'.heap∧HOk P w H' s'.heap∧H' ea=some (XO ea C od)∧s'.heap.get? ea=some (aT C od vs)∧1<vs.size∧
 Trc s'.heap ea vs T .none∧H' T=none∧s.heap.objs.size≤T∧E (.ref ea) od H'
end L2
namespace L2
open PySem PySem.Spec PyProof.Rows
theorem xQ {H:Hp} {a:Addr} {o:HO} (h:H a=some o):upd H a o=H:=by
 funext b
 by_cases z:b=a
 ·subst z;rw[ag,h]
 ·rw[ac z]
def we (X:Cx) (E:St→XK) (e:Value) (s:Shared):Prop:=∃(pins:List (Addr×Obj)) (σ:St) (H:Hp) (ea C:Addr) (od:Option Addr) (vs:Array Value) (φ:Heap→Prop),
 e= .ref ea∧Inv X pins σ H s∧H ea=some (.ext φ)∧s.heap.get? ea=some (aT C od vs)∧1<vs.size∧(vs[1]?=some .none∨∃T,Trc s.heap ea vs T .none∧jF X pins H T)∧E σ (.ref ea) od (upd H ea (XO ea C od))
section
variable {X:Cx} {pins:List (Addr×Obj)} {σ:St} {H:Hp} {s:Shared} {M:Model} {A:Around} {W:Value→Shared→Prop}
theorem uH {ea C:Addr} {od:Option Addr} {vs:Array Value} {φ:Heap→Prop} {Q:Unit→Shared→Prop} (I:Inv X pins σ H s) (hst:X.stack=X.env::X.outer) (hf:X.env.frame=some X.env.locals) (hA:A.frames=some X.stack)
  (hx:H ea=some (.ext φ)) (hr:s.heap.get? ea=some (aT C od vs)) (hz:1<vs.size) (ht:vs[1]?=some .none∨(∃T,Trc s.heap ea vs T .none∧jF X pins H T)∨∃T,Trc s.heap ea vs T (rawInt X.env.locals)∧jF X pins H T)
  (q:∀s' vs' T,Inv X pins σ (upd H ea (XO ea C od)) s'→s'.heap.get? ea=some (aT C od vs')→1<vs'.size→Trc s'.heap ea vs' T .none→jF X pins (upd H ea (XO ea C od)) T→vs'[2]?=vs[2]?→Q () s'):
  wpAny M A (noteFrame (.ref ea) X.env) (λ_ s1=>wpAny M A (setFlight (.ref ea) none) Q W s1) W s:=by
 rw[hst]at hA
 have hl:s.heap.FunFrames X.base (X.env::X.outer):=hst▸I.stack
 have hfree:∀b∈frs (X.env::X.outer),H b=none:=hst▸I.stkFree
 have fin:∀(old:Addr→Prop) (ch:List Addr) (h1:Heap) (T':Addr) (vs':Array Value),(∀b,old b↔b∈ch)→(∀b∈ch,jF X pins H b)→Noted (frs (X.env::X.outer)) ea old s.heap h1→h1.get? ea=some (aT C od vs')→(vs'.size=vs.size∧vs'[2]?=vs[2]?)→
   s.heap.objs.size≤T'→Trc h1 ea vs' T' (rawInt X.env.locals)→wpAny M A (setFlight (.ref ea) none) Q W {s with heap:=h1}:=by
  intro old ch h1 T' vs' hoc hch n g1 g2 g3 g4
  refine kP (l:=[]) (s:={s with heap:=h1}) g1 g4 λh2 k1 k2 k3 k4 k5=>?_
  have nT:∀b o,s.heap.get? b=some o→b≠T':=λb o g z=>absurd (Heap.lt_size g) (Xk.mpr (z▸g3))
  have n2:Noted (frs (X.env::X.outer)) ea old s.heap h2:=⟨λb o r1 r2 r3 r4=>k1 b o (nT b o r1) (n.keep b o r1 r2 r3 r4),λb o r1 r2 r3 r4=>by
    obtain⟨sl,r⟩:=n.slot b o r1 r2 r3 r4
    exact⟨sl,k1 b _ (nT b o r1) r⟩,λb o r1=>by
    obtain⟨o',r⟩:=n.there b o r1
    exact⟨o',k1 b _ (nT b o r1) r⟩⟩
  have hok2:HOk X.prog X.w (upd H ea (XO ea C od)) h2:=n2.hok I.hok hfree (λb z=>(hch b ((hoc b).mp z)).1) hx k2 (g2.1▸hz)
  have un2:Un (frs X.stack) ch H (upd H ea (XO ea C od)) s.heap h2:=by
   rw[hst]
   exact n2.un (λb z=>(hoc b).mp z) hx
  have I2:Inv X pins σ (upd H ea (XO ea C od)) {s with heap:=h2}:=I.call' (s':={s with heap:=h2}) rfl un2 hok2 I.bare λb hb=>by
   obtain⟨z1,z2,z3,z4,z5,z6⟩:=hch b hb
   exact⟨z4,z2,z5,z6⟩
  refine q _ vs' T' I2 k2 (g2.1▸hz) k5 (I.fpOk g3 ?_) g2.2
  have neT:T'≠ea:=Ne.symm (nT ea _ hr)
  rw[ac neT]
  exact I.hok.fresh g3
 rcases ht with h1|⟨T,tr,fp⟩|⟨T,tr,fp⟩
 ·exact uI hA hl hf hr h1 λh1 T' vs' n g1 g2 g3 g4=>fin (λ_=>False) [] h1 T' vs' (λb=>by simp) (λb z=>nomatch z) n g1 g2 g3 g4
 ·exact wJ hA hl hf hr tr λh1 T' vs' n g1 g2 g3 g4=>fin (· =T) [T] h1 T' vs' (λb=>by simp) (λb z=>by rw[Q8.mp z];exact fp) n g1 g2 g3 g4
 ·obtain⟨h1,ne,oT,ts,hT,hd,h3⟩:=id tr
  refine wpAny_noteFrame_inFlight hf hr rfl h1 hT hd h3 ?_
  refine kP (l:=[]) hr tr λh' k1 k2 k3 k4 k5=>?_
  have I1:Inv X pins σ H {s with heap:=h'}:=I.turned (t':=s.toks) (it:=T) k1 fp.1 fp.2.1 fp.2.2.2.1 fp.2.2.2.2.1 fp.2.2.2.2.2
  have I2:Inv X pins σ (upd H ea (XO ea C od)) {s with heap:=h'}:=I1.write (x:=ea) (e:=ea) (t':=s.toks) (by rw[hx];exact True.intro) (.inl rfl) (λ_ _ _ e=>e) ⟨_,k2⟩ (AY k2 hz)
  exact q _ vs T I2 k2 hz k5 ⟨by rw[ac ne];exact fp.1,fp.2.1,fp.2.2.1,fp.2.2.2.1,fp.2.2.2.2.1,fp.2.2.2.2.2⟩ rfl
theorem qN {ea C:Addr} {od:Option Addr} {vs:Array Value} {φ:Heap→Prop} {Q:Unit→Shared→Prop} (I:Inv X pins σ H s) (hst:X.stack=X.env::X.outer) (hf:X.env.frame=some X.env.locals) (hA:A.frames=some X.stack)
  (hx:H ea=some (.ext φ)) (hr:s.heap.get? ea=some (aT C od vs)) (hz:1<vs.size) (ht:vs[1]?=some .none∨∃T,Trc s.heap ea vs T .none∧jF X pins H T)
  (q:∀s' vs' T,Inv X pins σ (upd H ea (XO ea C od)) s'→s'.heap.get? ea=some (aT C od vs')→1<vs'.size→Trc s'.heap ea vs' T .none→jF X pins (upd H ea (XO ea C od)) T→Q () s'):
  wpAny M A (noteFrame (.ref ea) X.env) (λ_ s1=>wpAny M A (setFlight (.ref ea) none) Q W s1) W s:=
 uH I hst hf hA hx hr hz (ht.imp id .inl) λs' vs' T I' r z t f _=>q s' vs' T I' r z t f
theorem Inv.thrown {E:XK} {e:Value} {s':Shared} (I:Inv X pins σ H s) (h:CX1 X.prog X.w X.stack H s E e s'):∃(ea C:Addr) (od:Option Addr) (vs:Array Value) (H':Hp),e= .ref ea∧Inv X pins σ H' s'∧H' ea=some (XO ea C od)∧
  s'.heap.get? ea=some (aT C od vs)∧1<vs.size∧(∃T,Trc s'.heap ea vs T .none∧jF X pins H' T)∧E (.ref ea) od H':=by
 obtain⟨ea,C,od,vs,T,H',rfl,os,bare,un,hok,hx,hr,hz,tr,hT,hn,q⟩:=h
 exact⟨ea,C,od,vs,H',rfl,I.call' os un hok bare λb z=>absurd z (by simp),hx,hr,hz,⟨T,tr,I.fpOk hn hT⟩,q⟩
theorem Inv.flies {E:XK} {F:St→XK} {e:Value} {s':Shared} (I:Inv X pins σ H s) (h:CX1 X.prog X.w X.stack H s E e s') (k:∀v od H',E v od H'→F σ v od H'):we X F e s':=by
 obtain⟨ea,C,od,vs,H',rfl,I',hx,hr,hz,ht,q⟩:=I.thrown h
 exact⟨pins,σ,H',ea,C,od,vs,_,rfl,I',hx,hr,hz,.inr ht,by rw[xQ hx];exact k _ _ _ q⟩
end
section
variable {P:Program} {w:World} {K:PySem.W.Frag} {mg:Str→Option Value} {base:Heap} {N:List Str} {qual:Str} {scope:Scope} {f:Addr} {cd:Value} {A:Around} {outer:List Env} {s:Shared} {H:Hp} {E:XK}
theorem yB {e:Value} {s':Shared} (h:we (oi (CX1 P w) P w K mg base N qual scope f cd A outer s H E) (λ_=>E) e s'):(oi (CX1 P w) P w K mg base N qual scope f cd A outer s H E).xe e s':=by
 obtain⟨pins,σ,H1,ea,C,od,vs,φ,rfl,I,hx,hr,hz,ht,q⟩:=h
 show wpAny _ _ (leaving _ (.ref ea)) _ _ s'
 unfold leaving
 refine wpAny_bind (qN I rfl rfl I.ok.frames hx hr hz ht λs2 vs2 T I2 r2 z2 t2 f2=>?_)
 refine⟨ea,C,od,vs2,T,_,rfl,I2.os,I2.bare,I2.base,I2.hok,ag,r2,z2,t2,f2.1,?_,q⟩
 rcases f2.2.2.2.1 with z|z
 ·exact absurd (show T∈([]:List Addr) from z) (by simp)
 ·exact z
theorem Fun.okX {x qual:Str} {st:Stmt} {f:Addr} {fd:FuncData} {N ps:List Str} {k:Nat} {sp:Sp} (F:Fun K x qual st f fd) (S:ao N ps (aj st)) (len:∀vs H Q E,sp vs H Q E→vs.length=ps.length)
  (hbody:∀(cdv:Value) (A:Around) (outer:List Env) (s:Shared) (H:Hp) (vs:List V) (Q:VK) (E:XK),Room k (A.deeper (envOfC qual (aj st) s.heap.objs.size f cdv))→sp vs H Q E→
   ∃t,PSs (oi (CX1 P w) P w K mg base N qual (aj st) f cdv A outer s H E) (b9 st) t∧t {nx:=λ_ H'=>Q .non H',rt:=Q} (start N vs) H):FnOk P w K mg base (CX1 P w) (k+1) f fd ps sp:=by
 obtain⟨oc,od,kV,doc,pm,an,cdv,ct,osl,rfl,lk,hcd⟩:=F.ex
 exact vP lk hcd S len λA outer s H vs Q E hr hsp=>hbody cdv A outer s H vs Q E hr hsp
end
end L2
namespace L2
open PySem PySem.Spec PyProof.Rows
abbrev vBase:List Value:=[.type "ValueError",.type "Exception",.type "BaseException",.type "object"]
def ExcMro (bm:List Value):Prop:=∃ups:List Addr,bm=ups.map Value.ref++vBase
theorem ExcMro.typ {bm:List Value} (B:ExcMro bm) (T:String):bm.contains (.type T)=vBase.contains (.type T):=by
 obtain⟨ups,rfl⟩:=B
 induction ups with
 |nil=>rfl
 |cons a r ih=>rw[Qs,List.cons_append,QJ,ih];rfl
theorem ExcMro.val {bm:List Value} (B:ExcMro bm):bm.contains (.type "ValueError")=true:=(B.typ _).trans (by decide+kernel)
theorem ExcMro.bas {bm:List Value} (B:ExcMro bm):bm.contains (.type "BaseException")=true:=(B.typ _).trans (by decide+kernel)
theorem ExcMro.att {bm:List Value} (B:ExcMro bm):bm.contains (.type "AttributeError")=false:=(B.typ _).trans (by decide+kernel)
theorem ExcMro.nam {bm:List Value} (B:ExcMro bm):bm.contains (.type "NameError")=false:=(B.typ _).trans (by decide+kernel)
structure XCls (K:PySem.W.Frag) (C:Addr) (bm:List Value):Prop where
 ob:∃nm q N bs sn sub ab col dd k0 k1 k2 k3 k5,K.lookup C=some (excClassObj nm q C N bs bm true sn sub ab col dd k0 k1 k2 k3 k5 "ValueError.__new__")
 mro:ExcMro bm
 kp:PySem.W.keepIn K (.ref C)=true
 ga:PySem.W.findIn K (.ref C) "__getattribute__"=some (some (.builtin "BaseException.__getattribute__"))
 gn:PySem.W.findIn K (.ref C) "__getattr__"=some none
 sa:PySem.W.findIn K (.ref C) "__setattr__"=some (some (.builtin "object.__setattr__"))
section
variable {prog:Program} {w:World} {A:Around} {h:Heap} {g:Array GenState} {d:Drawn} {t:Nat} {os:OsState}
variable {nm q:Str} {C N:Addr} {bs bm:List Value} {sn:List Str} {sub:List Value} {ab:Bool} {col:Option Bool} {dd:Option Addr} {k0 k1 k2 k3 k5:Option Value}
abbrev b8 (C t:Addr):Obj:=aT C none #[.ref t,.none,.none,.none,.bool false,.none]
abbrev g9 (us:List Value):Obj:={cls:= .type "tuple",data:= .seq us.toArray}
theorem AD {rest:List Value} {R:Result→Shared→Prop} (B:ExcMro bm) (hC:h.get? C=some (excClassObj nm q C N bs bm true sn sub ab col dd k0 k1 k2 k3 k5 "ValueError.__new__")) (hz:rest.length≤sizeLine)
  (hq:R (.ok (.ret (.ref (h.objs.size+1)))) ⟨(h.push (g9 rest)).push (b8 C h.objs.size),g,d,t,os⟩):
  codeAny (model prog w) A (.call (.builtin "ValueError.__new__") ⟨.ref C::rest,[]⟩) R ⟨h,g,d,t,os⟩:=by
 have F:=ZF
 have c1:(Value.ref C::bm).contains (.type "ValueError")=true:=by rw[QJ,B.val,ZQ]
 have c2:(Value.ref C::bm).contains (.type "AttributeError")=false:=by rw[QJ,B.att];rfl
 have c3:(Value.ref C::bm).contains (.type "NameError")=false:=by rw[QJ,B.nam];rfl
 have st:=F.noStar
 have en:=F.ends
 refine codeAny_call_builtin_code (Code.quiet_builtin _ F.quiet) ?_
 simp only[checkBuiltinCall,F.newKind,F.newSplit,F.newRow]
 repeat (first|refine wpAny_loadPart_at hC ?_|(refine wpAny_isSubtype_exc hC ?_;rw[c1])|refine wpAny_staticBase_exc hC ?_|refine wpAny_madeBy_exc hC ?_|simp only[bne_self_eq_false,QK,if_false]|wp_step)
 refine codeAny_builtinAt F.entry ?_
 unfold Builtin.«BaseException.__new__»
 refine PySem.wpAt_bind ?_
 show PySem.wpAt _ _ _ (stack>>=_) _ _ _
 refine PySem.wpAt_bind (PySem.wpAt_stack λp below=>PySem.wpAt_of_wpAny ?_)
 wp_walk
 refine PySem.wpAt_of_wpAny ?_
 rw[F.owner]
 repeat (first|with_reducible refine wpAny_madeHere_exc F.canon hC ?_|with_reducible refine wpAny_loadPart_at hC ?_|(with_reducible refine wpAny_isSubtype_exc hC ?_;first|rw[c1]|rw[c2]|rw[c3])|wp_step)
 show R _ _
 rw[Heap.size_push]
 exact hq
open PySem.W in
theorem yW {K:PySem.W.Frag} {fi:Value} {us:List Value} {R:Result→Shared→Prop} (X:K.In h) (Y:XCls K C bm) (hz:us.length≤sizeLine) (hi:findIn K (.ref C) "__init__"=some (some fi)) (hf:∀self,Looks (model prog w) h (bindSpecial fi self) (fi,[self]))
  (hq:codeAny (model prog w) (A.under (.builtin "type.__call__" ⟨.ref C::us,[]⟩)) (.call fi ⟨.ref (h.objs.size+1)::us,[]⟩) (InitBack (h.objs.size+1) R) ⟨(h.push (g9 us)).push (b8 C h.objs.size),g,d,t,os⟩):
  codeAny (model prog w) A (.call (.ref C) ⟨us,[]⟩) R ⟨h,g,d,t,os⟩:=by
 obtain⟨nm,q,N,bs,sn,sub,ab,col,dd,k0,k1,k2,k3,k5,hK⟩:=Y.ob
 have hC:=X _ _ hK
 have B:=Y.mro
 have cC:(Value.ref C::bm).contains (.ref C)=true:=by simp
 have hl:=looks_findIn (M:=model prog w) X hi
 have f1:=tc_lookup
 have f2:=tc_bind (.ref C)
 have hT:(⟨h,g,d,t,os⟩:Shared).TypeIs (.ref C) "type":=⟨_,hC,rfl⟩
 refine codeAny_of_tree ?_
 show wpAny _ _ (callAny (.ref C) _) _ _ _
 repeat (any_goals (first|assumption|with_reducible refine wpAny_loadPart_at hC ?_|wp_step))
 refine⟨rfl,?_⟩
 refine codeAny_call_builtin_at (Code.quiet_builtin _ (by decide+kernel)) entry_typeCall (wpAny_check_type_call_sub hC ?_)
 repeat (first|with_reducible refine wpAny_loadPart_at hC ?_|with_reducible refine wpAny_madeBy_exc hC ?_|wp_step)
 refine AD B hC hz ?_
 show wpAny _ (A.under (.builtin "type.__call__" ⟨.ref C::us,[]⟩)) _ _ _ ⟨(h.push (g9 us)).push (b8 C h.objs.size),g,d,t,os⟩
 have k:∀b o,h.get? b=some o→((h.push (g9 us)).push (b8 C h.objs.size)).get? b=some o:=λb o e=>Heap.get?_push_of_some _ (Heap.get?_push_of_some _ e)
 have he:((h.push (g9 us)).push (b8 C h.objs.size)).get? (h.objs.size+1)=some (b8 C h.objs.size):=by heap_get
 have hC1:=k _ _ hC
 have hl1:=hl.keeps k
 have fb:=(hf (.ref (h.objs.size+1))).keeps k
 have t1:Looks (model prog w) ((h.push (g9 us)).push (b8 C h.objs.size)) (typeOf (.ref (h.objs.size+1))) (.ref C):=(Looks.ld he).andThen .now
 have s1:Looks (model prog w) ((h.push (g9 us)).push (b8 C h.objs.size)) (isSubtype (.ref C) (.ref C)) true:=λA' Q' E' s' kk z=>by
  obtain⟨hp,g',d',t',os'⟩:=s'
  exact wpAny_isSubtype_exc (kk _ _ hC1) (by rw[cC];exact z)
 unfold isInstance callSpecial? specialOf
 repeat (first|simp only[cC,Bool.not_true,QK,if_false]|with_reducible refine wpAny_call ?_|lk)
 refine codeAny_mono hq λr s' z=>?_
 rcases r with e|(v|_|_|_)<;>first|exact z|exact z.elim|skip
 obtain⟨rfl,z⟩:=z
 exact wpAny_pure (wpAny_pure z)
end
end L2
namespace L2
open PySem PySem.Spec PyProof.Rows
section
variable {prog:Program} {w:World} {A:Around} {h:Heap} {g:Array GenState} {d:Drawn} {t:Nat} {os:OsState}
variable {nm q:Str} {C N:Addr} {bs bm:List Value} {sn:List Str} {sub:List Value} {ab:Bool} {col:Option Bool} {dd:Option Addr} {k0 k1 k2 k3 k5:Option Value}
theorem yX {e:Addr} {od:Option Addr} {t0:Addr} {us:List Value} {R:Result→Shared→Prop} (B:ExcMro bm) (hC:h.get? C=some (excClassObj nm q C N bs bm true sn sub ab col dd k0 k1 k2 k3 k5 "ValueError.__new__"))
  (he:h.get? e=some (aT C od #[.ref t0,.none,.none,.none,.bool false,.none])) (hz:us.length≤sizeLine)
  (hq:∀h',(∀b o,b≠e→h.get? b=some o→h'.get? b=some o)→h'.get? e=some (aT C od #[.ref h.objs.size,.none,.none,.none,.bool false,.none])→R (.ok (.ret .none)) ⟨h',g,d,t,os⟩):
  codeAny (model prog w) A (.call (.builtin "ValueError.__init__") ⟨.ref e::us,[]⟩) R ⟨h,g,d,t,os⟩:=by
 have F:=ZF
 have c1:(Value.ref C::bm).contains (.type "ValueError")=true:=by rw[QJ,B.val,ZQ]
 have st:=F.noStar
 refine codeAny_call_builtin F.init.plain F.initEntry ?_
 simp only[checkBuiltinCall,F.initKind,F.initSplit,F.initRow]
 repeat (first|with_reducible refine wpAny_loadPart_at he ?_|with_reducible refine wpAny_loadPart_at hC ?_|(with_reducible refine wpAny_isSubtype_exc hC ?_;rw[c1])|wp_step)
 refine wpAny_onRaise ?_
 rw[show ∀(a b:String) (n:Nat),Bind.check ⟨.positional,"*","ValueError",.self,[⟨"args",.varPos,false⟩]⟩ a b n (List.map (λx=>x.fst) ({pos:=Value.ref e::us}:Args).kw)=pure () from λa b n=>check_star_args _ _ _ _ _ _]
 refine wpAny_pure ?_
 wp_walk
 have he1:(h.push (g9 us)).get? e=some (aT C od #[.ref t0,.none,.none,.none,.bool false,.none]):=Heap.get?_push_of_some _ he
 refine hq _ (λb o z k=>?_) ?_
 ·rw[Heap.get?_update_other _ _ (Ne.symm z)]
  exact Heap.get?_push_of_some _ k
 ·exact Heap.get?_update_self _ he1 rfl
end
end L2
namespace L2
open PySem PySem.Spec PyProof.Rows PySem.W
section
variable {prog:Program} {w:World} {A:Around} {E:Value→Shared→Prop} {s:Shared} {K:PySem.W.Frag} {e C:Addr} {bm:List Value}
theorem XCls.cd (Y:XCls K C bm):∃cd,clsIn K C=some cd∧cd.mro= .ref C::bm∧cd.hasDict=true:=by
 obtain⟨nm,q,N,bs,sn,sub,ab,col,dd,k0,k1,k2,k3,k5,hK⟩:=Y.ob
 exact⟨_,by unfold clsIn;rw[hK],rfl,rfl⟩
theorem XCls.inst (Y:XCls K C bm) (X:K.In s.heap) {od:Option Addr} {vs:Array Value} (he:s.heap.get? e=some (aT C od vs)) (T:String) (hT:bm.contains (.type T)=true):Looks (model prog w) s.heap (isInstance (.ref e) (.type T)) true:=by
 obtain⟨cd,hc,hm,_⟩:=Y.cd
 refine((Looks.ld he).andThen .now:Looks (model prog w) s.heap (typeOf (.ref e)) (.ref C)).andThen (looks_mroIn X ?_)
 unfold mroIn
 rw[hc,Zj,if_neg (by rw[hm];exact Q7),hm,QJ,hT,ZQ]
end
end L2
namespace L2
open PySem PySem.Spec PyProof.Rows PySem.W
section
variable {prog:Program} {w:World} {A:Around} {E:Value→Shared→Prop} {s:Shared} {K:PySem.W.Frag} {e C:Addr} {bm:List Value}
theorem bga_slot:Slot "ValueError" "__getattribute__" "BaseException.__getattribute__":=
 .of (owner:="BaseException") (n:="__getattribute__") (by rw[typeLookup_type,builtinLookup_eq_fast];kernel_rfl) (by decide+kernel) (by decide+kernel) (by decide+kernel)
  (by first|exact .inl (by decide+kernel)|exact .inr (by decide+kernel)) (by rw[isSubtype_type];kernel_rfl)
theorem yV {vs:Array Value} {odx:Option Addr} {od:Option Obj} {name:Str} {expr fill:Bool} {tk:Tok} {r:Builtin.ObjectAttr.Found} {Q:Value→Shared→Prop} (X:K.In s.heap) (Y:XCls K C bm) (I:InstAt s.heap e (aT C odx vs) C od)
  (hf:findObj K C od name=some r)
  (hq:wpAny (model prog w) A.in1 (match r with| .value v=>ret v| .bind g a=>Builtin.ObjectAttr.bindTo g a (.ref e) (.ref C)| .missing=>ret .none) (λfin s'=>match fin with| .done (.ret v)=>wpAny (model prog w) A (handedOut v) Q E s'|_=>False) (λ_ _=>False) s)
  (hr:r≠ .missing):wpAny (model prog w) A (getAttrBy (.ref e) (.str name tk) fill expr) Q E s:=by
 obtain⟨h,g,d,t,os⟩:=s
 have L0:=I.type (M:=model prog w)
 have L1:=looks_findIn (M:=model prog w) (h:=h) X Y.ga
 have L2:=looks_findIn (M:=model prog w) (h:=h) X Y.gn
 have L3:=looks_find (M:=model prog w) (h:=h) X I hf
 unfold getAttrBy
 refine wpAny_holding (wpAny_bind (L0.at (wpAny_bind (L1.at ?_))))
 dsimp only
 have n2:(Value.builtin "BaseException.__getattribute__"==Value.builtin "object.__getattribute__")=false:=by decide+kernel
 rw[n2,Bool.and_false,if_neg Q7]
 unfold getAttrByItsOwn hookBefore
 rw[if_pos (show onTheHeap (.ref C)=true from rfl)]
 refine wpAny_bind (L2.at (wpAny_bind (wpAny_attempt (wpAny_holding ?_))))
 unfold callGetattribute
 rw[show(expr&&onTheHeap (Value.builtin "BaseException.__getattribute__"))=false from Bool.and_false _,if_neg Q7]
 unfold boundAndCalled
 rw[bga_slot.bind]
 refine wpAny_bind (wpAny_pure ?_)
 show wpAny _ _ (call (.builtin "BaseException.__getattribute__") [.ref e,.str name tk]) _ _ _
 refine wpAny_call (codeAny_call_builtin bga_slot.plain PySem.F.entry_bexc_ga (@check_slot (model prog w) _ _ ⟨h,g,d,t,os⟩ "BaseException.__getattribute__" "BaseException" "__getattribute__" (.ref e) [.str name tk] [] _ (by decide+kernel) (by decide+kernel) (Y.inst (s:=⟨h,g,d,t,os⟩) X I.at_ "BaseException" Y.mro.bas) (PySem.F.args_bexc_ga _ _) ?_))
 unfold Builtin.«object.__getattribute__»
 refine wpAny_bind (wpAny_pure (wpAny_bind (wpAny_pure (wpAny_bind (L0.at (wpAny_bind (L3.at ?_)))))))
 cases r with
 |missing=>exact absurd rfl hr
 |value v=>
  refine wpAny_mono hq (λfin s' z=>?_) λ_ _ z=>z.elim
  rcases fin with(_|_|_|_)|_<;>first|exact z|exact z.elim
 |bind g' a=>
  refine wpAny_mono hq (λfin s' z=>?_) λ_ _ z=>z.elim
  rcases fin with(_|_|_|_)|_<;>first|exact z|exact z.elim
structure XIs (K:PySem.W.Frag) (C:Addr):Prop where
 ha:findIn K (.ref C) "__class__"=some (some (.builtin "object.__class__"))
 hn:specialIn K (.builtin "object.__class__") "__get__"=some (some (.builtin "getset_descriptor.__get__"))
 tk:takesIn K (.builtin "object.__class__")=some true
 hm:mroIn K C (.type "object")=some true
theorem xg {vs:Array Value} {odx:Option Addr} {od:Option Obj} {Q:Option Value→Shared→Prop} (X:K.In s.heap) (Y:XCls K C bm) (Z:XIs K C) (I:InstAt s.heap e (aT C odx vs) C od) (h:Q (some (.ref C)) {s with toks:=s.toks+1}):
  wpAny (model prog w) A (getAttr? (.ref e) "__class__") Q E s:=by
 obtain⟨cd,hc,hm,hdc⟩:=Y.cd
 have hf:findObj K C od "__class__"=some (.bind (.builtin "getset_descriptor.__get__") (.builtin "object.__class__")):=by
  unfold findObj
  rw[hc,Zj,Z.ha,Zj]
  dsimp only
  rw[Z.hn,Zj]
  dsimp only
  rw[Z.tk]
  rfl
 unfold getAttr? getAttrBy?
 refine wpAny_bind (wpAny_mkText (wpAny_bind (wpAny_attempt ?_)))
 refine yV (s:={s with toks:=s.toks+1}) X Y I hf ?_ (by intro z;cases z)
 show wpAny _ _ (holding [.builtin "object.__class__"] (call (.builtin "getset_descriptor.__get__") [.builtin "object.__class__",.ref e,.ref C])>>=ret) _ _ _
 refine wpAny_bind (wpAny_holding (wpAny_call (class_get (s:={s with toks:=s.toks+1}) X I Z.hm ?_)))
 exact wpAny_pure (by show wpAny _ _ (handedOut _) _ _ _;rw[handedOut_of rfl];exact wpAny_pure (wpAny_pure h))
theorem yH {vs:Array Value} {odx:Option Addr} {od:Option Obj} (Y:XCls K C bm) (Z:XIs K C):KitX K (.ref e) (.ref C) (λh=>InstAt h e (aT C odx vs) C od) where
 ty:=λ_ _ _ I=>I.type
 it:=λ_ _ X _=>by
  obtain⟨nm,q,N,bs,sn,sub,ab,col,dd,k0,k1,k2,k3,k5,hK⟩:=Y.ob
  intro A' Q' E' s' k q
  unfold isType loadHead
  exact wpAny_bind (wpAny_loadPart (k _ _ (X _ _ hK)) (wpAny_pure q))
 ne:=λh tp dd its n sl X htp=>by
  obtain⟨nm,q,N,bs,sn,sub,ab,col,dd,k0,k1,k2,k3,k5,hK⟩:=Y.ob
  refine Zd.mpr λq=>?_
  obtain rfl:C=tp:=Value.ref.inj (beq_iff_eq.mp q)
  have z:=congrArg Obj.cls (Option.some.inj ((X _ _ hK).symm.trans htp))
  exact absurd (Value.type.inj z) (by decide+kernel)
 ca:=λX I k=>xg X Y Z I k
end
end L2
namespace L2
open PySem PySem.Spec PyProof.Rows PySem.W
def ExcAt (H:Hp) (e:Addr) (od:Option Addr) (C:Addr) (fs:List (Str×V)):Prop:=H e=some (XO e C od)∧((fs=[]∧od=none)∨∃dx,od=some dx∧H dx=some (.xd fs))
section
variable {X:Cx} {pins:List (Addr×Obj)} {σ:St} {H:Hp} {s:Shared}
theorem ExcAt.inst {e:Addr} {od:Option Addr} {C:Addr} {fs:List (Str×V)} (I:Inv X pins σ H s) (h:ExcAt H e od C fs):∃vs odo,InstAt s.heap e (aT C od vs) C odo:=by
 obtain⟨h1,h2⟩:=h
 obtain⟨vs,r,_⟩:=AZ I.hok h1
 rcases h2 with⟨_,rfl⟩|⟨dx,rfl,hd⟩
 ·exact⟨vs,none,r,rfl,rfl,True.intro⟩
 ·obtain⟨mA,⟨o,es,ep,ho,_⟩,_⟩:=(show ObjOk X.prog X.w H s.heap dx (.xd fs) from I.hok dx _ hd)
  exact⟨vs,some o,r,rfl,rfl,ho⟩
theorem Ay {K:PySem.W.Frag} {C D:Addr} {bm bm':List Value} {b:Bool} (Y:XCls K C bm) (Z:XCls K D bm') (h:subIn K (.ref C) (.ref D)=some b):kitOne K (.ref C) (.ref D)=some b:=by
 unfold kitOne
 obtain⟨cd,hc,hm,_⟩:=Y.cd
 obtain⟨cd',hc',_,_⟩:=Z.cd
 by_cases z:((Value.ref C:Value)== .ref D)=true
 ·rw[if_pos z]
  obtain rfl:C=D:=Value.ref.inj (beq_iff_eq.mp z)
  have:subIn K (.ref C) (.ref C)=some true:=by
   show mroIn K C (.ref C)=some true
   unfold mroIn
   rw[hc,Zj,if_neg (by rw[hm];exact Q7),hm,QJ]
   simp
  rw[h]at this
  rw[this]
 ·rw[if_neg z]
  obtain⟨nm,q,N,bs,sn,sub,ab,col,dd,k0,k1,k2,k3,k5,hK⟩:=Z.ob
  have ht:typeIn K (.ref D)=some (.type "type"):=by
   show(K.lookup D).map (·.cls)=_
   rw[hK]
   rfl
  show(if((clsIn K D).isSome&&typeIn K (.ref D)==some (.type "type"))=true then subIn K (.ref C) (.ref D)else none)=some b
  rw[if_pos (by rw[hc',ht];simp),h]
theorem qy (K:PySem.W.Frag) (hK:X.K=K):g8 X (.builtin "isinstance") (λxs H Q=>∃e od C fs bm D b,xs=[.ref e,.ref D]∧ExcAt H e od C fs∧XCls K C bm∧XIs K C∧kitOne K (.ref C) (.ref D)=some b∧Q (.bl b) H):=by
 subst hK
 intro pins s σ H xs us Q I r h
 obtain⟨e,od,C,fs,bm,D,b,rfl,hx,Y,Z,hk,q⟩:=h
 obtain⟨u0,u1,rfl,r0,r1⟩:=sI r
 cases (show u0=Value.ref e from r0)
 cases (show u1=Value.ref D from r1)
 obtain⟨vs,odo,J⟩:=hx.inst I
 exact kia_one (yH Y Z) I.kIn J hk (λz=>by cases z) λtk=>⟨.bl b,H,I.tok _,rfl,q⟩
end
end L2
namespace L2
open PySem PySem.Spec PyProof.Rows PySem.W
section
variable {X:Cx} {pins:List (Addr×Obj)} {σ:St} {H:Hp} {s:Shared}
theorem Inv.madeX {C:Addr} {us:List Value} (I:Inv X pins σ H s):Inv X pins σ (upd H (s.heap.objs.size+1) (XN (s.heap.objs.size+1) C none)) {s with heap:=(s.heap.push (g9 us)).push (b8 C s.heap.objs.size)}:=
 I.laid (t':=s.toks) (λb o e=>Heap.get?_push_of_some _ (Heap.get?_push_of_some _ e)) (Zf _) (A8 (t:=s.heap.objs.size) (by heap_get))
def vm (C:Addr) (t:TA):TE:=λσ H Q=>t σ H λvs H1=>vs.length≤1000∧∀e,H1 e=none→Q (.ref e) (upd H1 e (XN e C none))
variable {CX:CXT} {k:Nat} {f C:Addr} {fd:FuncData} {ps:List Str} {sp:Sp} {dvs:List V} {ds:List Value} {E:XK} {x m:Str} {p pos apos:Pos} {e o:Expr} {es:List Expr} {ta:TE} {t:TA} {bm:List Value}
theorem Inv.rewrite {ea:Addr} {φ:Heap→Prop} {od:Option Addr} {t1:Addr} {h':Heap} {tk:Nat} (I:Inv X pins σ H s) (hx:H ea=some (.ext φ)) (k:∀b o,b≠ea→s.heap.get? b=some o→h'.get? b=some o)
  (new:h'.get? ea=some (aT C od #[.ref t1,.none,.none,.none,.bool false,.none])):Inv X pins σ (upd H ea (XN ea C od)) {s with heap:=h',toks:=tk}:=
 I.write (x:=ea) (e:=ea) (by rw[hx];exact True.intro) (.inl rfl) k ⟨_,new⟩ (A8 new)
theorem qK (Y:XCls X.K C bm) (hi:findIn X.K (.ref C) "__init__"=some (some (.builtin "ValueError.__init__"))) (hg:Gl X x) (hm:X.mg x=some (.ref C))
  (ha:PA X (e::es) t) (hdb:(x==("__debug__":Str))=false:=by decide) (he:starEach (e::es) X.env=(false,eval e X.env)::starEach es X.env:=by rfl) (hpl:(backTo pos (starEach es X.env)).any (·.1)=false:=by rfl):
  PE X (.Call (.Name x p) (e::es) [] pos) (vm C t):=by
 intro pins s σ H Q I h
 refine wpAny_Call_Name_kw (iz I hg hm ?_ hdb)
 refine Zb (h₀:=X.base) I.ok.mod.kin Y.kp (thn (ha pos pins s σ H _ I h) λus s1 ⟨vs,H1,I1,r,hz,q⟩=>⟨I1.kIn,?_⟩) he hpl
 have hz2:us.length≤sizeLine:=by rw[←r.length];exact ZP (bT hz)
 have I2:=Inv.madeX (C:=C) (us:=us) I1
 have q2:=q (s1.heap.objs.size+1) (I1.hok.fresh (Zf _))
 obtain⟨nm,q',N,bs,sn,sub,ab,col,dd,k0,k1,k2,k3,k5,hK⟩:=Y.ob
 have hC:=I2.kIn _ _ hK
 obtain⟨h0,g0,d0,t0,o0⟩:=s1
 refine wpAny_call (yW I1.kIn Y hz2 hi (λself=>Looks.of_pure (ZF.init.bind self)) ?_)
 refine yX Y.mro hC (t0:=h0.objs.size) (by heap_get) hz2 λh' k' n'=>⟨rfl,?_⟩
 have I3:=I2.rewrite (C:=C) (od:=none) (tk:=t0) ag k' n'
 rw[b7]at I3
 exact⟨V.ref (h0.objs.size+1),_,I3,rfl,q2⟩
end
end L2
namespace L2
open PySem PySem.Spec PyProof.Rows PySem.W
structure zk (K:PySem.W.Frag) (C:Addr) (m:Str) (v:Value):Prop where
 sp:specialIn K (.ref C) "__getattribute__"=some (some (.builtin "type.__getattribute__"))
 rd:readsIn K C (.type "type")=true
 at_:findCls K (.ref C) (.type "type") m=some (.val v)
section
variable {X:Cx} {pins:List (Addr×Obj)} {σ:St} {H:Hp} {s:Shared}
variable {CX:CXT} {k:Nat} {f C:Addr} {fd:FuncData} {ps:List Str} {sp:Sp} {dvs:List V} {ds:List Value} {E:XK} {x m:Str} {p pos apos:Pos} {e o:Expr} {es:List Expr} {ta:TE} {t:TA} {bm:List Value}
theorem rQ {pl:Sem Bool} (hg:Gl X x) (hm:X.mg x=some (.ref C)) (hc:zk X.K C m (.ref f)) (hk:PySem.W.keepIn X.K (.ref f)=true) (F:FnOk X.prog X.w X.K X.mg X.base CX k f fd ps sp) (hr:Room k X.A) (hb:Binds X.K fd ps ds) (hd:Vals dvs ds) (hx:iI CX X E) (ha:PA X (e::es) t)
  (hdb:(x==("__debug__":Str))=false:=by decide)
  (hst:starEach (e::es) X.env=(false,eval e X.env)::starEach es X.env:=by rfl) (hpl:(backTo pos (starEach es X.env)).any (·.1)=false:=by rfl)
  (ht:eval (.Call (.Attribute (.Name x p) m apos) (e::es) [] pos) X.env=(do
   let ov←eval (.Name x p) X.env
   standAt apos.atName
   let(f,first)←holding [ov] (getMethod ov m pl)
   callWith pos f first (backTo pos (starEach (e::es) X.env)) (backToKw pos (keywordEach [] X.env))):=by rfl):
  PE X (.Call (.Attribute (.Name x p) m apos) (e::es) [] pos) (Bd sp dvs E t):=by
 intro pins s σ H Q I h
 refine QM (pl:=pl) (iz I hg hm ?_ hdb) ht
 refine method_cls I.kIn hc.sp (cls_value I.kIn hc.rd hc.at_ rfl ?_)
 refine Zb (first:=[]) (h₀:=X.base) I.ok.mod.kin hk (thn (ha pos pins _ σ H _ (I.tok _) h) λus s2 ⟨vs,H2,I2,r,q2⟩=>⟨I2.kIn,?_⟩) hst hpl
 exact mK F hr hb hd hx I2 r q2
theorem wA {env:Env} {y:Sem Value} {Q:Flow→Shared→Prop} {M:Model} {A:Around} {W:Value→Shared→Prop} (hh:A.handled=none)
  (h:wpAny M A y (λv s1=>∃ea C od t nm q N bs bm sn sub ab col dd k0 k1 k2 k3 k5,v= .ref ea∧s1.heap.get? C=some (excClassObj nm q C N bs bm true sn sub ab col dd k0 k1 k2 k3 k5 "ValueError.__new__")∧ExcMro bm∧
   s1.heap.get? ea=some (aT C od #[.ref t,.none,.none,.none,.bool false,.none])∧W (.ref ea) s1) W s):wpAny M A (raiseStmt env (some y) none) Q W s:=by
 unfold raiseStmt
 refine wpAny_bind (wpAny_mono h (λv s1 z=>?_) λ_ _ z=>z)
 obtain⟨ea,C,od,t,nm,q,N,bs,bm,sn,sub,ab,col,dd,k0,k1,k2,k3,k5,rfl,hC,B,he,hE⟩:=z
 have cB:(Value.ref C::bm).contains (.type "BaseException")=true:=by rw[QJ,B.bas,ZQ]
 obtain⟨hp,g,d,tk,os⟩:=s1
 repeat (first|with_reducible refine wpAny_loadPart_at he ?_|with_reducible refine wpAny_loadPart_at hC ?_|(with_reducible refine wpAny_isSubtype_exc hC ?_;rw[cB])|wp_step)
 exact wpAny_raiseNew_none hh hE
def zj (X:Cx) (E:XK):Prop:=∀e s,we X (λ_=>E) e s→X.xe e s
def x5 (K:PySem.W.Frag) (te:TE) (E:XK):TS:=λ_ σ H=>te σ H λv H1=>∃ea C od bm,v= .ref ea∧H1 ea=some (XN ea C od)∧XCls K C bm∧E (.ref ea) od (upd H1 ea (XO ea C od))
theorem sY {ex:Expr} {te:TE} {pos:Pos} (hc:X.calm=true) (hx:zj X E) (he:PE X ex te):PS X (.Raise (some ex) none pos) (x5 X.K te E):=by
 intro pins s σ H D I h
 rw[arm_exec_Raise]
 simp only[evalOpt,Option.map]
 refine wpAny_bind (wpAny_standAt (wA (I.ok.hd hc) (wpAny_bind (thn (he pins s σ H _ I h) λv s1 ⟨y,H1,I1,ry,ea,C,od,bm,ev,hn,Y,q⟩=>wpAny_bind (wpAny_standAt (wpAny_pure ?_))))))
 subst ev
 cases (show v=Value.ref ea from ry)
 obtain⟨nm,q',N,bs,sn,sub,ab,col,dd,k0,k1,k2,k3,k5,hK⟩:=Y.ob
 obtain⟨t,he'⟩:=CT I1.hok hn
 exact⟨ea,C,od,t,nm,q',N,bs,bm,sn,sub,ab,col,dd,k0,k1,k2,k3,k5,rfl,I1.kIn _ _ hK,Y.mro,he',hx _ _ ⟨pins,σ,H1,ea,C,od,_,_,rfl,I1,hn,he',(by show 1<6;decide),.inl rfl,q⟩⟩
end
theorem vk {P:Program} {w:World} {K:PySem.W.Frag} {mg:Str→Option Value} {base:Heap} {N:List Str} {qual:Str} {scope:Scope} {f:Addr} {cd:Value} {A:Around} {outer:List Env} {s:Shared} {H:Hp} {E:XK}:
  zj (oi (CX1 P w) P w K mg base N qual scope f cd A outer s H E) E:=λ_ _ h=>yB h
end L2
namespace L2
open PySem PySem.Spec PyProof.Rows PySem.W
section
variable {M:Model} {A:Around} {W:Value→Shared→Prop} {s:Shared}
variable {nm q nm' q':Str} {C N C' N':Addr} {bs bm bs' bm':List Value} {sn sn':List Str} {sub sub':List Value} {ab ab':Bool} {col col':Option Bool} {dd dd':Option Addr} {k0 k1 k2 k3 k5 k0' k1' k2' k3' k5':Option Value}
theorem xf {e:Addr} {od:Option Addr} {vs:Array Value} {b:Bool} {Q:Bool→Shared→Prop} (hC:s.heap.get? C=some (excClassObj nm q C N bs bm true sn sub ab col dd k0 k1 k2 k3 k5 "ValueError.__new__"))
  (hD:s.heap.get? C'=some (excClassObj nm' q' C' N' bs' bm' true sn' sub' ab' col' dd' k0' k1' k2' k3' k5' "ValueError.__new__")) (B:ExcMro bm') (he:s.heap.get? e=some (aT C od vs)) (hb:(Value.ref C::bm).contains (.ref C')=b)
  (hq:Q b s):wpAny M A (excMatches (.ref e) (.ref C')) Q W s:=by
 have cB:(Value.ref C'::bm').contains (.type "BaseException")=true:=by rw[QJ,B.bas,ZQ]
 have f:=tc_notTuple
 obtain⟨hp,g,d,t,os⟩:=s
 unfold excMatches
 repeat (first|with_reducible refine wpAny_loadPart_at he ?_|with_reducible refine wpAny_loadPart_at hD ?_|(with_reducible refine wpAny_isSubtype_exc hD ?_;rw[cB])|(with_reducible refine wpAny_isSubtype_exc hC ?_;rw[hb])|wp_step)
 cases b<;>(wp_walk;exact hq)
end
abbrev Cx.sui (X:Cx) (ea:Addr):Cx:={X with A:=X.A.mark (some (.ref ea)),calm:=false,xe:=λ_ _=>False}
abbrev Cx.tr (X:Cx) (pn:List (Addr×Obj)) (E:St→XK):Cx:={X with pn:=X.pn++pn,xe:=we {X with pn:=X.pn++pn} E}
section
variable {X:Cx} {pins:List (Addr×Obj)} {σ:St} {H:Hp} {s:Shared}
theorem Cx.Ok.sui (ok:X.Ok) (ea:Addr):(X.sui ea).Ok:=
 ⟨ok.mod,ok.kind,ok.glob,ok.blt,ok.above,ok.inj,ok.has,ok.cab,λz=>absurd z Q7,ok.frames,ok.stk,ok.exf,ok.bs,ok.bsz,ok.noex,ok.exfs,ok.funs,ok.frf⟩
theorem Inv.sui (I:Inv X pins σ H s) (ea:Addr):Inv (X.sui ea) pins σ H s:=⟨I.ok.sui ea,I.os,I.bare,I.base,I.loc,I.cell,I.free,I.freeC,I.pin,I.hok,I.len⟩
theorem Inv.back {ea:Addr} (ok:X.Ok) (I:Inv (X.sui ea) pins σ H s):Inv X pins σ H s:=⟨ok,I.os,I.bare,I.base,I.loc,I.cell,I.free,I.freeC,I.pin,I.hok,I.len⟩
theorem Cx.Ok.tr (ok:X.Ok) (pn:List (Addr×Obj)) (E:St→XK):(X.tr pn E).Ok:=
 ⟨ok.mod,ok.kind,ok.glob,ok.blt,ok.above,ok.inj,ok.has,ok.cab,ok.hd,ok.frames,ok.stk,ok.exf,ok.bs,ok.bsz,ok.noex,ok.exfs,ok.funs,ok.frf⟩
theorem Inv.tr (I:Inv X pins σ H s) (E:St→XK):Inv (X.tr pins E) [] σ H s:=⟨I.ok.tr pins E,I.os,I.bare,I.base,I.loc,I.cell,I.free,I.freeC,λp hp=>I.pin p (by simpa using hp),I.hok,I.len⟩
theorem Inv.untr {pn:List (Addr×Obj)} (ok:X.Ok) (I:Inv {X with pn:=X.pn++pn} pins σ H s):Inv X pn σ H s:=
 ⟨ok,I.os,I.bare,I.base,I.loc,I.cell,I.free,I.freeC,λp hp=>I.pin p (QR _ hp),I.hok,I.len⟩
theorem Inv.untr' {pn:List (Addr×Obj)} {E:St→XK} (ok:X.Ok) (I:Inv (X.tr pn E) pins σ H s):Inv X pn σ H s:=
 ⟨ok,I.os,I.bare,I.base,I.loc,I.cell,I.free,I.freeC,λp hp=>I.pin p (QR _ hp),I.hok,I.len⟩
theorem jH {M:Model} {A:Around} {W:Value→Shared→Prop} {i:Nat} {x:Str} {pos:Pos} {Q:Unit→Shared→Prop} (I:Inv X pins σ H s) (hN:X.N.Nodup) (hi:X.N[i]?=some x) (hk:X.env.scope.names.lookup x=some .local)
  (h:∀s',Inv X pins (σ.set i none) H s'→Q () s'):wpAny M A (do bindName X.env x .none;unbindBehindTheSuite X.env x pos) Q W s:=by
 obtain⟨m,hn,hl⟩:=id I.loc
 have hiσ:i<σ.length:=by rw[I.len];exact(Q2.mp hi).1
 have above:∀b o,X.s₀.heap.get? b=some o→b≠X.env.locals:=λb o e=>Qz (Qn (Heap.lt_size e) I.ok.above)
 refine wpAny_nameGoes_keeps hk hn (by rw[I.ok.kind];rfl) λh' v hn' hs=>h _ ?_
 have cl:∀y c,X.env.cells.lookup y=some c→∀w,s.heap.IsCell c w→h'.IsCell c w:=λy c e w z=>z.sameBut hs (I.cne y c e)
 refine⟨I.ok,I.os,I.bare,⟨λb o e n hb hx=>(hs.2 b (above b o e)).trans (I.base.keep b o e n hb hx),λb o e n hb hx=>?_,I.base.free,λb o e hx=>?_,I.base.tups,I.base.frzs,I.base.tbls⟩,⟨_,hn',λj y v' e1 e2 e3=>?_⟩,λy c e=>?_,I.free,I.freeC,λp hp=>?_,λb ob e=>?_,by simpa using I.len⟩
 ·obtain⟨sl,r⟩:=I.base.slot b o e n hb hx
  exact⟨sl,(hs.2 b (above b o e)).trans r⟩
 ·obtain⟨o',r⟩:=I.base.there b o e hx
  exact⟨o',(hs.2 b (above b o e)).trans r⟩
 ·have hj:j≠i:=λz=>by rw[z,Zq hiσ]at e2;cases e2
  rw[ZZ (Ne.symm hj)]at e2
  obtain⟨u,r,q⟩:=hl j y v' e1 e2 e3
  refine⟨u,r,?_⟩
  rcases q with⟨k,e⟩|⟨k,c,e,z⟩
  ·have ny:y≠x:=λz=>hj (pF hN e1 (z▸hi))
   exact .inl ⟨k,by simp[ny,e]⟩
  ·exact .inr ⟨k,c,e,cl y c e _ z⟩
 ·obtain⟨w',z⟩:=I.cell y c e
  exact⟨w',cl y c e w' z⟩
 ·obtain⟨e,n,ne,nf,d⟩:=I.pin p hp
  exact⟨(hs.2 p.1 ne).trans e,n,ne,nf,d⟩
 ·refine(I.hok b ob e).stay (λc w' hc r=>(hs.2 c ?_).trans r) (λ_ r=>r) λ_ _ r=>r
  rintro rfl
  have fr:=I.free
  rcases hc with rfl|hc
  ·rw[fr]at e;cases e
  ·rw[fr]at hc;cases hc
end
end L2
namespace L2
open PySem PySem.Spec PyProof.Rows PySem.W
abbrev TH:=Ends→St→Hp→Addr→Addr→Option Addr→Prop
def PH (X:Cx) (hs:List ExceptHandler) (t:TH):Prop:=∀(pins:List (Addr×Obj)) (s:Shared) (σ:St) (H:Hp) (D:Ends) (ea C:Addr) (od:Option Addr) (vs:Array Value) (T:Addr),Inv X pins σ H s→H ea=some (XO ea C od)→
 s.heap.get? ea=some (aT C od vs)→Trc s.heap ea vs T .none→jF X pins H T→t D σ H ea C od→wpAny (model X.prog X.w) X.A (handleBy (.ref ea) X.env hs) (SP X pins D) X.xe s
def Ds:TH:=λ_ _ _ _ _ _=>False
def Ends.gone (D:Ends) (i:Nat):Ends:=⟨λσ H=>D.nx (σ.set i none) H,D.rt,λσ H=>D.bk (σ.set i none) H,λσ H=>D.ct (σ.set i none) H⟩
def hAs (K:PySem.W.Frag) (Dc:Addr) (i:Nat) (ts:TS) (tr:TH):TH:=λD σ H ea C od=>∃bm b,XCls K C bm∧subIn K (.ref C) (.ref Dc)=some b∧if b=true then ts (D.gone i) (σ.set i (some (.ref ea))) H else tr D σ H ea C od
section
variable {X:Cx} {x n:Str} {np pos:Pos} {b0:Stmt} {suite:List Stmt} {rest:List ExceptHandler} {i:Nat} {ts:TS} {tr:TH} {Dc:Addr} {bm':List Value}
theorem Al {hs:List ExceptHandler}:PH X hs Ds:=λ_ _ _ _ _ _ _ _ _ _ _ _ _ _ _ h=>h.elim
theorem zX {K:PySem.W.Frag} {C D:Addr} {bm:List Value} {b:Bool} (Y:XCls K C bm) (h:subIn K (.ref C) (.ref D)=some b):(Value.ref C::bm).contains (.ref D)=b:=by
 obtain⟨cd,hc,hm,_⟩:=Y.cd
 have h:mroIn K C (.ref D)=some b:=h
 unfold mroIn at h
 rw[hc,Zj,if_neg (by rw[hm];exact Q7),hm]at h
 exact Option.some.inj h
theorem Ak {name:Option Str} {pins:List (Addr×Obj)} {s:Shared} {σ:St} {H:Hp} {ea C:Addr} {od:Option Addr} {vs:Array Value} {bm:List Value} {b:Bool} {Q:Flow→Shared→Prop} (I:Inv X pins σ H s) (hr:s.heap.get? ea=some (aT C od vs)) (hg:Gl X x) (hm:X.mg x=some (.ref Dc)) (Z:XCls X.K Dc bm')
  (Y:XCls X.K C bm) (hb:subIn X.K (.ref C) (.ref Dc)=some b) (hdb:(x==("__debug__":Str))=false)
  (h1:b=true→codeAny (model X.prog X.w) (X.A.mark (some (.ref ea))) (.handlers (.ref ea) [.ExceptHandler none name (b0::suite) pos] X.env) (λr s2=>match r with
     | .ok f=>(match name with
      |none=>Q f s2
      |some n=>wpAny (model X.prog X.w) X.A (do bindName X.env n .none;unbindBehindTheSuite X.env n pos) (λ_ s3=>Q f s3) X.xe s2)
     | .error x=>cameBackBy (model X.prog X.w) X.A X.env X.xe x s2) s)
  (h2:b=false→wpAny (model X.prog X.w) X.A (handleBy (.ref ea) X.env rest) Q X.xe s):
  wpAny (model X.prog X.w) X.A (handleBy (.ref ea) X.env (.ExceptHandler (some (.Name x np)) name (b0::suite) pos::rest)) Q X.xe s:=by
 obtain⟨nm,q1,N,bs,sn,sub,ab,col,dd,k0,k1,k2,k3,k5,hK⟩:=Y.ob
 obtain⟨nm',q1',N',bs',sn',sub',ab',col',dd',k0',k1',k2',k3',k5',hK'⟩:=Z.ob
 refine wpAny_handleBy_cons (codeAny_handlers_test (iz (X:=X.sui ea) (I.sui ea) hg hm ?_ hdb)) (by intro q;cases q)
 refine xf (I.kIn _ _ hK) (I.kIn _ _ hK') Z.mro hr (zX Y hb) ?_
 cases b with
 |true=>exact h1 rfl
 |false=>exact h2 rfl
theorem Dh (hN:X.N.Nodup) (hi:X.N[i]?=some n) (hk:X.env.scope.names.lookup n=some .local) (hg:Gl X x) (hm:X.mg x=some (.ref Dc)) (Z:XCls X.K Dc bm') (hs:∀ea,PSs (X.sui ea) (b0::suite) ts) (hr:PH X rest tr) (hdb:(x==("__debug__":Str))=false:=by decide):
  PH X (.ExceptHandler (some (.Name x np)) (some n) (b0::suite) pos::rest) (hAs X.K Dc i ts tr):=by
 intro pins s σ H D ea C od vs T I hx hre htr hfp h
 obtain⟨bm,b,Y,hb,h⟩:=h
 refine Ak I hre hg hm Z Y hb hdb (λz=>?_) (λz=>?_)
 ·subst z
  rw[if_pos rfl]at h
  refine codeAny_handlers_suite_as (kP (l:=[]) hre htr λh' g1 g2 g3 g4 g5=>?_)
  have I1:Inv X pins σ H {s with heap:=h'}:=I.turned (t':=s.toks) (it:=T) g1 hfp.1 hfp.2.1 hfp.2.2.2.1 hfp.2.2.2.2.1 hfp.2.2.2.2.2
  refine oF (v:= .ref ea) I1 hN hi (.inl hk) rfl (λs2 I2=>?_) (.inr hk)
  refine wpAny_mono (hs ea pins s2 _ H (D.gone i) (I2.sui ea) h) (λf s4 z=>?_) λ_ _ z=>z.elim
  cases f with
  |next=>
   obtain⟨σ',H',I',q⟩:=z
   exact jH (I'.back I.ok) hN hi hk λs5 I5=>⟨_,H',I5,q⟩
  |brk=>
   obtain⟨σ',H',I',q⟩:=z
   exact jH (I'.back I.ok) hN hi hk λs5 I5=>⟨_,H',I5,q⟩
  |cont=>
   obtain⟨σ',H',I',q⟩:=z
   exact jH (I'.back I.ok) hN hi hk λs5 I5=>⟨_,H',I5,q⟩
  |ret u=>
   obtain⟨v,σ',H',I',rv,q⟩:=z
   exact jH (I'.back I.ok) hN hi hk λs5 I5=>⟨v,_,H',I5,rv,q⟩
 ·subst z
  rw[if_neg Q7]at h
  exact hr pins s σ H D ea C od vs T I hx hre htr hfp h
def sTry (tb:(St→XK)→TS) (th:TH):TS:=λD σ H=>tb (λσ1 v od H1=>∃ea C,v= .ref ea∧H1 ea=some (XO ea C od)∧th D σ1 H1 ea C od) D σ H
theorem BO {body:List Stmt} {h0:ExceptHandler} {hs:List ExceptHandler} {tb:(St→XK)→TS} {th:TH} (hst:X.stack=X.env::X.outer) (hf:X.env.frame=some X.env.locals) (hb:∀pn E,PSs (X.tr pn E) body (tb E)) (hh:PH X (h0::hs) th):
  PS X (.Try body (h0::hs) [] [] pos) (sTry tb th):=by
 intro pins s σ H D I h
 refine wpAny_Try_except (wpAny_mono (hb pins _ [] s σ H D (I.tr _) h) (λf s1 z=>?_) λe s1 z=>?_)
 ·cases f with
  |next=>
   obtain⟨σ',H',I',q⟩:=z
   exact wpAny_execs_nil ⟨σ',H',I'.untr' I.ok,q⟩
  |brk=>
   obtain⟨σ',H',I',q⟩:=z
   exact⟨σ',H',I'.untr' I.ok,q⟩
  |cont=>
   obtain⟨σ',H',I',q⟩:=z
   exact⟨σ',H',I'.untr' I.ok,q⟩
  |ret u=>
   obtain⟨v,σ',H',I',rv,q⟩:=z
   exact⟨v,σ',H',I'.untr' I.ok,rv,q⟩
 ·obtain⟨pins1,σ1,H1,ea,C,od,vs,φ,rfl,I1,hx,hr,hz,ht,ea',C',e1,e2,q⟩:=z
  obtain rfl:ea=ea':=Value.ref.inj e1
  refine qN (X:={X with pn:=X.pn++pins}) I1 hst hf I1.ok.frames hx hr hz ht λs2 vs2 T I2 r2 z2 t2 f2=>?_
  obtain⟨vs3,r3,_⟩:=AZ I2.hok e2
  obtain rfl:C=C':=by
   have z:=congrArg Obj.cls (Option.some.inj (r2.symm.trans r3))
   exact Value.ref.inj z
  exact hh pins s2 σ1 _ D ea C od vs2 T (I2.untr I.ok) e2 r2 t2 ⟨f2.1,f2.2.1,f2.2.2.1,f2.2.2.2.1,f2.2.2.2.2.1,λp hp=>f2.2.2.2.2.2 p (QR _ hp)⟩ q
end
end L2
namespace L2
open PySem PySem.Spec PyProof.Rows PySem.W
def sC (CX:CXT) (X:Cx) (E:St→XK):Prop:=∀(pins:List (Addr×Obj)) (σ:St) (H:Hp) (s:Shared) (e:Value) (s':Shared),Inv X pins σ H s→CX X.stack H s (E σ) e s'→X.xe e s'
theorem Bn {X:Cx} {pn:List (Addr×Obj)} {E:St→XK}:sC (CX1 X.prog X.w) (X.tr pn E) E:=λpins σ H s e s' I h=>by
 have ok:Cx.Ok {X with pn:=X.pn++pn}:=⟨I.ok.mod,I.ok.kind,I.ok.glob,I.ok.blt,I.ok.above,I.ok.inj,I.ok.has,I.ok.cab,I.ok.hd,I.ok.frames,I.ok.stk,I.ok.exf,I.ok.bs,I.ok.bsz,I.ok.noex,I.ok.exfs,I.ok.funs,I.ok.frf⟩
 have I':Inv {X with pn:=X.pn++pn} pins σ H s:=⟨ok,I.os,I.bare,I.base,I.loc,I.cell,I.free,I.freeC,I.pin,I.hok,I.len⟩
 exact I'.flies h λ_ _ _ q=>q
def BF (C:Addr) (m:Str) (sp:Sp) (dvs:List V) (E:St→XK) (ta:TE) (t:TA):TE:=λσ H Q=>ta σ H λx H1=>∃a dx fs,x= .ref a∧H1 a=some (.ins C dx fs)∧fs.lookup m=none∧
 t σ H1 λvs H2=>sp (x::(vs++dvs)) H2 Q (E σ)
section
variable {X:Cx} {CX:CXT} {k:Nat} {f C:Addr} {fd:FuncData} {ps:List Str} {sp:Sp} {dvs:List V} {ds:List Value} {E:St→XK} {x m:Str} {p pos apos:Pos} {e o:Expr} {es:List Expr} {ta:TE} {t:TA}
theorem z7 {pins:List (Addr×Obj)} {σ:St} {H:Hp} {s:Shared} {Q:VK} {us:List Value} {vs:List V} (F:FnOk X.prog X.w X.K X.mg X.base CX k f fd ps sp) (hr:Room k X.A) (hb:Binds X.K fd ps ds) (hd:Vals dvs ds) (hx:sC CX X E)
  (I:Inv X pins σ H s) (r:Vals vs us) (h:sp (vs++dvs) H Q (E σ)):wpAny (model X.prog X.w) X.A (call (.ref f) us) (EP X pins σ Q) X.xe s:=by
 have r2:Vals (vs++dvs) (us++ds):=r.append hd
 have hl:(us++ds).length=ps.length:=by rw[←r2.length];exact F.len _ _ _ _ h
 refine wpAny_call (codeAny_mono (F.run X.A X.stack s H ⟨us,[]⟩ (us++ds) (vs++dvs) Q (E σ) hr I.env0 (hb s us I.kIn hl) r2 h) λr s' hq=>?_)
 cases r with
 |error e=>exact hx pins σ H s e s' I hq
 |ok fl=>cases fl<;>first|exact I.after hq|exact False.elim hq
theorem qJ {pl:Sem Bool} (he:PE X o ta) (c:Cls X.K C) (hm:bF X.K C m f) (F:FnOk X.prog X.w X.K X.mg X.base CX k f fd ps sp) (hr:Room k X.A) (hb:Binds X.K fd ps ds) (hd:Vals dvs ds) (hx:sC CX X E)
  (ht:eval (.Call (.Attribute o m apos) [] [] pos) X.env=(do
   let ov←eval o X.env
   standAt apos.atName
   let(f,first)←holding [ov] (getMethod ov m pl)
   callWith pos f first (backTo pos (starEach [] X.env)) (backToKw pos (keywordEach [] X.env))):=by rfl):
  PE X (.Call (.Attribute o m apos) [] [] pos) (BF C m sp dvs E ta wt):=by
 intro pins s σ H Q I h
 refine QM (pl:=pl) (thn (he pins s σ H _ I h) λu s1 hzz=>?_) ht
 obtain⟨x,H1,I1,rx,a,dx,fs,ex,ea,l,q⟩:=hzz
 subst ex
 obtain rfl:u=Value.ref a:=rx
 refine dE I1 ea c hm l ?_
 exact ZC (first:=[.ref a]) I1.kIn hm.kp (z7 (us:=[.ref a]) (vs:=[.ref a]) F hr hb hd hx I1 (.cons rfl .nil) q)
end
end L2
namespace L2
open PySem PySem.Spec PyProof.Rows PySem.W
def iJ (K:PySem.W.Frag) (fd:FuncData) (ps:List Str) (dvs:List V):Prop:=∃ds,Binds K fd ps ds∧Vals dvs ds
structure FunD (K:PySem.W.Frag) (x qual:Str) (st:Stmt) (f:Addr) (fd:FuncData):Prop where
 ex:∃(oc:Value) (od:Option Addr) (dV kV doc pm:Value) (an:Option Addr) (cdv ct:Value) (osl:Array (Option Value)),
  fd=fnOf x qual (eJ st) (b9 st) (aj st) dV kV doc pm an cdv ct∧K.lookup f=some ⟨oc,od,.func fd,osl⟩∧codeIn K cdv qual=true
 kp:keepIn K (.ref f)=true
section
variable {P:Program} {w:World} {K:PySem.W.Frag} {mg:Str→Option Value} {base:Heap} {x qual:Str} {st:Stmt} {f:Addr} {fd:FuncData} {N ps:List Str} {k:Nat} {sp:Sp}
theorem FunD.ok (F:FunD K x qual st f fd) (S:ao N ps (aj st)) (len:∀vs H Q E,sp vs H Q E→vs.length=ps.length)
  (hbody:∀(cdv:Value) (A:Around) (outer:List Env) (s:Shared) (H:Hp) (vs:List V) (Q:VK) (E:XK),Room k (A.deeper (envOfC qual (aj st) s.heap.objs.size f cdv))→sp vs H Q E→
   ∃t,PSs (oi CX0 P w K mg base N qual (aj st) f cdv A outer s H E).nox (b9 st) t∧t {nx:=λ_ H'=>Q .non H',rt:=Q} (start N vs) H):FnOk P w K mg base CX0 (k+1) f fd ps sp:=by
 obtain⟨oc,od,dV,kV,doc,pm,an,cdv,ct,osl,rfl,lk,hcd⟩:=F.ex
 refine vP lk hcd S len λA outer s H vs Q E hr hsp=>?_
 obtain⟨t,h,q⟩:=hbody cdv A outer s H vs Q E hr hsp
 exact⟨t,h.nox,q⟩
theorem FunD.okX (F:FunD K x qual st f fd) (S:ao N ps (aj st)) (len:∀vs H Q E,sp vs H Q E→vs.length=ps.length)
  (hbody:∀(cdv:Value) (A:Around) (outer:List Env) (s:Shared) (H:Hp) (vs:List V) (Q:VK) (E:XK),Room k (A.deeper (envOfC qual (aj st) s.heap.objs.size f cdv))→sp vs H Q E→
   ∃t,PSs (oi (CX1 P w) P w K mg base N qual (aj st) f cdv A outer s H E) (b9 st) t∧t {nx:=λ_ H'=>Q .non H',rt:=Q} (start N vs) H):FnOk P w K mg base (CX1 P w) (k+1) f fd ps sp:=by
 obtain⟨oc,od,dV,kV,doc,pm,an,cdv,ct,osl,rfl,lk,hcd⟩:=F.ex
 exact vP lk hcd S len λA outer s H vs Q E hr hsp=>hbody cdv A outer s H vs Q E hr hsp
structure CI (K:PySem.W.Frag) (x qual:Str) (st:Stmt) (T f:Addr) (fd:FuncData):Prop where
 toD:FunD K x qual st f fd
 ex:∃(kV doc pm:Value) (an:Option Addr) (cdv ct:Value),fd=fnOf x qual (eJ st) (b9 st) (aj st) (.ref T) kV doc pm an cdv ct
theorem vO {oc:Value} {od an:Option Addr} {osl:Array (Option Value)} {T:Addr} {kV doc pm cdv ct:Value} (l:K.lookup f=some ⟨oc,od,.func (fnOf x qual (eJ st) (b9 st) (aj st) (.ref T) kV doc pm an cdv ct),osl⟩)
  (c:codeIn K cdv qual=true) (k:keepIn K (.ref f)=true):CI K x qual st T f (fnOf x qual (eJ st) (b9 st) (aj st) (.ref T) kV doc pm an cdv ct):=⟨⟨⟨oc,od,_,kV,doc,pm,an,cdv,ct,osl,rfl,l,c⟩,k⟩,⟨kV,doc,pm,an,cdv,ct,rfl⟩⟩
theorem cN {T:Addr} {dd:Option Addr} {items:Array Value} {n:Nat} {sl:Array (Option Value)} {ds:List Value} (g:Nat) (hg:g+ds.length=ps.length) (F:CI K x qual st T f fd) (hT:K.lookup T=some ⟨.type "tuple",dd,.seq items n,sl⟩)
  (h:∀(kV doc pm:Value) (an:Option Addr) (cdv ct:Value) (us:List Value),us.length=g→∃k,bindArgs (fnOf x qual (eJ st) (b9 st) (aj st) (.ref T) kV doc pm an cdv ct) ⟨us,[]⟩=seqItems? (.ref T)>>=k∧k (some items)=pure (ps.zip (us++ds))):
  Binds K fd ps ds:=by
 obtain⟨kV,doc,pm,an,cdv,ct,rfl⟩:=F.ex
 intro s us X hl
 obtain⟨k,h1,h2⟩:=h kV doc pm an cdv ct us (by rw[Qa]at hl;omega)
 exact BindsTo.of_defaults rfl (X _ _ hT) rfl h1 h2
end
end L2
namespace L2
open PySem PySem.Spec PyProof.Rows
inductive DV where
 |non|bl (b:Bool)|int (i:Int)|str (x:Str)|lst (xs:List DV)|tup (xs:List DV)
end L2
namespace L2
open PySem PySem.Spec PyProof.Rows
end L2
namespace L2
open PySem PySem.Spec PyProof.Rows SeqAt
section
variable {X:Cx}
theorem cX {st:Stmt}:PS X st (λ_ _ _=>False):=λ_ _ _ _ _ _ h=>h.elim
theorem PlainL.isL {h:Heap} {a:Addr} {xs:Array Value} (p:PlainL h a xs):h.IsList a xs:=by
 obtain⟨o,n,e,c,_,d⟩:=p
 exact⟨o,e,c,n,d⟩
end
end L2
namespace L2
open PySem PySem.Spec PyProof.Rows SeqAt
def Fl:V→Prop
 | .int _=>True| .str _=>True| .non=>True|_=>False
theorem oA:∀{as:List Addr} {us:List Value},Vals (as.map V.ref) us→us=as.map Value.ref
 | [],us,r=>by cases r;rfl
 |a::as,us,r=>by
  cases r with
  |cons r1 r2=>
   cases r1
   rw[oA r2]
   rfl
section
variable {X:Cx} {pins:List (Addr×Obj)} {σ:St} {H:Hp} {s:Shared}
theorem AC {A:Around} {x:V} {u v:Value} (h:Fl x) (r1:RelV x u) (r2:RelV x v):EqAt A s u v true:=by
 cases x with
 |int n=>
  obtain⟨t1,rfl⟩:=r1
  obtain⟨t2,rfl⟩:=r2
  have:=EqAt.int_int (A:=A) (s:=s) n t1 n t2
  rwa [beq_self_eq_true]at this
 |str n=>
  obtain⟨t1,rfl⟩:=r1
  obtain⟨t2,rfl⟩:=r2
  have:=EqAt.str_str (A:=A) (s:=s) n t1 n t2
  rwa [beq_self_eq_true]at this
 |non=>
  cases (show u=Value.none from r1)
  cases (show v=Value.none from r2)
  exact EqAt.same _
 |_=>exact h.elim
end
end L2
namespace L2
open PySem PySem.Spec PyProof.Rows SeqAt
section
variable {X:Cx}
def rEqS (K:PySem.W.Frag):R2:=λx y H Q=>∃(a b:Addr) (as:List Addr),x= .ref a∧y= .ref b∧SqL K H a (as.map V.ref)∧SqL K H b (as.map V.ref)∧Q (.bl true) H
theorem BU (K:PySem.W.Frag) (hK:X.K=K) (hu:X.A.units+20<cLine):OpR X (compareOp .Eq) (rEqS K):=by
 subst hK
 intro pins s σ H x y v u Q I rx ry h
 obtain⟨a,b,as,rfl,rfl,h1,h2,q⟩:=h
 cases rx
 cases ry
 obtain⟨i1,r1,p1,z1⟩:=I.list h1
 obtain⟨i2,r2,p2,z2⟩:=I.list h2
 cases oA r1
 cases oA r2
 exact RcAt.lists (A:=X.A) (e:=λ_=>true) (PlainL.isL p1) (PlainL.isL p2) rfl (by omega) (λj h1 h2=>EqAt.same _) _ _ _ _ ⟨.bl _,H,I,rfl,by rw[QV.mpr λ_ _=>rfl];exact q⟩
end
end L2
namespace L2
open PySem PySem.Spec PyProof.Rows
theorem jU {x y:V} {A B:Prop} (e:x=y) (h:A):if decide (x=y)=true then A else B:=by
 rw[decide_eq_true e]
 exact dj h
theorem ak {H:Hp} {p:Addr} {o:HO} (h:H p=none):Same H (upd H p o):=λb u e=>by
 rw[ac (am e h)]
 exact e
def AllI (P:Int→Prop):List V→Prop
 | []=>True
 | .int m::r=>P m∧AllI P r
 |_::_=>False
theorem AllI.ints {P:Int→Prop}:∀{L:List V},AllI P L→∃ns:List Int,L=ns.map V.int∧∀m∈ns,P m
 | [],_=>⟨[],rfl,λ_ z=>nomatch z⟩
 | .int m::r,h=>by
  obtain⟨ns,e,q⟩:=AllI.ints h.2
  refine⟨m::ns,by rw[e];rfl,λx hx=>?_⟩
  rcases Qh.mp hx with rfl|hx
  ·exact h.1
  ·exact q x hx
theorem qI {P:Int→Prop} {L:List V} {c n:Int} (h:AllI P L) (hn:(L.length:Int)=n) (hp:0<n):∃m,atI L (c%n)=some (.int m)∧P m:=by
 obtain⟨ns,e,q⟩:=h.ints
 subst e
 have a:=Qe c (ZD hp)
 have b:=Qb c hp
 rw[Q1]at hn
 have hlt:(c%n).toNat<ns.length:=by omega
 refine⟨_,pU a (by omega),q _ ?_⟩
 rw[Qv,Q3 hlt]
 exact Zk hlt
theorem dN {H H':Hp} {l:Addr} {o:HO} (s:Same H H') (n:H l=none):Same H (upd H' l o):=λb u e=>by
 rw[ac (am e n)]
 exact s b u e
def DD (_ j:Int):Prop:=0<j∧j.natAbs.log2<9000
theorem tw {X:Cx}:OpR X (binaryOp .FloorDiv) (rI DD λi j=> .int (i/j)):=opI λi j _ _ _ _ _ hc q=>by
 have h1:(0:Int)<j:=hc.1
 exact floordiv_int (by omega) (by rw[Xj i (by omega)];exact q) (.inl (PyProof.noPylong_of_log2 hc.2))
theorem Room.u20 {k:Nat} {A:Around} (r:Room k A):A.units+20<cLine:=by have:=r.un;omega
section
variable {X:Cx} {k:Nat} {f C:Addr} {fd:FuncData} {ps:List Str} {sp:Sp} {dvs:List V} {ds:List Value} {E:XK} {x m:Str} {p pos apos:Pos} {e o:Expr} {es:List Expr} {ta:TE} {t:TA}
def xA (X:Cx) (kk:Nat) (m:Str) (C:Addr) (sp:Sp):Prop:=Cls X.K C∧∃f fd ps,bF X.K C m f∧FnOk X.prog X.w X.K X.mg X.base CX0 kk f fd ps sp∧Binds X.K fd ps []
def D1 (C:Addr) (sp:Sp):Addr→Sp→Prop:=λC' sp'=>C'=C∧sp'=sp
def DOr (D D':Addr→Sp→Prop):Addr→Sp→Prop:=λC sp=>D C sp∨D' C sp
theorem bg {kk:Nat} (c:Cls X.K C) (hm:bF X.K C m f) (F:FnOk X.prog X.w X.K X.mg X.base CX0 k f fd ps sp) (hb:Binds X.K fd ps []) (hk:k≤kk):∀C' sp',D1 C sp C' sp'→xA X kk m C' sp':=λC' sp' h=>by
 obtain⟨rfl,rfl⟩:=h
 exact⟨c,f,fd,ps,hm,F.mono hk,hb⟩
theorem cx {kk:Nat} {D D':Addr→Sp→Prop} (h:∀C sp,D C sp→xA X kk m C sp) (h':∀C sp,D' C sp→xA X kk m C sp):∀C sp,DOr D D' C sp→xA X kk m C sp:=λC sp z=>z.elim (h C sp) (h' C sp)
def xW (D:Addr→Sp→Prop) (m:Str) (ta:TE) (t:TA):TE:=λσ H Q=>ta σ H λx H1=>∃a C dx fs sp,x= .ref a∧H1 a=some (.ins C dx fs)∧fs.lookup m=none∧D C sp∧
 t σ H1 λvs H2=>sp (x::vs) H2 Q E0
theorem sZ {kk:Nat} {D:Addr→Sp→Prop} {pl:Sem Bool} (hD:∀C sp,D C sp→xA X kk m C sp) (hr:Room kk X.A) (he:PE X o ta) (ha:PA X (e::es) t)
  (hst:starEach (e::es) X.env=(false,eval e X.env)::starEach es X.env:=by rfl) (hpl:(backTo pos (starEach es X.env)).any (·.1)=false:=by rfl)
  (ht:eval (.Call (.Attribute o m apos) (e::es) [] pos) X.env=(do
   let ov←eval o X.env
   standAt apos.atName
   let(f,first)←holding [ov] (getMethod ov m pl)
   callWith pos f first (backTo pos (starEach (e::es) X.env)) (backToKw pos (keywordEach [] X.env))):=by rfl):
  PE X (.Call (.Attribute o m apos) (e::es) [] pos) (xW D m ta t):=by
 intro pins s σ H Q I h
 refine QM (pl:=pl) (thn (he pins s σ H _ I h) λu s1 hzz=>?_) ht
 obtain⟨x,H1,I1,rx,a,C,dx,fs,sp,ex,ea,l,d,q⟩:=hzz
 subst ex
 obtain rfl:u=Value.ref a:=rx
 obtain⟨c,f,fd,ps,hm,F,hb⟩:=hD C sp d
 refine dE I1 ea c hm l ?_
 refine Zb (first:=[.ref a]) (h₀:=X.base) I.ok.mod.kin hm.kp (thn (ha pos pins s1 σ H1 _ I1 q) λus s2 ⟨vs,H2,I2,r,q2⟩=>⟨I2.kIn,?_⟩) hst hpl
 exact mK (us:= .ref a::us) (vs:= .ref a::vs) (dvs:=[]) F hr hb .nil az I2 (.cons rfl r) (by rw[ZU];exact q2)
theorem jK {kk:Nat} {D:Addr→Sp→Prop} {pl:Sem Bool} (hD:∀C sp,D C sp→xA X kk m C sp) (hr:Room kk X.A) (he:PE X o ta)
  (ht:eval (.Call (.Attribute o m apos) [] [] pos) X.env=(do
   let ov←eval o X.env
   standAt apos.atName
   let(f,first)←holding [ov] (getMethod ov m pl)
   callWith pos f first (backTo pos (starEach [] X.env)) (backToKw pos (keywordEach [] X.env))):=by rfl):
  PE X (.Call (.Attribute o m apos) [] [] pos) (xW D m ta wt):=by
 intro pins s σ H Q I h
 refine QM (pl:=pl) (thn (he pins s σ H _ I h) λu s1 hzz=>?_) ht
 obtain⟨x,H1,I1,rx,a,C,dx,fs,sp,ex,ea,l,d,q⟩:=hzz
 subst ex
 obtain rfl:u=Value.ref a:=rx
 obtain⟨c,f,fd,ps,hm,F,hb⟩:=hD C sp d
 refine dE I1 ea c hm l ?_
 refine ZC (first:=[.ref a]) I1.kIn hm.kp ?_
 exact mK (us:=[.ref a]) (vs:=[.ref a]) (dvs:=[]) F hr hb .nil az I1 (.cons rfl .nil) q
end
end L2
namespace Srt
open PySem PyProof.Rows
abbrev dk:Keyed:=(Value.none,Value.none)
def g (xs:Array Keyed) (i:Nat):Keyed:=xs[i]?.getD dk
theorem cp {xs:Array Keyed} {i:Nat} (h:i<xs.size):xs[i]?=some (g xs i):=by
 unfold g;rw[getElem?_pos xs i h];rfl
theorem l5 {xs ys:Array Keyed} {i j:Nat} (h:xs[i]?=ys[j]?):g xs i=g ys j:=by unfold g;rw[h]
theorem qW {xs:Array Keyed} {i:Nat} (h:i<xs.size):g xs i∈xs:=by
 have e:=cp h
 exact Array.mem_of_getElem? e
structure Cmp (blt:Keyed→Keyed→Bool):Prop where
 asym:∀x y,blt x y=true→blt y x=false
 tr:∀x y z,blt y x=false→blt z y=false→blt z x=false
section
variable {blt:Keyed→Keyed→Bool} (C:Cmp blt)
abbrev le (blt:Keyed→Keyed→Bool) (x y:Keyed):Prop:=blt y x=false
include C
theorem Cmp.trans {x y z:Keyed} (h1:le blt x y) (h2:le blt y z):le blt x z:=C.tr x y z h1 h2
theorem Cmp.of_lt {x y:Keyed} (h:blt x y=true):le blt x y:=C.asym _ _ h
end
def On (blt:Keyed→Keyed→Bool) (xs:Array Keyed) (lo hi:Nat):Prop:=∀i j,lo≤i→i<j→j<hi→le blt (g xs i) (g xs j)
def Off (blt:Keyed→Keyed→Bool) (xs:Array Keyed) (lo hi:Nat):Prop:=∀i j,lo≤i→i<j→j<hi→le blt (g xs j) (g xs i)
theorem On.one {blt:Keyed→Keyed→Bool} {xs:Array Keyed} {lo:Nat}:On blt xs lo (lo+1):=λi j h1 h2 h3=>by omega
theorem Off.one {blt:Keyed→Keyed→Bool} {xs:Array Keyed} {lo:Nat}:Off blt xs lo (lo+1):=λi j h1 h2 h3=>by omega
theorem On.congr {blt:Keyed→Keyed→Bool} {xs ys:Array Keyed} {lo hi:Nat} (h:On blt xs lo hi) (e:∀k,lo≤k→k<hi→g ys k=g xs k):On blt ys lo hi:=λi j h1 h2 h3=>by
 rw[e i h1 (by omega),e j (by omega) h3];exact h i j h1 h2 h3
theorem On.sub {blt:Keyed→Keyed→Bool} {xs:Array Keyed} {lo hi lo' hi':Nat} (h:On blt xs lo hi) (h1:lo≤lo') (h2:hi'≤hi):On blt xs lo' hi':=λi j a b c=>h i j (by omega) b (by omega)
section
variable {blt:Keyed→Keyed→Bool} (C:Cmp blt)
include C
theorem On.snoc {xs:Array Keyed} {lo n:Nat} (h:On blt xs lo (lo+n)) (hn:1≤n) (e:le blt (g xs (lo+n-1)) (g xs (lo+n))):On blt xs lo (lo+(n+1)):=λi j h1 h2 h3=>by
 by_cases z:j<lo+n
 ·exact h i j h1 h2 z
 ·have ej:j=lo+n:=by omega
  subst ej
  by_cases y:i=lo+n-1
  ·subst y;exact e
  ·exact C.trans (h i (lo+n-1) h1 (by omega) (by omega)) e
theorem Off.snoc {xs:Array Keyed} {lo n:Nat} (h:Off blt xs lo (lo+n)) (hn:1≤n) (e:le blt (g xs (lo+n)) (g xs (lo+n-1))):Off blt xs lo (lo+(n+1)):=λi j h1 h2 h3=>by
 by_cases z:j<lo+n
 ·exact h i j h1 h2 z
 ·have ej:j=lo+n:=by omega
  subst ej
  by_cases y:i=lo+n-1
  ·subst y;exact e
  ·exact C.trans e (h i (lo+n-1) h1 (by omega) (by omega))
end
theorem yP {xs:Array Keyed} {i j:Nat} (hj:j≤xs.size) (k:Nat):g (mirror xs i j ((j-i)/2)) k=if i≤k∧k<j then g xs (i+j-1-k)else g xs k:=by
 have e:=getElem?_mirror_all (i:=i) hj k
 by_cases h1:i≤k∧k<j
 ·rw[if_pos h1]at e⊢;exact l5 e
 ·rw[if_neg h1]at e⊢;exact l5 e
theorem yQ {xs:Array Keyed} {src d:Nat} (hs:src<xs.size) (hd:d≤src) (k:Nat):g (bubble xs src d) k=if k=src-d then g xs src else if src-d<k∧k≤src then g xs (k-1)else g xs k:=by
 have e:=getElem?_bubble hs d hd k
 by_cases h1:k=src-d
 ·rw[if_pos h1]at e⊢;exact l5 e
 ·rw[if_neg h1]at e⊢
  by_cases h2:src-d<k∧k≤src
  ·rw[if_pos h2]at e⊢;exact l5 e
  ·rw[if_neg h2]at e⊢;exact l5 e
section
variable {prog:Program} {w:World} {A:Around} {E:Value→Shared→Prop} {s:Shared} {a₀:Array Keyed} {κ:SortKind} {blt:Keyed→Keyed→Bool}
def t8 (prog:Program) (w:World) (A:Around) (E:Value→Shared→Prop) (s:Shared) (a₀:Array Keyed) (κ:SortKind) (blt:Keyed→Keyed→Bool):Prop:=
 ∀(x y:Keyed) (st:SortSt) (Q:Option Bool→SortSt→Prop),x∈a₀→y∈a₀→kindOf st=κ→Q (some (blt x y)) st→wpS (model prog w) A E s (lt' x y) Q st
structure Base (a₀:Array Keyed) (κ:SortKind) (st:SortSt):Prop where
 kind:kindOf st=κ
 fine:failedOf st=none
 perm:(arrOf st).Perm a₀
theorem Base.size {st:SortSt} (B:Base a₀ κ st):(arrOf st).size=a₀.size:=B.perm.size_eq
theorem Base.mem {st:SortSt} (B:Base a₀ κ st) {i:Nat} (h:i<a₀.size):g (arrOf st) i∈a₀:=(B.perm.mem_iff).mp (qW (by rw[B.size];exact h))
variable (L:t8 prog w A E s a₀ κ blt)
include L
theorem lh {st:SortSt} {i j:Nat} {Q:Option Bool→SortSt→Prop} (B:Base a₀ κ st) (hi:i<a₀.size) (hj:j<a₀.size) (h:Q (some (blt (g (arrOf st) i) (g (arrOf st) j))) st):
  wpS (model prog w) A E s (ltAt' i j) Q st:=by
 rw[ltAt'_eq]
 refine wpS_bind (wpS_get ?_)
 show wpS _ _ _ _ (do let x←elem' (arrOf st) i;let y←elem' (arrOf st) j;lt' x y) Q st
 rw[elem'_eq,elem'_eq,cp (by rw[B.size];exact hi),cp (by rw[B.size];exact hj)]
 refine wpS_bind (wpS_pure (wpS_bind (wpS_pure ?_)))
 exact L _ _ st Q (B.mem hi) (B.mem hj) B.kind h
omit L in
theorem xO {α:Type} {m m':StateT SortSt Sem α} {Q:α→SortSt→Prop} {st:SortSt} (e:m=m') (h:wpS (model prog w) A E s m' Q st):wpS (model prog w) A E s m Q st:=by rw[e];exact h
abbrev Keep (lo:Nat) (xs ys:Array Keyed):Prop:=∀k,k<lo→g ys k=g xs k
theorem eR {st:SortSt} {i j:Nat} {Q:Unit→SortSt→Prop} (B:Base a₀ κ st) (hj:j≤a₀.size)
  (h:∀st',Base a₀ κ st'→pendingOf st'=pendingOf st→(∀k,g (arrOf st') k=if i≤k∧k<j then g (arrOf st) (i+j-1-k)else g (arrOf st) k)→Q () st'):
  wpS (model prog w) A E s (reverseSlice' i j) Q st:=by
 rw[reverseSlice'_eq]
 refine wpS_modify (h _ ⟨B.kind,B.fine,(mirror_perm _ _ _ _).trans B.perm⟩ rfl λk=>?_)
 exact yP (by rw[B.size];exact hj) k
theorem xN {st:SortSt} {lo a nrem:Nat} {γ:Type} {f:Nat→Option γ×Nat→StateT SortSt Sem (ForInStep (Option γ×Nat))} {Q:Option γ×Nat→SortSt→Prop} (C:Cmp blt) (B:Base a₀ κ st) (ha:1≤a) (han:a≤nrem) (hz:lo+nrem≤a₀.size) (hs:On blt (arrOf st) lo (lo+a))
  (hf:∀(i n:Nat) (R:ForInStep (Option γ×Nat)→SortSt→Prop),n<nrem→1≤n→(blt (g (arrOf st) (lo+n)) (g (arrOf st) (lo+n-1))=true→R (.done (none,n)) st)→(blt (g (arrOf st) (lo+n)) (g (arrOf st) (lo+n-1))=false→R (.yield (none,n+1)) st)→wpS (model prog w) A E s (f i (none,n)) R st)
  (h:∀n,a≤n→n≤nrem→On blt (arrOf st) lo (lo+n)→(n<nrem→blt (g (arrOf st) (lo+n)) (g (arrOf st) (lo+n-1))=true)→Q (none,n) st):
  wpS (model prog w) A E s (forIn [a:nrem] (none,a) f) Q st:=by
 refine wpS_forRange (I:=λi c st'=>st'=st∧c=(none,i)∧a≤i∧i≤nrem∧On blt (arrOf st) lo (lo+i)) ?_ ?_ ⟨rfl,rfl,Q5 _,han,hs⟩
 ·rintro i c st' h1 h2 ⟨rfl,rfl,h3,h4,h5⟩
  refine hf i i _ h2 (by omega) (λe=>?_) (λe=>?_)
  ·exact h i h3 h4 h5 λ_=>e
  ·exact⟨rfl,rfl,by omega,by omega,h5.snoc C (by omega) e⟩
 ·rintro c st' ⟨rfl,rfl,h3,h4,h5⟩
  have e:max a nrem=nrem:=QA han
  rw[e]at h5⊢
  exact h nrem han (Q5 _) h5 λz=>absurd z (Z5 _)
omit L in
theorem mO {xs ys:Array Keyed} {lo b e:Nat} (hb:lo≤b) (h:Off blt xs lo e) (o:On blt xs b e) (hy:∀k,g ys k=if b≤k∧k<e then g xs (b+e-1-k)else g xs k):Off blt ys lo e:=λi j h1 h2 h3=>by
 rw[hy i,hy j]
 by_cases jb:b≤j
 ·rw[if_pos ⟨jb,h3⟩]
  by_cases ib:b≤i
  ·rw[if_pos ⟨ib,by omega⟩]
   exact o _ _ (by omega) (by omega) (by omega)
  ·rw[if_neg (by omega)]
   exact h _ _ h1 (by omega) (by omega)
 ·rw[if_neg (by omega),if_neg (by omega)]
  exact h i j h1 h2 h3
omit L in
theorem BV {xs ys:Array Keyed} {lo e:Nat} (h:Off blt xs lo e) (hy:∀k,g ys k=if lo≤k∧k<e then g xs (lo+e-1-k)else g xs k):On blt ys lo e:=λi j h1 h2 h3=>by
 rw[hy i,hy j,if_pos ⟨h1,by omega⟩,if_pos ⟨by omega,h3⟩]
 exact h _ _ (by omega) (by omega) (by omega)
omit L in
theorem Ao {xs ys:Array Keyed} {lo e:Nat} (h:On blt xs lo e) (hy:∀k,g ys k=if lo≤k∧k<e then g xs (lo+e-1-k)else g xs k):Off blt ys lo e:=λi j h1 h2 h3=>by
 rw[hy i,hy j,if_pos (show lo≤j∧j<e by omega),if_pos (show lo≤i∧i<e by omega)]
 exact h _ _ (by omega) (by omega) (by omega)
def zh (lo:Nat):Nat→Option (Option Nat)×Nat→StateT SortSt Sem (ForInStep (Option (Option Nat)×Nat)):=λ_ __s=>do
 let __x←ltAt' (lo+__s.snd) (lo+__s.snd-1)
 match __x with
 |some smaller=>if smaller=true then pure (ForInStep.done (none,__s.snd))else pure (ForInStep.yield (none,__s.snd+1))
 |_=>pure (ForInStep.done (some none,__s.snd))
def qG (lo n nrem:Nat):StateT SortSt Sem (Option Nat):=do
 reverseSlice' lo (lo+n)
 let __s←forIn [n:nrem] (none,n) (zh lo)
 match __s.fst with
 |some r=>pure r
 |none=>pure (some __s.snd)
def vR (lo:Nat):Nat→Option (Option Nat)×Nat×Nat→StateT SortSt Sem (ForInStep (Option (Option Nat)×Nat×Nat)):=λ_ __s=>do
 let __x←ltAt' (lo+__s.snd.fst) (lo+__s.snd.fst-1)
 match __x with
 |some smaller=>
  if smaller=true then
   if __s.snd.snd>0 then do
    reverseSlice' (lo+__s.snd.fst-(__s.snd.snd+1)) (lo+__s.snd.fst)
    pure (ForInStep.yield (none,__s.snd.fst+1,0))
   else pure (ForInStep.yield (none,__s.snd.fst+1,0))
  else do
   let __x←ltAt' (lo+__s.snd.fst-1) (lo+__s.snd.fst)
   match __x with
   |some larger=>
    if larger=true then pure (ForInStep.done (none,__s.snd.fst,__s.snd.snd))
    else pure (ForInStep.yield (none,__s.snd.fst+1,__s.snd.snd+1))
   |_=>pure (ForInStep.done (some none,__s.snd.fst,__s.snd.snd))
 |_=>pure (ForInStep.done (some none,__s.snd.fst,__s.snd.snd))
def re (lo n nrem:Nat):StateT SortSt Sem (Option Nat):=do
 liftM (rule "list.sort.descending-run")
 let __s←forIn [n+1:nrem] (none,n+1,0) (vR lo)
 match __s.fst with
 |some r=>pure r
 |none=>
  if __s.snd.snd>0 then do
   reverseSlice' (lo+__s.snd.fst-(__s.snd.snd+1)) (lo+__s.snd.fst)
   qG lo __s.snd.fst nrem
  else qG lo __s.snd.fst nrem
theorem vg {st:SortSt} {lo nrem i n:Nat} {R:ForInStep (Option (Option Nat)×Nat)→SortSt→Prop} (B:Base a₀ κ st) (hz:lo+nrem≤a₀.size) (hn:n<nrem) (h1:1≤n)
  (ht:blt (g (arrOf st) (lo+n)) (g (arrOf st) (lo+n-1))=true→R (.done (none,n)) st) (hf:blt (g (arrOf st) (lo+n)) (g (arrOf st) (lo+n-1))=false→R (.yield (none,n+1)) st):wpS (model prog w) A E s (zh lo i (none,n)) R st:=by
 unfold zh
 refine wpS_bind (lh L B (by dsimp only;omega) (by dsimp only;omega) ?_)
 dsimp only
 cases e:blt (g (arrOf st) (lo+n)) (g (arrOf st) (lo+n-1))with
 |true=>exact wpS_pure (ht e)
 |false=>exact wpS_pure (hf e)
theorem lg {st:SortSt} {lo n nrem:Nat} {Q:Option Nat→SortSt→Prop} (C:Cmp blt) (B:Base a₀ κ st) (h1:1≤n) (hn:n≤nrem) (hz:lo+nrem≤a₀.size) (ho:Off blt (arrOf st) lo (lo+n))
  (h:∀m st',Base a₀ κ st'→pendingOf st'=pendingOf st→1≤m→m≤nrem→On blt (arrOf st') lo (lo+m)→Keep lo (arrOf st) (arrOf st')→Q (some m) st'):wpS (model prog w) A E s (qG lo n nrem) Q st:=by
 unfold qG
 refine wpS_bind (eR L B (by omega) λst' B' hp hy=>?_)
 refine wpS_bind (xN L C B' h1 hn hz (BV ho hy) (λi n R hn h1 ht hf=>vg L B' (i:=i) hz hn h1 ht hf) (λm ha hm hs _=>?_))
 exact wpS_pure (h m st' B' hp (by omega) hm hs λk hk=>by rw[hy k,if_neg (by omega)])
theorem sG {st:SortSt} {lo n nrem:Nat} {Q:Option Nat→SortSt→Prop} (C:Cmp blt) (B:Base a₀ κ st) (h1:1≤n) (hn:n+1≤nrem) (hz:lo+nrem≤a₀.size) (ho:Off blt (arrOf st) lo (lo+(n+1)))
  (h:∀m st',Base a₀ κ st'→pendingOf st'=pendingOf st→1≤m→m≤nrem→On blt (arrOf st') lo (lo+m)→Keep lo (arrOf st) (arrOf st')→Q (some m) st'):wpS (model prog w) A E s (re lo n nrem) Q st:=by
 unfold re
 refine wpS_bind (wpS_lift (wpAny_rule ⟨rfl,?_⟩))
 refine wpS_bind (wpS_forRange (I:=λi c st'=>∃q,c=(none,i,q)∧Base a₀ κ st'∧pendingOf st'=pendingOf st∧Keep lo (arrOf st) (arrOf st')∧n+1≤i∧i≤nrem∧q+1≤i∧Off blt (arrOf st') lo (lo+i)∧On blt (arrOf st') (lo+i-(q+1)) (lo+i)) ?_ ?_
  ⟨0,rfl,B,rfl,λ_ _=>rfl,Q5 _,hn,by omega,ho,λi j a b c=>by omega⟩)
 ·rintro i c st' hi1 hi2 ⟨q,rfl,B',hp,hk,h2,h3,h4,off,on⟩
  unfold vR
  refine wpS_bind (lh L B' (by dsimp only;omega) (by dsimp only;omega) ?_)
  dsimp only
  cases e:blt (g (arrOf st') (lo+i)) (g (arrOf st') (lo+i-1))with
  |true=>
   by_cases q0:q>0
   ·rw[if_pos rfl,if_pos q0]
    refine wpS_bind (eR L B' (by omega) λst2 B2 hp2 hy=>?_)
    refine wpS_pure ⟨0,rfl,B2,hp2.trans hp,λk hk2=>by rw[hy k,if_neg (by omega)];exact hk k hk2,by omega,by omega,by omega,?_,λi j a b c=>by omega⟩
    refine(mO (by omega) off on hy).snoc C (by omega) ?_
    rw[hy,hy,if_neg (by omega),if_pos (by omega)]
    have z:lo+i-(q+1)+(lo+i)-1-(lo+i-1)=lo+i-(q+1):=by omega
    rw[z]
    exact C.trans (C.of_lt e) (off _ _ (by omega) (by omega) (by omega))
   ·rw[if_pos rfl,if_neg q0]
    exact wpS_pure ⟨0,rfl,B',hp,hk,by omega,by omega,by omega,off.snoc C (by omega) (C.of_lt e),λi j a b c=>by omega⟩
  |false=>
   simp only[QK,if_false]
   refine wpS_bind (lh L B' (by omega) (by omega) ?_)
   dsimp only
   cases e2:blt (g (arrOf st') (lo+i-1)) (g (arrOf st') (lo+i))with
   |true=>
    simp only[if_true]
    refine wpS_pure ?_
    dsimp only
    by_cases q0:q>0
    ·rw[if_pos q0]
     refine wpS_bind (eR L B' (by omega) λst2 B2 hp2 hy=>?_)
     refine lg L C B2 (by omega) h3 hz (mO (by omega) off on hy) λm st3 B3 hp3 a b c d=>h m st3 B3 (hp3.trans (hp2.trans hp)) a b c λk hk2=>?_
     rw[d k hk2,hy k,if_neg (by omega)]
     exact hk k hk2
    ·rw[if_neg q0]
     exact lg L C B' (by omega) h3 hz off λm st3 B3 hp3 a b c d=>h m st3 B3 (hp3.trans hp) a b c λk hk2=>(d k hk2).trans (hk k hk2)
   |false=>
    simp only[QK,if_false]
    refine wpS_pure ⟨q+1,rfl,B',hp,hk,by omega,by omega,by omega,off.snoc C (by omega) e2,?_⟩
    have z:lo+(i+1)-(q+1+1)=lo+i-(q+1):=by omega
    rw[z]
    intro x y hx hy hz'
    by_cases hyi:y<lo+i
    ·exact on x y hx hy hyi
    ·have ey:y=lo+i:=by omega
     subst ey
     by_cases hxi:x=lo+i-1
     ·subst hxi;exact e
     ·exact C.trans (on x (lo+i-1) hx (by omega) (by omega)) e
 ·rintro c st' ⟨q,rfl,B',hp,hk,h2,h3,h4,off,on⟩
  have em:max (n+1) nrem=nrem:=QA hn
  rw[em]at h3 h4 off on⊢
  dsimp only
  by_cases q0:q>0
  ·rw[if_pos q0]
   refine wpS_bind (eR L B' (by omega) λst2 B2 hp2 hy=>?_)
   refine lg L C B2 (by omega) h3 hz (mO (by omega) off on hy) λm st3 B3 hp3 a b c d=>h m st3 B3 (hp3.trans (hp2.trans hp)) a b c λk hk2=>?_
   rw[d k hk2,hy k,if_neg (by omega)]
   exact hk k hk2
  ·rw[if_neg q0]
   exact lg L C B' (by omega) h3 hz off λm st3 B3 hp3 a b c d=>h m st3 B3 (hp3.trans hp) a b c λk hk2=>(d k hk2).trans (hk k hk2)
theorem xM {st:SortSt} {lo nrem:Nat} {Q:Option Nat→SortSt→Prop} (C:Cmp blt) (B:Base a₀ κ st) (h1:1≤nrem) (hz:lo+nrem≤a₀.size)
  (h:∀n st',Base a₀ κ st'→pendingOf st'=pendingOf st→1≤n→n≤nrem→On blt (arrOf st') lo (lo+n)→Keep lo (arrOf st) (arrOf st')→Q (some n) st'):wpS (model prog w) A E s (countRun' lo nrem) Q st:=by
 rw[countRun'_eq]
 dsimp only
 refine wpS_bind (xN L C B (Q5 1) h1 hz On.one (λi n R hn h1 ht hf=>vg L B (i:=i) hz hn h1 ht hf) (λn ha hn hs hlt=>?_))
 dsimp only
 by_cases en:n=nrem
 ·subst en
  simp only[beq_self_eq_true,if_true]
  exact wpS_pure (h n st B rfl ha hn hs λ_ _=>rfl)
 ·have eb:(n==nrem)=false:=beq_eq_false_iff_ne.mpr en
  simp only[eb,QK,if_false]
  have fall:=hlt (by omega)
  by_cases n1:n>1
  ·rw[if_pos n1]
   refine wpS_bind (lh L B (by omega) (by omega) ?_)
   dsimp only
   cases e:blt (g (arrOf st) lo) (g (arrOf st) (lo+n-1))with
   |true=>
    simp only[if_true]
    exact wpS_pure (h n st B rfl ha hn hs λ_ _=>rfl)
   |false=>
    simp only[QK,if_false]
    refine wpS_bind (eR L B (by omega) λst2 B2 hp2 hy=>?_)
    have off:Off blt (arrOf st2) lo (lo+(n+1)):=by
     refine(Ao hs hy).snoc C ha ?_
     rw[hy,hy,if_neg (by omega),if_pos (by omega)]
     have z:lo+(lo+n)-1-(lo+n-1)=lo:=by omega
     rw[z]
     exact C.trans (C.of_lt fall) e
    refine xO (m':=re lo n nrem) (by
      unfold re qG zh vR
      congr 1;funext _u;congr 1;funext s2;obtain⟨r2,n2,q2⟩:=s2
      cases r2 with
      |some r2=>rfl
      |none=>
       dsimp only
       split
       ·congr 1;funext _v;congr 1;funext _w;congr 1;funext s3;obtain⟨r3,n3⟩:=s3;cases r3<;>rfl
       ·congr 1;funext _w;congr 1;funext s3;obtain⟨r3,n3⟩:=s3;cases r3<;>rfl) (sG L C B2 ha (by omega) hz off λm st3 B3 hp3 a b c d=>h m st3 B3 (hp3.trans hp2) a b c λk hk=>by rw[d k hk,hy k,if_neg (by omega)])
  ·rw[if_neg n1]
   have e1:n=1:=by omega
   subst e1
   refine xO (m':=re lo 1 nrem) (by
      unfold re qG zh vR
      congr 1;funext _u;congr 1;funext s2;obtain⟨r2,n2,q2⟩:=s2
      cases r2 with
      |some r2=>rfl
      |none=>
       dsimp only
       split
       ·congr 1;funext _v;congr 1;funext _w;congr 1;funext s3;obtain⟨r3,n3⟩:=s3;cases r3<;>rfl
       ·congr 1;funext _w;congr 1;funext s3;obtain⟨r3,n3⟩:=s3;cases r3<;>rfl) (sG L C B ha (by omega) hz (Off.one.snoc C (Q5 1) (C.of_lt fall)) h)
omit L in
theorem vf {st:SortSt} {k l:Nat} {Q:Unit→SortSt→Prop} (B:Base a₀ κ st) (hk:k<a₀.size) (hl:l≤k)
  (h:∀st',Base a₀ κ st'→pendingOf st'=pendingOf st→(∀j,g (arrOf st') j=if j=l then g (arrOf st) k else if l<j∧j≤k then g (arrOf st) (j-1)else g (arrOf st) j)→Q () st'):
  wpS (model prog w) A E s (moveDown' k l) Q st:=by
 rw[moveDown'_eq]
 refine wpS_modify (h _ ⟨B.kind,B.fine,(bubble_perm _ _ _).trans B.perm⟩ rfl λj=>?_)
 have e:=yQ (xs:=arrOf st) (src:=k) (d:=k-l) (by rw[B.size];exact hk) (by omega) j
 have z:k-(k-l)=l:=by omega
 rw[z]at e
 exact e
theorem wm {st:SortSt} {lo n ok:Nat} {Q:Bool→SortSt→Prop} (C:Cmp blt) (B:Base a₀ κ st) (h1:1≤ok) (hok:ok≤n) (hz:lo+n≤a₀.size) (hs:On blt (arrOf st) lo (lo+ok))
  (h:∀st',Base a₀ κ st'→pendingOf st'=pendingOf st→On blt (arrOf st') lo (lo+n)→Keep lo (arrOf st) (arrOf st')→Q true st'):wpS (model prog w) A E s (binarySort' lo n ok) Q st:=by
 rw[binarySort'_eq]
 dsimp only
 have em:max ok 1=ok:=Nat.max_eq_left h1
 rw[em]
 refine wpS_bind (wpS_forRange (I:=λi c st'=>c=(none,())∧Base a₀ κ st'∧pendingOf st'=pendingOf st∧Keep lo (arrOf st) (arrOf st')∧ok≤i∧i≤n∧On blt (arrOf st') lo (lo+i)) ?_ ?_
  ⟨rfl,B,rfl,λ_ _=>rfl,Q5 _,hok,hs⟩)
 ·rintro k c st' hk1 hk2 ⟨rfl,B',hp,hk,h2,h3,on⟩
  refine wpS_bind (wpS_forRange (I:=λi c st2=>st2=st'∧∃l r,c=(none,l,r)∧l≤r∧r≤k∧r-l≤k-i∧(∀j,j<l→le blt (g (arrOf st') (lo+j)) (g (arrOf st') (lo+k)))∧(∀j,r≤j→j<k→le blt (g (arrOf st') (lo+k)) (g (arrOf st') (lo+j)))) ?_ ?_
   ⟨rfl,0,k,rfl,Qg _,Q5 _,Q5 _,λj hj=>absurd hj (Nat.not_lt_zero _),λj a b=>by omega⟩)
  ·rintro i c st2 hi1 hi2 ⟨rfl,l,r,rfl,hlr,hrk,hm,below,above⟩
   dsimp only
   by_cases hge:l≥r
   ·rw[if_pos hge]
    refine wpS_pure ?_
    dsimp only
    have elr:l=r:=by omega
    refine wpS_bind (vf B' (by omega) (by omega) λst3 B3 hp3 hy=>wpS_pure ⟨rfl,B3,hp3.trans hp,λq hq=>?_,by omega,by omega,?_⟩)
    ·rw[hy q,if_neg (by omega),if_neg (by omega)];exact hk q hq
    ·intro a b ha hab hb
     rw[hy a,hy b]
     by_cases b1:b=lo+l
     ·rw[if_pos b1,if_neg (by omega),if_neg (by omega)]
      have:=below (a-lo) (by omega)
      rwa [show lo+(a-lo)=a by omega]at this
     ·rw[if_neg b1]
      by_cases b2:lo+l<b∧b≤lo+k
      ·rw[if_pos b2]
       by_cases a1:a=lo+l
       ·rw[if_pos a1]
        have:=above (b-1-lo) (by omega) (by omega)
        rwa [show lo+(b-1-lo)=b-1 by omega]at this
       ·rw[if_neg a1]
        by_cases a2:lo+l<a∧a≤lo+k
        ·rw[if_pos a2];exact on _ _ (by omega) (by omega) (by omega)
        ·rw[if_neg a2];exact on _ _ (by omega) (by omega) (by omega)
      ·rw[if_neg b2,if_neg (by omega),if_neg (by omega)]
       exact on _ _ ha hab (by omega)
   ·rw[if_neg hge]
    refine wpS_bind (lh L B' (by omega) (by omega) ?_)
    dsimp only
    cases e:blt (g (arrOf st2) (lo+k)) (g (arrOf st2) (lo+(l+r)/2))with
    |true=>
     rw[if_pos rfl]
     refine wpS_pure ⟨rfl,l,(l+r)/2,rfl,by omega,by omega,by omega,below,λj a b=>?_⟩
     by_cases ej:j=(l+r)/2
     ·subst ej;exact C.of_lt e
     ·exact C.trans (C.of_lt e) (on _ _ (by omega) (by omega) (by omega))
    |false=>
     rw[if_neg (by decide)]
     refine wpS_pure ⟨rfl,(l+r)/2+1,r,rfl,by omega,by omega,by omega,λj a=>?_,above⟩
     by_cases ej:j=(l+r)/2
     ·subst ej;exact e
     ·exact C.trans (on _ _ (by omega) (by omega) (by omega)) e
  ·rintro c st2 ⟨rfl,l,r,rfl,hlr,hrk,hm,below,above⟩
   have ek:max 0 k=k:=QA (Qg _)
   rw[ek]at hm
   have elr:l=r:=by omega
   dsimp only
   refine wpS_bind (vf B' (by omega) (by omega) λst3 B3 hp3 hy=>wpS_pure ⟨rfl,B3,hp3.trans hp,λq hq=>?_,by omega,by omega,?_⟩)
   ·rw[hy q,if_neg (by omega),if_neg (by omega)];exact hk q hq
   ·intro a b ha hab hb
    rw[hy a,hy b]
    by_cases b1:b=lo+l
    ·rw[if_pos b1,if_neg (by omega),if_neg (by omega)]
     have:=below (a-lo) (by omega)
     rwa [show lo+(a-lo)=a by omega]at this
    ·rw[if_neg b1]
     by_cases b2:lo+l<b∧b≤lo+k
     ·rw[if_pos b2]
      by_cases a1:a=lo+l
      ·rw[if_pos a1]
       have:=above (b-1-lo) (by omega) (by omega)
       rwa [show lo+(b-1-lo)=b-1 by omega]at this
      ·rw[if_neg a1]
       by_cases a2:lo+l<a∧a≤lo+k
       ·rw[if_pos a2];exact on _ _ (by omega) (by omega) (by omega)
       ·rw[if_neg a2];exact on _ _ (by omega) (by omega) (by omega)
     ·rw[if_neg b2,if_neg (by omega),if_neg (by omega)]
      exact on _ _ ha hab (by omega)
 ·rintro c st' ⟨rfl,B',hp,hk,h2,h3,on⟩
  have e:max ok n=n:=QA hok
  rw[e]at on
  exact wpS_pure (h st' B' hp on hk)
def AB:Bool→Keyed→Array Keyed→Nat→Nat→Nat→StateT SortSt Sem (Option Nat):=sortPriv%PySem.Builtin.gallop
omit L in
theorem qC {γ:Type} {st:SortSt} {n lo hi:Nat} {f:Nat→Option γ×Nat×Nat→StateT SortSt Sem (ForInStep (Option γ×Nat×Nat))} {Q:Option γ×Nat×Nat→SortSt→Prop} (be:Nat→Bool) (mono:∀i j,i≤j→j<n→be j=true→be i=true)
  (hf:∀(i lo hi:Nat) (R:ForInStep (Option γ×Nat×Nat)→SortSt→Prop),hi≤n→(lo≥hi→R (.done (none,lo,hi)) st)→(lo<hi→be (lo+(hi-lo)/2)=true→R (.yield (none,lo+(hi-lo)/2+1,hi)) st)→(lo<hi→be (lo+(hi-lo)/2)=false→R (.yield (none,lo,lo+(hi-lo)/2)) st)→wpS (model prog w) A E s (f i (none,lo,hi)) R st)
  (h1:lo≤hi) (h2:hi≤n) (ht:∀i,i<lo→be i=true) (hF:∀i,hi≤i→i<n→be i=false)
  (h:∀k,k≤n→(∀i,i<k→be i=true)→(∀i,k≤i→i<n→be i=false)→Q (none,k,k) st):wpS (model prog w) A E s (forIn [0:n] (none,lo,hi) f) Q st:=by
 refine wpS_forRange (I:=λi c st'=>st'=st∧∃lo hi,c=(none,lo,hi)∧lo≤hi∧hi≤n∧hi-lo≤n-i∧(∀i,i<lo→be i=true)∧(∀i,hi≤i→i<n→be i=false)) ?_ ?_
  ⟨rfl,lo,hi,rfl,h1,h2,by omega,ht,hF⟩
 ·rintro i c st' hi1 hi2 ⟨rfl,lo,hi,rfl,g1,g2,g3,g4,g5⟩
  refine hf i lo hi _ g2 (λz=>?_) (λz e=>?_) (λz e=>?_)
  ·have e:lo=hi:=by omega
   subst e
   exact h lo g2 g4 g5
  ·exact⟨rfl,_,_,rfl,by omega,g2,by omega,λj hj=>mono j _ (by omega) (by omega) e,g5⟩
  ·refine⟨rfl,_,_,rfl,by omega,by omega,by omega,g4,λj a b=>?_⟩
   cases q:be j with
   |false=>rfl
   |true=>rw[mono _ j a b q]at e;cases e
 ·rintro c st' ⟨rfl,lo,hi,rfl,g1,g2,g3,g4,g5⟩
  have em:max 0 n=n:=QA (Qg _)
  rw[em]at g3
  have e:lo=hi:=by omega
  subst e
  exact h lo g2 g4 g5
theorem eK {left:Bool} {key:Keyed} {arr:Array Keyed} {base n hint:Nat} {st:SortSt} {Q:Option Nat→SortSt→Prop} (hK:kindOf st=κ) (hk:key∈a₀) (ha:∀i,i<n→base+i<arr.size∧g arr (base+i)∈a₀) (hh:hint<n)
  (be:Nat→Bool) (hbe:∀i,i<n→be i=if left=true then blt (g arr (base+i)) key else !blt key (g arr (base+i))) (mono:∀i j,i≤j→j<n→be j=true→be i=true)
  (h:∀k,k≤n→(∀i,i<k→be i=true)→(∀i,k≤i→i<n→be i=false)→Q (some k) st):wpS (model prog w) A E s (AB left key arr base n hint) Q st:=by
 have bey:∀(i:Nat) (R:Option Bool→SortSt→Prop),i<n→R (some (be i)) st→wpS (model prog w) A E s (elem' arr (base+i)>>=λx=>if left=true then lt' x key else lt' key x>>=λr=>pure (r.map λx=>!x)) R st:=by
  intro i R hi q
  obtain⟨h1,h2⟩:=ha i hi
  rw[elem'_eq,cp h1]
  refine wpS_bind (wpS_pure ?_)
  have e:=hbe i hi
  cases left with
  |true=>
   rw[if_pos rfl]at e⊢
   exact L _ _ st R h2 hk hK (by rw[←e];exact q)
  |false=>
   rw[if_neg (by decide)]at e⊢
   refine wpS_bind (L _ _ st _ hk h2 hK (wpS_pure ?_))
   show R (some (!blt key (g arr (base+i)))) st
   rw[←e];exact q
 refine wpS_bind ?_
 dsimp only
 refine bey hint _ hh ?_
 dsimp only
 cases e0:be hint with
 |true=>
  rw[if_pos rfl]
  refine wpS_bind (wpS_mono (wpS_forRange (I:=λi c st'=>st'=st∧∃la ofs,c=(none,la,ofs)∧la<ofs∧i+1≤ofs∧hint+la<n∧be (hint+la)=true)
   (Q:=λc st'=>st'=st∧∃la ofs,c=(none,la,ofs)∧la<ofs∧hint+la<n∧be (hint+la)=true∧(n-hint≤ofs∨(hint+ofs<n∧be (hint+ofs)=false))) ?_ ?_ ⟨rfl,0,1,rfl,by omega,by omega,by omega,e0⟩) ?_)
  ·rintro i c st' hi1 hi2 ⟨rfl,la,ofs,rfl,a1,a2,a3,a4⟩
   dsimp only
   by_cases z:ofs≥n-hint
   ·rw[if_pos z]
    exact wpS_pure ⟨rfl,la,ofs,rfl,a1,a3,a4,.inl z⟩
   ·rw[if_neg z]
    refine wpS_bind (bey (hint+ofs) _ (by omega) ?_)
    dsimp only
    cases e:be (hint+ofs)with
    |false=>
     rw[if_pos (by decide)]
     exact wpS_pure ⟨rfl,la,ofs,rfl,a1,a3,a4,.inr ⟨by omega,e⟩⟩
    |true=>
     rw[if_neg (by decide)]
     exact wpS_pure ⟨rfl,ofs,2*ofs+1,rfl,by omega,by omega,by omega,e⟩
  ·rintro c st' ⟨rfl,la,ofs,rfl,a1,a2,a3,a4⟩
   have em:max 0 n=n:=QA (Qg _)
   rw[em]at a2
   exact⟨rfl,la,ofs,rfl,a1,a3,a4,.inl (by omega)⟩
  ·rintro c st' ⟨rfl,la,ofs,rfl,a1,a3,a4,a5⟩
   dsimp only
   refine wpS_bind (qC be mono (λi lo hi R hn c1 c2 c3=>?_) (by omega) (by omega) (λi hi=>mono i (hint+la) (by omega) a3 a4) (λi h1 h2=>?_) λk h1 h2 h3=>?_)
   ·dsimp only
    by_cases z:lo≥hi
    ·rw[if_pos z];exact wpS_pure (c1 z)
    ·rw[if_neg z]
     refine wpS_bind (bey _ _ (by omega) ?_)
     dsimp only
     cases e:be (lo+(hi-lo)/2)with
     |true=>rw[if_pos rfl];exact wpS_pure (c2 (by omega) e)
     |false=>rw[if_neg (by decide)];exact wpS_pure (c3 (by omega) e)
   ·rcases a5 with z|⟨z1,z2⟩
    ·omega
    ·cases q:be i with
     |false=>rfl
     |true=>rw[mono (hint+ofs) i (by omega) h2 q]at z2;cases z2
   ·exact wpS_pure (h k h1 h2 h3)
 |false=>
  rw[if_neg (by decide)]
  refine wpS_bind (wpS_mono (wpS_forRange (I:=λi c st'=>st'=st∧∃la ofs,c=(none,la,ofs)∧la<ofs∧i+1≤ofs∧la≤hint∧be (hint-la)=false)
   (Q:=λc st'=>st'=st∧∃la ofs,c=(none,la,ofs)∧la<ofs∧la≤hint∧be (hint-la)=false∧(hint+1≤ofs∨(ofs≤hint∧be (hint-ofs)=true))) ?_ ?_ ⟨rfl,0,1,rfl,by omega,by omega,by omega,e0⟩) ?_)
  ·rintro i c st' hi1 hi2 ⟨rfl,la,ofs,rfl,a1,a2,a3,a4⟩
   dsimp only
   by_cases z:ofs≥hint+1
   ·rw[if_pos z]
    exact wpS_pure ⟨rfl,la,ofs,rfl,a1,a3,a4,.inl z⟩
   ·rw[if_neg z]
    refine wpS_bind (bey (hint-ofs) _ (by omega) ?_)
    dsimp only
    cases e:be (hint-ofs)with
    |true=>
     rw[if_pos rfl]
     exact wpS_pure ⟨rfl,la,ofs,rfl,a1,a3,a4,.inr ⟨by omega,e⟩⟩
    |false=>
     rw[if_neg (by decide)]
     exact wpS_pure ⟨rfl,ofs,2*ofs+1,rfl,by omega,by omega,by omega,e⟩
  ·rintro c st' ⟨rfl,la,ofs,rfl,a1,a2,a3,a4⟩
   have em:max 0 n=n:=QA (Qg _)
   rw[em]at a2
   exact⟨rfl,la,ofs,rfl,a1,a3,a4,.inl (by omega)⟩
  ·rintro c st' ⟨rfl,la,ofs,rfl,a1,a3,a4,a5⟩
   dsimp only
   refine wpS_bind (qC be mono (λi lo hi R hn c1 c2 c3=>?_) (by omega) (by omega) (λi hi=>?_) (λi h1 h2=>?_) λk h1 h2 h3=>?_)
   ·dsimp only
    by_cases z:lo≥hi
    ·rw[if_pos z];exact wpS_pure (c1 z)
    ·rw[if_neg z]
     refine wpS_bind (bey _ _ (by omega) ?_)
     dsimp only
     cases e:be (lo+(hi-lo)/2)with
     |true=>rw[if_pos rfl];exact wpS_pure (c2 (by omega) e)
     |false=>rw[if_neg (by decide)];exact wpS_pure (c3 (by omega) e)
   ·rcases a5 with z|⟨z1,z2⟩
    ·omega
    ·exact mono i (hint-ofs) (by omega) (by omega) z2
   ·cases q:be i with
    |false=>rfl
    |true=>rw[mono (hint-la) i (by omega) h2 q]at a4;cases a4
   ·exact wpS_pure (h k h1 h2 h3)
end
end Srt
namespace Srt
open PySem PyProof.Rows
def yt:Array Keyed→Array Keyed→StateT SortSt Sem (Array Keyed):=sortPriv%PySem.Builtin.mergeLo
def yu:Array Keyed→Array Keyed→StateT SortSt Sem (Array Keyed):=sortPriv%PySem.Builtin.mergeHi
section
variable {blt:Keyed→Keyed→Bool}
abbrev PW (blt:Keyed→Keyed→Bool) (l:List Keyed):Prop:=l.Pairwise (le blt)
structure Lo (blt:Keyed→Keyed→Bool) (all o ra rb:List Keyed):Prop where
 perm:(o++(ra++rb)).Perm all
 srt:PW blt o
 low:∀x∈o,∀y∈ra++rb,le blt x y
theorem Lo.a {all o ca ra rb:List Keyed} (h:Lo blt all o (ca++ra) rb) (hs:PW blt (ca++ra)) (hc:∀x∈ca,∀y∈rb,le blt x y):Lo blt all (o++ca) ra rb where
 perm:=by
  refine List.Perm.trans ?_ h.perm
  rw[Qk,Qk]
 srt:=Qc.mpr ⟨h.srt,(Qc.mp hs).1,λx hx y hy=>h.low x hx y (by simp[hy])⟩
 low:=λx hx y hy=>by
  rcases Q4.mp hx with q|q
  ·exact h.low x q y (by rcases Q4.mp hy with z|z<;>simp[z])
  ·rcases Q4.mp hy with z|z
   ·exact(Qc.mp hs).2.2 x q y z
   ·exact hc x q y z
theorem Lo.b {all o ra cb rb:List Keyed} (h:Lo blt all o ra (cb++rb)) (hs:PW blt (cb++rb)) (hc:∀x∈cb,∀y∈ra,le blt x y):Lo blt all (o++cb) ra rb where
 perm:=by
  refine List.Perm.trans ?_ h.perm
  rw[Qk]
  refine List.Perm.append_left o ?_
  rw[←Qk,←Qk]
  exact List.Perm.append_right rb Zv
 srt:=Qc.mpr ⟨h.srt,(Qc.mp hs).1,λx hx y hy=>h.low x hx y (by simp[hy])⟩
 low:=λx hx y hy=>by
  rcases Q4.mp hx with q|q
  ·exact h.low x q y (by rcases Q4.mp hy with z|z<;>simp[z])
  ·rcases Q4.mp hy with z|z
   ·exact hc x q y z
   ·exact(Qc.mp hs).2.2 x q y z
theorem Lo.endA {all o ra:List Keyed} (h:Lo blt all o ra []) (hs:PW blt ra):(o++ra).Perm all∧PW blt (o++ra):=
 ⟨by simpa using h.perm,Qc.mpr ⟨h.srt,hs,λx hx y hy=>h.low x hx y (by simp[hy])⟩⟩
theorem Lo.endB {all o rb:List Keyed} {z:Keyed} (h:Lo blt all o [z] rb) (hs:PW blt rb) (hz:∀x∈rb,le blt x z):(o++(rb++ [z])).Perm all∧PW blt (o++(rb++ [z])):=by
 refine⟨List.Perm.trans (List.Perm.append_left o Zv) h.perm,Qc.mpr ⟨h.srt,Qc.mpr ⟨hs,Zp _ _,λx hx y hy=>?_⟩,λx hx y hy=>h.low x hx y ?_⟩⟩
 ·rw[Q8.mp hy];exact hz x hx
 ·rcases Q4.mp hy with q|q<;>simp_all
theorem pS {a:Array Keyed} {i:Nat} (h:i<a.size):a.toList.drop i=g a i::a.toList.drop (i+1):=by
 have e:=cp h
 rw[←Qp]at e
 obtain⟨h1,h2⟩:=Q2.mp e
 rw[Z0 h1,h2]
theorem iy {a:Array Keyed} {i:Nat} {x:Keyed} (h:x∈a.toList.drop i):∃j,i≤j∧j<a.size∧x=g a j:=by
 obtain⟨k,hk,e⟩:=Zh.mp h
 rw[Qu]at hk
 have hs:i+k<a.size:=by rw[←Q6];omega
 refine⟨i+k,by omega,hs,?_⟩
 have e2:=cp hs
 rw[←Qp]at e2
 rw[Ze]at e
 rw[Q3 (by rw[Q6];exact hs)]at e2
 rw[←e]
 exact Option.some.inj e2
theorem fh {a:Array Keyed} (h:On blt a 0 a.size) (i:Nat):PW blt (a.toList.drop i):=by
 refine ZH.mpr λj k hj hk hjk=>?_
 rw[Qu,Q6]at hj hk
 have e1:=cp (xs:=a) (i:=i+j) (by omega)
 have e2:=cp (xs:=a) (i:=i+k) (by omega)
 rw[←Qp,Q3 (by rw[Q6];omega)]at e1 e2
 rw[Ze,Ze,Option.some.inj e1,Option.some.inj e2]
 exact h _ _ (Qg _) (by omega) (by omega)
theorem ym {a:Array Keyed} (h:PW blt a.toList):On blt a 0 a.size:=λi j _ hij hj=>by
 have e1:=cp (xs:=a) (i:=i) (by omega)
 have e2:=cp (xs:=a) (i:=j) hj
 rw[←Qp,Q3 (by rw[Q6];omega)]at e1 e2
 rw[←Option.some.inj e1,←Option.some.inj e2]
 exact ZH.mp h i j _ _ hij
theorem mf (a:Array Keyed) (i k:Nat):(a.extract i (i+k)).toList=(a.toList.drop i).take k:=by
 rw[QS,QG]
 congr 1
 omega
theorem eL (a:Array Keyed) (i:Nat):(a.extract i).toList=a.toList.drop i:=by
 rw[QS,QG,QB]
 rw[Qu,Q6]
 exact Q5 _
theorem tU (l:List Keyed) (i k:Nat):l.drop i=(l.drop i).take k++l.drop (i+k):=by
 rw[←Xl,QC]
end
structure Like (st st':SortSt):Prop where
 kind:kindOf st'=kindOf st
 arr:arrOf st'=arrOf st
 pend:pendingOf st'=pendingOf st
 fail:failedOf st'=failedOf st
theorem Like.refl (st:SortSt):Like st st:=⟨rfl,rfl,rfl,rfl⟩
section
variable {prog:Program} {w:World} {A:Around} {E:Value→Shared→Prop} {s:Shared} {a₀:Array Keyed} {κ:SortKind} {blt:Keyed→Keyed→Bool}
theorem bp {arr:Array Keyed} {i:Nat} {st:SortSt} {R:Keyed→SortSt→Prop} (h:i<arr.size) (q:R (g arr i) st):wpS (model prog w) A E s (elem' arr i) R st:=by
 rw[elem'_eq,cp h]
 exact wpS_pure q
def ux:Nat→StateT SortSt Sem Unit:=sortPriv%PySem.Builtin.setMinGallop
theorem xL {m:Nat} {st:SortSt} {Q:Unit→SortSt→Prop} (h:∀st',Like st st'→Q () st'):wpS (model prog w) A E s (ux m) Q st:=wpS_modify (h _ ⟨rfl,rfl,rfl,rfl⟩)
variable (L:t8 prog w A E s a₀ κ blt)
include L
theorem uj {a b:Array Keyed} {st:SortSt} {Q:Array Keyed→SortSt→Prop} (C:Cmp blt) (hK:kindOf st=κ) (hm:∀x,x∈a.toList++b.toList→x∈a₀) (oa:On blt a 0 a.size) (ob:On blt b 0 b.size) (ha:0<a.size) (hb:0<b.size)
  (hfirst:blt (g b 0) (g a 0)=true) (hlast:∀j,j<b.size→blt (g b j) (g a (a.size-1))=true)
  (h:∀res st',Like st st'→res.toList.Perm (a.toList++b.toList)→PW blt res.toList→Q res st'):wpS (model prog w) A E s (yt a b) Q st:=by
 have ma:∀i,i<a.size→g a i∈a₀:=λi hi=>hm _ (by have:=qW hi;simp[this])
 have mb:∀i,i<b.size→g b i∈a₀:=λi hi=>hm _ (by have:=qW hi;simp[this])
 have doneA:∀(o:List Keyed) (ia:Nat) (st':SortSt) (res:Array Keyed),Like st st'→Lo blt (a.toList++b.toList) o (a.toList.drop ia) []→res.toList=o++a.toList.drop ia→Q res st':=λo ia st' res lk lo e=>by
  obtain⟨p1,p2⟩:=lo.endA (fh oa ia)
  exact h res st' lk (by rw[e];exact p1) (by rw[e];exact p2)
 have doneB:∀(o:List Keyed) (ib:Nat) (st':SortSt) (res:Array Keyed),Like st st'→Lo blt (a.toList++b.toList) o (a.toList.drop (a.size-1)) (b.toList.drop ib)→res.toList=o++(b.toList.drop ib++a.toList.drop (a.size-1))→Q res st':=λo ib st' res lk lo e=>by
  have ez:a.toList.drop (a.size-1)=[g a (a.size-1)]:=by
   rw[pS (by omega),QU (by rw[Q6];omega)]
  rw[ez]at lo e
  obtain⟨p1,p2⟩:=lo.endB (fh ob ib) (λx hx=>by
   obtain⟨j,_,hj,rfl⟩:=iy hx
   exact C.of_lt (hlast j hj))
  exact h res st' lk (by rw[e];exact p1) (by rw[e];exact p2)
 have chunkA:∀(out:Array Keyed) (ia ib k:Nat),ia+k≤a.size→ib<b.size→Lo blt (a.toList++b.toList) out.toList (a.toList.drop ia) (b.toList.drop ib)→(∀i,i<k→blt (g b ib) (g a (ia+i))=false)→
   Lo blt (a.toList++b.toList) (out++a.extract ia (ia+k)).toList (a.toList.drop (ia+k)) (b.toList.drop ib):=λout ia ib k h1 h2 lo hk=>by
  rw[Qw,mf]
  have pa:=fh oa ia
  rw[tU a.toList ia k]at lo pa
  refine lo.a pa λx hx y hy=>?_
  obtain⟨i,hi,e⟩:=Zh.mp hx
  rw[Qm,Qu,Q6]at hi
  have ex:x=g a (ia+i):=by
   have e2:=cp (xs:=a) (i:=ia+i) (by omega)
   rw[←Qp,Q3 (by rw[Q6];omega)]at e2
   rw[Zt,Ze]at e
   rw[←e];exact Option.some.inj e2
  obtain⟨j,hj1,hj2,rfl⟩:=iy hy
  have l1:le blt x (g b ib):=by rw[ex];exact hk i (by omega)
  by_cases ej:j=ib
  ·rw[ej];exact l1
  ·exact C.trans l1 (ob ib j (Qg _) (by omega) hj2)
 have chunkB:∀(out:Array Keyed) (ia ib k:Nat),ib+k≤b.size→ia<a.size→Lo blt (a.toList++b.toList) out.toList (a.toList.drop ia) (b.toList.drop ib)→(∀i,i<k→blt (g b (ib+i)) (g a ia)=true)→
   Lo blt (a.toList++b.toList) (out++b.extract ib (ib+k)).toList (a.toList.drop ia) (b.toList.drop (ib+k)):=λout ia ib k h1 h2 lo hk=>by
  rw[Qw,mf]
  have pb:=fh ob ib
  rw[tU b.toList ib k]at lo pb
  refine lo.b pb λx hx y hy=>?_
  obtain⟨i,hi,e⟩:=Zh.mp hx
  rw[Qm,Qu,Q6]at hi
  have ex:x=g b (ib+i):=by
   have e2:=cp (xs:=b) (i:=ib+i) (by omega)
   rw[←Qp,Q3 (by rw[Q6];omega)]at e2
   rw[Zt,Ze]at e
   rw[←e];exact Option.some.inj e2
  obtain⟨j,hj1,hj2,rfl⟩:=iy hy
  have l1:le blt x (g a ia):=by rw[ex];exact C.of_lt (hk i (by omega))
  by_cases ej:j=ia
  ·rw[ej];exact l1
  ·exact C.trans l1 (oa ia j (Qg _) (by omega) hj2)
 have one:∀(x:Array Keyed) (i:Nat),i<x.size→(x.extract i (i+1))= #[g x i]:=λx i hi=>by
  apply Array.ext'
  rw[mf,pS hi]
  rfl
 have stepB:∀(out:Array Keyed) (ia ib:Nat),ia<a.size→ib<b.size→Lo blt (a.toList++b.toList) out.toList (a.toList.drop ia) (b.toList.drop ib)→blt (g b ib) (g a ia)=true→
   Lo blt (a.toList++b.toList) (out.push (g b ib)).toList (a.toList.drop ia) (b.toList.drop (ib+1)):=λout ia ib h1 h2 lo hk=>by
  have:=chunkB out ia ib 1 (by omega) h1 lo λi hi=>by rw[show ib+i=ib by omega];exact hk
  rwa [one b ib h2,←Zz]at this
 have stepA:∀(out:Array Keyed) (ia ib:Nat),ia<a.size→ib<b.size→Lo blt (a.toList++b.toList) out.toList (a.toList.drop ia) (b.toList.drop ib)→blt (g b ib) (g a ia)=false→
   Lo blt (a.toList++b.toList) (out.push (g a ia)).toList (a.toList.drop (ia+1)) (b.toList.drop ib):=λout ia ib h1 h2 lo hk=>by
  have:=chunkA out ia ib 1 (by omega) h2 lo λi hi=>by rw[show ia+i=ia by omega];exact hk
  rwa [one a ia h1,←Zz]at this
 have endA:∀(out:Array Keyed) (ia ib:Nat) (st':SortSt),Like st st'→b.size≤ib→Lo blt (a.toList++b.toList) out.toList (a.toList.drop ia) (b.toList.drop ib)→Q (out++a.extract ia++b.extract ib) st':=λout ia ib st' lk hb lo=>by
  have en:b.toList.drop ib=[]:=QU (by rw[Q6];omega)
  rw[en]at lo
  refine doneA _ ia st' _ lk lo ?_
  rw[Qw,Qw,eL,eL,en,ZU]
 have endB:∀(out:Array Keyed) (ia ib:Nat) (st':SortSt),Like st st'→ia+1=a.size→Lo blt (a.toList++b.toList) out.toList (a.toList.drop ia) (b.toList.drop ib)→Q (out++b.extract ib++a.extract ia) st':=λout ia ib st' lk ha lo=>by
  have en:ia=a.size-1:=by omega
  refine doneB out.toList ib st' _ lk (by rw[←en];exact lo) ?_
  rw[Qw,Qw,eL,eL,←en,Qk]
 have monoA:∀(ka:Nat) (x:Keyed) (i j:Nat),i≤j→ka+j<a.size→(!blt x (g a (ka+j)))=true→(!blt x (g a (ka+i)))=true:=λka x i j h1 h2 h3=>by
  have h3:blt x (g a (ka+j))=false:=by simpa using h3
  by_cases e:i=j
  ·subst e;simpa using h3
  ·have:=C.trans (oa (ka+i) (ka+j) (Qg _) (by omega) h2) h3
   simpa using this
 have monoB:∀(kb:Nat) (x:Keyed) (i j:Nat),i≤j→kb+j<b.size→blt (g b (kb+j)) x=true→blt (g b (kb+i)) x=true:=λkb x i j h1 h2 h3=>by
  by_cases e:i=j
  ·subst e;exact h3
  ·have q:=ob (kb+i) (kb+j) (Qg _) (by omega) h2
   cases z:blt (g b (kb+i)) x with
   |true=>rfl
   |false=>
    have f:blt (g b (kb+j)) x=false:=C.trans z q
    rw[h3]at f
    cases f
 refine wpS_bind ?_
 dsimp only
 refine wpS_lift (wpAny_rule ⟨rfl,?_⟩)
 refine wpS_bind (bp hb ?_)
 have start:Lo blt (a.toList++b.toList) [g b 0] (a.toList.drop 0) (b.toList.drop 1):=by
  have l0:Lo blt (a.toList++b.toList) [] (a.toList.drop 0) ([g b 0]++b.toList.drop 1):=by
   refine⟨?_,List.Pairwise.nil,λx hx=>absurd hx Z8⟩
   have e:=pS hb
   rw[QT]at e
   rw[QT,List.nil_append,List.singleton_append,←e]
  have:=l0.b (by have:=fh ob 0;rw[pS hb]at this;exact this) (λx hx y hy=>by
   rw[Q8.mp hx]
   obtain⟨j,_,hj,rfl⟩:=iy hy
   by_cases j0:j=0
   ·rw[j0];exact C.of_lt hfirst
   ·exact C.trans (C.of_lt hfirst) (oa 0 j (Q5 _) (by omega) hj))
  simpa using this
 by_cases b1:1=b.size
 ·have eb:(1==b.size)=true:=beq_iff_eq.mpr b1
  rw[if_pos eb]
  refine wpS_pure ?_
  have en:b.toList.drop 1=[]:=QU (by rw[Q6];omega)
  rw[en]at start
  refine doneA _ 0 st _ (Like.refl _) start ?_
  simp[b1]
 ·have eb:¬(1==b.size)=true:=by simpa using b1
  rw[if_neg eb]
  by_cases a1:0+1=a.size
  ·have ea:(0+1==a.size)=true:=beq_iff_eq.mpr a1
   rw[if_pos ea]
   refine wpS_pure ?_
   have e0:a.size-1=0:=by omega
   refine doneB [g b 0] 1 st _ (Like.refl _) (by rw[e0];exact start) ?_
   rw[e0,Qw,Qw,eL,eL,Qk]
  ·have ea:¬(0+1==a.size)=true:=by simpa using a1
   rw[if_neg ea]
   refine wpS_bind (wpS_get ?_)
   refine wpS_bind (wpS_mono (wpS_forRange (I:=λi c st'=>Like st st'∧∃out ia ib mg,c=(none,out,ia,ib,mg)∧ia+1<a.size∧ib<b.size∧i≤ia+ib∧Lo blt (a.toList++b.toList) out.toList (a.toList.drop ia) (b.toList.drop ib))
    (Q:=λc st'=>∃res,c.1=some res∧Q res st') ?_ ?_ ⟨Like.refl _, #[g b 0],0,1,_,rfl,by omega,by omega,by omega,start⟩) ?_)
   ·rintro i c st' hi1 hi2 ⟨lk,out,ia,ib,mg,rfl,ha1,hb1,hi,lo⟩
    have hK':kindOf st'=κ:=lk.kind.trans hK
    refine wpS_bind (wpS_mono (wpS_forRange (I:=λj c st2=>st2=st'∧∃out ja jb p q,c=(none,out,ja,jb,p,q)∧ja+1<a.size∧jb<b.size∧ia+ib≤ja+jb∧Lo blt (a.toList++b.toList) out.toList (a.toList.drop ja) (b.toList.drop jb))
     (Q:=λc st2=>st2=st'∧((∃res,c.1=some res∧Q res st')∨∃out ja jb p q,c=(none,out,ja,jb,p,q)∧ja+1<a.size∧jb<b.size∧ia+ib≤ja+jb∧Lo blt (a.toList++b.toList) out.toList (a.toList.drop ja) (b.toList.drop jb))) ?_ ?_
     ⟨rfl,out,ia,ib,0,0,rfl,ha1,hb1,Q5 _,lo⟩) ?_)
    ·rintro j c st2 hj1 hj2 ⟨rfl,out,ja,jb,p,q,rfl,hja,hjb,hij,lo⟩
     dsimp only
     refine wpS_bind (bp hjb (wpS_bind (bp (by omega) (wpS_bind (L _ _ _ _ (mb jb hjb) (ma ja (by omega)) hK' ?_)))))
     dsimp only
     cases e:blt (g b jb) (g a ja)with
     |true=>
      rw[if_pos rfl]
      have lo':=stepB out ja jb (by omega) hjb lo e
      refine wpS_bind (bp hjb ?_)
      by_cases z:jb+1=b.size
      ·rw[if_pos (beq_iff_eq.mpr z)]
       exact wpS_pure ⟨rfl,.inl ⟨_,rfl,endA _ ja (jb+1) _ lk (by omega) lo'⟩⟩
      ·rw[if_neg (by simpa using z)]
       by_cases y:q+1≥mg
       ·rw[if_pos y]
        exact wpS_pure ⟨rfl,.inr ⟨_,_,_,_,_,rfl,hja,by omega,by omega,lo'⟩⟩
       ·rw[if_neg y]
        exact wpS_pure ⟨rfl,_,_,_,_,_,rfl,hja,by omega,by omega,lo'⟩
     |false=>
      rw[if_neg (by decide)]
      have lo':=stepA out ja jb (by omega) hjb lo e
      refine wpS_bind (bp (by omega) ?_)
      by_cases z:ja+1+1=a.size
      ·rw[if_pos (beq_iff_eq.mpr z)]
       exact wpS_pure ⟨rfl,.inl ⟨_,rfl,endB _ (ja+1) jb _ lk z lo'⟩⟩
      ·rw[if_neg (by simpa using z)]
       by_cases y:p+1≥mg
       ·rw[if_pos y]
        exact wpS_pure ⟨rfl,.inr ⟨_,_,_,_,_,rfl,by omega,hjb,by omega,lo'⟩⟩
       ·rw[if_neg y]
        exact wpS_pure ⟨rfl,_,_,_,_,_,rfl,by omega,hjb,by omega,lo'⟩
    ·rintro c st2 ⟨rfl,out,ja,jb,p,q,rfl,hja,hjb,hij,lo⟩
     exact⟨rfl,.inr ⟨_,_,_,_,_,rfl,hja,hjb,hij,lo⟩⟩
    ·rintro ⟨r,c⟩ st2 ⟨rfl,⟨res,e,q⟩|⟨out,ja,jb,p,q,e,hja,hjb,hij,lo⟩⟩
     ·dsimp only at e
      subst e
      exact wpS_pure ⟨res,rfl,q⟩
     ·obtain⟨rfl,rfl⟩:=Prod.mk.inj e
      dsimp only
      refine wpS_bind (wpS_lift (wpAny_rule ⟨rfl,?_⟩))
      refine wpS_bind (wpS_mono (wpS_forRange (I:=λj c st3=>Like st st3∧∃out ka kb m' p q,c=(none,out,ka,kb,m',p,q)∧ka+1<a.size∧kb<b.size∧ia+ib+j≤ka+kb∧Lo blt (a.toList++b.toList) out.toList (a.toList.drop ka) (b.toList.drop kb))
       (Q:=λc st3=>Like st st3∧((∃res,c.1=some res∧Q res st3)∨∃out ka kb m' p q,c=(none,out,ka,kb,m',p,q)∧ka+1<a.size∧kb<b.size∧ia+ib+1≤ka+kb∧Lo blt (a.toList++b.toList) out.toList (a.toList.drop ka) (b.toList.drop kb))) ?_ ?_
       ⟨lk,out,ja,jb,_,_,_,rfl,hja,hjb,by omega,lo⟩) ?_)
      ·rintro j c st3 hj1 hj2 ⟨lk3',out,ka,kb,m',p,q,rfl,hka,hkb,hij,lo⟩
       dsimp only
       by_cases m1:m'>1
       case' pos=>rw[if_pos m1]
       case' neg=>rw[if_neg m1]
       all_goals
        refine wpS_bind (xL λst4 lk3=>?_)
        have lk4:Like st st4:=⟨lk3.kind.trans lk3'.kind,lk3.arr.trans lk3'.arr,lk3.pend.trans lk3'.pend,lk3.fail.trans lk3'.fail⟩
        have hK4:kindOf st4=κ:=lk4.kind.trans hK
        refine wpS_bind (bp hkb ?_)
        refine wpS_bind (eK L hK4 (mb kb hkb) (λi hi=>⟨by omega,ma _ (by omega)⟩) (by omega) (λi=>!blt (g b kb) (g a (ka+i))) (λi hi=>rfl) (λi j h1 h2 h3=>monoA ka _ i j h1 (by omega) h3) λk hk1 hk2 hk3=>?_)
        dsimp only
        have klt:k<a.size-ka:=by
         rcases Nat.lt_or_ge k (a.size-ka)with z|z
         ·exact z
         ·have f:=hk2 (a.size-1-ka) (by omega)
          rw[show ka+(a.size-1-ka)=a.size-1 by omega,hlast kb hkb]at f
          cases f
        have hk2':∀i,i<k→blt (g b kb) (g a (ka+i))=false:=λi hi=>by have:=hk2 i hi;simpa using this
        have bw:blt (g b kb) (g a (ka+k))=true:=by have:=hk3 k (Q5 _) klt;simpa using this
        have lo1:=lo
        by_cases k0:k>0
        case' pos=>
         rw[if_pos k0]
         replace lo1:=chunkA out ka kb k (by omega) hkb lo hk2'
         by_cases z:ka+k+1=a.size
         case pos=>
          rw[if_pos (beq_iff_eq.mpr z)]
          exact wpS_pure ⟨lk4,.inl ⟨_,rfl,endB _ (ka+k) kb _ lk4 z lo1⟩⟩
         have zz:¬ka+k=a.size:=by omega
         rw[if_neg (by simpa using z),if_neg (by simpa using zz)]
         obtain⟨kc,ek⟩:∃kc,kc=ka+k:=⟨_,rfl⟩
        case' neg=>
         rw[if_neg k0]
         rw[show k=0 by omega,ZR]at bw
         obtain⟨kc,ek⟩:∃kc,kc=ka:=⟨_,rfl⟩
        all_goals
         rw[←ek]at lo1 bw⊢
         refine wpS_bind (bp hkb ?_)
         have lo2:=stepB _ kc kb (by omega) hkb lo1 bw
         by_cases z2:kb+1=b.size
         case pos=>
          rw[if_pos (beq_iff_eq.mpr z2)]
          exact wpS_pure ⟨lk4,.inl ⟨_,rfl,endA _ kc (kb+1) _ lk4 (by omega) lo2⟩⟩
         rw[if_neg (by simpa using z2)]
         refine wpS_bind (bp (by omega) ?_)
         refine wpS_bind (eK L hK4 (ma _ (by omega)) (λi hi=>⟨by omega,mb _ (by omega)⟩) (by omega) (λi=>blt (g b (kb+1+i)) (g a kc)) (λi hi=>rfl) (λi j h1 h2 h3=>monoB (kb+1) _ i j h1 (by omega) h3) λk2 h1 h2 h3=>?_)
         dsimp only
         have lo3:=lo2
         by_cases q0:k2>0
         case' pos=>
          rw[if_pos q0]
          replace lo3:=chunkB _ kc (kb+1) k2 (by omega) (by omega) lo2 h2
          by_cases z3:kb+1+k2=b.size
          case pos=>
           rw[if_pos (beq_iff_eq.mpr z3)]
           exact wpS_pure ⟨lk4,.inl ⟨_,rfl,endA _ kc (kb+1+k2) _ lk4 (by omega) lo3⟩⟩
          rw[if_neg (by simpa using z3)]
          have w3:=h3 k2 (Q5 _) (by omega)
          obtain⟨kd,ed⟩:∃kd,kd=kb+1+k2:=⟨_,rfl⟩
         case' neg=>
          rw[if_neg q0]
          have w3:blt (g b (kb+1)) (g a kc)=false:=h3 0 (by omega) (by omega)
          obtain⟨kd,ed⟩:∃kd,kd=kb+1:=⟨_,rfl⟩
         all_goals
          rw[←ed]at lo3 w3⊢
          refine wpS_bind (bp (by omega) ?_)
          have lo4:=stepA _ kc kd (by omega) (by omega) lo3 w3
          by_cases z4:kc+1+1=a.size
          case pos=>
           rw[if_pos (beq_iff_eq.mpr z4)]
           exact wpS_pure ⟨lk4,.inl ⟨_,rfl,endB _ (kc+1) kd _ lk4 z4 lo4⟩⟩
          rw[if_neg (by simpa using z4)]
          split
          ·exact wpS_pure ⟨lk4,.inr ⟨_,_,_,_,_,_,rfl,by omega,by omega,by omega,lo4⟩⟩
          ·exact wpS_pure ⟨lk4,_,_,_,_,_,_,rfl,by omega,by omega,by omega,lo4⟩
      ·rintro c st3 ⟨lk3,out,ka,kb,m',p,q,rfl,hka,hkb,hij,lo⟩
       have em:max 0 (a.size+b.size)=a.size+b.size:=QA (Qg _)
       rw[em]at hij
       omega
      ·rintro ⟨r,c⟩ st3 ⟨lk3,⟨res,e,q⟩|⟨out,ka,kb,m',p,q,e,hka,hkb,hij,lo⟩⟩
       ·dsimp only at e
        subst e
        exact wpS_pure ⟨res,rfl,q⟩
       ·obtain⟨rfl,rfl⟩:=Prod.mk.inj e
        dsimp only
        refine wpS_bind (wpS_modify (wpS_pure ⟨⟨lk3.kind,lk3.arr,lk3.pend,lk3.fail⟩,_,_,_,_,rfl,hka,hkb,by omega,lo⟩))
   ·rintro c st' ⟨lk,out,ia,ib,mg,rfl,ha1,hb1,hi,lo⟩
    have em:max 0 (a.size+b.size)=a.size+b.size:=QA (Qg _)
    rw[em]at hi
    omega
   ·rintro ⟨r,c⟩ st' ⟨res,e,q⟩
    dsimp only at e
    subst e
    exact wpS_pure q
end
section
variable {blt:Keyed→Keyed→Bool}
structure Hi (blt:Keyed→Keyed→Bool) (all o ra rb:List Keyed):Prop where
 perm:((ra++rb)++o).Perm all
 srt:PW blt o
 high:∀x∈ra++rb,∀y∈o,le blt x y
theorem Hi.a {all o ca ra rb:List Keyed} (h:Hi blt all o (ra++ca) rb) (hs:PW blt (ra++ca)) (hc:∀x∈rb,∀y∈ca,le blt x y):Hi blt all (ca++o) ra rb where
 perm:=by
  refine List.Perm.trans ?_ h.perm
  rw[←Qk]
  refine List.Perm.append_right o ?_
  rw[Qk,Qk]
  exact List.Perm.append_left ra Zv
 srt:=Qc.mpr ⟨(Qc.mp hs).2.1,h.srt,λx hx y hy=>h.high x (by simp[hx]) y hy⟩
 high:=λx hx y hy=>by
  rcases Q4.mp hy with q|q
  ·rcases Q4.mp hx with z|z
   ·exact(Qc.mp hs).2.2 x z y q
   ·exact hc x z y q
  ·exact h.high x (by rcases Q4.mp hx with z|z<;>simp[z]) y q
theorem Hi.b {all o ra cb rb:List Keyed} (h:Hi blt all o ra (rb++cb)) (hs:PW blt (rb++cb)) (hc:∀x∈ra,∀y∈cb,le blt x y):Hi blt all (cb++o) ra rb where
 perm:=by
  refine List.Perm.trans ?_ h.perm
  rw[←Qk]
  refine List.Perm.append_right o ?_
  rw[Qk]
 srt:=Qc.mpr ⟨(Qc.mp hs).2.1,h.srt,λx hx y hy=>h.high x (by simp[hx]) y hy⟩
 high:=λx hx y hy=>by
  rcases Q4.mp hy with q|q
  ·rcases Q4.mp hx with z|z
   ·exact hc x z y q
   ·exact(Qc.mp hs).2.2 x z y q
  ·exact h.high x (by rcases Q4.mp hx with z|z<;>simp[z]) y q
theorem xV {a:Array Keyed} {i:Nat} (h:i<a.size):a.toList.take (i+1)=a.toList.take i++ [g a i]:=by
 have e:=cp h
 rw[←Qp]at e
 rw[Zu,e]
 rfl
theorem fv {a:Array Keyed} {n:Nat} {x:Keyed} (h:x∈a.toList.take n):∃j,j<n∧j<a.size∧x=g a j:=by
 obtain⟨k,hk,e⟩:=Zh.mp h
 rw[Qm,Q6]at hk
 refine⟨k,by omega,by omega,?_⟩
 have e2:=cp (xs:=a) (i:=k) (by omega)
 rw[←Qp,Q3 (by rw[Q6];omega)]at e2
 rw[Zt]at e
 rw[←e]
 exact Option.some.inj e2
theorem cO {a:Array Keyed} {i n:Nat} {x:Keyed} (h:x∈(a.extract i n).toList):∃j,i≤j∧j<n∧j<a.size∧x=g a j:=by
 rw[QS,QG]at h
 obtain⟨k,hk,e⟩:=Zh.mp h
 rw[Qm,Qu,Q6]at hk
 refine⟨i+k,by omega,by omega,by omega,?_⟩
 have e2:=cp (xs:=a) (i:=i+k) (by omega)
 rw[←Qp,Q3 (by rw[Q6];omega)]at e2
 rw[Zt,Ze]at e
 rw[←e]
 exact Option.some.inj e2
theorem jJ {a:Array Keyed} (h:On blt a 0 a.size) (n:Nat):PW blt (a.toList.take n):=by
 have:=fh h 0
 rw[QT]at this
 exact List.Pairwise.sublist (X7 _ _) this
theorem sL {a:Array Keyed} {i n:Nat} (h:i≤n):a.toList.take n=a.toList.take i++(a.extract i n).toList:=by
 rw[QS,QG]
 obtain⟨k,rfl⟩:∃k,n=i+k:=⟨n-i,by omega⟩
 rw[List.take_add,show i+k-i=k by omega]
theorem AG (a:Array Keyed) (n:Nat):(a.extract 0 n).toList=a.toList.take n:=by
 rw[QS,QG,QT,Nat.sub_zero]
end
section
variable {prog:Program} {w:World} {A:Around} {E:Value→Shared→Prop} {s:Shared} {a₀:Array Keyed} {κ:SortKind} {blt:Keyed→Keyed→Bool}
variable (L:t8 prog w A E s a₀ κ blt)
include L
theorem uk {a b:Array Keyed} {st:SortSt} {Q:Array Keyed→SortSt→Prop} (C:Cmp blt) (hK:kindOf st=κ) (hm:∀x,x∈a.toList++b.toList→x∈a₀) (oa:On blt a 0 a.size) (ob:On blt b 0 b.size) (ha:0<a.size) (hb:0<b.size)
  (hfirst:blt (g b 0) (g a 0)=true) (hlast:∀j,j<b.size→blt (g b j) (g a (a.size-1))=true)
  (h:∀res st',Like st st'→res.toList.Perm (a.toList++b.toList)→PW blt res.toList→Q res st'):wpS (model prog w) A E s (yu a b) Q st:=by
 have ma:∀i,i<a.size→g a i∈a₀:=λi hi=>hm _ (by have:=qW hi;simp[this])
 have mb:∀i,i<b.size→g b i∈a₀:=λi hi=>hm _ (by have:=qW hi;simp[this])
 have bfirst:∀i,i<a.size→blt (g b 0) (g a i)=true:=λi hi=>by
  by_cases i0:i=0
  ·rw[i0];exact hfirst
  ·cases z:blt (g b 0) (g a i)with
   |true=>rfl
   |false=>
    have f:blt (g b 0) (g a 0)=false:=C.trans (oa 0 i (Q5 _) (by omega) hi) z
    rw[hfirst]at f
    cases f
 have chunkA:∀(out:Array Keyed) (na nb k:Nat),k≤na→na≤a.size→1≤nb→nb≤b.size→Hi blt (a.toList++b.toList) out.reverse.toList (a.toList.take na) (b.toList.take nb)→(∀i,k≤i→i<na→blt (g b (nb-1)) (g a i)=true)→
   Hi blt (a.toList++b.toList) (out++(a.extract k na).reverse).reverse.toList (a.toList.take k) (b.toList.take nb):=λout na nb k h1 h2 h3 h4 lo hk=>by
  have er:(out++(a.extract k na).reverse).reverse.toList=(a.extract k na).toList++out.reverse.toList:=by simp
  have pa:=jJ oa na
  rw[sL h1]at lo pa
  rw[er]
  refine lo.a pa λx hx y hy=>?_
  obtain⟨i,hi1,hi2,hi3,rfl⟩:=cO hy
  obtain⟨j,hj1,hj2,rfl⟩:=fv hx
  have l1:=C.of_lt (hk i hi1 hi2)
  by_cases ej:j=nb-1
  ·rw[ej];exact l1
  ·exact C.trans (ob j (nb-1) (Qg _) (by omega) (by omega)) l1
 have chunkB:∀(out:Array Keyed) (na nb k:Nat),k≤nb→nb≤b.size→1≤na→na≤a.size→Hi blt (a.toList++b.toList) out.reverse.toList (a.toList.take na) (b.toList.take nb)→(∀i,k≤i→i<nb→blt (g b i) (g a (na-1))=false)→
   Hi blt (a.toList++b.toList) (out++(b.extract k nb).reverse).reverse.toList (a.toList.take na) (b.toList.take k):=λout na nb k h1 h2 h3 h4 lo hk=>by
  have er:(out++(b.extract k nb).reverse).reverse.toList=(b.extract k nb).toList++out.reverse.toList:=by simp
  have pb:=jJ ob nb
  rw[sL h1]at lo pb
  rw[er]
  refine lo.b pb λx hx y hy=>?_
  obtain⟨i,hi1,hi2,hi3,rfl⟩:=cO hy
  obtain⟨j,hj1,hj2,rfl⟩:=fv hx
  have l1:le blt (g a (na-1)) (g b i):=hk i hi1 hi2
  by_cases ej:j=na-1
  ·rw[ej];exact l1
  ·exact C.trans (oa j (na-1) (Qg _) (by omega) (by omega)) l1
 have one:∀(x:Array Keyed) (i:Nat),i<x.size→(x.extract i (i+1)).reverse= #[g x i]:=λx i hi=>by
  have:x.extract i (i+1)= #[g x i]:=by
   apply Array.ext'
   rw[mf,pS hi]
   rfl
  rw[this]
  rfl
 have stepA:∀(out:Array Keyed) (na nb:Nat),1≤na→na≤a.size→1≤nb→nb≤b.size→Hi blt (a.toList++b.toList) out.reverse.toList (a.toList.take na) (b.toList.take nb)→blt (g b (nb-1)) (g a (na-1))=true→
   Hi blt (a.toList++b.toList) (out.push (g a (na-1))).reverse.toList (a.toList.take (na-1)) (b.toList.take nb):=λout na nb h1 h2 h3 h4 lo hk=>by
  have:=chunkA out na nb (na-1) (by omega) h2 h3 h4 lo λi hi hj=>by rw[show i=na-1 by omega];exact hk
  rwa [show a.extract (na-1) na=a.extract (na-1) (na-1+1) by rw[show na-1+1=na by omega],one a (na-1) (by omega),←Zz]at this
 have stepB:∀(out:Array Keyed) (na nb:Nat),1≤na→na≤a.size→1≤nb→nb≤b.size→Hi blt (a.toList++b.toList) out.reverse.toList (a.toList.take na) (b.toList.take nb)→blt (g b (nb-1)) (g a (na-1))=false→
   Hi blt (a.toList++b.toList) (out.push (g b (nb-1))).reverse.toList (a.toList.take na) (b.toList.take (nb-1)):=λout na nb h1 h2 h3 h4 lo hk=>by
  have:=chunkB out na nb (nb-1) (by omega) h4 h1 h2 lo λi hi hj=>by rw[show i=nb-1 by omega];exact hk
  rwa [show b.extract (nb-1) nb=b.extract (nb-1) (nb-1+1) by rw[show nb-1+1=nb by omega],one b (nb-1) (by omega),←Zz]at this
 have endA:∀(out:Array Keyed) (na nb:Nat) (st':SortSt),Like st st'→na=0→nb≤b.size→Hi blt (a.toList++b.toList) out.reverse.toList (a.toList.take na) (b.toList.take nb)→Q (a.extract 0 na++b.extract 0 nb++out.reverse) st':=λout na nb st' lk hn hb2 lo=>by
  subst hn
  have e:(a.extract 0 0++b.extract 0 nb++out.reverse).toList=b.toList.take nb++out.reverse.toList:=by
   rw[Qw,Qw,AG,AG]
   rfl
  refine h _ st' lk ?_ ?_
  ·rw[e];exact lo.perm
  ·rw[e];exact Qc.mpr ⟨jJ ob nb,lo.srt,λx hx y hy=>lo.high x (by simp[hx]) y hy⟩
 have endB:∀(out:Array Keyed) (na nb:Nat) (st':SortSt),Like st st'→nb=1→na≤a.size→Hi blt (a.toList++b.toList) out.reverse.toList (a.toList.take na) (b.toList.take nb)→Q (b.extract 0 nb++a.extract 0 na++out.reverse) st':=λout na nb st' lk hn ha2 lo=>by
  subst hn
  have e:(b.extract 0 1++a.extract 0 na++out.reverse).toList=(b.toList.take 1++a.toList.take na)++out.reverse.toList:=by
   rw[Qw,Qw,AG,AG]
  refine h _ st' lk ?_ ?_
  ·rw[e];exact List.Perm.trans (List.Perm.append_right _ Zv) lo.perm
  ·rw[e]
   refine Qc.mpr ⟨Qc.mpr ⟨jJ ob 1,jJ oa na,λx hx y hy=>?_⟩,lo.srt,λx hx y hy=>lo.high x ?_ y hy⟩
   ·obtain⟨i,hi1,hi2,rfl⟩:=fv hx
    obtain⟨j,hj1,hj2,rfl⟩:=fv hy
    rw[show i=0 by omega]
    exact C.of_lt (bfirst j hj2)
   ·rcases Q4.mp hx with z|z
    ·exact Q4.mpr (.inr z)
    ·exact Q4.mpr (.inl z)
 have monoA:∀(ka:Nat) (x:Keyed) (i j:Nat),i≤j→ka+j<a.size→(!blt x (g a (ka+j)))=true→(!blt x (g a (ka+i)))=true:=λka x i j h1 h2 h3=>by
  have h3:blt x (g a (ka+j))=false:=by simpa using h3
  by_cases e:i=j
  ·subst e;simpa using h3
  ·have:=C.trans (oa (ka+i) (ka+j) (Qg _) (by omega) h2) h3
   simpa using this
 have monoB:∀(kb:Nat) (x:Keyed) (i j:Nat),i≤j→kb+j<b.size→blt (g b (kb+j)) x=true→blt (g b (kb+i)) x=true:=λkb x i j h1 h2 h3=>by
  by_cases e:i=j
  ·subst e;exact h3
  ·have q:=ob (kb+i) (kb+j) (Qg _) (by omega) h2
   cases z:blt (g b (kb+i)) x with
   |true=>rfl
   |false=>
    have f:blt (g b (kb+j)) x=false:=C.trans z q
    rw[h3]at f
    cases f
 refine wpS_bind ?_
 dsimp only
 refine wpS_lift (wpAny_rule ⟨rfl,?_⟩)
 refine wpS_bind (bp (by omega) ?_)
 have start:Hi blt (a.toList++b.toList) (#[g a (a.size-1)]:Array Keyed).reverse.toList (a.toList.take (a.size-1)) (b.toList.take b.size):=by
  have l0:Hi blt (a.toList++b.toList) [] (a.toList.take (a.size-1)++ [g a (a.size-1)]) (b.toList.take b.size):=by
   refine⟨?_,List.Pairwise.nil,λx _ y hy=>absurd hy Z8⟩
   rw[←xV (by omega),show a.size-1+1=a.size by omega,ZU]
   have e1:a.toList.take a.size=a.toList:=QB (by rw[Q6];exact Q5 _)
   have e2:b.toList.take b.size=b.toList:=QB (by rw[Q6];exact Q5 _)
   rw[e1,e2]
  have:=l0.a (by rw[←xV (by omega)];exact jJ oa _) (λx hx y hy=>by
   rw[Q8.mp hy]
   obtain⟨j,_,hj,rfl⟩:=fv hx
   exact C.of_lt (hlast j hj))
  exact this
 by_cases a1:a.size-1=0
 ·rw[if_pos (beq_iff_eq.mpr a1)]
  exact wpS_pure (endA _ (a.size-1) b.size st (Like.refl _) a1 (Q5 _) start)
 ·rw[if_neg (by simpa using a1)]
  by_cases b1:b.size=1
  ·rw[if_pos (beq_iff_eq.mpr b1)]
   exact wpS_pure (endB _ (a.size-1) b.size st (Like.refl _) b1 (by omega) start)
  ·rw[if_neg (by simpa using b1)]
   refine wpS_bind (wpS_get ?_)
   refine wpS_bind (wpS_mono (wpS_forRange (I:=λi c st'=>Like st st'∧∃na nb out mg,c=(none,na,nb,out,mg)∧1≤na∧na≤a.size∧2≤nb∧nb≤b.size∧na+nb+i≤a.size+b.size∧Hi blt (a.toList++b.toList) out.reverse.toList (a.toList.take na) (b.toList.take nb))
    (Q:=λc st'=>∃res,c.1=some res∧Q res st') ?_ ?_ ⟨Like.refl _,_,_, #[g a (a.size-1)],_,rfl,by omega,by omega,by omega,Q5 _,by omega,start⟩) ?_)
   ·rintro i c st' hi1 hi2 ⟨lk,na,nb,out,mg,rfl,ha1,ha2,hb1,hb2,hi,lo⟩
    have hK':kindOf st'=κ:=lk.kind.trans hK
    refine wpS_bind (wpS_mono (wpS_forRange (I:=λj c st2=>st2=st'∧∃ja jb out p q,c=(none,ja,jb,out,p,q)∧1≤ja∧ja≤a.size∧2≤jb∧jb≤b.size∧ja+jb≤na+nb∧Hi blt (a.toList++b.toList) out.reverse.toList (a.toList.take ja) (b.toList.take jb))
     (Q:=λc st2=>st2=st'∧((∃res,c.1=some res∧Q res st')∨∃ja jb out p q,c=(none,ja,jb,out,p,q)∧1≤ja∧ja≤a.size∧2≤jb∧jb≤b.size∧ja+jb≤na+nb∧Hi blt (a.toList++b.toList) out.reverse.toList (a.toList.take ja) (b.toList.take jb))) ?_ ?_
     ⟨rfl,na,nb,out,0,0,rfl,ha1,ha2,hb1,hb2,Q5 _,lo⟩) ?_)
    ·rintro j c st2 hj1 hj2 ⟨rfl,ja,jb,out,p,q,rfl,hja,hja2,hjb,hjb2,hij,lo⟩
     dsimp only
     refine wpS_bind (bp (by omega) (wpS_bind (bp (by omega) (wpS_bind (L _ _ _ _ (mb (jb-1) (by omega)) (ma (ja-1) (by omega)) hK' ?_)))))
     dsimp only
     cases e:blt (g b (jb-1)) (g a (ja-1))with
     |true=>
      rw[if_pos rfl]
      have lo':=stepA out ja jb (by omega) hja2 (by omega) hjb2 lo e
      refine wpS_bind (bp (by omega) ?_)
      by_cases z:ja-1=0
      ·rw[if_pos (beq_iff_eq.mpr z)]
       exact wpS_pure ⟨rfl,.inl ⟨_,rfl,endA _ (ja-1) jb _ lk z hjb2 lo'⟩⟩
      ·rw[if_neg (by simpa using z)]
       by_cases y:p+1≥mg
       ·rw[if_pos y]
        exact wpS_pure ⟨rfl,.inr ⟨_,_,_,_,_,rfl,by omega,by omega,hjb,hjb2,by omega,lo'⟩⟩
       ·rw[if_neg y]
        exact wpS_pure ⟨rfl,_,_,_,_,_,rfl,by omega,by omega,hjb,hjb2,by omega,lo'⟩
     |false=>
      rw[if_neg (by decide)]
      have lo':=stepB out ja jb (by omega) hja2 (by omega) hjb2 lo e
      refine wpS_bind (bp (by omega) ?_)
      by_cases z:jb-1=1
      ·rw[if_pos (beq_iff_eq.mpr z)]
       exact wpS_pure ⟨rfl,.inl ⟨_,rfl,endB _ ja (jb-1) _ lk z hja2 lo'⟩⟩
      ·rw[if_neg (by simpa using z)]
       by_cases y:q+1≥mg
       ·rw[if_pos y]
        exact wpS_pure ⟨rfl,.inr ⟨_,_,_,_,_,rfl,hja,hja2,by omega,by omega,by omega,lo'⟩⟩
       ·rw[if_neg y]
        exact wpS_pure ⟨rfl,_,_,_,_,_,rfl,hja,hja2,by omega,by omega,by omega,lo'⟩
    ·rintro c st2 ⟨rfl,ja,jb,out,p,q,rfl,hja,hja2,hjb,hjb2,hij,lo⟩
     exact⟨rfl,.inr ⟨_,_,_,_,_,rfl,hja,hja2,hjb,hjb2,hij,lo⟩⟩
    ·rintro ⟨r,c⟩ st2 ⟨rfl,⟨res,e,q⟩|⟨ja,jb,out,p,q,e,hja,hja2,hjb,hjb2,hij,lo⟩⟩
     ·dsimp only at e
      subst e
      exact wpS_pure ⟨res,rfl,q⟩
     ·obtain⟨rfl,rfl⟩:=Prod.mk.inj e
      dsimp only
      refine wpS_bind (wpS_lift (wpAny_rule ⟨rfl,?_⟩))
      refine wpS_bind (wpS_mono (wpS_forRange (I:=λj c st3=>Like st st3∧∃ka kb out m' p q,c=(none,ka,kb,out,m',p,q)∧1≤ka∧ka≤a.size∧2≤kb∧kb≤b.size∧ka+kb+j≤na+nb∧Hi blt (a.toList++b.toList) out.reverse.toList (a.toList.take ka) (b.toList.take kb))
       (Q:=λc st3=>Like st st3∧((∃res,c.1=some res∧Q res st3)∨∃ka kb out m' p q,c=(none,ka,kb,out,m',p,q)∧1≤ka∧ka≤a.size∧2≤kb∧kb≤b.size∧ka+kb+1≤na+nb∧Hi blt (a.toList++b.toList) out.reverse.toList (a.toList.take ka) (b.toList.take kb))) ?_ ?_
       ⟨lk,ja,jb,out,_,_,_,rfl,hja,hja2,hjb,hjb2,by omega,lo⟩) ?_)
      ·rintro j c st3 hj1 hj2 ⟨lk3',ka,kb,out,m',p,q,rfl,hka,hka2,hkb,hkb2,hij,lo⟩
       dsimp only
       by_cases m1:m'>1
       case' pos=>rw[if_pos m1]
       case' neg=>rw[if_neg m1]
       all_goals
        refine wpS_bind (xL λst4 lk3=>?_)
        have lk4:Like st st4:=⟨lk3.kind.trans lk3'.kind,lk3.arr.trans lk3'.arr,lk3.pend.trans lk3'.pend,lk3.fail.trans lk3'.fail⟩
        have hK4:kindOf st4=κ:=lk4.kind.trans hK
        refine wpS_bind (bp (by omega) ?_)
        refine wpS_bind (eK L hK4 (mb (kb-1) (by omega)) (λi hi=>⟨by omega,ma _ (by omega)⟩) (by omega) (λi=>!blt (g b (kb-1)) (g a (0+i))) (λi hi=>rfl) (λi j h1 h2 h3=>monoA 0 _ i j h1 (by omega) h3) λk hk1 hk2 hk3=>?_)
        dsimp only
        have hk2':∀i,i<k→blt (g b (kb-1)) (g a i)=false:=λi hi=>by have f:=hk2 i hi;rw[Xb]at f;simpa using f
        have hk3':∀i,k≤i→i<ka→blt (g b (kb-1)) (g a i)=true:=λi hi hj=>by have f:=hk3 i hi hj;rw[Xb]at f;simpa using f
        have lo1:=lo
        by_cases k0:ka-k>0
        case' pos=>
         rw[if_pos k0]
         replace lo1:=chunkA out ka kb k (by omega) (by omega) (by omega) (by omega) lo hk3'
         by_cases z:k=0
         case pos=>
          rw[if_pos (beq_iff_eq.mpr z)]
          exact wpS_pure ⟨lk4,.inl ⟨_,rfl,endA _ k kb _ lk4 z (by omega) lo1⟩⟩
         rw[if_neg (by simpa using z)]
        case' neg=>
         rw[if_neg k0]
         have e0:k=ka:=by omega
         subst e0
        all_goals
         refine wpS_bind (bp (by omega) ?_)
         have lo2:=stepB _ k kb (by omega) (by omega) (by omega) (by omega) lo1 (hk2' (k-1) (by omega))
         by_cases z2:kb-1=1
         case pos=>
          rw[if_pos (beq_iff_eq.mpr z2)]
          exact wpS_pure ⟨lk4,.inl ⟨_,rfl,endB _ k (kb-1) _ lk4 z2 (by omega) lo2⟩⟩
         rw[if_neg (by simpa using z2)]
         refine wpS_bind (bp (by omega) ?_)
         refine wpS_bind (eK L hK4 (ma _ (by omega)) (λi hi=>⟨by omega,mb _ (by omega)⟩) (by omega) (λi=>blt (g b (0+i)) (g a (k-1))) (λi hi=>rfl) (λi j h1 h2 h3=>monoB 0 _ i j h1 (by omega) h3) λk2 h1 h2 h3=>?_)
         dsimp only
         have k2p:0<k2:=by
          rcases Zc k2 with z|z
          ·have f:blt (g b (0+0)) (g a (k-1))=false:=h3 0 (by omega) (by omega)
           rw[ZR,bfirst (k-1) (by omega)]at f
           cases f
          ·exact z
         have h2':∀i,i<k2→blt (g b i) (g a (k-1))=true:=λi hi=>by have f:=h2 i hi;rwa [Xb]at f
         have h3':∀i,k2≤i→i<kb-1→blt (g b i) (g a (k-1))=false:=λi hi hj=>by have f:=h3 i hi hj;rwa [Xb]at f
         have lo3:=lo2
         by_cases q0:kb-1-k2>0
         case' pos=>
          rw[if_pos q0]
          replace lo3:=chunkB _ k (kb-1) k2 (by omega) (by omega) (by omega) (by omega) lo2 h3'
          by_cases z3:k2=1
          case pos=>
           rw[if_pos (beq_iff_eq.mpr z3)]
           exact wpS_pure ⟨lk4,.inl ⟨_,rfl,endB _ k k2 _ lk4 z3 (by omega) lo3⟩⟩
          have zz:¬k2=0:=by omega
          rw[if_neg (by simpa using z3),if_neg (by simpa using zz)]
         case' neg=>
          rw[if_neg q0]
          have e2:kb-1=k2:=by omega
          rw[e2]at lo3⊢
         all_goals
          refine wpS_bind (bp (by omega) ?_)
          have lo4:=stepA _ k k2 (by omega) (by omega) (by omega) (by omega) lo3 (h2' (k2-1) (by omega))
          by_cases z4:k-1=0
          case pos=>
           rw[if_pos (beq_iff_eq.mpr z4)]
           exact wpS_pure ⟨lk4,.inl ⟨_,rfl,endA _ (k-1) k2 _ lk4 z4 (by omega) lo4⟩⟩
          rw[if_neg (by simpa using z4)]
          split
          ·exact wpS_pure ⟨lk4,.inr ⟨_,_,_,_,_,_,rfl,by omega,by omega,by omega,by omega,by omega,lo4⟩⟩
          ·exact wpS_pure ⟨lk4,_,_,_,_,_,_,rfl,by omega,by omega,by omega,by omega,by omega,lo4⟩
      ·rintro c st3 ⟨lk3,ka,kb,out,m',p,q,rfl,hka,hka2,hkb,hkb2,hij,lo⟩
       have em:max 0 (a.size+b.size)=a.size+b.size:=QA (Qg _)
       rw[em]at hij
       omega
      ·rintro ⟨r,c⟩ st3 ⟨lk3,⟨res,e,q⟩|⟨ka,kb,out,m',p,q,e,hka,hka2,hkb,hkb2,hij,lo⟩⟩
       ·dsimp only at e
        subst e
        exact wpS_pure ⟨res,rfl,q⟩
       ·obtain⟨rfl,rfl⟩:=Prod.mk.inj e
        dsimp only
        refine wpS_bind (wpS_modify (wpS_pure ⟨⟨lk3.kind,lk3.arr,lk3.pend,lk3.fail⟩,_,_,_,_,rfl,hka,hka2,hkb,hkb2,by omega,lo⟩))
   ·rintro c st' ⟨lk,na,nb,out,mg,rfl,ha1,ha2,hb1,hb2,hi,lo⟩
    have em:max 0 (a.size+b.size)=a.size+b.size:=QA (Qg _)
    rw[em]at hi
    omega
   ·rintro ⟨r,c⟩ st' ⟨res,e,q⟩
    dsimp only at e
    subst e
    exact wpS_pure q
end
end Srt
namespace Srt
open PySem PyProof.Rows
section
variable {blt:Keyed→Keyed→Bool}
def lay (arr:Array Keyed) (at_:Nat) (m:Array Keyed):Array Keyed:=m.toList.zipIdx.foldl (λa p=>a.setIfInBounds (at_+p.2) p.1) arr
theorem yD:∀(l:List Keyed) (j:Nat) (arr:Array Keyed) (at_:Nat),at_+j+l.length≤arr.size→
  ((l.zipIdx j).foldl (λa p=>a.setIfInBounds (at_+p.2) p.1) arr).toList=arr.toList.take (at_+j)++l++arr.toList.drop (at_+j+l.length)
 | [],j,arr,at_,h=>by simp
 |x::l,j,arr,at_,h=>by
  rw[List.zipIdx_cons,List.foldl_cons]
  have hl:at_+j<arr.size:=by simp at h;omega
  have ih:=yD l (j+1) (arr.setIfInBounds (at_+j) x) at_ (by simp at h⊢;omega)
  rw[ih,Xm]
  have e1:(arr.toList.set (at_+j) x).take (at_+(j+1))=arr.toList.take (at_+j)++ [x]:=by
   rw[show at_+(j+1)=at_+j+1 by omega,Zu,List.take_set_of_le (Q5 _),Zq (by rw[Q6];exact hl)]
   rfl
  have e2:(arr.toList.set (at_+j) x).drop (at_+(j+1)+l.length)=arr.toList.drop (at_+j+(x::l).length):=by
   rw[List.drop_set_of_lt (by omega)]
   congr 1
   simp
   omega
  rw[e1,e2,Qk,Qk,Qk]
  rfl
theorem tQ {arr m:Array Keyed} {at_:Nat} (h:at_+m.size≤arr.size):(lay arr at_ m).toList=arr.toList.take at_++m.toList++arr.toList.drop (at_+m.size):=by
 have:=yD m.toList 0 arr at_ (by simpa using h)
 simpa[lay]using this
theorem sj (xs:Array Keyed) (k:Nat):g xs k=(xs.toList[k]?).getD dk:=by unfold g;rw[Qp]
theorem Dt {arr m:Array Keyed} {at_:Nat} (h:at_+m.size≤arr.size) (k:Nat):g (lay arr at_ m) k=if at_≤k∧k<at_+m.size then g m (k-at_)else g arr k:=by
 rw[sj,tQ h]
 have l1:(arr.toList.take at_).length=at_:=by rw[Qm,Q6];omega
 by_cases a:k<at_
 ·rw[if_neg (by omega),Qk,QZ (by omega),List.getElem?_take_of_lt a,←sj]
 ·by_cases b:k<at_+m.size
  ·rw[if_pos ⟨by omega,b⟩,Qk,QW (by omega),l1,QZ (by rw[Q6];omega),←sj]
  ·rw[if_neg (by omega),QW (by rw[Qa,l1,Q6];omega),Qa,l1,Q6,ZG,show at_+m.size+(k-(at_+m.size))=k by omega,←sj]
theorem yC {arr m:Array Keyed} {at_:Nat} (h:at_+m.size≤arr.size) (p:m.toList.Perm ((arr.toList.drop at_).take m.size)):(lay arr at_ m).Perm arr:=by
 rw[Xn,tQ h]
 have e:arr.toList=arr.toList.take at_++((arr.toList.drop at_).take m.size++arr.toList.drop (at_+m.size)):=by
  rw[←Xl,QC,QC]
 refine List.Perm.trans ?_ (List.Perm.of_eq e.symm)
 rw[Qk]
 exact List.Perm.append_left _ (List.Perm.append_right _ p)
theorem j6 {arr:Array Keyed} {i n:Nat} (h:n≤arr.size) {k:Nat} (hk:k<n-i):g (arr.extract i n) k=g arr (i+k):=by
 unfold g
 rw[Array.getElem?_extract,if_pos (by omega)]
theorem oR {arr:Array Keyed} {i n:Nat} (h:n≤arr.size):(arr.extract i n).size=n-i:=by rw[Array.size_extract];omega
theorem rT {arr:Array Keyed} {i n:Nat} (h:n≤arr.size) (o:On blt arr i n):On blt (arr.extract i n) 0 (arr.extract i n).size:=λa b _ hab hb=>by
 rw[oR h]at hb
 rw[j6 h (by omega),j6 h hb]
 exact o _ _ (by omega) (by omega) (by omega)
end
section
variable {prog:Program} {w:World} {A:Around} {E:Value→Shared→Prop} {s:Shared} {a₀:Array Keyed} {κ:SortKind} {blt:Keyed→Keyed→Bool}
theorem zU {x st:SortSt} {Q:PUnit→SortSt→Prop} (h:Q ⟨⟩ x):wpS (model prog w) A E s (set x:StateT SortSt Sem PUnit) Q st:=by
 unfold wpS;rw[StateT.run_set];exact wpAny_pure ⟨rfl,h⟩
variable (L:t8 prog w A E s a₀ κ blt)
include L
theorem ul {st:SortSt} {i sa na pa sb nb pb:Nat} {Q:Bool→SortSt→Prop} (C:Cmp blt) (B:Base a₀ κ st) (hi:(pendingOf st)[i]?=some (sa,na,pa)) (hj:(pendingOf st)[i+1]?=some (sb,nb,pb)) (hb:sb=sa+na) (h1:1≤na) (h2:1≤nb) (hz:sb+nb≤a₀.size)
  (oa:On blt (arrOf st) sa (sa+na)) (ob:On blt (arrOf st) sb (sb+nb))
  (h:∀st',Base a₀ κ st'→pendingOf st'=((pendingOf st).setIfInBounds i (sa,na+nb,pa)).eraseIdxIfInBounds (i+1)→On blt (arrOf st') sa (sa+(na+nb))→(∀k,k<sa∨sa+(na+nb)≤k→g (arrOf st') k=g (arrOf st) k)→Q true st'):
  wpS (model prog w) A E s (mergeAt' i) Q st:=by
 subst hb
 have hsz:=B.size
 have hsz':((sortPriv%PySem.Builtin.SortState.a) st).size=a₀.size:=B.size
 refine wpS_bind (wpS_get ?_)
 dsimp only
 rw[hi,hj]
 dsimp only
 refine wpS_bind (zU ?_)
 have B1:Base a₀ κ (SortSt.mk' (kindOf st) (arrOf st) (((pendingOf st).setIfInBounds i (sa,na+nb,pa)).eraseIdxIfInBounds (i+1)) (gallopOf st) (failedOf st)):=⟨B.kind,B.fine,B.perm⟩
 refine wpS_bind (bp (by omega) ?_)
 refine wpS_bind (eK L B1.kind (B.mem (by omega)) (λj hj=>⟨by omega,B.mem (by omega)⟩) (by omega) (λj=>!blt (g (arrOf st) (sa+na)) (g (arrOf st) (sa+j))) (λj hj=>rfl) (λx y h3 h4 h5=>?_) λk hk1 hk2 hk3=>?_)
 ·have h5:blt (g (arrOf st) (sa+na)) (g (arrOf st) (sa+y))=false:=by simpa using h5
  by_cases e:x=y
  ·subst e;simpa using h5
  ·have:=C.trans (oa (sa+x) (sa+y) (by omega) (by omega) (by omega)) h5
   simpa using this
 ·dsimp only
  have low:∀j,j<k→le blt (g (arrOf st) (sa+j)) (g (arrOf st) (sa+na)):=λj hj=>by have:=hk2 j hj;simpa using this
  have up:∀j,k≤j→j<na→blt (g (arrOf st) (sa+na)) (g (arrOf st) (sa+j))=true:=λj hj hj2=>by have:=hk3 j hj hj2;simpa using this
  have lowB:∀j x,j<k→sa+na≤x→x<sa+na+nb→le blt (g (arrOf st) (sa+j)) (g (arrOf st) x):=λj x hj hx hx2=>by
   by_cases e:x=sa+na
   ·rw[e];exact low j hj
   ·exact C.trans (low j hj) (ob (sa+na) x (Q5 _) (by omega) hx2)
  by_cases n0:na-k=0
  ·rw[if_pos (beq_iff_eq.mpr n0)]
   refine wpS_pure (h _ B1 rfl (λx y hx hxy hy=>?_) λ_ _=>rfl)
   by_cases c:y<sa+na
   ·exact oa x y hx hxy c
   ·by_cases d:x<sa+na
    ·have:=lowB (x-sa) y (by omega) (by omega) (by omega)
     rwa [show sa+(x-sa)=x by omega]at this
    ·exact ob x y (by omega) hxy (by omega)
  ·rw[if_neg (by simpa using n0)]
   refine wpS_bind (bp (by omega) ?_)
   rw[show sa+k+(na-k)-1=sa+na-1 by omega]
   refine wpS_bind (eK L B1.kind (B.mem (by omega)) (λj hj=>⟨by omega,B.mem (by omega)⟩) (by omega) (λj=>blt (g (arrOf st) (sa+na+j)) (g (arrOf st) (sa+na-1))) (λj hj=>rfl) (λx y h3 h4 h5=>?_) λm hm1 hm2 hm3=>?_)
   ·by_cases e:x=y
    ·subst e;exact h5
    ·cases z:blt (g (arrOf st) (sa+na+x)) (g (arrOf st) (sa+na-1))with
     |true=>rfl
     |false=>
      have f:blt (g (arrOf st) (sa+na+y)) (g (arrOf st) (sa+na-1))=false:=C.trans z (ob (sa+na+x) (sa+na+y) (by omega) (by omega) (by omega))
      rw[h5]at f
      cases f
   ·dsimp only
    have hk2':∀j,j<m→blt (g (arrOf st) (sa+na+j)) (g (arrOf st) (sa+na-1))=true:=hm2
    have first:blt (g (arrOf st) (sa+na+0)) (g (arrOf st) (sa+k+0))=true:=by
     rw[ZR,ZR];exact up k (Q5 _) (by omega)
    have mp:0<m:=by
     rcases Zc m with z|z
     ·have f:blt (g (arrOf st) (sa+na+0)) (g (arrOf st) (sa+na-1))=false:=hm3 0 (by omega) (by omega)
      have q:=up (na-1) (by omega) (by omega)
      rw[show sa+(na-1)=sa+na-1 by omega]at q
      rw[ZR,q]at f
      cases f
     ·exact z
    have high:∀x,sa+na+m≤x→x<sa+na+nb→le blt (g (arrOf st) (sa+na-1)) (g (arrOf st) x):=λx hx hx2=>by
     have f:blt (g (arrOf st) (sa+na+(x-(sa+na)))) (g (arrOf st) (sa+na-1))=false:=hm3 (x-(sa+na)) (by omega) (by omega)
     rwa [show sa+na+(x-(sa+na))=x by omega]at f
    have highA:∀y x,sa≤y→y<sa+na→sa+na+m≤x→x<sa+na+nb→le blt (g (arrOf st) y) (g (arrOf st) x):=λy x hy hy2 hx hx2=>by
     by_cases e:y=sa+na-1
     ·rw[e];exact high x hx hx2
     ·exact C.trans (oa y (sa+na-1) hy (by omega) (by omega)) (high x hx hx2)
    rw[if_neg (by have:¬m=0:=by omega
                  simpa using this)]
    have sx:((arrOf st).extract (sa+k) (sa+na)).size=sa+na-(sa+k):=oR (by omega)
    have sy:((arrOf st).extract (sa+na) (sa+na+m)).size=sa+na+m-(sa+na):=oR (by omega)
    have oa':On blt (arrOf st) (sa+k) (sa+na):=oa.sub (by omega) (by omega)
    have ob':On blt (arrOf st) (sa+na) (sa+na+m):=ob.sub (by omega) (by omega)
    have tail:∀(res:Array Keyed) (st2:SortSt),Like (SortSt.mk' (kindOf st) (arrOf st) (((pendingOf st).setIfInBounds i (sa,na+nb,pa)).eraseIdxIfInBounds (i+1)) (gallopOf st) (failedOf st)) st2→res.toList.Perm (((arrOf st).extract (sa+k) (sa+na)).toList++((arrOf st).extract (sa+na) (sa+na+m)).toList)→PW blt res.toList→
      wpS (model prog w) A E s (modify (λs=>SortSt.mk' (kindOf s) (lay (arrOf s) (sa+k) res) (pendingOf s) (gallopOf s) (failedOf s))>>=λ_=>get>>=λx=>pure (failedOf x).isNone) Q st2:=λres st2 lk pm pw=>by
     have rs:res.size=na-k+m:=by
      have:=pm.length_eq
      rw[Qa,Q6,Q6,Q6,sx,sy]at this
      omega
     have rm:∀j,j<res.size→∃x,sa+k≤x∧x<sa+na+m∧g res j=g (arrOf st) x:=λj hj=>by
      have mem:g res j∈res.toList:=by have:=qW hj;simpa using this
      rcases Q4.mp (pm.mem_iff.mp mem)with q|q
      ·obtain⟨x,x1,x2,_,x4⟩:=cO q
       exact⟨x,by omega,by omega,x4⟩
      ·obtain⟨x,x1,x2,_,x4⟩:=cO q
       exact⟨x,by omega,by omega,x4⟩
     have fit:sa+k+res.size≤(arrOf st2).size:=by rw[lk.arr];show sa+k+res.size≤(arrOf st).size;omega
     refine wpS_bind (wpS_modify ?_)
     refine wpS_bind (wpS_get (wpS_pure ?_))
     have hg:∀x,g (lay (arrOf st2) (sa+k) res) x=if sa+k≤x∧x<sa+k+res.size then g res (x-(sa+k))else g (arrOf st) x:=λx=>by
      rw[Dt fit,lk.arr]
     have ef:(failedOf st2).isNone=true:=by
      rw[lk.fail];show(failedOf st).isNone=true;rw[B.fine];rfl
     show Q (failedOf st2).isNone _
     rw[ef]
     have on:=ym pw
     refine h _ ⟨lk.kind.trans B.kind,lk.fail.trans B.fine,?_⟩ lk.pend ?_ ?_
     ·refine(yC fit ?_).trans (by rw[lk.arr];exact B.perm)
      rw[lk.arr]
      show res.toList.Perm (((arrOf st).toList.drop (sa+k)).take res.size)
      refine pm.trans (List.Perm.of_eq ?_)
      rw[QS,QS,QG,QG,rs,show sa+na-(sa+k)=na-k by omega,show sa+na+m-(sa+na)=m by omega,List.take_add,Xl,show sa+k+(na-k)=sa+na by omega]
     ·intro x y hx hxy hy
      show le blt (g (lay (arrOf st2) (sa+k) res) x) (g (lay (arrOf st2) (sa+k) res) y)
      rw[hg x,hg y]
      by_cases y1:sa+k≤y∧y<sa+k+res.size
      ·rw[if_pos y1]
       by_cases x1:sa+k≤x∧x<sa+k+res.size
       ·rw[if_pos x1]
        exact on _ _ (Qg _) (by omega) (by omega)
       ·rw[if_neg x1]
        obtain⟨z,z1,z2,z3⟩:=rm (y-(sa+k)) (by omega)
        rw[z3]
        by_cases zz:z<sa+na
        ·exact oa x z hx (by omega) zz
        ·have:=lowB (x-sa) z (by omega) (by omega) (by omega)
         rwa [show sa+(x-sa)=x by omega]at this
      ·rw[if_neg y1]
       by_cases x1:sa+k≤x∧x<sa+k+res.size
       ·rw[if_pos x1]
        obtain⟨z,z1,z2,z3⟩:=rm (x-(sa+k)) (by omega)
        rw[z3]
        by_cases zz:z<sa+na
        ·exact highA z y (by omega) zz (by omega) (by omega)
        ·exact ob z y (by omega) (by omega) (by omega)
       ·rw[if_neg x1]
        by_cases yy:y<sa+na
        ·exact oa x y hx hxy yy
        ·by_cases xx:x<sa+na
         ·exact highA x y hx xx (by omega) (by omega)
         ·exact ob x y (by omega) hxy (by omega)
     ·intro x hx
      show g (lay (arrOf st2) (sa+k) res) x=g (arrOf st) x
      rw[hg x,if_neg (by omega)]
    by_cases c:na-k≤m
    ·rw[if_pos c]
     refine wpS_bind (uj L C B1.kind (λx hx=>?_) (rT (by omega) oa') (rT (by omega) ob') (by rw[sx];omega) (by rw[sy];omega) ?_ ?_ λres st2 lk pm pw=>?_)
     ·rcases Q4.mp hx with q|q
      ·obtain⟨j,_,_,hj3,rfl⟩:=cO q
       exact B.mem (by omega)
      ·obtain⟨j,_,_,hj3,rfl⟩:=cO q
       exact B.mem (by omega)
     ·rw[j6 (by omega) (by omega),j6 (by omega) (by omega)]
      exact first
     ·intro j hj
      rw[sy]at hj
      rw[sx,j6 (by omega) (by omega),j6 (by omega) (by omega),show sa+k+(sa+na-(sa+k)-1)=sa+na-1 by omega]
      exact hk2' j (by omega)
     ·exact tail res st2 lk pm pw
    ·rw[if_neg c]
     refine wpS_bind (uk L C B1.kind (λx hx=>?_) (rT (by omega) oa') (rT (by omega) ob') (by rw[sx];omega) (by rw[sy];omega) ?_ ?_ λres st2 lk pm pw=>?_)
     ·rcases Q4.mp hx with q|q
      ·obtain⟨j,_,_,hj3,rfl⟩:=cO q
       exact B.mem (by omega)
      ·obtain⟨j,_,_,hj3,rfl⟩:=cO q
       exact B.mem (by omega)
     ·rw[j6 (by omega) (by omega),j6 (by omega) (by omega)]
      exact first
     ·intro j hj
      rw[sy]at hj
      rw[sx,j6 (by omega) (by omega),j6 (by omega) (by omega),show sa+k+(sa+na-(sa+k)-1)=sa+na-1 by omega]
      exact hk2' j (by omega)
     ·exact tail res st2 lk pm pw
end
section
variable {blt:Keyed→Keyed→Bool}
def Stack (blt:Keyed→Keyed→Bool) (xs:Array Keyed):List (Nat×Nat×Nat)→Nat→Nat→Prop
 | [],f,t=>f=t
 |(st,len,_)::r,f,t=>st=f∧1≤len∧On blt xs st (st+len)∧Stack blt xs r (st+len) t
theorem Stack.le {xs:Array Keyed}:∀{l:List (Nat×Nat×Nat)} {f t:Nat},Stack blt xs l f t→f+l.length≤t
 | [],f,t,h=>by cases h;simp
 |(st,len,p)::r,f,t,h=>by
  obtain⟨rfl,h1,_,h3⟩:=h
  have:=Stack.le h3
  simp
  omega
theorem Stack.app {xs:Array Keyed}:∀{l r:List (Nat×Nat×Nat)} {f t:Nat},Stack blt xs (l++r) f t↔∃m,Stack blt xs l f m∧Stack blt xs r m t
 | [],r,f,t=>⟨λh=>⟨f,rfl,h⟩,λ⟨m,e,h⟩=>by cases e;exact h⟩
 |(st,len,p)::l,r,f,t=>by
  constructor
  ·rintro ⟨h1,h2,h3,h4⟩
   obtain⟨m,a,b⟩:=Stack.app.mp h4
   exact⟨m,⟨h1,h2,h3,a⟩,b⟩
  ·rintro ⟨m,⟨h1,h2,h3,a⟩,b⟩
   exact⟨h1,h2,h3,Stack.app.mpr ⟨m,a,b⟩⟩
theorem Stack.congr {xs ys:Array Keyed}:∀{l:List (Nat×Nat×Nat)} {f t:Nat},Stack blt xs l f t→(∀k,f≤k→k<t→g ys k=g xs k)→Stack blt ys l f t
 | [],f,t,h,_=>h
 |(st,len,p)::r,f,t,h,e=>by
  obtain⟨rfl,h1,h2,h3⟩:=h
  have:=h3.le
  exact⟨rfl,h1,h2.congr λk a b=>e k a (by omega),h3.congr λk a b=>e k (by omega) b⟩
theorem Stack.pw {xs:Array Keyed} {l:List (Nat×Nat×Nat)} {a b p q:Nat} {f t:Nat} (h:Stack blt xs (l++ [(a,b,p)]) f t):Stack blt xs (l++ [(a,b,q)]) f t:=by
 obtain⟨m,h1,h2⟩:=Stack.app.mp h
 exact Stack.app.mpr ⟨m,h1,h2⟩
theorem im {xs:Array Keyed} {p:Array (Nat×Nat×Nat)} {lo n q:Nat} (S:Stack blt xs p.toList 0 lo) (h:1≤n) (o:On blt xs lo (lo+n)):Stack blt xs (p.push (lo,n,q)).toList 0 (lo+n):=by
 rw[Xc]
 exact Stack.app.mpr ⟨lo,S,rfl,h,o,rfl⟩
theorem tJ {α:Type} (q:Array α) (x:α) (f:α→α):(q.push x).modify ((q.push x).size-1) f=q.push (f x):=by
 have e:(q.push x).size-1=q.size:=by simp
 rw[e]
 apply Array.ext
 ·simp
 ·intro i h1 h2
  rw[Array.getElem_modify]
  by_cases hi:q.size=i
  ·subst hi;simp
  ·rw[if_neg hi]
   have:i<q.size:=by simp at h2;omega
   rw[ZX this,ZX this]
theorem lW {xs:Array Keyed} {p:Array (Nat×Nat×Nat)} {lo pw:Nat} (z:1≤p.size) (S:Stack blt xs p.toList 0 lo):Stack blt xs (p.modify (p.size-1) λx=>(x.1,x.2.1,pw)).toList 0 lo:=by
 obtain⟨q,x,rfl⟩:∃q x,p=q.push x:=⟨p.pop,p[p.size-1],by
  apply Array.ext
  ·simp;omega
  ·intro i h1 h2
   by_cases hi:i<p.pop.size
   ·rw[ZX hi];simp
   ·have:i=p.size-1:=by simp at h2 hi;omega
    subst this
    rw[Array.getElem_push]
    rw[dif_neg (by simp)]⟩
 rw[tJ,Xc]
 rw[Xc]at S
 obtain⟨a,b,c⟩:=x
 exact S.pw
theorem xY {α:Type} {l:List α} {i:Nat} {x y:α} (h1:l[i]?=some x) (h2:l[i+1]?=some y):∃p r,l=p++x::y::r∧p.length=i:=by
 obtain⟨a1,e1⟩:=Q2.mp h1
 obtain⟨a2,e2⟩:=Q2.mp h2
 refine⟨l.take i,l.drop (i+2),?_,by rw[Qm];omega⟩
 have d1:=Z0 a1
 have d2:=Z0 a2
 rw[e1]at d1
 rw[e2]at d2
 calc l=l.take i++l.drop i:=(QC _ _).symm
  _=_:=by rw[d1,d2]
theorem yY {α:Type} {p r:List α} {x y v:α}:((p++x::y::r).set p.length v).eraseIdx (p.length+1)=p++v::r:=by
 rw[List.set_append_right _ _ (Q5 _),Nat.sub_self]
 rw[X5 (by omega),show p.length+1-p.length=1 by omega]
 rfl
end
section
variable {prog:Program} {w:World} {A:Around} {E:Value→Shared→Prop} {s:Shared} {a₀:Array Keyed} {κ:SortKind} {blt:Keyed→Keyed→Bool}
variable (L:t8 prog w A E s a₀ κ blt)
include L
theorem mt {st:SortSt} {i lo:Nat} {Q:Bool→SortSt→Prop} (C:Cmp blt) (B:Base a₀ κ st) (S:Stack blt (arrOf st) (pendingOf st).toList 0 lo) (hlo:lo≤a₀.size) (hi:i+1<(pendingOf st).size)
  (h:∀st',Base a₀ κ st'→Stack blt (arrOf st') (pendingOf st').toList 0 lo→(pendingOf st').size+1=(pendingOf st).size→(∀k,lo≤k→g (arrOf st') k=g (arrOf st) k)→Q true st'):
  wpS (model prog w) A E s (mergeAt' i) Q st:=by
 have q1:(pendingOf st)[i]?=some ((pendingOf st)[i]'(by omega)):=getElem?_pos _ _ _
 have q2:(pendingOf st)[i+1]?=some ((pendingOf st)[i+1]'hi):=getElem?_pos _ _ _
 obtain⟨⟨sa,na,pa⟩,e1⟩:∃x,x=(pendingOf st)[i]'(by omega):=⟨_,rfl⟩
 obtain⟨⟨sb,nb,pb⟩,e2⟩:∃x,x=(pendingOf st)[i+1]'hi:=⟨_,rfl⟩
 rw[←e1]at q1
 rw[←e2]at q2
 have t1:=q1
 have t2:=q2
 rw[←Qp]at t1 t2
 obtain⟨p,r,el,pl⟩:=xY t1 t2
 rw[el]at S
 obtain⟨m,S1,S2⟩:=Stack.app.mp S
 obtain⟨rfl,n1,o1,rfl,n2,o2,S3⟩:=S2
 have l3:=S3.le
 have l1:=S1.le
 refine ul L C B q1 q2 rfl n1 n2 (by omega) o1 o2 λst' B' hp on keep=>?_
 have ep:(pendingOf st').toList=p++(sa,na+nb,pa)::r:=by
  rw[hp,Array.toList_eraseIdxIfInBounds,Xm,el,←pl,yY]
 have kz:∀k,k<sa∨sa+na+nb≤k→g (arrOf st') k=g (arrOf st) k:=λk hk=>keep k (by omega)
 refine h st' B' ?_ ?_ λk hk=>kz k (by omega)
 ·rw[ep]
  refine Stack.app.mpr ⟨sa,S1.congr λk a b=>kz k (.inl b),rfl,by omega,on,?_⟩
  rw[show sa+(na+nb)=sa+na+nb by omega]
  exact S3.congr λk a b=>kz k (.inr a)
 ·have a:=congrArg List.length ep
  have b:=congrArg List.length el
  simp at a b
  omega
theorem sF {st:SortSt} {Q:Unit→SortSt→Prop} (C:Cmp blt) (B:Base a₀ κ st) (hp:pendingOf st= #[]) (h2:1≤a₀.size)
  (h:∀st',Base a₀ κ st'→On blt (arrOf st') 0 a₀.size→Q () st'):wpS (model prog w) A E s sortRuns' Q st:=by
 rw[sortRuns'_eq]
 refine wpS_bind (wpS_get ?_)
 dsimp only
 have hsz:=B.size
 rw[hsz]
 refine wpS_bind (wpS_mono (wpS_forRange
  (I:=λi c st'=>∃lo,c=(none,lo)∧i≤lo∧lo≤a₀.size∧Base a₀ κ st'∧Stack blt (arrOf st') (pendingOf st').toList 0 lo)
  (Q:=λc st'=>c=(none,a₀.size)∧Base a₀ κ st'∧Stack blt (arrOf st') (pendingOf st').toList 0 a₀.size) ?step ?fin ⟨0,rfl,Q5 _,Qg _,B,by rw[hp];exact rfl⟩) ?post)
 case fin=>
  rintro c st' ⟨lo,rfl,h1,h3,B',S⟩
  have em:max 0 a₀.size=a₀.size:=QA (Qg _)
  rw[em]at h1
  have e:lo=a₀.size:=by omega
  subst e
  exact⟨rfl,B',S⟩
 case step=>
  rintro i c st' _ hi ⟨lo,rfl,h1,h3,B',S⟩
  dsimp only
  by_cases z:lo≥a₀.size
  ·rw[if_pos z]
   have e:lo=a₀.size:=by omega
   subst e
   exact wpS_pure ⟨rfl,B',S⟩
  ·rw[if_neg z]
   refine wpS_bind (xM L C B' (by omega) (by omega) λn st2 B2 p2 m1 m2 O2 k2=>?_)
   dsimp only
   have S2:Stack blt (arrOf st2) (pendingOf st2).toList 0 lo:=by
    rw[p2]
    exact S.congr λk _ b=>k2 k b
   by_cases small:n<minRun' a₀.size a₀.size 0
   ·rw[if_pos small]
    refine wpS_bind (wpS_lift (wpAny_rule ⟨rfl,?_⟩))
    refine wpS_bind (wm L C B2 m1 (by omega) (by omega) O2 λst3 B3 p3 O3 k3=>?_)
    rw[if_neg (by decide)]
    have S3:Stack blt (arrOf st3) (pendingOf st3).toList 0 lo:=by
     rw[p3]
     exact S2.congr λk _ b=>k3 k b
    generalize hn:min (a₀.size-lo) (minRun' a₀.size a₀.size 0)=n' at O3
    have n1':1≤n':=by omega
    have n2':lo+n'≤a₀.size:=by omega
    refine wpS_bind (wpS_get ?_)
    cases eb:(pendingOf st3).back? with
    |none=>
     dsimp only
     exact wpS_bind (wpS_modify (wpS_pure ⟨lo+n',rfl,by omega,by omega,⟨B3.kind,B3.fine,B3.perm⟩,im S3 (by omega) O3⟩))
    |some tt=>
     obtain⟨s1,n1,p1⟩:=tt
     dsimp only
     have hsz3:1≤(pendingOf st3).size:=by
      rcases Zc (pendingOf st3).size with q|q
      ·rw[Array.size_eq_zero_iff.mp q]at eb
       cases eb
      ·exact q
     refine wpS_bind (wpS_mono (wpS_forRange (I:=λ_ c st4=>c=(none,())∧Base a₀ κ st4∧Stack blt (arrOf st4) (pendingOf st4).toList 0 lo∧On blt (arrOf st4) lo (lo+n')∧1≤(pendingOf st4).size)
      (Q:=λc st4=>c=(none,())∧Base a₀ κ st4∧Stack blt (arrOf st4) (pendingOf st4).toList 0 lo∧On blt (arrOf st4) lo (lo+n')∧1≤(pendingOf st4).size) ?_ (λ_ _ q=>q) ⟨rfl,B3,S3,O3,hsz3⟩) ?_)
     ·rintro j c st4 _ _ ⟨rfl,B4,S4,O4,z4⟩
      refine wpS_bind (wpS_get ?_)
      by_cases big:(pendingOf st4).size>1
      ·rw[if_pos big,getElem?_pos (pendingOf st4) ((pendingOf st4).size-2) (by omega)]
       obtain⟨⟨u1,u2,older⟩,eu⟩:∃x,x=(pendingOf st4)[(pendingOf st4).size-2]'(by(clear big hsz3 eb n2' n1' hn p3 small m2 m1 p2 z h3 h1 hi hsz h2 hp;omega (config:={}))):=⟨_,rfl⟩
       rw[←eu]
       dsimp only
       split
       ·exact wpS_pure ⟨rfl,B4,S4,O4,z4⟩
       ·refine wpS_bind (mt L C B4 S4 (by omega) (by omega) λst5 B5 S5 z5 k5=>?_)
        rw[if_neg (by decide)]
        exact wpS_pure ⟨rfl,B5,S5,O4.congr λk a b=>k5 k a,by omega⟩
      ·rw[if_neg big]
       exact wpS_pure ⟨rfl,B4,S4,O4,z4⟩
     ·rintro c st4 ⟨rfl,B4,S4,O4,z4⟩
      dsimp only
      refine wpS_bind (wpS_modify (wpS_bind (wpS_modify (wpS_pure ⟨lo+n',rfl,by omega,by omega,⟨B4.kind,B4.fine,B4.perm⟩,?_⟩))))
      exact im (lW z4 S4) (by omega) O4
   ·rw[if_neg small]
    have B3:=B2
    have S3:=S2
    have O3:=O2
    obtain⟨st3,e3⟩:∃x,x=st2:=⟨_,rfl⟩
    rw[←e3]at B3 S3 O3⊢
    refine wpS_bind (wpS_get ?_)
    cases eb:(pendingOf st3).back? with
    |none=>
     dsimp only
     exact wpS_bind (wpS_modify (wpS_pure ⟨lo+n,rfl,by omega,by omega,⟨B3.kind,B3.fine,B3.perm⟩,im S3 (by omega) O3⟩))
    |some tt=>
     obtain⟨s1,n1,p1⟩:=tt
     dsimp only
     have hsz3:1≤(pendingOf st3).size:=by
      rcases Zc (pendingOf st3).size with q|q
      ·rw[Array.size_eq_zero_iff.mp q]at eb
       cases eb
      ·exact q
     refine wpS_bind (wpS_mono (wpS_forRange (I:=λ_ c st4=>c=(none,())∧Base a₀ κ st4∧Stack blt (arrOf st4) (pendingOf st4).toList 0 lo∧On blt (arrOf st4) lo (lo+n)∧1≤(pendingOf st4).size)
      (Q:=λc st4=>c=(none,())∧Base a₀ κ st4∧Stack blt (arrOf st4) (pendingOf st4).toList 0 lo∧On blt (arrOf st4) lo (lo+n)∧1≤(pendingOf st4).size) ?_ (λ_ _ q=>q) ⟨rfl,B3,S3,O3,hsz3⟩) ?_)
     ·rintro j c st4 _ _ ⟨rfl,B4,S4,O4,z4⟩
      refine wpS_bind (wpS_get ?_)
      by_cases big:(pendingOf st4).size>1
      ·rw[if_pos big,getElem?_pos (pendingOf st4) ((pendingOf st4).size-2) (by omega)]
       obtain⟨⟨u1,u2,older⟩,eu⟩:∃x,x=(pendingOf st4)[(pendingOf st4).size-2]'(by omega (config:={})):=⟨_,rfl⟩
       rw[←eu]
       dsimp only
       split
       ·exact wpS_pure ⟨rfl,B4,S4,O4,z4⟩
       ·refine wpS_bind (mt L C B4 S4 (by omega) (by omega) λst5 B5 S5 z5 k5=>?_)
        rw[if_neg (by decide)]
        exact wpS_pure ⟨rfl,B5,S5,O4.congr λk a b=>k5 k a,by omega⟩
      ·rw[if_neg big]
       exact wpS_pure ⟨rfl,B4,S4,O4,z4⟩
     ·rintro c st4 ⟨rfl,B4,S4,O4,z4⟩
      dsimp only
      refine wpS_bind (wpS_modify (wpS_bind (wpS_modify (wpS_pure ⟨lo+n,rfl,by omega,by omega,⟨B4.kind,B4.fine,B4.perm⟩,?_⟩))))
      exact im (lW z4 S4) (by omega) O4
 case post=>
  rintro c st' ⟨rfl,B',S⟩
  dsimp only
  have lenS:=S.le
  refine wpS_bind (wpS_mono (wpS_forRange (I:=λi c st2=>c=(none,())∧Base a₀ κ st2∧Stack blt (arrOf st2) (pendingOf st2).toList 0 a₀.size∧(pendingOf st2).size+i≤a₀.size+1)
   (Q:=λc st2=>c=(none,())∧Base a₀ κ st2∧Stack blt (arrOf st2) (pendingOf st2).toList 0 a₀.size∧(pendingOf st2).size≤1) ?_ ?_ ⟨rfl,B',S,by rw[Q6]at lenS;omega⟩) ?_)
  ·rintro i c st2 _ hi ⟨rfl,B2,S2,z2⟩
   refine wpS_bind (wpS_get ?_)
   by_cases one:(pendingOf st2).size≤1
   ·rw[if_pos one]
    exact wpS_pure ⟨rfl,B2,S2,one⟩
   ·rw[if_neg one]
    generalize hix:(if Option.any _ _=true then(pendingOf st2).size-2-1 else(pendingOf st2).size-2)=ix
    have gen:∀bb:Bool,(if bb=true then(pendingOf st2).size-2-1 else(pendingOf st2).size-2)+1<(pendingOf st2).size:=λbb=>by
     cases bb with
     |true=>rw[if_pos rfl];omega
     |false=>rw[if_neg (by decide)];omega
    have hx:ix+1<(pendingOf st2).size:=by
     rw[←hix]
     exact gen _
    refine wpS_bind (mt L C B2 S2 (Q5 _) hx λst3 B3 S3 z3 k3=>?_)
    rw[if_neg (by decide)]
    exact wpS_pure ⟨rfl,B3,S3,by omega⟩
  ·rintro c st2 ⟨rfl,B2,S2,z2⟩
   have em:max 0 a₀.size=a₀.size:=QA (Qg _)
   rw[em]at z2
   exact⟨rfl,B2,S2,by omega⟩
  ·rintro c st2 ⟨rfl,B2,S2,z2⟩
   dsimp only
   refine wpS_pure (h st2 B2 ?_)
   match hl:(pendingOf st2).toList,S2 with
   | [],S2=>
    have e:0=a₀.size:=S2
    omega
   | [(a,b,p)],S2=>
    obtain⟨rfl,_,o,e⟩:=S2
    have e:0+b=a₀.size:=e
    rw[e]at o
    exact o
   |_::_::_,_=>
    have:=congrArg List.length hl
    simp at this
    omega
end
end Srt
namespace Srt
open PySem PyProof.Rows
section
variable {prog:Program} {w:World} {A:Around} {E:Value→Shared→Prop} {s:Shared} {κ:SortKind} {blt:Keyed→Keyed→Bool}
abbrev But (a:Addr) (s s':Shared):Prop:=∀b o,b≠a→s.heap.get? b=some o→s'.heap.get? b=some o
theorem ww {a:Addr} {vs:List Value} {n:Nat} {P:PySem.Fin→Shared→Prop} (ho:s.heap.get? a=some (seqObj "list" vs.toArray n)) (hz:vs.length≤sizeLine) (C:Cmp blt)
  (hkk:∀h':Heap,But a s {s with heap:=h'}→2≤vs.length→∀Q':SortKind→Shared→Prop,Q' κ {s with heap:=h'}→wpAny (model prog w) A (keyKind' vs.toArray) Q' E {s with heap:=h'})
  (L:∀h':Heap,But a s {s with heap:=h'}→t8 prog w A E {s with heap:=h'} (pairsOf vs) κ blt)
  (h:∀out:Array Keyed,out.Perm (pairsOf vs)→PW blt out.toList→P (.done (.ret .none)) {s with heap:=sortedHeap s.heap a vs (out.map (·.2))}):wpAny (model prog w) A (Builtin.«list.sort» ⟨[.ref a],[]⟩) P E s:=by
 have hv:vs.toArray.size=vs.length:=Qd
 have ha:=Heap.lt_size ho
 rw[list_sort_plain]
 refine wpAny_bind (listItems_at ho rfl (wpAny_bind (listUpdate_at ho rfl ?_ (hsz:=by rw[hv];exact hz))))
 obtain⟨e1,ho1⟩:∃k,(s.heap.update a (Obj.mapSeq λ_=> #[])).get? a=some (seqObj "list" #[] k):=⟨_,get?_update_seq ho (λ_=> #[])⟩
 refine wpAny_bind (seqEpoch_at ho1 rfl (wpAny_bind (wpAny_newTuple ?_ (hsz:=hz))))
 refine wpAny_bind (wpAny_newList (wpAny_holding ?_))
 generalize hh:((s.heap.update a (Obj.mapSeq λ_=> #[])).push (seqObj "tuple" vs.toArray 0)).push (seqObj "list" #[] 0)=h6
 have up:∀b o,(s.heap.update a (Obj.mapSeq λ_=> #[])).get? b=some o→h6.get? b=some o:=λb o e=>by
  rw[←hh]
  exact Heap.get?_push_of_some _ (Heap.get?_push_of_some _ e)
 have ho6:=up a _ ho1
 have but:But a s {s with heap:=h6}:=λb o hb e=>up b o (by exact(Heap.get?_update_other _ _ (Ne.symm hb)).trans e)
 have fin:∀out:Array Keyed,out.Perm (pairsOf vs)→PW blt out.toList→P (.done (.ret .none)) {s with heap:=h6.update a (Obj.mapSeq λ_=>out.map (·.2))}:=λout p q=>by
  have:=h out p q
  unfold sortedHeap at this
  rw[hh]at this
  exact this
 have hsz2:∀out:Array Keyed,out.Perm (pairsOf vs)→(out.map (·.2)).size≤sizeLine+1:=λout p=>by
  have:=p.size_eq
  rw[pairsOf_size]at this
  rw[Array.size_map]
  omega
 dsimp only
 by_cases h2:vs.toArray.size<2
 ·rw[if_pos h2,if_pos h2]
  refine wpAny_bind (wpAny_pure ?_)
  rw[StateT.run_pure]
  refine wpAny_bind (wpAny_pure ?_)
  dsimp only
  have pr:(SortSt.mk' general' (vs.toArray.zip vs.toArray) #[] 7 none|>arrOf).Perm (pairsOf vs):=Array.Perm.refl _
  refine wpAny_bind (seqEpoch_at ho6 rfl (wpAny_bind (listUpdate_at ho6 rfl ?_ (hsz:=Qg _) (hsz2:=hsz2 _ pr))))
  simp only[bne_self_eq_false,QK,if_false]
  refine wpAny_pure (fin _ pr ?_)
  have l1:(vs.toArray.zip vs.toArray).toList.length≤1:=by simp at h2⊢;omega
  show PW blt (vs.toArray.zip vs.toArray).toList;revert l1
  generalize (vs.toArray.zip vs.toArray).toList=l
  rcases l with _|⟨x,_|⟨y,t⟩⟩<;>intro l1<;>first|exact List.Pairwise.nil|exact Zp _ _|exact absurd l1 (Nat.not_le_of_lt (Nat.succ_lt_succ (Nat.succ_pos _)))
 ·rw[if_neg h2,if_neg h2]
  refine wpAny_bind (hkk h6 but (by omega) _ ?_)
  refine wpAny_bind (wpAny_mono (sF (L h6 but) (st:=SortSt.mk' κ (vs.toArray.zip vs.toArray) #[] 7 none) (Q:=λ_ st'=>Base (pairsOf vs) κ st'∧On blt (arrOf st') 0 (pairsOf vs).size) C
   ⟨rfl,rfl,Array.Perm.refl _⟩ rfl (by rw[pairsOf_size];omega) λst' B O=>⟨B,O⟩) ?_ λ_ _ e=>e)
  rintro ⟨⟨⟩,st'⟩ s' ⟨rfl,B,O⟩
  dsimp only
  refine wpAny_bind (seqEpoch_at ho6 rfl (wpAny_bind (listUpdate_at ho6 rfl ?_ (hsz:=Qg _) (hsz2:=hsz2 _ B.perm))))
  rw[B.fine]
  simp only[bne_self_eq_false,QK,if_false]
  refine wpAny_pure (fin _ B.perm ?_)
  have:=fh (a:=arrOf st') (blt:=blt) (by rw[B.size];exact O) 0
  rwa [QT]at this
end
end Srt
namespace Srt
open PySem PyProof.Rows
theorem tP:∀(a b:List Int),HT.lexLt a b=true→HT.lexLt b a=false
 | [],[],h=>rfl
 | [],_::_,_=>rfl
 |_::_,[],h=>by rw[HT.lexLt_cons_nil]at h;cases h
 |x::xs,y::ys,h=>by
  rw[HT.lexLt_cons]at h⊢
  by_cases e:x=y
  ·rw[if_pos e]at h
   rw[if_pos e.symm]
   exact tP xs ys h
  ·rw[if_neg e]at h
   rw[if_neg (Ne.symm e)]
   have:=of_decide_eq_true h
   exact decide_eq_false (by omega)
theorem yA:∀(a b c:List Int),HT.lexLt b a=false→HT.lexLt c b=false→HT.lexLt c a=false
 | [],b,[],_,_=>rfl
 |x::xs,[],c,h,_=>by rw[HT.lexLt_nil_cons]at h;cases h
 |a,y::ys,[],_,h=>by rw[HT.lexLt_nil_cons]at h;cases h
 | [],_,_::_,_,_=>HT.lexLt_cons_nil _ _
 |x::xs,y::ys,z::zs,h1,h2=>by
  rw[HT.lexLt_cons]at h1 h2⊢
  by_cases e1:y=x
  ·rw[if_pos e1]at h1
   by_cases e2:z=y
   ·rw[if_pos e2]at h2
    rw[if_pos (e2.trans e1)]
    exact yA xs ys zs h1 h2
   ·rw[if_neg e2]at h2
    rw[if_neg (by rw[←e1];exact e2)]
    have:=of_decide_eq_false h2
    exact decide_eq_false (by omega)
  ·rw[if_neg e1]at h1
   have g1:=of_decide_eq_false h1
   by_cases e2:z=y
   ·rw[if_pos e2]at h2
    rw[if_neg (by omega)]
    exact decide_eq_false (by omega)
   ·rw[if_neg e2]at h2
    have g2:=of_decide_eq_false h2
    by_cases e3:z=x
    ·omega
    ·rw[if_neg e3]
     exact decide_eq_false (by omega)
theorem cmp_of (k:Keyed→List Int):Cmp λp q=>HT.lexLt (k p) (k q):=⟨λx y h=>tP _ _ h,λx y z h1 h2=>yA _ _ _ h1 h2⟩
theorem runs_of {prog:Program} {w:World} {A:Around} {E:Value→Shared→Prop} {s:Shared} {a₀:Array Keyed} {κ:SortKind} {blt:Keyed→Keyed→Bool}
  (h:∀(x y:Keyed) (E':Value→Shared→Prop) (Q:Bool→Shared→Prop),x∈a₀→y∈a₀→Q (blt x y) s→wpAny (model prog w) A (keyLt' κ x.1 y.1) Q E' s):t8 prog w A E s a₀ κ blt:=by
 intro x y st Q hx hy hk q
 rw[lt'_eq]
 refine wpS_bind (wpS_get ?_)
 rw[hk]
 refine wpS_bind (wpS_lift (wpAny_attempt (h x y _ _ hx hy ⟨rfl,?_⟩)))
 exact wpS_pure q
end Srt
namespace L2
open PySem PySem.Spec PyProof.Rows
def unV (u:Value):V:=(absV u).getD .non
theorem xS {x:V} {u:Value} (r:RelV x u):unV u=x:=by unfold unV;rw[r.abs];rfl
theorem vh:∀{xs:List V} {us:List Value},Vals xs us→us.map unV=xs
 |_,_,.nil=>rfl
 |_,_,.cons r t=>by rw[Qs,xS r,vh t]
theorem sH {xs:List V} {us:List Value} (h:Vals xs us) {u:Value} (hu:u∈us):∃x∈xs,RelV x u:=by
 induction h with
 |nil=>exact absurd hu Z8
 |cons r t ih=>
  rcases Qh.mp hu with e|e
  ·subst e;exact⟨_,Qi,r⟩
  ·obtain⟨x,h1,h2⟩:=ih e
   exact⟨x,Qf _ h1,h2⟩
theorem vi:∀{us:List Value},(∀u∈us,RelV (unV u) u)→Vals (us.map unV) us
 | [],_=> .nil
 |u::r,h=> .cons (h u Qi) (vi λv hv=>h v (Qf _ hv))
section
variable {X:Cx}
def sf:V→List Int
 | .int i=> [i]
 |_=> []
theorem wC {ns:List Int} {ys:List V} (h:ys.Perm (ns.map V.int)):∃ms:List Int,ys=ms.map V.int∧ms.Perm ns:=by
 have e:ys=(ys.map λy=>match y with| .int i=>i|_=>0).map V.int:=by
  rw[Z3]
  refine(List.map_id' ys).symm.trans (Zm λy hy=>?_)
  obtain⟨i,_,rfl⟩:=Ql.mp (h.mem_iff.mp hy)
  rfl
 refine⟨_,e,?_⟩
 refine(h.map λy=>match y with| .int i=>i|_=>0).trans (List.Perm.of_eq ?_)
 rw[Z3]
 exact List.map_id' ns
end
end L2
namespace Srt
open PySem PyProof.Rows
section
variable {prog:Program} {w:World} {A:Around} {E:Value→Shared→Prop} {s:Shared} {κ:SortKind} {blt:Keyed→Keyed→Bool}
theorem sorted_src {r:Value} {G:List Value→Prop} {Q:Value→Shared→Prop}
  (hc:∀(R:List Value→Shared→Prop) (E':Value→Shared→Prop),(∀(h1:Heap) (tk:Nat) (vs:List Value),(∀b o,s.heap.get? b=some o→h1.get? b=some o)→G vs→R vs {s with heap:=h1,toks:=tk})→wpAny (model prog w) A.in1 (collect r) R E' s)
  (hz:∀vs,G vs→vs.length≤sizeLine) (C:Cmp blt)
  (hkk:∀(vs:List Value) (h':Heap) (tk:Nat),G vs→(∀b o,s.heap.get? b=some o→h'.get? b=some o)→2≤vs.length→∀Q':SortKind→Shared→Prop,Q' κ {s with heap:=h',toks:=tk}→wpAny (model prog w) A.in1.in1 (keyKind' vs.toArray) Q' (λ_ _=>False) {s with heap:=h',toks:=tk})
  (L:∀(vs:List Value) (h':Heap) (tk:Nat),G vs→(∀b o,s.heap.get? b=some o→h'.get? b=some o)→t8 prog w A.in1.in1 (λ_ _=>False) {s with heap:=h',toks:=tk} (pairsOf vs) κ blt)
  (h:∀(vs:List Value) (h1 h2:Heap) (tk e:Nat) (out:Array Keyed),G vs→(∀b o,s.heap.get? b=some o→h1.get? b=some o)→(∀b o,h1.get? b=some o→h2.get? b=some o)→h2.get? h1.objs.size=some (seqObj "list" (out.map (·.2)) e)→out.Perm (pairsOf vs)→PW blt out.toList→Q (.ref h1.objs.size) {s with heap:=h2,toks:=tk}):
  wpAny (model prog w) A (call (.builtin "sorted") [r]) Q E s:=by
 refine Calls.call_function_entry kind_sorted plain_sorted entry_sorted (args_sorted1 _) ?_
 unfold Builtin.«sorted»
 refine wpAny_bind (m:=checkCount "sorted" 1 1 _) (wpAny_pure (wpAny_bind (hc _ _ λh1 tk vs k1 g=>?_)))
 refine wpAny_bind (wpAny_newList ?_ (hsz:=hz vs g))
 have new:(h1.push (seqObj "list" vs.toArray 0)).get? h1.objs.size=some (seqObj "list" vs.toArray 0):=Heap.get?_push_size _ rfl
 have keep:∀h':Heap,But h1.objs.size {s with heap:=h1.push (seqObj "list" vs.toArray 0),toks:=tk} {s with heap:=h',toks:=tk}→∀b o,s.heap.get? b=some o→h'.get? b=some o:=λh' k b o e=>
  k b o (Qz (Heap.lt_size (k1 b o e))) (Heap.get?_push_of_some _ (k1 b o e))
 show wpAny _ _ _ _ _ {s with heap:=h1.push (seqObj "list" vs.toArray 0),toks:=tk}
 refine wpAny_bind (wpAny_holding (wpAny_mono (wpAny_call_entry (E:=λ_ _=>False) slot_list_sort ⟨_,new,rfl⟩ entry_list_sort (ww (s:={s with heap:=h1.push (seqObj "list" vs.toArray 0),toks:=tk}) (κ:=κ) (blt:=blt) new (hz vs g) C (λh' k=>hkk vs h' tk g (keep h' k)) (λh' k=>L vs h' tk g (keep h' k)) λout p q=>⟨_,rfl,?_⟩) (args_list_sort _)) (λ_ _ q=>q) λ_ _ f=>f.elim))
 refine wpAny_pure ⟨_,rfl,?_⟩
 obtain⟨e,at_⟩:=sortedHeap_at (out:=out.map (·.2)) new
 refine h vs h1 _ tk e out g k1 (λb o q=>?_) at_ p q
 have lt:=Heap.lt_size q
 rw[sortedHeap_old (Qz lt) (by rw[size_push'];exact Nat.lt_succ_of_lt lt)]
 exact Heap.get?_push_of_some _ q
end
end Srt
namespace L2
open PySem PySem.Spec PyProof.Rows
section
variable {X:Cx}
theorem vJ {P:Program} {w:World} {k:Key} {v:Value} (h:(a6 P w).is k v=true):RelV (kV k) v:=by
 rw[uN]at h
 cases k with
 |inl i=>
  cases v with
  |int j t=>exact⟨t,by simp[jp,Value.isInt]at h;rw[h]⟩
  |_=>simp[jp,Value.isInt]at h
 |inr x=>
  cases v with
  |str y t=>exact⟨t,by simp[jp,Value.isStrOf]at h;rw[h]⟩
  |_=>simp[jp,Value.isStrOf]at h
def gU (kvs:List (Key×V)):List V:=kvs.map λp=>kV p.1
theorem oB {kvs:List (Key×V)} {vs:List (Key×Value)} {acc:List Value} {P:Program} {w:World} (rel:KV kvs vs) (hl:acc.length=vs.length)
  (hv:∀(j:Nat) (v:Value),acc[j]?=some v→∃k x,vs[j]?=some (k,x)∧(a6 P w).is k v=true):Vals (gU kvs) acc:=by
 induction rel generalizing acc with
 |nil=>cases acc with
  |nil=>exact .nil
  |cons a b=>simp at hl
 |cons r t ih=>
  rename_i p q ps qs
  cases acc with
  |nil=>simp at hl
  |cons a b=>
   refine .cons ?_ (ih (by simpa using hl) λj v e=>?_)
   ·obtain⟨k,x,e1,e2⟩:=hv 0 a rfl
    simp at e1
    subst e1
    show RelV (kV p.1) a
    rw[r.1]
    exact vJ e2
   ·exact hv (j+1) v (by simpa using e)
theorem uZ (hh:X.A.handled=none):g8 X (.type "list") (λxs H Q=>∃a kvs,xs=[.ref a]∧Rd H a (.dK kvs)∧∀l,H l=none→Q (.ref l) (upd H l (.lst (gU kvs)))):=by
 intro pins s σ H xs us Q I r h
 obtain⟨a,kvs,rfl,hd,q⟩:=h
 obtain⟨u,rfl,ru⟩:=oC r
 cases ru
 obtain⟨z,lo,vs,rel,dd⟩:=m8 I.hok hd
 obtain⟨ep,hat⟩:=dd.dictAt
 have hlen:kvs.length=vs.length:=rel.length
 refine PySem.W.kdl_call (PySem.W.kdl_dict (knd:=a6 X.prog X.w) (kvs:=vs) (ep:=ep) lo) hh hat (by omega) λh' tk acc' c' hk hS hacc=>?_
 have hv:Vals (gU kvs) acc'.toList:=oB rel (by rw[Q6];exact hacc.1) λj v e=>hacc.2 j v (by rw[←Qp];exact e)
 refine⟨.ref s.heap.objs.size,_,I.laid (t':=tk) hk (Q5 _) (show ObjOk X.prog X.w _ h' _ (.lst (gU kvs)) from⟨?_,acc'.toList,c',hv,?_⟩),rfl,q _ (I.hok.fresh (Q5 _))⟩
 ·unfold gU;rw[Q1];exact z
 ·rw[ZY];exact hS
theorem sR {pins:List (Addr×Obj)} {s:Shared} {σ:St} {H:Hp} {Q:VK} {T:String} {r d:Addr} {OK:Heap→Prop} {kvs:List (Key×V)} {vs:List (Key×Value)} {ns:List Int} (hh:X.A.handled=none) (I:Inv X pins σ H s) (rel:KV kvs vs) (z:kvs.length≤sizeLine)
  (src:PySem.W.KdlSrc X.prog X.w T r d vs.length (λi v=>∃k x,vs[i]?=some (k,x)∧(a6 X.prog X.w).is k v=true) OK) (hok:OK s.heap) (hns:gU kvs=ns.map V.int)
  (q:∀(l:Addr) (ms:List Int),H l=none→ms.Perm ns→ms.Pairwise (· ≤ ·)→Q (.ref l) (upd H l (.lst (ms.map V.int)))):wpAny (model X.prog X.w) X.A (call (.builtin "sorted") [.ref r]) (EP X pins σ Q) X.xe s:=by
 have hlen:kvs.length=vs.length:=rel.length
 have hlk:(gU kvs).length=kvs.length:=Q1 _
 have allI:∀its:List Value,Vals (gU kvs) its→∀v∈its,∃i t,v=Value.int i t:=λits rv v hv=>by
  obtain⟨x,hx,rx⟩:=sH rv hv
  rw[hns]at hx
  obtain⟨i,_,rfl⟩:=Ql.mp hx
  obtain⟨t,e⟩:=rx
  exact⟨i,t,e⟩
 have mem:∀(its:List Value) (z:Keyed),z∈pairsOf its→z.1=z.2∧z.1∈its:=λits z hz=>by
  have:z∈(pairsOf its).toList:=by simpa using hz
  rw[pairsOf_toList]at this
  exact mem_zip_self this
 refine Srt.sorted_src (G:=λits=>Vals (gU kvs) its) (κ:=oneType') (blt:=λa b=>HT.lexLt (sf (unV a.1)) (sf (unV b.1))) (λR E' k=>?_) (λits rv=>by rw[←rv.length,hlk];exact z) (Srt.cmp_of λa=>sf (unV a.1))
  (λits h' tk rv k h2 Q' hQ=>?_) (λits h' tk rv k=>Srt.runs_of λx y E' Q' hx hy hQ=>?_) (λits h1 h2 tk e out rv k1 k2 at_ pm pw=>?_)
 ·refine PySem.W.kdu_collect src hh hok (by omega) λh' tk acc hk hacc=>k h' tk acc.toList hk ?_
  exact oB rel (by rw[Q6];exact hacc.1) λj v e=>hacc.2 j v (by rw[←Qp];exact e)
 ·refine PySem.W.kas_kind (T:= .type "int") h2 (λv hv=>?_) (by decide+kernel) (by decide+kernel) hQ
  obtain⟨i,t,rfl⟩:=allI its rv v hv
  exact PySem.W.Looks.of_pure rfl
 ·obtain⟨i,t,e1⟩:=allI its rv _ (mem its x hx).2
  obtain⟨j,t',e2⟩:=allI its rv _ (mem its y hy).2
  rw[e1,e2]at hQ⊢
  refine PySem.W.kat_lt_int ?_
  have e:HT.lexLt (sf (unV (.int i t))) (sf (unV (.int j t')))=decide (i<j):=by
   show HT.lexLt [i] [j]=_
   rw[HT.lexLt_cons]
   by_cases z:i=j
   ·rw[if_pos z,HT.lexLt_nil_nil,decide_eq_false (by omega)]
   ·rw[if_neg z]
  rw[e]at hQ
  exact hQ
 ·have pml:out.toList.Perm (its.zip its):=by
   have:=Xn.mp pm
   rwa [pairsOf_toList]at this
  have eqs:∀z∈out.toList,z.1=z.2∧z.1∈its:=λz hz=>mem_zip_self (pml.mem_iff.mp hz)
  have e2:(out.map (·.2)).toList=out.toList.map (·.2):=Array.toList_map
  have pv:((out.map (·.2)).toList).Perm its:=by
   rw[e2]
   refine(pml.map _).trans (List.Perm.of_eq ?_)
   exact List.map_snd_zip (Q5 _)
  have hu:∀u∈(out.map (·.2)).toList,RelV (unV u) u:=λu hu=>by
   obtain⟨x,_,r⟩:=sH rv (pv.mem_iff.mp hu)
   rw[xS r]
   exact r
  have vy:=vi hu
  have I1:Inv X pins σ H {s with heap:=h1,toks:=tk}:=I.kept k1
  have py:((out.map (·.2)).toList.map unV).Perm (ns.map V.int):=by
   rw[←hns,←vh rv]
   exact pv.map _
  have pw2:((out.map (·.2)).toList.map unV).Pairwise (λa b=>HT.lexLt (sf b) (sf a)=false):=by
   rw[e2,Z3]
   refine List.pairwise_map.mpr (pw.imp_of_mem λ{a b} ha hb h=>?_)
   show HT.lexLt (sf (unV b.2)) (sf (unV a.2))=false
   rw[←(eqs a ha).1,←(eqs b hb).1]
   exact h
  have lz:((out.map (·.2)).toList.map unV).length≤sizeLine:=by
   rw[py.length_eq,←hns,hlk];exact z
  obtain⟨ms,em,pm'⟩:=wC py
  rw[em]at vy pw2 lz
  refine⟨.ref h1.objs.size,upd H h1.objs.size (.lst (ms.map V.int)),I1.laid (t':=tk) k2 (Q5 _) ⟨lz,_,e,vy,?_⟩,rfl,q _ _ (I1.hok.fresh (Q5 _)) pm' ?_⟩
  ·rw[at_,ZY]
  ·refine(List.pairwise_map.mp pw2).imp λ{a b} h=>?_
   have h:HT.lexLt [b] [a]=false:=h
   rw[HT.lexLt_cons]at h
   by_cases z:b=a
   ·omega
   ·rw[if_neg z]at h
    have:=of_decide_eq_false h
    omega
theorem ss (hh:X.A.handled=none):g8 X (.builtin "sorted") (λxs H Q=>∃(a:Addr) (kvs:List (Key×V)) (ns:List Int),xs=[.ref a]∧Rd H a (.dK kvs)∧gU kvs=ns.map V.int∧
  ∀(l:Addr) (ms:List Int),H l=none→ms.Perm ns→ms.Pairwise (· ≤ ·)→Q (.ref l) (upd H l (.lst (ms.map V.int)))):=by
 intro pins s σ H xs us Q I r h
 obtain⟨a,kvs,ns,rfl,hd,hns,q⟩:=h
 obtain⟨u,rfl,ru⟩:=oC r
 cases ru
 obtain⟨z,lo,vs,rel,dd⟩:=m8 I.hok hd
 obtain⟨ep,hat⟩:=dd.dictAt
 exact sR hh I rel z (PySem.W.kdl_dict (knd:=a6 X.prog X.w) (kvs:=vs) (ep:=ep) lo) hat hns q
def De:V→List V→Hp→VK→Prop:=λx vs H Q=>∃a kvs k v,x= .ref a∧vs=[kV k]∧H a=some (.dK kvs)∧aO kvs k=some v∧Q v (upd H a (.dK (bv kvs k)))
theorem vC:MtR X "dict.pop" De:=by
 intro pins s σ H x vs v us Q I rx rv h
 obtain⟨a,kvs,k,y,rfl,rfl,hH,hl,q⟩:=h
 cases rx
 obtain⟨u,rfl,ru⟩:=rv.one
 exact Dw I hH ru hl (.inl rfl) λw' s' I' r'=>⟨y,_,I',r',q⟩
def Db (K:PySem.W.Frag):V→List V→Hp→VK→Prop:=λx vs H Q=>∃(sep:Str) (a:Addr) (ys:List Str),x= .str sep∧vs=[.ref a]∧SqL K H a (ys.map V.str)∧sep.length≤16∧(ys.map (·.length)).sum+ys.length≤1048576∧Q (.str (Txt.join sep ys)) H
theorem sM:∀{ys:List Str} {its:List Value},Vals (ys.map V.str) its→StrsAre its ys
 | [],_,.nil=> .nil
 |_::_,_,.cons ⟨t,e⟩ r=>by subst e;exact .cons _ _ (sM r)
theorem Ar:MtR X "str.join" (Db X.K):=by
 intro pins s σ H x vs v us Q I rx rv h
 obtain⟨sep,a,ys,rfl,rfl,hS,h1,h2,q⟩:=h
 obtain⟨t,rfl⟩:=rx
 obtain⟨u,rfl,ru⟩:=rv.one
 cases ru
 obtain⟨its,r,pl,_⟩:=I.list hS
 exact join_listW pl.isList (by simpa using sM r) h1 h2 λt' k=>⟨.str _,H,I.tok _,⟨t',rfl⟩,q⟩
end
end L2
namespace L2
open PySem PySem.Spec PyProof.Rows
theorem kW {env:Env}:∀(l:List (Str×NameKind)) (cs:List (Str×Addr)),(∀p∈l,p.2= .free→∃c,env.cells.lookup p.1=some c)→
  ∃cl,(forIn l cs (λp cs=>if(p.2==NameKind.free)=true then cellOf env p.1>>=λa=>pure (ForInStep.yield ((p.1,a)::cs))else pure (ForInStep.yield cs)):Sem _)=pure cl∧
   (∀y c,cl.lookup y=some c→cs.lookup y=some c∨env.cells.lookup y=some c)∧(∀y c,cs.lookup y=some c→∃c',cl.lookup y=some c')∧(∀y,(y,NameKind.free)∈l→∃c,cl.lookup y=some c)
 | [],cs,_=>⟨cs,by rw[List.forIn_nil],λy c h=> .inl h,λy c h=>⟨c,h⟩,λy h=>nomatch h⟩
 |(n,k)::r,cs,h=>by
  rw[List.forIn_cons]
  by_cases hk:k= .free
  ·subst hk
   obtain⟨c,hc⟩:=h (n,.free) Qi rfl
   have hc:env.cells.lookup n=some c:=hc
   have e:cellOf env n=pure c:=by unfold cellOf;rw[hc]
   obtain⟨cl,h1,h2,h3,h4⟩:=kW r ((n,c)::cs) λp hp=>h p (Qf _ hp)
   refine⟨cl,?_,λy c' hy=>?_,λy c' hy=>?_,λy hy=>?_⟩
   ·simp only[beq_self_eq_true,if_true,e,pure_bind]
    exact h1
   ·rcases h2 y c' hy with q|q
    ·rw[Zl]at q
     split at q
     ·rename_i z
      cases q
      rw[beq_iff_eq]at z
      subst z
      exact .inr hc
     ·exact .inl q
    ·exact .inr q
   ·by_cases z:y=n
    ·exact h3 y c (by rw[Zl,z];simp)
    ·exact h3 y c' (by rw[Zl,beq_eq_false_iff_ne.mpr z];exact hy)
   ·rcases Qh.mp hy with q|q
    ·have e1:y=n:=(Prod.mk.inj q).1
     exact h3 y c (by rw[Zl,e1];simp)
    ·exact h4 y q
  ·have hb:(k==NameKind.free)=false:=by simpa using hk
   obtain⟨cl,h1,h2,h3,h4⟩:=kW r cs λp hp=>h p (Qf _ hp)
   refine⟨cl,?_,h2,h3,λy hy=>?_⟩
   ·simp only[hb,QK,if_false,pure_bind]
    exact h1
   ·rcases Qh.mp hy with q|q
    ·exact absurd (Prod.mk.inj q).2.symm hk
    ·exact h4 y q
theorem uY {env:Env} {scope:Scope} (h:∀p∈scope.names,p.2= .free→∃c,env.cells.lookup p.1=some c):
  ∃cl,closureFor scope env=pure cl∧(∀y c,cl.lookup y=some c→env.cells.lookup y=some c)∧(∀y,(y,NameKind.free)∈scope.names→∃c,cl.lookup y=some c):=by
 obtain⟨cl,h1,h2,_,h4⟩:=kW scope.names [] h
 refine⟨cl,?_,λy c hy=>(h2 y c hy).resolve_left λz=>by simp at z,h4⟩
 unfold closureFor
 simp only[bind_pure]
 exact h1
def cCx (X:Cx) (M N':List Str) (scope:Scope) (cl:List (Str×Addr)) (C:Addr) (s₂:Shared) (H₂:Hp) (fp:List Addr):Cx:=
 {X with N:=M++N',s₀:=s₂,H₀:=H₂,env:=compEnvC scope cl C X.env,outer:=X.stack,stack:=X.stack,ex:=fp,fn:=λ_=>false,pn:=[],xe:=λ_ _=>False}
structure CScope (X:Cx) (M N':List Str) (scope:Scope):Prop where
 kind:scope.kind= .function
 nd:(M++N').Nodup
 ln:N'.length=X.N.length
 own:∀x∈M,scope.names.lookup x=some .local
 nocell:∀y∈scope.names,y.2≠ .cell
 names:∀y∈scope.names,y.2= .local→scope.names.lookup y.1=some .local
 free:∀y∈scope.names,y.2= .free→X.env.kindOf y.1=some .cell
 vis:∀(j:Nat) (y:Str),N'[j]?=some y→Vis (relabel scope X.env) y→X.N[j]?=some y∧(y,NameKind.free)∈scope.names∧(relabel scope X.env).names.lookup y=some .cell
 cells:∀y,((relabel scope X.env).names.lookup y=some .cell∨(relabel scope X.env).names.lookup y=some .free)→(y,NameKind.free)∈scope.names
def vZ (n:Nat) (g:TG) (tc:TT) (te:TE) (σ:St) (Q:VK) (J:It) (H1:Hp):Prop:=∀D,H1 D=none→∃W:Nat→Nat→St→List V→Hp→Prop,(∃m,W 0 m (List.replicate n none++σ) [] (upd H1 D (.lst [])))∧∀i m τ ys H2,W i m τ ys H2→H2 D=some (.lst ys)→
 (J.stop i H2∧Q (.ref D) H2)∨(J.go i H2∧∀x H3,J.yld i H2 x H3→∃G:St→Hp→Prop,(∀τ2 H4,G τ2 H4→∃(Ny:VK) (Ns:Hp→Prop),(∀y H6,Ny y H6→H6 D=some (.lst ys)∧ys.length<sizeLine∧∃m',m'<m∧W (i+1) m' τ2 (ys++ [y]) (upd H6 D (.lst (ys++ [y]))))∧
  (∀H5,Ns H5→H5 D=some (.lst ys)∧∃m',m'<m∧W (i+1) m' τ2 ys H5)∧tc τ2 H4 λb H5=>if b=true then te τ2 H5 Ny else Ns H5)∧g x τ H3 G)
def A9:TT:=λ_ H Q=>Q true H
def PTs (X:Cx) (ifs:List Expr) (tc:TT):Prop:=∀(pins:List (Addr×Obj)) (s:Shared) (σ:St) (H:Hp) (Q:Bool→Hp→Prop),Inv X pins σ H s→tc σ H Q→
 wpAny (model X.prog X.w) X.A (forIn ifs true λc r=>if r=true then do let ok←isTrue c X.env (eval c X.env);pure (ForInStep.yield ok)else pure (ForInStep.yield r)) (λb s'=>∃H',Inv X pins σ H' s'∧Q b H') X.xe s
section
variable {X:Cx}
theorem Ai:PTs X [] A9:=λ_ _ _ H _ I h=>wpAny_tests_nil ⟨H,I,h⟩
theorem Ah {c:Expr} {tc:TT} (h:PT X c tc):PTs X [c] tc:=λpins s σ H Q I q=>wpAny_tests_one (h pins s σ H Q I q)
theorem CScope.pg {M N':List Str} {scope:Scope} {cl:List (Str×Addr)} {C:Addr} {s₂:Shared} {H₂:Hp} {fp:List Addr} {i:Nat} {x:Str} {px:Pos} (S:CScope X M N' scope) (h:M[i]?=some x):PG (cCx X M N' scope cl C s₂ H₂ fp) (.Name x px) (tT i):=
 bU S.nd (by show(M++N')[i]?=_;rw[QZ (Q2.mp h).1];exact h) (.inl (lookup_relabel_local (S.own x (Q0 h)))) (.inr (lookup_relabel_local (S.own x (Q0 h))))
structure By (X:Cx) (pins:List (Addr×Obj)) (H:Hp) (C:Addr):Prop where
 no:H C=none
 fr:C≠X.env.locals
 ab:X.s₀.heap.objs.size≤C
 ce:∀x c,X.env.cells.lookup x=some c→c≠C
 pi:∀p∈X.pn++pins,p.1≠C
theorem xj {elt iter tg:Expr} {ifs:List Expr} {M N':List Str} {pos:Pos} {scope:Scope} {wi:TI} {g:TG} {tc:TT} {te:TE} {cl:List (Str×Addr)} {pins:List (Addr×Obj)} {s:Shared} {σ:St} {H:Hp} {Q:VK} {RR:Value→Addr→Result→Shared→Prop} (hc:X.calm=true) (S:CScope X M N' scope) (hi:PI X tg iter wi)
  (hg:∀cl C s₂ H₂ fp,PG (cCx X M N' scope cl C s₂ H₂ fp) tg g) (hcn:∀cl C s₂ H₂ fp,PTs (cCx X M N' scope cl C s₂ H₂ fp) ifs tc) (he:∀cl C s₂ H₂ fp,PE (cCx X M N' scope cl C s₂ H₂ fp) elt te)
  (cl1:∀y c,cl.lookup y=some c→X.env.cells.lookup y=some c) (cl2:∀y,(y,NameKind.free)∈scope.names→∃c,cl.lookup y=some c) (I:Inv X pins σ H s) {R:It→Hp→Prop} (h:wi σ H R) (hB:∀J H,R J H→vZ M.length g tc te σ Q J H)
  (hR:∀D C s4 H',Inv X pins σ H' s4→(∃m,s4.heap.Ns C m)→By X pins H' C→Q (.ref D) H'→RR (.ref D) C (.ok .next) s4):
  wpAny (model X.prog X.w) X.A (eval iter X.env) (λv s1=>wpAny (model X.prog X.w) X.A (pyIter v) (λitv s2=>wpAny (model X.prog X.w) X.A (newList []) (λacc s3=>
   wpAny (model X.prog X.w) X.A (newFunctionEnv scope X.env.globals cl [] X.env.qual none .none (some X.env)) (λcenv s4=>
    codeAny (model X.prog X.w) X.A (.compStart (.ListComp elt [⟨tg,iter,ifs,0⟩] scope pos) 0 itv acc {cenv with scope:=relabel scope X.env}) (RR acc cenv.locals) s4) X.xe s3) X.xe s2) X.xe s1) X.xe s:=by
 refine thn (hi pins s σ H _ I h) λv s1 h1=>thn h1 λitv s2 h2=>?_
 obtain⟨it,fp,tn,J,H2,e,I2,T,st2,f2,h⟩:=h2
 subst e
 refine wpAny_newObj_type (wpAny_newFunctionEnv S.nocell (by intro y hy;simp at hy) (λh₁ hns₁ hsb₁=>?_) S.kind)
 dsimp only at hns₁ hsb₁⊢
 generalize hD:s2.heap.objs.size=D at*
 generalize hH3:s2.heap.push {cls:= .type "list",dict:=none,data:= .seq ([]:List Value).toArray}=h3 at hns₁ hsb₁⊢
 have hCs:h3.objs.size=D+1:=by rw[←hH3,Heap.size_push,hD]
 have fD:H2 D=none:=I2.hok.fresh (Zr hD)
 obtain⟨W,⟨m0,w0⟩,turn⟩:=hB _ _ h D fD
 generalize hC:h3.objs.size=C at*
 have gD:s2.heap.get? D=none:=Heap.get?_none_of_le (Zr hD)
 have gC:s2.heap.get? C=none:=Heap.get?_none_of_le (by rw[hD,hCs];exact Zf _)
 have DC:D≠C:=by rw[hCs];exact Qz (ZL _)
 have up3:∀b o,s2.heap.get? b=some o→h3.get? b=some o:=λb o e=>by rw[←hH3];exact Heap.get?_push_of_some _ e
 have hold:∀b o,h3.get? b=some o→h₁.get? b=some o:=λb o e=>hsb₁.extBut b o (by intro z;have:=Heap.lt_size e;rw[z,hC]at this;exact absurd this (Z5 _)) (Heap.get?_push_of_some _ e)
 have up:∀b o,s2.heap.get? b=some o→h₁.get? b=some o:=λb o e=>hold b o (up3 b o e)
 have oD:h₁.get? D=some {cls:= .type "list",dict:=none,data:= .seq ([]:List Value).toArray}:=hold _ _ (by rw[←hH3,←hD];exact Heap.get?_push_size _ rfl)
 have fpo:∀b∈fp,b≠C∧b∉frs X.stack:=λb hb=>by
  obtain⟨o,e,_⟩:=T.obj _ _ st2 b hb
  refine⟨λz=>(by rw[z,gC]at e;cases e),λz=>?_⟩
  rcases Qh.mp (I2.stkSub b z)with q|q
  ·exact(f2 b hb).2.1 q
  ·exact(f2 b hb).2.2.1 q
 have fC:H2 C=none:=I2.hok.fresh (by rw[hD,hCs];exact Zf _)
 have ok:(cCx X M N' scope cl C s2 H2 fp).Ok:=
  {mod:=I2.ok.mod,kind:=S.kind,glob:=I2.ok.glob,blt:=I2.ok.blt,above:=by show s2.heap.objs.size≤C;rw[hD,hCs];exact Zf _
   inj:=λy z c h1 h2=>I2.ok.inj y z c (cl1 _ _ h1) (cl1 _ _ h2),has:=λy hy=>cl2 y (S.cells y hy),cab:=λy c z=>by cases z
   hd:=I2.ok.hd,frames:=I2.ok.frames,stk:= .inl rfl,exf:=λb hb=>⟨(fpo b hb).1,λy c e=>(f2 b hb).2.2.2.2.1 y c (cl1 y c e)⟩
   bs:=I2.bs,bsz:=QF I2.ok.bsz I2.sz
   noex:=λb o e hb=>by
    rcases(f2 b hb).2.2.2.1 with q|q
    ·exact I2.ok.noex b o e q
    ·exact absurd (Qn (Heap.lt_size e) (QF I2.ok.bsz q)) (Z5 _)
   exfs:=λb hb=>(fpo b hb).2,funs:=I2.stack,frf:=I2.stkFree}
 have ne2:∀b u,H2 b=some u→b≠D:=λb u e=>am e fD
 have I3:Inv (cCx X M N' scope cl C s2 H2 fp) [] (List.replicate M.length none++σ) (upd H2 D (.lst [])) {s2 with heap:=h₁,toks:=s2.toks+([]:List (Str×Value)).length}:=
  {ok:=ok,os:=rfl,bare:=I2.bare,base:=Un.laid up (Zr hD) fD
   loc:=⟨_,hns₁,λi y v e1 e2 e3=>by
    by_cases lt:i<M.length
    ·have e2:(List.replicate M.length none++σ)[i]?=some (some v):=e2
     rw[QZ (by rw[QX];exact lt),List.getElem?_replicate,if_pos lt]at e2
     cases e2
    ·have e1:(M++N')[i]?=some y:=e1
     have e2:(List.replicate M.length none++σ)[i]?=some (some v):=e2
     rw[QW (Xk.mp lt)]at e1
     rw[QW (by rw[QX];exact Xk.mp lt),QX]at e2
     generalize i-M.length=j at e1 e2
     obtain⟨e1,q1,q2⟩:=S.vis j y e1 e3
     have kc:=S.free _ q1 rfl
     obtain⟨m,hn,hl⟩:=I2.loc
     obtain⟨u,r,l⟩:=hl j y v e1 e2 (.inr (.inl kc))
     refine⟨u,r,?_⟩
     rcases l with⟨k,_⟩|⟨_,c,e,z⟩
     ·rw[kc]at k;cases k
     ·obtain⟨c',e'⟩:=cl2 y q1
      have ee:=cl1 _ _ e'
      rw[e]at ee
      cases ee
      obtain⟨o,ho,hd⟩:=z
      exact .inr ⟨.inl q2,c,e',o,up _ _ ho,hd⟩⟩
   cell:=λy c e=>by
    obtain⟨v,o,ho,hd⟩:=I2.cell y c (cl1 _ _ e)
    exact⟨v,o,up _ _ ho,hd⟩
   free:=by show upd H2 D (.lst []) C=none;rw[ac DC.symm];exact fC
   freeC:=λy c e=>by
    have q:=I2.freeC y c (cl1 _ _ e)
    obtain⟨v,o,ho,hd⟩:=I2.cell y c (cl1 _ _ e)
    rw[ac (λz=>by rw[z,gD]at ho;cases ho)]
    exact q
   pin:=λp hp=>absurd (show p∈([]:List (Addr×Obj)) from hp) (by simp)
   hok:=I2.hok.laid up (Zr hD) ⟨Qg _,[],0,.nil,oD⟩
   len:=by show(List.replicate M.length none++σ).length=(M++N').length;rw[Qa,Qa,QX,I2.len,S.ln]}
 have stat:∀{H':Hp},(∀b∈fp,H' b=none)→∀b∈fp,jF (cCx X M N' scope cl C s2 H2 fp) [] H' b:=λhn b hb=>
  ⟨hn b hb,(fpo b hb).1,(fpo b hb).2,.inl hb,λy c e=>(f2 b hb).2.2.2.2.1 y c (cl1 _ _ e),λp hp=>absurd (show p∈([]:List (Addr×Obj)) from hp) (by simp)⟩
 have st3:tn 0 h₁:=T.keep _ _ _ st2 λb hb o e=>up b o e
 have loop:∀s3:Shared,s3={s2 with heap:=h₁,toks:=s2.toks+([]:List (Str×Value)).length}→
   codeAny (model X.prog X.w) X.A (.compLoop (.ListComp elt [⟨tg,iter,ifs,0⟩] scope pos) 0 (.ref it) (.ref D) (compEnvC scope cl C X.env)) (RR (.ref D) C) s3:=by
  rintro s3 rfl
  refine codeAny_loop rfl (λn s'=>∃i τ ys H',Inv (cCx X M N' scope cl C s2 H2 fp) [] τ H' s'∧tn i s'.heap∧(∀b∈fp,H' b=none)∧H' D=some (.lst ys)∧W i n τ ys H') ?_ m0
   ⟨0,_,[],_,I3,st3,λb hb=>by rw[ac (λz=>by obtain⟨o,e,_⟩:=T.obj _ _ st2 b hb;rw[z,gD]at e;cases e)];exact(f2 b hb).1,ag,w0⟩
  rintro n s' ⟨i,τ,ys,H',I',st',fr',hD',w'⟩
  show wpAny _ X.A ((compTurn (.ListComp elt [⟨tg,iter,ifs,0⟩] scope pos) 0 (.ref it) (.ref D) (compEnvC scope cl C X.env)).onRaise (λx=>do noteFrame x (compEnvC scope cl C X.env);theTreesLotGoes x)) _ _ s'
  refine wpAny_noted ?_
  rw[compTurn_list]
  refine wpAny_bind (wpAny_standAt (wpAny_bind ?_))
  rcases turn i n τ ys H' w' hD' with⟨stop,qn⟩|⟨go,step⟩
  ·refine thn (T.done (cCx X M N' scope cl C s2 H2 fp) rfl rfl rfl hc i [] s' _ H' _ I' (stat fr') st' stop) λr s4 ⟨hr,I4⟩=>?_
   subst hr
   refine wpAny_pure ?_
   obtain⟨m,hn,_⟩:=I4.loc
   have IX:Inv X pins σ H' s4:=I2.call' (s':=s4) I4.os (show Un (frs X.stack) fp H2 H' s2.heap s4.heap from I4.base) I4.hok I4.bare λb hb=>⟨(f2 b hb).2.2.2.1,(f2 b hb).2.1,(f2 b hb).2.2.2.2.1,(f2 b hb).2.2.2.2.2⟩
   refine hR D C s4 H' IX ⟨m,hn⟩ ⟨I4.free,λz=>?_,?_,λy c e z=>?_,λp hp z=>?_⟩ qn
   ·have:=I2.lt
    rw[←z,hCs,hD]at this
    exact absurd this (Xk.mpr (Zf _))
   ·refine QF I2.sz ?_
    rw[hD,hCs]
    exact Zf _
   ·obtain⟨v,o,ho,_⟩:=I2.cell y c e
    rw[z,gC]at ho
    cases ho
   ·have ho:=(I2.pin p hp).1
    rw[z,gC]at ho
    cases ho
  ·refine thn (T.item (cCx X M N' scope cl C s2 H2 fp) rfl rfl rfl hc i [] s' _ H' _ I' (stat fr') st' go) λr s4 ⟨u,hr,h4⟩=>?_
   subst hr
   refine wpAny_bind (thn h4 λ_ s5 hzz=>?_)
   obtain⟨y,H5,I5,r5,y5,st5,fr5⟩:=hzz
   have I5':=I5.pinned (stat fr5) (T.obj _ _ st5)
   obtain⟨G,hG,gq⟩:=step y H5 y5
   refine wpAny_bind (wpAny_mono (hg cl C s2 H2 fp _ s5 _ H5 y _ _ I5' r5 gq) (λ_ s6 hzz=>?_) λ_ _ f=>f.elim)
   obtain⟨τ6,H6,I6,q6⟩:=hzz
   have fin:∀{τ7:St} {H7:Hp} {s7:Shared},Inv (cCx X M N' scope cl C s2 H2 fp) ([]++pd fp s5.heap) τ7 H7 s7→tn (i+1) s7.heap∧∀b∈fp,H7 b=none:=λ{τ7 H7 s7} I7=>by
    refine⟨T.keep _ _ _ st5 λb hb o e=>(I7.pin (b,o) (Qo _ (Qo _ (iw hb e)))).1,λb hb=>?_⟩
    obtain⟨o,e,d⟩:=T.obj _ _ st5 b hb
    exact(I7.pin (b,o) (Qo _ (Qo _ (iw hb e)))).2.1
   obtain⟨Ny,Ns,hy,hn,q6⟩:=hG _ _ q6
   refine wpAny_bind (wpAny_mono (hcn cl C s2 H2 fp _ s6 _ H6 _ I6 q6) (λb s7 ⟨H7,I7,q7⟩=>?_) λ_ _ f=>f.elim)
   cases b with
   |false=>
    rw[if_neg Q7]at q7
    obtain⟨hD7,m',hm',w7⟩:=hn _ q7
    exact wpAny_pure (show _∧_ from⟨rfl,m',hm',i+1,τ6,ys,_,I7.unpinned,(fin I7).1,(fin I7).2,hD7,w7⟩)
   |true=>
    rw[if_pos rfl]at q7
    refine wpAny_bind (wpAny_bind (wpAny_mono (he cl C s2 H2 fp _ s7 _ H7 _ I7 q7) (λz s8 hzz=>?_) λ_ _ f=>f.elim))
    obtain⟨y',H8,I8,r8,q8⟩:=hzz
    obtain⟨hD8,hl8,m',hm',w8⟩:=hy _ _ q8
    refine wpAny_bind (wpAny_mono (dC (X:=cCx X M N' scope cl C s2 H2 fp) _ s8 _ H8 (.ref D) [y'] (.ref D) [z] (λ_ H9=>H9=upd H8 D (.lst (ys++ [y']))) I8 rfl (.cons r8 .nil) ⟨D,ys,y',rfl,rfl,hD8,hl8,rfl⟩) (λz9 s9 hzz=>?_) λ_ _ f=>f.elim)
    obtain⟨_,H9,I9,_,e9⟩:=hzz
    subst e9
    exact wpAny_pure (wpAny_pure ⟨rfl,m',hm',i+1,τ6,ys++ [y'],_,I9.unpinned,(fin I9).1,(fin I9).2,ag,w8⟩)
 exact codeAny_compStart_list (loop _ rfl) (T.self _ 0 _ _ _ st3 (loop _ rfl))
theorem Inv.loose {pins:List (Addr×Obj)} {s:Shared} {σ:St} {H:Hp} {C:Addr} {h':Heap} (I:Inv X pins σ H s) (l:By X pins H C) (sb:Heap.SameBut C s.heap h'):Inv X pins σ H {s with heap:=h'}:=
 I.turned (t':=s.toks) (λb o hb e=>(sb.2 b hb).trans e) l.no l.fr (.inr l.ab) l.ce l.pi
section
variable {elt iter tg:Expr} {ifs:List Expr} {M N':List Str} {y:Str} {py pos spos:Pos} {scope:Scope} {wi:TI} {g:TG} {tc:TT} {te:TE} {i:Nat}
theorem tj {B:St→VK→It→Hp→Prop} (hB:∀σ Q J H,B σ Q J H→vZ M.length g tc te σ Q J H) (hc:X.calm=true) (S:CScope X M N' scope) (hi:PI X tg iter wi) (hg:CScope X M N' scope→∀cl C s₂ H₂ fp,PG (cCx X M N' scope cl C s₂ H₂ fp) tg g) (hcn:∀cl C s₂ H₂ fp,PTs (cCx X M N' scope cl C s₂ H₂ fp) ifs tc) (he:∀cl C s₂ H₂ fp,PE (cCx X M N' scope cl C s₂ H₂ fp) elt te)
  (hs:∀x,foldedSetIterable iter X.env x=pure x:=by intro _;rfl):PE X (.ListComp elt [⟨tg,iter,ifs,0⟩] scope pos) (λσ H Q=>wi σ H (B σ Q)):=by
 intro pins s σ H Q I h
 obtain⟨cl,hclos,cl1,cl2⟩:=uY (env:=X.env) (scope:=scope) λp hp hf=>I.ok.has p.1 (.inl (S.free p hp hf))
 rw[eval_ListComp]
 refine wpAny_comprehension_free (use:=none) rfl hs hclos S.kind S.names (xj hc S hi (hg S) hcn he cl1 cl2 I h (hB _ _) λD C s4 H' I4 hn l q=>?_)
 obtain⟨m,hn⟩:=hn
 exact⟨m,hn,λh' sb=>⟨.ref D,H',I4.loose l sb,rfl,q⟩⟩
end
def u8 (te:TE) (σ:St) (Q:VK) (J:It) (H1:Hp):Prop:=∀D,H1 D=none→∃W:Nat→Nat→List V→Hp→Prop,(∃m,W 0 m [] (upd H1 D (.lst [])))∧∀i m ys H2,W i m ys H2→H2 D=some (.lst ys)→
 (J.stop i H2∧Q (.ref D) H2)∨(J.go i H2∧∀x H3,J.yld i H2 x H3→te (some x::σ) H3 λy H4=>H4 D=some (.lst ys)∧ys.length<sizeLine∧∃m',m'<m∧W (i+1) m' (ys++ [y]) (upd H4 D (.lst (ys++ [y]))))
def C4 (wi:TI) (te:TE):TE:=λσ H Q=>wi σ H (u8 te σ Q)
theorem Dz {te:TE} {σ:St} {Q:VK} {J:It} {H1:Hp} (h:u8 te σ Q J H1):vZ 1 (tT 0) A9 te σ Q J H1:=λD hD=>by
 obtain⟨W,⟨m0,w0⟩,turn⟩:=h D hD
 refine⟨λi m τ ys H=>(∃v,τ=v::σ)∧W i m ys H,⟨m0,⟨none,rfl⟩,w0⟩,λi m τ ys H2 w e=>?_⟩
 obtain⟨⟨v,rfl⟩,w⟩:=w
 rcases turn i m ys H2 w e with z|⟨go,z⟩
 ·exact .inl z
 ·refine .inr ⟨go,λx H3 y=>⟨λτ2 H4=>τ2=some x::σ∧H4=H3,λτ2 H4 e=>?_,rfl,rfl⟩⟩
  obtain⟨rfl,rfl⟩:=e
  refine⟨λy H6=>H6 D=some (.lst ys)∧ys.length<sizeLine∧∃m',m'<m∧W (i+1) m' (ys++ [y]) (upd H6 D (.lst (ys++ [y]))),λ_=>False,λy H6 n=>?_,λ_ n=>n.elim,?_⟩
  ·obtain⟨n1,n2,m',n3,n4⟩:=n
   exact⟨n1,n2,m',n3,⟨_,rfl⟩,n4⟩
  ·exact dj (B:=False) (z x _ y)
theorem ot {elt iter:Expr} {N':List Str} {x:Str} {px pos:Pos} {scope:Scope} {wi:TI} {te:TE} (hc:X.calm=true) (S:CScope X [x] N' scope) (hi:PI X (.Name x px) iter wi) (he:∀cl C s₂ H₂ fp,PE (cCx X [x] N' scope cl C s₂ H₂ fp) elt te)
  (hs:∀x,foldedSetIterable iter X.env x=pure x:=by intro _;rfl):PE X (.ListComp elt [⟨.Name x px,iter,[],0⟩] scope pos) (C4 wi te):=
 tj (B:=u8 te) (λ_ _ _ _=>Dz) hc S hi (λS _ _ _ _ _=>S.pg rfl) (λ_ _ _ _ _=>Ai) he hs
end
def sX (scope dsc:Scope):List (Str×NameKind):=scope.names.map λp=>if(p.2==NameKind.free&&dsc.kind==ScopeKind.function&&dsc.names.lookup p.1==some NameKind.cell)=true then(p.1,NameKind.cell)else(p.1,p.2)
def Bu (M N N':List Str) (dsc:Scope) (scope:Scope):Bool:=
 (scope.kind==ScopeKind.function)&&decide (M++N').Nodup&&(M.all λx=>scope.names.lookup x==some NameKind.local)&&(scope.names.all λy=>y.2 !=NameKind.cell)&&(scope.names.all λy=>y.2 !=NameKind.local||scope.names.lookup y.1==some NameKind.local)
 &&(scope.names.all λy=>y.2 !=NameKind.free||dsc.names.lookup y.1==some NameKind.cell)&&(N'.all λy=>(sX scope dsc).lookup y !=some NameKind.local&&(sX scope dsc).lookup y !=some NameKind.free)&&decide (N'.length=N.length)&&(N'.zip N).all λp=>p.1==p.2||(sX scope dsc).lookup p.1==none
theorem lK {dsc:Scope}:∀{l:List (Str×NameKind)} {y:Str} {k:NameKind},(∀p∈l,p.2≠NameKind.cell)→(l.map λp=>if(p.2==NameKind.free&&dsc.kind==ScopeKind.function&&dsc.names.lookup p.1==some NameKind.cell)=true then(p.1,NameKind.cell)else(p.1,p.2)).lookup y=some k→(k= .cell∨k= .free)→(y,NameKind.free)∈l
 | [],y,k,_,h,_=>by simp at h
 |(n,kk)::r,y,k,hn,h,hk=>by
  rw[Qs]at h
  by_cases c:(kk==NameKind.free&&dsc.kind==ScopeKind.function&&dsc.names.lookup n==some NameKind.cell)=true
  ·dsimp only at h
   rw[if_pos c,Zl]at h
   split at h
   ·rename_i z
    rw[beq_iff_eq]at z
    subst z
    have:kk= .free:=by
     rw[Zw,Zw]at c
     simpa using c.1.1
    rw[this]
    exact Qi
   ·exact Qf _ (lK (λp hp=>hn p (Qf _ hp)) h hk)
  ·dsimp only at h
   rw[if_neg c,Zl]at h
   split at h
   ·rename_i z
    rw[beq_iff_eq]at z
    subst z
    cases h
    rcases hk with e|e
    ·exact absurd e (hn _ Qi)
    ·rw[e];exact Qi
   ·exact Qf _ (lK (λp hp=>hn p (Qf _ hp)) h hk)
theorem CScope.of {X:Cx} {scope dsc:Scope} {M N N':List Str} (eN:X.N=N) (ed:X.env.scope=dsc) (h:Bu M N N' dsc scope=true):CScope X M N' scope:=by
 unfold Bu at h
 simp only[Zw]at h
 obtain⟨⟨⟨⟨⟨⟨⟨⟨h1,h2⟩,h3⟩,h4⟩,h5⟩,h6⟩,h7⟩,h8⟩,h9⟩:=h
 have hrel:(relabel scope X.env).names=sX scope dsc:=by rw[←ed];rfl
 have nocell:∀y∈scope.names,y.2≠NameKind.cell:=λy hy=>by have:=QV.mp h4 y hy;simpa using this
 refine⟨by simpa using h1,of_decide_eq_true h2,by rw[eN];exact of_decide_eq_true h8,λx hx=>by simpa using QV.mp h3 x hx,nocell,λy hy e=>?_,λy hy e=>?_,λj y hj v=>?_,λy e=>?_⟩
 ·have:=QV.mp h5 y hy
  rw[e]at this
  simpa using this
 ·have:=QV.mp h6 y hy
  rw[e]at this
  show X.env.scope.names.lookup y.1=_
  rw[ed]
  simpa using this
 ·have nl:=QV.mp h7 y (Q0 hj)
  have hz:∃z,N[j]?=some z∧(y,z)∈N'.zip N:=by
   have lj:=(Q2.mp hj).1
   have l8:N'.length=N.length:=of_decide_eq_true h8
   refine⟨N[j]'(by omega),Q3 _,?_⟩
   refine Q0 (i:=j) ?_
   rw[List.getElem?_zip_eq_some]
   exact⟨hj,Q3 _⟩
  obtain⟨z,hz,mz⟩:=hz
  have e9:=QV.mp h9 _ mz
  unfold Vis at v
  rw[hrel]at v⊢
  have nl:¬(sX scope dsc).lookup y=some NameKind.local∧¬(sX scope dsc).lookup y=some NameKind.free:=by simpa using nl
  rcases v with v|v|v
  ·exact absurd v nl.1
  ·refine⟨?_,lK nocell v (.inl rfl),v⟩
   rw[eN,hz]
   dsimp only at e9
   rw[v,Bool.or_eq_true]at e9
   rcases e9 with e9|e9
   ·rw[beq_iff_eq]at e9;rw[e9]
   ·cases e9
  ·exact absurd v nl.2
 ·have e:(sX scope dsc).lookup y=some .cell∨(sX scope dsc).lookup y=some .free:=by rw[←hrel];exact e
  rcases e with e|e
  ·exact lK nocell e (.inl rfl)
  ·exact lK nocell e (.inr rfl)
def CNext (n i:Nat) (ys:List V) (D:Addr) (Pv:Nat→List V→Hp→Prop):VK:=λy H4=>H4 D=some (.lst ys)∧ys.length<sizeLine∧∃m',m'<n-i∧m'=n-(i+1)∧i+1≤n∧Pv (i+1) (ys++ [y]) (upd H4 D (.lst (ys++ [y])))
theorem CNext.mk {n i:Nat} {ys:List V} {D:Addr} {Pv:Nat→List V→Hp→Prop} {y:V} {H4:Hp} (hi:i<n) (h1:H4 D=some (.lst ys)) (h2:ys.length<sizeLine) (h3:Pv (i+1) (ys++ [y]) (upd H4 D (.lst (ys++ [y])))):CNext n i ys D Pv y H4:=
 ⟨h1,h2,n-(i+1),by omega,rfl,hi,h3⟩
theorem xi {K:PySem.W.Frag} {a D:Addr} {xs:List V} {te:TE} {σ:St} {H1:Hp} {Fin:Hp→Prop} (Pv:Nat→List V→Hp→Prop) (h0:Pv 0 [] (upd H1 D (.lst []))) (hl:∀i ys H,i≤xs.length→Pv i ys H→SqL K H a xs)
  (hs:∀i x ys H2,xs[i]?=some x→Pv i ys H2→H2 D=some (.lst ys)→te (some x::σ) H2 (CNext xs.length i ys D Pv))
  (hd:∀ys H2,Pv xs.length ys H2→H2 D=some (.lst ys)→Fin H2):
  ∃W:Nat→Nat→List V→Hp→Prop,(∃m,W 0 m [] (upd H1 D (.lst [])))∧∀i m ys H2,W i m ys H2→H2 D=some (.lst ys)→
   ((Itl K a).stop i H2∧Fin H2)∨((Itl K a).go i H2∧∀x H3,(Itl K a).yld i H2 x H3→te (some x::σ) H3 λy H4=>H4 D=some (.lst ys)∧ys.length<sizeLine∧∃m',m'<m∧W (i+1) m' (ys++ [y]) (upd H4 D (.lst (ys++ [y])))):=by
 refine⟨λi m ys H=>m=xs.length-i∧i≤xs.length∧Pv i ys H,⟨xs.length,by simp,Qg _,h0⟩,?_⟩
 rintro i m ys H ⟨rfl,hi,p⟩ hD
 have q:=hl i ys H hi p
 by_cases lt:i<xs.length
 ·refine .inr ⟨⟨xs,xs[i],q,by simp[lt]⟩,λx H' y=>?_⟩
  obtain⟨e,y⟩:=y
  subst e
  exact hs i x ys _ (y xs q) p hD
 ·have e:i=xs.length:=by omega
  subst e
  exact .inl ⟨⟨xs,q,Q5 _⟩,hd ys H p hD⟩
theorem kU {lo:Int} {n:Nat} {D:Addr} {te:TE} {σ:St} {H1:Hp} {Fin:Hp→Prop} (Pv:Nat→List V→Hp→Prop) (h0:Pv 0 [] (upd H1 D (.lst [])))
  (hs:∀i ys H2,i<n→Pv i ys H2→H2 D=some (.lst ys)→te (some (.int (lo+i))::σ) H2 (CNext n i ys D Pv))
  (hd:∀ys H2,Pv n ys H2→H2 D=some (.lst ys)→Fin H2):
  ∃W:Nat→Nat→List V→Hp→Prop,(∃m,W 0 m [] (upd H1 D (.lst [])))∧∀i m ys H2,W i m ys H2→H2 D=some (.lst ys)→
   ((Itr lo n).stop i H2∧Fin H2)∨((Itr lo n).go i H2∧∀x H3,(Itr lo n).yld i H2 x H3→te (some x::σ) H3 λy H4=>H4 D=some (.lst ys)∧ys.length<sizeLine∧∃m',m'<m∧W (i+1) m' (ys++ [y]) (upd H4 D (.lst (ys++ [y])))):=by
 refine⟨λi m ys H=>m=n-i∧i≤n∧Pv i ys H,⟨n,by simp,Qg _,h0⟩,?_⟩
 rintro i m ys H ⟨rfl,hi,p⟩ hD
 by_cases lt:i<n
 ·refine .inr ⟨lt,λx H' y=>?_⟩
  obtain⟨e,y⟩:=y
  subst e y
  exact hs i ys _ lt p hD
 ·have e:i=n:=by omega
  subst e
  exact .inl ⟨Q5 _,hd ys H p hD⟩
end L2
namespace L2
open PySem PySem.Spec PyProof.Rows
def u7 (tc:TT) (te:TE) (σ:St) (Q:VK) (J:It) (H1:Hp):Prop:=∀D,H1 D=none→∃W:Nat→Nat→List V→Hp→Prop,(∃m,W 0 m [] (upd H1 D (.lst [])))∧∀i m ys H2,W i m ys H2→H2 D=some (.lst ys)→
 (J.stop i H2∧Q (.ref D) H2)∨(J.go i H2∧∀x H3,J.yld i H2 x H3→tc (some x::σ) H3 λb H4=>if b=true then te (some x::σ) H4 λy H5=>H5 D=some (.lst ys)∧ys.length<sizeLine∧∃m',m'<m∧W (i+1) m' (ys++ [y]) (upd H5 D (.lst (ys++ [y])))else H4 D=some (.lst ys)∧∃m',m'<m∧W (i+1) m' ys H4)
def BH (wi:TI) (tc:TT) (te:TE):TE:=λσ H Q=>wi σ H (u7 tc te σ Q)
theorem Dy {tc:TT} {te:TE} {σ:St} {Q:VK} {J:It} {H1:Hp} (h:u7 tc te σ Q J H1):vZ 1 (tT 0) tc te σ Q J H1:=λD hD=>by
 obtain⟨W,⟨m0,w0⟩,turn⟩:=h D hD
 refine⟨λi m τ ys H=>(∃v,τ=v::σ)∧W i m ys H,⟨m0,⟨none,rfl⟩,w0⟩,λi m τ ys H2 w e=>?_⟩
 obtain⟨⟨v,rfl⟩,w⟩:=w
 rcases turn i m ys H2 w e with z|⟨go,z⟩
 ·exact .inl z
 ·refine .inr ⟨go,λx H3 y=>⟨λτ2 H4=>τ2=some x::σ∧H4=H3,λτ2 H4 e=>?_,rfl,rfl⟩⟩
  obtain⟨rfl,rfl⟩:=e
  refine⟨_,_,λy H6 n=>?_,λH5 n=>?_,z x _ y⟩
  ·obtain⟨n1,n2,m',n3,n4⟩:=n
   exact⟨n1,n2,m',n3,⟨_,rfl⟩,n4⟩
  ·obtain⟨n1,m',n3,n4⟩:=n
   exact⟨n1,m',n3,⟨_,rfl⟩,n4⟩
section
variable {X:Cx}
theorem yg {elt iter cnd:Expr} {N':List Str} {x:Str} {px pos:Pos} {scope:Scope} {wi:TI} {te:TE} {tc:TT} (hc:X.calm=true) (S:CScope X [x] N' scope) (hi:PI X (.Name x px) iter wi) (hcn:∀cl C s₂ H₂ fp,PT (cCx X [x] N' scope cl C s₂ H₂ fp) cnd tc) (he:∀cl C s₂ H₂ fp,PE (cCx X [x] N' scope cl C s₂ H₂ fp) elt te)
  (hs:∀x,foldedSetIterable iter X.env x=pure x:=by intro _;rfl):PE X (.ListComp elt [⟨.Name x px,iter,[cnd],0⟩] scope pos) (BH wi tc te):=
 tj (B:=u7 tc te) (λ_ _ _ _=>Dy) hc S hi (λS _ _ _ _ _=>S.pg rfl) (λ_ _ _ _ _=>Ah (hcn _ _ _ _ _)) he hs
end
def CSkip (n i:Nat) (ys:List V) (D:Addr) (Pv:Nat→List V→Hp→Prop) (H4:Hp):Prop:=H4 D=some (.lst ys)∧∃m',m'<n-i∧m'=n-(i+1)∧i+1≤n∧Pv (i+1) ys H4
theorem CSkip.mk {n i:Nat} {ys:List V} {D:Addr} {Pv:Nat→List V→Hp→Prop} {H4:Hp} (hi:i<n) (h1:H4 D=some (.lst ys)) (h3:Pv (i+1) ys H4):CSkip n i ys D Pv H4:=⟨h1,n-(i+1),by omega,rfl,hi,h3⟩
theorem uX {K:PySem.W.Frag} {a D:Addr} {xs:List V} {te:TE} {tc:TT} {σ:St} {H1:Hp} {Fin:Hp→Prop} (Pv:Nat→List V→Hp→Prop) (h0:Pv 0 [] (upd H1 D (.lst []))) (hl:∀i ys H,i≤xs.length→Pv i ys H→SqL K H a xs)
  (hs:∀i x ys H2,xs[i]?=some x→Pv i ys H2→H2 D=some (.lst ys)→tc (some x::σ) H2 λb H4=>if b=true then te (some x::σ) H4 (CNext xs.length i ys D Pv)else CSkip xs.length i ys D Pv H4)
  (hd:∀ys H2,Pv xs.length ys H2→H2 D=some (.lst ys)→Fin H2):
  ∃W:Nat→Nat→List V→Hp→Prop,(∃m,W 0 m [] (upd H1 D (.lst [])))∧∀i m ys H2,W i m ys H2→H2 D=some (.lst ys)→
   ((Itl K a).stop i H2∧Fin H2)∨((Itl K a).go i H2∧∀x H3,(Itl K a).yld i H2 x H3→tc (some x::σ) H3 λb H4=>if b=true then te (some x::σ) H4 λy H5=>H5 D=some (.lst ys)∧ys.length<sizeLine∧∃m',m'<m∧W (i+1) m' (ys++ [y]) (upd H5 D (.lst (ys++ [y])))else H4 D=some (.lst ys)∧∃m',m'<m∧W (i+1) m' ys H4):=by
 refine⟨λi m ys H=>m=xs.length-i∧i≤xs.length∧Pv i ys H,⟨xs.length,by simp,Qg _,h0⟩,?_⟩
 rintro i m ys H ⟨rfl,hi,p⟩ hD
 have q:=hl i ys H hi p
 by_cases lt:i<xs.length
 ·refine .inr ⟨⟨xs,xs[i],q,by simp[lt]⟩,λx H' y=>?_⟩
  obtain⟨e,y⟩:=y
  subst e
  exact hs i x ys _ (y xs q) p hD
 ·have e:i=xs.length:=by omega
  subst e
  exact .inl ⟨⟨xs,q,Q5 _⟩,hd ys H p hD⟩
end L2
namespace L2
open PySem PySem.Spec PyProof.Rows
end L2
namespace L2
open PySem PySem.Spec PyProof.Rows
def vwO (a d:Addr):HO:= .ext λh=>h.IsItemsView a d
def Itd (ob:Obj) (d:Addr) (kvs:List (Key×V)):It:=
 ⟨λi H=>H d=some (.frz ob (.dK kvs))∧i<kvs.length,λi H x H'=>∃p k v,x= .ref p∧H p=none∧kvs[i]?=some (k,v)∧H'=upd H p (.tup [kV k,v]),λi H=>H d=some (.frz ob (.dK kvs))∧kvs.length≤i⟩
def DObj (P:Program) (w:World) (ob:Obj) (d:Addr) (kvs:List (Key×V)) (vs:List (Key×Value)) (ep:Nat):Prop:=
 KV kvs vs∧∀h:Heap,h.get? d=some ob→h.DictAt (a6 P w) d vs ep
theorem KV.getI {kvs:List (Key×V)} {vs:List (Key×Value)} (h:KV kvs vs):∀{i:Nat} {k:Key} {v:V},kvs[i]?=some (k,v)→∃u,vs[i]?=some (k,u)∧RelV v u:=by
 induction h with
 |nil=>intro i k v e;simp at e
 |cons r t ih=>
  rename_i p q ps qs
  intro i k v e
  cases i with
  |zero=>
   simp at e
   subst e
   exact⟨q.2,by simp[show k=q.1 from r.1],r.2⟩
  |succ j=>
   obtain⟨u,h1,h2⟩:=ih (i:=j) (by simpa using e)
   exact⟨u,by simpa using h1,h2⟩
theorem uo {P:Program} {w:World} {K:PySem.W.Frag} {elts:List Expr} {x1} {pos:Pos} {ob:Obj} {d:Addr} {kvs:List (Key×V)} {vs:List (Key×Value)} {ep:Nat} (it:Addr) (D:DObj P w ob d kvs vs ep):
  AR P w K (.Tuple elts x1 pos) (Itd ob d kvs) [it] it (λi h=>∃ok ov,IsItemIter h it d i vs.length ep ok ov) where
 mem:=by simp
 obj:=λi h st b hb=>by
  obtain⟨ok,ov,st⟩:=st
  have z:b=it:=by simpa using hb
  subst z
  exact⟨_,st,λv z=>by cases z⟩
 keep:=λi h h' st k=>by
  obtain⟨ok,ov,st⟩:=st
  exact⟨ok,ov,k it (by simp) _ st⟩
 item:=by
  intro X hP hw hK hc i pins s σ H E I hf st hg
  subst hP hw hK
  obtain⟨ok,ov,st⟩:=st
  obtain⟨hq,hi⟩:=hg
  have fi:=hf it (by simp)
  obtain⟨hob,_⟩:=I.hok d _ hq
  have hat:=D.2 s.heap hob
  obtain⟨⟨k,v⟩,hx⟩:∃kv,kvs[i]?=some kv:=⟨kvs[i],by simp[hi]⟩
  obtain⟨u,hu,ru⟩:=KV.getI D.1 hx
  refine wpAny_pyNext_items_item st hat hu λkey h' hkey g1 g3 gz g5=>⟨_,rfl,?_⟩
  refine wpAny_letOwnedTupleGo_items g1 λh2 k1 k2=>?_
  have rk:RelV (kV k) key:=vJ hkey
  have np:H s.heap.objs.size=none:=I.hok.fresh (Q5 _)
  have nit:s.heap.objs.size≠it:=X6 (Heap.lt_size st)
  have keep:∀b o,b≠it→s.heap.get? b=some o→h2.get? b=some o:=λb o z q=>(k2.2 b z).trans (g5 b o z q)
  have tupAt:h2.get? s.heap.objs.size=some {cls:= .type "tuple",data:= .seq #[key,u]}:=(k2.2 _ nit).trans g3
  have trk:∀b v,H b=some v→b≠it:=λb v q z=>by rw[z,fi.1]at q;cases q
  have un:Un (frs X.stack) [it] H (upd H s.heap.objs.size (.tup [kV k,v])) s.heap h2:=by
   refine⟨λb o q n hb hx=>keep b o (λz=>hx (by simp[z])) q,λb o q n hb hx=>⟨o.slots,keep b o (λz=>hx (by simp[z])) q⟩,λb o q n hx=>?_,
    λb o q hx=>⟨o,keep b o (λz=>hx (by simp[z])) q⟩,λb ys q=>?_,λb o v q=>?_,λb ps q=>⟨#[],?_⟩⟩
   ·rw[ac (Qz (Heap.lt_size q))];exact n
   ·rw[ac (am q np)];exact q
   ·rw[ac (am q np)];exact q
   ·rw[ac (am q np),q];simp
  have hok:HOk X.prog X.w (upd H s.heap.objs.size (.tup [kV k,v])) h2:=λb v' q=>by
   by_cases z:b=s.heap.objs.size
   ·subst z
    rw[ag]at q
    cases q
    exact⟨by show 2≤sizeLine;decide,[key,u],.cons rk (.cons ru .nil),_,tupAt,rfl,_,rfl⟩
   ·rw[ac z]at q
    refine(I.hok b v' q).stay (λc o hc r=>?_) (λc r=>by rw[ac (am r np)];exact r) λc ys r=>by rw[ac (am r np)];exact r
    rcases hc with rfl|hc
    ·exact keep _ _ (trk _ _ q) r
    ·exact keep _ _ (trk _ _ hc) r
  have I2:Inv X pins σ (upd H s.heap.objs.size (.tup [kV k,v])) {s with heap:=h2}:=I.call' (s':={s with heap:=h2}) rfl un hok I.bare λb hb=>by
   have z:jF X pins H b:=hf b hb
   exact⟨z.2.2.2.1,z.2.1,z.2.2.2.2.1,z.2.2.2.2.2⟩
  refine⟨.ref s.heap.objs.size,_,I2,rfl,⟨_,k,v,rfl,np,hx,rfl⟩,⟨key,u,k1⟩,λb hb=>?_⟩
  have z:b=it:=by simpa using hb
  subst z
  rw[ac (Ne.symm nit)]
  exact fi.1
 done:=by
  intro X hP hw hK hc i pins s σ H E I hf st hg
  subst hP hw hK
  obtain⟨ok,ov,st⟩:=st
  obtain⟨hq,hi⟩:=hg
  obtain⟨hob,_⟩:=I.hok d _ hq
  have hat:=D.2 s.heap hob
  obtain⟨f0,f1,f2,f3,f4,f5⟩:=hf it (by simp)
  have hl:kvs.length=vs.length:=D.1.length
  exact wpAny_pyNext_items_end (I.ok.hd hc) st hat (by simp;omega) λh' eb=>⟨rfl,I.turned (t':=s.toks) (λb o hb e=>eb b o hb e) f0 f1 f3 f4 f5⟩
 self:=λ_ _ _ _ _ st h=>let⟨_,_,st⟩:=st;PySem.W.kcp_self st h
section
variable {X:Cx}
def BL:V→List V→Hp→VK→Prop:=λx vs H Q=>∃d kvs,x= .ref d∧vs=[]∧H d=some (.dK kvs)∧∀a,H a=none→Q (.ref a) (upd H a (vwO a d))
theorem yq:MtR X "dict.items" BL:=by
 intro pins s σ H x vs v us Q I rx rv h
 obtain⟨d,kvs,rfl,rfl,hd,q⟩:=h
 cases rx
 cases rv
 obtain⟨z,lo,ws,rel,dd⟩:=j7 I.hok hd
 refine call_meetsIn PySem.F.slot_dict_items dd.typeIs PySem.F.entry_dict_items (PySem.F.args_dict_items_1 _) (meets_dict_items (a6 X.prog X.w) d lo) ⟨⟨ws,dd⟩,?_⟩
 have new:(s.heap.push {cls:= .type "dict_items",data:= .fields #[.ref d]}).get? s.heap.objs.size=some {cls:= .type "dict_items",data:= .fields #[.ref d]}:=Heap.get?_push_size _ rfl
 refine⟨.ref s.heap.objs.size,_,I.laid (t':=s.toks) (λb o e=>Heap.get?_push_of_some _ e) (Q5 _) (show ObjOk X.prog X.w _ _ _ (vwO s.heap.objs.size d) from⟨⟨_,new,rfl,rfl⟩,⟨_,new⟩,λh1 h2 p k=>?_⟩),rfl,q _ (I.hok.fresh (Q5 _))⟩
 obtain⟨o,e,c⟩:=p
 exact⟨o,k o e,c⟩
theorem Inv.freeze {pins:List (Addr×Obj)} {σ:St} {H:Hp} {s:Shared} {d:Addr} {kvs:List (Key×V)} {ob:Obj} (I:Inv X pins σ H s) (hd:H d=some (.dK kvs)) (ho:s.heap.get? d=some ob):Inv X pins σ (upd H d (.frz ob (.dK kvs))) s:=by
 have own:∀b y,H b=some (.own y)→upd H d (.frz ob (.dK kvs)) b=some (.own y):=λb y q=>by rw[ac (λz=>by rw[z,hd]at q;cases q)];exact q
 have tup:∀b xs,H b=some (.tup xs)→upd H d (.frz ob (.dK kvs)) b=some (.tup xs):=λb xs q=>by rw[ac (λz=>by rw[z,hd]at q;cases q)];exact q
 have non:∀b,H b=none→upd H d (.frz ob (.dK kvs)) b=none:=λb q=>by rw[ac (λz=>by rw[z,hd]at q;cases q)];exact q
 refine⟨I.ok,I.os,I.bare,⟨I.base.keep,I.base.slot,λb o e n hx=>non b (I.base.free b o e n hx),I.base.there,λb xs e=>tup b xs (I.base.tups b xs e),λb o u e=>?_,λb ps e=>?_⟩,I.loc,I.cell,non _ I.free,λx c e=>non c (I.freeC x c e),λp hp=>?_,λb o e=>?_,I.len⟩
 ·have:=I.base.frzs b o u e
  rw[ac (λz=>by rw[z,hd]at this;cases this)];exact this
 ·obtain⟨m,q⟩:=I.base.tbls b ps e
  exact⟨m,by rw[ac (λz=>by rw[z,hd]at q;cases q)];exact q⟩
 ·obtain⟨h1,h2,h3⟩:=I.pin p hp
  exact⟨h1,non _ h2,h3⟩
 ·by_cases z:b=d
  ·subst z
   rw[ag]at e
   cases e
   exact⟨ho,(I.hok b _ hd).stay (λ_ _ _ q=>q) (λc q=>own c b q) tup⟩
  ·rw[ac z]at e
   exact(I.hok b o e).stay (λ_ _ _ q=>q) (λc q=>own c b q) tup
theorem Inv.thaw {pins:List (Addr×Obj)} {σ:St} {H:Hp} {s:Shared} {d:Addr} {kvs:List (Key×V)} {ob:Obj} (I:Inv X pins σ H s) (hd:H d=some (.frz ob (.dK kvs))) (h0:∀o u,X.H₀ d≠some (.frz o u)):Inv X pins σ (upd H d (.dK kvs)) s:=by
 have own:∀b y,H b=some (.own y)→upd H d (.dK kvs) b=some (.own y):=λb y q=>by rw[ac (λz=>by rw[z,hd]at q;cases q)];exact q
 have tup:∀b xs,H b=some (.tup xs)→upd H d (.dK kvs) b=some (.tup xs):=λb xs q=>by rw[ac (λz=>by rw[z,hd]at q;cases q)];exact q
 have non:∀b,H b=none→upd H d (.dK kvs) b=none:=λb q=>by rw[ac (λz=>by rw[z,hd]at q;cases q)];exact q
 refine⟨I.ok,I.os,I.bare,⟨I.base.keep,I.base.slot,λb o e n hx=>non b (I.base.free b o e n hx),I.base.there,λb xs e=>tup b xs (I.base.tups b xs e),λb o u e=>?_,λb ps e=>?_⟩,I.loc,I.cell,non _ I.free,λx c e=>non c (I.freeC x c e),λp hp=>?_,λb o e=>?_,I.len⟩
 ·have:=I.base.frzs b o u e
  rw[ac (λz=>by rw[z]at e;exact h0 _ _ e)];exact this
 ·obtain⟨m,q⟩:=I.base.tbls b ps e
  exact⟨m,by rw[ac (λz=>by rw[z,hd]at q;cases q)];exact q⟩
 ·obtain⟨h1,h2,h3⟩:=I.pin p hp
  exact⟨h1,non _ h2,h3⟩
 ·by_cases z:b=d
  ·subst z
   rw[ag]at e
   cases e
   obtain⟨_,q⟩:=I.hok b _ hd
   exact ObjOk.stay (show ObjOk X.prog X.w H s.heap b (.dK kvs) from q) (λ_ _ _ q=>q) (λc q=>own c b q) tup
  ·rw[ac z]at e
   exact(I.hok b o e).stay (λ_ _ _ q=>q) (λc q=>own c b q) tup
theorem Inv.noFrz {pins:List (Addr×Obj)} {σ:St} {H:Hp} {s:Shared} {d:Addr} {kvs:List (Key×V)} (I:Inv X pins σ H s) (hd:H d=some (.dK kvs)):∀o u,X.H₀ d≠some (.frz o u):=λo u e=>by
 have:=I.base.frzs d o u e
 rw[hd]at this
 cases this
def Cj (te:TE):TI:=λσ H R=>te σ H λx H1=>∃a d kvs,x= .ref a∧H1 a=some (vwO a d)∧H1 d=some (.dK kvs)∧∀ob,R (Itd ob d kvs) (upd H1 d (.frz ob (.dK kvs)))
theorem yd {l:Expr} {te:TE} {elts:List Expr} {x1} {pos:Pos} (hl:PE X l te):PI X (.Tuple elts x1 pos) l (Cj te):=by
 intro pins s σ H R I h
 refine thn (hl pins s σ H _ I h) λv s1 hzz=>?_
 obtain⟨x,H1,I1,r1,q1⟩:=hzz
 obtain⟨a,d,kvs,e,ha,hd,q⟩:=q1
 subst e
 cases r1
 obtain⟨z,lo,vs,rel,dd⟩:=j7 I1.hok hd
 obtain⟨ep,hat⟩:=dd.dictAt
 obtain⟨vw,_,_⟩:=(show ObjOk X.prog X.w H1 s1.heap a (vwO a d) from I1.hok a _ ha)
 obtain⟨ob,es,hob,rest⟩:=id hat
 refine wpAny_pyIter_items vw hat ?_
 have If:=I1.freeze hd hob
 refine⟨s1.heap.objs.size,[s1.heap.objs.size],_,_,_,rfl,If.kept (t':=s1.toks) λb o e=>Heap.get?_push_of_some _ e,uo _ ⟨rel,λh e=>⟨ob,es,e,rest⟩⟩,⟨_,_,Heap.get?_push_size _ rfl⟩,λb hb=>?_,q ob⟩
 have e:b=s1.heap.objs.size:=by simpa using hb
 subst e
 exact If.fpOk (Q5 _) (If.hok.fresh (Q5 _))
def CU (t:TS):TS:=λD σ H=>∃d kvs,H d=some (.dK kvs)∧t ⟨λσ' H'=>∃ob,H' d=some (.frz ob (.dK kvs))∧D.nx σ' (upd H' d (.dK kvs)),λv H'=>∃ob,H' d=some (.frz ob (.dK kvs))∧D.rt v (upd H' d (.dK kvs)),
 λσ' H'=>∃ob,H' d=some (.frz ob (.dK kvs))∧D.bk σ' (upd H' d (.dK kvs)),λσ' H'=>∃ob,H' d=some (.frz ob (.dK kvs))∧D.ct σ' (upd H' d (.dK kvs))⟩ σ H
theorem Aj {st:Stmt} {t:TS} (h:PS X st t):PS X st (CU t):=by
 intro pins s σ H D I ⟨d,kvs,hd,q⟩
 have h0:=I.noFrz hd
 refine thn (h pins s σ H _ I q) λf s1 q1=>?_
 cases f with
 |next=>obtain⟨σ7,H7,I7,ob,e,q7⟩:=q1;exact⟨σ7,_,I7.thaw e h0,q7⟩
 |cont=>obtain⟨σ7,H7,I7,ob,e,q7⟩:=q1;exact⟨σ7,_,I7.thaw e h0,q7⟩
 |brk=>obtain⟨σ7,H7,I7,ob,e,q7⟩:=q1;exact⟨σ7,_,I7.thaw e h0,q7⟩
 |ret v=>obtain⟨x7,σ7,H7,I7,r7,ob,e,q7⟩:=q1;exact⟨x7,σ7,_,I7.thaw e h0,r7,q7⟩
end
theorem uV {ob:Obj} {d:Addr} {kvs:List (Key×V)} {g:TG} {tb:TS} {nx:St→Hp→Prop} {rt:VK} {σ:St} {H:Hp} (Pv:Nat→St→Hp→Prop) (h0:Pv 0 σ H) (hl:∀i σ H,i≤kvs.length→Pv i σ H→H d=some (.frz ob (.dK kvs)))
  (hs:∀i k v p σ H,kvs[i]?=some (k,v)→Pv i σ H→H p=none→g (.ref p) σ (upd H p (.tup [kV k,v])) λσ2 H2=>tb ⟨Pv (i+1),rt,nx,Pv (i+1)⟩ σ2 H2) (hd:∀σ H,Pv kvs.length σ H→nx σ H):
  ∃W:Nat→Nat→St→Hp→Prop,(∃m,W 0 m σ H)∧∀i m σ H,W i m σ H→
   ((Itd ob d kvs).stop i H∧nx σ H)∨((Itd ob d kvs).go i H∧∃N:St→Hp→Prop,(∀σ' H',N σ' H'→∃m',m'<m∧W (i+1) m' σ' H')∧∀x H',(Itd ob d kvs).yld i H x H'→g x σ H' λσ2 H2=>tb ⟨N,rt,nx,N⟩ σ2 H2):=by
 refine⟨λi m σ H=>m=kvs.length-i∧i≤kvs.length∧Pv i σ H,⟨kvs.length,by simp,Qg _,h0⟩,?_⟩
 rintro i m σ H ⟨rfl,hi,p⟩
 have q:=hl i σ H hi p
 by_cases lt:i<kvs.length
 ·refine .inr ⟨⟨q,lt⟩,Pv (i+1),λσ' H' z=>⟨kvs.length-(i+1),by omega,rfl,lt,z⟩,λx H' y=>?_⟩
  obtain⟨pp,k,v,rfl,np,e,rfl⟩:=y
  exact hs i k v pp σ H e p np
 ·have e:i=kvs.length:=by omega
  subst e
  exact .inl ⟨⟨q,Q5 _⟩,hd σ H p⟩
end L2
namespace L2
open PySem PySem.Spec PyProof.Rows
theorem Cr:bootBuiltins "sum"=some (.builtin "sum"):=by decide+kernel
section
variable {X:Cx} (K:PySem.W.Frag) (hK:X.K=K)
include hK
theorem yI:IxR X (rIxL K):=by subst hK;exact aN
end
end L2
namespace L2
open PySem PySem.Spec PyProof.Rows
theorem qO {y:Int}:∀{ns:List Int} {m:Nat},m<ns.idxOf y→(h:m<ns.length)→ns[m]≠y
 | [],m,_,h=>by simp at h
 |a::r,m,lt,h=>by
  rw[List.idxOf_cons]at lt
  by_cases c:a=y
  ·rw[c]at lt;simp at lt
  ·have:(a==y)=false:=beq_eq_false_iff_ne.mpr c
   rw[this]at lt
   cases m with
   |zero=>exact c
   |succ j=>exact qO (ns:=r) (m:=j) (by simpa using lt) (by simpa using h)
theorem qZ:∀(ns:List Int) (i:Nat),(ns.eraseIdx i).map V.int=(ns.map V.int).eraseIdx i
 | [],_=>rfl
 |_::_,0=>rfl
 |a::r,i+1=>by
  show V.int a::(r.eraseIdx i).map V.int=V.int a::(r.map V.int).eraseIdx i
  rw[qZ r i]
section
variable {X:Cx}
def Ae:V→List V→Hp→VK→Prop:=λx vs H Q=>∃(l:Addr) (xs:List V) (k:Int) (y:V),x= .ref l∧vs=[.int k,y]∧H l=some (.lst xs)∧0≤k∧k≤(xs.length:Int)∧xs.length<sizeLine∧Q .non (upd H l (.lst (xs.take k.toNat++y::xs.drop k.toNat)))
theorem qP:MtM X "list.insert" Ae:=by
 intro pins s σ H x vs v us Q I rx rv h
 obtain⟨l,xs,k,y,rfl,rfl,hH,h0,hk,hz,q⟩:=h
 cases rx
 obtain⟨u1,u,rfl,⟨t,rfl⟩,ru⟩:=rv.two
 obtain⟨z,its,n,r,hl,e⟩:=I.lstM hH
 have fits:¬(!Builtin.List.listFitsIndex k)=true:=by
  have line:=pL
  rw[fitsIndex_both (by omega) (by omega)]
  exact Q7
 have hsz:its.toArray.size≤sizeLine:=by rw[Qd];omega
 refine call_meets F.slot_list_insert ⟨_,e,rfl⟩ F.entry_list_insert (F.args_list_insert_3 _ _ _) (AutoListH.list_insert_list_int_val_1 l its.toArray n k t u fits hsz) ⟨e,?_⟩
 refine⟨.non,_,I.lset (its':=its.take k.toNat++u::its.drop k.toNat) hH e ?_ ((r.take k.toNat).append (.cons ru (r.drop k.toNat))) ?_,rfl,q⟩
 ·have e0:(if k<0 then(k+((its.toArray.size:Nat):Int)).toNat else min k.toNat its.toArray.size)=k.toNat:=by
   rw[if_neg (by omega),Qd]
   omega
  show(its.toArray.extract 0 _).push u++its.toArray.extract _=_
  rw[e0]
  simp
  exact QB (by rw[Qu];omega)
 ·rw[Qa,Qj,Qm,Qu]
  omega
def Ad:V→List V→Hp→VK→Prop:=λx vs H Q=>∃(l:Addr) (ns:List Int) (y:Int),x= .ref l∧vs=[.int y]∧H l=some (.lst (ns.map V.int))∧y∈ns∧Q .non (upd H l (.lst ((ns.erase y).map V.int)))
theorem wN:MtM X "list.remove" Ad:=by
 intro pins s σ H x vs v us Q I rx rv h
 obtain⟨l,ns,y,rfl,rfl,hH,hy,q⟩:=h
 cases rx
 obtain⟨u,rfl,ru⟩:=rv.one
 obtain⟨t,rfl⟩:=ru
 obtain⟨z,its,n,r,hl,e⟩:=I.lstM hH
 have hi:IntsAre its ns:=uR r
 have at_:∀(m:Nat) (hm:m<its.toArray.size),∃t',its.toArray[m]=Value.int (ns.getD m 0) t':=λm hm=>by
  have hm':m<ns.length:=by rw[Qd,←hl,Q1]at hm;exact hm
  obtain⟨w,hw,rw'⟩:=r.get (i:=m) (x:= .int (ns.getD m 0)) (by rw[QD,Q3 hm',Qv,Q3 hm'];rfl)
  obtain⟨t',rfl⟩:=rw'
  refine⟨t',?_⟩
  have:=(Q2.mp hw).2
  simpa using this
 have hx:ns.idxOf y<ns.length:=List.idxOf_lt_length_of_mem hy
 have ga:∀m,m<ns.length→ns.getD m 0=ns[m]!:=λm hm=>by simp[hm]
 refine call_meets F.slot_list_remove ⟨_,e,rfl⟩ F.entry_list_remove (F.args_list_remove_2 _ _) (MeetsSeq.list_remove l its.toArray n (.int y t) (λv=>match v with| .int i _=>i==y|_=>false) (λv hv=>?_) (ns.idxOf y) (by rw[Qd,←hl,Q1];exact hx) ?_ (λm hm lt=>?_) (by rw[Qd];omega)) ⟨e,?_⟩
 ·obtain⟨m,hm,em⟩:=Array.getElem_of_mem hv
  obtain⟨t',et⟩:=at_ m hm
  rw[←em,et]
  exact MeetsSeq.EqGives.int _ _ _ _
 ·obtain⟨t',et⟩:=at_ (ns.idxOf y) (by rw[Qd,←hl,Q1];exact hx)
  rw[et]
  show(ns.getD (ns.idxOf y) 0==y)=true
  rw[Qv,Q3 hx,Option.getD_some,List.getElem_idxOf hx]
  exact beq_self_eq_true y
 ·obtain⟨t',et⟩:=at_ m hm
  rw[et]
  show(ns.getD m 0==y)=false
  have hm':m<ns.length:=by omega
  rw[Qv,Q3 hm',Option.getD_some]
  exact beq_eq_false_iff_ne.mpr (λw=>qO lt hm' w)
 ·have ee:ns.erase y=ns.eraseIdx (ns.idxOf y):=(List.erase_eq_eraseIdx_of_idxOf rfl)
  have em:(ns.eraseIdx (ns.idxOf y)).map V.int=(ns.map V.int).eraseIdx (ns.idxOf y):=qZ _ _
  rw[ee,em]at q
  refine⟨.non,_,I.lset (its':=its.eraseIdx (ns.idxOf y)) hH e ?_ (r.eraseIdx (ns.idxOf y)) ?_,rfl,q⟩
  ·show its.toArray.eraseIdxIfInBounds (ns.idxOf y)=(its.eraseIdx (ns.idxOf y)).toArray
   rw[Xd]
  ·have:=mR (ns.map V.int) (ns.idxOf y)
   omega
end
end L2
namespace L2
open PySem PySem.Spec PyProof.Rows
section
variable {X:Cx} {tg:Expr}
theorem kX:g8 X (.type "dict") (λxs H Q=>∃d kvs,xs=[.ref d]∧H d=some (.dK kvs)∧∀p,H p=none→Q (.ref p) (upd H p (.dK kvs))):=by
 intro pins s σ H xs us Q I r h
 obtain⟨d,kvs,rfl,hd,q⟩:=h
 obtain⟨u,rfl,ru⟩:=oC r
 cases ru
 obtain⟨z,lo,vs,rel,dd⟩:=j7 I.hok hd
 refine kt_call_dict lo dd (by rw[←rel.length];exact z) λh' hm hs=>?_
 obtain⟨_,nm,_⟩:=tW (P:=X.prog) (w:=X.w) (H:=H) s.heap I.big
 refine⟨.ref s.heap.objs.size,_,I.laid (a:=s.heap.objs.size) (o:= .dK kvs) (t':=s.toks) (λb o e=>(hs.2 b (Qz (Heap.lt_size e))).trans (Heap.get?_push_of_some _ e)) (Q5 _) ⟨z,nm,vs,rel,hm⟩,rfl,q _ (I.hok.fresh (Q5 _))⟩
end
end L2
namespace L2
open PySem PySem.Spec PyProof.Rows
section
variable {X:Cx}
def Ac:V→List V→Hp→VK→Prop:=λx vs H Q=>∃a kvs k y,x= .ref a∧vs=[kV k,y]∧H a=some (.dK kvs)∧kvs.length<sizeLine∧(∀v,aO kvs k=some v→Q v H)∧(aO kvs k=none→Q y (upd H a (.dK (bi kvs k y))))
theorem wM:MtR X "dict.setdefault" Ac:=by
 intro pins s σ H x vs v us Q I rx rv h
 obtain⟨a,kvs,k,y,rfl,rfl,hH,hl,q1,q2⟩:=h
 cases rx
 obtain⟨u,r,rfl,ru,rr⟩:=sI rv
 obtain⟨z,hd,ws,rel,dd⟩:=j7 I.hok hH
 have rk:=rel.val k
 refine call_meetsIn Xi dd.typeIs PySem.F.entry_dict_setdefault (PySem.F.args_dict_setdefault_3 _ _ _) (kt_meets_setdefault (a6 X.prog X.w) a (qT ru) hd r) ⟨ws,dd,by rw[←rel.length];exact z,λv hv=>?_,λhn h' dd' hs=>?_⟩
 ·rw[hv]at rk
  cases e:aO kvs k with
  |none=>rw[e]at rk;exact rk.elim
  |some x=>
   rw[e]at rk
   exact⟨x,H,I.tok _,rk,q1 x e⟩
 ·rw[hn]at rk
  cases e:aO kvs k with
  |some x=>rw[e]at rk;exact rk.elim
  |none=>
   have he:∃q,h'.get? a=some q:=let⟨q,_,_,hq,_⟩:=dd';⟨q,hq⟩
   have lp:=b3 kvs k y
   exact⟨y,_,oy I (by rw[hH];exact True.intro) hs he (uW (by omega) hd (rel.put k rr) dd'),rr,q2 e⟩
end
end L2
namespace L2
open PySem PySem.Spec PyProof.Rows
end L2
namespace PySem
open PySem.Spec
end PySem
namespace PySem
open PySem.Spec
namespace F
end F
end PySem
namespace PySem
open PySem.Spec
end PySem
namespace L2
open PySem PySem.Spec PyProof.Rows
section
variable {X:Cx} {pins:List (Addr×Obj)} {s:Shared} {σ:St} {H:Hp}
def Dd:R2:=λx y H Q=>∃(a b:Addr) (ka kb:List (Key×V)),x= .ref a∧y= .ref b∧H a=some (.dK ka)∧H b=some (.dK kb)∧ka.length=kb.length∧(∀p∈ka,Fl p.2∧aO kb p.1=some p.2)∧Q (.bl true) H
theorem vV {A:Around} {kb:List (Key×V)} {wb:List (Key×Value)} (rb:KV kb wb):∀{ka:List (Key×V)} {wa:List (Key×Value)},KV ka wa→(∀p∈ka,Fl p.2∧aO kb p.1=some p.2)→PySem.W.KeqHits A s wb wa true
 | [],_,.nil,_=> .nil
 |(k,v)::r,(k',u)::wr,.cons h1 h2,g=>by
  obtain⟨f,e⟩:=g (k,v) Qi
  obtain⟨e1,rv⟩:=h1
  have e1:k=k':=e1
  subst e1
  obtain⟨y,hy,ry⟩:=RelO.some_of (v:=v) (o:=valueAt wb k) (by rw[←e];exact rb.val k)
  exact .hit (e:=true) (b:=true) hy (AC f rv ry) (vV rb h2 λq hq=>g q (Qf _ hq))
theorem Am (hu:X.A.units+20<cLine):OpR X (compareOp .Eq) Dd:=by
 intro pins s σ H x y v u Q I rx ry h
 obtain⟨a,b,ka,kb,rfl,rfl,ha,hb,l,g,q⟩:=h
 cases rx
 cases ry
 obtain⟨z,lo,vs,rel,dd⟩:=j7 I.hok ha
 obtain⟨z2,lo2,ws,rel2,dd2⟩:=j7 I.hok hb
 have l1:ka.length=vs.length:=rel.length
 have l2:kb.length=ws.length:=rel2.length
 have hl:vs.length=ws.length:=by omega
 refine PySem.W.keq_eq (r:=true) lo lo2 dd dd2 (by omega) (λe=>vV rel2 rel g) ⟨.bl true,H,I,?_,q⟩
 show Value.bool _=Value.bool _
 simp[hl]
end
end L2
namespace L2
open PySem PySem.Spec PyProof.Rows
section
variable {X:Cx}
def rNeE:R2:=λx y H Q=>∃(a b:Addr) (kvs:List (Key×V)),x= .ref a∧y= .ref b∧Rd H a (.dK kvs)∧Rd H b (.dK [])∧Q (.bl (!decide (kvs.length=0))) H
theorem BS (hu:X.A.units+20<cLine):OpR X (compareOp .NotEq) rNeE:=by
 intro pins s σ H x y v u Q I rx ry h
 obtain⟨a,b,kvs,rfl,rfl,ha,hb,q⟩:=h
 cases rx
 cases ry
 obtain⟨z,lo,vs,rel,dd⟩:=m8 I.hok ha
 obtain⟨z2,lo2,ws,rel2,dd2⟩:=m8 I.hok hb
 cases rel2
 have hlen:kvs.length=vs.length:=rel.length
 refine PySem.W.keq_ne (r:=true) lo lo2 dd dd2 (by omega) (λe=>?_) ⟨.bl (!decide (kvs.length=0)),H,I,?_,q⟩
 ·have:vs=[]:=ZN.mp e
  rw[this]
  exact .nil
 ·show Value.bool _=Value.bool _
  rw[hlen]
  congr 1
  cases vs<;>simp
end
end L2
namespace L2
open PySem PySem.Spec PyProof.Rows
def vwV (a d:Addr):HO:= .ext λh=>h.IsValuesView a d
section
variable {X:Cx} {tg:Expr}
def C8:V→List V→Hp→VK→Prop:=λx vs H Q=>∃d kvs,x= .ref d∧vs=[]∧H d=some (.dK kvs)∧∀a,H a=none→Q (.ref a) (upd H a (vwV a d))
theorem wL:MtR X "dict.values" C8:=by
 intro pins s σ H x vs v us Q I rx rv h
 obtain⟨d,kvs,rfl,rfl,hd,q⟩:=h
 cases rx
 cases rv
 obtain⟨z,lo,ws,rel,dd⟩:=j7 I.hok hd
 refine call_meetsIn PySem.F.slot_dict_values dd.typeIs PySem.F.entry_dict_values (PySem.F.args_dict_values_1 _) (meets_dict_values (a6 X.prog X.w) d lo) ⟨⟨ws,dd⟩,?_⟩
 have new:(s.heap.push {cls:= .type "dict_values",data:= .fields #[.ref d]}).get? s.heap.objs.size=some {cls:= .type "dict_values",data:= .fields #[.ref d]}:=Heap.get?_push_size _ rfl
 refine⟨.ref s.heap.objs.size,_,I.laid (t':=s.toks) (λb o e=>Heap.get?_push_of_some _ e) (Q5 _) (show ObjOk X.prog X.w _ _ _ (vwV s.heap.objs.size d) from⟨⟨_,new,rfl,rfl⟩,⟨_,new⟩,λh1 h2 p k=>?_⟩),rfl,q _ (I.hok.fresh (Q5 _))⟩
 obtain⟨o,e,c⟩:=p
 exact⟨o,k o e,c⟩
end
end L2
namespace L2
open PySem PySem.Spec PyProof.Rows
section
variable {X:Cx}
theorem vj:∀{kvs:List (Key×V)} {vs:List (Key×Value)} {ns:List Int},KV kvs vs→kvs.map (·.2)=ns.map V.int→∀(i:Nat) (k:Key) (v:Value),vs[i]?=some (k,v)→∃t:Tok,v= .int (ns.getD i 0) t
 | [],_,_,.nil,_,i,k,v,h=>by cases i<;>cases h
 |p::r,_,ns,.cons h1 h2,e,i,k,v,h=>by
  cases ns with
  |nil=>cases e
  |cons n ns=>
   obtain⟨e1,e2⟩:=List.cons.inj e
   cases i with
   |zero=>
    cases h
    have e1:p.2= .int n:=e1
    have:=h1.2
    rw[e1]at this
    exact this
   |succ i=>exact vj h2 e2 i k v h
theorem xX:∀ns:List Int,preSum (λi=>ns.getD i 0) ns.length=ns.sum
 | []=>rfl
 |n::r=>by
  rw[Qj,PySem.W.kdu_shift,List.sum_cons,←xX r]
  rfl
theorem xk (hh:X.A.handled=none):g8 X (.builtin "sum") (λxs H Q=>∃(a d:Addr) (kvs:List (Key×V)) (ns:List Int),xs=[.ref a]∧H a=some (vwV a d)∧H d=some (.dK kvs)∧kvs.map (·.2)=ns.map V.int∧Q (.int ns.sum) H):=by
 intro pins s σ H xs us Q I r h
 obtain⟨a,d,kvs,ns,rfl,ha,hd,hns,q⟩:=h
 obtain⟨u,rfl,ru⟩:=oC r
 cases ru
 obtain⟨z,lo,vs,rel,dd⟩:=j7 I.hok hd
 obtain⟨ep,hat⟩:=dd.dictAt
 obtain⟨vw,_,_⟩:=(show ObjOk X.prog X.w H s.heap a (vwV a d) from I.hok a _ ha)
 have S:=PySem.W.kdl_values (prog:=X.prog) (w:=X.w) (r:=a) (d:=d) (knd:=a6 X.prog X.w) (kvs:=vs) (ep:=ep)
 have ok:s.heap.IsValuesView a d∧s.heap.DictAt (a6 X.prog X.w) d vs ep:=⟨vw,hat⟩
 have l1:vs.length=ns.length:=by
  have h1:=rel.length
  have h2:=congrArg List.length hns
  rw[Q1,Q1]at h2
  omega
 refine call_sum_walkAnyS ?_
 obtain⟨oI,St,hit,W,st⟩:=S.iter X.A.in1 s hh ok
 refine hit _ _ ⟨s.heap.objs.size,_,_,_,vs.length,_,_,(λi=>ns.getD i 0),rfl,W.toS,st,λb hb=>?_,λi v ⟨k,e⟩=>vj rel hns i k v e,λs' t' hm=>?_⟩
 ·show b<(s.heap.push oI).objs.size
  rw[size_push']
  rcases Qh.mp hb with e|hb
  ·rw[e];exact ZL _
  ·rw[Q8.mp hb];exact Nat.lt_succ_of_lt (S.there _ ok).2
 ·have hk:∀b o,s.heap.get? b=some o→s'.heap.get? b=some o:=λb o e=>
   hm.heap b o (λhI=>absurd (Heap.lt_size e) (by rw[Q8.mp hI];exact Z5 _)) (Heap.get?_push_of_some _ e)
  rw[Moved.eq_with hm,l1,xX]
  exact⟨.int _,H,I.kept (t':=s'.toks) hk,⟨t',rfl⟩,q⟩
end
end L2
namespace L2
open PySem PySem.Spec PyProof.Rows
end L2
namespace L2
open PySem PySem.Spec PyProof.Rows
end L2
namespace L2
open PySem PySem.Spec PyProof.Rows
end L2
namespace L2
open PySem PySem.Spec PyProof.Rows
end L2
namespace L2
open PySem PySem.Spec PyProof.Rows
end L2
namespace SW
open PySem L2
set_option maxHeartbeats 0
structure Txt (K:PySem.W.Frag) (mg:Str→Option Value) (t:Adr):Prop where
 As:mg "WalkError"=some (.ref t.aU)
 D8:mg "NoToken"=some (.ref t.jP)
 lY:mg "OutOfTurn"=some (.ref t.bD)
 Ea:mg "NoKey"=some (.ref t.vY)
 D6:mg "Twice"=some (.ref t.vX)
 D7:mg "TooOld"=some (.ref t.t4)
 D9:mg "NoMoment"=some (.ref t.pV)
 tM:mg "Token"=some (.ref t.iG)
 BY:mg "BySlots"=some (.ref t.bz)
 DO:mg "Up"=some (.ref t.oj)
 DF:mg "Down"=some (.ref t.d9)
 CN:mg "Copier"=some (.ref t.bc)
 CM:mg "Leaves"=some (.ref t.bE)
 Dm:mg "Makes"=some (.ref t.iH)
 Dl:mg "Slots"=some (.ref t.a8)
 Dn:mg "House"=some (.ref t.aB)
 Ev:Fun K "__init__" "NoKey.__init__" jY t.zH t.j9
 Eh:Binds K t.j9 ["self","key"] []
 Es:Fun K "__init__" "Twice.__init__" jX t.zG t.j8
 Ee:Binds K t.j8 ["self","key"] []
 Et:Fun K "__init__" "TooOld.__init__" i4 t.zi t.jt
 Ef:Binds K t.jt ["self","moment"] []
 Eu:Fun K "__init__" "NoMoment.__init__" gO t.xt t.gV
 Eg:Binds K t.gV ["self","moment"] []
 Do:mg "turned"=some (.ref t.t7)
 zm:Fun K "turned" "turned" o9 t.t7 t.pT
 DA:Binds K t.pT ["number"] []
 wR:mg "mark_of"=some (.ref t.rA)
 rE:Fun K "mark_of" "mark_of" mH t.rA t.mX
 xp:Binds K t.mX ["key"] []
 BZ:mg "place_of"=some (.ref t.pX)
 va:Fun K "place_of" "place_of" kF t.pX t.kR
 Cw:Binds K t.kR ["key"] []
 qR:mg "slot_of"=some (.ref t.rq)
 m5:Fun K "slot_of" "slot_of" mG t.rq t.mW
 rn:Binds K t.mW ["key","size"] []
 B0:mg "is_whole"=some (.ref t.pY)
 vb:Fun K "is_whole" "is_whole" kG t.pY t.kS
 Cy:Binds K t.kS ["thing"] []
 gS:mg "is_from"=some (.ref t.rC)
 eQ:Fun K "is_from" "is_from" mJ t.rC t.mZ
 gW:Binds K t.mZ ["thing","low"] []
 wQ:mg "word_of"=some (.ref t.rp)
 rD:Fun K "word_of" "word_of" mF t.rp t.mV
 xo:Binds K t.mV ["bound"] []
 gN:Fun K "__init__" "Token.__init__" gb t.gM t.gx
 ke:Binds K t.gx ["self","kind","at","end"] []
 zn:Fun K "words" "Token.words" eY t.b6 t.fF
 aX:Binds K t.fF ["self"] []
 xJ:FunD K "__init__" "BySlots.__init__" dW t.iQ t.bR
 xG:Binds K t.bR ["self","at","end"] []
 Er:iJ K t.bR ["self","at","end"] [(.int (65536))]
 En:iJ K t.bR ["self","at","end"] [(.int (0)),(.int (65536))]
 xz:Fun K "holds" "BySlots.holds" dw t.g7 t.dI
 m4:Binds K t.dI ["self","key"] []
 CJ:FunD K "__init__" "Up.__init__" kH t.p4 t.fE
 CA:Binds K t.fE ["self","at","end"] []
 Eo:iJ K t.fE ["self","at","end"] [.non]
 El:iJ K t.fE ["self","at","end"] [(.int (0)),.non]
 Bz:Fun K "holds" "Up.holds" iZ t.nB t.js
 t5:Binds K t.js ["self","key"] []
 AX:FunD K "__init__" "Down.__init__" ii t.mq t.de
 AN:Binds K t.de ["self","at","end"] []
 Ep:iJ K t.de ["self","at","end"] [(.int (0))]
 Em:iJ K t.de ["self","at","end"] [.non,(.int (0))]
 zR:Fun K "holds" "Down.holds" gl t.ku t.gK
 qB:Binds K t.gK ["self","key"] []
 CO:mg "is_left"=some (.ref t.rB)
 xu:Fun K "is_left" "is_left" mI t.rB t.mY
 CP:Binds K t.mY ["token","key"] []
 zr:FunD K "__init__" "Copier.__init__" fc t.jD t.dh
 Ek:Binds K t.dh ["self","house","token","stopped"] []
 ol:iJ K t.dh ["self","house","token","stopped"] [.non]
 ui:FunD K "read_page" "Copier.read_page" cm t.eF t.bG
 Ej:Binds K t.bG ["self","many"] []
 jx:iJ K t.bG ["self","many"] [(.int (10))]
 ub:Fun K "close_page" "Copier.close_page" bY t.dR t.b5
 t6:Binds K t.b5 ["self"] []
 xw:Fun K "follow" "Copier.follow" dt t.gZ t.dG
 xq:Binds K t.dG ["self","steps"] []
 zt:Fun K "copy" "Copier.copy" fg t.jE t.fI
 zg:Binds K t.fI ["self"] []
 xy:Fun K "covers" "Copier.covers" du t.g6 t.dH
 xr:Binds K t.dH ["self","key"] []
 xI:Fun K "place" "Copier.place" dU t.iP t.d8
 xF:Binds K t.d8 ["self"] []
 zq:Fun K "left" "Copier.left" e8 t.jC t.fH
 pW:Binds K t.fH ["self"] []
 xH:Fun K "total" "Copier.total" dS t.iO t.d7
 xE:Binds K t.d7 ["self"] []
 wk:Fun K "stopped" "Copier.stopped" cV t.f9 t.dg
 v9:Binds K t.dg ["self"] []
 zo:Fun K "__init__" "Leaves.__init__" eZ t.jA t.fG
 ze:Binds K t.fG ["self"] []
 zN:Fun K "add" "Leaves.add" dJ t.ko t.gG
 zD:Binds K t.gG ["self","key"] []
 wg:Fun K "discard" "Leaves.discard" cT t.fZ t.c7
 v6:Binds K t.c7 ["self","key"] []
 zM:Fun K "has" "Leaves.has" gh t.km t.gF
 qz:Binds K t.gF ["self","key"] []
 Ew:Fun K "many" "Leaves.many" i5 t.p5 t.ju
 Ei:Binds K t.ju ["self"] []
 wf:Fun K "leaf_of" "Leaves.leaf_of" cR t.fY t.c6
 fX:Binds K t.c6 ["self","key"] []
 uh:Fun K "part_leaf" "Leaves.part_leaf" cf t.eE t.cr
 ug:Binds K t.cr ["self","at"] []
 ua:Fun K "join_small" "Leaves.join_small" bX t.dQ t.b4
 jw:Binds K t.b4 ["self","at"] []
 zL:Fun K "__init__" "Makes.__init__" gg t.kj t.gE
 zC:Binds K t.gE ["self"] []
 zK:Fun K "note" "Makes.note" gf t.kh t.gB
 zB:Binds K t.gB ["self","moment","value"] []
 m6:mg "empty_row"=some (.ref t.nq)
 jG:Fun K "empty_row" "empty_row" fP t.nq t.jq
 ni:Binds K t.jq ["size"] []
 zI:Fun K "__init__" "Slots.__init__" gc t.kf t.gy
 zy:Binds K t.gy ["self"] []
 AU:Fun K "put" "Slots.put" hZ t.ml t.iD
 AL:Binds K t.iD ["self","key","value"] []
 zJ:Fun K "drop" "Slots.drop" gd t.kg t.gA
 zA:Binds K t.gA ["self","key"] []
 AV:Fun K "has" "Slots.has" ie t.mm t.iE
 sA:Binds K t.iE ["self","key"] []
 xv:Fun K "cell_of" "Slots.cell_of" dq t.gY t.dF
 gX:Binds K t.dF ["self","key"] []
 vd:Fun K "move_slot" "Slots.move_slot" cE t.fK t.cK
 kZ:Binds K t.cK ["self"] []
 ve:Fun K "begin_row" "Slots.begin_row" cG t.fL t.cM
 k7:Binds K t.cM ["self"] []
 zO:Fun K "__init__" "House.__init__" gi t.kq t.gH
 zE:Binds K t.gH ["self"] []
 AW:Fun K "put" "House.put" ig t.mn t.iF
 AM:Binds K t.iF ["self","key","value"] []
 zP:Fun K "drop" "House.drop" gj t.kr t.gI
 zF:Binds K t.gI ["self","key"] []
 wj:Fun K "lay_mark" "House.lay_mark" cU t.f8 t.c8
 v8:Binds K t.c8 ["self"] []
 zp:FunD K "diary" "House.diary" e7 t.jB t.db
 zf:Binds K t.db ["self","low"] []
 bS:iJ K t.db ["self","low"] [(.int (0))]
 zQ:Fun K "done" "House.done" gk t.kt t.gJ
 qA:Binds K t.gJ ["self","row","value"] []
 jo:mg "_law_cell_at"=some (.ref t.jz)
 fO:Fun K "_law_cell_at" "_law_cell_at" eX t.jz t.fB
 jv:Binds K t.fB ["_law_script","_law_k"] []
 r6:mg "_law_mixed"=some (.ref t.mi)
 mr:Fun K "_law_mixed" "_law_mixed" hW t.mi t.iB
 sw:Binds K t.iB ["_law_cell","_law_k"] []
 B6:mg "_law_run"=some (.ref t.pZ)
 vc:Fun K "_law_run" "_law_run" eV t.pZ t.kT
 Cz:Binds K t.kT ["_law_cell"] []
 Br:mg "_law_deed"=some (.ref t.nu)
 t9:Fun K "_law_deed" "_law_deed" iY t.nu t.jr
 Bv:Binds K t.jr ["_law_house_here","_law_kept","_law_cell"] []
 Ax:mg "_law_house"=some (.ref t.mj)
 sE:Fun K "_law_house" "_law_house" hX t.mj t.iC
 AK:Binds K t.iC ["_law_cells"] []
 ue:mg "_law_numbers_told"=some (.ref t.eD)
 jW:Fun K "_law_numbers_told" "_law_numbers_told" cc t.eD t.cq
 uf:Binds K t.cq ["_law_kind","_law_cell"] []
 yz:mg "_law_numbers"=some (.ref t.jy)
 p6:Fun K "_law_numbers" "_law_numbers" eW t.jy t.fA
 zd:Binds K t.fA ["_law_cell","_law_keys"] []
 Aw:mg "_law_token"=some (.ref t.mh)
 sD:Fun K "_law_token" "_law_token" hV t.mh t.iA
 AJ:Binds K t.iA ["_law_numbers_here"] []
 kO:mg "_law_out_of_turn"=some (.ref t.fJ)
 fN:Fun K "_law_out_of_turn" "_law_out_of_turn" cz t.fJ t.cJ
 kY:Binds K t.cJ ["_law_copier","_law_way"] []
 DP:mg "law"=some (.ref t.Bw)
 DB:Fun K "law" "law" vp t.Bw t.vW
 b_law:Binds K t.vW ["_law_script"] []
 zT:XCls K t.aU (([]:List Addr).map Value.ref++vBase)
 DS:XCls K t.jP (([t.aU]:List Addr).map Value.ref++vBase)
 bJ:XCls K t.bD (([t.aU]:List Addr).map Value.ref++vBase)
 zS:XIs K t.bD
 qw:PySem.W.findIn K (.ref t.bD) "__init__"=some (some (.builtin "ValueError.__init__"))
 D4:NoAttr K t.vY "key"
 DU:XCls K t.vY (([t.aU]:List Addr).map Value.ref++vBase)
 DX:NoAttr K t.vX "key"
 DQ:XCls K t.vX (([t.aU]:List Addr).map Value.ref++vBase)
 DY:NoAttr K t.t4 "moment"
 DR:XCls K t.t4 (([t.aU]:List Addr).map Value.ref++vBase)
 D3:NoAttr K t.pV "moment"
 DT:XCls K t.pV (([t.aU]:List Addr).map Value.ref++vBase)
 DZ:NoAttr K t.iG "kind"
 D2:NoAttr K t.iG "at"
 D0:NoAttr K t.iG "end"
 Ed:Cls K t.iG
 D5:Mk K t.iG t.gM
 Eb:bF K t.iG "words" t.b6
 oe:NoAttr K t.bz "kind"
 j4:NoAttr K t.bz "at"
 jk:NoAttr K t.bz "end"
 bM:Cls K t.bz
 BX:Mk K t.bz t.iQ
 dD:bF K t.bz "words" t.b6
 mQ:bF K t.bz "holds" t.g7
 uL:NoAttr K t.oj "kind"
 pG:NoAttr K t.oj "at"
 jL:NoAttr K t.oj "end"
 iN:Cls K t.oj
 DN:Mk K t.oj t.p4
 jm:bF K t.oj "words" t.b6
 tN:bF K t.oj "holds" t.nB
 rW:NoAttr K t.d9 "kind"
 iu:NoAttr K t.d9 "at"
 ji:NoAttr K t.d9 "end"
 cy:Cls K t.d9
 DE:Mk K t.d9 t.mq
 gw:bF K t.d9 "words" t.b6
 qu:bF K t.d9 "holds" t.ku
 n6:NoAttr K t.bc "house"
 n8:NoAttr K t.bc "first"
 fu:NoAttr K t.bc "rest"
 bL:NoAttr K t.bc "followed"
 dB:NoAttr K t.bc "copied"
 jj:NoAttr K t.bc "page"
 aJ:Cls K t.bc
 CL:Mk K t.bc t.jD
 ud:bF K t.bc "read_page" t.eF
 tO:bF K t.bc "close_page" t.dR
 wO:bF K t.bc "follow" t.gZ
 yw:bF K t.bc "copy" t.jE
 wP:bF K t.bc "covers" t.g6
 xC:bF K t.bc "place" t.iP
 pK:bF K t.bc "left" t.jC
 xB:bF K t.bc "total" t.iO
 vG:bF K t.bc "stopped" t.f9
 ar:NoAttr K t.bE "leaves"
 aH:Cls K t.bE
 CK:Mk K t.bE t.jA
 zw:bF K t.bE "add" t.ko
 vE:bF K t.bE "discard" t.fZ
 qr:bF K t.bE "has" t.km
 Ec:bF K t.bE "many" t.p5
 fS:bF K t.bE "leaf_of" t.fY
 uc:bF K t.bE "part_leaf" t.eE
 jn:bF K t.bE "join_small" t.dQ
 qp:NoAttr K t.iH "made"
 tZ:Cls K t.iH
 Dj:Mk K t.iH t.kj
 zv:bF K t.iH "note" t.kh
 aR:NoAttr K t.a8 "table"
 br:NoAttr K t.a8 "shifted"
 bj:NoAttr K t.a8 "kept"
 aA:Cls K t.a8
 Di:Mk K t.a8 t.kf
 Au:bF K t.a8 "put" t.ml
 zu:bF K t.a8 "drop" t.kg
 rY:bF K t.a8 "has" t.mm
 gR:bF K t.a8 "cell_of" t.gY
 kM:bF K t.a8 "move_slot" t.fK
 kN:bF K t.a8 "begin_row" t.fL
 ir:NoAttr K t.aB "now"
 yp:NoAttr K t.aB "floor"
 fq:NoAttr K t.aB "slots"
 iM:NoAttr K t.aB "leaves"
 dA:NoAttr K t.aB "written"
 ft:NoAttr K t.aB "marks"
 qq:NoAttr K t.aB "past"
 wK:NoAttr K t.aB "holders"
 aL:Cls K t.aB
 Dk:Mk K t.aB t.kq
 Av:bF K t.aB "put" t.mn
 zx:bF K t.aB "drop" t.kr
 vF:bF K t.aB "lay_mark" t.f8
 fw:bF K t.aB "diary" t.jB
 qt:bF K t.aB "done" t.kt
 j3:zk K t.iG "__init__" (.ref t.gM)
 DW:zk K t.aU "__init__" (.builtin "ValueError.__init__")
 rG:PySem.W.subIn K (.ref t.bD) (.ref t.bD)=some true
 rF:PySem.W.subIn K (.ref t.bD) (.ref t.aU)=some true
 DI:∃tk,mg "BITS"=some (.int 16 tk)
 yR:∃tk,mg "PLACES"=some (.int 65536 tk)
 yS:∃tk,mg "MOST_IN_LEAF"=some (.int 8 tk)
 yT:∃tk,mg "LEAST_IN_TWO"=some (.int 5 tk)
 sk:∃tk,mg "LEAST_SIZE"=some (.int 4 tk)
 xD:∃tk,mg "GREATEST_SIZE"=some (.int 256 tk)
 DH:mg "bool"=none
 xK:mg "dict"=none
 DM:mg "int"=none
 lf:mg "isinstance"=none
 bN:mg "len"=none
 DG:mg "list"=none
 CS:mg "max"=none
 DL:mg "min"=none
 k8:mg "range"=none
 CQ:mg "sorted"=none
 DK:mg "str"=none
 DJ:mg "sum"=none
theorem sc_turned:ao ["number","told","rest","step"] ["number"] (aj o9):=⟨rfl,rfl,rfl,by decide+kernel,rfl,by decide+kernel,by decide+kernel⟩
theorem uA:ao ["key"] ["key"] (aj mH):=⟨rfl,rfl,rfl,by decide+kernel,rfl,by decide+kernel,by decide+kernel⟩
theorem sT:ao ["key"] ["key"] (aj kF):=⟨rfl,rfl,rfl,by decide+kernel,rfl,by decide+kernel,by decide+kernel⟩
theorem uz:ao ["key","size"] ["key","size"] (aj mG):=⟨rfl,rfl,rfl,by decide+kernel,rfl,by decide+kernel,by decide+kernel⟩
theorem sU:ao ["thing"] ["thing"] (aj kG):=⟨rfl,rfl,rfl,by decide+kernel,rfl,by decide+kernel,by decide+kernel⟩
theorem uC:ao ["thing","low"] ["thing","low"] (aj mJ):=⟨rfl,rfl,rfl,by decide+kernel,rfl,by decide+kernel,by decide+kernel⟩
theorem uy:ao ["bound"] ["bound"] (aj mF):=⟨rfl,rfl,rfl,by decide+kernel,rfl,by decide+kernel,by decide+kernel⟩
theorem oV:ao ["self","kind","at","end"] ["self","kind","at","end"] (aj gb):=⟨rfl,rfl,rfl,by decide+kernel,rfl,by decide+kernel,by decide+kernel⟩
theorem nN:ao ["self"] ["self"] (aj eY):=⟨rfl,rfl,rfl,by decide+kernel,rfl,by decide+kernel,by decide+kernel⟩
theorem mE:ao ["self","at","end"] ["self","at","end"] (aj dW):=⟨rfl,rfl,rfl,by decide+kernel,rfl,by decide+kernel,by decide+kernel⟩
theorem lJ:ao ["self","key"] ["self","key"] (aj dw):=⟨rfl,rfl,rfl,by decide+kernel,rfl,by decide+kernel,by decide+kernel⟩
theorem sV:ao ["self","at","end"] ["self","at","end"] (aj kH):=⟨rfl,rfl,rfl,by decide+kernel,rfl,by decide+kernel,by decide+kernel⟩
theorem rN:ao ["self","key"] ["self","key"] (aj iZ):=⟨rfl,rfl,rfl,by decide+kernel,rfl,by decide+kernel,by decide+kernel⟩
theorem qi:ao ["self","at","end"] ["self","at","end"] (aj ii):=⟨rfl,rfl,rfl,by decide+kernel,rfl,by decide+kernel,by decide+kernel⟩
theorem o8:ao ["self","key"] ["self","key"] (aj gl):=⟨rfl,rfl,rfl,by decide+kernel,rfl,by decide+kernel,by decide+kernel⟩
theorem uB:ao ["token","key"] ["token","key"] (aj mI):=⟨rfl,rfl,rfl,by decide+kernel,rfl,by decide+kernel,by decide+kernel⟩
theorem sc_Copier__init:ao ["self","house","token","stopped"] ["self","house","token","stopped"] (aj fc):=⟨rfl,rfl,rfl,by decide+kernel,rfl,by decide+kernel,by decide+kernel⟩
theorem sc_Copier__read_page:ao ["self","many","page"] ["self","many"] (aj cm):=⟨rfl,rfl,rfl,by decide+kernel,rfl,by decide+kernel,by decide+kernel⟩
theorem sc_Copier__close_page:ao ["self","page"] ["self"] (aj bY):=⟨rfl,rfl,rfl,by decide+kernel,rfl,by decide+kernel,by decide+kernel⟩
theorem sc_Copier__follow:ao ["self","steps","rows","row"] ["self","steps"] (aj dt):=⟨rfl,rfl,rfl,by decide+kernel,rfl,by decide+kernel,by decide+kernel⟩
theorem nR:ao ["self"] ["self"] (aj fg):=⟨rfl,rfl,rfl,by decide+kernel,rfl,by decide+kernel,by decide+kernel⟩
theorem lI:ao ["self","key"] ["self","key"] (aj du):=⟨rfl,rfl,rfl,by decide+kernel,rfl,by decide+kernel,by decide+kernel⟩
theorem mD:ao ["self"] ["self"] (aj dU):=⟨rfl,rfl,rfl,by decide+kernel,rfl,by decide+kernel,by decide+kernel⟩
theorem nQ:ao ["self"] ["self"] (aj e8):=⟨rfl,rfl,rfl,by decide+kernel,rfl,by decide+kernel,by decide+kernel⟩
theorem mC:ao ["self"] ["self"] (aj dS):=⟨rfl,rfl,rfl,by decide+kernel,rfl,by decide+kernel,by decide+kernel⟩
theorem kE:ao ["self"] ["self"] (aj cV):=⟨rfl,rfl,rfl,by decide+kernel,rfl,by decide+kernel,by decide+kernel⟩
theorem nO:ao ["self"] ["self"] (aj eZ):=⟨rfl,rfl,rfl,by decide+kernel,rfl,by decide+kernel,by decide+kernel⟩
theorem sc_Leaves__add:ao ["self","key","at","leaf"] ["self","key"] (aj dJ):=⟨rfl,rfl,rfl,by decide+kernel,rfl,by decide+kernel,by decide+kernel⟩
theorem sc_Leaves__discard:ao ["self","key","at"] ["self","key"] (aj cT):=⟨rfl,rfl,rfl,by decide+kernel,rfl,by decide+kernel,by decide+kernel⟩
theorem sc_Leaves__has:ao ["self","key","at"] ["self","key"] (aj gh):=⟨rfl,rfl,rfl,by decide+kernel,rfl,by decide+kernel,by decide+kernel⟩
theorem sc_Leaves__leaf_of:ao ["self","key","low","high","middle"] ["self","key"] (aj cR):=⟨rfl,rfl,rfl,by decide+kernel,rfl,by decide+kernel,by decide+kernel⟩
theorem sc_Leaves__part_leaf:ao ["self","at","leaf","middle"] ["self","at"] (aj cf):=⟨rfl,rfl,rfl,by decide+kernel,rfl,by decide+kernel,by decide+kernel⟩
theorem sc_Leaves__join_small:ao ["self","at","both"] ["self","at"] (aj bX):=⟨rfl,rfl,rfl,by decide+kernel,rfl,by decide+kernel,by decide+kernel⟩
theorem oZ:ao ["self"] ["self"] (aj gg):=⟨rfl,rfl,rfl,by decide+kernel,rfl,by decide+kernel,by decide+kernel⟩
theorem oY:ao ["self","moment","value"] ["self","moment","value"] (aj gf):=⟨rfl,rfl,rfl,by decide+kernel,rfl,by decide+kernel,by decide+kernel⟩
theorem rM:ao ["size"] ["size"] (aj fP):=⟨rfl,rfl,rfl,by decide+kernel,rfl,by decide+kernel,by decide+kernel⟩
theorem oW:ao ["self"] ["self"] (aj gc):=⟨rfl,rfl,rfl,by decide+kernel,rfl,by decide+kernel,by decide+kernel⟩
theorem sc_Slots__put:ao ["self","key","value","cell"] ["self","key","value"] (aj hZ):=⟨rfl,rfl,rfl,by decide+kernel,rfl,by decide+kernel,by decide+kernel⟩
theorem oX:ao ["self","key"] ["self","key"] (aj gd):=⟨rfl,rfl,rfl,by decide+kernel,rfl,by decide+kernel,by decide+kernel⟩
theorem qg:ao ["self","key"] ["self","key"] (aj ie):=⟨rfl,rfl,rfl,by decide+kernel,rfl,by decide+kernel,by decide+kernel⟩
theorem sc_Slots__cell_of:ao ["self","key","old","slot","new"] ["self","key"] (aj dq):=⟨rfl,rfl,rfl,by decide+kernel,rfl,by decide+kernel,by decide+kernel⟩
theorem sc_Slots__move_slot:ao ["self","old","new","key","value"] ["self"] (aj cE):=⟨rfl,rfl,rfl,by decide+kernel,rfl,by decide+kernel,by decide+kernel⟩
theorem sc_Slots__begin_row:ao ["self","size"] ["self"] (aj cG):=⟨rfl,rfl,rfl,by decide+kernel,rfl,by decide+kernel,by decide+kernel⟩
theorem o3:ao ["self"] ["self"] (aj gi):=⟨rfl,rfl,rfl,by decide+kernel,rfl,by decide+kernel,by decide+kernel⟩
theorem qh:ao ["self","key","value"] ["self","key","value"] (aj ig):=⟨rfl,rfl,rfl,by decide+kernel,rfl,by decide+kernel,by decide+kernel⟩
theorem o7:ao ["self","key"] ["self","key"] (aj gj):=⟨rfl,rfl,rfl,by decide+kernel,rfl,by decide+kernel,by decide+kernel⟩
theorem kD:ao ["self"] ["self"] (aj cU):=⟨rfl,rfl,rfl,by decide+kernel,rfl,by decide+kernel,by decide+kernel⟩
theorem nP:ao ["self","low"] ["self","low"] (aj e7):=⟨rfl,rfl,rfl,by decide+kernel,rfl,by decide+kernel,by decide+kernel⟩
theorem sc_House__done:ao ["self","row","value","key"] ["self","row","value"] (aj gk):=⟨rfl,rfl,rfl,by decide+kernel,rfl,by decide+kernel,by decide+kernel⟩
theorem nM:ao ["_law_script","_law_k"] ["_law_script","_law_k"] (aj eX):=⟨rfl,rfl,rfl,by decide+kernel,rfl,by decide+kernel,by decide+kernel⟩
theorem sc__law_mixed:ao ["_law_cell","_law_k","_law_number"] ["_law_cell","_law_k"] (aj hW):=⟨rfl,rfl,rfl,by decide+kernel,rfl,by decide+kernel,by decide+kernel⟩
theorem sc__law_run:ao ["_law_cell","_law_start","_law_number","_law_way","_law_step"] ["_law_cell"] (aj eV):=⟨rfl,rfl,rfl,by decide+kernel,rfl,by decide+kernel,by decide+kernel⟩
theorem sc__law_deed:ao ["_law_house_here","_law_kept","_law_cell","_law_keys","_law_k","_law_value"] ["_law_house_here","_law_kept","_law_cell"] (aj iY):=⟨rfl,rfl,rfl,by decide+kernel,rfl,by decide+kernel,by decide+kernel⟩
theorem sc__law_house:ao ["_law_cells","_law_house_here","_law_kept","_law_cell"] ["_law_cells"] (aj hX):=⟨rfl,rfl,rfl,by decide+kernel,rfl,by decide+kernel,by decide+kernel⟩
theorem sc__law_numbers_told:ao ["_law_kind","_law_cell","_law_low","_law_high"] ["_law_kind","_law_cell"] (aj cc):=⟨rfl,rfl,rfl,by decide+kernel,rfl,by decide+kernel,by decide+kernel⟩
theorem sc__law_numbers:ao ["_law_cell","_law_keys","_law_kind","_law_number","_law_low","_law_high"] ["_law_cell","_law_keys"] (aj eW):=⟨rfl,rfl,rfl,by decide+kernel,rfl,by decide+kernel,by decide+kernel⟩
theorem qf:ao ["_law_numbers_here"] ["_law_numbers_here"] (aj hV):=⟨rfl,rfl,rfl,by decide+kernel,rfl,by decide+kernel,by decide+kernel⟩
theorem sc__law_out_of_turn:ao ["_law_copier","_law_way","_law_found","e"] ["_law_copier","_law_way"] (aj cz):=⟨rfl,rfl,rfl,by decide+kernel,rfl,by decide+kernel,by decide+kernel⟩
theorem sc_law:ao ["_law_script","_law_house_here","_law_kept","_law_token_here","_law_k","_law_rows","_law_copier","_law_key","_law_left","_law_place_here","_law_copied"] ["_law_script"] (aj vp):=⟨rfl,rfl,rfl,by decide+kernel,rfl,by decide+kernel,by decide+kernel⟩
def Sc:V→Prop
 | .non=>True| .bl _=>True| .int _=>True| .str _=>True|_=>False
def isW:V→Bool
 | .int _=>true|_=>false
def Fr (F F':Addr→Prop) (H H':Hp):Prop:=∀b o,¬F b→H b=some o→H' b=some o∧¬F' b
theorem Fr.refl {F:Addr→Prop} {H:Hp}:Fr F F H H:=λ_ _ n e=>⟨e,n⟩
theorem Fr.trans {F F' F'':Addr→Prop} {H H' H'':Hp} (x:Fr F F' H H') (y:Fr F' F'' H' H''):Fr F F'' H H'':=λb o n e=>y b o (x b o n e).2 (x b o n e).1
theorem Fr.of_same {F:Addr→Prop} {H H':Hp} (s:Same H H'):Fr F F H H':=λb o n e=>⟨s b o e,n⟩
def aS (kv:List (Int×V)):List (Key×V):=kv.map λp=>(Sum.inl p.1,p.2)
theorem liftK_val {kv:List (Int×V)} {k:Int}:aO (aS kv) (Sum.inl k:Key)=aO kv k:=by
 induction kv with
 |nil=>rfl
 |cons p r ih=>
  show aO ((Sum.inl p.1,p.2)::aS r) (Sum.inl k:Key)=_
  by_cases e:p.1=k
  ·rw[bf e,bf (by show(Sum.inl p.1:Key)=_;rw[e])]
  ·rw[bd e,bd (by show ¬(Sum.inl p.1:Key)=_;exact λz=>e (Sum.inl.inj z)),ih]
theorem wU {kv:List (Int×V)} {k:Int}:((aS kv).any λx=>decide (x.1=(Sum.inl k:Key)))=kv.any λx=>decide (x.1=k):=by
 rw[bW,bW,liftK_val]
theorem gT {kv:List (Int×V)} {k:Int} {v:V}:bi (aS kv) (Sum.inl k:Key) v=aS (bi kv k v):=by
 unfold bi
 rw[wU]
 by_cases c:(kv.any λx=>decide (x.1=k))=true
 ·rw[if_pos c,if_pos c]
  unfold aS
  rw[Z3,Z3]
  refine Zm λp _=>?_
  show(if(Sum.inl p.1:Key)=Sum.inl k then _ else _)=_
  by_cases e:p.1=k
  ·rw[if_pos (by rw[e])];simp[e]
  ·rw[if_neg λz=>e (Sum.inl.inj z)];simp[e]
 ·rw[if_neg c,if_neg c]
  unfold aS
  rw[Qr]
  rfl
theorem pM {kv:List (Int×V)} {k:Int}:bv (aS kv) (Sum.inl k:Key)=aS (bv kv k):=by
 unfold bv aS
 rw[List.filter_map]
 congr 1
 refine List.filter_congr λp _=>?_
 show decide ((Sum.inl p.1:Key)≠Sum.inl k)=_
 by_cases e:p.1=k
 ·rw[e];simp
 ·have:¬(Sum.inl p.1:Key)=Sum.inl k:=λz=>e (Sum.inl.inj z)
  simp[e,this]
theorem eP {kv:List (Int×V)}:(aS kv).length=kv.length:=Q1 _
theorem i8 {f:Str} {v:V}:∀fs:List (Str×V),(aY f v fs).length≤fs.length+1
 | []=>Q5 _
 |(g,x)::r=>by
  rw[aY]
  split
  ·rw[Qj,Qj];omega
  ·have:=i8 (f:=f) (v:=v) r
   rw[Qj,Qj];omega
section
variable {κ:Type} [DecidableEq κ] {kv:List (κ×V)} {k j:κ} {v:V}
theorem dn:∀{kv:List (κ×V)},aO (bv kv k) j=if j=k then none else aO kv j
 | []=>by
  show aO ([]:List (κ×V)) j=_
  rw[lq]
  split<;>rfl
 |p::r=>by
  by_cases e:p.1=k
  ·rw[mU e,dn]
   by_cases z:j=k
   ·rw[if_pos z,if_pos z]
   ·rw[if_neg z,if_neg z,bd λy=>z (y.symm.trans e)]
  ·rw[jO e]
   by_cases y:p.1=j
   ·rw[bf y,bf y,if_neg λz=>e (y.trans z)]
   ·rw[bd y,bd y,dn]
theorem mem_keys:∀{kv:List (κ×V)},k∈kv.map (·.1)↔(aO kv k).isSome=true
 | []=>by simp[lq]
 |p::r=>by
  by_cases e:p.1=k
  ·rw[bf e];simp[e]
  ·rw[bd e,←mem_keys]
   simp[Ne.symm e]
theorem lZ:(bi kv k v).map (·.1)=if(aO kv k).isSome=true then kv.map (·.1)else kv.map (·.1)++ [k]:=by
 unfold bi
 rw[bW]
 by_cases c:(aO kv k).isSome=true
 ·rw[if_pos c,if_pos c,Z3]
  refine Zm λp _=>?_
  show(if p.1=k then(p.1,v)else p).1=p.1
  split<;>rfl
 ·rw[if_neg c,if_neg c,Qr]
  rfl
theorem uK (h:(kv.map (·.1)).Nodup):((bi kv k v).map (·.1)).Nodup:=by
 cases e:aO kv k with
 |none=>exact Aq v h e
 |some x=>rw[lZ,e];exact h
theorem pE:∀{l S:List κ},l.Nodup→(∀x∈l,x∈S)→l.length≤S.length
 | [],_,_,_=>Qg _
 |x::xs,S,hn,hs=>by
  obtain⟨h1,h2⟩:=QE.mp hn
  have hx:x∈S:=hs x Qi
  have:=pE (S:=S.erase x) h2 λy hy=>(List.mem_erase_of_ne λz=>h1 (by rw[←z];exact hy)).mpr (hs y (Qf _ hy))
  rw[List.length_erase_of_mem hx]at this
  have:=List.length_pos_of_mem hx
  rw[Qj]
  omega
end
def SqF (K:PySem.W.Frag) (F:Addr→Prop) (H:Hp) (a:Addr) (xs:List V):Prop:=(Rd H a (.lst xs)∧¬F a)∨∀H',SqL K H' a xs
theorem SqF.sq {K:PySem.W.Frag} {F:Addr→Prop} {H:Hp} {a:Addr} {xs:List V} (h:SqF K F H a xs):SqL K H a xs:=by
 rcases h with h|h
 ·exact .inl h.1
 ·exact h H
theorem SqF.of {K:PySem.W.Frag} {F:Addr→Prop} {H:Hp} {a:Addr} {xs:List V} (h:SqL K H a xs) (n:∀o,H a=some o→¬F a):SqF K F H a xs:=by
 rcases h with h|h
 ·rcases h with h|⟨o,h⟩
  ·exact .inl ⟨.inl h,n _ h⟩
  ·exact .inl ⟨.inr ⟨o,h⟩,n _ h⟩
 ·exact .inr λ_=> .inr h
theorem SqF.fr {K:PySem.W.Frag} {F F':Addr→Prop} {H H':Hp} {a:Addr} {xs:List V} (h:SqF K F H a xs) (f:Fr F F' H H'):SqF K F' H' a xs:=by
 rcases h with⟨h,n⟩|h
 ·rcases h with h|⟨o,h⟩
  ·exact .inl ⟨.inl (f _ _ n h).1,(f _ _ n h).2⟩
  ·exact .inl ⟨.inr ⟨o,(f _ _ n h).1⟩,(f _ _ n h).2⟩
 ·exact .inr h
theorem SqF.new {K:PySem.W.Frag} {F:Addr→Prop} {H:Hp} {a p:Addr} {o:HO} {xs:List V} (h:SqF K F H a xs) (n:H p=none):SqF K F (upd H p o) a xs:=h.fr (Fr.of_same (ak n))
structure SSt where
 kv:List (Int×V)
 size:Int
 nxt:Option Int
 mv:Int
def SSt.new:SSt:=⟨[],4,none,0⟩
def SSt.one (s:SSt):SSt:=match s.nxt with
 |none=>s
 |some m=>if s.mv+1=s.size then{s with size:=m,nxt:=none,mv:=0}else{s with mv:=s.mv+1}
def SSt.three (s:SSt):SSt:=match s.nxt with
 |some _=>s
 |none=>if s.size<(s.kv.length:Int)∧s.size<256 then{s with nxt:=some (2*s.size),mv:=0}else if 4*(s.kv.length:Int)<s.size∧4<s.size then{s with nxt:=some (s.size/2),mv:=0}else s
def SSt.put (s:SSt) (k:Int) (v:V):SSt:=SSt.three {s.one with kv:=bi s.kv k v}
def SSt.drop (s:SSt) (k:Int):SSt:=SSt.three {s.one with kv:=bv s.kv k}
def SSt.moved (s:SSt):Int:=match s.nxt with
 |none=>0
 |some _=>s.mv
structure SlD where
 tb:Addr
 r0:Addr
 r1:Addr
 A0:List Addr
 A1:List Addr
 C0:List (List (Int×V))
 C1:List (List (Int×V))
 n:Int
def slF (tb:Addr) (sh n:Int):List (Str×V):=[("table",.ref tb),("shifted",.int sh),("kept",.int n)]
theorem dL {k:Str} {v:V} {r:List (Str×V)}:((k,v)::r).lookup k=some v:=by
 have hb:(k==k)=true:=beq_iff_eq.mpr rfl
 simp only[List.lookup,hb]
theorem bh {k m:Str} {v:V} {r:List (Str×V)} (h:m≠k):((k,v)::r).lookup m=r.lookup m:=by
 have hb:(m==k)=false:=beq_eq_false_iff_ne.mpr h
 simp only[List.lookup,hb]
section
variable {tb tb':Addr} {sh sh' n n':Int} {m:Str}
theorem iK:(slF tb sh n).lookup ("table":Str)=some (.ref tb):=dL
theorem sS:(slF tb sh n).lookup ("shifted":Str)=some (.int sh):=by unfold slF;rw[bh (by decide+kernel),dL]
theorem lG:(slF tb sh n).lookup ("kept":Str)=some (.int n):=by unfold slF;rw[bh (by decide+kernel),bh (by decide+kernel),dL]
def NoM (m:Str):Prop:=m≠("table":Str)∧m≠("shifted":Str)∧m≠("kept":Str)
instance:Decidable (NoM m):=by unfold NoM;infer_instance
theorem Bf (h:NoM m):(slF tb sh n).lookup m=none:=by unfold slF;rw[bh h.1,bh h.2.1,bh h.2.2];rfl
theorem Dg:aY ("table":Str) (.ref tb') (slF tb sh n)=slF tb' sh n:=by unfold slF;rw[aY,if_pos rfl]
theorem Bj:aY ("shifted":Str) (.int sh') (slF tb sh n)=slF tb sh' n:=by unfold slF;rw[aY,if_neg (by decide+kernel),aY,if_pos rfl]
theorem Bk:aY ("kept":Str) (.int n') (slF tb sh n)=slF tb sh n':=by unfold slF;rw[aY,if_neg (by decide+kernel),aY,if_neg (by decide+kernel),aY,if_pos rfl]
theorem lF:(slF tb sh n).length<1000:=by show 3<1000;decide
end
structure RowOk (H:Hp) (r:Addr) (A:List Addr) (C:List (List (Int×V))) (sz:Int):Prop where
 lst:H r=some (.lst (A.map V.ref))
 la:(A.length:Int)=sz
 lc:(C.length:Int)=sz
 cell:∀(j:Nat) (b:Addr) (kv:List (Int×V)),A[j]?=some b→C[j]?=some kv→H b=some (.dK (aS kv))
 ndk:∀(j:Nat) (kv:List (Int×V)),C[j]?=some kv→(kv.map (·.1)).Nodup
 inj:∀(i j:Nat) (b:Addr),A[i]?=some b→A[j]?=some b→i=j
 home:∀(j:Nat) (kv:List (Int×V)),C[j]?=some kv→∀p∈kv,p.1%65536%sz=(j:Int)
theorem RowOk.has {H:Hp} {r:Addr} {A:List Addr} {C:List (List (Int×V))} {sz:Int} (h:RowOk H r A C sz) {b:Addr} (hb:b∈A):∃(j:Nat) (kv:List (Int×V)),A[j]?=some b∧C[j]?=some kv∧H b=some (.dK (aS kv)):=by
 obtain⟨j,hj,e⟩:=QH hb
 have hc:j<C.length:=by have:=h.la;have:=h.lc;omega
 have e1:A[j]?=some b:=by rw[Q3 hj,e]
 have e2:C[j]?=some C[j]:=Q3 hc
 exact⟨j,C[j],e1,e2,h.cell j b _ e1 e2⟩
theorem RowOk.frame {H H':Hp} {r:Addr} {A:List Addr} {C:List (List (Int×V))} {sz:Int} (h:RowOk H r A C sz) (f:∀b,b=r∨b∈A→H' b=H b):RowOk H' r A C sz:=
 ⟨by rw[f r (.inl rfl)];exact h.lst,h.la,h.lc,λj b kv e1 e2=>by rw[f b (.inr (Q0 e1))];exact h.cell j b kv e1 e2,h.ndk,h.inj,h.home⟩
theorem RowOk.notr {H:Hp} {r:Addr} {A:List Addr} {C:List (List (Int×V))} {sz:Int} (h:RowOk H r A C sz) {b:Addr} (hb:b∈A) {o:HO} {x:Addr} (e:H x=some o) (ne:∀kvs,o≠ .dK kvs):b≠x:=λz=>by
 obtain⟨j,kv,_,_,q⟩:=h.has hb
 rw[z,e]at q
 cases q
 exact ne _ rfl
theorem RowOk.set {H:Hp} {r c:Addr} {A:List Addr} {C:List (List (Int×V))} {sz:Int} {j:Nat} {kv':List (Int×V)} (h:RowOk H r A C sz) (ea:A[j]?=some c) (nd:(kv'.map (·.1)).Nodup) (hm:∀p∈kv',p.1%65536%sz=(j:Int)):
  RowOk (upd H c (.dK (aS kv'))) r A (C.set j kv') sz:=by
 have hc:r≠c:=(h.notr (Q0 ea) h.lst (λ_ z=>by cases z)).symm
 refine⟨by rw[ac hc];exact h.lst,h.la,by rw[Qx];exact h.lc,λi b kv e1 e2=>?_,λi kv e=>?_,h.inj,λi kv e=>?_⟩
 ·rw[Qq]at e2
  by_cases z:j=i
  ·subst z
   rw[ea]at e1
   cases e1
   rw[if_pos rfl]at e2
   split at e2
   ·cases e2;exact ag
   ·cases e2
  ·rw[if_neg z]at e2
   rw[ac λy=>z (h.inj j i c ea (by rw[←y];exact e1))]
   exact h.cell i b kv e1 e2
 ·rw[Qq]at e
  by_cases z:j=i
  ·rw[if_pos z]at e
   split at e
   ·cases e;exact nd
   ·cases e
  ·rw[if_neg z]at e
   exact h.ndk i kv e
 ·rw[Qq]at e
  by_cases z:j=i
  ·subst z
   rw[if_pos rfl]at e
   split at e
   ·cases e;exact hm
   ·cases e
  ·rw[if_neg z]at e
   exact h.home i kv e
def SlF (a:Addr) (st:SSt) (d:SlD):Addr→Prop:=λb=>b=a∨b=d.tb∨b=d.r0∨b∈d.A0∨(st.nxt.isSome=true∧b=d.r1)∨b∈d.A1
def IsCell (d:SlD) (st:SSt) (k:Int) (c:Addr) (kv:List (Int×V)):Prop:=
 (st.moved≤k%65536%st.size∧d.A0[(k%65536%st.size).toNat]?=some c∧d.C0[(k%65536%st.size).toNat]?=some kv)∨
 (∃m,st.nxt=some m∧k%65536%st.size<st.moved∧d.A1[(k%65536%m).toNat]?=some c∧d.C1[(k%65536%m).toNat]?=some kv)
structure SzOk (st:SSt):Prop where
 pw:st.size∈([4,8,16,32,64,128,256]:List Int)
 nx:∀m,st.nxt=some m→m∈([4,8,16,32,64,128,256]:List Int)∧0≤st.mv∧st.mv<st.size∧(m=2*st.size∨2*m=st.size)
theorem lL {x:Int} (h:x∈([4,8,16,32,64,128,256]:List Int)):x=4∨x=8∨x=16∨x=32∨x=64∨x=128∨x=256:=by simpa using h
theorem cW {x:Int} (h:x∈([4,8,16,32,64,128,256]:List Int)):4≤x∧x≤256:=by
 rcases lL h with h|h|h|h|h|h|h<;>omega
structure SlB (t:Adr) (H:Hp) (a:Addr) (st:SSt) (d:SlD):Prop where
 obj:∃dx,H a=some (.ins t.a8 dx (slF d.tb st.moved d.n))
 tbl:H d.tb=some (.lst (match st.nxt with|none=> [.ref d.r0]|some _=> [.ref d.r0,.ref d.r1]))
 row0:RowOk H d.r0 d.A0 d.C0 st.size
 row1:match st.nxt with|none=>d.A1=[]∧d.C1=[]|some m=>RowOk H d.r1 d.A1 d.C1 m
 dis:∀b,b∈d.A0→b∉d.A1
 tr:d.tb≠d.r0
 tr1:st.nxt.isSome=true→d.tb≠d.r1∧d.r0≠d.r1
 old:∀(j:Nat) (kv:List (Int×V)),d.C0[j]?=some kv→(j:Int)<st.moved→kv=[]
 new:∀(j:Nat) (kv:List (Int×V)),d.C1[j]?=some kv→∀p∈kv,p.1%65536%st.size<st.moved
 val:∀(k:Int) (c:Addr) (kv:List (Int×V)),IsCell d st k c kv→aO kv k=aO st.kv k
section
variable {t:Adr} {H H':Hp} {a b:Addr} {st:SSt} {d:SlD}
theorem SlB.frame (h:SlB t H a st d) (f:∀b,SlF a st d b→H' b=H b):SlB t H' a st d:=by
 obtain⟨dx,ho⟩:=h.obj
 refine⟨⟨dx,by rw[f a (.inl rfl)];exact ho⟩,by rw[f d.tb (.inr (.inl rfl))];exact h.tbl,h.row0.frame λb hb=>f b ?_,?_,h.dis,h.tr,h.tr1,h.old,h.new,h.val⟩
 ·rcases hb with hb|hb
  ·exact .inr (.inr (.inl hb))
  ·exact .inr (.inr (.inr (.inl hb)))
 ·have r1:=h.row1
  have ff:=f
  unfold SlF at ff
  cases e:st.nxt with
  |none=>rw[e]at r1;exact r1
  |some m=>
   rw[e]at r1
   refine RowOk.frame (H:=H) r1 λb hb=>f b ?_
   unfold SlF
   rw[e]
   rcases hb with hb|hb
   ·exact .inr (.inr (.inr (.inr (.inl ⟨rfl,hb⟩))))
   ·exact .inr (.inr (.inr (.inr (.inr hb))))
theorem SlB.dom (h:SlB t H a st d) (hb:SlF a st d b):∃o,H b=some o:=by
 obtain⟨dx,ho⟩:=h.obj
 rcases hb with rfl|rfl|rfl|hb|⟨hs,rfl⟩|hb
 ·exact⟨_,ho⟩
 ·exact⟨_,h.tbl⟩
 ·exact⟨_,h.row0.lst⟩
 ·obtain⟨_,_,_,_,q⟩:=h.row0.has hb;exact⟨_,q⟩
 ·have r1:=h.row1
  cases e:st.nxt with
  |none=>rw[e]at hs;cases hs
  |some m=>rw[e]at r1;exact⟨_,r1.lst⟩
 ·have r1:=h.row1
  cases e:st.nxt with
  |none=>rw[e]at r1;rw[r1.1]at hb;cases hb
  |some m=>rw[e]at r1;obtain⟨_,_,_,_,q⟩:=r1.has hb;exact⟨_,q⟩
theorem SlB.at (h:SlB t H a st d) {k:Int} {c:Addr} {kv:List (Int×V)} (ic:IsCell d st k c kv):H c=some (.dK (aS kv))∧SlF a st d c∧(kv.map (·.1)).Nodup:=by
 rcases ic with⟨_,e1,e2⟩|⟨m,em,_,e1,e2⟩
 ·exact⟨h.row0.cell _ _ _ e1 e2,.inr (.inr (.inr (.inl (Q0 e1)))),h.row0.ndk _ _ e2⟩
 ·have r1:=h.row1
  rw[em]at r1
  exact⟨r1.cell _ _ _ e1 e2,.inr (.inr (.inr (.inr (.inr (Q0 e1))))),r1.ndk _ _ e2⟩
theorem mP {k m:Int} (hm:4≤m):0≤k%65536%m∧k%65536%m<m∧((k%65536%m).toNat:Int)=k%65536%m:=by
 have h1:=Qe (k%65536) (show m≠0 by omega)
 have h2:=Qb (k%65536) (show 0<m by omega)
 exact⟨h1,h2,Int.toNat_of_nonneg h1⟩
theorem cn {α:Type} {l:List α} {z:Int} (h0:0≤z) (h1:z<(l.length:Int)):∃x,l[z.toNat]?=some x:=⟨l[z.toNat]'(by omega),Q3 (by omega)⟩
theorem SlB.cell (h:SlB t H a st d) (z:SzOk st) (k:Int):∃c kv,IsCell d st k c kv:=by
 obtain⟨s4,_⟩:=cW z.pw
 obtain⟨m0,m1,m2⟩:=mP (k:=k) s4
 by_cases c:st.moved≤k%65536%st.size
 ·obtain⟨x,e1⟩:=cn (l:=d.A0) m0 (by rw[h.row0.la];exact m1)
  obtain⟨y,e2⟩:=cn (l:=d.C0) m0 (by rw[h.row0.lc];exact m1)
  exact⟨x,y,.inl ⟨c,e1,e2⟩⟩
 ·cases e:st.nxt with
  |none=>
   exfalso
   have:st.moved=0:=by unfold SSt.moved;rw[e]
   omega
  |some m=>
   obtain⟨pm,_⟩:=z.nx m e
   obtain⟨s5,_⟩:=cW pm
   obtain⟨n0,n1,n2⟩:=mP (k:=k) s5
   have r1:=h.row1
   rw[e]at r1
   obtain⟨x,e1⟩:=cn (l:=d.A1) n0 (by rw[r1.la];exact n1)
   obtain⟨y,e2⟩:=cn (l:=d.C1) n0 (by rw[r1.lc];exact n1)
   exact⟨x,y,.inr ⟨m,e,by omega,e1,e2⟩⟩
theorem IsCell.uniq {k:Int} {c c':Addr} {kv kv':List (Int×V)} (x:IsCell d st k c kv) (y:IsCell d st k c' kv'):c=c'∧kv=kv':=by
 rcases x with⟨h0,e1,e2⟩|⟨m,em,h0,e1,e2⟩<;>rcases y with⟨g0,f1,f2⟩|⟨m',em',g0,f1,f2⟩
 ·rw[e1]at f1;rw[e2]at f2;cases f1;cases f2;exact⟨rfl,rfl⟩
 ·omega
 ·omega
 ·rw[em]at em';cases em';rw[e1]at f1;rw[e2]at f2;cases f1;cases f2;exact⟨rfl,rfl⟩
theorem SlB.setN (h:SlB t H a st d) {dx:Addr} {n:Int}:SlB t (upd H a (.ins t.a8 dx (slF d.tb st.moved n))) a st {d with n:=n}:=by
 obtain⟨dy,ho⟩:=h.obj
 have n1:d.tb≠a:=bP h.tbl ho (by intro z;cases z)
 refine⟨⟨dx,ag⟩,by show upd H a _ d.tb=_;rw[ac n1];exact h.tbl,h.row0.frame λb hb=>ac ?_,?_,h.dis,h.tr,h.tr1,h.old,h.new,h.val⟩
 ·rcases hb with rfl|hb
  ·exact bP h.row0.lst ho (by intro z;cases z)
  ·exact h.row0.notr hb ho (λ_ z=>by cases z)
 ·have r1:=h.row1
  cases e:st.nxt with
  |none=>rw[e]at r1;exact r1
  |some m=>
   rw[e]at r1
   refine RowOk.frame (H:=H) r1 λb hb=>ac ?_
   rcases hb with rfl|hb
   ·exact bP r1.lst ho (by intro z;cases z)
   ·exact r1.notr hb ho (λ_ z=>by cases z)
theorem SlB.setCell (h:SlB t H a st d) (z:SzOk st) {k:Int} {c:Addr} {kv kv' kvs:List (Int×V)} (ic:IsCell d st k c kv) (nd:(kv'.map (·.1)).Nodup) (hm:∀p∈kv',p∈kv∨p.1=k)
  (hk:aO kv' k=aO kvs k) (ho:∀j,j≠k→aO kv' j=aO kv j∧aO kvs j=aO st.kv j):
  ∃d',SlB t (upd H c (.dK (aS kv'))) a {st with kv:=kvs} d'∧d'.n=d.n∧∀b,SlF a {st with kv:=kvs} d' b↔SlF a st d b:=by
 obtain⟨hc,hf,_⟩:=h.at ic
 obtain⟨dx,hob⟩:=h.obj
 obtain⟨s4,_⟩:=cW z.pw
 obtain⟨m0,m1,m2⟩:=mP (k:=k) s4
 have na:a≠c:=bP hob hc (by intro z;cases z)
 have nt:d.tb≠c:=bP h.tbl hc (by intro z;cases z)
 have nr:d.r0≠c:=bP h.row0.lst hc (by intro z;cases z)
 have vals:∀(d':SlD) (j:Int) (b:Addr) (x:List (Int×V)),IsCell d' {st with kv:=kvs} j b x→(∀y,IsCell d st j b y→(x=y∧b≠c)∨(x=kv'∧y=kv))→(∃y,IsCell d st j b y)→aO x j=aO kvs j:=λd' j b x hx f ⟨y,hy⟩=>by
  by_cases e:j=k
  ·subst e
   obtain⟨rfl,rfl⟩:=IsCell.uniq hy ic
   rcases f y hy with⟨_,z⟩|⟨rfl,_⟩
   ·exact absurd rfl z
   ·exact hk
  ·rw[(ho j e).2]
   rcases f y hy with⟨rfl,_⟩|⟨rfl,rfl⟩
   ·exact h.val j b x hy
   ·rw[(ho j e).1];exact h.val j b y hy
 rcases ic with⟨h0,e1,e2⟩|⟨m,em,h0,e1,e2⟩
 ·have hin:c∈d.A0:=Q0 e1
  have hmem:∀p∈kv',p.1%65536%st.size=((k%65536%st.size).toNat:Int):=λp hp=>by
   rcases hm p hp with q|q
   ·exact h.row0.home _ _ e2 p q
   ·rw[q,m2]
  refine⟨{d with C0:=d.C0.set (k%65536%st.size).toNat kv'},⟨⟨dx,by rw[ac na];exact hob⟩,by show upd H c _ d.tb=_;rw[ac nt];exact h.tbl,h.row0.set e1 nd hmem,?_,h.dis,h.tr,h.tr1,λj x e lt=>?_,h.new,λj b x hx=>?_⟩,rfl,λb=>Iff.rfl⟩
  ·have r1:=h.row1
   show match st.nxt with|none=>_|some m=>_
   cases e:st.nxt with
   |none=>rw[e]at r1;exact r1
   |some m=>
    rw[e]at r1
    refine RowOk.frame (H:=H) r1 λb hb=>ac ?_
    rcases hb with rfl|hb
    ·exact bP r1.lst hc (by intro z;cases z)
    ·exact λy=>h.dis c hin (y▸hb)
  ·have e:(d.C0.set (k%65536%st.size).toNat kv')[j]?=some x:=e
   have lt:(j:Int)<st.moved:=lt
   rw[Qq]at e
   by_cases q:(k%65536%st.size).toNat=j
   ·exfalso;omega
   ·rw[if_neg q]at e;exact h.old j x e lt
  ·refine vals _ j b x hx (λy hy=>?_) ?_
   ·rcases hx with⟨g0,f1,f2⟩|⟨m',em',g0,f1,f2⟩
    ·have f2:(d.C0.set (k%65536%st.size).toNat kv')[(j%65536%st.size).toNat]?=some x:=f2
     have f1:d.A0[(j%65536%st.size).toNat]?=some b:=f1
     have g0:st.moved≤j%65536%st.size:=g0
     rcases hy with⟨_,y1,y2⟩|⟨_,_,y0,_,_⟩
     ·rw[Qq]at f2
      by_cases q:(k%65536%st.size).toNat=(j%65536%st.size).toNat
      ·rw[if_pos q]at f2
       split at f2
       ·cases f2
        rw[←q,e2]at y2
        cases y2
        exact .inr ⟨rfl,rfl⟩
       ·cases f2
      ·rw[if_neg q,y2]at f2
       cases f2
       exact .inl ⟨rfl,λw=>q (h.row0.inj _ _ c e1 (by rw[←w];exact f1))⟩
     ·omega
    ·have f1:d.A1[(j%65536%m').toNat]?=some b:=f1
     have f2:d.C1[(j%65536%m').toNat]?=some x:=f2
     have g0:j%65536%st.size<st.moved:=g0
     have em':st.nxt=some m':=em'
     rcases hy with⟨y0,_,_⟩|⟨m2,e3,y0,y1,y2⟩
     ·omega
     ·rw[em']at e3;cases e3
      rw[f2]at y2;cases y2
      exact .inl ⟨rfl,λw=>h.dis c hin (w▸Q0 f1)⟩
   ·obtain⟨b',y,hy⟩:=h.cell z j
    have:b'=b:=by
     rcases hx with⟨g0,f1,f2⟩|⟨m',em',g0,f1,f2⟩<;>rcases hy with⟨y0,y1,y2⟩|⟨m3,e3,y0,y1,y2⟩
     ·have f1:d.A0[(j%65536%st.size).toNat]?=some b:=f1
      rw[y1]at f1;exact Option.some.inj f1
     ·have g0:st.moved≤j%65536%st.size:=g0
      omega
     ·have g0:j%65536%st.size<st.moved:=g0
      omega
     ·have em':st.nxt=some m':=em'
      rw[em']at e3;cases e3
      have f1:d.A1[(j%65536%m').toNat]?=some b:=f1
      rw[y1]at f1;exact Option.some.inj f1
    subst this
    exact⟨y,hy⟩
 ·have r1:=h.row1
  rw[em]at r1
  have hin:c∈d.A1:=Q0 e1
  obtain⟨pm,_⟩:=z.nx m em
  obtain⟨s5,_⟩:=cW pm
  obtain⟨n0,n1,n2⟩:=mP (k:=k) s5
  have hmem:∀p∈kv',p.1%65536%m=((k%65536%m).toNat:Int):=λp hp=>by
   rcases hm p hp with q|q
   ·exact r1.home _ _ e2 p q
   ·rw[q,n2]
  refine⟨{d with C1:=d.C1.set (k%65536%m).toNat kv'},⟨⟨dx,by rw[ac na];exact hob⟩,by show upd H c _ d.tb=_;rw[ac nt];exact h.tbl,h.row0.frame λb hb=>ac ?_,?_,h.dis,h.tr,h.tr1,h.old,λj x e p hp=>?_,λj b x hx=>?_⟩,rfl,λb=>Iff.rfl⟩
  ·rcases hb with rfl|hb
   ·exact nr
   ·exact λy=>h.dis b hb (y▸hin)
  ·show match st.nxt with|none=>_|some m=>_
   rw[em]
   exact r1.set e1 nd hmem
  ·have e:(d.C1.set (k%65536%m).toNat kv')[j]?=some x:=e
   show p.1%65536%st.size<st.moved
   rw[Qq]at e
   by_cases q:(k%65536%m).toNat=j
   ·rw[if_pos q]at e
    split at e
    ·cases e
     rcases hm p hp with q|q
     ·exact h.new _ _ e2 p q
     ·rw[q];exact h0
    ·cases e
   ·rw[if_neg q]at e;exact h.new j x e p hp
  ·refine vals _ j b x hx (λy hy=>?_) ?_
   ·rcases hx with⟨g0,f1,f2⟩|⟨m',em',g0,f1,f2⟩
    ·have f1:d.A0[(j%65536%st.size).toNat]?=some b:=f1
     have f2:d.C0[(j%65536%st.size).toNat]?=some x:=f2
     have g0:st.moved≤j%65536%st.size:=g0
     rcases hy with⟨_,y1,y2⟩|⟨_,_,y0,_,_⟩
     ·rw[f2]at y2;cases y2
      exact .inl ⟨rfl,λw=>h.dis b (Q0 f1) (w▸hin)⟩
     ·omega
    ·have em':st.nxt=some m':=em'
     rw[em]at em'
     cases em'
     have f2:(d.C1.set (k%65536%m).toNat kv')[(j%65536%m).toNat]?=some x:=f2
     have f1:d.A1[(j%65536%m).toNat]?=some b:=f1
     have g0:j%65536%st.size<st.moved:=g0
     rcases hy with⟨y0,_,_⟩|⟨m2,e3,y0,y1,y2⟩
     ·omega
     ·rw[em]at e3;cases e3
      rw[Qq]at f2
      by_cases q:(k%65536%m).toNat=(j%65536%m).toNat
      ·rw[if_pos q]at f2
       split at f2
       ·cases f2
        rw[←q,e2]at y2
        cases y2
        exact .inr ⟨rfl,rfl⟩
       ·cases f2
      ·rw[if_neg q,y2]at f2
       cases f2
       exact .inl ⟨rfl,λw=>q (r1.inj _ _ c e1 (by rw[←w];exact f1))⟩
   ·obtain⟨b',y,hy⟩:=h.cell z j
    have:b'=b:=by
     rcases hx with⟨g0,f1,f2⟩|⟨m',em',g0,f1,f2⟩<;>rcases hy with⟨y0,y1,y2⟩|⟨m3,e3,y0,y1,y2⟩
     ·have f1:d.A0[(j%65536%st.size).toNat]?=some b:=f1
      rw[y1]at f1;exact Option.some.inj f1
     ·have g0:st.moved≤j%65536%st.size:=g0
      omega
     ·have g0:j%65536%st.size<st.moved:=g0
      omega
     ·have em':st.nxt=some m':=em'
      rw[em']at e3;cases e3
      have f1:d.A1[(j%65536%m').toNat]?=some b:=f1
      rw[y1]at f1;exact Option.some.inj f1
    subst this
    exact⟨y,hy⟩
end
theorem pI {kv:List (Int×V)} {k:Int} {v:V} {p:Int×V} (h:p∈bi kv k v):p∈kv∨p.1=k:=by
 unfold bi at h
 split at h
 ·obtain⟨q,hq,e⟩:=Ql.mp h
  by_cases z:q.1=k
  ·rw[if_pos z]at e;rw[←e];exact .inr z
  ·rw[if_neg z]at e;rw[←e];exact .inl hq
 ·rcases Q4.mp h with h|h
  ·exact .inl h
  ·rw[Q8.mp h];exact .inr rfl
theorem At {kv:List (Int×V)} {p:Int×V} (h:p∈kv):(aO kv p.1).isSome=true:=mem_keys.mp (Ql.mpr ⟨p,h,rfl⟩)
def dZ (m:Int) (C:List (List (Int×V))) (p:Int×V):List (List (Int×V)):=C.set (p.1%65536%m).toNat (bi (C.getD (p.1%65536%m).toNat []) p.1 p.2)
theorem yr {m:Int} {C:List (List (Int×V))} {p:Int×V}:(dZ m C p).length=C.length:=Qx
theorem vD {m:Int}:∀{kv:List (Int×V)} {C:List (List (Int×V))},(kv.foldl (dZ m) C).length=C.length
 | [],_=>rfl
 |p::r,C=>by rw[List.foldl_cons,vD,yr]
theorem tI {m:Int} {C:List (List (Int×V))} {p:Int×V} {j:Nat} {y:List (Int×V)} (e:C[j]?=some y):(dZ m C p)[j]?=some (if(p.1%65536%m).toNat=j then bi y p.1 p.2 else y):=by
 unfold dZ
 rw[Qq]
 by_cases z:(p.1%65536%m).toNat=j
 ·have hj:j<C.length:=(Q2.mp e).1
  rw[if_pos z,if_pos z,if_pos (by rw[z];exact hj),Qv,z,e]
  rfl
 ·rw[if_neg z,if_neg z,e]
theorem rX {m:Int}:∀{kv:List (Int×V)} {C:List (List (Int×V))} {j:Nat} {y:List (Int×V)},(kv.map (·.1)).Nodup→C[j]?=some y→∃x,(kv.foldl (dZ m) C)[j]?=some x∧
  (∀p∈x,p∈y∨p.1∈kv.map (·.1))∧∀k,aO x k=if(k%65536%m).toNat=j then(aO kv k).or (aO y k)else aO y k
 | [],C,j,y,_,e=>⟨y,e,λp hp=> .inl hp,λk=>by rw[lq];simp⟩
 |p::r,C,j,y,nd,e=>by
  obtain⟨n1,n2⟩:=QE.mp (show(p.1::r.map (·.1)).Nodup from nd)
  obtain⟨x,h1,h2,h3⟩:=rX (m:=m) n2 (tI (m:=m) (p:=p) e)
  refine⟨x,h1,λq hq=>?_,λk=>?_⟩
  ·rcases h2 q hq with z|z
   ·split at z
    ·rcases pI z with z|z
     ·exact .inl z
     ·exact .inr (Ql.mpr ⟨p,Qi,z.symm⟩)
    ·exact .inl z
   ·exact .inr (Qf _ z)
  ·rw[h3 k]
   by_cases z:(k%65536%m).toNat=j
   ·rw[if_pos z,if_pos z]
    by_cases w:p.1=k
    ·subst w
     have:aO r p.1=none:=by
      cases q:aO r p.1 with
      |none=>rfl
      |some v=>exact absurd (oo q) n1
     rw[this,bf rfl,if_pos z,eS,if_pos rfl]
     rfl
    ·rw[bd w]
     congr 1
     split
     ·rw[eS,if_neg (Ne.symm w)]
     ·rfl
   ·rw[if_neg z,if_neg z]
    split
    ·rename_i w
     rw[eS,if_neg (λy=>z (by rw[y];exact w))]
    ·rfl
theorem RowOk.mov {H:Hp} {r c:Addr} {A:List Addr} {C:List (List (Int×V))} {sz k:Int} {v:V} {y:List (Int×V)} (h:RowOk H r A C sz) (s4:4≤sz) (ea:A[(k%65536%sz).toNat]?=some c) (ey:C[(k%65536%sz).toNat]?=some y):
  RowOk (upd H c (.dK (aS (bi y k v)))) r A (dZ sz C (k,v)) sz:=by
 have e:dZ sz C (k,v)=C.set (k%65536%sz).toNat (bi y k v):=by
  unfold dZ
  rw[Qv]
  show C.set (k%65536%sz).toNat (bi (C[(k%65536%sz).toNat]?.getD []) k v)=_
  rw[ey]
  rfl
 rw[e]
 obtain⟨m0,m1,m2⟩:=mP (k:=k) s4
 refine h.set ea (uK (h.ndk _ _ ey)) λp hp=>?_
 rcases pI hp with z|z
 ·exact h.home _ _ ey p z
 ·rw[z,m2]
section
variable {t:Adr} {H H':Hp} {a:Addr} {st:SSt} {d:SlD}
theorem SSt.moved_some {st:SSt} {m:Int} (e:st.nxt=some m):st.moved=st.mv:=by unfold SSt.moved;rw[e]
theorem SSt.moved_none {st:SSt} (e:st.nxt=none):st.moved=0:=by unfold SSt.moved;rw[e]
theorem SlB.movVal (h:SlB t H a st d) (z:SzOk st) {m:Int} (em:st.nxt=some m) {kv:List (Int×V)} (ek:d.C0[st.mv.toNat]?=some kv) {k:Int} (hk:k%65536%st.size≤st.mv) {x:List (Int×V)}
  (ex:(kv.foldl (dZ m) d.C1)[(k%65536%m).toNat]?=some x):aO x k=aO st.kv k:=by
 obtain⟨pm,v0,v1,_⟩:=z.nx m em
 obtain⟨s4,_⟩:=cW z.pw
 obtain⟨s5,_⟩:=cW pm
 have r1:=h.row1
 rw[em]at r1
 obtain⟨n0,n1,n2⟩:=mP (k:=k) s5
 obtain⟨m0,m1,m2⟩:=mP (k:=k) s4
 obtain⟨y,ey⟩:=cn (l:=d.C1) n0 (by rw[r1.lc];exact n1)
 obtain⟨c1,ec1⟩:=cn (l:=d.A1) n0 (by rw[r1.la];exact n1)
 obtain⟨x',e',_,hv⟩:=rX (m:=m) (h.row0.ndk _ _ ek) ey
 rw[ex]at e'
 cases e'
 rw[hv k,if_pos rfl]
 have hm:=SSt.moved_some em
 by_cases c:k%65536%st.size=st.mv
 ·obtain⟨b0,eb0⟩:=cn (l:=d.A0) m0 (by rw[h.row0.la];exact m1)
  have ic:IsCell d st k b0 kv:= .inl ⟨by omega,eb0,by rw[c];exact ek⟩
  have yn:aO y k=none:=by
   cases q:aO y k with
   |none=>rfl
   |some v=>
    obtain⟨p,hp,e⟩:=Ql.mp (oo q)
    have:=h.new _ _ ey p hp
    rw[e]at this
    omega
  rw[h.val k b0 kv ic,yn]
  simp
 ·have ic:IsCell d st k c1 y:= .inr ⟨m,em,by omega,ec1,ey⟩
  have kn:aO kv k=none:=by
   cases q:aO kv k with
   |none=>rfl
   |some v=>
    obtain⟨p,hp,e⟩:=Ql.mp (oo q)
    have:=h.row0.home _ _ ek p hp
    rw[e]at this
    omega
  rw[kn,h.val k c1 y ic]
  rfl
theorem cv {α:Type} {l:List α} {i j:Nat} {x y:α} (e:(l.set i x)[j]?=some y):(i=j∧y=x)∨(i≠j∧l[j]?=some y):=by
 rw[Qq]at e
 by_cases z:i=j
 ·rw[if_pos z]at e
  split at e
  ·cases e;exact .inl ⟨z,rfl⟩
  ·cases e
 ·rw[if_neg z]at e
  exact .inr ⟨z,e⟩
theorem SlB.one (h:SlB t H a st d) (z:SzOk st) {m:Int} (em:st.nxt=some m) {kv:List (Int×V)} (ek:d.C0[st.mv.toNat]?=some kv) {b' dx:Addr} (nl:st.mv+1≠st.size)
  (ha:H' a=some (.ins t.a8 dx (slF d.tb (st.mv+1) d.n))) (ht:H' d.tb=H d.tb) (h0:H' d.r0=some (.lst ((d.A0.set st.mv.toNat b').map V.ref))) (hb:H' b'=some (.dK [])) (hF:¬SlF a st d b')
  (hA:∀(j:Nat) b,d.A0[j]?=some b→j≠st.mv.toNat→H' b=H b) (hr:RowOk H' d.r1 d.A1 (kv.foldl (dZ m) d.C1) m):
  SlB t H' a st.one {d with A0:=d.A0.set st.mv.toNat b',C0:=d.C0.set st.mv.toNat [],C1:=kv.foldl (dZ m) d.C1}:=by
 obtain⟨pm,v0,v1,_⟩:=z.nx m em
 have hone:st.one={st with mv:=st.mv+1}:=by unfold SSt.one;rw[em];exact if_neg nl
 have hmv:({st with mv:=st.mv+1}:SSt).moved=st.mv+1:=SSt.moved_some (st:={st with mv:=st.mv+1}) em
 have hm:=SSt.moved_some em
 have nA0:b'∉d.A0:=λq=>hF (.inr (.inr (.inr (.inl q))))
 have nA1:b'∉d.A1:=λq=>hF (.inr (.inr (.inr (.inr (.inr q)))))
 rw[hone]
 have r1:=h.row1
 rw[em]at r1
 refine⟨⟨dx,by rw[hmv];exact ha⟩,by rw[ht];exact h.tbl,⟨h0,by rw[Qx];exact h.row0.la,by rw[Qx];exact h.row0.lc,λj b x e1 e2=>?_,λj x e=>?_,λi j b e1 e2=>?_,λj x e p hp=>?_⟩,?_,λb hb0 hb1=>?_,h.tr,h.tr1,λj x e lt=>?_,λj x e p hp=>?_,λk c x ic=>?_⟩
 ·rcases cv e1 with⟨q,rfl⟩|⟨q,e1⟩
  ·rcases cv e2 with⟨_,rfl⟩|⟨q2,_⟩
   ·exact hb
   ·exact absurd q q2
  ·rcases cv e2 with⟨q2,_⟩|⟨_,e2⟩
   ·exact absurd q2 q
   ·rw[hA j b e1 (Ne.symm q)];exact h.row0.cell j b x e1 e2
 ·rcases cv e with⟨_,rfl⟩|⟨_,e⟩
  ·exact Z7
  ·exact h.row0.ndk j x e
 ·have e1:(d.A0.set st.mv.toNat b')[i]?=some b:=e1
  have e2:(d.A0.set st.mv.toNat b')[j]?=some b:=e2
  rcases cv e1 with⟨q,y1⟩|⟨q,f1⟩<;>rcases cv e2 with⟨q2,y2⟩|⟨q2,f2⟩
  ·exact q.symm.trans q2
  ·rw[y1]at f2;exact absurd (Q0 f2) nA0
  ·rw[y2]at f1;exact absurd (Q0 f1) nA0
  ·exact h.row0.inj i j b f1 f2
 ·rcases cv e with⟨_,rfl⟩|⟨_,e⟩
  ·cases hp
  ·exact h.row0.home j x e p hp
 ·show match st.nxt with|none=>_|some m=>_
  rw[em]
  exact hr
 ·obtain⟨j,hj,e⟩:=QH (show b∈d.A0.set st.mv.toNat b' from hb0)
  rcases cv (Q2.mpr ⟨hj,e⟩)with⟨_,rfl⟩|⟨_,e⟩
  ·exact nA1 hb1
  ·exact h.dis b (Q0 e) hb1
 ·rw[hmv]at lt
  rcases cv e with⟨_,rfl⟩|⟨q,e⟩
  ·rfl
  ·exact h.old j x e (by omega)
 ·rw[hmv]
  show p.1%65536%st.size<st.mv+1
  obtain⟨y,ey⟩:∃y,d.C1[j]?=some y:=by
   have hj:j<(kv.foldl (dZ m) d.C1).length:=(Q2.mp e).1
   rw[vD]at hj
   exact⟨_,Q3 hj⟩
  obtain⟨x',e',hp',_⟩:=rX (m:=m) (h.row0.ndk _ _ ek) ey
  have e:(kv.foldl (dZ m) d.C1)[j]?=some x:=e
  rw[e]at e'
  cases e'
  rcases hp' p hp with q|q
  ·have:=h.new j y ey p q
   omega
  ·obtain⟨p',hp',e3⟩:=Ql.mp q
   have:=h.row0.home _ _ ek p' hp'
   rw[e3]at this
   omega
 ·show aO x k=aO st.kv k
  rcases ic with⟨g0,f1,f2⟩|⟨m',em',g0,f1,f2⟩
  ·rw[hmv]at g0
   have g0:st.mv+1≤k%65536%st.size:=g0
   have f1:(d.A0.set st.mv.toNat b')[(k%65536%st.size).toNat]?=some c:=f1
   have f2:(d.C0.set st.mv.toNat [])[(k%65536%st.size).toNat]?=some x:=f2
   rcases cv f1 with⟨q,_⟩|⟨_,f1⟩
   ·omega
   ·rcases cv f2 with⟨q,_⟩|⟨_,f2⟩
    ·omega
    ·exact h.val k c x (.inl ⟨by omega,f1,f2⟩)
  ·rw[hmv]at g0
   have em':st.nxt=some m':=em'
   rw[em]at em'
   cases em'
   have g0:k%65536%st.size<st.mv+1:=g0
   exact h.movVal z em ek (by omega) f2
theorem SlB.last (h:SlB t H a st d) (z:SzOk st) {m:Int} (em:st.nxt=some m) {kv:List (Int×V)} (ek:d.C0[st.mv.toNat]?=some kv) {tb' dx:Addr} (l:st.mv+1=st.size)
  (ha:H' a=some (.ins t.a8 dx (slF tb' 0 d.n))) (ht:H' tb'=some (.lst [.ref d.r1])) (hn:tb'≠d.r1) (hr:RowOk H' d.r1 d.A1 (kv.foldl (dZ m) d.C1) m):
  SlB t H' a st.one ⟨tb',d.r1,d.r1,d.A1,[],kv.foldl (dZ m) d.C1,[],d.n⟩:=by
 have hone:st.one={st with size:=m,nxt:=none,mv:=0}:=by unfold SSt.one;rw[em];exact if_pos l
 obtain⟨s4,_⟩:=cW z.pw
 rw[hone]
 refine⟨⟨dx,ha⟩,ht,hr,⟨rfl,rfl⟩,(λb _ q=>by cases q),hn,(λq=>by cases q),λj x e lt=>?_,(λj x e=>by simp at e),λk c x ic=>?_⟩
 ·have lt:(j:Int)<0:=lt
  omega
 ·rcases ic with⟨g0,f1,f2⟩|⟨m',em',_⟩
  ·have f2:(kv.foldl (dZ m) d.C1)[(k%65536%m).toNat]?=some x:=f2
   obtain⟨m0,m1,m2⟩:=mP (k:=k) s4
   exact h.movVal z em ek (by omega) f2
  ·cases em'
theorem SlB.begin (h:SlB t H a st d) (en:st.nxt=none) {m:Int} {r:Addr} {A:List Addr} (ha:H' a=H a) (ht:H' d.tb=some (.lst [.ref d.r0,.ref r])) (h0:∀b,b=d.r0∨b∈d.A0→H' b=H b)
  (hr:RowOk H' r A (List.replicate m.toNat []) m) (nr:¬SlF a st d r) (nA:∀b∈A,¬SlF a st d b):SlB t H' a {st with nxt:=some m,mv:=0} {d with r1:=r,A1:=A,C1:=List.replicate m.toNat []}:=by
 obtain⟨dx,ho⟩:=h.obj
 have hm:=SSt.moved_none en
 refine⟨⟨dx,by rw[ha];rw[hm]at ho;exact ho⟩,ht,h.row0.frame h0,hr,λb q q2=>nA b q2 (.inr (.inr (.inr (.inl q)))),h.tr,λ_=>⟨λq=>nr (.inr (.inl q.symm)),λq=>nr (.inr (.inr (.inl q.symm)))⟩,λj x e lt=>?_,λj x e p hp=>?_,λk c x ic=>?_⟩
 ·have lt:(j:Int)<0:=lt
  omega
 ·have:=Z6 (Q0 e)
  subst this
  cases hp
 ·rcases ic with⟨g0,f1,f2⟩|⟨m',em',g0,f1,f2⟩
  ·refine h.val k c x (.inl ⟨?_,f1,f2⟩)
   rw[hm]
   exact g0
  ·have g0:k%65536%st.size<0:=g0
   have f2:(List.replicate m.toNat ([]:List (Int×V)))[(k%65536%m').toNat]?=some x:=f2
   have:0≤k%65536%st.size:=by
    have hpos:(0:Int)≤st.size:=by rw[←h.row0.la];omega
    rcases Int.lt_or_eq_of_le hpos with q|q
    ·exact Qe _ (by omega)
    ·rw[←q,Int.emod_zero];exact Qe _ (by decide)
   omega
theorem SlB.fresh {dx tb r:Addr} {A:List Addr} (ha:H a=some (.ins t.a8 dx (slF tb 0 0))) (ht:H tb=some (.lst [.ref r])) (hr:RowOk H r A (List.replicate 4 []) 4) (n:tb≠r):SlB t H a SSt.new ⟨tb,r,r,A,[],List.replicate 4 [],[],0⟩:=by
 refine⟨⟨dx,ha⟩,ht,hr,⟨rfl,rfl⟩,(λb _ q=>by cases q),n,(λq=>by cases q),λj x e lt=>?_,(λj x e=>by simp at e),λk c x ic=>?_⟩
 ·have lt:(j:Int)<0:=lt
  omega
 ·rcases ic with⟨g0,f1,f2⟩|⟨m',em',_⟩
  ·have f2:(List.replicate 4 ([]:List (Int×V)))[(k%65536%4).toNat]?=some x:=f2
   have:=Z6 (Q0 f2)
   subst this
   rfl
  ·cases em'
theorem SlB.short (h:SlB t H a st d) (z:SzOk st) {k:Int} {c:Addr} {kv:List (Int×V)} (ic:IsCell d st k c kv):kv.length≤st.kv.length:=by
 obtain⟨_,_,nd⟩:=h.at ic
 have sub:∀x∈kv.map (·.1),x∈st.kv.map (·.1):=λx hx=>by
  obtain⟨p,hp,e⟩:=Ql.mp hx
  subst e
  refine mem_keys.mpr ?_
  have hs:=At hp
  have:∃c',IsCell d st p.1 c' kv:=by
   rcases ic with⟨g0,f1,f2⟩|⟨m,em,g0,f1,f2⟩
   ·obtain⟨s4,_⟩:=cW z.pw
    obtain⟨m0,m1,m2⟩:=mP (k:=k) s4
    have e:=h.row0.home _ _ f2 p hp
    rw[m2]at e
    exact⟨c,.inl ⟨by rw[e];exact g0,by rw[e];exact f1,by rw[e];exact f2⟩⟩
   ·obtain⟨pm,_⟩:=z.nx m em
    obtain⟨s5,_⟩:=cW pm
    obtain⟨n0,n1,n2⟩:=mP (k:=k) s5
    have r1:=h.row1
    rw[em]at r1
    have e:=r1.home _ _ f2 p hp
    rw[n2]at e
    exact⟨c,.inr ⟨m,em,h.new _ _ f2 p hp,by rw[e];exact f1,by rw[e];exact f2⟩⟩
  obtain⟨c',ic'⟩:=this
  rw[←h.val p.1 c' kv ic']
  exact hs
 have:=pE nd sub
 rw[Q1,Q1]at this
 exact this
end
theorem tH {m:Int}:∀{kv:List (Int×V)} {C:List (List (Int×V))} {j:Nat} {x y:List (Int×V)},C[j]?=some y→(kv.foldl (dZ m) C)[j]?=some x→x.length≤y.length+kv.length
 | [],C,j,x,y,e,f=>by
  have f:C[j]?=some x:=f
  rw[e]at f
  cases f
  exact Q5 _
 |p::r,C,j,x,y,e,f=>by
  have h:=tH (m:=m) (tI (m:=m) (p:=p) e) f
  have l:=b3 y p.1 p.2
  rw[Qj]
  split at h<;>omega
section
variable {t:Adr} {H H':Hp} {a:Addr} {st:SSt} {d:SlD}
theorem SlB.short0 (h:SlB t H a st d) (z:SzOk st) {j:Nat} {kv:List (Int×V)} (e:d.C0[j]?=some kv):kv.length≤st.kv.length:=by
 cases kv with
 |nil=>exact Qg _
 |cons p r=>
  have hp:=h.row0.home j _ e p Qi
  have nj:¬(j:Int)<st.moved:=λq=>by have:=h.old j _ e q;cases this
  have ej:(p.1%65536%st.size).toNat=j:=by omega
  have hj:j<d.A0.length:=by
   have:=h.row0.la
   have:=h.row0.lc
   have:=(Q2.mp e).1
   omega
  exact h.short z (k:=p.1) (c:=d.A0[j]) (.inl ⟨by omega,by rw[ej];exact Q3 hj,by rw[ej];exact e⟩)
theorem SlB.short1 (h:SlB t H a st d) (z:SzOk st) {m:Int} (em:st.nxt=some m) {j:Nat} {kv:List (Int×V)} (e:d.C1[j]?=some kv):kv.length≤st.kv.length:=by
 have r1:=h.row1
 rw[em]at r1
 cases kv with
 |nil=>exact Qg _
 |cons p r=>
  have hp:=r1.home j _ e p Qi
  have nj:=h.new j _ e p Qi
  have ej:(p.1%65536%m).toNat=j:=by omega
  have hj:j<d.A1.length:=by
   have:=r1.la
   have:=r1.lc
   have:=(Q2.mp e).1
   omega
  exact h.short z (k:=p.1) (c:=d.A1[j]) (.inr ⟨m,em,nj,by rw[ej];exact Q3 hj,by rw[ej];exact e⟩)
end
theorem SzOk.new:SzOk SSt.new:=⟨by decide,λm e=>by cases e⟩
theorem SzOk.kv {st:SSt} {kvs:List (Int×V)} (z:SzOk st):SzOk {st with kv:=kvs}:=⟨z.pw,z.nx⟩
theorem SzOk.one {st:SSt} (z:SzOk st):SzOk st.one:=by
 unfold SSt.one
 cases e:st.nxt with
 |none=>exact z
 |some m=>
  obtain⟨pm,v0,v1,hh⟩:=z.nx m e
  show SzOk (if _ then _ else _)
  split
  ·exact⟨pm,λm' q=>by cases q⟩
  ·rename_i c
   refine⟨z.pw,λm' q=>?_⟩
   have q:some m=some m':=q
   cases q
   exact⟨pm,by show 0≤st.mv+1;omega,by show st.mv+1<st.size;omega,hh⟩
theorem Df {x:Int} (h:x∈([4,8,16,32,64,128,256]:List Int)) (c:x<256):2*x∈([4,8,16,32,64,128,256]:List Int):=by
 rcases lL h with rfl|rfl|rfl|rfl|rfl|rfl|rfl<;>first|decide|exact absurd c (by decide)
theorem Bi {x:Int} (h:x∈([4,8,16,32,64,128,256]:List Int)) (c:4<x):x/2∈([4,8,16,32,64,128,256]:List Int)∧2*(x/2)=x:=by
 rcases lL h with rfl|rfl|rfl|rfl|rfl|rfl|rfl<;>first|decide|exact absurd c (by decide)
theorem Bh {x:Int} (h:x∈([4,8,16,32,64,128,256]:List Int)):0<x:=by
 rcases lL h with rfl|rfl|rfl|rfl|rfl|rfl|rfl<;>decide
theorem SzOk.three {st:SSt} (z:SzOk st):SzOk st.three:=by
 unfold SSt.three
 cases e:st.nxt with
 |some m=>exact z
 |none=>
  show SzOk (if _ then _ else _)
  split
  ·rename_i c
   refine⟨z.pw,λm' q=>?_⟩
   cases q
   exact⟨Df z.pw c.2,Zi _,Bh z.pw,.inl rfl⟩
  ·split
   ·rename_i c
    refine⟨z.pw,λm' q=>?_⟩
    cases q
    exact⟨(Bi z.pw c.2).1,Zi _,Bh z.pw,.inr (Bi z.pw c.2).2⟩
   ·exact z
def SlA (_K:PySem.W.Frag) (t:Adr) (H:Hp) (a:Addr) (F:Addr→Prop) (st:SSt):Prop:=
 ∃d,SlB t H a st d∧(∀b,F b↔SlF a st d b)∧d.n=(st.kv.length:Int)∧(st.kv.map (·.1)).Nodup∧SzOk st
section
variable {K:PySem.W.Frag} {t:Adr} {H H':Hp} {a b:Addr} {F:Addr→Prop} {st:SSt}
theorem SlA.ins (h:SlA K t H a F st):∃dx fs,H a=some (.ins t.a8 dx fs)∧∀m,NoM m→fs.lookup m=none:=by
 obtain⟨d,hb,_⟩:=h
 obtain⟨dx,ho⟩:=hb.obj
 exact⟨dx,_,ho,λm hm=>Bf hm⟩
theorem SlA.dom (h:SlA K t H a F st) (hb:F b):∃o,H b=some o:=by
 obtain⟨d,h1,h2,_⟩:=h
 exact h1.dom ((h2 b).mp hb)
theorem SlA.frame (h:SlA K t H a F st) (f:∀b,F b→H' b=H b):SlA K t H' a F st:=by
 obtain⟨d,h1,h2,h3⟩:=h
 exact⟨d,h1.frame λb hb=>f b ((h2 b).mpr hb),h2,h3⟩
end
section
variable {K:PySem.W.Frag} {t:Adr} {H H':Hp} {a b p:Addr} {F:Addr→Prop} {st:SSt} {o:HO}
theorem SlA.same (h:SlA K t H a F st) (s:Same H H'):SlA K t H' a F st:=h.frame λb hb=>by
 obtain⟨o,e⟩:=h.dom hb
 rw[e]
 exact s b o e
theorem SlA.out (h:SlA K t H a F st) (e:H p=none):¬F p:=λz=>by
 obtain⟨o,q⟩:=h.dom z
 rw[q]at e
 cases e
theorem SlA.upd (h:SlA K t H a F st) (e:¬F p):SlA K t (L2.upd H p o) a F st:=h.frame λb hb=>ac λz=>e (z▸hb)
end
def oG (K:PySem.W.Frag) (t:Adr):Sp:=λvs H Q _=>∃(a dx:Addr),vs=[.ref a]∧H a=some (.ins t.a8 dx [])∧H dx=some (.own a)∧∀H' F,SlA K t H' a F SSt.new→Fr (λb=>b=a∨b=dx) F H H'→Q .non H'
def qa (K:PySem.W.Frag) (t:Adr):Sp:=λvs H Q _=>∃(a:Addr) (k i:Int) (F:Addr→Prop) (st:SSt),vs=[.ref a,.int k,.int i]∧SlA K t H a F st∧0≤k∧st.kv.length<4096∧
 ∀H' F',SlA K t H' a F' (st.put k (.int i))→Fr F F' H H'→Q .non H'
def oH (K:PySem.W.Frag) (t:Adr):Sp:=λvs H Q E=>∃(a:Addr) (k:Int) (F:Addr→Prop) (st:SSt),vs=[.ref a,.int k]∧SlA K t H a F st∧0≤k∧
 ((aO st.kv k).isSome=true→st.kv.length<4096∧∀H' F',SlA K t H' a F' (st.drop k)→Fr F F' H H'→Q .non H')∧(aO st.kv k=none→False)
def qb (K:PySem.W.Frag) (t:Adr):Sp:=λvs H Q _=>∃(a:Addr) (k:Int) (F:Addr→Prop) (st:SSt),vs=[.ref a,.int k]∧SlA K t H a F st∧0≤k∧
 ∀H' F',SlA K t H' a F' st→Fr F F' H H'→Q (.bl (aO st.kv k).isSome) H'
def eh (l:List Int):Prop:=l.Pairwise (· < ·)
structure LvOk (ls:List (List Int)):Prop where
 ne:∀l∈ls,l≠[]
 le:∀l∈ls,l.length≤8
 nb:∀(i:Nat) (x y:List Int),ls[i]?=some x→ls[i+1]?=some y→5≤x.length+y.length
 up:eh ls.flatten
theorem LvOk.nil:LvOk []:=⟨(λ_ h=>by cases h),(λ_ h=>by cases h),(λi x y e=>by simp at e),List.Pairwise.nil⟩
theorem Cq {ls:List (List Int)} {i:Nat} {x:List Int} (e:ls[i]?=some x):ls=ls.take i++x::ls.drop (i+1):=by
 obtain⟨h,e⟩:=Q2.mp e
 rw[←e,←Z0 h,QC]
theorem eI {ls:List (List Int)} {i:Nat} {x:List Int} (e:ls[i]?=some x):ls.flatten=(ls.take i).flatten++(x++(ls.drop (i+1)).flatten):=by
 conv=>lhs;rw[Cq e]
 rw[Zn,Z4]
theorem rise3 {a b c:List Int}:eh (a++(b++c))↔eh a∧eh b∧eh c∧(∀x∈a,∀y∈b,x<y)∧(∀x∈a,∀y∈c,x<y)∧∀x∈b,∀y∈c,x<y:=by
 unfold eh
 rw[Qc,Qc]
 constructor
 ·rintro ⟨h1,⟨h2,h3,h4⟩,h5⟩
  exact⟨h1,h2,h3,λx hx y hy=>h5 x hx y (QR _ hy),λx hx y hy=>h5 x hx y (Qo _ hy),h4⟩
 ·rintro ⟨h1,h2,h3,h4,h5,h6⟩
  refine⟨h1,⟨h2,h3,h6⟩,λx hx y hy=>?_⟩
  rcases Q4.mp hy with z|z
  ·exact h4 x hx y z
  ·exact h5 x hx y z
structure LeafOf (ls:List (List Int)) (k:Int) (i:Nat):Prop where
 le:i≤ls.length
 lo:∀(j:Nat) (x:List Int),j<i→ls[j]?=some x→∀y∈x,y<k
 hi:∀x,ls[i]?=some x→∃y∈x,k≤y
theorem sK {ls:List (List Int)} {i:Nat} {y:Int} (h:y∈(ls.take i).flatten):∃(j:Nat) (x:List Int),j<i∧ls[j]?=some x∧y∈x:=by
 obtain⟨x,hx,hy⟩:=Xe.mp h
 obtain⟨j,hj,e⟩:=QH hx
 rw[Qm]at hj
 rw[Zt]at e
 exact⟨j,x,by omega,Q2.mpr ⟨by omega,e⟩,hy⟩
theorem LeafOf.ahead {ls:List (List Int)} {k:Int} {i:Nat} (h:LeafOf ls k i):∀y∈(ls.take i).flatten,y<k:=λy hy=>by
 obtain⟨j,x,hj,e,hx⟩:=sK hy
 exact h.lo j x hj e y hx
theorem LeafOf.behind {ls:List (List Int)} {k:Int} {i:Nat} (o:LvOk ls) (h:LeafOf ls k i):∀y∈(ls.drop (i+1)).flatten,k<y:=λy hy=>by
 cases e:ls[i]? with
 |none=>
  have:ls.length≤i:=Z1.mp e
  rw[QU (by omega)]at hy
  cases hy
 |some x=>
  obtain⟨z,hz,le⟩:=h.hi x e
  have up:=o.up
  rw[eI e]at up
  have:=(rise3.mp up).2.2.2.2.2 z hz y hy
  omega
theorem LeafOf.mem {ls:List (List Int)} {k:Int} {i:Nat} (o:LvOk ls) (h:LeafOf ls k i):k∈ls.flatten↔∃x,ls[i]?=some x∧k∈x:=by
 constructor
 ·intro hk
  cases e:ls[i]? with
  |none=>
   have l:ls.length≤i:=Z1.mp e
   have:ls.take i=ls:=QB l
   have:=h.ahead k (by rw[this];exact hk)
   omega
  |some x=>
   rw[eI e]at hk
   rcases Q4.mp hk with z|z
   ·have:=h.ahead k z;omega
   ·rcases Q4.mp z with z|z
    ·exact⟨x,rfl,z⟩
    ·have:=h.behind o k z;omega
 ·rintro ⟨x,e,hk⟩
  exact Xe.mpr ⟨x,Q0 e,hk⟩
theorem tX:∀{l:List Int} {k:Int},eh l→k∉l→(∀x∈l.take (l.filter (λz=>decide (z<k))).length,x<k)∧∀x∈l.drop (l.filter (λz=>decide (z<k))).length,k<x
 | [],k,_,_=>⟨λx h=>by simp at h,λx h=>by simp at h⟩
 |a::r,k,up,nk=>by
  obtain⟨h1,h2⟩:=List.pairwise_cons.mp up
  have nr:k∉r:=λz=>nk (Qf _ z)
  have na:a≠k:=λz=>nk (by rw[z];exact Qi)
  by_cases c:a<k
  ·obtain⟨i1,i2⟩:=tX h2 nr
   rw[Zx,if_pos (by simpa using c),Qj,List.take_succ_cons,List.drop_succ_cons]
   refine⟨λx hx=>?_,i2⟩
   rcases Qh.mp hx with rfl|hx
   ·exact c
   ·exact i1 x hx
  ·have:(a::r).filter (λz=>decide (z<k))=[]:=by
    rw[List.filter_eq_nil_iff]
    intro x hx
    rcases Qh.mp hx with rfl|hx
    ·simpa using c
    ·have:=h1 x hx
     simp
     omega
   rw[this]
   refine⟨λx hx=>by simp at hx,λx hx=>?_⟩
   have hx:x∈a::r:=by simpa using hx
   rcases Qh.mp hx with rfl|hx
   ·omega
   ·have:=h1 x hx;omega
def dP (l:List Int) (k:Int):List Int:=l.take (l.filter (λz=>decide (z<k))).length++k::l.drop (l.filter (λz=>decide (z<k))).length
theorem yJ {l:List Int} {k:Int}:(dP l k).length=l.length+1:=by
 have h:=QN (λz=>decide (z<k)) l
 unfold dP
 rw[Qa,Qj,Qm,Qu]
 omega
theorem insL_mem {l:List Int} {k x:Int}:x∈dP l k↔x=k∨x∈l:=by
 unfold dP
 rw[Q4,Qh]
 have:x∈l↔x∈l.take (l.filter (λz=>decide (z<k))).length∨x∈l.drop (l.filter (λz=>decide (z<k))).length:=by
  rw[←Q4,QC]
 rw[this]
 constructor
 ·rintro (h|h|h)
  ·exact .inr (.inl h)
  ·exact .inl h
  ·exact .inr (.inr h)
 ·rintro (h|h|h)
  ·exact .inr (.inl h)
  ·exact .inl h
  ·exact .inr (.inr h)
theorem w6 {l:List Int} {k:Int} (up:eh l) (nk:k∉l):eh (dP l k):=by
 obtain⟨h1,h2⟩:=tX up nk
 have up':eh (l.take (l.filter (λz=>decide (z<k))).length++l.drop (l.filter (λz=>decide (z<k))).length):=by rw[QC];exact up
 obtain⟨u1,u2,u3⟩:=Qc.mp up'
 unfold dP
 refine Qc.mpr ⟨u1,List.pairwise_cons.mpr ⟨h2,u2⟩,λx hx y hy=>?_⟩
 rcases Qh.mp hy with rfl|hy
 ·exact h1 x hx
 ·exact u3 x hx y hy
structure AddAt (ls:List (List Int)) (k:Int) (i:Nat) (x:List Int):Prop where
 at_:ls[i]?=some x
 lo:∀y∈(ls.take i).flatten,y<k
 hi:∀y∈(ls.drop (i+1)).flatten,k<y
theorem LeafOf.add {ls:List (List Int)} {k:Int} {i:Nat} (o:LvOk ls) (h:LeafOf ls k i) (ne:ls≠[]):∃x,AddAt ls k (min i (ls.length-1)) x:=by
 have hl:0<ls.length:=QL.mpr ne
 by_cases c:i<ls.length
 ·have:min i (ls.length-1)=i:=by omega
  rw[this]
  exact⟨ls[i],Q3 c,h.ahead,h.behind o⟩
 ·have le:=h.le
  have:min i (ls.length-1)=ls.length-1:=by omega
  rw[this]
  have hlt:ls.length-1<ls.length:=by omega
  refine⟨ls[ls.length-1],Q3 hlt,λy hy=>?_,λy hy=>?_⟩
  ·obtain⟨j,x,hj,e,hx⟩:=sK hy
   exact h.lo j x (by omega) e y hx
  ·rw[QU (by omega)]at hy
   cases hy
theorem rL {ls:List (List Int)} {i:Nat} {x y:List Int} (e:ls[i]?=some x):ls.set i y=ls.take i++y::ls.drop (i+1):=by
 have hi:=(Q2.mp e).1
 rw[List.set_eq_take_append_cons_drop,if_pos hi]
theorem lH {ls:List (List Int)} {i:Nat} {x y:List Int} (e:ls[i]?=some x):(ls.set i y).flatten=(ls.take i).flatten++(y++(ls.drop (i+1)).flatten):=by
 rw[rL e,Zn,Z4]
theorem AddAt.set {ls:List (List Int)} {k:Int} {i:Nat} {x:List Int} (o:LvOk ls) (h:AddAt ls k i x) (nk:k∉ls.flatten):eh (ls.set i (dP x k)).flatten∧∀z,z∈(ls.set i (dP x k)).flatten↔z=k∨z∈ls.flatten:=by
 have up:=o.up
 rw[eI h.at_]at up nk
 obtain⟨u1,u2,u3,u4,u5,u6⟩:=rise3.mp up
 have nx:k∉x:=λz=>nk (Qo _ (QR _ z))
 rw[lH h.at_,eI h.at_]
 refine⟨rise3.mpr ⟨u1,w6 u2 nx,u3,λa ha b hb=>?_,u5,λa ha b hb=>?_⟩,λz=>?_⟩
 ·rcases insL_mem.mp hb with rfl|hb
  ·exact h.lo a ha
  ·exact u4 a ha b hb
 ·rcases insL_mem.mp ha with rfl|ha
  ·exact h.hi b hb
  ·exact u6 a ha b hb
 ·rw[Q4,Q4,Q4,Q4,insL_mem]
  constructor
  ·rintro (h|(h|h)|h)
   ·exact .inr (.inl h)
   ·exact .inl h
   ·exact .inr (.inr (.inl h))
   ·exact .inr (.inr (.inr h))
  ·rintro (h|h|h|h)
   ·exact .inr (.inl (.inl h))
   ·exact .inl h
   ·exact .inr (.inl (.inr h))
   ·exact .inr (.inr h)
theorem l4 {ls:List (List Int)} {i j:Nat} {x y z:List Int} (e:ls[i]?=some x) (f:(ls.set i y)[j]?=some z):(i=j∧z=y)∨(i≠j∧ls[j]?=some z):=by
 rw[Qq]at f
 by_cases c:i=j
 ·rw[if_pos c]at f
  split at f
  ·cases f;exact .inl ⟨c,rfl⟩
  ·cases f
 ·rw[if_neg c]at f
  exact .inr ⟨c,f⟩
theorem ou {ls:List (List Int)} {i:Nat} {x y z:List Int} (e:ls[i]?=some x) (h:z∈ls.set i y):z=y∨z∈ls:=by
 obtain⟨j,hj,ez⟩:=QH h
 rcases l4 e (Q2.mpr ⟨hj,ez⟩)with⟨_,q⟩|⟨_,q⟩
 ·exact .inl q
 ·exact .inr (Q0 q)
theorem LvOk.grown {ls:List (List Int)} {i:Nat} {x y:List Int} (o:LvOk ls) (e:ls[i]?=some x) (l1:x.length≤y.length) (l2:y.length≤8) (up:eh (ls.set i y).flatten):LvOk (ls.set i y):=by
 have hx:=o.ne x (Q0 e)
 have px:0<x.length:=QL.mpr hx
 refine⟨λl hl=>?_,λl hl=>?_,λj a b f g=>?_,up⟩
 ·rcases ou e hl with rfl|hl
  ·exact Z2 (by omega)
  ·exact o.ne l hl
 ·rcases ou e hl with rfl|hl
  ·exact l2
  ·exact o.le l hl
 ·rcases l4 e f with⟨c,h1⟩|⟨c,f1⟩<;>rcases l4 e g with⟨c',h2⟩|⟨c',g1⟩
  ·omega
  ·subst c
   have:=o.nb i x b e g1
   rw[h1]
   omega
  ·rw[c']at e
   have:=o.nb j a x f1 e
   rw[h2]
   omega
  ·exact o.nb j a b f1 g1
theorem LvOk.parted {ls:List (List Int)} {i:Nat} {x a b:List Int} (o:LvOk ls) (e:ls[i]?=some x) (la:a.length=4) (lb:b.length=5) (up:eh (ls.set i (a++b)).flatten):
  LvOk ((ls.set i a).take (i+1)++b::(ls.set i a).drop (i+1))∧((ls.set i a).take (i+1)++b::(ls.set i a).drop (i+1)).flatten=(ls.set i (a++b)).flatten:=by
 have hi:=(Q2.mp e).1
 have lt:(ls.take i).length=i:=by rw[Qm];omega
 have e1:(ls.set i a).take (i+1)++b::(ls.set i a).drop (i+1)=ls.take i++a::b::ls.drop (i+1):=by
  rw[rL (y:=a) e]
  have h1:(ls.take i++a::ls.drop (i+1)).take (i+1)=ls.take i++ [a]:=by
   rw[List.take_append,lt,QB (by omega)]
   have:i+1-i=1:=by omega
   rw[this]
   rfl
  have h2:(ls.take i++a::ls.drop (i+1)).drop (i+1)=ls.drop (i+1):=by
   rw[List.drop_append,lt,QU (by omega)]
   have:i+1-i=1:=by omega
   rw[this]
   rfl
  rw[h1,h2,Qk]
  rfl
 have e2:(ls.take i++a::b::ls.drop (i+1)).flatten=(ls.set i (a++b)).flatten:=by
  rw[lH e,Zn,Z4,Z4,Qk]
 rw[e1]
 refine⟨⟨λl hl=>?_,λl hl=>?_,λj p q f g=>?_,by rw[e2];exact up⟩,e2⟩
 ·rcases Q4.mp hl with h|h
  ·exact o.ne l (ZA h)
  ·rcases Qh.mp h with rfl|h
   ·exact Z2 (by omega)
   ·rcases Qh.mp h with rfl|h
    ·exact Z2 (by omega)
    ·exact o.ne l (ZB h)
 ·rcases Q4.mp hl with h|h
  ·exact o.le l (ZA h)
  ·rcases Qh.mp h with rfl|h
   ·omega
   ·rcases Qh.mp h with rfl|h
    ·omega
    ·exact o.le l (ZB h)
 ·have look:∀(j:Nat) (p:List Int),(ls.take i++a::b::ls.drop (i+1))[j]?=some p→(j<i∧ls[j]?=some p)∨(j=i∧p=a)∨(j=i+1∧p=b)∨(i+2≤j∧ls[j-1]?=some p):=λj p f=>by
   rw[X1,lt]at f
   split at f
   ·rename_i c
    rw[List.getElem?_take,if_pos c]at f
    exact .inl ⟨c,f⟩
   ·rename_i c
    rcases(show j=i∨j=i+1∨i+2≤j by omega)with rfl|rfl|h
    ·have:j-j=0:=by omega
     rw[this]at f
     cases f
     exact .inr (.inl ⟨rfl,rfl⟩)
    ·have:i+1-i=1:=by omega
     rw[this]at f
     cases f
     exact .inr (.inr (.inl ⟨rfl,rfl⟩))
    ·obtain⟨n,rfl⟩:∃n,j=i+2+n:=⟨j-(i+2),by omega⟩
     have:i+2+n-i=n+1+1:=by omega
     rw[this,ZO,ZO,ZG]at f
     refine .inr (.inr (.inr ⟨h,?_⟩))
     have:i+2+n-1=i+1+n:=by omega
     rw[this]
     exact f
  have pos:∀(j:Nat) (p:List Int),ls[j]?=some p→1≤p.length:=λj p f=>QL.mpr (o.ne p (Q0 f))
  rcases look j p f with⟨c,f1⟩|⟨c,h1⟩|⟨c,h1⟩|⟨c,f1⟩<;>rcases look (j+1) q g with⟨c',g1⟩|⟨c',h2⟩|⟨c',h2⟩|⟨c',g1⟩<;>(try rw[h1])<;>(try rw[h2])<;>(try omega)
  ·exact o.nb j p q f1 g1
  ·have:=pos j p f1;omega
  ·have:j+1-1=j-1+1:=by omega
   rw[this]at g1
   exact o.nb (j-1) p q f1 g1
def lvF (L:Addr):List (Str×V):=[("leaves",.ref L)]
theorem cP {L:Addr}:(lvF L).lookup ("leaves":Str)=some (.ref L):=by
 have hb:(("leaves":Str)==("leaves":Str))=true:=beq_iff_eq.mpr rfl
 unfold lvF
 simp only[List.lookup,hb]
theorem Bs {L:Addr} {m:Str} (h:m≠("leaves":Str)):(lvF L).lookup m=none:=by
 have hb:(m==("leaves":Str))=false:=beq_eq_false_iff_ne.mpr h
 unfold lvF
 simp only[List.lookup,hb]
structure LvB (t:Adr) (H:Hp) (a L:Addr) (A:List Addr) (ls:List (List Int)):Prop where
 obj:∃dx,H a=some (.ins t.bE dx (lvF L))
 lst:H L=some (.lst (A.map V.ref))
 len:A.length=ls.length
 leaf:∀(j:Nat) (b:Addr) (l:List Int),A[j]?=some b→ls[j]?=some l→H b=some (.lst (l.map V.int))
 inj:∀(i j:Nat) (b:Addr),A[i]?=some b→A[j]?=some b→i=j
 nL:L∉A
def LvF (a L:Addr) (A:List Addr):Addr→Prop:=λb=>b=a∨b=L∨b∈A
section
variable {t:Adr} {H H':Hp} {a L b:Addr} {A:List Addr} {ls:List (List Int)}
theorem LvB.at (h:LvB t H a L A ls) {i:Nat} {x:List Int} (e:ls[i]?=some x):∃c,A[i]?=some c∧H c=some (.lst (x.map V.int)):=by
 have hi:i<A.length:=by rw[h.len];exact(Q2.mp e).1
 exact⟨A[i],Q3 hi,h.leaf i _ x (Q3 hi) e⟩
theorem LvB.has (h:LvB t H a L A ls) (hb:b∈A):∃(j:Nat) (l:List Int),A[j]?=some b∧ls[j]?=some l∧H b=some (.lst (l.map V.int)):=by
 obtain⟨j,hj,e⟩:=QH hb
 have hc:j<ls.length:=by rw[←h.len];exact hj
 have e1:A[j]?=some b:=by rw[Q3 hj,e]
 exact⟨j,ls[j],e1,Q3 hc,h.leaf j b _ e1 (Q3 hc)⟩
theorem LvB.frame (h:LvB t H a L A ls) (f:∀b,LvF a L A b→H' b=H b):LvB t H' a L A ls:=by
 obtain⟨dx,ho⟩:=h.obj
 exact⟨⟨dx,by rw[f a (.inl rfl)];exact ho⟩,by rw[f L (.inr (.inl rfl))];exact h.lst,h.len,λj b l e1 e2=>by rw[f b (.inr (.inr (Q0 e1)))];exact h.leaf j b l e1 e2,h.inj,h.nL⟩
theorem LvB.dom (h:LvB t H a L A ls) (hb:LvF a L A b):∃o,H b=some o:=by
 obtain⟨dx,ho⟩:=h.obj
 rcases hb with rfl|rfl|hb
 ·exact⟨_,ho⟩
 ·exact⟨_,h.lst⟩
 ·obtain⟨_,_,_,_,q⟩:=h.has hb
  exact⟨_,q⟩
theorem LvB.same (h:LvB t H a L A ls) (s:Same H H'):LvB t H' a L A ls:=h.frame λb hb=>by
 obtain⟨o,e⟩:=h.dom hb
 rw[e,s b o e]
theorem LvB.out (h:LvB t H a L A ls) {p:Addr} (n:H p=none):¬LvF a L A p:=λz=>by
 obtain⟨o,e⟩:=h.dom z
 rw[n]at e
 cases e
theorem LvB.write (h:LvB t H a L A ls) {i:Nat} {c:Addr} {x y:List Int} (ec:A[i]?=some c) (ex:ls[i]?=some x):LvB t (upd H c (.lst (y.map V.int))) a L A (ls.set i y):=by
 obtain⟨dx,ho⟩:=h.obj
 have hc:=h.leaf i c x ec ex
 have cA:=Q0 ec
 refine⟨⟨dx,by rw[ac (bP ho hc (by intro z;cases z))];exact ho⟩,by rw[ac (λz=>h.nL (by rw[z];exact cA))];exact h.lst,by rw[Qx];exact h.len,λj b l e1 e2=>?_,h.inj,h.nL⟩
 rw[Qq]at e2
 by_cases z:i=j
 ·subst z
  rw[ec]at e1
  cases e1
  rw[if_pos rfl]at e2
  split at e2
  ·cases e2;exact ag
  ·cases e2
 ·rw[if_neg z]at e2
  rw[ac (λy=>z (h.inj i j c ec (by rw[←y];exact e1)))]
  exact h.leaf j b l e1 e2
theorem LvB.swap (h:LvB t H a L A ls) {i:Nat} {c n:Addr} {x y:List Int} (ec:A[i]?=some c) (ex:ls[i]?=some x) (hn:H n=some (.lst (y.map V.int))) (nF:¬LvF a L A n):LvB t (upd H L (.lst ((A.set i n).map V.ref))) a L (A.set i n) (ls.set i y):=by
 obtain⟨dx,ho⟩:=h.obj
 have nA:n∉A:=λz=>nF (.inr (.inr z))
 have nL:n≠L:=λz=>nF (.inr (.inl z))
 refine⟨⟨dx,by rw[ac (bP ho h.lst (by intro z;cases z))];exact ho⟩,ag,by rw[Qx,Qx];exact h.len,λj b l e1 e2=>?_,λj k b e1 e2=>?_,λz=>?_⟩
 ·rw[Qq]at e1 e2
  by_cases z:i=j
  ·rw[if_pos z]at e1 e2
   split at e1
   ·cases e1
    split at e2
    ·cases e2
     rw[ac nL];exact hn
    ·cases e2
   ·cases e1
  ·rw[if_neg z]at e1 e2
   rw[ac (λy=>h.nL (by rw[←y];exact Q0 e1))]
   exact h.leaf j b l e1 e2
 ·rw[Qq]at e1 e2
  by_cases z:i=j
  ·rw[if_pos z]at e1
   split at e1
   ·cases e1
    by_cases w:i=k
    ·exact z.symm.trans w
    ·rw[if_neg w]at e2
     exact absurd (Q0 e2) nA
   ·cases e1
  ·rw[if_neg z]at e1
   by_cases w:i=k
   ·rw[if_pos w]at e2
    split at e2
    ·cases e2
     exact absurd (Q0 e1) nA
    ·cases e2
   ·rw[if_neg w]at e2
    exact h.inj j k b e1 e2
 ·obtain⟨j,hj,e⟩:=QH z
  have e1:=Q2.mpr ⟨hj,e⟩
  rw[Qq]at e1
  by_cases w:i=j
  ·rw[if_pos w]at e1
   split at e1
   ·cases e1;exact nL rfl
   ·cases e1
  ·rw[if_neg w]at e1
   exact h.nL (Q0 e1)
theorem ins_get {α:Type} {l:List α} {i j:Nat} {x y:α} (hi:i≤l.length) (e:(l.take i++x::l.drop i)[j]?=some y):(j<i∧l[j]?=some y)∨(j=i∧y=x)∨(i<j∧l[j-1]?=some y):=by
 have lt:(l.take i).length=i:=by rw[Qm];omega
 rw[X1,lt]at e
 split at e
 ·rename_i c
  rw[List.getElem?_take,if_pos c]at e
  exact .inl ⟨c,e⟩
 ·rename_i c
  rcases(show j=i∨i<j by omega)with rfl|h
  ·have:j-j=0:=by omega
   rw[this]at e
   cases e
   exact .inr (.inl ⟨rfl,rfl⟩)
  ·obtain⟨n,rfl⟩:∃n,j=i+1+n:=⟨j-(i+1),by omega⟩
   have:i+1+n-i=n+1:=by omega
   rw[this,ZO,ZG]at e
   have:i+1+n-1=i+n:=by omega
   exact .inr (.inr ⟨h,by rw[this];exact e⟩)
theorem LvB.insert (h:LvB t H a L A ls) {i:Nat} {n:Addr} {y:List Int} (hi:i≤A.length) (hn:H n=some (.lst (y.map V.int))) (nF:¬LvF a L A n):
  LvB t (upd H L (.lst ((A.take i++n::A.drop i).map V.ref))) a L (A.take i++n::A.drop i) (ls.take i++y::ls.drop i):=by
 obtain⟨dx,ho⟩:=h.obj
 have nA:n∉A:=λz=>nF (.inr (.inr z))
 have nL:n≠L:=λz=>nF (.inr (.inl z))
 have hi2:i≤ls.length:=by rw[←h.len];exact hi
 refine⟨⟨dx,by rw[ac (bP ho h.lst (by intro z;cases z))];exact ho⟩,ag,?_,λj b l e1 e2=>?_,λj k b e1 e2=>?_,λz=>?_⟩
 ·have:=h.len
  rw[Qa,Qa,Qj,Qj,Qm,Qm,Qu,Qu]
  omega
 ·rcases ins_get hi e1 with⟨c1,f1⟩|⟨c1,f1⟩|⟨c1,f1⟩<;>rcases ins_get hi2 e2 with⟨c2,f2⟩|⟨c2,f2⟩|⟨c2,f2⟩<;>(try omega)
  ·rw[ac (λy=>h.nL (by rw[←y];exact Q0 f1))]
   exact h.leaf j b l f1 f2
  ·rw[f1,f2,ac nL];exact hn
  ·rw[ac (λy=>h.nL (by rw[←y];exact Q0 f1))]
   exact h.leaf (j-1) b l f1 f2
 ·rcases ins_get hi e1 with⟨c1,f1⟩|⟨c1,f1⟩|⟨c1,f1⟩<;>rcases ins_get hi e2 with⟨c2,f2⟩|⟨c2,f2⟩|⟨c2,f2⟩
  ·exact h.inj j k b f1 f2
  ·rw[f2]at f1;exact absurd (Q0 f1) nA
  ·have:=h.inj _ _ b f1 f2;omega
  ·rw[f1]at f2;exact absurd (Q0 f2) nA
  ·omega
  ·rw[f1]at f2;exact absurd (Q0 f2) nA
  ·have:=h.inj _ _ b f1 f2;omega
  ·rw[f2]at f1;exact absurd (Q0 f1) nA
  ·have:=h.inj _ _ b f1 f2;omega
 ·rcases Q4.mp z with z|z
  ·exact h.nL (ZA z)
  ·rcases Qh.mp z with z|z
   ·exact nL z.symm
   ·exact h.nL (ZB z)
theorem jN {α:Type} {l:List α} {i j:Nat} {y:α} (e:(l.eraseIdx i)[j]?=some y):(j<i∧l[j]?=some y)∨(i≤j∧l[j+1]?=some y):=by
 rw[List.getElem?_eraseIdx]at e
 split at e
 ·rename_i c;exact .inl ⟨c,e⟩
 ·rename_i c;exact .inr ⟨by omega,e⟩
theorem LvB.erase (h:LvB t H a L A ls) {i:Nat}:LvB t (upd H L (.lst ((A.eraseIdx i).map V.ref))) a L (A.eraseIdx i) (ls.eraseIdx i):=by
 obtain⟨dx,ho⟩:=h.obj
 refine⟨⟨dx,by rw[ac (bP ho h.lst (by intro z;cases z))];exact ho⟩,ag,?_,λj b l e1 e2=>?_,λj k b e1 e2=>?_,λz=>h.nL (QO z)⟩
 ·rw[X2,X2,h.len]
 ·have bA:b∈A:=QO (Q0 e1)
  rw[ac (λy=>h.nL (by rw[←y];exact bA))]
  rcases jN e1 with⟨c1,f1⟩|⟨c1,f1⟩<;>rcases jN e2 with⟨c2,f2⟩|⟨c2,f2⟩<;>(try omega)
  ·exact h.leaf j b l f1 f2
  ·exact h.leaf (j+1) b l f1 f2
 ·rcases jN e1 with⟨c1,f1⟩|⟨c1,f1⟩<;>rcases jN e2 with⟨c2,f2⟩|⟨c2,f2⟩
  ·exact h.inj j k b f1 f2
  ·have:=h.inj _ _ b f1 f2;omega
  ·have:=h.inj _ _ b f1 f2;omega
  ·have:=h.inj _ _ b f1 f2;omega
end
theorem qH {ls:List (List Int)} (up:eh ls.flatten) {i j:Nat} {x y:List Int} (ex:ls[i]?=some x) (ey:ls[j]?=some y) (h:i<j):∀p∈x,∀q∈y,p<q:=λp hp q hq=>by
 rw[eI ex]at up
 refine(rise3.mp up).2.2.2.2.2 p hp q (Xe.mpr ⟨y,?_,hq⟩)
 refine Q0 (i:=j-(i+1)) ?_
 rw[ZG]
 have:i+1+(j-(i+1))=j:=by omega
 rw[this]
 exact ey
theorem Ab {ls:List (List Int)} (up:eh ls.flatten) {i:Nat} {x:List Int} (ex:ls[i]?=some x):eh x:=by
 rw[eI ex]at up
 exact(rise3.mp up).2.1
theorem yG {x:List Int} (up:eh x) (ne:x≠[]):∃m,x[x.length-1]?=some m∧m∈x∧∀y∈x,y≤m:=by
 have hl:=QL.mpr ne
 have hlt:x.length-1<x.length:=by omega
 refine⟨x[x.length-1],Q3 hlt,Zk hlt,λy hy=>?_⟩
 obtain⟨j,hj,e⟩:=QH hy
 rcases(show j=x.length-1∨j<x.length-1 by omega)with h|h
 ·subst h;rw[e];exact Zi _
 ·have:=ZH.mp up j (x.length-1) hj hlt h
  rw[e]at this
  omega
structure LvN (ls:List (List Int)) (E:Nat→Prop):Prop where
 ne:∀l∈ls,l≠[]
 le:∀l∈ls,l.length≤8
 nb:∀(i:Nat) (x y:List Int),ls[i]?=some x→ls[i+1]?=some y→E i∨5≤x.length+y.length
 up:eh ls.flatten
theorem LvN.ok {ls:List (List Int)} {E:Nat→Prop} (h:LvN ls E) (no:∀i,¬E i):LvOk ls:=⟨h.ne,h.le,λi x y e1 e2=>(h.nb i x y e1 e2).resolve_left (no i),h.up⟩
def j5 (ls:List (List Int)) (i:Nat):List (List Int):=match ls[i]?,ls[i+1]? with
 |some x,some y=>if x.length+y.length<5 then(ls.set i (x++y)).eraseIdx (i+1)else ls
 |_,_=>ls
theorem pO {ls:List (List Int)} {i:Nat} (h:ls.length≤i+1):j5 ls i=ls:=by
 unfold j5
 have:ls[i+1]?=none:=Z1.mpr h
 rw[this]
 split
 ·rename_i h2;cases h2
 ·rfl
theorem tR {ls:List (List Int)} {i:Nat} {x y:List Int} (ex:ls[i]?=some x) (ey:ls[i+1]?=some y):j5 ls i=if x.length+y.length<5 then(ls.set i (x++y)).eraseIdx (i+1)else ls:=by
 unfold j5
 rw[ex,ey]
theorem wY {ls:List (List Int)} {i:Nat}:(j5 ls i).length≤ls.length∧ls.length≤(j5 ls i).length+1:=by
 unfold j5
 split
 ·split
  ·rw[X2,Qx]
   split<;>omega
  ·omega
 ·omega
theorem pN {ls:List (List Int)} {i j:Nat} {z v:List Int} (e:((ls.set i z).eraseIdx (i+1))[j]?=some v):(j<i∧ls[j]?=some v)∨(j=i∧v=z)∨(i<j∧ls[j+1]?=some v):=by
 rw[List.getElem?_eraseIdx]at e
 split at e
 ·rename_i c
  rw[Qq]at e
  by_cases h:i=j
  ·rw[if_pos h]at e
   split at e
   ·cases e;exact .inr (.inl ⟨h.symm,rfl⟩)
   ·cases e
  ·rw[if_neg h]at e
   exact .inl ⟨by omega,e⟩
 ·rename_i c
  rw[Qq,if_neg (by omega)]at e
  exact .inr (.inr ⟨by omega,e⟩)
theorem wX {ls:List (List Int)} {i:Nat} {x y:List Int} (ex:ls[i]?=some x) (ey:ls[i+1]?=some y):((ls.set i (x++y)).eraseIdx (i+1)).flatten=ls.flatten:=by
 have hi:=(Q2.mp ex).1
 have lt:(ls.take i).length=i:=by rw[Qm];omega
 have hy:ls.drop (i+1)=y::ls.drop (i+2):=by
  obtain⟨h,e⟩:=Q2.mp ey
  rw[←e,←Z0 h]
 have e1:(ls.set i (x++y)).eraseIdx (i+1)=ls.take i++(x++y)::ls.drop (i+2):=by
  rw[rL ex,hy,X5 (by omega),lt]
  have:i+1-i=1:=by omega
  rw[this]
  rfl
 rw[e1,eI ex,hy,Zn,Z4,Z4,Qk]
theorem LvN.join {ls:List (List Int)} {E:Nat→Prop} {i:Nat} (h:LvN ls E) (hE:∀j,E j→j=i∨j+1=i):LvN (j5 ls i) (λj=>j+1=i∧E j)∧(j5 ls i).flatten=ls.flatten:=by
 cases ex:ls[i]? with
 |none=>
  have hl:ls.length≤i:=Z1.mp ex
  rw[pO (by omega)]
  refine⟨⟨h.ne,h.le,λj x y e1 e2=>?_,h.up⟩,rfl⟩
  rcases h.nb j x y e1 e2 with z|z
  ·rcases hE j z with rfl|w
   ·rw[ex]at e1;cases e1
   ·exact .inl ⟨w,z⟩
  ·exact .inr z
 |some x=>
  cases ey:ls[i+1]? with
  |none=>
   have hl:ls.length≤i+1:=Z1.mp ey
   rw[pO hl]
   refine⟨⟨h.ne,h.le,λj x' y e1 e2=>?_,h.up⟩,rfl⟩
   rcases h.nb j x' y e1 e2 with z|z
   ·rcases hE j z with rfl|w
    ·rw[ey]at e2;cases e2
    ·exact .inl ⟨w,z⟩
   ·exact .inr z
  |some y=>
   rw[tR ex ey]
   by_cases c:x.length+y.length<5
   ·rw[if_pos c]
    have fl:=wX ex ey
    have mem:∀v∈(ls.set i (x++y)).eraseIdx (i+1),v=x++y∨v∈ls:=λv hv=>by
     obtain⟨j,hj,e⟩:=QH hv
     rcases pN (Q2.mpr ⟨hj,e⟩)with⟨_,q⟩|⟨_,q⟩|⟨_,q⟩
     ·exact .inr (Q0 q)
     ·exact .inl q
     ·exact .inr (Q0 q)
    have px:=QL.mpr (h.ne x (Q0 ex))
    have lxy:(x++y).length=x.length+y.length:=Qa
    refine⟨⟨λv hv=>?_,λv hv=>?_,λj u v e1 e2=>?_,by rw[fl];exact h.up⟩,fl⟩
    ·rcases mem v hv with rfl|q
     ·exact Z2 (by omega)
     ·exact h.ne v q
    ·rcases mem v hv with rfl|q
     ·omega
     ·exact h.le v q
    ·rcases pN e1 with⟨c1,f1⟩|⟨c1,f1⟩|⟨c1,f1⟩<;>rcases pN e2 with⟨c2,f2⟩|⟨c2,f2⟩|⟨c2,f2⟩<;>(try omega)
     ·rcases h.nb j u v f1 f2 with z|z
      ·rcases hE j z with w|w
       ·omega
       ·omega
      ·exact .inr z
     ·rcases h.nb j u x f1 (by rw[c2];exact ex)with z|z
      ·exact .inl ⟨c2,z⟩
      ·rw[f2];exact .inr (by omega)
     ·have e3:ls[i+1+1]?=some v:=by rw[←c1];exact f2
      rcases h.nb (i+1) y v ey e3 with z|z
      ·rcases hE (i+1) z with w|w<;>omega
      ·rw[f1];exact .inr (by omega)
     ·rcases h.nb (j+1) u v f1 f2 with z|z
      ·rcases hE (j+1) z with w|w<;>omega
      ·exact .inr z
   ·rw[if_neg c]
    refine⟨⟨h.ne,h.le,λj u v e1 e2=>?_,h.up⟩,rfl⟩
    rcases h.nb j u v e1 e2 with z|z
    ·rcases hE j z with w|w
     ·subst w
      rw[ex]at e1
      rw[ey]at e2
      cases e1;cases e2
      exact .inr (by omega)
     ·exact .inl ⟨w,z⟩
    ·exact .inr z
theorem uJ {l:List Int} (h:eh l):l.Nodup:=h.imp λh=>Int.ne_of_lt h
theorem LvOk.gone {ls:List (List Int)} {i:Nat} {x:List Int} {k:Int} (o:LvOk ls) (ex:ls[i]?=some x) (hk:k∈x):eh (ls.set i (x.erase k)).flatten∧∀z,z∈(ls.set i (x.erase k)).flatten↔z≠k∧z∈ls.flatten:=by
 have up:=o.up
 rw[eI ex]at up
 obtain⟨u1,u2,u3,u4,u5,u6⟩:=rise3.mp up
 have sub:(x.erase k).Sublist x:=List.erase_sublist
 have nx:=uJ u2
 rw[lH ex,eI ex]
 refine⟨rise3.mpr ⟨u1,u2.sublist sub,u3,λa ha b hb=>u4 a ha b (sub.subset hb),u5,λa ha b hb=>u6 a (sub.subset ha) b hb⟩,λz=>?_⟩
 rw[Q4,Q4,Q4,Q4,nx.mem_erase_iff]
 constructor
 ·rintro (h|⟨h1,h2⟩|h)
  ·have:=u4 z h k hk
   exact⟨by omega,.inl h⟩
  ·exact⟨h1,.inr (.inl h2)⟩
  ·have:=u6 k hk z h
   exact⟨by omega,.inr (.inr h)⟩
 ·rintro ⟨h0,h|h|h⟩
  ·exact .inl h
  ·exact .inr (.inl ⟨h0,h⟩)
  ·exact .inr (.inr h)
theorem LvOk.shrunk {ls:List (List Int)} {i:Nat} {x y:List Int} (o:LvOk ls) (ex:ls[i]?=some x) (ny:y≠[]) (ly:y.length≤x.length) (up:eh (ls.set i y).flatten):LvN (ls.set i y) (λj=>j=i∨j+1=i):=by
 have hx:=o.le x (Q0 ex)
 refine⟨λl hl=>?_,λl hl=>?_,λj a b f g=>?_,up⟩
 ·rcases ou ex hl with rfl|hl
  ·exact ny
  ·exact o.ne l hl
 ·rcases ou ex hl with rfl|hl
  ·omega
  ·exact o.le l hl
 ·rcases l4 ex f with⟨c,_⟩|⟨c,f1⟩
  ·exact .inl (.inl c.symm)
  ·rcases l4 ex g with⟨c',_⟩|⟨c',g1⟩
   ·exact .inl (.inr c'.symm)
   ·exact .inr (o.nb j a b f1 g1)
theorem LvOk.out {ls:List (List Int)} {i:Nat} {x:List Int} (o:LvOk ls) (ex:ls[i]?=some x) (lx:x.length=1) (up:eh (ls.set i []).flatten):LvOk (ls.eraseIdx i)∧(ls.eraseIdx i).flatten=(ls.set i []).flatten:=by
 have hi:=(Q2.mp ex).1
 have lt:(ls.take i).length=i:=by rw[Qm];omega
 have e1:ls.eraseIdx i=ls.take i++ls.drop (i+1):=List.eraseIdx_eq_take_drop_succ _ _
 have fl:(ls.eraseIdx i).flatten=(ls.set i []).flatten:=by
  rw[e1,lH ex,Zn]
  rfl
 refine⟨⟨λl hl=>o.ne l (QO hl),λl hl=>o.le l (QO hl),λj a b f g=>?_,by rw[fl];exact up⟩,fl⟩
 rcases jN f with⟨c1,f1⟩|⟨c1,f1⟩<;>rcases jN g with⟨c2,g1⟩|⟨c2,g1⟩
 ·exact o.nb j a b f1 g1
 ·have e2:j+1=i:=by omega
  subst e2
  have h1:=o.nb j a x f1 ex
  have h2:=o.nb (j+1) x b ex g1
  omega
 ·omega
 ·exact o.nb (j+1) a b f1 g1
def LvA (_K:PySem.W.Frag) (t:Adr) (H:Hp) (a:Addr) (F:Addr→Prop) (ks:List Int):Prop:=∃L A ls,LvB t H a L A ls∧LvOk ls∧ls.flatten=ks∧∀b,F b↔LvF a L A b
section
variable {K:PySem.W.Frag} {t:Adr} {H H':Hp} {a b p:Addr} {F:Addr→Prop} {ks:List Int} {o:HO}
theorem LvA.ins (h:LvA K t H a F ks):∃dx fs,H a=some (.ins t.bE dx fs)∧∀m,m≠("leaves":Str)→fs.lookup m=none:=by
 obtain⟨L,A,ls,hb,_⟩:=h
 obtain⟨dx,ho⟩:=hb.obj
 exact⟨dx,_,ho,λm hm=>Bs hm⟩
theorem LvA.dom (h:LvA K t H a F ks) (hb:F b):∃o,H b=some o:=by
 obtain⟨L,A,ls,h1,_,_,h2⟩:=h
 exact h1.dom ((h2 b).mp hb)
theorem LvA.frame (h:LvA K t H a F ks) (f:∀b,F b→H' b=H b):LvA K t H' a F ks:=by
 obtain⟨L,A,ls,h1,h3,h4,h2⟩:=h
 exact⟨L,A,ls,h1.frame λb hb=>f b ((h2 b).mpr hb),h3,h4,h2⟩
theorem LvA.out (h:LvA K t H a F ks) (e:H p=none):¬F p:=λz=>by
 obtain⟨o,q⟩:=h.dom z
 rw[q]at e
 cases e
theorem LvA.upd (h:LvA K t H a F ks) (e:¬F p):LvA K t (L2.upd H p o) a F ks:=h.frame λb hb=>ac λz=>e (z▸hb)
end
def nE (K:PySem.W.Frag) (t:Adr):Sp:=λvs H Q _=>∃(a dx:Addr),vs=[.ref a]∧H a=some (.ins t.bE dx [])∧H dx=some (.own a)∧∀H' F,LvA K t H' a F []→Fr (λb=>b=a∨b=dx) F H H'→Q .non H'
def oM (K:PySem.W.Frag) (t:Adr):Sp:=λvs H Q _=>∃(a:Addr) (k:Int) (F:Addr→Prop) (ks:List Int),vs=[.ref a,.int k]∧LvA K t H a F ks∧∀H' F',LvA K t H' a F' ks→Fr F F' H H'→Q (.bl (decide (k∈ks))) H'
def oN (K:PySem.W.Frag) (t:Adr):Sp:=λvs H Q E=>∃(a:Addr) (k:Int) (F:Addr→Prop) (ks:List Int),vs=[.ref a,.int k]∧LvA K t H a F ks∧ks.length<4096∧
 (k∉ks→∀H' F' ks',LvA K t H' a F' ks'→(∀z,z∈ks'↔z=k∨z∈ks)→Fr F F' H H'→Q .non H')∧(k∈ks→False)
def kA (K:PySem.W.Frag) (t:Adr):Sp:=λvs H Q E=>∃(a:Addr) (k:Int) (F:Addr→Prop) (ks:List Int),vs=[.ref a,.int k]∧LvA K t H a F ks∧ks.length<4096∧
 (k∈ks→∀H' F' ks',LvA K t H' a F' ks'→(∀z,z∈ks'↔z≠k∧z∈ks)→Fr F F' H H'→Q .non H')∧(k∉ks→False)
theorem LvOk.short {ls:List (List Int)} (o:LvOk ls):ls.length≤ls.flatten.length:=by
 have h:=o.ne
 clear o
 induction ls with
 |nil=>exact Q5 _
 |cons x r ih=>
  have:=QL.mpr (h x Qi)
  have:=ih λl hl=>h l (Qf _ hl)
  rw[Z4,Qa,Qj]
  omega
structure u9 (kd:Str) (fs:List (Str×V)) (a e:V):Prop where
 ki:fs.lookup ("kind":Str)=some (.str kd)
 at_:fs.lookup ("at":Str)=some a
 end_:fs.lookup ("end":Str)=some e
 wo:fs.lookup ("words":Str)=none
 ho:fs.lookup ("holds":Str)=none
def okS (a e:V):Prop:=∃i j,a= .int i∧e= .int j∧0≤i∧i≤j∧j≤65536
def okU (a e:V):Prop:=∃i,a= .int i∧0≤i∧(e= .non∨∃j,e= .int j∧i≤j)
def okD (a e:V):Prop:=∃j,e= .int j∧0≤j∧(a= .non∨∃i,a= .int i∧j≤i)
def Keep (p:Addr) (H H':Hp):Prop:=∀b o,H b=some o→b≠p→H' b=some o
def sO:Sp:=λvs H Q _=>∃x,vs=[x]∧Sc x∧Q (.bl (isW x)) H
def isF (lo:Int):V→Bool
 | .int i=>decide (lo≤i)|_=>false
def uv:Sp:=λvs H Q _=>∃x lo,vs=[x,.int lo]∧Sc x∧Q (.bl (isF lo x)) H
def wr:V→Str
 | .int i=>toString i|_=>"-"
def uq:Sp:=λvs H Q _=>∃x,vs=[x]∧(x= .non∨∃i:Int,x= .int i∧i.natAbs.log2<1920)∧Q (.str (wr x)) H
def eT (K:PySem.W.Frag):Sp:=λvs H Q _=>∃(p C dx:Addr) (kd:Str) (a e:V),vs=[.ref p,.str kd,a,e]∧H p=some (.ins C dx [])∧Cls K C∧NoAttr K C "kind"∧NoAttr K C "at"∧NoAttr K C "end"∧∀H' fs,Keep p H H'→H' p=some (.ins C dx fs)→u9 kd fs a e→Q .non H'
def vn (C N:Addr) (kd:Str) (ok:V→V→Prop):Sp:=λvs H Q E=>∃(p dx:Addr) (a e:V),vs=[.ref p,a,e]∧H p=some (.ins C dx [])∧Sc a∧Sc e∧
 (ok a e→∀H' fs,Keep p H H'→H' p=some (.ins C dx fs)→u9 kd fs a e→Q .non H')∧(¬ok a e→False)
def mB (t:Adr):Sp:=vn t.bz t.jP "slots" okS
def sQ (t:Adr):Sp:=vn t.oj t.jP "up" okU
def qd (t:Adr):Sp:=vn t.d9 t.jP "down" okD
def okN (kd:Int) (a e:V):Prop:=(kd=0∧okS a e)∨(kd=1∧okU a e)∨(kd=2∧okD a e)
def hS:V→V→Int→Bool
 | .int i,.int j,k=>decide (i≤tz (k%65536))&&decide (tz (k%65536)<j)
 |_,_,_=>false
def hU:V→V→Int→Bool
 | .int i,.int j,k=>decide (i≤k)&&decide (k<j)
 | .int i,.non,k=>decide (i≤k)
 |_,_,_=>false
def hD:V→V→Int→Bool
 | .int i,.int j,k=>decide (j≤k)&&decide (k≤i)
 | .non,.int j,k=>decide (j≤k)
 |_,_,_=>false
def hN (kd:Int):V→V→Int→Bool:=if kd=0 then hS else if kd=1 then hU else hD
def bdV:V→Prop
 | .int i=>i<10^80|_=>True
def BA (kd:Str) (a e:V):Str:=Txt.join (" ":Str) [kd,wr a,wr e]
def uw (C:Addr) (kd:Str) (ok:V→V→Prop) (h:V→V→Int→Bool):Sp:=λvs H Q _=>∃(p dx:Addr) (fs:List (Str×V)) (a e:V) (k:Int),vs=[.ref p,.int k]∧H p=some (.ins C dx fs)∧u9 kd fs a e∧ok a e∧0≤k∧∀H',Same H H'→Q (.bl (h a e k)) H'
def cQ (t:Adr):Sp:=uw t.bz "slots" okS hS
def hJ (t:Adr):Sp:=uw t.oj "up" okU hU
def eU (t:Adr):Sp:=uw t.d9 "down" okD hD
def tkC (t:Adr) (kd:Int):Addr:=if kd=0 then t.bz else if kd=1 then t.oj else t.d9
def kdS (kd:Int):Str:=if kd=0 then "slots" else if kd=1 then "up" else "down"
def bO (t:Adr):Sp:=λvs H Q _=>∃(p dx:Addr) (kd:Int) (fs:List (Str×V)) (a e:V),vs=[.ref p]∧H p=some (.ins (tkC t kd) dx fs)∧u9 (kdS kd) fs a e∧okN kd a e∧bdV a∧bdV e∧∀H',Same H H'→Q (.str (BA (kdS kd) a e)) H'
theorem wz {x dx C:Addr} {H H':Hp} (h1:H x=none) (h2:H dx=none) (k:Keep x (upd (upd H dx (.own x)) x (.ins C dx [])) H'):Same H H':=λb o q=>by
 refine k b o ?_ (am q h1)
 rw[ac (am q h1),ac (am q h2)]
 exact q
def spHN (t:Adr) (kd:Int):Sp:=if kd=0 then cQ t else if kd=1 then hJ t else eU t
def AS (t:Adr) (H:Hp) (p:Addr) (kd:Int) (a e:V):Prop:=∃(dx:Addr) (fs:List (Str×V)),H p=some (.ins (tkC t kd) dx fs)∧u9 (kdS kd) fs a e
theorem okN.sc {kd:Int} {a e:V} (h:okN kd a e):Sc a∧Sc e:=by
 rcases h with⟨_,i,j,rfl,rfl,_⟩|⟨_,i,rfl,_,rfl|⟨j,rfl,_⟩⟩|⟨_,j,rfl,_,rfl|⟨i,rfl,_⟩⟩<;>exact⟨True.intro,True.intro⟩
theorem okN.kd {kd:Int} {a e:V} (h:okN kd a e):kd=0∨kd=1∨kd=2:=by
 rcases h with⟨h,_⟩|⟨h,_⟩|⟨h,_⟩
 ·exact .inl h
 ·exact .inr (.inl h)
 ·exact .inr (.inr h)
theorem okN.s {a e:V} (h:okN 0 a e):okS a e:=by
 rcases h with⟨_,h⟩|⟨h,_⟩|⟨h,_⟩
 ·exact h
 ·cases h
 ·cases h
theorem okN.u {a e:V} (h:okN 1 a e):okU a e:=by
 rcases h with⟨h,_⟩|⟨_,h⟩|⟨h,_⟩
 ·cases h
 ·exact h
 ·cases h
theorem okN.d {a e:V} (h:okN 2 a e):okD a e:=by
 rcases h with⟨h,_⟩|⟨h,_⟩|⟨_,h⟩
 ·cases h
 ·cases h
 ·exact h
theorem dHN {t:Adr} {kd:Int} (h:kd=0∨kd=1∨kd=2):DOr (D1 t.bz (cQ t)) (DOr (D1 t.oj (hJ t)) (D1 t.d9 (eU t))) (tkC t kd) (spHN t kd):=by
 rcases h with rfl|rfl|rfl
 ·exact .inl ⟨rfl,rfl⟩
 ·exact .inr (.inl ⟨rfl,rfl⟩)
 ·exact .inr (.inr ⟨rfl,rfl⟩)
theorem dWN {t:Adr} {kd:Int} (h:kd=0∨kd=1∨kd=2):DOr (D1 t.bz (bO t)) (DOr (D1 t.oj (bO t)) (D1 t.d9 (bO t))) (tkC t kd) (bO t):=by
 rcases h with rfl|rfl|rfl
 ·exact .inl ⟨rfl,rfl⟩
 ·exact .inr (.inl ⟨rfl,rfl⟩)
 ·exact .inr (.inr ⟨rfl,rfl⟩)
theorem vo {t:Adr} {kd k:Int} {a e:V} {p dx:Addr} {fs:List (Str×V)} {H:Hp} {Q:VK} {E:XK} (ho:okN kd a e) (h:H p=some (.ins (tkC t kd) dx fs)) (f:u9 (kdS kd) fs a e) (h0:0≤k)
  (q:∀H',Same H H'→Q (.bl (hN kd a e k)) H'):spHN t kd [.ref p,.int k] H Q E:=by
 rcases ho.kd with rfl|rfl|rfl
 ·exact⟨p,dx,fs,a,e,k,rfl,h,f,ho.s,h0,q⟩
 ·exact⟨p,dx,fs,a,e,k,rfl,h,f,ho.u,h0,q⟩
 ·exact⟨p,dx,fs,a,e,k,rfl,h,f,ho.d,h0,q⟩
set_option exponentiation.threshold 2000 in
theorem Dp {i:Int} (h0:0≤i) (h1:i<10^80):i.natAbs.log2<1920:=by
 rcases Zc i.natAbs with z|z
 ·rw[z];decide
 ·refine(Nat.log2_lt (X6 z)).mpr ?_
  have:i.natAbs<10^80:=by omega
  exact Nat.lt_trans this (Qn (show 10^80<2^300 by decide) (Nat.pow_le_pow_right (by decide) (by decide)))
def few (a:V):Prop:=(a= .non∨∃i:Int,a= .int i∧i.natAbs.log2<1920)∧(wr a).length≤81
theorem vQ:few .non:=⟨.inl rfl,by decide+kernel⟩
theorem fW {i:Int} (h0:0≤i) (h1:bdV (.int i)):few (.int i):=by
 have h1:i<10^80:=h1
 refine⟨.inr ⟨i,rfl,Dp h0 h1⟩,?_⟩
 show(Str.ofString (toString i)).length≤81
 have h:(toString i).length≤80+1:=PySem.int_text_length_le10 (by decide) (by omega)
 rw[Str.ofString_eq_toList]
 show((toString i).toList.map Char.toNat).toArray.size≤81
 rw[Qd,Q1]
 exact h
theorem okN.few {kd:Int} {a e:V} (h:okN kd a e) (ba:bdV a) (be:bdV e):few a∧few e:=by
 rcases h with⟨_,i,j,rfl,rfl,h0,h1,_⟩|⟨_,i,rfl,h0,rfl|⟨j,rfl,h1⟩⟩|⟨_,j,rfl,h0,rfl|⟨i,rfl,h1⟩⟩
 ·exact⟨fW h0 ba,fW (by omega) be⟩
 ·exact⟨fW h0 ba,vQ⟩
 ·exact⟨fW h0 ba,fW (by omega) be⟩
 ·exact⟨vQ,fW h0 be⟩
 ·exact⟨fW (by omega) ba,fW h0 be⟩
section
variable {P:Program} {w:World} {K:PySem.W.Frag} {mg:Str→Option Value} {base:Heap} {t:Adr}
def wv:Sp:=λvs H Q _=>∃n:Int,vs=[.int n]∧0≤n∧Q (.int (tz n)) H
def ut:Sp:=λvs H Q _=>∃k:Int,vs=[.int k]∧Q (.int (k%65536)) H
def sN:Sp:=λvs H Q _=>∃k:Int,vs=[.int k]∧Q (.int (tz (k%65536))) H
def ur:Sp:=λvs H Q _=>∃k n:Int,vs=[.int k,.int n]∧0<n∧Q (.int (k%65536%n)) H
theorem wG (T:Txt K mg t):FnOk P w K mg base CX0 1 t.t7 t.pT ["number"] wv:=by
 obtain⟨tk_BITS,hBITS⟩:=T.DI
 refine T.zm.ok sc_turned (λvs H Q E h=>?_) (λcdv A outer s H vs Q E hr h=>?_)
 ·obtain⟨n,rfl,_⟩:=h
  rfl
 ·obtain⟨n,rfl,hn,k⟩:=h
  refine⟨_,(af (aD (i:=1) sc_turned.nd rfl (Or.inl rfl) ae)
   (af (aD (i:=2) sc_turned.nd rfl (Or.inl rfl) (pv 0))
   (af (kI PassesOwn.never rfl (eO (by rfl) T.k8 (aa (eG (v:= .int 16) (by rfl) hBITS ⟨_,rfl⟩) ah)) (bU (i:=3) sc_turned.nd rfl (Or.inl rfl))
   (af (aD (i:=1) sc_turned.nd rfl (Or.inl rfl) (al bx (al cY (pv 1) ae) (al aK (pv 2) ae)))
   (ai (aD (i:=2) sc_turned.nd rfl (Or.inl rfl) (al aM (pv 2) ae)))))
   (ai (aG (pv 1))))))
   ,?_⟩
  have en:((n.toNat/2^0:Nat):Int)=n:=by rw[Nat.pow_zero,Nat.div_one];omega
  refine⟨_,rfl,16,rfl,by decide,by decide,qX (n:=16) (λi σ H'=>∃v,H'=H∧σ=[some (.int n),some (.int ((rv i n.toNat:Nat):Int)),some (.int ((n.toNat/2^i:Nat):Int)),v]) ?_ ?_ ?_⟩
  ·refine⟨none,rfl,?_⟩
   rw[en]
   rfl
  ·rintro i σ H' hi ⟨v,rfl,rfl⟩
   refine⟨_,rfl,_,_,rfl,rfl,.inr ⟨by decide,by decide⟩,_,rfl,_,_,rfl,rfl,(by show(0:Int)<2;decide),_,_,rfl,rfl,_,rfl,_,_,rfl,rfl,⟨by decide,by decide⟩,?_⟩
   refine⟨some (.int (0+(i:Int))),rfl,?_⟩
   rw[←wn i n.toNat,←wp i n.toNat]
   rfl
  ·rintro σ H' ⟨v,rfl,rfl⟩
   unfold tz at k
   exact⟨_,rfl,k⟩
theorem pf (T:Txt K mg t):FnOk P w K mg base CX0 1 t.rA t.mX ["key"] ut:=by
 obtain⟨tk_PLACES,hPLACES⟩:=T.yR
 refine T.rE.ok uA (λvs H Q E h=>?_) (λcdv A outer s H vs Q E hr h=>?_)
 ·obtain⟨n,rfl,_⟩:=h
  rfl
 ·obtain⟨n,rfl,k⟩:=h
  refine⟨_,(ai (aG (al aK (pv 0) (eG (v:= .int 65536) (by rfl) hPLACES ⟨_,rfl⟩))))
   ,?_⟩
  exact⟨_,rfl,_,_,rfl,rfl,(by show(0:Int)<65536;decide),k⟩
theorem tx (T:Txt K mg t):FnOk P w K mg base CX0 2 t.pX t.kR ["key"] sN:=by
 have Jp:= @pf P w K mg base t T
 have Js:= @wG P w K mg base t T
 refine T.va.ok sT (λvs H Q E h=>?_) (λcdv A outer s H vs Q E hr h=>?_)
 ·obtain⟨n,rfl,_⟩:=h
  rfl
 ·obtain⟨n,rfl,k⟩:=h
  refine⟨_,(ai (aG (aQ Js (hr.mono (by decide)) (by rfl) T.Do T.zm.kp T.DA .nil az (aa (aQ Jp (hr.mono (by decide)) (by rfl) T.wR T.rE.kp T.xp .nil az (aa (pv 0) ah)) ah))))
   ,?_⟩
  exact⟨_,rfl,_,rfl,_,rfl,Qe _ (by decide),k⟩
theorem pe (T:Txt K mg t):FnOk P w K mg base CX0 2 t.rq t.mW ["key","size"] ur:=by
 have Jp:= @pf P w K mg base t T
 refine T.m5.ok uz (λvs H Q E h=>?_) (λcdv A outer s H vs Q E hr h=>?_)
 ·obtain⟨n,m,rfl,_⟩:=h
  rfl
 ·obtain⟨n,m,rfl,hm,k⟩:=h
  refine⟨_,(ai (aG (al aK (aQ Jp (hr.mono (by decide)) (by rfl) T.wR T.rE.kp T.xp .nil az (aa (pv 0) ah)) (pv 1))))
   ,?_⟩
  exact⟨_,rfl,_,rfl,_,rfl,_,_,rfl,rfl,hm,k⟩
theorem wx {n:Nat} (h:n≤4096):n<sizeLine:=ZE h (by decide)
def rH:Sp:=λvs H Q _=>∃n:Int,vs=[.int n]∧0≤n∧n≤1000∧∀H' r A,Same H H'→H r=none→(∀b∈A,H b=none)→RowOk H' r A (List.replicate n.toNat []) n→Q (.ref r) H'
theorem lQ (T:Txt K mg t):FnOk P w K mg base CX0 1 t.nq t.jq ["size"] rH:=by
 refine T.jG.ok rM (λvs H Q E h=>?_) (λcdv A outer s H vs Q E hr h=>?_)
 ·obtain⟨n,rfl,_⟩:=h
  rfl
 ·obtain⟨n,rfl,n0,n1,q⟩:=h
  refine⟨_,(ai (aG (ot rfl (CScope.of (M:=["slot"]) (N:=["size"]) (N':=["size"]) (dsc:=aj fP) rfl rfl (by decide+kernel)) (eO (by rfl) T.k8 (aa (pv 0) ah)) (λ_ _ _ _ _=>dO))))
   ,?_⟩
  refine⟨_,rfl,n,rfl,by omega,by omega,λD hD=>?_⟩
  refine kU (n:=n.toNat) (lo:=0) (λi ys H3=>Same H H3∧∃as:List Addr,ys=as.map V.ref∧as.length=i∧(∀b∈as,H b=none∧b≠D∧H3 b=some (.dK []))∧∀(x y:Nat) (b:Addr),as[x]?=some b→as[y]?=some b→x=y)
   ⟨ak hD,[],rfl,rfl,(λb hb=>by cases hb),λx y b e=>by simp at e⟩ (λi ys H3 hi ⟨s3,as,ey,el,hb,inj⟩ hDD=>?_) (λys H3 ⟨s3,as,ey,el,hb,inj⟩ hDD=>?_)
  ·intro c nc
   have cD:c≠D:=(am hDD nc).symm
   have nca:c∉as:=λz=>by
    have:=(hb c z).2.2
    rw[nc]at this
    cases this
   have nH:H c=none:=by
    cases e:H c with
    |none=>rfl
    |some o=>rw[s3 c o e]at nc;cases nc
   refine CNext.mk hi (by rw[ac cD.symm];exact hDD) (by rw[ey,Q1];exact bT (by omega)) ⟨dN (s3.trans (ak nc)) hD,as++ [c],by rw[ey,Qr];rfl,by rw[Qa,el];rfl,λb hb'=>?_,λx y b e1 e2=>?_⟩
   ·rcases Q4.mp hb' with z|z
    ·obtain⟨h1,h2,h3⟩:=hb b z
     exact⟨h1,h2,by rw[ac h2,ac (λw=>nca (by rw[←w];exact z))];exact h3⟩
    ·rw[Q8.mp z]
     exact⟨nH,cD,by rw[ac cD,ag]⟩
   ·have lem:∀x:Nat,(as++ [c])[x]?=some b→as[x]?=some b∨(x=as.length∧b=c):=λx e=>by
     rw[X1]at e
     split at e
     ·exact .inl e
     ·rename_i w
      have:x-as.length=0:=by
       rcases Zc (x-as.length)with z|z
       ·exact z
       ·rw[List.getElem?_eq_none (by simp;omega)]at e;cases e
      rw[this]at e
      cases e
      exact .inr ⟨by omega,rfl⟩
    rcases lem x e1 with f1|⟨f1,g1⟩<;>rcases lem y e2 with f2|⟨f2,g2⟩
    ·exact inj x y b f1 f2
    ·subst g2;exact absurd (Q0 f1) nca
    ·subst g1;exact absurd (Q0 f2) nca
    ·omega
  ·refine q H3 D as s3 hD (λb z=>(hb b z).1) ⟨by rw[hDD,ey],by rw[el];omega,by rw[QX];omega,λj b kv e1 e2=>?_,λj kv e=>?_,inj,λj kv e p hp=>?_⟩
   ·rw[Z6 (Q0 e2)]
    exact(hb b (Q0 e1)).2.2
   ·rw[Z6 (Q0 e)]
    exact Z7
   ·rw[Z6 (Q0 e)]at hp
    cases hp
def lu (t:Adr):Sp:=λvs H Q _=>∃(a:Addr) (k:Int) (st:SSt) (d:SlD),vs=[.ref a,.int k]∧SlB t H a st d∧SzOk st∧∀c kv,IsCell d st k c kv→Q (.ref c) H
def jR (t:Adr):Sp:=λvs H Q _=>∃(a:Addr) (st:SSt) (d:SlD),vs=[.ref a]∧SlB t H a st d∧SzOk st∧st.kv.length<4096∧∀H' d',SlB t H' a st.one d'→d'.n=d.n→Fr (SlF a st d) (SlF a st.one d') H H'→Q .non H'
def jS (t:Adr):Sp:=λvs H Q _=>∃(a:Addr) (st:SSt) (d:SlD),vs=[.ref a]∧SlB t H a st d∧SzOk st∧d.n=(st.kv.length:Int)∧∀H' d',SlB t H' a st.three d'→d'.n=d.n→Fr (SlF a st d) (SlF a st.three d') H H'→Q .non H'
theorem rZ {A:List Addr} {z:Int} {c:Addr} (h0:0≤z) (e:A[z.toNat]?=some c):atI (A.map V.ref) z=some (.ref c):=by
 obtain⟨j,rfl⟩:=ZM h0
 refine oz ?_
 rw[QD]
 have e:A[j]?=some c:=e
 rw[e]
 rfl
theorem cZ (T:Txt K mg t):FnOk P w K mg base CX0 3 t.gY t.dF ["self","key"] (lu t):=by
 have Jr:= @pe P w K mg base t T
 refine T.xv.ok sc_Slots__cell_of (λvs H Q E h=>?_) (λcdv A outer s H vs Q E hr h=>?_)
 ·obtain⟨a,k,st,d,rfl,_⟩:=h
  rfl
 ·obtain⟨a,k,st,d,rfl,hb,z,q⟩:=h
  refine⟨_,(af (aD (i:=2) sc_Slots__cell_of.nd rfl (Or.inl rfl) (aW aN (aq (pv 0) rfl) ae (λ_ _=>rfl)))
   (af (aD (i:=3) sc_Slots__cell_of.nd rfl (Or.inl rfl) (aQ Jr (hr.mono (by decide)) (by rfl) T.qR T.m5.kp T.rn .nil az (aa (pv 1) (aa (aI ay (by rfl) T.bN bn (aa (pv 2) ah)) ah))))
   (af (aV (au Bo (pv 3) (aq (pv 0) rfl) (ax _))
   (ai (aG (aW aN (pv 2) (pv 3) (λ_ _=>rfl))))
   aF)
   (af (aD (i:=4) sc_Slots__cell_of.nd rfl (Or.inl rfl) (aW aN (aq (pv 0) rfl) ae (λ_ _=>rfl)))
   (ai (aG (aW aN (pv 4) (aQ Jr (hr.mono (by decide)) (by rfl) T.qR T.m5.kp T.rn .nil az (aa (pv 1) (aa (aI ay (by rfl) T.bN bn (aa (pv 4) ah)) ah))) (λ_ _=>rfl))))))))
   ,?_⟩
  obtain⟨dx,ho⟩:=hb.obj
  obtain⟨s4,s5⟩:=cW z.pw
  obtain⟨m0,m1,m2⟩:=mP (k:=k) s4
  have t0:∃xs,H d.tb=some (.lst xs)∧atI xs 0=some (.ref d.r0):=by
   refine⟨_,hb.tbl,?_⟩
   cases st.nxt<;>rfl
  obtain⟨xs,hx,x0⟩:=t0
  have fld:∀{Q':VK},Q' (.ref d.tb) H→tFld K (BD 0) "table" [some (.ref a),some (.int k),none,none,none] H Q':=λ{Q'} q=>⟨_,rfl,a,_,dx,_,_,rfl,ho,T.aA,T.aR,iK,q⟩
  have la:((d.A0.map V.ref).length:Int)=st.size:=by rw[Q1];exact hb.row0.la
  refine⟨_,rfl,a,_,dx,_,_,rfl,ho,T.aA,T.aR,iK,d.tb,_,_,_,rfl,rfl,SqL.of hx,x0,?_⟩
  refine⟨_,rfl,_,rfl,d.r0,_,rfl,.inl (SqL.of hb.row0.lst),k,_,rfl,by rw[la];omega,?_⟩
  dsimp only
  rw[la]
  refine⟨_,rfl,_,rfl,a,_,dx,_,_,rfl,ho,T.aA,T.br,sS,_,_,rfl,rfl,_,rfl,bI (λc=>?_) (λc=>?_)⟩
  ·have c:=of_decide_eq_true c
   obtain⟨x,e1⟩:=cn (l:=d.A0) m0 (by rw[hb.row0.la];exact m1)
   obtain⟨y,e2⟩:=cn (l:=d.C0) m0 (by rw[hb.row0.lc];exact m1)
   exact⟨_,rfl,_,rfl,d.r0,_,_,_,rfl,rfl,SqL.of hb.row0.lst,rZ m0 e1,q x y (.inl ⟨c,e1,e2⟩)⟩
  ·have c:¬st.moved≤k%65536%st.size:=λz=>c (decide_eq_true z)
   cases e:st.nxt with
   |none=>rw[SSt.moved_none e]at c;exact absurd m0 c
   |some m=>
    have hm:=SSt.moved_some e
    obtain⟨pm,_⟩:=z.nx m e
    obtain⟨s6,_⟩:=cW pm
    obtain⟨n0,n1,n2⟩:=mP (k:=k) s6
    have r1:=hb.row1
    rw[e]at r1
    have ht:=hb.tbl
    rw[e]at ht
    have lb:((d.A1.map V.ref).length:Int)=m:=by rw[Q1];exact r1.la
    obtain⟨x,e1⟩:=cn (l:=d.A1) n0 (by rw[r1.la];exact n1)
    obtain⟨y,e2⟩:=cn (l:=d.C1) n0 (by rw[r1.lc];exact n1)
    refine⟨_,rfl,a,_,dx,_,_,rfl,ho,T.aA,T.aR,iK,d.tb,_,_,_,rfl,rfl,SqL.of ht,rfl,?_⟩
    refine⟨_,rfl,_,rfl,_,rfl,d.r1,_,rfl,.inl (SqL.of r1.lst),k,_,rfl,by rw[lb];omega,?_⟩
    dsimp only
    rw[lb]
    exact⟨d.r1,_,_,_,rfl,rfl,SqL.of r1.lst,rZ n0 e1,q x y (.inr ⟨m,e,by omega,e1,e2⟩)⟩
theorem dM {n:Nat} (h:n≤100000):n<sizeLine:=ZE h (by decide)
theorem Ch {n:Nat} {z:Int} (h0:0≤z) (h1:z<n):ixN n z=some z.toNat:=by unfold ixN;rw[if_pos h0,if_pos h1]
theorem wT {kv:List (Int×V)} {i:Nat} {k:Key} {v:V} (e:(aS kv)[i]?=some (k,v)):∃n:Int,k=Sum.inl n∧kv[i]?=some (n,v):=by
 unfold aS at e
 rw[QD]at e
 cases q:kv[i]? with
 |none=>rw[q]at e;cases e
 |some p=>rw[q]at e;cases e;exact⟨p.1,rfl,rfl⟩
theorem xU {m:Int} {kv:List (Int×V)} {C:List (List (Int×V))} {i:Nat} {p:Int×V} (e:kv[i]?=some p):(kv.take (i+1)).foldl (dZ m) C=dZ m ((kv.take i).foldl (dZ m) C) p:=by
 rw[Zu,e,List.foldl_append]
 rfl
theorem eB (T:Txt K mg t):FnOk P w K mg base CX0 3 t.fK t.cK ["self"] (jR t):=by
 have Jr:= @pe P w K mg base t T
 refine T.vd.ok sc_Slots__move_slot (λvs H Q E h=>?_) (λcdv A outer s H vs Q E hr h=>?_)
 ·obtain⟨a,st,d,rfl,_⟩:=h
  rfl
 ·obtain⟨a,st,d,rfl,hb,z,hl,q⟩:=h
  refine⟨_,(af (aV (au bH (aI ay (by rfl) T.bN bn (aa (aq (pv 0) rfl) ah)) ae (ax _))
   (ai lM)
   aF)
   (af (aD (i:=1) sc_Slots__move_slot.nd rfl (Or.inl rfl) (aW aN (aq (pv 0) rfl) ae (λ_ _=>rfl)))
   (af (aD (i:=2) sc_Slots__move_slot.nd rfl (Or.inl rfl) (aW aN (aq (pv 0) rfl) ae (λ_ _=>rfl)))
   (af (Aj (kI PassesOwn.never rfl (yd (yi Z9 PySem.F.slot_dict_items PySem.F.type_dict_items yq (aW aN (pv 1) (aq (pv 0) rfl) (λ_ _=>rfl)))) (uD rfl (fj (bU (i:=3) sc_Slots__move_slot.nd rfl (Or.inl rfl)) (fj (bU (i:=4) sc_Slots__move_slot.nd rfl (Or.inl rfl)) rP)))
   (ai (rO (qV hr) (aW aN (pv 2) (aQ Jr (hr.mono (by decide)) (by rfl) T.qR T.m5.kp T.rn .nil az (aa (pv 3) (aa (aI ay (by rfl) T.bN bn (aa (pv 2) ah)) ah))) (λ_ _=>rfl)) (pv 3) (pv 4) rfl))))
   (af (pc dO (uE (pv 1) (aq (pv 0) rfl) oU))
   (af (eM (pv 0) ae pP)
   (ai (aV (au bH (aq (pv 0) rfl) (aI ay (by rfl) T.bN bn (aa (pv 1) ah)) (ax _))
   (af (bq (pv 0) (bZ (aa (pv 2) ah)) rfl)
   (ai (bq (pv 0) ae rfl)))
   aF))))))))
   ,?_⟩
  obtain⟨dx,ho⟩:=hb.obj
  have ht:=hb.tbl
  cases e:st.nxt with
  |none=>
   rw[e]at ht
   refine⟨_,rfl,a,_,dx,_,_,rfl,ho,T.aA,T.aR,iK,d.tb,_,rfl,.inl (SqL.of ht),rfl,_,rfl,jU rfl ?_⟩
   have e1:st.one=st:=by unfold SSt.one;rw[e]
   rw[e1]at q
   exact q H d hb rfl Fr.refl
  |some m=>
   rw[e]at ht
   refine⟨_,rfl,a,_,dx,_,_,rfl,ho,T.aA,T.aR,iK,d.tb,_,rfl,.inl (SqL.of ht),rfl,_,rfl,bQ (λz=>by cases z) ?_⟩
   refine⟨_,rfl,a,_,dx,_,_,rfl,ho,T.aA,T.aR,iK,d.tb,_,_,_,rfl,rfl,SqL.of ht,rfl,?_⟩
   refine⟨_,rfl,a,_,dx,_,_,rfl,ho,T.aA,T.aR,iK,d.tb,_,_,_,rfl,rfl,SqL.of ht,rfl,?_⟩
   obtain⟨pm,v0,v1,_⟩:=z.nx m e
   obtain⟨s4,s5⟩:=cW z.pw
   obtain⟨s6,s7⟩:=cW pm
   have hm:=SSt.moved_some e
   rw[hm]at ho
   have r1:=hb.row1
   rw[e]at r1
   obtain⟨c0,ec⟩:=cn (l:=d.A0) v0 (by rw[hb.row0.la];exact v1)
   obtain⟨kv,ek⟩:=cn (l:=d.C0) v0 (by rw[hb.row0.lc];exact v1)
   have hc0:=hb.row0.cell _ _ _ ec ek
   have lb:((d.A1.map V.ref).length:Int)=m:=by rw[Q1];exact r1.la
   have c0A:c0∉d.A1:=hb.dis c0 (Q0 ec)
   have r1c:d.r1≠c0:=bP r1.lst hc0 (by intro z;cases z)
   have kvl:=hb.short0 z ek
   have keepA:∀b,b=d.r1∨b∈d.A1→∃o,H b=some o:=λb hb1=>by
    rcases hb1 with rfl|hb1
    ·exact⟨_,r1.lst⟩
    ·obtain⟨_,_,_,_,w⟩:=r1.has hb1
     exact⟨_,w⟩
   refine⟨c0,aS kv,hc0,_,rfl,_,rfl,a,_,dx,_,_,rfl,ho,T.aA,T.br,sS,d.r0,_,_,_,rfl,rfl,SqL.of hb.row0.lst,rZ v0 ec,.inr (.inr (.inl ⟨rfl,.inl ⟨_,hc0⟩⟩)),c0,aS kv,rfl,rfl,hc0,λvw nv=>?_⟩
   have hc1:upd H vw (vwO vw c0) c0=some (.dK (aS kv)):=by rw[ac (am hc0 nv)];exact hc0
   refine⟨vw,c0,aS kv,rfl,ag,hc1,λob=>?_⟩
   refine uV (λi σ H'=>∃v3 v4,σ=[some (.ref a),some (.ref d.r0),some (.ref d.r1),v3,v4]∧RowOk H' d.r1 d.A1 ((kv.take i).foldl (dZ m) d.C1) m∧H' c0=some (.frz ob (.dK (aS kv)))∧∀b o,b∉d.A1→b≠c0→H b=some o→H' b=some o)
    ⟨_,_,rfl,?_,ag,λb o _ n2 e=>?_⟩ (λi σ H' _ ⟨_,_,_,_,hf,_⟩=>hf) (λi k v p σ H' ei ⟨v3,v4,eσ,hr,hf,hk⟩ np=>?_) (λσ H' ⟨v3,v4,eσ,hr,hf,hk⟩=>?_)
   ·refine RowOk.frame (H:=H) r1 λb hb1=>?_
    obtain⟨o,w⟩:=keepA b hb1
    have n2:b≠c0:=by
     rcases hb1 with rfl|hb1
     ·exact r1c
     ·exact λz=>c0A (z▸hb1)
    rw[ac n2,ac (am w nv)]
   ·rw[ac n2,ac (am e nv)]
    exact e
   ·subst eσ
    obtain⟨n,rfl,en⟩:=wT ei
    have hr2:RowOk (upd H' p (.tup [kV (Sum.inl n),v])) d.r1 d.A1 ((kv.take i).foldl (dZ m) d.C1) m:=hr.frame λb hb1=>ac λw=>by
     have:∃o,H' b=some o:=by
      rcases hb1 with rfl|hb1
      ·exact⟨_,hr.lst⟩
      ·obtain⟨_,_,_,_,w⟩:=hr.has hb1
       exact⟨_,w⟩
     obtain⟨o,q⟩:=this
     rw[w,np]at q
     cases q
    obtain⟨n0,n1,n2⟩:=mP (k:=n) s6
    obtain⟨c,e1⟩:=cn (l:=d.A1) n0 (by rw[hr2.la];exact n1)
    obtain⟨y,e2⟩:=cn (l:=(kv.take i).foldl (dZ m) d.C1) n0 (by rw[hr2.lc];exact n1)
    obtain⟨y0,e3⟩:=cn (l:=d.C1) n0 (by rw[r1.lc];exact n1)
    have yl:=tH e3 e2
    have y0l:=hb.short1 z e e3
    have tl:(kv.take i).length≤kv.length:=by rw[Qm];omega
    have hc:=hr2.cell _ _ _ e1 e2
    have cA:c∈d.A1:=Q0 e1
    refine⟨p,_,rfl,SqT.of ag,rfl,_,_,rfl,_,_,rfl,rfl,?_⟩
    refine⟨_,rfl,_,rfl,_,rfl,_,rfl,d.r1,_,rfl,.inl (SqL.of hr2.lst),n,_,rfl,by rw[lb];omega,?_⟩
    dsimp only
    rw[lb]
    refine⟨d.r1,_,_,_,rfl,rfl,SqL.of hr2.lst,rZ n0 e1,_,rfl,c,_,rfl,DPut.k (k:=Sum.inl n) hc (by rw[eP];exact dM (by omega)),?_⟩
    rw[gT]
    have pn:∀b o,H' b=some o→b≠p:=λb o q=>am q np
    refine⟨_,_,rfl,?_,?_,λb o nA nc q=>?_⟩
    ·rw[xU en]
     exact hr2.mov s6 e1 e2
    ·rw[ac (λw=>c0A (by rw[w];exact cA)),ac (pn _ _ hf)]
     exact hf
    ·have q:=hk b o nA nc q
     rw[ac (λw=>nA (by rw[w];exact cA)),ac (pn _ _ q)]
     exact q
   ·subst eσ
    rw[eP,Xf]at hr
    refine⟨ob,hf,λb' nb=>?_⟩
    have hF:∀b,¬SlF a st d b→b∉d.A1∧b≠c0∧b≠a∧b≠d.r0∧b≠d.tb∧b≠d.r1:=λb n=>
     ⟨λq=>n (.inr (.inr (.inr (.inr (.inr q))))),λq=>n (.inr (.inr (.inr (.inl (q▸Q0 ec))))),λq=>n (.inl q),λq=>n (.inr (.inr (.inl q))),λq=>n (.inr (.inl q)),λq=>n (.inr (.inr (.inr (.inr (.inl ⟨by rw[e];rfl,q⟩)))))⟩
    have inA1:∀b o,H b=some o→(∀kvs,o≠ .dK kvs)→b∉d.A1:=λb o q ne w=>(r1.notr w q ne) rfl
    have K1:∀b o,b∉d.A1→b≠c0→H b=some o→upd H' c0 (.dK (aS kv)) b=some o:=λb o n1 n2 q=>by rw[ac n2];exact hk b o n1 n2 q
    have hr3:RowOk (upd H' c0 (.dK (aS kv))) d.r1 d.A1 (kv.foldl (dZ m) d.C1) m:=hr.frame λb hb1=>ac (by
     rcases hb1 with rfl|hb1
     ·exact r1c
     ·exact λw=>c0A (w▸hb1))
    have hc3:upd H' c0 (.dK (aS kv)) c0=some (.dK (aS kv)):=ag
    generalize upd H' c0 (.dK (aS kv))=H3 at nb K1 hr3 hc3⊢
    have ho3:=K1 a _ (inA1 _ _ ho (λ_ w=>by cases w)) (bP ho hc0 (by intro w;cases w)) ho
    have hr0:=hb.row0.lst
    have hr03:=K1 d.r0 _ (inA1 _ _ hr0 (λ_ w=>by cases w)) (bP hr0 hc0 (by intro w;cases w)) hr0
    have ht3:=K1 d.tb _ (inA1 _ _ ht (λ_ w=>by cases w)) (bP ht hc0 (by intro w;cases w)) ht
    have nbF:¬SlF a st d b':=λw=>by
     rcases w with w|w|w|w|⟨_,w⟩|w
     ·rw[w,ho3]at nb;cases nb
     ·rw[w,ht3]at nb;cases nb
     ·rw[w,hr03]at nb;cases nb
     ·obtain⟨j,kv1,f1,f2,f3⟩:=hb.row0.has w
      by_cases y:b'=c0
      ·rw[y,hc3]at nb;cases nb
      ·rw[K1 b' _ (hb.dis b' w) y f3]at nb;cases nb
     ·rw[w,hr3.lst]at nb;cases nb
     ·obtain⟨_,_,_,_,w'⟩:=hr3.has w
      rw[w']at nb;cases nb
    have lA:((d.A0.map V.ref).length:Int)=st.size:=by rw[Q1];exact hb.row0.la
    have bo:∀{x:Addr} {o:HO},H3 x=some o→x≠b':=λq=>am q nb
    refine⟨_,rfl,_,rfl,a,_,dx,_,_,rfl,(by rw[ac (bo ho3)];exact ho3),T.aA,T.br,sS,d.r0,_,_,_,rfl,rfl,(by rw[ac (bo hr03)];exact hr03),Ch v0 (by rw[lA];exact v1),?_⟩
    have g0:H3 d.r1=some (.lst (d.A1.map V.ref)):=hr3.lst
    have ra:d.r0≠a:=bP hr0 ho (by intro w;cases w)
    have r01:d.r0≠d.r1:=(hb.tr1 (by rw[e];rfl)).2
    have t1:d.tb≠d.r1:=(hb.tr1 (by rw[e];rfl)).1
    have ta:d.tb≠a:=bP ht ho (by intro w;cases w)
    have r1a:d.r1≠a:=bP r1.lst ho (by intro w;cases w)
    have cellsA:∀b∈d.A1,b≠b'∧b≠d.r0∧b≠a:=λb w=>by
     obtain⟨_,_,_,_,f⟩:=hr3.has w
     exact⟨bo f,bP f hr03 (by intro w;cases w),bP f ho3 (by intro w;cases w)⟩
    have es:(d.A0.map V.ref).set st.mv.toNat (V.ref b')=(d.A0.set st.mv.toNat b').map V.ref:=by rw[List.map_set]
    rw[es]
    have ho5:upd (upd H3 b' (.dK [])) d.r0 (.lst ((d.A0.set st.mv.toNat b').map V.ref)) a=some (.ins t.a8 dx (slF d.tb st.mv d.n)):=by rw[ac ra.symm,ac (bo ho3)];exact ho3
    refine⟨_,rfl,a,_,dx,_,_,rfl,ho5,T.aA,T.br,sS,_,_,rfl,rfl,dx,_,ho5,lF,?_⟩
    rw[Bj]
    have H6r0:∀{o:HO},upd (upd (upd H3 b' (.dK [])) d.r0 (.lst ((d.A0.set st.mv.toNat b').map V.ref))) a o d.r0=some (.lst ((d.A0.set st.mv.toNat b').map V.ref)):=by
     intro o
     rw[ac ra,ag]
    have lS:(((d.A0.set st.mv.toNat b').map V.ref).length:Int)=st.size:=by rw[Q1,Qx];exact hb.row0.la
    refine⟨_,rfl,a,_,dx,_,_,rfl,ag,T.aA,T.br,sS,_,rfl,d.r0,_,rfl,.inl (SqL.of H6r0),rfl,_,rfl,?_⟩
    rw[lS]
    have row6:∀{o:HO},RowOk (upd (upd (upd H3 b' (.dK [])) d.r0 (.lst ((d.A0.set st.mv.toNat b').map V.ref))) a o) d.r1 d.A1 (kv.foldl (dZ m) d.C1) m:=λ{o}=>hr3.frame λb hb1=>by
     have:b≠b'∧b≠d.r0∧b≠a:=by
      rcases hb1 with rfl|hb1
      ·exact⟨bo g0,r01.symm,r1a⟩
      ·exact cellsA b hb1
     rw[ac this.2.2,ac this.2.1,ac this.1]
    have K6:∀{o':HO} (b:Addr) (o:HO),¬SlF a st d b→H b=some o→upd (upd (upd H3 b' (.dK [])) d.r0 (.lst ((d.A0.set st.mv.toNat b').map V.ref))) a o' b=some o:=λ{o'} b o n q=>by
     obtain⟨f1,f2,f3,f4,_⟩:=hF b n
     have q3:=K1 b o f1 f2 q
     rw[ac f3,ac f4,ac (bo q3)]
     exact q3
    refine bI (λc=>?_) (λc=>?_)
    ·have c:st.mv+1=st.size:=V.int.inj (of_decide_eq_true c)
     refine⟨_,rfl,(by show 1≤sizeLine;decide),λtb' nt=>⟨_,rfl,a,_,dx,_,rfl,(by rw[ac (am ag nt)];exact ag),T.aA,T.aR,lF,?_⟩⟩
     rw[Dg]
     refine⟨_,rfl,a,_,dx,_,rfl,ag,T.aA,T.br,lF,?_⟩
     rw[Bj,b7]
     have nta:tb'≠a:=(am ag nt).symm
     have nt1:tb'≠d.r1:=(am (row6 (o:= .ins t.a8 dx (slF d.tb (st.mv+1) d.n))).lst nt).symm
     refine q _ _ (hb.last z e ek (tb':=tb') (dx:=dx) c ag (by rw[ac nta];exact ag) nt1 ?_) rfl (λb o n w=>?_)
     ·refine(row6 (o:= .ins t.a8 dx (slF d.tb (st.mv+1) d.n))).frame λb hb1=>?_
      have:b≠a:=by
       rcases hb1 with rfl|hb1
       ·exact r1a
       ·exact(cellsA b hb1).2.2
      rw[ac this,ac (λw=>?_)]
      obtain⟨o,f⟩:∃o,upd (upd (upd H3 b' (.dK [])) d.r0 (.lst ((d.A0.set st.mv.toNat b').map V.ref))) a (.ins t.a8 dx (slF d.tb (st.mv+1) d.n)) b=some o:=by
       rcases hb1 with rfl|hb1
       ·exact⟨_,row6.lst⟩
       ·obtain⟨_,_,_,_,f⟩:=row6.has hb1
        exact⟨_,f⟩
      rw[w,nt]at f
      cases f
     ·obtain⟨f1,f2,f3,f4,f5,f6⟩:=hF b n
      have k6:=K6 (o':= .ins t.a8 dx (slF d.tb (st.mv+1) d.n)) b o n w
      have bt:b≠tb':=am k6 nt
      refine⟨by rw[ac f3,ac bt];exact k6,λy=>?_⟩
      rcases y with y|y|y|y|⟨_,y⟩|y
      ·exact f3 y
      ·exact bt y
      ·exact f6 y
      ·exact f1 y
      ·exact f6 y
      ·cases y
    ·have c:st.mv+1≠st.size:=λw=>c (decide_eq_true (by rw[w]))
     refine q _ _ (hb.one z e ek (b':=b') (dx:=dx) c ag (by rw[ac ta,ac hb.tr,ac (bo ht3),ht3,hb.tbl,e]) H6r0 ?_ nbF (λj b f1 f2=>?_) row6) rfl (λb o n w=>⟨K6 b o n w,λy=>?_⟩)
     ·have n1:b'≠a:=(bo ho3).symm
      have n2:b'≠d.r0:=(bo hr03).symm
      rw[ac n1,ac n2]
      exact ag
     ·have bA:=Q0 f1
      obtain⟨_,kv1,_,_,f⟩:=hb.row0.has bA
      have nc:b≠c0:=λw=>f2 (hb.row0.inj j _ c0 (w▸f1) ec)
      have f3:=K1 b _ (hb.dis b bA) nc f
      rw[ac (bP f3 ho3 (by intro w;cases w)),ac (bP f3 hr03 (by intro w;cases w)),ac (bo f3),f3,f]
     ·obtain⟨f1,f2,f3,f4,f5,f6⟩:=hF b n
      rcases y with y|y|y|y|⟨_,y⟩|y
      ·exact f3 y
      ·exact f5 y
      ·exact f4 y
      ·obtain⟨j,hj,ej⟩:=QH (show b∈d.A0.set st.mv.toNat b' from y)
       rcases cv (Q2.mpr ⟨hj,ej⟩)with⟨_,g⟩|⟨_,g⟩
       ·have:=K1 b o f1 f2 w
        rw[g,nb]at this
        cases this
       ·exact n (.inr (.inr (.inr (.inl (Q0 g)))))
      ·exact f6 y
      ·exact f1 y
theorem eC (T:Txt K mg t):FnOk P w K mg base CX0 2 t.fL t.cM ["self"] (jS t):=by
 obtain⟨tk_GREATEST_SIZE,hGREATEST_SIZE⟩:=T.xD
 obtain⟨tk_LEAST_SIZE,hLEAST_SIZE⟩:=T.sk
 have Jl:= @lQ P w K mg base t T
 refine T.ve.ok sc_Slots__begin_row (λvs H Q E h=>?_) (λcdv A outer s H vs Q E hr h=>?_)
 ·obtain⟨a,st,d,rfl,_⟩:=h
  rfl
 ·obtain⟨a,st,d,rfl,hb,z,hn,q⟩:=h
  refine⟨_,(af (aV (au bH (aI ay (by rfl) T.bN bn (aa (aq (pv 0) rfl) ah)) ae (ax _))
   (ai lM)
   aF)
   (af (aD (i:=1) sc_Slots__begin_row.nd rfl (Or.inl rfl) (aI ay (by rfl) T.bN bn (aa (aW aN (aq (pv 0) rfl) ae (λ_ _=>rfl)) ah)))
   (ai (aV (PW.pt (ik (au tq (aq (pv 0) rfl) (pv 1) (ax _)) (fQ (au iL (pv 1) (eG (v:= .int 256) (by rfl) hGREATEST_SIZE ⟨_,rfl⟩) (ax _)))))
   (ai (aP (fk Qt QP QQ dC (aq (pv 0) rfl) (aa (aQ Jl (hr.mono (by decide)) (by rfl) T.m6 T.jG.kp T.ni .nil az (aa (al cY (pv 1) ae) ah)) ah))))
   (ai (aV (PW.pt (ik (au iL (al cY ae (aq (pv 0) rfl)) (pv 1) (ax _)) (fQ (au tq (pv 1) (eG (v:= .int 4) (by rfl) hLEAST_SIZE ⟨_,rfl⟩) (ax _)))))
   (ai (aP (fk Qt QP QQ dC (aq (pv 0) rfl) (aa (aQ Jl (hr.mono (by decide)) (by rfl) T.m6 T.jG.kp T.ni .nil az (aa (al aM (pv 1) ae) ah)) ah))))
   aF))))))
   ,?_⟩
  obtain⟨dx,ho⟩:=hb.obj
  have ht:=hb.tbl
  cases e:st.nxt with
  |some m=>
   rw[e]at ht
   refine⟨_,rfl,a,_,dx,_,_,rfl,ho,T.aA,T.aR,iK,d.tb,_,rfl,.inl (SqL.of ht),rfl,_,rfl,jU rfl ?_⟩
   have e1:st.three=st:=by unfold SSt.three;rw[e]
   rw[e1]at q
   exact q H d hb rfl Fr.refl
  |none=>
   rw[e]at ht
   refine⟨_,rfl,a,_,dx,_,_,rfl,ho,T.aA,T.aR,iK,d.tb,_,rfl,.inl (SqL.of ht),rfl,_,rfl,bQ (λz=>by cases z) ?_⟩
   have la:((d.A0.map V.ref).length:Int)=st.size:=by rw[Q1];exact hb.row0.la
   obtain⟨pw4,pw5⟩:=cW z.pw
   refine⟨_,rfl,a,_,dx,_,_,rfl,ho,T.aA,T.aR,iK,d.tb,_,_,_,rfl,rfl,SqL.of ht,rfl,d.r0,_,rfl,.inl (SqL.of hb.row0.lst),?_⟩
   dsimp only
   rw[la]
   have fin:∀{m:Int} {H':Hp} {r:Addr} {A:List Addr},st.three={st with nxt:=some m,mv:=0}→Same H H'→H r=none→(∀b∈A,H b=none)→RowOk H' r A (List.replicate m.toNat []) m→H' d.tb=some (.lst [.ref d.r0])∧Q .non (upd H' d.tb (.lst ([.ref d.r0]++ [.ref r]))):=λ{m H' r A} e3 s nr nA hr=>by
    have ht':=s _ _ ht
    have notF:∀b,SlF a st d b→∃o,H b=some o:=λb w=>hb.dom w
    have nrF:¬SlF a st d r:=λw=>by obtain⟨o,q⟩:=notF r w;rw[nr]at q;cases q
    have nAF:∀b∈A,¬SlF a st d b:=λb hA w=>by obtain⟨o,q⟩:=notF b w;rw[nA b hA]at q;cases q
    refine⟨ht',?_⟩
    have sb:=hb.begin (H':=upd H' d.tb (.lst [.ref d.r0,.ref r])) e (m:=m) (r:=r) (A:=A) (by rw[ac (bP ho ht (by intro w;cases w)),s _ _ ho,ho]) ag (λb hb1=>?_) (hr.frame λb hb1=>ac ?_) nrF nAF
    ·rw[←e3]at sb
     refine q _ _ sb rfl λb o n w=>⟨?_,λy=>?_⟩
     ·rw[ac (λv=>n (.inr (.inl v)))];exact s _ _ w
     ·rw[e3]at y
      rcases y with y|y|y|y|⟨_,y⟩|y
      ·exact n (.inl y)
      ·exact n (.inr (.inl y))
      ·exact n (.inr (.inr (.inl y)))
      ·exact n (.inr (.inr (.inr (.inl y))))
      ·have y:b=r:=y
       rw[y,nr]at w;cases w
      ·rw[nA b y]at w;cases w
    ·obtain⟨o,q⟩:=notF b (by
      rcases hb1 with w|w
      ·exact .inr (.inr (.inl w))
      ·exact .inr (.inr (.inr (.inl w))))
     have:b≠d.tb:=by
      rcases hb1 with w|w
      ·rw[w];exact hb.tr.symm
      ·exact hb.row0.notr w ht (λ_ z=>by cases z)
     rw[ac this,s _ _ q,q]
    ·rcases hb1 with w|w
     ·rw[w];exact λv=>by rw[v,ht]at nr;cases nr
     ·exact λv=>by have:=nA b w;rw[v,ht]at this;cases this
   by_cases cA:st.size<d.n∧st.size<256
   ·have e3:st.three={st with nxt:=some (2*st.size),mv:=0}:=by
     unfold SSt.three
     rw[e]
     exact if_pos (by rw[←hn];exact cA)
    refine⟨_,rfl,a,_,dx,_,_,rfl,ho,T.aA,T.bj,lG,_,rfl,_,_,rfl,rfl,_,rfl,qv cA.1 ⟨_,rfl,_,_,rfl,rfl,_,rfl,qv cA.2 ?_⟩⟩
    refine⟨_,rfl,a,_,dx,_,_,rfl,ho,T.aA,T.aR,iK,.inl ⟨rfl,_,SqL.of ht⟩,_,rfl,_,_,rfl,rfl,.inr ⟨by decide,by decide⟩,_,rfl,by omega,by omega,λH' r A s nr nA hr=>?_⟩
    obtain⟨f1,f2⟩:=fin (m:=st.size*2) (by rw[e3,Int.mul_comm]) s nr nA hr
    exact⟨d.tb,_,_,rfl,rfl,f1,bT (by show 1≤1000;decide),f2⟩
   ·by_cases cB:4*d.n<st.size∧4<st.size
    ·have e3:st.three={st with nxt:=some (st.size/2),mv:=0}:=by
      unfold SSt.three
      rw[e]
      exact(if_neg (by rw[←hn];exact cA)).trans (if_pos (by rw[←hn];exact cB))
     have c1:¬st.size<d.n:=by omega
     refine⟨_,rfl,a,_,dx,_,_,rfl,ho,T.aA,T.bj,lG,_,rfl,_,_,rfl,rfl,_,rfl,bQ c1 ?_⟩
     refine⟨_,rfl,a,_,dx,_,_,rfl,ho,T.aA,T.bj,lG,_,_,rfl,rfl,.inl ⟨by decide,by decide⟩,_,rfl,_,_,rfl,rfl,_,rfl,qv cB.1 ⟨_,rfl,_,_,rfl,rfl,_,rfl,qv cB.2 ?_⟩⟩
     refine⟨_,rfl,a,_,dx,_,_,rfl,ho,T.aA,T.aR,iK,.inl ⟨rfl,_,SqL.of ht⟩,_,rfl,_,_,rfl,rfl,⟨by decide,by decide⟩,_,rfl,by omega,by omega,λH' r A s nr nA hr=>?_⟩
     obtain⟨f1,f2⟩:=fin (m:=st.size/2) e3 s nr nA hr
     exact⟨d.tb,_,_,rfl,rfl,f1,bT (by show 1≤1000;decide),f2⟩
    ·have e3:st.three=st:=by
      unfold SSt.three
      rw[e]
      exact(if_neg (by rw[←hn];exact cA)).trans (if_neg (by rw[←hn];exact cB))
     rw[e3]at q
     have q0:=q H d hb rfl Fr.refl
     by_cases c1:st.size<d.n
     ·have c2:¬st.size<256:=λw=>cA ⟨c1,w⟩
      have c3:¬4*d.n<st.size:=by omega
      refine⟨_,rfl,a,_,dx,_,_,rfl,ho,T.aA,T.bj,lG,_,rfl,_,_,rfl,rfl,_,rfl,qv c1 ⟨_,rfl,_,_,rfl,rfl,_,rfl,bQ c2 ?_⟩⟩
      exact⟨_,rfl,a,_,dx,_,_,rfl,ho,T.aA,T.bj,lG,_,_,rfl,rfl,.inl ⟨by decide,by decide⟩,_,rfl,_,_,rfl,rfl,_,rfl,bQ c3 q0⟩
     ·refine⟨_,rfl,a,_,dx,_,_,rfl,ho,T.aA,T.bj,lG,_,rfl,_,_,rfl,rfl,_,rfl,bQ c1 ?_⟩
      refine⟨_,rfl,a,_,dx,_,_,rfl,ho,T.aA,T.bj,lG,_,_,rfl,rfl,.inl ⟨by decide,by decide⟩,_,rfl,_,_,rfl,rfl,_,rfl,?_⟩
      by_cases c3:4*d.n<st.size
      ·exact qv c3 ⟨_,rfl,_,_,rfl,rfl,_,rfl,bQ (λw=>cB ⟨c3,w⟩) q0⟩
      ·exact bQ c3 q0
section
variable {H H':Hp} {a c:Addr} {st:SSt} {d:SlD}
theorem SlB.put (h:SlB t H a st d) (z:SzOk st) {k:Int} {kv:List (Int×V)} (ic:IsCell d st k c kv) (v:V):
  ∃d',SlB t (upd H c (.dK (aS (bi kv k v)))) a {st with kv:=bi st.kv k v} d'∧d'.n=d.n∧∀b,SlF a {st with kv:=bi st.kv k v} d' b↔SlF a st d b:=
 h.setCell z ic (uK (h.at ic).2.2) (λ_ hp=>pI hp) (by rw[eS,eS,if_pos rfl,if_pos rfl]) λj hj=>⟨by rw[eS,if_neg hj],by rw[eS,if_neg hj]⟩
theorem SlB.drop (h:SlB t H a st d) (z:SzOk st) {k:Int} {kv:List (Int×V)} (ic:IsCell d st k c kv):
  ∃d',SlB t (upd H c (.dK (aS (bv kv k)))) a {st with kv:=bv st.kv k} d'∧d'.n=d.n∧∀b,SlF a {st with kv:=bv st.kv k} d' b↔SlF a st d b:=
 h.setCell z ic (lV (h.at ic).2.2) (λ_ hp=> .inl (q9 hp)) (by rw[dn,dn,if_pos rfl,if_pos rfl]) λj hj=>⟨by rw[dn,if_neg hj],by rw[dn,if_neg hj]⟩
theorem SlB.insM (h:SlB t H a st d):∃dx fs,H a=some (.ins t.a8 dx fs)∧∀m,NoM m→fs.lookup m=none:=by
 obtain⟨dx,ho⟩:=h.obj
 exact⟨dx,_,ho,λm hm=>Bf hm⟩
theorem SSt.one_kv:st.one.kv=st.kv:=by
 unfold SSt.one
 cases st.nxt with
 |none=>rfl
 |some m=>show(if _ then _ else _:SSt).kv=_;split<;>rfl
theorem SSt.three_kv:st.three.kv=st.kv:=by
 unfold SSt.three
 cases st.nxt with
 |some m=>rfl
 |none=>show(if _ then _ else _:SSt).kv=_;split;rfl;split<;>rfl
theorem vH {kv:List (Int×V)} {k:Int} {v:V}:((bi kv k v).length:Int)=if(aO kv k).isSome=true then(kv.length:Int)else kv.length+1:=by
 have:=congrArg List.length (lZ (kv:=kv) (k:=k) (v:=v))
 rw[Q1]at this
 split
 ·rename_i c;rw[if_pos c,Q1]at this;omega
 ·rename_i c;rw[if_neg c,Qa,Q1]at this;simp at this;omega
end
theorem j2 (T:Txt K mg t):FnOk P w K mg base CX0 4 t.mm t.iE ["self","key"] (qb K t):=by
 have Gw:= @cZ P w K mg base t T
 refine T.AV.ok qg (λvs H Q E h=>?_) (λcdv A outer s H vs Q E hr h=>?_)
 ·obtain⟨a,k,F,st,rfl,_⟩:=h
  rfl
 ·obtain⟨a,k,F,st,rfl,⟨d,hb,hF,hn,nd,z⟩,h0,q⟩:=h
  refine⟨_,(ai (aG (BQ (yj (qV hr) (pv 1) (a9 (pv 0) T.aA T.gR Gw (hr.mono (by decide)) T.gX .nil az (aa (pv 1) ah))))))
   ,?_⟩
  obtain⟨dx,fs,hi,hm⟩:=hb.insM
  refine⟨_,rfl,_,rfl,a,dx,fs,rfl,hi,hm _ (by decide+kernel),_,rfl,a,k,st,d,rfl,hb,z,λc kv ic=>?_⟩
  obtain⟨hc,_,_⟩:=hb.at ic
  refine⟨c,_,rfl,DGet.k (k:=Sum.inl k) hc,?_⟩
  rw[liftK_val,hb.val k c kv ic]
  exact q H F ⟨d,hb,hF,hn,nd,z⟩ Fr.refl
theorem ql (T:Txt K mg t):FnOk P w K mg base CX0 4 t.ml t.iD ["self","key","value"] (qa K t):=by
 have Gv:= @eC P w K mg base t T
 have Gw:= @cZ P w K mg base t T
 have J0:= @eB P w K mg base t T
 refine T.AU.ok sc_Slots__put (λvs H Q E h=>?_) (λcdv A outer s H vs Q E hr h=>?_)
 ·obtain⟨a,k,i,F,st,rfl,_⟩:=h
  rfl
 ·obtain⟨a,k,i,F,st,rfl,⟨d,hb,hF,hn,nd,z⟩,h0,hl,q⟩:=h
  refine⟨_,(af (aP (bB (pv 0) T.aA T.kM J0 (hr.mono (by decide)) T.kZ .nil az))
   (af (aD (i:=3) sc_Slots__put.nd rfl (Or.inl rfl) (a9 (pv 0) T.aA T.gR Gw (hr.mono (by decide)) T.gX .nil az (aa (pv 1) ah)))
   (af (aV (yb (wD (qV hr) (pv 1) (pv 3)))
   (ai (eM (pv 0) ae pP))
   aF)
   (af (rO (qV hr) (pv 3) (pv 1) (pv 2) rfl)
   (ai (aP (bB (pv 0) T.aA T.kN Gv (hr.mono (by decide)) T.k7 .nil az)))))))
   ,?_⟩
  obtain⟨dx,fs,hi,hm⟩:=hb.insM
  refine⟨_,rfl,a,dx,fs,rfl,hi,hm _ (by decide+kernel),a,st,d,rfl,hb,z,hl,λH1 d1 hb1 e1 fr1=>?_⟩
  obtain⟨dx1,fs1,hi1,hm1⟩:=hb1.insM
  have z1:=z.one
  refine⟨_,rfl,a,dx1,fs1,rfl,hi1,hm1 _ (by decide+kernel),_,rfl,a,k,st.one,d1,rfl,hb1,z1,λc kv ic=>?_⟩
  obtain⟨hc,cF,_⟩:=hb1.at ic
  have hv:=hb1.val k c kv ic
  have sh:=hb1.short z1 ic
  rw[SSt.one_kv]at hv sh
  obtain⟨dx2,ho1⟩:=hb1.obj
  have na:a≠c:=bP ho1 hc (by intro w;cases w)
  have key:∀(H2:Hp) (n2:Int),SlB t H2 a st.one {d1 with n:=n2}→Fr (SlF a st d) (SlF a st.one d1) H H2→n2=((bi st.kv k (.int i)).length:Int)→∃d3,SlB t (upd H2 c (.dK (aS (bi kv k (.int i))))) a {st.one with kv:=bi st.one.kv k (.int i)} d3∧d3.n=((bi st.one.kv k (.int i)).length:Int)∧
    ∀H4 d4,SlB t H4 a (SSt.three {st.one with kv:=bi st.one.kv k (.int i)}) d4→d4.n=d3.n→Fr (SlF a {st.one with kv:=bi st.one.kv k (.int i)} d3) (SlF a (SSt.three {st.one with kv:=bi st.one.kv k (.int i)}) d4) (upd H2 c (.dK (aS (bi kv k (.int i))))) H4→Q .non H4:=λH2 n2 hb2 fr2 hn2=>by
   obtain⟨d3,hb3,e3,f3⟩:=hb2.put z1 (kv:=kv) ic (.int i)
   have e3':d3.n=((bi st.one.kv k (.int i)).length:Int):=by rw[e3,SSt.one_kv];exact hn2
   refine⟨d3,hb3,e3',λH4 d4 hb4 e4 fr4=>?_⟩
   rw[SSt.one_kv]at hb4 fr4 f3 e3'
   refine q H4 _ ⟨d4,hb4,λb=>Iff.rfl,?_,?_,?_⟩ ?_
   ·show d4.n=((SSt.three _).kv.length:Int)
    rw[SSt.three_kv,e4,e3']
   ·show((SSt.three _).kv.map (·.1)).Nodup
    rw[SSt.three_kv]
    exact uK nd
   ·exact(z1.kv).three
   ·have step:Fr (SlF a st.one d1) (SlF a {st.one with kv:=bi st.kv k (.int i)} d3) H2 (upd H2 c (.dK (aS (bi kv k (.int i))))):=λb o n w=>⟨by rw[ac (λy=>n (by rw[y];exact cF))];exact w,λy=>n ((f3 b).mp y)⟩
    exact Fr.trans (λb o n w=>fr2 b o (λy=>n ((hF b).mpr y)) w) (Fr.trans step fr4)
  refine⟨_,rfl,_,rfl,c,_,rfl,DGet.k (k:=Sum.inl k) hc,?_⟩
  rw[liftK_val,hv]
  have kl:(aS kv).length<sizeLine:=by rw[eP];exact wx (by omega)
  cases e:aO st.kv k with
  |none=>
   refine⟨_,rfl,dj ?_⟩
   refine⟨_,rfl,a,_,dx2,_,_,rfl,ho1,T.aA,T.bj,lG,_,_,rfl,rfl,dx2,_,ho1,lF,?_⟩
   rw[Bk]
   have hb2:=hb1.setN (dx:=dx2) (n:=d1.n+1)
   have hc2:upd H1 a (.ins t.a8 dx2 (slF d1.tb st.one.moved (d1.n+1))) c=some (.dK (aS kv)):=by rw[ac na.symm];exact hc
   obtain⟨d3,hb3,n3,fin⟩:=key _ _ hb2 (λb o n w=>⟨by rw[ac (λy=>(fr1 b o n w).2 (.inl y))];exact(fr1 b o n w).1,(fr1 b o n w).2⟩) (by rw[vH,e,e1,hn];rfl)
   refine⟨_,rfl,_,rfl,_,rfl,c,_,rfl,DPut.k (k:=Sum.inl k) hc2 kl,?_⟩
   rw[gT]
   obtain⟨dx3,fs3,hi3,hm3⟩:=hb3.insM
   exact⟨_,rfl,a,dx3,fs3,rfl,hi3,hm3 _ (by decide+kernel),a,_,d3,rfl,hb3,z1.kv,n3,fin⟩
  |some v=>
   refine⟨_,rfl,fz ?_⟩
   obtain⟨d3,hb3,n3,fin⟩:=key H1 d1.n hb1 fr1 (by rw[vH,e,e1,hn];rfl)
   refine⟨_,rfl,_,rfl,_,rfl,c,_,rfl,DPut.k (k:=Sum.inl k) hc kl,?_⟩
   rw[gT]
   obtain⟨dx3,fs3,hi3,hm3⟩:=hb3.insM
   exact⟨_,rfl,a,dx3,fs3,rfl,hi3,hm3 _ (by decide+kernel),a,_,d3,rfl,hb3,z1.kv,n3,fin⟩
theorem pk (T:Txt K mg t):FnOk P w K mg base CX0 5 t.kg t.gA ["self","key"] (oH K t):=by
 have Gv:= @eC P w K mg base t T
 have Gw:= @cZ P w K mg base t T
 have Gy:= @j2 P w K mg base t T
 have J0:= @eB P w K mg base t T
 refine T.zJ.ok oX (λvs H Q E h=>?_) (λcdv A outer s H vs Q E hr h=>?_)
 ·obtain⟨a,k,F,st,rfl,_⟩:=h
  rfl
 ·obtain⟨a,k,F,st,rfl,hA,h0,q1,q2⟩:=h
  refine⟨_,(af (aV (i9 (dX (a9 (pv 0) T.aA T.rY Gy (hr.mono (by decide)) T.sA .nil az (aa (pv 1) ah))))
   (ai cX)
   aF)
   (af (aP (bB (pv 0) T.aA T.kM J0 (hr.mono (by decide)) T.kZ .nil az))
   (af (aP (fk Z9 ZW PySem.F.type_dict_pop vC (a9 (pv 0) T.aA T.gR Gw (hr.mono (by decide)) T.gX .nil az (aa (pv 1) ah)) (aa (pv 1) ah)))
   (af (eM (pv 0) ae Ci)
   (ai (aP (bB (pv 0) T.aA T.kN Gv (hr.mono (by decide)) T.k7 .nil az)))))))
   ,?_⟩
  obtain⟨dx,fs,hi,hm⟩:=hA.ins
  refine⟨_,rfl,a,dx,fs,rfl,hi,hm _ (by decide+kernel),_,rfl,a,k,F,st,rfl,hA,h0,λH0 F0 hA0 fr0=>?_⟩
  cases e:aO st.kv k with
  |none=>
   refine⟨_,rfl,dj ?_⟩
   exact(q2 e).elim
  |some v=>
   refine⟨_,rfl,fz ?_⟩
   obtain⟨d,hb,hF,hn,nd,z⟩:=hA0
   obtain⟨dx,fs,hi,hm⟩:=hb.insM
   obtain⟨hl,q1⟩:=q1 (by rw[e];rfl)
   refine⟨_,rfl,a,dx,fs,rfl,hi,hm _ (by decide+kernel),a,st,d,rfl,hb,z,hl,λH1 d1 hb1 e1 fr1=>?_⟩
   obtain⟨dx1,fs1,hi1,hm1⟩:=hb1.insM
   have z1:=z.one
   refine⟨_,rfl,a,dx1,fs1,rfl,hi1,hm1 _ (by decide+kernel),_,rfl,a,k,st.one,d1,rfl,hb1,z1,λc kv ic=>?_⟩
   obtain⟨hc,cF,_⟩:=hb1.at ic
   have hv:=hb1.val k c kv ic
   rw[SSt.one_kv,e]at hv
   obtain⟨d3,hb3,e3,f3⟩:=hb1.drop z1 ic
   rw[SSt.one_kv]at hb3 f3
   refine⟨.inr (.inr (.inl ⟨rfl,.inl ⟨_,hc⟩⟩)),_,rfl,c,_,Sum.inl k,v,rfl,rfl,hc,liftK_val.trans hv,?_⟩
   rw[pM]
   obtain⟨dx3,ho3⟩:=hb3.obj
   refine⟨_,rfl,a,_,dx3,_,_,rfl,ho3,T.aA,T.bj,lG,_,_,rfl,rfl,dx3,_,ho3,lF,?_⟩
   rw[Bk]
   have hb4:=hb3.setN (dx:=dx3) (n:=d3.n-1)
   obtain⟨dx4,fs4,hi4,hm4⟩:=hb4.insM
   have dl:=rc nd (oo e)
   have n4:d3.n-1=((bv st.kv k).length:Int):=by rw[e3,e1,hn];omega
   refine⟨_,rfl,a,dx4,fs4,rfl,hi4,hm4 _ (by decide+kernel),a,_,_,rfl,hb4,z1.kv,n4,λH5 d5 hb5 e5 fr5=>?_⟩
   refine q1 H5 _ ⟨d5,hb5,λb=>Iff.rfl,?_,?_,z1.kv.three⟩ ?_
   ·show d5.n=((SSt.three _).kv.length:Int)
    rw[SSt.three_kv,e5]
    exact n4
   ·show((SSt.three _).kv.map (·.1)).Nodup
    rw[SSt.three_kv]
    exact lV nd
   ·refine fr0.trans (Fr.trans (λb o n w=>fr1 b o (λy=>n ((hF b).mpr y)) w) (Fr.trans (λb o n w=>?_) fr5))
    exact⟨by rw[ac (λy=>n (.inl y)),ac (λy=>n (by rw[y];exact cF))];exact w,λy=>n ((f3 b).mp y)⟩
theorem BJ {tb:Addr} {sh n:Int}:aY ("kept":Str) (.int n) (aY ("shifted":Str) (.int sh) (aY ("table":Str) (.ref tb) []))=slF tb sh n:=by
 have e1:aY ("table":Str) (.ref tb) []=[(("table":Str),V.ref tb)]:=rfl
 rw[e1,aY,if_neg (by decide+kernel),aY,aY,if_neg (by decide+kernel),aY,if_neg (by decide+kernel),aY]
 rfl
theorem pj (T:Txt K mg t):FnOk P w K mg base CX0 2 t.kf t.gy ["self"] (oG K t):=by
 obtain⟨tk_LEAST_SIZE,hLEAST_SIZE⟩:=T.sk
 have Jl:= @lQ P w K mg base t T
 refine T.zI.ok oW (λvs H Q E h=>?_) (λcdv A outer s H vs Q E hr h=>?_)
 ·obtain⟨a,dx,rfl,_⟩:=h
  rfl
 ·obtain⟨a,dx,rfl,ha,hd,q⟩:=h
  refine⟨_,(af (bq (pv 0) (bZ (aa (aQ Jl (hr.mono (by decide)) (by rfl) T.m6 T.jG.kp T.ni .nil az (aa (eG (v:= .int 4) (by rfl) hLEAST_SIZE ⟨_,rfl⟩) ah)) ah)) rfl)
   (af (bq (pv 0) ae rfl)
   (ai (bq (pv 0) ae rfl))))
   ,?_⟩
  refine⟨4,rfl,by decide,by decide,λH' r A s nr nA hr=>⟨(by show 1≤sizeLine;decide),λtb nt=>?_⟩⟩
  have ha1:=s _ _ ha
  have nta:a≠tb:=am ha1 nt
  refine⟨_,rfl,a,_,dx,[],rfl,(by rw[ac nta];exact ha1),T.aA,T.aR,(by show 0<1000;decide),?_⟩
  refine⟨_,rfl,a,_,dx,_,rfl,ag,T.aA,T.br,?_,?_⟩
  ·show 1<1000
   decide
  refine⟨_,rfl,a,_,dx,_,rfl,ag,T.aA,T.bj,?_,?_⟩
  ·have h1:=i8 (f:="shifted") (v:= .int 0) (aY "table" (.ref tb) [])
   have h2:=i8 (f:="table") (v:= .ref tb) []
   have h3:([]:List (Str×V)).length=0:=rfl
   omega
  rw[BJ,b7,b7]
  have ntr:tb≠r:=(am hr.lst nt).symm
  have sb:=SlB.fresh (t:=t) (H:=upd (upd H' tb (.lst [.ref r])) a (.ins t.a8 dx (slF tb 0 0))) (a:=a) (tb:=tb) (r:=r) (A:=A) (dx:=dx) ag (by rw[ac nta.symm];exact ag) (hr.frame λb hb1=>?_) ntr
  ·refine q _ _ ⟨_,sb,λb=>Iff.rfl,rfl,Z7,SzOk.new⟩ λb o n w=>?_
   have n1:b≠a:=λy=>n (.inl y)
   have w1:=s _ _ w
   have n2:b≠tb:=am w1 nt
   refine⟨by rw[ac n1,ac n2];exact w1,λy=>?_⟩
   rcases y with y|y|y|y|⟨y,_⟩|y
   ·exact n1 y
   ·exact n2 y
   ·have y:b=r:=y
    rw[y,nr]at w;cases w
   ·rw[nA b y]at w;cases w
   ·cases y
   ·cases y
  ·have:∃o,H' b=some o:=by
    rcases hb1 with rfl|hb1
    ·exact⟨_,hr.lst⟩
    ·obtain⟨_,_,_,_,w⟩:=hr.has hb1
     exact⟨_,w⟩
   obtain⟨o,w⟩:=this
   have n2:b≠tb:=am w nt
   have n1:b≠a:=λy=>by
    rcases hb1 with y2|y2
    ·rw[←y2,y,ha]at nr;cases nr
    ·have:=nA b y2;rw[y,ha]at this;cases this
   rw[ac n1,ac n2]
theorem fV {A:List Addr} {j:Nat} {c:Addr} (e:A[j]?=some c):atI (A.map V.ref) (j:Int)=some (.ref c):=by
 refine oz ?_
 rw[QD,e]
 rfl
theorem AQ {x:List Int} {m:Int} (ne:x≠[]) (e:x[x.length-1]?=some m):atI (x.map V.int) (-1)=some (.int m):=by
 have hl:=QL.mpr ne
 unfold atI ixN
 rw[Q1,if_neg (by decide),if_pos (by omega)]
 show(x.map V.int)[((-1:Int)+(x.length:Int)).toNat]?=_
 have:((-1:Int)+(x.length:Int)).toNat=x.length-1:=by omega
 rw[this,QD,e]
 rfl
theorem vK {A:List Addr} {i:Nat} (h:i<A.length):ixN (A.map V.ref).length (i:Int)=some i:=by
 unfold ixN
 rw[if_pos (by omega),if_pos (by rw[Q1];omega)]
 rfl
theorem kQ:∀(A:List Addr) (i:Nat),(A.map V.ref).eraseIdx i=(A.eraseIdx i).map V.ref
 | [],_=>rfl
 |_::_,0=>rfl
 |a::r,i+1=>by
  show V.ref a::(r.map V.ref).eraseIdx i=V.ref a::(r.eraseIdx i).map V.ref
  rw[kQ r i]
theorem qY:∀(ls:List (List Int)) (i:Nat) (y:List Int),(ls.set i y).eraseIdx i=ls.eraseIdx i
 | [],_,_=>rfl
 |_::_,0,_=>rfl
 |x::r,i+1,y=>by
  show x::(r.set i y).eraseIdx i=x::r.eraseIdx i
  rw[qY r i y]
def Bx (a:Addr) (k:Int) (ls:List (List Int)) (H:Hp):Nat→St→Hp→Prop:=λm σ H'=>∃(lo hi:Nat) (v4:Option V),m=hi-lo∧H'=H∧σ=[some (.ref a),some (.int k),some (.int (lo:Int)),some (.int (hi:Int)),v4]∧lo≤hi∧hi≤ls.length∧
 (∀(j:Nat) (x:List Int),j<lo→ls[j]?=some x→∀y∈x,y<k)∧∀(j:Nat) (x:List Int),hi≤j→ls[j]?=some x→∃y∈x,k≤y
def kx (t:Adr):Sp:=λvs H Q _=>∃(a:Addr) (k:Int) (L:Addr) (A:List Addr) (ls:List (List Int)),vs=[.ref a,.int k]∧LvB t H a L A ls∧(∀l∈ls,l≠[])∧eh ls.flatten∧∀i:Nat,LeafOf ls k i→Q (.int (i:Int)) H
theorem cI (T:Txt K mg t):FnOk P w K mg base CX0 1 t.fY t.c6 ["self","key"] (kx t):=by
 refine T.wf.ok sc_Leaves__leaf_of (λvs H Q E h=>?_) (λcdv A outer s H vs Q E hr h=>?_)
 ·obtain⟨a,k,L,A,ls,rfl,_⟩:=h
  rfl
 ·obtain⟨a,k,L,A,ls,rfl,hb,ne,up,q⟩:=h
  refine⟨_,(af (aD (i:=2) sc_Leaves__leaf_of.nd rfl (Or.inl rfl) ae)
   (af (aD (i:=3) sc_Leaves__leaf_of.nd rfl (Or.inl rfl) (aI ay (by rfl) T.bN bn (aa (aq (pv 0) rfl) ah)))
   (af (yc PassesOwn.never (au iL (pv 2) (pv 3) (ax _))
   (af (aD (i:=4) sc_Leaves__leaf_of.nd rfl (Or.inl rfl) (al aM (al bx (pv 2) (pv 3)) ae))
   (ai (aV (au iL (aW aN (aW aN (aq (pv 0) rfl) (pv 4) (λ_ _=>rfl)) (Bl xR ae) (λ_ _=>rfl)) (pv 1) (ax _))
   (ai (aD (i:=2) sc_Leaves__leaf_of.nd rfl (Or.inl rfl) (al bx (pv 4) ae)))
   (ai (aD (i:=3) sc_Leaves__leaf_of.nd rfl (Or.inl rfl) (pv 4)))))))
   (ai (aG (pv 2))))))
   ,?_⟩
  obtain⟨dx,ho⟩:=hb.obj
  have lA:((A.map V.ref).length:Int)=(ls.length:Int):=by rw[Q1,hb.len]
  refine⟨_,rfl,a,_,dx,_,_,rfl,ho,T.aH,T.ar,cP,L,_,rfl,.inl (SqL.of hb.lst),?_⟩
  dsimp only
  rw[lA]
  refine⟨Bx a k ls H,⟨_,0,ls.length,none,rfl,rfl,rfl,Qg _,Q5 _,λj x h=>absurd h (by omega),λj x h e=>?_⟩,?_⟩
  ·have:=(Q2.mp e).1
   omega
  rintro m σ H' ⟨lo,hi,v4,rfl,rfl,rfl,h1,h2,h3,h4⟩
  refine⟨_,rfl,_,rfl,_,_,rfl,rfl,_,rfl,bI (λc=>?_) (λc=>?_)⟩
  ·have c:lo<hi:=by have:=of_decide_eq_true c;omega
   refine⟨λσ' H''=>∃m',m'<hi-lo∧Bx a k ls H' m' σ' H'',λ_ _ h=>h,?_⟩
   refine⟨_,rfl,_,rfl,_,_,rfl,rfl,_,_,rfl,rfl,⟨by decide,by decide⟩,?_⟩
   obtain⟨mid,em,m1,m2⟩:∃mid:Nat,((lo:Int)+(hi:Int))/2=(mid:Int)∧lo≤mid∧mid<hi:=⟨(lo+hi)/2,by omega,by omega,by omega⟩
   dsimp only
   rw[em]
   have hm:mid<ls.length:=by omega
   have ex:ls[mid]?=some ls[mid]:=Q3 hm
   obtain⟨b,eb,hbb⟩:=hb.at ex
   have nex:=ne _ (Zk hm)
   obtain⟨g,eg,gm,gmax⟩:=yG (Ab up ex) nex
   refine⟨_,rfl,a,_,dx,_,_,rfl,ho,T.aH,T.ar,cP,_,rfl,L,_,_,_,rfl,rfl,SqL.of hb.lst,fV eb,_,rfl,b,_,_,_,rfl,rfl,SqL.of hbb,AQ nex eg,_,rfl,_,_,rfl,rfl,_,rfl,bI (λc2=>?_) (λc2=>?_)⟩
   ·have c2:=of_decide_eq_true c2
    refine⟨_,rfl,_,_,rfl,rfl,hi-(mid+1),by omega,mid+1,hi,_,rfl,rfl,rfl,by omega,h2,λj x hj e y hy=>?_,h4⟩
    rcases(show j<mid∨j=mid by omega)with h|h
    ·have:=qH up e ex h y hy g gm
     omega
    ·subst h
     rw[ex]at e
     cases e
     have:=gmax y hy
     omega
   ·have c2:¬g<k:=λz=>c2 (decide_eq_true z)
    refine⟨_,rfl,mid-lo,by omega,lo,mid,_,rfl,rfl,rfl,by omega,by omega,h3,λj x hj e=>?_⟩
    rcases(show j=mid∨mid<j by omega)with h|h
    ·subst h
     rw[ex]at e
     cases e
     exact⟨g,gm,by omega⟩
    ·obtain⟨y,hy⟩:=List.exists_mem_of_ne_nil x (ne x (Q0 e))
     have:=qH up ex e h g gm y hy
     exact⟨y,hy,by omega⟩
  ·have c:¬lo<hi:=λz=>c (decide_eq_true (by omega))
   have:lo=hi:=by omega
   subst this
   exact⟨_,rfl,q lo ⟨h2,h3,λx e=>h4 lo x (Q5 _) e⟩⟩
theorem tS {k:Int}:∀{x:List Int},inV (.int k) (x.map V.int)=decide (k∈x)
 | []=>rfl
 |a::r=>by
  have ih:=tS (k:=k) (x:=r)
  unfold inV at ih⊢
  rw[Qs,Zy,ih]
  have:eqV (.int a) (.int k)=decide (k=a):=by
   show(_:Bool)=_
   by_cases c:a=k
   ·subst c;simp[eqV]
   ·have c':¬k=a:=λz=>c z.symm
    simp[eqV,c,c']
  rw[this]
  by_cases c:k=a
  ·simp[c]
  ·simp[c]
theorem xc {x:List Int}:(x.map V.int).all me=true:=by
 rw[List.all_map]
 exact QV.mpr λ_ _=>rfl
theorem je (T:Txt K mg t):FnOk P w K mg base CX0 2 t.km t.gF ["self","key"] (oM K t):=by
 have Gq:= @cI P w K mg base t T
 refine T.zM.ok sc_Leaves__has (λvs H Q E h=>?_) (λcdv A outer s H vs Q E hr h=>?_)
 ·obtain⟨a,k,F,ks,rfl,_⟩:=h
  rfl
 ·obtain⟨a,k,F,ks,rfl,hA,q⟩:=h
  refine⟨_,(af (aD (i:=2) sc_Leaves__has.nd rfl (Or.inl rfl) (a9 (pv 0) T.aH T.fS Gq (hr.mono (by decide)) T.fX .nil az (aa (pv 1) ah)))
   (ai (aG (gs (bV iL (pv 2) (aI ay (by rfl) T.bN bn (aa (aq (pv 0) rfl) ah)) (ax _)) (gr (bV wF (pv 1) (aW aN (aq (pv 0) rfl) (pv 2) (λ_ _=>rfl)) rfl))))))
   ,?_⟩
  obtain⟨dx,fs,hi,hm⟩:=hA.ins
  have q:=q H F hA Fr.refl
  obtain⟨L,A,ls,hb,ok,ef,hF⟩:=hA
  obtain⟨dx',ho⟩:=hb.obj
  have lA:((A.map V.ref).length:Int)=(ls.length:Int):=by rw[Q1,hb.len]
  refine⟨_,rfl,a,dx,fs,rfl,hi,hm _ (by decide+kernel),_,rfl,a,k,L,A,ls,rfl,hb,ok.ne,ok.up,λi li=>?_⟩
  refine⟨_,rfl,_,rfl,a,_,dx',_,_,rfl,ho,T.aH,T.ar,cP,L,_,rfl,.inl (SqL.of hb.lst),_,_,rfl,rfl,_,rfl,bI (λc=>?_) (λc=>?_)⟩
  ·have c:=of_decide_eq_true c
   have hi:i<ls.length:=by omega
   have ex:ls[i]?=some ls[i]:=Q3 hi
   obtain⟨b,eb,hbb⟩:=hb.at ex
   refine⟨_,rfl,_,rfl,a,_,dx',_,_,rfl,ho,T.aH,T.ar,cP,_,rfl,L,_,_,_,rfl,rfl,SqL.of hb.lst,fV eb,b,_,rfl,.inl (SqL.of hbb),rfl,xc,?_⟩
   show Q (.bl (inV (.int k) (ls[i].map V.int))) H
   rw[tS]
   have:k∈ls[i]↔k∈ks:=by
    rw[←ef,li.mem ok]
    constructor
    ·exact λz=>⟨_,ex,z⟩
    ·rintro ⟨x,e,z⟩
     rw[ex]at e
     cases e
     exact z
   rw[decide_eq_decide.mpr this]
   exact q
  ·have c:¬(i:Int)<((A.map V.ref).length:Int):=λz=>c (decide_eq_true z)
   have:k∉ks:=λz=>by
    rw[←ef,li.mem ok]at z
    obtain⟨x,e,_⟩:=z
    have:=(Q2.mp e).1
    omega
   rw[decide_eq_false this]at q
   exact q
theorem nW (T:Txt K mg t):FnOk P w K mg base CX0 1 t.jA t.fG ["self"] (nE K t):=by
 refine T.zo.ok nO (λvs H Q E h=>?_) (λcdv A outer s H vs Q E hr h=>?_)
 ·obtain⟨a,dx,rfl,_⟩:=h
  rfl
 ·obtain⟨a,dx,rfl,ha,hd,q⟩:=h
  refine⟨_,(ai (bq (pv 0) (bZ ah) rfl))
   ,?_⟩
  refine⟨Qg _,λL nL=>⟨_,rfl,a,_,dx,[],rfl,(by rw[ac (am ha nL)];exact ha),T.aH,T.ar,(by show 0<1000;decide),?_⟩⟩
  have na:=am ha nL
  refine q _ (LvF a L []) ⟨L,[],[],⟨⟨dx,ag⟩,by rw[ac na.symm];exact ag,rfl,(λj b l e=>by simp at e),(λi j b e=>by simp at e),(λz=>by cases z)⟩,LvOk.nil,rfl,λb=>Iff.rfl⟩ λb o n w=>?_
  have n1:b≠a:=λy=>n (.inl y)
  have n2:b≠L:=am w nL
  refine⟨by rw[ac n1,ac n2];exact w,λy=>?_⟩
  rcases y with y|y|y
  ·exact n1 y
  ·exact n2 y
  ·cases y
def iW (t:Adr):Sp:=λvs H Q _=>∃(a L:Addr) (A:List Addr) (ls:List (List Int)) (i:Nat) (x:List Int),vs=[.ref a,.int (i:Int)]∧LvB t H a L A ls∧ls[i]?=some x∧x.length=9∧ls.length<5000∧
 ∀H' A',LvB t H' a L A' ((ls.set i (x.take 4)).take (i+1)++x.drop 4::(ls.set i (x.take 4)).drop (i+1))→Fr (LvF a L A) (LvF a L A') H H'→Q .non H'
theorem jd (T:Txt K mg t):FnOk P w K mg base CX0 1 t.eE t.cr ["self","at"] (iW t):=by
 refine T.uh.ok sc_Leaves__part_leaf (λvs H Q E h=>?_) (λcdv A outer s H vs Q E hr h=>?_)
 ·obtain⟨a,L,A,ls,i,x,rfl,_⟩:=h
  rfl
 ·obtain⟨a,L,A,ls,i,x,rfl,hb,ex,lx,ll,q⟩:=h
  refine⟨_,(af (aD (i:=2) sc_Leaves__part_leaf.nd rfl (Or.inl rfl) (aW aN (aq (pv 0) rfl) (pv 1) (λ_ _=>rfl)))
   (af (aD (i:=3) sc_Leaves__part_leaf.nd rfl (Or.inl rfl) (al aM (aI ay (by rfl) T.bN bn (aa (pv 2) ah)) ae))
   (af (pc (gP jI (pv 2) lN (io (pv 3))) (uE (aq (pv 0) rfl) (pv 1) oU))
   (ai (aP (fk Qt PySem.F.slot_list_insert PySem.F.type_list_insert qP (aq (pv 0) rfl) (aa (al bx (pv 1) ae) (aa (gP jI (pv 2) (io (pv 3)) lN) ah))))))))
   ,?_⟩
  obtain⟨dx,ho⟩:=hb.obj
  obtain⟨c,ec,hc⟩:=hb.at ex
  have hil:i<A.length:=(Q2.mp ec).1
  have len9:((x.map V.int).length:Int)=9:=by rw[Q1,lx];rfl
  refine⟨_,rfl,a,_,dx,_,_,rfl,ho,T.aH,T.ar,cP,_,rfl,L,_,_,_,rfl,rfl,SqL.of hb.lst,fV ec,?_⟩
  refine⟨_,rfl,c,_,rfl,.inl (SqL.of hc),_,_,rfl,rfl,⟨by decide,by decide⟩,?_⟩
  dsimp only
  rw[len9]
  have cut1:jV (x.map V.int) none (some (9/2))=(x.take 4).map V.int:=by
   unfold jV
   rw[Q1,lx]
   show((x.map V.int).drop 0).take (4-0)=_
   rw[QT,ZI]
  have cut2:jV (x.map V.int) (some (9/2)) none=(x.drop 4).map V.int:=by
   unfold jV
   rw[Q1,lx]
   show((x.map V.int).drop 4).take (9-4)=_
   rw[ZJ,QB (by rw[Qu,Q1,lx];exact Q5 _)]
  refine⟨_,rfl,_,rfl,_,rfl,c,_,rfl,SqL.of hc,λn1 nn1=>?_⟩
  rw[cut1]
  have s1:Same H (upd H n1 (.lst ((x.take 4).map V.int))):=ak nn1
  have hb1:=hb.same s1
  have hn1:upd H n1 (.lst ((x.take 4).map V.int)) n1=some (.lst ((x.take 4).map V.int)):=ag
  have nF1:=hb.out nn1
  have ho1:=s1 _ _ ho
  have hc1:=s1 _ _ hc
  have hL1:=s1 _ _ hb.lst
  generalize upd H n1 (.lst ((x.take 4).map V.int))=H1 at s1 hb1 hn1 ho1 hc1 hL1⊢
  refine⟨_,rfl,a,_,dx,_,_,rfl,ho1,T.aH,T.ar,cP,_,rfl,L,_,_,_,rfl,rfl,hL1,vK hil,?_⟩
  have es:(A.map V.ref).set i (V.ref n1)=(A.set i n1).map V.ref:=by rw[List.map_set]
  rw[es]
  have hb2:=hb1.swap ec ex hn1 nF1
  have cL:c≠L:=λz=>hb.nL (z▸Q0 ec)
  have hc2:upd H1 L (.lst ((A.set i n1).map V.ref)) c=some (.lst (x.map V.int)):=by rw[ac cL];exact hc1
  obtain⟨dx2,ho2⟩:=hb2.obj
  have hL2:=hb2.lst
  have f2:Fr (LvF a L A) (LvF a L (A.set i n1)) H (upd H1 L (.lst ((A.set i n1).map V.ref))):=λb o n w=>by
   have w1:=s1 _ _ w
   refine⟨by rw[ac (λy=>n (.inr (.inl y)))];exact w1,λy=>?_⟩
   rcases y with y|y|y
   ·exact n (.inl y)
   ·exact n (.inr (.inl y))
   ·rcases List.mem_or_eq_of_mem_set y with y|y
    ·exact n (.inr (.inr y))
    ·rw[y,nn1]at w;cases w
  generalize upd H1 L (.lst ((A.set i n1).map V.ref))=H2 at hb2 hc2 ho2 hL2 f2⊢
  refine⟨_,rfl,a,_,dx2,_,_,rfl,ho2,T.aH,T.ar,cP,.inl ⟨rfl,_,SqL.of hL2⟩,_,rfl,_,_,rfl,rfl,_,rfl,_,rfl,_,rfl,c,_,rfl,SqL.of hc2,λn2 nn2=>?_⟩
  rw[cut2]
  have s3:Same H2 (upd H2 n2 (.lst ((x.drop 4).map V.int))):=ak nn2
  have hb3:=hb2.same s3
  have hn3:upd H2 n2 (.lst ((x.drop 4).map V.int)) n2=some (.lst ((x.drop 4).map V.int)):=ag
  have nF3:=hb2.out nn2
  have hL3:=s3 _ _ hL2
  generalize upd H2 n2 (.lst ((x.drop 4).map V.int))=H3 at s3 hb3 hn3 hL3⊢
  have lS:(A.set i n1).length=A.length:=Qx
  refine⟨L,_,_,_,rfl,rfl,hL3,(by omega),(by rw[Q1,lS];omega),(by rw[Q1,lS,hb.len];exact dM (by omega)),?_⟩
  have ei:((i:Int)+1).toNat=i+1:=by omega
  have hb4:=hb3.insert (i:=i+1) (by rw[lS];omega) hn3 nF3
  rw[ei]
  have em:((A.set i n1).map V.ref).take (i+1)++V.ref n2::((A.set i n1).map V.ref).drop (i+1)=((A.set i n1).take (i+1)++n2::(A.set i n1).drop (i+1)).map V.ref:=by
   rw[Qr,Qs,ZI,ZJ]
  rw[em]
  refine q _ _ hb4 (f2.trans (λb o n w=>?_))
  have w3:=s3 _ _ w
  refine⟨by rw[ac (λy=>n (.inr (.inl y)))];exact w3,λy=>?_⟩
  rcases y with y|y|y
  ·exact n (.inl y)
  ·exact n (.inr (.inl y))
  ·rcases Q4.mp y with y|y
   ·exact n (.inr (.inr (ZA y)))
   ·rcases Qh.mp y with y|y
    ·rw[y,nn2]at w;cases w
    ·exact n (.inr (.inr (ZB y)))
theorem LvB.insM {H:Hp} {a L:Addr} {A:List Addr} {ls:List (List Int)} (h:LvB t H a L A ls):∃dx fs,H a=some (.ins t.bE dx fs)∧∀m,m≠("leaves":Str)→fs.lookup m=none:=by
 obtain⟨dx,ho⟩:=h.obj
 exact⟨dx,_,ho,λm hm=>Bs hm⟩
theorem pA (T:Txt K mg t):FnOk P w K mg base CX0 3 t.ko t.gG ["self","key"] (oN K t):=by
 obtain⟨tk_MOST_IN_LEAF,hMOST_IN_LEAF⟩:=T.yS
 have Gn:= @je P w K mg base t T
 have Gq:= @cI P w K mg base t T
 have Gr:= @jd P w K mg base t T
 refine T.zN.ok sc_Leaves__add (λvs H Q E h=>?_) (λcdv A outer s H vs Q E hr h=>?_)
 ·obtain⟨a,k,F,ks,rfl,_⟩:=h
  rfl
 ·obtain⟨a,k,F,ks,rfl,hA,hl,q1,q2⟩:=h
  refine⟨_,(af (aV (dX (a9 (pv 0) T.aH T.qr Gn (hr.mono (by decide)) T.qz .nil az (aa (pv 1) ah)))
   (ai cX)
   aF)
   (af (aV (au bH (aI ay (by rfl) T.bN bn (aa (aq (pv 0) rfl) ah)) ae (ax _))
   (af (aP (fk Qt QP QQ dC (aq (pv 0) rfl) (aa (bZ (aa (pv 1) ah)) ah)))
   (ai lM))
   aF)
   (af (aD (i:=2) sc_Leaves__add.nd rfl (Or.inl rfl) (aI (xl rfl) (by rfl) T.DL Ct (aa (a9 (pv 0) T.aH T.fS Gq (hr.mono (by decide)) T.fX .nil az (aa (pv 1) ah)) (aa (al iq (aI ay (by rfl) T.bN bn (aa (aq (pv 0) rfl) ah)) ae) ah))))
   (af (aD (i:=3) sc_Leaves__add.nd rfl (Or.inl rfl) (aW aN (aq (pv 0) rfl) (pv 2) (λ_ _=>rfl)))
   (af (aP (fk Qt PySem.F.slot_list_insert PySem.F.type_list_insert qP (pv 3) (aa (aI ay (by rfl) T.bN bn (aa (yg rfl (CScope.of (M:=["one"]) (N:=["self","key","at","leaf"]) (N':=["self","key","at","leaf"]) (dsc:=aj dJ) rfl rfl (by decide+kernel)) (lO (pv 3)) (λ_ _ _ _ _=>(au iL (pv 0) (pv 2) (ax _))) (λ_ _ _ _ _=>(pv 0))) ah)) (aa (pv 1) ah))))
   (ai (aV (au tq (aI ay (by rfl) T.bN bn (aa (pv 3) ah)) (eG (v:= .int 8) (by rfl) hMOST_IN_LEAF ⟨_,rfl⟩) (ax _))
   (ai (aP (a9 (pv 0) T.aH T.uc Gr (hr.mono (by decide)) T.ug .nil az (aa (pv 2) ah))))
   aF)))))))
   ,?_⟩
  obtain⟨dx,fs,hi,hm⟩:=hA.ins
  refine⟨_,rfl,a,dx,fs,rfl,hi,hm _ (by decide+kernel),_,rfl,a,k,F,ks,rfl,hA,λH0 F0 hA0 fr0=>?_⟩
  by_cases ck:k∈ks
  ·rw[decide_eq_true ck]
   refine⟨_,rfl,dj ?_⟩
   exact(q2 ck).elim
  rw[decide_eq_false ck]
  refine⟨_,rfl,fz ?_⟩
  have q:=q1 ck
  obtain⟨L,A,ls,hb,ok,ef,hF⟩:=hA0
  obtain⟨dx',ho⟩:=hb.obj
  have lA:((A.map V.ref).length:Int)=(ls.length:Int):=by rw[Q1,hb.len]
  have sh:=ok.short
  rw[ef]at sh
  have fr:Fr F (LvF a L A) H H0:=λb o n e=>⟨(fr0 b o n e).1,λy=>(fr0 b o n e).2 ((hF b).mpr y)⟩
  have nk:k∉ls.flatten:=by rw[ef];exact ck
  by_cases ce:ls=[]
  ·subst ce
   have eA:A=[]:=ZN.mp hb.len
   subst eA
   refine⟨_,rfl,a,_,dx',_,_,rfl,ho,T.aH,T.ar,cP,L,_,rfl,.inl (SqL.of hb.lst),rfl,_,rfl,jU rfl ?_⟩
   refine⟨_,rfl,a,_,dx',_,_,rfl,ho,T.aH,T.ar,cP,.inl ⟨rfl,_,SqL.of hb.lst⟩,_,rfl,(by show 1≤sizeLine;decide),λn nn=>?_⟩
   have s1:Same H0 (upd H0 n (.lst [.int k])):=ak nn
   have hb1:=hb.same s1
   have hn1:upd H0 n (.lst [.int k]) n=some (.lst (([k]:List Int).map V.int)):=ag
   have nF:=hb.out nn
   have hL1:=s1 _ _ hb.lst
   refine⟨L,_,_,rfl,rfl,hL1,bT (by show 0≤1000;decide),?_⟩
   have hb2:=hb1.insert (i:=0) (Qg _) hn1 nF
   have ok1:LvOk [[k]]:=⟨(λl hl=>by rw[Q8.mp hl];simp),(λl hl=>by rw[Q8.mp hl];simp),(λi x y e1 e2=>by simp at e2),by show eh [k];exact Zp _ _⟩
   refine q _ (LvF a L [n]) [k] ⟨L,[n],[[k]],hb2,ok1,rfl,λb=>Iff.rfl⟩ (λz=>?_) (fr.trans λb o n' w=>?_)
   ·rw[←ef]
    simp
   ·have w1:=s1 _ _ w
    refine⟨by rw[ac (λy=>n' (.inr (.inl y)))];exact w1,λy=>?_⟩
    rcases y with y|y|y
    ·exact n' (.inl y)
    ·exact n' (.inr (.inl y))
    ·rw[Q8.mp y,nn]at w;cases w
  ·have hpos:=QL.mpr ce
   refine⟨_,rfl,a,_,dx',_,_,rfl,ho,T.aH,T.ar,cP,L,_,rfl,.inl (SqL.of hb.lst),rfl,_,rfl,bQ (λw=>?_) ?_⟩
   ·have:=V.int.inj w
    omega
   obtain⟨dx2,fs2,hi2,hm2⟩:=hb.insM
   refine⟨_,rfl,a,dx2,fs2,rfl,hi2,hm2 _ (by decide+kernel),_,rfl,a,k,L,A,ls,rfl,hb,ok.ne,ok.up,λi li=>?_⟩
   refine⟨_,rfl,a,_,dx',_,_,rfl,ho,T.aH,T.ar,cP,L,_,rfl,.inl (SqL.of hb.lst),_,_,rfl,rfl,_,_,rfl,?_⟩
   obtain⟨x,ad⟩:=li.add ok ce
   have em:(if((A.map V.ref).length:Int)-1<(i:Int)then((A.map V.ref).length:Int)-1 else(i:Int))=((min i (ls.length-1):Nat):Int):=by
    rw[lA]
    split<;>omega
   dsimp only
   rw[em]
   generalize min i (ls.length-1)=j at ad⊢
   obtain⟨c,ec,hc⟩:=hb.at ad.at_
   have jl:j<ls.length:=(Q2.mp ad.at_).1
   have x8:=ok.le x (Q0 ad.at_)
   refine⟨_,rfl,a,_,dx',_,_,rfl,ho,T.aH,T.ar,cP,_,rfl,L,_,_,_,rfl,rfl,SqL.of hb.lst,fV ec,?_⟩
   refine⟨_,rfl,.inl ⟨rfl,_,SqL.of hc⟩,_,rfl,c,rfl,⟨_,SqL.of hc⟩,λD hD=>?_⟩
   refine uX (K:=K) (a:=c) (xs:=x.map V.int) (λn ys H3=>H3=upd H0 D (.lst ys)∧ys=((x.take n).filter (λz=>decide (z<k))).map V.int) ⟨rfl,rfl⟩ (λn ys H3 _ w=>SqL.of (by rw[w.1,ac (am hc hD)];exact hc)) (λn v ys H3 hv w hDD=>?_) (λys H3 w hDD=>?_)
   ·obtain⟨e1,e2⟩:=w
    obtain⟨g,rfl,eg⟩:∃g:Int,v= .int g∧x[n]?=some g:=by
     rw[QD]at hv
     cases e:x[n]? with
     |none=>rw[e]at hv;cases hv
     |some g=>rw[e]at hv;cases hv;exact⟨g,rfl,rfl⟩
    have hn:n<(x.map V.int).length:=(Q2.mp hv).1
    refine⟨_,rfl,_,rfl,_,_,rfl,rfl,_,rfl,?_⟩
    have fl:ys.length≤8:=by
     rw[e2,Q1]
     have h1:=QN (λz=>decide (z<k)) (x.take n)
     have h2:(x.take n).length≤x.length:=by rw[Qm];omega
     omega
    by_cases cg:g<k
    ·refine qv cg ⟨_,rfl,CNext.mk hn hDD (bT (by omega)) ⟨by rw[e1,b7],?_⟩⟩
     rw[e2,Zu,eg,List.filter_append,Qr]
     simp[cg]
    ·refine bQ cg (CSkip.mk hn hDD ⟨e1,?_⟩)
     rw[e2,Zu,eg,List.filter_append]
     simp[cg]
   ·obtain⟨e1,e2⟩:=w
    rw[Q1,Xf]at e2
    have s3:Same H0 H3:=by rw[e1];exact ak hD
    have hb3:=hb.same s3
    have hc3:=s3 _ _ hc
    have yl:(ys.length:Int)=((x.filter (λz=>decide (z<k))).length:Int):=by rw[e2,Q1]
    have fle:=QN (λz=>decide (z<k)) x
    refine⟨D,_,rfl,.inl (SqL.of hDD),_,rfl,c,_,_,_,rfl,rfl,hc3,(by omega),(by rw[Q1];omega),(by rw[Q1];exact bT (by omega)),?_⟩
    have ei:(x.map V.int).take (ys.length:Int).toNat++V.int k::(x.map V.int).drop (ys.length:Int).toNat=(dP x k).map V.int:=by
     rw[yl,Zs]
     unfold dP
     rw[Qr,Qs,ZI,ZJ]
    dsimp only
    rw[ei]
    have hb4:=hb3.write (y:=dP x k) ec ad.at_
    have il:=yJ (l:=x) (k:=k)
    obtain⟨up4,mem4⟩:=ad.set ok nk
    have cF:LvF a L A c:= .inr (.inr (Q0 ec))
    have f4:Fr (LvF a L A) (LvF a L A) H0 (upd H3 c (.lst ((dP x k).map V.int))):=λb o n w=>⟨by rw[ac (λy=>n (by rw[y];exact cF))];exact s3 _ _ w,n⟩
    have hc4:upd H3 c (.lst ((dP x k).map V.int)) c=some (.lst ((dP x k).map V.int)):=ag
    generalize upd H3 c (.lst ((dP x k).map V.int))=H4 at hb4 f4 hc4⊢
    refine⟨_,rfl,c,_,rfl,.inl (SqL.of hc4),_,_,rfl,rfl,_,rfl,?_⟩
    have ll:((dP x k).map V.int).length=x.length+1:=by rw[Q1,il]
    by_cases c9:x.length=8
    ·refine qv (by rw[ll];omega) ?_
     obtain⟨dx5,fs5,hi5,hm5⟩:=hb4.insM
     have e5:(ls.set j (dP x k))[j]?=some (dP x k):=by rw[Qq,if_pos rfl,if_pos jl]
     refine⟨_,rfl,a,dx5,fs5,rfl,hi5,hm5 _ (by decide+kernel),_,rfl,a,L,A,_,j,_,rfl,hb4,e5,by omega,by rw[Qx];omega,λH6 A6 hb6 f6=>?_⟩
     have er:(ls.set j (dP x k)).set j ((dP x k).take 4)=ls.set j ((dP x k).take 4):=List.set_set _
     rw[er]at hb6
     have up5:eh (ls.set j ((dP x k).take 4++(dP x k).drop 4)).flatten:=by rw[QC];exact up4
     obtain⟨ok6,ef6⟩:=ok.parted ad.at_ (a:=(dP x k).take 4) (b:=(dP x k).drop 4) (by rw[Qm];omega) (by rw[Qu];omega) up5
     rw[QC]at ef6
     refine q H6 _ _ ⟨L,A6,_,hb6,ok6,rfl,λb=>Iff.rfl⟩ (λz=>?_) (fr.trans (f4.trans f6))
     rw[ef6,mem4,ef]
    ·refine bQ (by rw[ll];omega) ?_
     have ok4:=ok.grown ad.at_ (y:=dP x k) (by omega) (by omega) up4
     exact q H4 _ _ ⟨L,A,_,hb4,ok4,rfl,λb=>Iff.rfl⟩ (λz=>by rw[mem4,ef]) (fr.trans f4)
def iR (t:Adr):Sp:=λvs H Q _=>∃(a L:Addr) (A:List Addr) (ls:List (List Int)) (i:Int),vs=[.ref a,.int i]∧LvB t H a L A ls∧-1≤i∧i<(ls.length:Int)∧(∀l∈ls,l.length≤8)∧ls.length<5000∧
 ∀H' A' ls',LvB t H' a L A' ls'→ls'=(if 0≤i then j5 ls i.toNat else ls)→Fr (LvF a L A) (LvF a L A') H H'→Q .non H'
theorem yv {A:List Addr} {i:Nat} {n b:Addr} (h:b∈A.set i n):b∈A∨b=n:=List.mem_or_eq_of_mem_set h
theorem iT (T:Txt K mg t):FnOk P w K mg base CX0 1 t.dQ t.b4 ["self","at"] (iR t):=by
 obtain⟨tk_LEAST_IN_TWO,hLEAST_IN_TWO⟩:=T.yT
 refine T.ua.ok sc_Leaves__join_small (λvs H Q E h=>?_) (λcdv A outer s H vs Q E hr h=>?_)
 ·obtain⟨a,L,A,ls,i,rfl,_⟩:=h
  rfl
 ·obtain⟨a,L,A,ls,i,rfl,hb,i0,i1,l8,ll,q⟩:=h
  refine⟨_,(af (aV (PW.pt (i7 (au iL (pv 1) ae (ax _)) (i6 (au bH (al bx (pv 1) ae) (aI ay (by rfl) T.bN bn (aa (aq (pv 0) rfl) ah)) (ax _)))))
   (ai lM)
   aF)
   (af (aD (i:=2) sc_Leaves__join_small.nd rfl (Or.inl rfl) (al yk (aW aN (aq (pv 0) rfl) (pv 1) (λ_ _=>rfl)) (aW aN (aq (pv 0) rfl) (al bx (pv 1) ae) (λ_ _=>rfl))))
   (ai (aV (au iL (aI ay (by rfl) T.bN bn (aa (pv 2) ah)) (eG (v:= .int 5) (by rfl) hLEAST_IN_TWO ⟨_,rfl⟩) (ax _))
   (af (pc (pv 2) (uE (aq (pv 0) rfl) (pv 1) oU))
   (ai (aP (fk Qt PySem.F.slot_list_pop PySem.F.type_list_pop tG (aq (pv 0) rfl) (aa (al bx (pv 1) ae) ah)))))
   aF))))
   ,?_⟩
  obtain⟨dx,ho⟩:=hb.obj
  have lA:((A.map V.ref).length:Int)=(ls.length:Int):=by rw[Q1,hb.len]
  by_cases c0:i<0
  ·refine⟨_,rfl,_,_,rfl,rfl,_,rfl,qv c0 ?_⟩
   exact dj (q H A ls hb (by rw[if_neg (by omega)]) Fr.refl)
  refine⟨_,rfl,_,_,rfl,rfl,_,rfl,bQ c0 ?_⟩
  obtain⟨n,rfl⟩:=ZM (show 0≤i by omega)
  have en:((n:Int)).toNat=n:=Zs n
  rw[if_pos (by omega),en]at q
  refine⟨_,rfl,_,_,rfl,rfl,_,rfl,a,_,dx,_,_,rfl,ho,T.aH,T.ar,cP,L,_,rfl,.inl (SqL.of hb.lst),rfl,_,rfl,?_⟩
  by_cases c1:n+1=ls.length
  ·refine jU (congrArg V.int (by rw[lA];omega)) ?_
   exact q H A ls hb (pO (by omega)).symm Fr.refl
  refine bQ (λw=>c1 (by have:=V.int.inj w;rw[lA]at this;omega)) ?_
  have hn:n<ls.length:=by omega
  have hn1:n+1<ls.length:=by omega
  have ex:ls[n]?=some ls[n]:=Q3 hn
  have ey:ls[n+1]?=some ls[n+1]:=Q3 hn1
  have x8:=l8 _ (Zk hn)
  have y8:=l8 _ (Zk hn1)
  generalize ls[n]=x at ex x8
  generalize ls[n+1]=y at ey y8
  obtain⟨c,ec,hc⟩:=hb.at ex
  obtain⟨d,ed,hd⟩:=hb.at ey
  have ec1:(n:Int)+1=((n+1:Nat):Int):=rfl
  refine⟨_,rfl,a,_,dx,_,_,rfl,ho,T.aH,T.ar,cP,_,rfl,L,_,_,_,rfl,rfl,SqL.of hb.lst,fV ec,_,rfl,a,_,dx,_,_,rfl,ho,T.aH,T.ar,cP,_,rfl,_,_,rfl,rfl,L,_,_,_,rfl,rfl,SqL.of hb.lst,fV ed,c,d,_,_,rfl,rfl,hc,hd,ZP (bT (by rw[Q1,Q1];omega)),λbo nbo=>?_⟩
  rw[←Qr]
  have s1:Same H (upd H bo (.lst ((x++y).map V.int))):=ak nbo
  have hb1:=hb.same s1
  have hbo:upd H bo (.lst ((x++y).map V.int)) bo=some (.lst ((x++y).map V.int)):=ag
  have nF:=hb.out nbo
  have ho1:=s1 _ _ ho
  have hL1:=s1 _ _ hb.lst
  generalize upd H bo (.lst ((x++y).map V.int))=H1 at s1 hb1 hbo ho1 hL1⊢
  refine⟨_,rfl,bo,_,rfl,.inl (SqL.of hbo),_,_,rfl,rfl,_,rfl,?_⟩
  have lxy:(((x++y).map V.int).length:Int)=(x.length:Int)+(y.length:Int):=by rw[Q1,Qa];rfl
  rw[tR ex ey]at q
  by_cases c5:x.length+y.length<5
  ·refine qv (by rw[lxy];omega) ?_
   rw[if_pos c5]at q
   have nA:n<A.length:=by rw[hb.len];exact hn
   refine⟨_,rfl,_,rfl,a,_,dx,_,_,rfl,ho1,T.aH,T.ar,cP,_,rfl,L,_,_,_,rfl,rfl,hL1,vK nA,?_⟩
   have es:(A.map V.ref).set n (V.ref bo)=(A.set n bo).map V.ref:=by rw[List.map_set]
   rw[es]
   have hb2:=hb1.swap ec ex hbo nF
   obtain⟨dx2,ho2⟩:=hb2.obj
   have hL2:=hb2.lst
   have f2:Fr (LvF a L A) (LvF a L (A.set n bo)) H (upd H1 L (.lst ((A.set n bo).map V.ref))):=λb o n' w=>by
    have w1:=s1 _ _ w
    refine⟨by rw[ac (λy=>n' (.inr (.inl y)))];exact w1,λy=>?_⟩
    rcases y with y|y|y
    ·exact n' (.inl y)
    ·exact n' (.inr (.inl y))
    ·rcases yv y with y|y
     ·exact n' (.inr (.inr y))
     ·rw[y,nbo]at w;cases w
   generalize upd H1 L (.lst ((A.set n bo).map V.ref))=H2 at hb2 ho2 hL2 f2⊢
   have lS:((A.set n bo).map V.ref).length=ls.length:=by rw[Q1,Qx,hb.len]
   have hn2:n+1<(A.set n bo).length:=by rw[Qx,hb.len];exact hn1
   have sx:seqIndex? ((n:Int)+1) ((A.set n bo).map V.ref).length=some (n+1):=by
    have:=seqIndex_of (k:=(n:Int)+1) (n:=((A.set n bo).map V.ref).length) (by omega) (by rw[lS];omega)
    rw[this]
    congr 1
   refine⟨_,rfl,a,_,dx2,_,_,rfl,ho2,T.aH,T.ar,cP,.inl ⟨rfl,_,SqL.of hL2⟩,_,rfl,_,_,rfl,rfl,L,_,_,n+1,_,rfl,rfl,hL2,(by omega),(by omega),sx,(by rw[QD,Q3 hn2];rfl),?_⟩
   have hb3:=hb2.erase (i:=n+1)
   have em:((A.set n bo).map V.ref).eraseIdx (n+1)=((A.set n bo).eraseIdx (n+1)).map V.ref:=kQ _ _
   rw[em]
   refine q _ _ _ hb3 rfl (f2.trans λb o n' w=>?_)
   refine⟨by rw[ac (λy=>n' (.inr (.inl y)))];exact w,λy=>?_⟩
   rcases y with y|y|y
   ·exact n' (.inl y)
   ·exact n' (.inr (.inl y))
   ·exact n' (.inr (.inr (QO y)))
  ·refine bQ (by rw[lxy];omega) ?_
   rw[if_neg c5]at q
   exact q H1 A ls hb1 rfl (Fr.of_same s1)
theorem kK (T:Txt K mg t):FnOk P w K mg base CX0 3 t.fZ t.c7 ["self","key"] (kA K t):=by
 have Gn:= @je P w K mg base t T
 have Gp:= @iT P w K mg base t T
 have Gq:= @cI P w K mg base t T
 refine T.wg.ok sc_Leaves__discard (λvs H Q E h=>?_) (λcdv A outer s H vs Q E hr h=>?_)
 ·obtain⟨a,k,F,ks,rfl,_⟩:=h
  rfl
 ·obtain⟨a,k,F,ks,rfl,hA,hl,q1,q2⟩:=h
  refine⟨_,(af (aV (i9 (dX (a9 (pv 0) T.aH T.qr Gn (hr.mono (by decide)) T.qz .nil az (aa (pv 1) ah))))
   (ai cX)
   aF)
   (af (aD (i:=2) sc_Leaves__discard.nd rfl (Or.inl rfl) (a9 (pv 0) T.aH T.fS Gq (hr.mono (by decide)) T.fX .nil az (aa (pv 1) ah)))
   (af (aP (fk Qt PySem.F.slot_list_remove PySem.F.type_list_remove wN (aW aN (aq (pv 0) rfl) (pv 2) (λ_ _=>rfl)) (aa (pv 1) ah)))
   (af (aV (au bH (aI ay (by rfl) T.bN bn (aa (aW aN (aq (pv 0) rfl) (pv 2) (λ_ _=>rfl)) ah)) ae (ax _))
   (af (aP (fk Qt PySem.F.slot_list_pop PySem.F.type_list_pop tG (aq (pv 0) rfl) (aa (pv 2) ah)))
   (ai lM))
   aF)
   (af (aP (a9 (pv 0) T.aH T.jn Gp (hr.mono (by decide)) T.jw .nil az (aa (pv 2) ah)))
   (ai (aP (a9 (pv 0) T.aH T.jn Gp (hr.mono (by decide)) T.jw .nil az (aa (al iq (pv 2) ae) ah)))))))))
   ,?_⟩
  obtain⟨dx,fs,hi,hm⟩:=hA.ins
  refine⟨_,rfl,a,dx,fs,rfl,hi,hm _ (by decide+kernel),_,rfl,a,k,F,ks,rfl,hA,λH0 F0 hA0 fr0=>?_⟩
  by_cases ck:k∈ks
  case neg=>
   rw[decide_eq_false ck]
   refine⟨_,rfl,dj ?_⟩
   exact(q2 ck).elim
  rw[decide_eq_true ck]
  refine⟨_,rfl,fz ?_⟩
  have q:=q1 ck
  obtain⟨L,A,ls,hb,ok,ef,hF⟩:=hA0
  obtain⟨dx',ho⟩:=hb.obj
  have sh:=ok.short
  rw[ef]at sh
  have fr:Fr F (LvF a L A) H H0:=λb o n e=>⟨(fr0 b o n e).1,λy=>(fr0 b o n e).2 ((hF b).mpr y)⟩
  obtain⟨dx2,fs2,hi2,hm2⟩:=hb.insM
  refine⟨_,rfl,a,dx2,fs2,rfl,hi2,hm2 _ (by decide+kernel),_,rfl,a,k,L,A,ls,rfl,hb,ok.ne,ok.up,λi li=>?_⟩
  obtain⟨x,ex,hx⟩:=(li.mem ok).mp (by rw[ef];exact ck)
  obtain⟨c,ec,hc⟩:=hb.at ex
  have il:i<ls.length:=(Q2.mp ex).1
  have ilA:i<A.length:=by rw[hb.len];exact il
  refine⟨_,rfl,a,_,dx',_,_,rfl,ho,T.aH,T.ar,cP,_,rfl,L,_,_,_,rfl,rfl,SqL.of hb.lst,fV ec,.inl ⟨rfl,_,SqL.of hc⟩,_,rfl,c,x,k,rfl,rfl,hc,hx,?_⟩
  have hb1:=hb.write (y:=x.erase k) ec ex
  obtain⟨up1,mem1⟩:=ok.gone ex hx
  have cF:LvF a L A c:= .inr (.inr (Q0 ec))
  have f1:Fr (LvF a L A) (LvF a L A) H0 (upd H0 c (.lst ((x.erase k).map V.int))):=λb o n w=>⟨by rw[ac (λy=>n (by rw[y];exact cF))];exact w,n⟩
  have hc1:upd H0 c (.lst ((x.erase k).map V.int)) c=some (.lst ((x.erase k).map V.int)):=ag
  obtain⟨dx1,ho1⟩:=hb1.obj
  have hL1:=hb1.lst
  generalize upd H0 c (.lst ((x.erase k).map V.int))=H1 at hb1 f1 hc1 ho1 hL1⊢
  have le:=List.length_erase_of_mem hx
  refine⟨_,rfl,a,_,dx1,_,_,rfl,ho1,T.aH,T.ar,cP,_,rfl,L,_,_,_,rfl,rfl,SqL.of hL1,fV ec,c,_,rfl,.inl (SqL.of hc1),rfl,_,rfl,?_⟩
  have px:=List.length_pos_of_mem hx
  by_cases c0:x.length=1
  ·refine jU (congrArg V.int (by rw[Q1,le,c0];rfl)) ?_
   have en:x.erase k=[]:=ZN.mp (by omega)
   rw[en]at up1 mem1 hb1
   have sx:seqIndex? (i:Int) (A.map V.ref).length=some i:=by
    have:=seqIndex_of (k:=(i:Int)) (n:=(A.map V.ref).length) (by omega) (by rw[Q1];omega)
    rw[this,Zs]
   refine⟨_,rfl,a,_,dx1,_,_,rfl,ho1,T.aH,T.ar,cP,.inl ⟨rfl,_,SqL.of hL1⟩,_,rfl,L,_,_,i,_,rfl,rfl,hL1,(by omega),(by omega),sx,(by rw[QD,ec];rfl),?_⟩
   have hb2:=hb1.erase (i:=i)
   have e2:(ls.set i ([]:List Int)).eraseIdx i=ls.eraseIdx i:=qY _ _ _
   rw[e2]at hb2
   rw[kQ]
   obtain⟨ok2,ef2⟩:=ok.out ex c0 up1
   refine q _ _ _ ⟨L,_,_,hb2,ok2,rfl,λb=>Iff.rfl⟩ (λz=>by rw[ef2,mem1,ef]) ((fr.trans f1).trans λb o n w=>?_)
   refine⟨by rw[ac (λy=>n (.inr (.inl y)))];exact w,λy=>?_⟩
   rcases y with y|y|y
   ·exact n (.inl y)
   ·exact n (.inr (.inl y))
   ·exact n (.inr (.inr (QO y)))
  ·refine bQ (λw=>c0 (by have:=V.int.inj w;rw[Q1,le]at this;omega)) ?_
   have ny:x.erase k≠[]:=Z2 (by omega)
   have w1:=ok.shrunk ex ny (by omega) up1
   obtain⟨dx3,fs3,hi3,hm3⟩:=hb1.insM
   have ls1:(ls.set i (x.erase k)).length=ls.length:=Qx
   refine⟨_,rfl,a,dx3,fs3,rfl,hi3,hm3 _ (by decide+kernel),_,rfl,a,L,A,_,(i:Int),rfl,hb1,by omega,by rw[ls1];omega,w1.le,by rw[ls1];omega,λH2 A2 ls2 hb2 e2 f2=>?_⟩
   rw[if_pos (by omega),Zs]at e2
   obtain⟨w2,fl2⟩:=w1.join (i:=i) (λj h=>h)
   rw[←e2]at w2 fl2
   have l2:i≤ls2.length∧ls2.length≤ls.length:=by
    have:=wY (ls:=ls.set i (x.erase k)) (i:=i)
    rw[←e2,ls1]at this
    omega
   obtain⟨dx4,fs4,hi4,hm4⟩:=hb2.insM
   refine⟨_,rfl,a,dx4,fs4,rfl,hi4,hm4 _ (by decide+kernel),_,rfl,_,_,rfl,rfl,a,L,A2,ls2,(i:Int)-1,rfl,hb2,by omega,by omega,w2.le,by omega,λH3 A3 ls3 hb3 e3 f3=>?_⟩
   have fin:LvOk ls3∧ls3.flatten=ls2.flatten:=by
    by_cases ci:i=0
    ·subst ci
     rw[if_neg (by omega)]at e3
     subst e3
     exact⟨w2.ok λj h=>by omega,rfl⟩
    ·have ei:((i:Int)-1).toNat=i-1:=by omega
     rw[if_pos (by omega),ei]at e3
     obtain⟨w3,fl3⟩:=w2.join (i:=i-1) (λj h=>by omega)
     rw[←e3]at w3 fl3
     exact⟨w3.ok λj h=>by omega,fl3⟩
   obtain⟨ok3,ef3⟩:=fin
   refine q H3 _ _ ⟨L,A3,ls3,hb3,ok3,rfl,λb=>Iff.rfl⟩ (λz=>by rw[ef3,fl2,mem1,ef]) (((fr.trans f1).trans f2).trans f3)
theorem oE:(0:Int)<10^(39:Int).toNat:=by decide
theorem y9 (ms:List Int) (lo hi:Option Int):∃cs:List Int,jV (ms.map V.int) lo hi=cs.map V.int∧cs.Sublist ms:=by
 refine⟨(ms.drop (HT.sIx (ms.map V.int).length 0 lo)).take (HT.sIx (ms.map V.int).length (ms.map V.int).length hi-HT.sIx (ms.map V.int).length 0 lo),?_,?_⟩
 ·unfold jV
  rw[ZI,ZJ]
 ·exact(X7 _ _).trans (List.drop_sublist _ _)
theorem tD (T:Txt K mg t):FnOk P w K mg base CX0 1 t.pY t.kS ["thing"] sO:=by
 refine T.vb.ok sU (λvs H Q E h=>?_) (λcdv A outer s H vs Q E hr h=>?_)
 ·obtain⟨x,rfl,_⟩:=h
  rfl
 ·obtain⟨x,rfl,hx,k⟩:=h
  refine⟨_,(ai (aG (gs (aI m9 (by rfl) T.lf gL (aa (pv 0) (aa (vx (v:= .ty "int") (by rfl) T.DM Cu rfl) ah))) (gr (ye (aI m9 (by rfl) T.lf gL (aa (pv 0) (aa (vx (v:= .ty "bool") (by rfl) T.DH AI rfl) ah))))))))
   ,?_⟩
  cases x with
  |int i=>
   refine⟨_,rfl,_,_,_,_,rfl,TyOf.int _,B9,true,rfl,dj ?_⟩
   exact⟨_,rfl,_,_,_,_,rfl,TyOf.int _,Ca,_,rfl,k⟩
  |bl c=>
   refine⟨_,rfl,_,_,_,_,rfl,TyOf.bl _,Cb,true,rfl,dj ?_⟩
   exact⟨_,rfl,_,_,_,_,rfl,TyOf.bl _,Cc,_,rfl,k⟩
  |str c=>exact⟨_,rfl,_,_,_,_,rfl,TyOf.str _,B7,false,rfl,fz k⟩
  |non=>exact⟨_,rfl,_,_,_,_,rfl,TyOf.non,B8,false,rfl,fz k⟩
  |_=>exact hx.elim
theorem kJ (T:Txt K mg t):FnOk P w K mg base CX0 2 t.rC t.mZ ["thing","low"] uv:=by
 have Jo:= @tD P w K mg base t T
 refine T.eQ.ok uC (λvs H Q E h=>?_) (λcdv A outer s H vs Q E hr h=>?_)
 ·obtain⟨x,lo,rfl,_⟩:=h
  rfl
 ·obtain⟨x,lo,rfl,hx,k⟩:=h
  refine⟨_,(ai (aG (gs (aQ Jo (hr.mono (by decide)) (by rfl) T.B0 T.vb.kp T.Cy .nil az (aa (pv 0) ah)) (gr (bV Bo (pv 0) (pv 1) (ax _))))))
   ,?_⟩
  cases x with
  |int i=>exact⟨_,rfl,_,rfl,hx,true,rfl,dj ⟨_,rfl,_,rfl,_,_,rfl,rfl,k⟩⟩
  |bl c=>exact⟨_,rfl,_,rfl,hx,false,rfl,fz k⟩
  |str c=>exact⟨_,rfl,_,rfl,hx,false,rfl,fz k⟩
  |non=>exact⟨_,rfl,_,rfl,hx,false,rfl,fz k⟩
  |_=>exact hx.elim
theorem uF (T:Txt K mg t):FnOk P w K mg base CX0 1 t.rp t.mV ["bound"] uq:=by
 refine T.rD.ok uy (λvs H Q E h=>?_) (λcdv A outer s H vs Q E hr h=>?_)
 ·obtain⟨x,rfl,_⟩:=h
  rfl
 ·obtain⟨x,rfl,hx,k⟩:=h
  refine⟨_,(ai (aG (yf (au gv (pv 0) bK (ax _)) gp (gQ sr (by rfl) T.DK Cs (aa (pv 0) ah)))))
   ,?_⟩
  rcases hx with rfl|⟨i,rfl,hi⟩
  ·exact⟨_,rfl,rfl,_,rfl,dj k⟩
  ·exact⟨_,rfl,rfl,_,rfl,fz ⟨_,rfl,i,rfl,hi,k⟩⟩
theorem fm (T:Txt K mg t):FnOk P w K mg base CX0 1 t.gM t.gx ["self","kind","at","end"] (eT K):=by
 refine T.gN.ok oV (λvs H Q E h=>?_) (λcdv A outer s H vs Q E hr h=>?_)
 ·obtain⟨p,C,dx,kd,a,e,rfl,_⟩:=h
  rfl
 ·obtain⟨p,C,dx,kd,a,e,rfl,hp,cl,n0,n1,n2,k⟩:=h
  refine⟨_,(af (bq (pv 0) (pv 1) rfl)
   (af (bq (pv 0) (pv 2) rfl)
   (ai (bq (pv 0) (pv 3) rfl))))
   ,?_⟩
  refine⟨_,rfl,_,rfl,p,C,dx,[],rfl,hp,cl,n0,(by show 0<1000;decide),_,rfl,_,rfl,p,C,dx,_,rfl,ag,cl,n1,(by show 1<1000;decide),_,rfl,_,rfl,p,C,dx,_,rfl,ag,cl,n2,?_,?_⟩
  ·have h1:=i8 (f:="at") (v:=a) (aY "kind" (.str kd) [])
   have h2:=i8 (f:="kind") (v:= .str kd) []
   have h3:([]:List (Str×V)).length=0:=rfl
   omega
  rw[b7,b7]
  refine k _ _ (λb o q z=>by rw[ac z];exact q) ag ⟨?_,?_,?_,?_,?_⟩
  ·rw[a7,if_neg (by decide+kernel),a7,if_neg (by decide+kernel),a7,if_pos rfl]
  ·rw[a7,if_neg (by decide+kernel),a7,if_pos rfl]
  ·rw[a7,if_pos rfl]
  ·rw[a7,if_neg (by decide+kernel),a7,if_neg (by decide+kernel),a7,if_neg (by decide+kernel)];rfl
  ·rw[a7,if_neg (by decide+kernel),a7,if_neg (by decide+kernel),a7,if_neg (by decide+kernel)];rfl
theorem tkN (T:Txt K mg t) {kd:Int} (h:kd=0∨kd=1∨kd=2):Cls K (tkC t kd)∧NoAttr K (tkC t kd) "kind"∧NoAttr K (tkC t kd) "at"∧NoAttr K (tkC t kd) "end":=by
 rcases h with rfl|rfl|rfl
 ·exact⟨T.bM,T.oe,T.j4,T.jk⟩
 ·exact⟨T.iN,T.uL,T.pG,T.jL⟩
 ·exact⟨T.cy,T.rW,T.iu,T.ji⟩
theorem Az {kd:Int} (h:kd=0∨kd=1∨kd=2):(kdS kd).length≤5:=by
 rcases h with rfl|rfl|rfl<;>decide+kernel
theorem nV (T:Txt K mg t):FnOk P w K mg base CX0 2 t.b6 t.fF ["self"] (bO t):=by
 have Jt:= @uF P w K mg base t T
 refine T.zn.ok nN (λvs H Q E h=>?_) (λcdv A outer s H vs Q E hr h=>?_)
 ·obtain⟨p,dx,kd,fs,a,e,rfl,_⟩:=h
  rfl
 ·obtain⟨p,dx,kd,fs,a,e,rfl,hp,tf,ho,ba,be,q⟩:=h
  refine⟨_,(ai (aG (fk PySem.F.plainAttrs_str PySem.F.slot_str_join PySem.F.type_str_join Ar gp (aa (bZ (aa (aq (pv 0) rfl) (aa (aQ Jt (hr.mono (by decide)) (by rfl) T.wQ T.rD.kp T.xo .nil az (aa (aq (pv 0) rfl) ah)) (aa (aQ Jt (hr.mono (by decide)) (by rfl) T.wQ T.rD.kp T.xo .nil az (aa (aq (pv 0) rfl) ah)) ah)))) ah))))
   ,?_⟩
  obtain⟨cl,n0,n1,n2⟩:=tkN T ho.kd
  obtain⟨fa,fe⟩:=okN.few ho ba be
  have kl:=Az ho.kd
  refine⟨rfl,_,rfl,p,_,dx,fs,_,rfl,hp,cl,n0,tf.ki,_,rfl,p,_,dx,fs,_,rfl,hp,cl,n1,tf.at_,a,rfl,fa.1,_,rfl,p,_,dx,fs,_,rfl,hp,cl,n2,tf.end_,e,rfl,fe.1,(by show 3≤sizeLine;decide),λl nl=>?_⟩
  refine⟨" ",l,[kdS kd,wr a,wr e],rfl,rfl,SqL.of ag,by decide+kernel,?_,q _ (ak nl)⟩
  have:=fa.2
  have:=fe.2
  simp only[Qs,X8,List.sum_cons,List.sum_nil,Qj,Xh]
  omega
theorem jM {x:V} {lo:Int} (h:isF lo x=true):∃i,x= .int i∧lo≤i:=by
 cases x with
 |int i=>exact⟨i,rfl,of_decide_eq_true h⟩
 |_=>cases h
theorem mN (T:Txt K mg t):FnOk P w K mg base CX0 3 t.iQ t.bR ["self","at","end"] (mB t):=by
 obtain⟨tk_PLACES,hPLACES⟩:=T.yR
 have J7:= @fm P w K mg base t T
 have Jm:= @kJ P w K mg base t T
 refine T.xJ.ok mE (λvs H Q E h=>?_) (λcdv A outer s H vs Q E hr h=>?_)
 ·obtain⟨p,dx,a,e,rfl,_⟩:=h
  rfl
 ·obtain⟨p,dx,a,e,rfl,hp,sa,se,k1,k2⟩:=h
  refine⟨_,(af (aV (i9 (PW.pt (ik (dX (aQ Jm (hr.mono (by decide)) (by rfl) T.gS T.eQ.kp T.gW .nil az (aa (pv 1) (aa ae ah)))) (ik (dX (aQ Jm (hr.mono (by decide)) (by rfl) T.gS T.eQ.kp T.gW .nil az (aa (pv 2) (aa (pv 1) ah)))) (fQ (au tm (pv 2) (eG (v:= .int 65536) (by rfl) hPLACES ⟨_,rfl⟩) (ax _)))))))
   (ai cX)
   aF)
   (ai (aP (rQ (by rfl) T.tM T.j3 T.gN.kp J7 (hr.mono (by decide)) T.ke .nil az (aa (pv 0) (aa gp (aa (pv 1) (aa (pv 2) ah))))))))
   ,?_⟩
  refine⟨_,rfl,a,0,rfl,sa,_,rfl,bI (λc=>?_) (λc=>?_)⟩
  ·obtain⟨i,rfl,i0⟩:=jM c
   refine⟨_,rfl,_,rfl,e,i,rfl,se,_,rfl,bI (λc=>?_) (λc=>?_)⟩
   ·obtain⟨j,rfl,ij⟩:=jM c
    refine⟨_,rfl,_,_,rfl,rfl,_,rfl,?_⟩
    by_cases cj:j≤65536
    ·rw[decide_eq_true cj]
     exact fz ⟨_,rfl,_,rfl,_,rfl,p,_,dx,_,.int i,.int j,rfl,hp,T.bM,T.oe,T.j4,T.jk,λH' fs k h f=>k1 ⟨i,j,rfl,rfl,i0,ij,cj⟩ H' fs k h f⟩
    ·rw[decide_eq_false cj]
     exact dj ((k2 λ⟨i',j',e1,e2,_,_,h⟩=>by cases e2;exact cj h))
   ·exact dj ((k2 λ⟨i',j',e1,e2,_,h,_⟩=>c (by cases e1;rw[e2];exact decide_eq_true h)))
  ·exact dj ((k2 λ⟨i',j',e1,_,h,_⟩=>c (by rw[e1];exact decide_eq_true h)))
theorem tF (T:Txt K mg t):FnOk P w K mg base CX0 3 t.p4 t.fE ["self","at","end"] (sQ t):=by
 have J7:= @fm P w K mg base t T
 have Jm:= @kJ P w K mg base t T
 refine T.CJ.ok sV (λvs H Q E h=>?_) (λcdv A outer s H vs Q E hr h=>?_)
 ·obtain⟨p,dx,a,e,rfl,_⟩:=h
  rfl
 ·obtain⟨p,dx,a,e,rfl,hp,sa,se,k1,k2⟩:=h
  refine⟨_,(af (aV (i9 (PW.pt (ik (dX (aQ Jm (hr.mono (by decide)) (by rfl) T.gS T.eQ.kp T.gW .nil az (aa (pv 1) (aa ae ah)))) (fQ (PW.pt (i7 (au gv (pv 2) bK (ax _)) (i6 (dX (aQ Jm (hr.mono (by decide)) (by rfl) T.gS T.eQ.kp T.gW .nil az (aa (pv 2) (aa (pv 1) ah)))))))))))
   (ai cX)
   aF)
   (ai (aP (rQ (by rfl) T.tM T.j3 T.gN.kp J7 (hr.mono (by decide)) T.ke .nil az (aa (pv 0) (aa gp (aa (pv 1) (aa (pv 2) ah))))))))
   ,?_⟩
  refine⟨_,rfl,a,0,rfl,sa,_,rfl,bI (λc=>?_) (λc=>?_)⟩
  ·obtain⟨i,rfl,i0⟩:=jM c
   have fin:okU (.int i) e→eT K [.ref p,.str "up",.int i,e] H (λ_ H'=>Q .non H') E0:=λok=>⟨p,_,dx,"up",.int i,e,rfl,hp,T.iN,T.uL,T.pG,T.jL,λH' fs k h f=>k1 ok H' fs k h f⟩
   by_cases ce:e= .non
   ·exact⟨_,rfl,rfl,_,rfl,jU ce (fz ⟨_,rfl,_,rfl,_,rfl,fin ⟨i,rfl,i0,.inl ce⟩⟩)⟩
   ·refine⟨_,rfl,rfl,_,rfl,bQ ce ⟨_,rfl,_,rfl,e,i,rfl,se,_,rfl,?_⟩⟩
    cases ci:isF i e with
    |true=>
     obtain⟨j,rfl,ij⟩:=jM ci
     exact fz ⟨_,rfl,_,rfl,_,rfl,fin ⟨i,rfl,i0,.inr ⟨j,rfl,ij⟩⟩⟩
    |false=>
     refine dj ((k2 λ⟨i',e1,_,e2⟩=>?_))
     cases e1
     rcases e2 with e2|⟨j',e2,h⟩
     ·exact ce e2
     ·rw[e2]at ci
      exact of_decide_eq_false ci h
  ·exact dj ((k2 λ⟨i',e1,h,_⟩=>c (by rw[e1];exact decide_eq_true h)))
theorem qo (T:Txt K mg t):FnOk P w K mg base CX0 3 t.mq t.de ["self","at","end"] (qd t):=by
 have J7:= @fm P w K mg base t T
 have Jm:= @kJ P w K mg base t T
 refine T.AX.ok qi (λvs H Q E h=>?_) (λcdv A outer s H vs Q E hr h=>?_)
 ·obtain⟨p,dx,a,e,rfl,_⟩:=h
  rfl
 ·obtain⟨p,dx,a,e,rfl,hp,sa,se,k1,k2⟩:=h
  refine⟨_,(af (aV (i9 (PW.pt (ik (dX (aQ Jm (hr.mono (by decide)) (by rfl) T.gS T.eQ.kp T.gW .nil az (aa (pv 2) (aa ae ah)))) (fQ (PW.pt (i7 (au gv (pv 1) bK (ax _)) (i6 (dX (aQ Jm (hr.mono (by decide)) (by rfl) T.gS T.eQ.kp T.gW .nil az (aa (pv 1) (aa (pv 2) ah)))))))))))
   (ai cX)
   aF)
   (ai (aP (rQ (by rfl) T.tM T.j3 T.gN.kp J7 (hr.mono (by decide)) T.ke .nil az (aa (pv 0) (aa gp (aa (pv 1) (aa (pv 2) ah))))))))
   ,?_⟩
  refine⟨_,rfl,e,0,rfl,se,_,rfl,bI (λc=>?_) (λc=>?_)⟩
  ·obtain⟨j,rfl,j0⟩:=jM c
   have fin:okD a (.int j)→eT K [.ref p,.str "down",a,.int j] H (λ_ H'=>Q .non H') E0:=λok=>⟨p,_,dx,"down",a,.int j,rfl,hp,T.cy,T.rW,T.iu,T.ji,λH' fs k h f=>k1 ok H' fs k h f⟩
   by_cases ce:a= .non
   ·exact⟨_,rfl,rfl,_,rfl,jU ce (fz ⟨_,rfl,_,rfl,_,rfl,fin ⟨j,rfl,j0,.inl ce⟩⟩)⟩
   ·refine⟨_,rfl,rfl,_,rfl,bQ ce ⟨_,rfl,_,rfl,a,j,rfl,sa,_,rfl,?_⟩⟩
    cases ci:isF j a with
    |true=>
     obtain⟨i,rfl,ij⟩:=jM ci
     exact fz ⟨_,rfl,_,rfl,_,rfl,fin ⟨j,rfl,j0,.inr ⟨i,rfl,ij⟩⟩⟩
    |false=>
     refine dj ((k2 λ⟨j',e1,_,e2⟩=>?_))
     cases e1
     rcases e2 with e2|⟨i',e2,h⟩
     ·exact ce e2
     ·rw[e2]at ci
      exact of_decide_eq_false ci h
  ·exact dj ((k2 λ⟨j',e1,h,_⟩=>c (by rw[e1];exact decide_eq_true h)))
theorem fR (T:Txt K mg t):FnOk P w K mg base CX0 3 t.g7 t.dI ["self","key"] (cQ t):=by
 have Jq:= @tx P w K mg base t T
 refine T.xz.ok lJ (λvs H Q E h=>?_) (λcdv A outer s H vs Q E hr h=>?_)
 ·obtain⟨p,dx,fs,a,e,k,rfl,_⟩:=h
  rfl
 ·obtain⟨p,dx,fs,a,e,k,rfl,hp,tf,⟨i,j,rfl,rfl,i0,ij,j1⟩,h0,q⟩:=h
  refine⟨_,(ai (aG (yh tm iL (aq (pv 0) rfl) (aQ Jq (hr.mono (by decide)) (by rfl) T.BZ T.va.kp T.Cw .nil az (aa (pv 1) ah)) (aq (pv 0) rfl))))
   ,?_⟩
  have q:Q (.bl (decide (i≤tz (k%65536))&&decide (tz (k%65536)<j))) H:=q H (Same.refl H)
  refine⟨_,rfl,p,_,dx,fs,_,rfl,hp,T.bM,T.j4,tf.at_,_,rfl,k,rfl,_,_,rfl,rfl,_,rfl,bI (λc=>?_) (λc=>?_)⟩
  ·refine⟨_,rfl,p,_,dx,fs,_,rfl,hp,T.bM,T.jk,tf.end_,_,_,rfl,rfl,?_⟩
   rw[c,Bool.true_and]at q
   exact q
  ·rw[Zd.mpr c,X0]at q
   exact q
theorem lR (T:Txt K mg t):FnOk P w K mg base CX0 1 t.nB t.js ["self","key"] (hJ t):=by
 refine T.Bz.ok rN (λvs H Q E h=>?_) (λcdv A outer s H vs Q E hr h=>?_)
 ·obtain⟨p,dx,fs,a,e,k,rfl,_⟩:=h
  rfl
 ·obtain⟨p,dx,fs,a,e,k,rfl,hp,tf,⟨i,rfl,i0,he⟩,h0,q⟩:=h
  refine⟨_,(ai (aG (gs (bV tm (aq (pv 0) rfl) (pv 1) (ax _)) (gr (Bm (bV gv (aq (pv 0) rfl) bK (ax _)) (gr (bV iL (pv 1) (aq (pv 0) rfl) (ax _))))))))
   ,?_⟩
  have q:=q H (Same.refl H)
  rcases he with rfl|⟨j,rfl,ij⟩
  ·have q:Q (.bl (decide (i≤k))) H:=q
   refine⟨_,rfl,p,_,dx,fs,_,rfl,hp,T.iN,T.pG,tf.at_,_,rfl,_,_,rfl,rfl,_,rfl,bI (λc=>⟨_,rfl,p,_,dx,fs,_,rfl,hp,T.iN,T.jL,tf.end_,rfl,_,rfl,jU rfl ?_⟩) (λc=>?_)⟩
   ·rw[c]at q;exact q
   ·rw[Zd.mpr c]at q;exact q
  ·have q:Q (.bl (decide (i≤k)&&decide (k<j))) H:=q
   refine⟨_,rfl,p,_,dx,fs,_,rfl,hp,T.iN,T.pG,tf.at_,_,rfl,_,_,rfl,rfl,_,rfl,bI (λc=>⟨_,rfl,p,_,dx,fs,_,rfl,hp,T.iN,T.jL,tf.end_,rfl,_,rfl,bQ (λz=>by cases z) ⟨_,rfl,_,rfl,p,_,dx,fs,_,rfl,hp,T.iN,T.jL,tf.end_,_,_,rfl,rfl,?_⟩⟩) (λc=>?_)⟩
   ·rw[c,Bool.true_and]at q;exact q
   ·rw[Zd.mpr c,X0]at q;exact q
theorem jg (T:Txt K mg t):FnOk P w K mg base CX0 1 t.ku t.gK ["self","key"] (eU t):=by
 refine T.zR.ok o8 (λvs H Q E h=>?_) (λcdv A outer s H vs Q E hr h=>?_)
 ·obtain⟨p,dx,fs,a,e,k,rfl,_⟩:=h
  rfl
 ·obtain⟨p,dx,fs,a,e,k,rfl,hp,tf,⟨j,rfl,j0,ha⟩,h0,q⟩:=h
  refine⟨_,(ai (aG (gs (bV tm (aq (pv 0) rfl) (pv 1) (ax _)) (gr (Bm (bV gv (aq (pv 0) rfl) bK (ax _)) (gr (bV tm (pv 1) (aq (pv 0) rfl) (ax _))))))))
   ,?_⟩
  have q:=q H (Same.refl H)
  rcases ha with rfl|⟨i,rfl,ij⟩
  ·have q:Q (.bl (decide (j≤k))) H:=q
   refine⟨_,rfl,p,_,dx,fs,_,rfl,hp,T.cy,T.ji,tf.end_,_,rfl,_,_,rfl,rfl,_,rfl,bI (λc=>⟨_,rfl,p,_,dx,fs,_,rfl,hp,T.cy,T.iu,tf.at_,rfl,_,rfl,jU rfl ?_⟩) (λc=>?_)⟩
   ·rw[c]at q;exact q
   ·rw[Zd.mpr c]at q;exact q
  ·have q:Q (.bl (decide (j≤k)&&decide (k≤i))) H:=q
   refine⟨_,rfl,p,_,dx,fs,_,rfl,hp,T.cy,T.ji,tf.end_,_,rfl,_,_,rfl,rfl,_,rfl,bI (λc=>⟨_,rfl,p,_,dx,fs,_,rfl,hp,T.cy,T.iu,tf.at_,rfl,_,rfl,bQ (λz=>by cases z) ⟨_,rfl,_,rfl,p,_,dx,fs,_,rfl,hp,T.cy,T.iu,tf.at_,_,_,rfl,rfl,?_⟩⟩) (λc=>?_)⟩
   ·rw[c,Bool.true_and]at q;exact q
   ·rw[Zd.mpr c,X0]at q;exact q
structure Mk1 where
 p:Addr
 mo:Int
 v:V
structure MkA (t:Adr) (H:Hp) (m l:Addr) (es:List Mk1):Prop where
 ob:∃dx,H m=some (.ins t.iH dx [("made",.ref l)])
 li:H l=some (.lst (es.map λe=>V.ref e.p))
 tu:∀e∈es,H e.p=some (.tup [.int e.mo,e.v])
theorem MkA.keep {t:Adr} {H H':Hp} {m l:Addr} {es:List Mk1} (h:MkA t H m l es) (e1:H' m=H m) (e2:H' l=H l) (tp:∀b xs,H b=some (.tup xs)→H' b=some (.tup xs)):MkA t H' m l es:=⟨h.ob.imp λ_ e=>e1.trans e,e2.trans h.li,λe he=>tp _ _ (h.tu e he)⟩
def oK (t:Adr):Sp:=λvs H Q _=>∃(a dx:Addr),vs=[.ref a]∧H a=some (.ins t.iH dx [])∧∀(H':Hp) (l:Addr),MkA t H' a l []→H l=none→(∀b o,b≠a→H b=some o→H' b=some o)→Q .non H'
theorem pz (T:Txt K mg t):FnOk P w K mg base CX0 1 t.kj t.gE ["self"] (oK t):=by
 refine T.zL.ok oZ (λvs H Q E h=>?_) (λcdv A outer s H vs Q E hr h=>?_)
 ·obtain⟨a,dx,rfl,_⟩:=h
  rfl
 ·obtain⟨a,dx,rfl,ha,q⟩:=h
  refine⟨_,(ai (bq (pv 0) (bZ ah) rfl))
   ,?_⟩
  refine⟨Qg _,λl nl=>⟨_,rfl,a,_,dx,[],rfl,(by rw[ac (am ha nl)];exact ha),T.tZ,T.qp,(by show 0<1000;decide),?_⟩⟩
  have na:a≠l:=am ha nl
  exact q _ l ⟨⟨dx,ag⟩,by rw[ac na.symm];exact ag,λe he=>by cases he⟩ nl λb o n e=>by rw[ac n,ac (am e nl)];exact e
def oJ (t:Adr):Sp:=λvs H Q _=>∃(m l:Addr) (es:List Mk1) (mo:Int) (v:V),vs=[.ref m,.int mo,v]∧MkA t H m l es∧es.length<100000∧
 ∀(H':Hp) (p:Addr),MkA t H' m l (es++ [⟨p,mo,v⟩])→H p=none→(∀b o,b≠l→H b=some o→H' b=some o)→Q .non H'
theorem pq (T:Txt K mg t):FnOk P w K mg base CX0 1 t.kh t.gB ["self","moment","value"] (oJ t):=by
 refine T.zK.ok oY (λvs H Q E h=>?_) (λcdv A outer s H vs Q E hr h=>?_)
 ·obtain⟨m,l,es,mo,v,rfl,_⟩:=h
  rfl
 ·obtain⟨m,l,es,mo,v,rfl,M,le,q⟩:=h
  refine⟨_,(ai (aP (fk Qt QP QQ dC (aq (pv 0) rfl) (aa (cH (aa (pv 1) (aa (pv 2) ah))) ah))))
   ,?_⟩
  obtain⟨dx,ho⟩:=M.ob
  refine⟨_,rfl,m,_,dx,_,_,rfl,ho,T.tZ,T.qp,rfl,.inl ⟨rfl,_,SqL.of M.li⟩,_,rfl,_,rfl,(by show 2≤sizeLine;decide),λp np=>?_⟩
  have s1:=ak (o:= .tup [.int mo,v]) np
  have pl:p≠l:=λz=>by rw[z,M.li]at np;cases np
  have lm:m≠l:=λz=>by have:=M.li;rw[←z,ho]at this;cases this
  refine⟨l,_,_,rfl,rfl,s1 _ _ M.li,dM (by rw[Q1];omega),?_⟩
  refine q _ p ⟨⟨dx,by rw[ac lm];exact s1 _ _ ho⟩,by rw[ag,Qr];rfl,λe he=>?_⟩ np λb o n e=>by rw[ac n];exact s1 _ _ e
  rcases Q4.mp he with he|he
  ·have te:=s1 _ _ (M.tu e he)
   rw[ac (λz=>by rw[z,s1 _ _ M.li]at te;cases te)]
   exact te
  ·rw[Q8.mp he]
   rw[ac pl]
   exact ag
section
variable {K:PySem.W.Frag} {t:Adr} {H:Hp} {a b:Addr} {F:Addr→Prop} {st:SSt} {ks:List Int} {xs:List V}
theorem SlA.notup (h:SlA K t H a F st) (e:H b=some (.tup xs)):¬F b:=λhb=>by
 obtain⟨d,h1,h2,_⟩:=h
 obtain⟨dx,ho⟩:=h1.obj
 have no:∀o,H b=some o→(∀ys,o≠ .tup ys)→False:=λo q n=>by rw[e]at q;exact n _ (Option.some.inj q).symm
 rcases(h2 b).mp hb with rfl|rfl|rfl|hb|⟨hs,rfl⟩|hb
 ·exact no _ ho (λ_ z=>by cases z)
 ·exact no _ h1.tbl (λ_ z=>by cases z)
 ·exact no _ h1.row0.lst (λ_ z=>by cases z)
 ·obtain⟨_,_,_,_,q⟩:=h1.row0.has hb
  exact no _ q (λ_ z=>by cases z)
 ·have r1:=h1.row1
  cases en:st.nxt with
  |none=>rw[en]at hs;cases hs
  |some m=>rw[en]at r1;exact no _ r1.lst (λ_ z=>by cases z)
 ·have r1:=h1.row1
  cases en:st.nxt with
  |none=>rw[en]at r1;rw[r1.1]at hb;cases hb
  |some m=>
   rw[en]at r1
   obtain⟨_,_,_,_,q⟩:=r1.has hb
   exact no _ q (λ_ z=>by cases z)
theorem LvA.notup (h:LvA K t H a F ks) (e:H b=some (.tup xs)):¬F b:=λhb=>by
 obtain⟨L,A,ls,h1,_,_,h2⟩:=h
 obtain⟨dx,ho⟩:=h1.obj
 have no:∀o,H b=some o→(∀ys,o≠ .tup ys)→False:=λo q n=>by rw[e]at q;exact n _ (Option.some.inj q).symm
 rcases(h2 b).mp hb with rfl|rfl|hb
 ·exact no _ ho (λ_ z=>by cases z)
 ·exact no _ h1.lst (λ_ z=>by cases z)
 ·obtain⟨_,_,_,_,q⟩:=h1.has hb
  exact no _ q (λ_ z=>by cases z)
end
structure Pk where
 k:Int
 m:Addr
 l:Addr
 es:List Mk1
structure HSt where
 now:Int
 fl:Int
 ma:Int
 st:SSt
 ks:List Int
 di:List (Addr×List V)
 pa:List Pk
 ho:List (Int×V)
def c4:List Pk→Int→List Mk1
 | [],_=> []
 |e::r,k=>if e.k=k then e.es else c4 r k
def paD (pa:List Pk):List (Int×V):=pa.map λe=>(e.k,V.ref e.m)
def hoF (now fl:Int) (s l w:Addr) (mk:Int) (p h:Addr):List (Str×V):=[("now",.int now),("floor",.int fl),("slots",.ref s),("leaves",.ref l),("written",.ref w),("marks",.int mk),("past",.ref p),("holders",.ref h)]
def NoH (m:Str):Prop:=m≠("now":Str)∧m≠("floor":Str)∧m≠("slots":Str)∧m≠("leaves":Str)∧m≠("written":Str)∧m≠("marks":Str)∧m≠("past":Str)∧m≠("holders":Str)
instance {m:Str}:Decidable (NoH m):=by unfold NoH;infer_instance
section
variable {now now' fl mk mk':Int} {s l w p h:Addr} {m:Str}
theorem ox:(hoF now fl s l w mk p h).lookup ("now":Str)=some (.int now):=dL
theorem Cl:(hoF now fl s l w mk p h).lookup ("floor":Str)=some (.int fl):=by unfold hoF;rw[bh (by decide+kernel),dL]
theorem uT:(hoF now fl s l w mk p h).lookup ("slots":Str)=some (.ref s):=by unfold hoF;rw[bh (by decide+kernel),bh (by decide+kernel),dL]
theorem yL:(hoF now fl s l w mk p h).lookup ("leaves":Str)=some (.ref l):=by unfold hoF;rw[bh (by decide+kernel),bh (by decide+kernel),bh (by decide+kernel),dL]
theorem uS:(hoF now fl s l w mk p h).lookup ("written":Str)=some (.ref w):=by unfold hoF;rw[bh (by decide+kernel),bh (by decide+kernel),bh (by decide+kernel),bh (by decide+kernel),dL]
theorem uU:(hoF now fl s l w mk p h).lookup ("marks":Str)=some (.int mk):=by unfold hoF;rw[bh (by decide+kernel),bh (by decide+kernel),bh (by decide+kernel),bh (by decide+kernel),bh (by decide+kernel),dL]
theorem Ck:(hoF now fl s l w mk p h).lookup ("past":Str)=some (.ref p):=by unfold hoF;rw[bh (by decide+kernel),bh (by decide+kernel),bh (by decide+kernel),bh (by decide+kernel),bh (by decide+kernel),bh (by decide+kernel),dL]
theorem yK (n:NoH m):(hoF now fl s l w mk p h).lookup m=none:=by
 obtain⟨h1,h2,h3,h4,h5,h6,h7,h8⟩:=n
 unfold hoF
 rw[bh h1,bh h2,bh h3,bh h4,bh h5,bh h6,bh h7,bh h8]
 rfl
theorem Ag:aY ("now":Str) (.int now') (hoF now fl s l w mk p h)=hoF now' fl s l w mk p h:=by unfold hoF;rw[aY,if_pos rfl]
theorem BM:aY ("marks":Str) (.int mk') (hoF now fl s l w mk p h)=hoF now fl s l w mk' p h:=by
 unfold hoF
 rw[aY,if_neg (by decide+kernel),aY,if_neg (by decide+kernel),aY,if_neg (by decide+kernel),aY,if_neg (by decide+kernel),aY,if_neg (by decide+kernel),aY,if_pos rfl]
theorem vN:(hoF now fl s l w mk p h).length<1000:=by show 8<1000;decide
end
def Ow (a w p h:Addr) (pa:List Pk):Addr→Prop:=λb=>b=a∨b=w∨b=p∨b=h∨∃e∈pa,b=e.m∨b=e.l
structure HoO (t:Adr) (H:Hp) (a s l w p h:Addr) (x:HSt):Prop where
 ob:∃dx,H a=some (.ins t.aB dx (hoF x.now x.fl s l w x.ma p h))
 wr:H w=some (.lst (x.di.map λe=>V.ref e.1))
 dr:∀e∈x.di,H e.1=some (.tup e.2)
 pa:H p=some (.dK (aS (paD x.pa)))
 ho:H h=some (.dK (aS x.ho))
 mx:∀e∈x.pa,MkA t H e.m e.l e.es
 ph:p≠h
 wl:∀e∈x.pa,e.l≠w
 kd:(x.pa.map (·.k)).Nodup
 md:(x.pa.map (·.m)).Nodup
 ld:(x.pa.map (·.l)).Nodup
theorem cw {t u:TS} {D:Ends} {σ:St} {H:Hp} (M:St→Hp→Prop) (h1:∀nx,(∀σ' H',M σ' H'→nx σ' H')→t {D with nx:=nx} σ H) (h2:∀σ' H',M σ' H'→u D σ' H'):BE t u D σ H:=h1 (u D) h2
theorem qS {kvs:List (Int×V)}:gU (aS kvs)=(kvs.map (·.1)).map V.int:=by
 unfold gU aS
 rw[Z3,Z3]
 rfl
theorem bu {f:Str} {v:V}:aY f v []=[(f,v)]:=rfl
theorem aC {f g:Str} {v x:V} {r:List (Str×V)} (n:g≠f):aY f v ((g,x)::r)=(g,x)::aY f v r:=by rw[aY,if_neg n]
theorem sm {H H2:Hp} {p:Addr} (s:Same H H2) (n:H2 p=none):H p=none:=by
 cases e:H p with
 |none=>rfl
 |some o=>rw[s _ _ e]at n;cases n
theorem yo {α β:Type} {f:α→β} {l:List α} (n:(l.map f).Nodup) {x y:α} (hx:x∈l) (hy:y∈l) (e:f x=f y):x=y:=by
 induction l with
 |nil=>cases hx
 |cons z r ih=>
  obtain⟨n1,n2⟩:=QE.mp n
  rcases Qh.mp hx with rfl|hx'<;>rcases Qh.mp hy with rfl|hy'
  ·rfl
  ·exact absurd (Ql.mpr ⟨y,hy',e.symm⟩) n1
  ·exact absurd (Ql.mpr ⟨x,hx',e⟩) n1
  ·exact ih n2 hx' hy'
section
variable {t:Adr} {H H':Hp} {a s l w p h b q:Addr} {x:HSt} {pa:List Pk} {k:Int} {y:Mk1} {o:HO}
theorem HoO.dom (A:HoO t H a s l w p h x) (hb:Ow a w p h x.pa b):∃o,H b=some o∧∀ys,o≠ .tup ys:=by
 obtain⟨dx,ho⟩:=A.ob
 rcases hb with rfl|rfl|rfl|rfl|⟨e,he,rfl|rfl⟩
 ·exact⟨_,ho,λ_ z=>by cases z⟩
 ·exact⟨_,A.wr,λ_ z=>by cases z⟩
 ·exact⟨_,A.pa,λ_ z=>by cases z⟩
 ·exact⟨_,A.ho,λ_ z=>by cases z⟩
 ·obtain⟨dy,hm⟩:=(A.mx e he).ob
  exact⟨_,hm,λ_ z=>by cases z⟩
 ·exact⟨_,(A.mx e he).li,λ_ z=>by cases z⟩
theorem HoO.keep (A:HoO t H a s l w p h x) (g:∀b,Ow a w p h x.pa b→H' b=H b) (tp:∀b xs,H b=some (.tup xs)→H' b=some (.tup xs)):HoO t H' a s l w p h x:=
 ⟨A.ob.imp λ_ e=>(g a (.inl rfl)).trans e,(g w (.inr (.inl rfl))).trans A.wr,λe he=>tp _ _ (A.dr e he),(g p (.inr (.inr (.inl rfl)))).trans A.pa,(g h (.inr (.inr (.inr (.inl rfl))))).trans A.ho,
  λe he=>(A.mx e he).keep (g _ (.inr (.inr (.inr (.inr ⟨e,he,.inl rfl⟩))))) (g _ (.inr (.inr (.inr (.inr ⟨e,he,.inr rfl⟩))))) tp,A.ph,A.wl,A.kd,A.md,A.ld⟩
theorem HoO.same (A:HoO t H a s l w p h x) (m:Same H H'):HoO t H' a s l w p h x:=A.keep (λb hb=>by
 obtain⟨o,e,_⟩:=A.dom hb
 rw[e]
 exact m _ _ e) λb xs e=>m _ _ e
theorem HoO.set (A:HoO t H a s l w p h x) {now mk:Int} {dx:Addr} {fl:Int}:HoO t (upd H a (.ins t.aB dx (hoF now fl s l w mk p h))) a s l w p h {x with now:=now,fl:=fl,ma:=mk}:=by
 obtain⟨dy,ho⟩:=A.ob
 have n:∀{b:Addr} {o:HO},H b=some o→(∀c d fs,o= .ins c d fs→fs.length=1)→b≠a:=λe i z=>by
  rw[z,ho]at e
  have:=i _ _ _ (Option.some.inj e).symm
  cases this
 have nt:∀{b:Addr} {o:HO},H b=some o→(∀c d fs,o≠ .ins c d fs)→b≠a:=λe i=>n e λc d fs z=>absurd z (i c d fs)
 refine⟨⟨dx,ag⟩,by rw[ac (nt A.wr λ_ _ _ z=>by cases z)];exact A.wr,λe he=>by rw[ac (nt (A.dr e he) λ_ _ _ z=>by cases z)];exact A.dr e he,by rw[ac (nt A.pa λ_ _ _ z=>by cases z)];exact A.pa,
  by rw[ac (nt A.ho λ_ _ _ z=>by cases z)];exact A.ho,λe he=>?_,A.ph,A.wl,A.kd,A.md,A.ld⟩
 have M:=A.mx e he
 obtain⟨dm,hm⟩:=M.ob
 exact M.keep (ac (n hm λ_ _ _ z=>by cases z;rfl)) (ac (nt M.li λ_ _ _ z=>by cases z)) λb xs e=>by rw[ac (nt e λ_ _ _ z=>by cases z)];exact e
theorem HoO.row (A:HoO t H a s l w p h x) {r:Addr} {xs:List V} (hr:H r=some (.tup xs)):HoO t (upd H w (.lst (x.di.map (λe=>V.ref e.1)++ [.ref r]))) a s l w p h {x with di:=x.di++ [(r,xs)]}:=by
 obtain⟨dy,ho⟩:=A.ob
 have nt:∀{b:Addr} {o:HO},H b=some o→(∀ys,o≠ .lst ys)→b≠w:=λe i z=>by
  rw[z,A.wr]at e
  exact i _ (Option.some.inj e).symm
 refine⟨⟨dy,by rw[ac (nt ho λ_ z=>by cases z)];exact ho⟩,by rw[ag,Qr];rfl,λe he=>?_,by rw[ac (nt A.pa λ_ z=>by cases z)];exact A.pa,by rw[ac (nt A.ho λ_ z=>by cases z)];exact A.ho,λe he=>?_,A.ph,A.wl,A.kd,A.md,A.ld⟩
 ·rcases Q4.mp he with he|he
  ·rw[ac (nt (A.dr e he) λ_ z=>by cases z)]
   exact A.dr e he
  ·rw[Q8.mp he,ac (nt hr λ_ z=>by cases z)]
   exact hr
 ·have M:=A.mx e he
  obtain⟨dm,hm⟩:=M.ob
  exact M.keep (ac (nt hm λ_ z=>by cases z)) (ac (A.wl e he)) λb xs e=>by rw[ac (nt e λ_ z=>by cases z)];exact e
def paN (pa:List Pk) (k:Int) (y:Mk1):List Pk:=pa.map λe=>if e.k=k then{e with es:=e.es++ [y]}else e
theorem qM {β:Type} {f:Pk→β} (hf:∀e es,f {e with es:=es}=f e):(paN pa k y).map f=pa.map f:=by
 unfold paN
 rw[Z3]
 refine Zm λe _=>?_
 show f (if e.k=k then _ else e)=_
 split
 ·exact hf _ _
 ·rfl
theorem rR {e:Pk} (h:e∈paN pa k y):∃g∈pa,e.k=g.k∧e.m=g.m∧e.l=g.l∧((g.k=k∧e.es=g.es++ [y])∨(g.k≠k∧e.es=g.es)):=by
 obtain⟨g,hg,rfl⟩:=Ql.mp h
 refine⟨g,hg,?_⟩
 split
 ·rename_i c;exact⟨rfl,rfl,rfl,.inl ⟨c,rfl⟩⟩
 ·rename_i c;exact⟨rfl,rfl,rfl,.inr ⟨c,rfl⟩⟩
theorem BR (hb:Ow a w p h (paN pa k y) b):Ow a w p h pa b:=by
 rcases hb with z|z|z|z|⟨e,he,z⟩
 ·exact .inl z
 ·exact .inr (.inl z)
 ·exact .inr (.inr (.inl z))
 ·exact .inr (.inr (.inr (.inl z)))
 ·obtain⟨g,hg,_,e2,e3,_⟩:=rR he
  rw[e2,e3]at z
  exact .inr (.inr (.inr (.inr ⟨g,hg,z⟩)))
theorem HoO.noted (A:HoO t H a s l w p h x) {e:Pk} (he:e∈x.pa) (ek:e.k=k) (M:MkA t H' e.m e.l (e.es++ [y])) (kp:∀b o,b≠e.l→H b=some o→H' b=some o):HoO t H' a s l w p h {x with pa:=paN x.pa k y}:=by
 obtain⟨dy,ho⟩:=A.ob
 have hl:=(A.mx e he).li
 have nt:∀{b:Addr} {o:HO},H b=some o→(∀ys,o≠ .lst ys)→H' b=some o:=λe i=>kp _ _ (λz=>by
  rw[z,hl]at e
  exact i _ (Option.some.inj e).symm) e
 refine⟨⟨dy,nt ho (λ_ z=>by cases z)⟩,kp _ _ (A.wl e he).symm A.wr,λe he=>nt (A.dr e he) (λ_ z=>by cases z),?_,nt A.ho (λ_ z=>by cases z),λf hf=>?_,A.ph,λf hf=>?_,?_,?_,?_⟩
 ·show H' p=some (.dK (aS (paD (paN x.pa k y))))
  unfold paD
  rw[qM λ_ _=>rfl]
  exact nt A.pa λ_ z=>by cases z
 ·obtain⟨g,hg,e1,e2,e3,⟨c,e4⟩|⟨c,e4⟩⟩:=rR hf
  ·have:g=e:=yo A.kd hg he (c.trans ek.symm)
   subst this
   rw[e2,e3,e4]
   exact M
  ·have M2:=A.mx g hg
   obtain⟨dm,hm⟩:=M2.ob
   rw[e2,e3,e4]
   exact M2.keep ((nt hm λ_ z=>by cases z).trans hm.symm) ((kp _ _ (λz=>c (by rw[yo A.ld hg he z];exact ek)) M2.li).trans M2.li.symm) λb xs e=>nt e λ_ z=>by cases z
 ·obtain⟨g,hg,_,_,e3,_⟩:=rR hf
  rw[e3]
  exact A.wl g hg
 ·show((paN x.pa k y).map (·.k)).Nodup
  rw[qM λ_ _=>rfl]
  exact A.kd
 ·show((paN x.pa k y).map (·.m)).Nodup
  rw[qM λ_ _=>rfl]
  exact A.md
 ·show((paN x.pa k y).map (·.l)).Nodup
  rw[qM λ_ _=>rfl]
  exact A.ld
theorem vz (pa:List Pk) (k:Int):(aO (paD pa) k=none∧k∉pa.map (·.k))∨∃e∈pa,e.k=k∧aO (paD pa) k=some (.ref e.m)∧c4 pa k=e.es:=by
 induction pa with
 |nil=>exact .inl ⟨lq,λz=>by cases z⟩
 |cons e r ih=>
  show(aO ((e.k,V.ref e.m)::paD r) k=none∧_)∨∃g∈e::r,g.k=k∧aO ((e.k,V.ref e.m)::paD r) k=_∧(if e.k=k then e.es else c4 r k)=_
  by_cases c:e.k=k
  ·exact .inr ⟨e,Qi,c,bf c,if_pos c⟩
  ·rw[bd c,if_neg c]
   rcases ih with⟨i1,i2⟩|⟨g,hg,i1,i2,i3⟩
   ·refine .inl ⟨i1,λz=>?_⟩
    rw[Qs]at z
    rcases Qh.mp z with z|z
    ·exact c z.symm
    ·exact i2 z
   ·exact .inr ⟨g,Qf _ hg,i1,i2,i3⟩
theorem qQ:∀{pa:List Pk},k∉pa.map (·.k)→c4 pa k=[]
 | [],_=>rfl
 |e::r,n=>by
  rw[Qs]at n
  show(if e.k=k then e.es else c4 r k)=[]
  rw[if_neg λz=>n (by rw[z];exact Qi)]
  exact qQ λz=>n (Qf _ z)
theorem lX {j:Int}:∀{pa:List Pk},k∈pa.map (·.k)→c4 (paN pa k y) j=if j=k then c4 pa k++ [y]else c4 pa j
 |e::r,n=>by
  show(if(if e.k=k then{e with es:=e.es++ [y]}else e:Pk).k=j then(if e.k=k then{e with es:=e.es++ [y]}else e:Pk).es else c4 (paN r k y) j)=if j=k then(if e.k=k then e.es else c4 r k)++ [y]else(if e.k=j then e.es else c4 r j)
  by_cases c:e.k=k
  ·rw[if_pos c,if_pos c]
   show(if e.k=j then e.es++ [y]else c4 (paN r k y) j)=_
   by_cases d:j=k
   ·rw[if_pos d,if_pos (c.trans d.symm)]
   ·rw[if_neg d,if_neg λz=>d (z.symm.trans c),if_neg λz=>d (z.symm.trans c)]
    by_cases m:k∈r.map (·.k)
    ·rw[lX m,if_neg d]
    ·have:paN r k y=r:=by
      unfold paN
      conv=>rhs;rw[←List.map_id r]
      refine Zm λg hg=>if_neg λz=>m ?_
      rw[←z]
      exact Ql.mpr ⟨g,hg,rfl⟩
     rw[this]
  ·rw[if_neg c,if_neg c]
   have m:k∈r.map (·.k):=by
    rw[Qs]at n
    rcases Qh.mp n with z|z
    ·exact absurd z.symm c
    ·exact z
   rw[lX m]
   by_cases d:j=k
   ·rw[if_pos d,if_pos d,if_neg λz=>c (z.trans d)]
   ·rw[if_neg d,if_neg d]
theorem pH {e:Pk} {j:Int}:∀{pa:List Pk},e.k∉pa.map (·.k)→c4 (pa++ [e]) j=if j=e.k then e.es else c4 pa j
 | [],_=>by
  show(if e.k=j then e.es else[])=if j=e.k then e.es else[]
  by_cases c:e.k=j
  ·rw[if_pos c,if_pos c.symm]
  ·rw[if_neg c,if_neg (Ne.symm c)]
 |g::r,n=>by
  rw[Qs]at n
  show(if g.k=j then g.es else c4 (r++ [e]) j)=if j=e.k then e.es else(if g.k=j then g.es else c4 r j)
  rw[pH λz=>n (Qf _ z)]
  by_cases c:g.k=j
  ·rw[if_pos c,if_pos c,if_neg λz=>n (by rw[←z,←c];exact Qi)]
  ·rw[if_neg c,if_neg c]
theorem HoO.newk (A:HoO t H a s l w p h x) {m g:Addr} (nk:k∉x.pa.map (·.k)) (M:MkA t H m g []) (n1:¬Ow a w p h x.pa m) (n2:¬Ow a w p h x.pa g):HoO t (upd H p (.dK (aS (paD x.pa++ [(k,.ref m)])))) a s l w p h {x with pa:=x.pa++ [⟨k,m,g,[]⟩]}:=by
 obtain⟨dy,ho⟩:=A.ob
 have nt:∀{b:Addr} {o:HO},H b=some o→(∀ys,o≠ .dK ys)→b≠p:=λe i z=>by
  rw[z,A.pa]at e
  exact i _ (Option.some.inj e).symm
 have kp:∀{m' l':Addr} {es:List Mk1} {o:HO},MkA t H m' l' es→MkA t (upd H p o) m' l' es:=λM=>by
  obtain⟨dm,hm⟩:=M.ob
  exact M.keep (ac (nt hm λ_ z=>by cases z)) (ac (nt M.li λ_ z=>by cases z)) λb xs e=>by rw[ac (nt e λ_ z=>by cases z)];exact e
 refine⟨⟨dy,by rw[ac (nt ho λ_ z=>by cases z)];exact ho⟩,by rw[ac (nt A.wr λ_ z=>by cases z)];exact A.wr,λe he=>by rw[ac (nt (A.dr e he) λ_ z=>by cases z)];exact A.dr e he,?_,by rw[ac A.ph.symm];exact A.ho,λe he=>?_,A.ph,λe he=>?_,?_,?_,?_⟩
 ·rw[ag]
  show _=some (HO.dK (aS (paD (x.pa++ [⟨k,m,g,[]⟩]))))
  unfold paD
  rw[Qr]
  rfl
 ·rcases Q4.mp he with he|he
  ·exact kp (A.mx e he)
  ·rw[Q8.mp he]
   exact kp M
 ·rcases Q4.mp he with he|he
  ·exact A.wl e he
  ·rw[Q8.mp he]
   exact λz=>n2 (.inr (.inl z))
 all_goals
  rw[Qr]
  refine List.nodup_append.mpr ⟨?_,by simp,λu hu v hv z=>?_⟩
 ·exact A.kd
 ·cases Q8.mp hv
  rw[z]at hu
  exact nk hu
 ·exact A.md
 ·cases Q8.mp hv
  obtain⟨e,he,ee⟩:=Ql.mp hu
  exact n1 (.inr (.inr (.inr (.inr ⟨e,he,.inl (z.symm.trans ee.symm)⟩))))
 ·exact A.ld
 ·cases Q8.mp hv
  obtain⟨e,he,ee⟩:=Ql.mp hu
  exact n2 (.inr (.inr (.inr (.inr ⟨e,he,.inr (z.symm.trans ee.symm)⟩))))
end
structure Noted (pa pa':List Pk) (k:Int) (y:Mk1):Prop where
 of:∀j,c4 pa' j=if j=k then c4 pa k++ [y]else c4 pa j
 ky:pa'.map (·.k)=if k∈pa.map (·.k)then pa.map (·.k)else pa.map (·.k)++ [k]
structure HoB (K:PySem.W.Frag) (t:Adr) (H:Hp) (a s l w p h:Addr) (Fs Fl:Addr→Prop) (x:HSt):Prop where
 o:HoO t H a s l w p h x
 sl:SlA K t H s Fs x.st
 lv:LvA K t H l Fl x.ks
 a1:∀b,Fs b→¬Fl b
 a2:∀b,Ow a w p h x.pa b→¬Fs b
 a3:∀b,Ow a w p h x.pa b→¬Fl b
def HoF (a w p h:Addr) (Fs Fl:Addr→Prop) (pa:List Pk):Addr→Prop:=λb=>Fs b∨Fl b∨Ow a w p h pa b
section
variable {K:PySem.W.Frag} {t:Adr} {H H':Hp} {a s l w p h b:Addr} {Fs Fs' Fl Fl':Addr→Prop} {x x':HSt}
theorem HoB.slots (B:HoB K t H a s l w p h Fs Fl x) {st:SSt} (S:SlA K t H' s Fs' st) (f:Fr Fs Fs' H H'):HoB K t H' a s l w p h Fs' Fl {x with st:=st}∧Fr (HoF a w p h Fs Fl x.pa) (HoF a w p h Fs' Fl x.pa) H H':=by
 have k1:∀b,Fl b→H' b=H b∧¬Fs' b:=λb hb=>by
  obtain⟨o,e⟩:=B.lv.dom hb
  have:=f b o (λz=>B.a1 b z hb) e
  exact⟨this.1.trans e.symm,this.2⟩
 have k2:∀b,Ow a w p h x.pa b→H' b=H b∧¬Fs' b:=λb hb=>by
  obtain⟨o,e,_⟩:=B.o.dom hb
  have:=f b o (B.a2 b hb) e
  exact⟨this.1.trans e.symm,this.2⟩
 have O:=B.o.keep (H':=H') (λb hb=>(k2 b hb).1) λb xs e=>(f b _ (B.sl.notup e) e).1
 exact⟨⟨⟨O.ob,O.wr,O.dr,O.pa,O.ho,O.mx,O.ph,O.wl,O.kd,O.md,O.ld⟩,S,B.lv.frame λb hb=>(k1 b hb).1,λb h1 h2=>(k1 b h2).2 h1,λb hb=>(k2 b hb).2,B.a3⟩,λb o n e=>⟨(f b o (λz=>n (.inl z)) e).1,λz=>z.elim (f b o (λz=>n (.inl z)) e).2 λz=>n (.inr z)⟩⟩
theorem HoB.leaves (B:HoB K t H a s l w p h Fs Fl x) {ks:List Int} (S:LvA K t H' l Fl' ks) (f:Fr Fl Fl' H H'):HoB K t H' a s l w p h Fs Fl' {x with ks:=ks}∧Fr (HoF a w p h Fs Fl x.pa) (HoF a w p h Fs Fl' x.pa) H H':=by
 have k1:∀b,Fs b→H' b=H b∧¬Fl' b:=λb hb=>by
  obtain⟨o,e⟩:=B.sl.dom hb
  have:=f b o (B.a1 b hb) e
  exact⟨this.1.trans e.symm,this.2⟩
 have k2:∀b,Ow a w p h x.pa b→H' b=H b∧¬Fl' b:=λb hb=>by
  obtain⟨o,e,_⟩:=B.o.dom hb
  have:=f b o (B.a3 b hb) e
  exact⟨this.1.trans e.symm,this.2⟩
 have O:=B.o.keep (H':=H') (λb hb=>(k2 b hb).1) λb xs e=>(f b _ (B.lv.notup e) e).1
 exact⟨⟨⟨O.ob,O.wr,O.dr,O.pa,O.ho,O.mx,O.ph,O.wl,O.kd,O.md,O.ld⟩,B.sl.frame λb hb=>(k1 b hb).1,S,λb h1=>(k1 b h1).2,B.a2,λb hb=>(k2 b hb).2⟩,λb o n e=>⟨(f b o (λz=>n (.inr (.inl z))) e).1,λz=>z.elim (λz=>n (.inl z)) λz=>z.elim (f b o (λz=>n (.inr (.inl z))) e).2 λz=>n (.inr (.inr z))⟩⟩
theorem HoB.own (B:HoB K t H a s l w p h Fs Fl x) (O:HoO t H' a s l w p h x') (e1:x'.st=x.st) (e2:x'.ks=x.ks) (f:Fr (Ow a w p h x.pa) (Ow a w p h x'.pa) H H'):HoB K t H' a s l w p h Fs Fl x'∧Fr (HoF a w p h Fs Fl x.pa) (HoF a w p h Fs Fl x'.pa) H H':=by
 have k1:∀b,Fs b→H' b=H b∧¬Ow a w p h x'.pa b:=λb hb=>by
  obtain⟨o,e⟩:=B.sl.dom hb
  have:=f b o (λz=>B.a2 b z hb) e
  exact⟨this.1.trans e.symm,this.2⟩
 have k2:∀b,Fl b→H' b=H b∧¬Ow a w p h x'.pa b:=λb hb=>by
  obtain⟨o,e⟩:=B.lv.dom hb
  have:=f b o (λz=>B.a3 b z hb) e
  exact⟨this.1.trans e.symm,this.2⟩
 exact⟨⟨O,by rw[e1];exact B.sl.frame λb hb=>(k1 b hb).1,by rw[e2];exact B.lv.frame λb hb=>(k2 b hb).1,B.a1,λb h1 h2=>(k1 b h2).2 h1,λb h1 h2=>(k2 b h2).2 h1⟩,λb o n e=>⟨(f b o (λz=>n (.inr (.inr z))) e).1,λz=>z.elim (λz=>n (.inl z)) λz=>z.elim (λz=>n (.inr (.inl z))) (f b o (λz=>n (.inr (.inr z))) e).2⟩⟩
theorem HoB.dom (B:HoB K t H a s l w p h Fs Fl x) (hb:HoF a w p h Fs Fl x.pa b):∃o,H b=some o∧∀ys,o≠ .tup ys:=by
 have no:∀F:Addr→Prop,F b→(∀xs,H b=some (.tup xs)→¬F b)→∀o,H b=some o→∃o,H b=some o∧∀ys,o≠ .tup ys:=λF hF n o e=>⟨o,e,λys z=>n ys (by rw[e,z]) hF⟩
 rcases hb with hb|hb|hb
 ·obtain⟨o,e⟩:=B.sl.dom hb
  exact no Fs hb (λxs e=>B.sl.notup e) o e
 ·obtain⟨o,e⟩:=B.lv.dom hb
  exact no Fl hb (λxs e=>B.lv.notup e) o e
 ·exact B.o.dom hb
theorem HoB.keep (B:HoB K t H a s l w p h Fs Fl x) (g:∀b,HoF a w p h Fs Fl x.pa b→H' b=H b) (tp:∀b xs,H b=some (.tup xs)→H' b=some (.tup xs)):HoB K t H' a s l w p h Fs Fl x:=
 ⟨B.o.keep (λb hb=>g b (.inr (.inr hb))) tp,B.sl.frame λb hb=>g b (.inl hb),B.lv.frame λb hb=>g b (.inr (.inl hb)),B.a1,B.a2,B.a3⟩
end
structure HOk (x:HSt):Prop where
 ks:∀z,z∈x.ks↔(aO x.st.kv z).isSome=true
 n0:0≤x.now
 m0:0≤x.ma
 dl:(x.di.length:Int)=x.now+x.ma
 pl:(x.pa.length:Int)≤x.now
 el:∀j,((c4 x.pa j).length:Int)≤x.now
 sl:(x.st.kv.length:Int)≤x.now
 hn:(x.ho.map (·.1)).Nodup
 hv:∀p∈x.ho,x.fl≤p.1∧p.1≤x.now∧∃n:Int,p.2= .int n∧0<n
 fb:0≤x.fl∧x.fl≤x.now
 up:∀j,(c4 x.pa j).Pairwise (λa b=>a.mo<b.mo)∧∀y∈c4 x.pa j,y.mo≤x.now
def HoA (K:PySem.W.Frag) (t:Adr) (H:Hp) (a:Addr) (F:Addr→Prop) (x:HSt):Prop:=∃s l w p h Fs Fl,HoB K t H a s l w p h Fs Fl x∧HOk x∧∀b,F b↔HoF a w p h Fs Fl x.pa b
section
variable {K:PySem.W.Frag} {t:Adr} {H H':Hp} {a b q:Addr} {F F':Addr→Prop} {x:HSt} {o:HO} {k:Int}
theorem HoA.ins (A:HoA K t H a F x):∃dx fs,H a=some (.ins t.aB dx fs)∧(∀m,NoH m→fs.lookup m=none)∧fs.lookup ("now":Str)=some (.int x.now)∧fs.lookup ("floor":Str)=some (.int x.fl):=by
 obtain⟨s,l,w,p,h,Fs,Fl,B,_⟩:=A
 obtain⟨dx,e⟩:=B.o.ob
 exact⟨dx,_,e,λm hm=>yK hm,ox,Cl⟩
theorem HoA.dom (A:HoA K t H a F x) (hb:F b):∃o,H b=some o∧∀ys,o≠ .tup ys:=by
 obtain⟨s,l,w,p,h,Fs,Fl,B,_,g⟩:=A
 exact B.dom ((g b).mp hb)
theorem HoA.out (A:HoA K t H a F x) (e:H b=none):¬F b:=λz=>by
 obtain⟨o,q,_⟩:=A.dom z
 rw[q]at e
 cases e
theorem HoA.keep (A:HoA K t H a F x) (g:∀b,F b→H' b=H b) (tp:∀b xs,H b=some (.tup xs)→H' b=some (.tup xs)):HoA K t H' a F x:=by
 obtain⟨s,l,w,p,h,Fs,Fl,B,O,f⟩:=A
 exact⟨s,l,w,p,h,Fs,Fl,B.keep (λb hb=>g b ((f b).mpr hb)) tp,O,f⟩
theorem HoA.same (A:HoA K t H a F x) (m:Same H H'):HoA K t H' a F x:=A.keep (λb hb=>by
 obtain⟨o,e,_⟩:=A.dom hb
 rw[e]
 exact m _ _ e) λb xs e=>m _ _ e
theorem HoA.upd (A:HoA K t H a F x) (n:¬F q) (nt:∀xs,H q≠some (.tup xs)):HoA K t (L2.upd H q o) a F x:=A.keep (λb hb=>ac λz=>n (z▸hb)) λb xs e=>by rw[ac λz=>nt xs (by rw[←z];exact e)];exact e
end
def oQ (t:Adr):Sp:=λvs H Q _=>∃(a s l w p h r:Addr) (k:Int) (x:HSt) (v:V) (xs:List V),vs=[.ref a,.ref r,v]∧HoO t H a s l w p h x∧H r=some (.tup xs)∧atI xs 1=some (.int k)∧x.di.length<50000∧x.pa.length<50000∧(c4 x.pa k).length<50000∧
 ∀(H':Hp) (pa':List Pk) (q:Addr),HoO t H' a s l w p h {x with now:=x.now+1,di:=x.di++ [(r,xs)],pa:=pa'}→Noted x.pa pa' k ⟨q,x.now+1,v⟩→Fr (Ow a w p h x.pa) (Ow a w p h pa') H H'→Q (.int (x.now+1)) H'
theorem jf (T:Txt K mg t):FnOk P w K mg base CX0 3 t.kt t.gJ ["self","row","value"] (oQ t):=by
 have Gs:= @pz P w K mg base t T
 have Gu:= @pq P w K mg base t T
 refine T.zQ.ok sc_House__done (λvs H Q E h=>?_) (λcdv A outer s H vs Q E hr h=>?_)
 ·obtain⟨a,s,l,w,p,h,r,k,x,v,xs,rfl,_⟩:=h
  rfl
 ·obtain⟨a,s,l,wr,p,h,r,k,x,v,xs,rfl,A,ht,hk,l1,l2,l3,q⟩:=h
  refine⟨_,(af (aD (i:=3) sc_House__done.nd rfl (Or.inl rfl) (aW d6 (pv 1) ae (λ_ _=>rfl)))
   (af (eM (pv 0) ae pP)
   (af (aP (fk Qt QP QQ dC (aq (pv 0) rfl) (aa (pv 1) ah)))
   (af (aP (a9 (fk Z9 Xi PySem.F.type_dict_setdefault wM (aq (pv 0) rfl) (aa (pv 3) (aa (lP T.Dj Gs (hr.mono (by decide)) (by rfl) T.Dm T.zC .nil az) ah))) T.tZ T.zv Gu (hr.mono (by decide)) T.zB .nil az (aa (aq (pv 0) rfl) (aa (pv 2) ah))))
   (ai (aG (aq (pv 0) rfl)))))))
   ,?_⟩
  obtain⟨dx,ho⟩:=A.ob
  refine⟨_,rfl,r,_,_,_,rfl,rfl,SqT.of ht,hk,?_⟩
  refine⟨_,rfl,a,_,dx,_,_,rfl,ho,T.aL,T.ir,ox,_,_,rfl,rfl,dx,_,ho,vN,?_⟩
  rw[Ag]
  have A1:=A.set (now:=x.now+1) (mk:=x.ma) (fl:=x.fl) (dx:=dx)
  have o1:∀b o,b≠a→H b=some o→upd H a (.ins t.aB dx (hoF (x.now+1) x.fl s l wr x.ma p h)) b=some o:=λb o n e=>by rw[ac n];exact e
  have ra:r≠a:=λz=>by rw[z,ho]at ht;cases ht
  have ht1:=o1 _ _ ra ht
  generalize upd H a (.ins t.aB dx (hoF (x.now+1) x.fl s l wr x.ma p h))=H1 at A1 o1 ht1⊢
  obtain⟨dx1,ho1⟩:=A1.ob
  refine⟨_,rfl,a,_,dx1,_,_,rfl,ho1,T.aL,T.dA,uS,.inl ⟨rfl,_,SqL.of A1.wr⟩,_,rfl,wr,_,_,rfl,rfl,A1.wr,dM (by rw[Q1];show x.di.length≤_;omega),?_⟩
  have A2:=A1.row ht1
  have o2:∀b o,¬Ow a wr p h x.pa b→H b=some o→upd H1 wr (.lst (x.di.map (λe=>V.ref e.1)++ [.ref r])) b=some o:=λb o n e=>by rw[ac λz=>n (.inr (.inl z))];exact o1 _ _ (λz=>n (.inl z)) e
  generalize upd H1 wr (.lst (x.di.map (λe=>V.ref e.1)++ [.ref r]))=H2 at A2 o2⊢
  obtain⟨dx2,ho2⟩:=A2.ob
  refine⟨_,rfl,a,_,dx2,_,_,rfl,ho2,T.aL,T.qq,Ck,.inr (.inr (.inl ⟨rfl,.inl ⟨_,A2.pa⟩⟩)),_,rfl,λm dm nm nd nmd=>⟨m,dm,rfl,ag,λH4 g M4 ng o4=>⟨rfl,?_⟩⟩⟩
  have s3:Same H2 (upd (upd H2 dm (.own m)) m (.ins t.iH dm [])):=dN (ak nd) nm
  have s4:Same H2 H4:=λb o e=>o4 b o (λz=>by rw[z,nm]at e;cases e) (s3 b o e)
  have ng2:=sm s3 ng
  have A4:=A2.same s4
  have om:¬Ow a wr p h x.pa m:=λz=>by obtain⟨o,e,_⟩:=A2.dom z;rw[nm]at e;cases e
  have og:¬Ow a wr p h x.pa g:=λz=>by obtain⟨o,e,_⟩:=A2.dom z;rw[ng2]at e;cases e
  have o5:∀b o,¬Ow a wr p h x.pa b→H b=some o→H4 b=some o∧b≠m∧b≠g:=λb o n e=>⟨s4 _ _ (o2 b o n e),λz=>(by have:=o2 b o n e;rw[z,nm]at this;cases this),λz=>(by have:=o2 b o n e;rw[z,ng2]at this;cases this)⟩
  clear s3 s4 o4 o2 o1 A1 A2 ho2 ho1 ho A ng nm nd nmd ng2 ht1 ht
  refine⟨p,_,Sum.inl k,.ref m,rfl,rfl,A4.pa,(by rw[eP];exact dM (by show(paD x.pa).length≤_;unfold paD;rw[Q1];omega)),λu hu=>?A,λhn=>?B⟩
  case' A=>
   have hu:aO (aS (paD x.pa)) (Sum.inl k:Key)=some u:=hu
   rw[liftK_val]at hu
   obtain⟨e,he,ek,ev,em⟩:∃e∈x.pa,e.k=k∧aO (paD x.pa) k=some (.ref e.m)∧c4 x.pa k=e.es:=by
    rcases vz x.pa k with⟨z,_⟩|z
    ·rw[z]at hu;cases hu
    ·exact z
   rw[ev]at hu
   cases hu
   obtain⟨pa5,A5,he,N,f5⟩:∃pa5,HoO t H4 a s l wr p h {x with now:=x.now+1,di:=x.di++ [(r,xs)],pa:=pa5}∧e∈pa5∧(∀y,Noted x.pa (paN pa5 k y) k y)∧Fr (Ow a wr p h x.pa) (Ow a wr p h pa5) H H4:=
    ⟨x.pa,A4,he,λy=>⟨λj=>lX (Ql.mpr ⟨e,he,ek⟩),by rw[qM λ_ _=>rfl,if_pos (Ql.mpr ⟨e,he,ek⟩)]⟩,λb o n e=>⟨(o5 b o n e).1,n⟩⟩
   have le:e.es.length<50000:=by rw[←em];exact l3
   clear A4 em ev o5
  case' B=>
   have hn:aO (aS (paD x.pa)) (Sum.inl k:Key)=none:=hn
   rw[liftK_val]at hn
   have nk:k∉x.pa.map (·.k):=by
    rcases vz x.pa k with⟨_,z⟩|⟨e,_,_,z,_⟩
    ·exact z
    ·rw[z]at hn;cases hn
   have ep:bi (aS (paD x.pa)) (Sum.inl k:Key) (.ref m)=aS (paD x.pa++ [(k,.ref m)]):=by
    rw[gT]
    unfold bi
    rw[bW,hn]
    rfl
   rw[ep]
   obtain⟨e,ee,ek,le⟩:∃e:Pk,e=⟨k,m,g,[]⟩∧e.k=k∧e.es.length<50000:=⟨_,rfl,rfl,by show 0<50000;decide⟩
   obtain⟨pa5,A5,he,N,f5⟩:∃pa5,HoO t (upd H4 p (.dK (aS (paD x.pa++ [(k,.ref m)])))) a s l wr p h {x with now:=x.now+1,di:=x.di++ [(r,xs)],pa:=pa5}∧e∈pa5∧(∀y,Noted x.pa (paN pa5 k y) k y)∧Fr (Ow a wr p h x.pa) (Ow a wr p h pa5) H (upd H4 p (.dK (aS (paD x.pa++ [(k,.ref m)])))):=by
    refine⟨x.pa++ [e],ee▸A4.newk nk M4 om og,Qo _ Qi,λy=>⟨λj=>?_,?_⟩,λb o n eb=>⟨?_,λz=>?_⟩⟩
    ·have nk':e.k∉x.pa.map (·.k):=by rw[ek];exact nk
     rw[lX (by rw[Qr];exact Qo _ (Q8.mpr ek.symm)),pH nk',pH nk',if_pos ek.symm,qQ nk,ee]
     by_cases c:j=k
     ·rw[if_pos c,if_pos c]
     ·rw[if_neg c,if_neg c,if_neg c]
    ·rw[qM λ_ _=>rfl,if_neg nk,Qr,←ek]
     rfl
    ·rw[ac λz=>n (.inr (.inr (.inl z)))]
     exact(o5 b o n eb).1
    ·rcases z with z|z|z|z|⟨e',he',z⟩
     ·exact n (.inl z)
     ·exact n (.inr (.inl z))
     ·exact n (.inr (.inr (.inl z)))
     ·exact n (.inr (.inr (.inr (.inl z))))
     ·rcases Q4.mp he' with y|y
      ·exact n (.inr (.inr (.inr (.inr ⟨e',y,z⟩))))
      ·rw[Q8.mp y,ee]at z
       exact z.elim (o5 b o n eb).2.1 (o5 b o n eb).2.2
   have em:V.ref m=V.ref e.m:=by rw[ee]
   clear A4 M4 o5 om og hn nk ep
   generalize upd H4 p (.dK (aS (paD x.pa++ [(k,.ref m)])))=H5 at A5 f5⊢
   rw[em]
  all_goals
   have M5:=A5.mx e he
   obtain⟨dy,hm⟩:=M5.ob
   obtain⟨dx5,ho5⟩:=A5.ob
   refine⟨e.m,dy,_,rfl,hm,bh (by decide+kernel),_,rfl,a,_,dx5,_,_,rfl,ho5,T.aL,T.ir,ox,_,rfl,e.m,e.l,e.es,_,v,rfl,M5,by omega,λH6 y M6 ny o6=>?_⟩
   have A6:=A5.noted he ek M6 o6
   obtain⟨dx6,ho6⟩:=A6.ob
   refine⟨_,rfl,a,_,dx6,_,_,rfl,ho6,T.aL,T.ir,ox,q _ _ y A6 (N _) (f5.trans λb o n eb=>⟨o6 b o (λz=>n (.inr (.inr (.inr (.inr ⟨e,he,.inr z⟩))))) eb,λz=>n (BR z)⟩)⟩
def HSt.new:HSt:=⟨0,0,0,SSt.new,[],[],[],[]⟩
theorem HSt.new_ok:HOk HSt.new:=⟨λz=>⟨(λy=>by cases y),(λy=>by cases y)⟩,by decide,by decide,rfl,by decide,λ_=>by show((0:Nat):Int)≤0;decide,by decide,Z7,(λ_ z=>by cases z),by decide,λ_=>⟨List.Pairwise.nil,(λy z=>by cases z)⟩⟩
def oO (K:PySem.W.Frag) (t:Adr):Sp:=λvs H Q _=>∃(a dx:Addr),vs=[.ref a]∧H a=some (.ins t.aB dx [])∧∀H' F,HoA K t H' a F HSt.new→Fr (λb=>b=a) F H H'→Q .non H'
theorem pB (T:Txt K mg t):FnOk P w K mg base CX0 4 t.kq t.gH ["self"] (oO K t):=by
 have Go:= @nW P w K mg base t T
 have Gz:= @pj P w K mg base t T
 refine T.zO.ok o3 (λvs H Q E h=>?_) (λcdv A outer s H vs Q E hr h=>?_)
 ·obtain⟨a,dx,rfl,_⟩:=h
  rfl
 ·obtain⟨a,dx,rfl,ha,q⟩:=h
  refine⟨_,(af (bq (pv 0) ae rfl)
   (af (bq (pv 0) ae rfl)
   (af (bq (pv 0) (lP T.Di Gz (hr.mono (by decide)) (by rfl) T.Dl T.zy .nil az) rfl)
   (af (bq (pv 0) (lP T.CK Go (hr.mono (by decide)) (by rfl) T.CM T.ze .nil az) rfl)
   (af (bq (pv 0) (bZ ah) rfl)
   (af (bq (pv 0) ae rfl)
   (af (bq (pv 0) dO rfl)
   (ai (bq (pv 0) dO rfl)))))))))
   ,?_⟩
  refine⟨_,rfl,a,_,dx,[],rfl,ha,T.aL,T.ir,(by show 0<1000;decide),?_⟩
  refine⟨_,rfl,a,_,dx,_,rfl,ag,T.aL,T.yp,(by show 1<1000;decide),?_⟩
  (try dsimp only)
  have e2:upd (upd H a (.ins t.aB dx (aY ("now":Str) (.int 0) []))) a (.ins t.aB dx (aY ("floor":Str) (.int 0) (aY ("now":Str) (.int 0) []))) a=some (.ins t.aB dx [("now",.int 0),("floor",.int 0)]):=by
   rw[ag,bu,aC (by decide+kernel),bu]
  have k2:∀b o,b≠a→H b=some o→upd (upd H a (.ins t.aB dx (aY ("now":Str) (.int 0) []))) a (.ins t.aB dx (aY ("floor":Str) (.int 0) (aY ("now":Str) (.int 0) []))) b=some o:=λb o n e=>by rw[ac n,ac n];exact e
  generalize upd (upd H a (.ins t.aB dx (aY ("now":Str) (.int 0) []))) a (.ins t.aB dx (aY ("floor":Str) (.int 0) (aY ("now":Str) (.int 0) [])))=H2 at e2 k2⊢
  refine λs ds ns nds nsd=>⟨s,ds,rfl,ag,by rw[ac nsd];exact ag,λH3 Fs S3 f3=>⟨rfl,?_⟩⟩
  have k3:∀b o,H2 b=some o→H3 b=some o∧¬Fs b:=λb o e=>f3 b o (λz=>z.elim (λz=>by rw[z,ns]at e;cases e) λz=>by rw[z,nds]at e;cases e) (dN (ak nds) ns _ _ e)
  refine⟨_,rfl,a,_,dx,_,rfl,(k3 _ _ e2).1,T.aL,T.fq,(by show 2<1000;decide),?_⟩
  (try dsimp only)
  have e4:upd H3 a (.ins t.aB dx (aY ("slots":Str) (.ref s) [("now",.int 0),("floor",.int 0)])) a=some (.ins t.aB dx [("now",.int 0),("floor",.int 0),("slots",.ref s)]):=by
   rw[ag,aC (by decide+kernel),aC (by decide+kernel),bu]
  have S4:=S3.upd (o:= .ins t.aB dx (aY ("slots":Str) (.ref s) [("now",.int 0),("floor",.int 0)])) (k3 _ _ e2).2
  have k4:∀b o,b≠a→H b=some o→upd H3 a (.ins t.aB dx (aY ("slots":Str) (.ref s) [("now",.int 0),("floor",.int 0)])) b=some o∧¬Fs b:=λb o n e=>⟨by rw[ac n];exact(k3 _ _ (k2 b o n e)).1,(k3 _ _ (k2 b o n e)).2⟩
  have na:=(k3 _ _ e2).2
  clear f3 k3
  generalize upd H3 a (.ins t.aB dx (aY ("slots":Str) (.ref s) [("now",.int 0),("floor",.int 0)]))=H4 at e4 S4 k4⊢
  refine λl dl nl ndl nld=>⟨l,dl,rfl,ag,by rw[ac nld];exact ag,λH5 Fl L5 f5=>⟨rfl,?_⟩⟩
  have k5:∀b o,H4 b=some o→H5 b=some o∧¬Fl b:=λb o e=>f5 b o (λz=>z.elim (λz=>by rw[z,nl]at e;cases e) λz=>by rw[z,ndl]at e;cases e) (dN (ak ndl) nl _ _ e)
  refine⟨_,rfl,a,_,dx,_,rfl,(k5 _ _ e4).1,T.aL,T.iM,(by show 3<1000;decide),?_⟩
  (try dsimp only)
  have e6:upd H5 a (.ins t.aB dx (aY ("leaves":Str) (.ref l) [("now",.int 0),("floor",.int 0),("slots",.ref s)])) a=some (.ins t.aB dx [("now",.int 0),("floor",.int 0),("slots",.ref s),("leaves",.ref l)]):=by
   rw[ag,aC (by decide+kernel),aC (by decide+kernel),aC (by decide+kernel),bu]
  have nb:=(k5 _ _ e4).2
  have L6:=L5.upd (o:= .ins t.aB dx (aY ("leaves":Str) (.ref l) [("now",.int 0),("floor",.int 0),("slots",.ref s)])) nb
  have S6:=(S4.same λb o e=>(k5 b o e).1).upd (o:= .ins t.aB dx (aY ("leaves":Str) (.ref l) [("now",.int 0),("floor",.int 0),("slots",.ref s)])) na
  have ap:∀b,Fs b→¬Fl b:=λb hb=>by
   obtain⟨o,e⟩:=S4.dom hb
   exact(k5 b o e).2
  have k6:∀b o,b≠a→H b=some o→upd H5 a (.ins t.aB dx (aY ("leaves":Str) (.ref l) [("now",.int 0),("floor",.int 0),("slots",.ref s)])) b=some o∧¬Fs b∧¬Fl b:=λb o n e=>⟨by rw[ac n];exact(k5 _ _ (k4 b o n e).1).1,(k4 b o n e).2,(k5 _ _ (k4 b o n e).1).2⟩
  clear f5 k5 k4 S4 L5 k2 e2 e4 S3 ns nds nsd nl ndl nld
  generalize upd H5 a (.ins t.aB dx (aY ("leaves":Str) (.ref l) [("now",.int 0),("floor",.int 0),("slots",.ref s)]))=H6 at e6 S6 L6 k6⊢
  refine⟨Qg _,λwr nw=>⟨_,rfl,a,_,dx,_,rfl,ak nw _ _ e6,T.aL,T.dA,(by show 4<1000;decide),?_⟩⟩
  (try dsimp only)
  have aw:a≠wr:=am e6 nw
  refine⟨_,rfl,a,_,dx,_,rfl,ag,T.aL,T.ft,(by rw[aC (by decide+kernel),aC (by decide+kernel),aC (by decide+kernel),aC (by decide+kernel),bu];show 5<1000;decide),?_⟩
  (try dsimp only)
  rw[aC (f:="written") (by decide+kernel),aC (f:="written") (by decide+kernel),aC (f:="written") (by decide+kernel),aC (f:="written") (by decide+kernel),bu,aC (f:="marks") (by decide+kernel),aC (f:="marks") (by decide+kernel),aC (f:="marks") (by decide+kernel),aC (f:="marks") (by decide+kernel),aC (f:="marks") (by decide+kernel),bu,b7]
  have⟨H9,eH,e9,w9,k9⟩:∃H9,H9=upd (upd H6 wr (.lst [])) a (.ins t.aB dx [("now",.int 0),("floor",.int 0),("slots",.ref s),("leaves",.ref l),("written",.ref wr),("marks",.int 0)])∧H9 a=some (.ins t.aB dx [("now",.int 0),("floor",.int 0),("slots",.ref s),("leaves",.ref l),("written",.ref wr),("marks",.int 0)])∧H9 wr=some (.lst [])∧∀b o,b≠a→H6 b=some o→H9 b=some o:=
   ⟨_,rfl,ag,by rw[ac aw.symm];exact ag,λb o n e=>by rw[ac n];exact ak nw _ _ e⟩
  rw[←eH]
  clear eH
  refine λp np=>⟨_,rfl,a,_,dx,_,rfl,ak np _ _ e9,T.aL,T.qq,(by show 6<1000;decide),?_⟩
  (try dsimp only)
  rw[aC (by decide+kernel),aC (by decide+kernel),aC (by decide+kernel),aC (by decide+kernel),aC (by decide+kernel),aC (by decide+kernel),bu]
  have⟨H11,eH,e11,w11,p11,k11⟩:∃H11,H11=upd (upd H9 p (.dK [])) a (.ins t.aB dx [("now",.int 0),("floor",.int 0),("slots",.ref s),("leaves",.ref l),("written",.ref wr),("marks",.int 0),("past",.ref p)])∧H11 a=some (.ins t.aB dx [("now",.int 0),("floor",.int 0),("slots",.ref s),("leaves",.ref l),("written",.ref wr),("marks",.int 0),("past",.ref p)])∧H11 wr=some (.lst [])∧H11 p=some (.dK [])∧∀b o,b≠a→H6 b=some o→H11 b=some o:=
   ⟨_,rfl,ag,by rw[ac aw.symm];exact ak np _ _ w9,by rw[ac (am e9 np).symm];exact ag,λb o n e=>by rw[ac n];exact ak np _ _ (k9 _ _ n e)⟩
  rw[←eH]
  clear eH
  have pa':p≠a:=(am e9 np).symm
  refine λh nh=>⟨_,rfl,a,_,dx,_,rfl,ak nh _ _ e11,T.aL,T.wK,(by show 7<1000;decide),?_⟩
  (try dsimp only)
  rw[aC (by decide+kernel),aC (by decide+kernel),aC (by decide+kernel),aC (by decide+kernel),aC (by decide+kernel),aC (by decide+kernel),aC (by decide+kernel),bu]
  have ha':h≠a:=(am e11 nh).symm
  have k13:∀b o,b≠a→H11 b=some o→upd (upd H11 h (.dK [])) a (.ins t.aB dx (hoF 0 0 s l wr 0 p h)) b=some o:=λb o n e=>by rw[ac n];exact ak nh _ _ e
  have g13:∀b o,b≠a→H6 b=some o→upd (upd H11 h (.dK [])) a (.ins t.aB dx (hoF 0 0 s l wr 0 p h)) b=some o:=λb o n e=>k13 b o n (k11 b o n e)
  have O:HoO t (upd (upd H11 h (.dK [])) a (.ins t.aB dx (hoF 0 0 s l wr 0 p h))) a s l wr p h HSt.new:=⟨⟨dx,ag⟩,k13 _ _ aw.symm w11,(λe he=>by cases he),k13 _ _ pa' p11,by rw[ac ha'];exact ag,(λe he=>by cases he),am p11 nh,(λe he=>by cases he),Z7,Z7,Z7⟩
  have fresh:∀b,(b=wr∨b=p∨b=h)→H6 b=none:=λb hb=>by
   cases e:H6 b with
   |none=>rfl
   |some o=>
    have na:b≠a:=by
     rcases hb with rfl|rfl|rfl
     ·exact aw.symm
     ·exact pa'
     ·exact ha'
    rcases hb with rfl|rfl|rfl
    ·rw[nw]at e;cases e
    ·rw[k9 _ _ na e]at np;cases np
    ·rw[k11 _ _ na e]at nh;cases nh
  have ow:∀b,Ow a wr p h [] b→b=a∨H6 b=none:=λb hb=>by
   rcases hb with z|z|z|z|⟨e,he,_⟩
   ·exact .inl z
   ·exact .inr (fresh b (.inl z))
   ·exact .inr (fresh b (.inr (.inl z)))
   ·exact .inr (fresh b (.inr (.inr z)))
   ·cases he
  refine q _ (HoF a wr p h Fs Fl []) ⟨s,l,wr,p,h,Fs,Fl,⟨O,S6.frame λb hb=>?_,L6.frame λb hb=>?_,ap,λb hb z=>?_,λb hb z=>?_⟩,HSt.new_ok,λ_=>Iff.rfl⟩ λb o n e=>?_
  ·obtain⟨o,e⟩:=S6.dom hb
   rw[e]
   exact g13 b o (λz=>na (z▸hb)) e
  ·obtain⟨o,e⟩:=L6.dom hb
   rw[e]
   exact g13 b o (λz=>nb (z▸hb)) e
  ·rcases ow b hb with y|y
   ·exact na (y▸z)
   ·exact S6.out y z
  ·rcases ow b hb with y|y
   ·exact nb (y▸z)
   ·exact L6.out y z
  ·obtain⟨c1,c2,c3⟩:=k6 b o n e
   refine⟨g13 b o n c1,λz=>?_⟩
   rcases z with z|z|z
   ·exact c2 z
   ·exact c3 z
   ·rcases ow b z with y|y
    ·exact n y
    ·rw[c1]at y;cases y
def kB (K:PySem.W.Frag) (t:Adr):Sp:=λvs H Q _=>∃(a:Addr) (F:Addr→Prop) (x:HSt),vs=[.ref a]∧HoA K t H a F x∧x.now+x.ma<40000∧
 ∀(H':Hp) (F':Addr→Prop) (r:Addr),HoA K t H' a F' {x with ma:=x.ma+1,di:=x.di++ [(r,[.str "mark",.int (x.ma+1)])]}→Fr F F' H H'→Q (.int (x.ma+1)) H'
theorem fo (T:Txt K mg t):FnOk P w K mg base CX0 1 t.f8 t.c8 ["self"] (kB K t):=by
 refine T.wj.ok kD (λvs H Q E h=>?_) (λcdv A outer s H vs Q E hr h=>?_)
 ·obtain⟨a,F,x,rfl,_⟩:=h
  rfl
 ·obtain⟨a,F,x,rfl,A,l1,q⟩:=h
  refine⟨_,(af (eM (pv 0) ae pP)
   (af (aP (fk Qt QP QQ dC (aq (pv 0) rfl) (aa (cH (aa gp (aa (aq (pv 0) rfl) ah))) ah)))
   (ai (aG (aq (pv 0) rfl)))))
   ,?_⟩
  obtain⟨s,l,wr,p,h,Fs,Fl,B,O,g⟩:=A
  obtain⟨dx,ho⟩:=B.o.ob
  refine⟨_,rfl,a,_,dx,_,_,rfl,ho,T.aL,T.ft,uU,_,_,rfl,rfl,dx,_,ho,vN,?_⟩
  rw[BM]
  have A1:=B.o.set (now:=x.now) (mk:=x.ma+1) (fl:=x.fl) (dx:=dx)
  have f1:Fr (Ow a wr p h x.pa) (Ow a wr p h x.pa) H (upd H a (.ins t.aB dx (hoF x.now x.fl s l wr (x.ma+1) p h))):=λb o n e=>⟨by rw[ac λz=>n (.inl z)];exact e,n⟩
  generalize upd H a (.ins t.aB dx (hoF x.now x.fl s l wr (x.ma+1) p h))=H1 at A1 f1⊢
  obtain⟨dx1,ho1⟩:=A1.ob
  have dl:=O.dl
  refine⟨_,rfl,a,_,dx1,_,_,rfl,ho1,T.aL,T.dA,uS,.inl ⟨rfl,_,SqL.of A1.wr⟩,?_⟩
  refine⟨_,rfl,a,_,dx1,_,_,rfl,ho1,T.aL,T.ft,uU,(by show 2≤sizeLine;decide),λr nr=>?_⟩
  have s2:=ak (o:= .tup [.str "mark",.int (x.ma+1)]) nr
  have A2:=A1.same s2
  have f2:=f1.trans (Fr.of_same s2)
  have ht:upd H1 r (.tup [.str "mark",.int (x.ma+1)]) r=some (.tup [.str "mark",.int (x.ma+1)]):=ag
  generalize upd H1 r (.tup [.str "mark",.int (x.ma+1)])=H2 at A2 f2 ht⊢
  refine⟨wr,_,_,rfl,rfl,A2.wr,dM (by rw[Q1];show x.di.length≤_;omega),?_⟩
  have A3:=A2.row ht
  have f3:Fr (Ow a wr p h x.pa) (Ow a wr p h x.pa) H (upd H2 wr (.lst (x.di.map (λe=>V.ref e.1)++ [.ref r]))):=λb o n e=>⟨by rw[ac λz=>n (.inr (.inl z))];exact(f2 b o n e).1,n⟩
  generalize upd H2 wr (.lst (x.di.map (λe=>V.ref e.1)++ [.ref r]))=H3 at A3 f3⊢
  obtain⟨dx3,ho3⟩:=A3.ob
  obtain⟨B3,f4⟩:=B.own A3 rfl rfl f3
  refine⟨_,rfl,a,_,dx3,_,_,rfl,ho3,T.aL,T.ft,uU,q H3 F r ⟨s,l,wr,p,h,Fs,Fl,B3,⟨O.ks,O.n0,?_,?_,O.pl,O.el,O.sl,O.hn,O.hv,O.fb,O.up⟩,g⟩ ?_⟩
  ·have:=O.m0
   show 0≤x.ma+1
   omega
  ·show((x.di++ [(r,_)]).length:Int)=x.now+(x.ma+1)
   rw[Qa,QY]
   omega
  ·exact λb o n e=>⟨(f4 b o (λz=>n ((g b).mpr z)) e).1,n⟩
theorem HoA.klen {H:Hp} {a:Addr} {F:Addr→Prop} {x:HSt} (A:HoA K t H a F x):(x.ks.length:Int)≤x.now:=by
 obtain⟨s,l,w,p,h,Fs,Fl,B,O,_⟩:=A
 obtain⟨L,A,ls,_,ok,e,_⟩:=B.lv
 have nd:x.ks.Nodup:=by
  rw[←e]
  exact List.Pairwise.imp (λh z=>by omega) ok.up
 have:=pE (S:=x.st.kv.map (·.1)) nd λz hz=>mem_keys.mpr ((O.ks z).mp hz)
 rw[Q1]at this
 have:=O.sl
 omega
theorem HOk.noted {x:HSt} {pa':List Pk} {k:Int} {y:Mk1} (O:HOk x) (N:Noted x.pa pa' k y):(pa'.length:Int)≤x.now+1∧∀j,((c4 pa' j).length:Int)≤x.now+1:=by
 constructor
 ·have h1:=O.pl
  have h2:=congrArg List.length N.ky
  rw[Q1]at h2
  split at h2
  ·rw[Q1]at h2
   omega
  ·rw[Qa,Q1,QY]at h2
   omega
 ·intro j
  rw[N.of]
  split
  ·have:=O.el k
   rw[Qa,QY]
   omega
  ·have:=O.el j
   omega
theorem HOk.hv1 {x:HSt} (O:HOk x):∀p∈x.ho,x.fl≤p.1∧p.1≤x.now+1∧∃n:Int,p.2= .int n∧0<n:=λp hp=>⟨(O.hv p hp).1,by have:=(O.hv p hp).2.1;omega,(O.hv p hp).2.2⟩
theorem HOk.fb1 {x:HSt} (O:HOk x):0≤x.fl∧x.fl≤x.now+1:=⟨O.fb.1,by have:=O.fb.2;omega⟩
theorem HOk.up1 {x:HSt} {pa':List Pk} {k:Int} {y:Mk1} (O:HOk x) (N:Noted x.pa pa' k y) (e:y.mo=x.now+1):∀j,(c4 pa' j).Pairwise (λa b=>a.mo<b.mo)∧∀z∈c4 pa' j,z.mo≤x.now+1:=λj=>by
 rw[N.of]
 obtain⟨u1,u2⟩:=O.up k
 split
 ·refine⟨Qc.mpr ⟨u1,Zp _ _,λa ha b hb=>?_⟩,λz hz=>?_⟩
  ·rw[Q8.mp hb,e]
   have:=u2 a ha
   omega
  ·rcases Q4.mp hz with hz|hz
   ·have:=u2 z hz
    omega
   ·rw[Q8.mp hz,e]
    exact Zi _
 ·obtain⟨v1,v2⟩:=O.up j
  exact⟨v1,λz hz=>by have:=v2 z hz;omega⟩
def qc (K:PySem.W.Frag) (t:Adr):Sp:=λvs H Q _=>∃(a:Addr) (k i:Int) (F:Addr→Prop) (x:HSt),vs=[.ref a,.int k,.int i]∧HoA K t H a F x∧0≤k∧x.now+x.ma<4000∧
 ∀(H':Hp) (F':Addr→Prop) (ks':List Int) (r q:Addr) (pa':List Pk),HoA K t H' a F' {x with now:=x.now+1,st:=x.st.put k (.int i),ks:=ks',di:=x.di++ [(r,[.str "put",.int k,.int i])],pa:=pa'}→Noted x.pa pa' k ⟨q,x.now+1,.int i⟩→Fr F F' H H'→Q (.int (x.now+1)) H'
theorem qm (T:Txt K mg t):FnOk P w K mg base CX0 5 t.mn t.iF ["self","key","value"] (qc K t):=by
 have Gf:= @jf P w K mg base t T
 have Gk:= @pA P w K mg base t T
 have Gy:= @j2 P w K mg base t T
 have J6:= @ql P w K mg base t T
 refine T.AW.ok qh (λvs H Q E h=>?_) (λcdv A outer s H vs Q E hr h=>?_)
 ·obtain⟨a,k,i,F,x,rfl,_⟩:=h
  rfl
 ·obtain⟨a,k,i,F,x,rfl,A,k0,l1,q⟩:=h
  refine⟨_,(af (aV (i9 (dX (a9 (aq (pv 0) rfl) T.aA T.rY Gy (hr.mono (by decide)) T.sA .nil az (aa (pv 1) ah))))
   (ai (aP (a9 (aq (pv 0) rfl) T.aH T.zw Gk (hr.mono (by decide)) T.zD .nil az (aa (pv 1) ah))))
   aF)
   (af (aP (a9 (aq (pv 0) rfl) T.aA T.Au J6 (hr.mono (by decide)) T.AL .nil az (aa (pv 1) (aa (pv 2) ah))))
   (ai (aG (a9 (pv 0) T.aL T.qt Gf (hr.mono (by decide)) T.qA .nil az (aa (cH (aa gp (aa (pv 1) (aa (pv 2) ah)))) (aa (pv 2) ah)))))))
   ,?_⟩
  have kl:=A.klen
  obtain⟨s,l,wr,p,h,Fs,Fl,B,O,g⟩:=A
  have n0:=O.n0
  have m0:=O.m0
  have sl:=O.sl
  obtain⟨dx,ho⟩:=B.o.ob
  obtain⟨ds,fs,hs,hm⟩:=B.sl.ins
  (try dsimp only)
  refine cw (λσ H2=>∃(Fs2 Fl2:Addr→Prop) (ks2:List Int),σ=[some (.ref a),some (.int k),some (.int i)]∧HoB K t H2 a s l wr p h Fs2 Fl2 {x with ks:=ks2}∧(∀z,z∈ks2↔z=k∨z∈x.ks)∧Fr (HoF a wr p h Fs Fl x.pa) (HoF a wr p h Fs2 Fl2 x.pa) H H2) (λnx go=>?_) (λσ H2 w=>?_)
  ·refine⟨_,rfl,a,_,dx,_,_,rfl,ho,T.aL,T.fq,uT,s,ds,fs,rfl,hs,hm _ (by decide+kernel),_,rfl,s,k,Fs,x.st,rfl,B.sl,k0,λH1 Fs1 S1 f1=>?_⟩
   obtain⟨B1,g1⟩:=B.slots S1 f1
   obtain⟨dx1,ho1⟩:=B1.o.ob
   obtain⟨dl,fl,hl,hml⟩:=B1.lv.ins
   cases ev:(aO x.st.kv k).isSome with
   |true=>
    refine⟨_,rfl,bI (λc=>?_) (λ_=>?_)⟩
    ·cases c
    ·exact go _ _ ⟨Fs1,Fl,x.ks,rfl,B1,λz=>⟨.inr,λy=>y.elim (λy=>by rw[y];exact(O.ks k).mpr ev) id⟩,g1⟩
   |false=>
    have nk:k∉x.ks:=λz=>by have:=(O.ks k).mp z;rw[ev]at this;cases this
    refine⟨_,rfl,bI (λ_=>?_) (λc=>?_)⟩
    ·refine⟨_,rfl,a,_,dx1,_,_,rfl,ho1,T.aL,T.iM,yL,l,dl,fl,rfl,hl,hml _ (by decide+kernel),_,rfl,l,k,Fl,x.ks,rfl,B1.lv,by omega,λ_ H2 Fl2 ks2 L2 mem f2=>?_,λz=>absurd z nk⟩
     obtain⟨B2,g2⟩:=B1.leaves L2 f2
     exact go _ _ ⟨Fs1,Fl2,ks2,rfl,B2,mem,g1.trans g2⟩
    ·exact absurd rfl c
  ·obtain⟨Fs2,Fl2,ks2,rfl,B2,mem,g2⟩:=w
   obtain⟨dx2,ho2⟩:=B2.o.ob
   obtain⟨ds2,fs2,hs2,hm2⟩:=B2.sl.ins
   refine⟨_,rfl,a,_,dx2,_,_,rfl,ho2,T.aL,T.fq,uT,s,ds2,fs2,rfl,hs2,hm2 _ (by decide+kernel),_,rfl,_,rfl,s,k,i,Fs2,x.st,rfl,B2.sl,k0,by omega,λH3 Fs3 S3 f3=>?_⟩
   obtain⟨B3,g3⟩:=B2.slots S3 f3
   obtain⟨dx3,ho3⟩:=B3.o.ob
   refine⟨_,rfl,a,dx3,_,rfl,ho3,yK (by decide+kernel),_,rfl,_,rfl,(by show 3≤sizeLine;decide),λr nr=>?_⟩
   have s4:=ak (o:= .tup [.str "put",.int k,.int i]) nr
   have ht:upd H3 r (.tup [.str "put",.int k,.int i]) r=some (.tup [.str "put",.int k,.int i]):=ag
   have B4:HoB K t (upd H3 r (.tup [.str "put",.int k,.int i])) a s l wr p h Fs3 Fl2 _:=B3.keep (λb hb=>by
    obtain⟨o,e,_⟩:=B3.dom hb
    rw[e]
    exact s4 _ _ e) λb xs e=>s4 _ _ e
   have g4:=(g2.trans g3).trans (Fr.of_same s4)
   generalize upd H3 r (.tup [.str "put",.int k,.int i])=H4 at B4 ht g4⊢
   have dl:=O.dl
   have pl:=O.pl
   have el:=O.el k
   refine⟨_,rfl,a,s,l,wr,p,h,r,k,_,.int i,_,rfl,B4.o,ht,rfl,by show x.di.length<50000;omega,by show x.pa.length<50000;omega,by show(c4 x.pa k).length<50000;omega,λH5 pa' y O5 N f5=>?_⟩
   obtain⟨B5,g5⟩:=B4.own O5 rfl rfl f5
   obtain⟨N1,N2⟩:=O.noted N
   have ek:(x.st.put k (.int i)).kv=bi x.st.kv k (.int i):=SSt.three_kv
   refine q H5 (HoF a wr p h Fs3 Fl2 pa') ks2 r y pa' ⟨s,l,wr,p,h,Fs3,Fl2,B5,⟨λz=>?_,by show 0≤x.now+1;omega,m0,?_,N1,N2,?_,O.hn,O.hv1,O.fb1,O.up1 N rfl⟩,λ_=>Iff.rfl⟩ N ?_
   ·show z∈ks2↔(aO (x.st.put k (.int i)).kv z).isSome=true
    rw[mem,ek,←mem_keys,lZ,O.ks]
    split
    ·rename_i c
     rw[mem_keys]
     exact⟨λy=>y.elim (λy=>y▸c) id,.inr⟩
    ·rw[Q4,Q8,mem_keys]
     exact⟨λy=>y.elim .inr .inl,λy=>y.elim .inr .inl⟩
   ·show((x.di++ [(r,_)]).length:Int)=x.now+1+x.ma
    rw[Qa,QY]
    omega
   ·show((x.st.put k (.int i)).kv.length:Int)≤x.now+1
    rw[ek]
    have:=b3 x.st.kv k (.int i)
    omega
   ·exact λb o n e=>(g4.trans g5) b o (λz=>n ((g b).mpr z)) e
def oP (K:PySem.W.Frag) (t:Adr):Sp:=λvs H Q E=>∃(a:Addr) (k:Int) (F:Addr→Prop) (x:HSt),vs=[.ref a,.int k]∧HoA K t H a F x∧0≤k∧x.now+x.ma<4000∧
 ((aO x.st.kv k).isSome=true→∀(H':Hp) (F':Addr→Prop) (ks':List Int) (r q:Addr) (pa':List Pk),HoA K t H' a F' {x with now:=x.now+1,st:=x.st.drop k,ks:=ks',di:=x.di++ [(r,[.str "drop",.int k])],pa:=pa'}→Noted x.pa pa' k ⟨q,x.now+1,.non⟩→Fr F F' H H'→Q (.int (x.now+1)) H')∧
 (aO x.st.kv k=none→False)
theorem pC (T:Txt K mg t):FnOk P w K mg base CX0 6 t.kr t.gI ["self","key"] (oP K t):=by
 have Gf:= @jf P w K mg base t T
 have Gm:= @kK P w K mg base t T
 have Gx:= @pk P w K mg base t T
 refine T.zP.ok o7 (λvs H Q E h=>?_) (λcdv A outer s H vs Q E hr h=>?_)
 ·obtain⟨a,k,F,x,rfl,_⟩:=h
  rfl
 ·obtain⟨a,k,F,x,rfl,A,k0,l1,q,qx⟩:=h
  refine⟨_,(af (aP (a9 (aq (pv 0) rfl) T.aA T.zu Gx (hr.mono (by decide)) T.zA .nil az (aa (pv 1) ah)))
   (af (aP (a9 (aq (pv 0) rfl) T.aH T.vE Gm (hr.mono (by decide)) T.v6 .nil az (aa (pv 1) ah)))
   (ai (aG (a9 (pv 0) T.aL T.qt Gf (hr.mono (by decide)) T.qA .nil az (aa (cH (aa gp (aa (pv 1) ah))) (aa bK ah)))))))
   ,?_⟩
  have kl:=A.klen
  obtain⟨s,l,wr,p,h,Fs,Fl,B,O,g⟩:=A
  have n0:=O.n0
  have m0:=O.m0
  have sl:=O.sl
  obtain⟨dx,ho⟩:=B.o.ob
  obtain⟨ds,fs,hs,hm⟩:=B.sl.ins
  (try dsimp only)
  refine⟨_,rfl,a,_,dx,_,_,rfl,ho,T.aL,T.fq,uT,s,ds,fs,rfl,hs,hm _ (by decide+kernel),_,rfl,s,k,Fs,x.st,rfl,B.sl,k0,λev=>⟨by omega,λH1 Fs1 S1 f1=>?_⟩,λhn=>(qx hn).elim⟩
  ·obtain⟨B1,g1⟩:=B.slots S1 f1
   obtain⟨dx1,ho1⟩:=B1.o.ob
   obtain⟨dl,fl,hl,hml⟩:=B1.lv.ins
   refine⟨_,rfl,a,_,dx1,_,_,rfl,ho1,T.aL,T.iM,yL,l,dl,fl,rfl,hl,hml _ (by decide+kernel),_,rfl,l,k,Fl,x.ks,rfl,B1.lv,by omega,λ_ H2 Fl2 ks2 L2 mem f2=>?_,λz=>absurd ((O.ks k).mpr ev) z⟩
   obtain⟨B3,g3⟩:=B1.leaves L2 f2
   obtain⟨dx3,ho3⟩:=B3.o.ob
   refine⟨_,rfl,a,dx3,_,rfl,ho3,yK (by decide+kernel),_,rfl,(by show 2≤sizeLine;decide),λr nr=>?_⟩
   have s4:=ak (o:= .tup [.str "drop",.int k]) nr
   have ht:upd H2 r (.tup [.str "drop",.int k]) r=some (.tup [.str "drop",.int k]):=ag
   have B4:HoB K t (upd H2 r (.tup [.str "drop",.int k])) a s l wr p h Fs1 Fl2 _:=B3.keep (λb hb=>by
    obtain⟨o,e,_⟩:=B3.dom hb
    rw[e]
    exact s4 _ _ e) λb xs e=>s4 _ _ e
   have g4:=(g1.trans g3).trans (Fr.of_same s4)
   generalize upd H2 r (.tup [.str "drop",.int k])=H4 at B4 ht g4⊢
   have dl:=O.dl
   have pl:=O.pl
   have el:=O.el k
   refine⟨a,s,l,wr,p,h,r,k,_,.non,_,rfl,B4.o,ht,rfl,by show x.di.length<50000;omega,by show x.pa.length<50000;omega,by show(c4 x.pa k).length<50000;omega,λH5 pa' y O5 N f5=>?_⟩
   obtain⟨B5,g5⟩:=B4.own O5 rfl rfl f5
   obtain⟨N1,N2⟩:=O.noted N
   have ek:(x.st.drop k).kv=bv x.st.kv k:=SSt.three_kv
   refine q ev H5 (HoF a wr p h Fs1 Fl2 pa') ks2 r y pa' ⟨s,l,wr,p,h,Fs1,Fl2,B5,⟨λz=>?_,by show 0≤x.now+1;omega,m0,?_,N1,N2,?_,O.hn,O.hv1,O.fb1,O.up1 N rfl⟩,λ_=>Iff.rfl⟩ N ?_
   ·show z∈ks2↔(aO (x.st.drop k).kv z).isSome=true
    rw[mem,ek,dn,O.ks]
    by_cases c:z=k
    ·rw[if_pos c]
     exact⟨λy=>absurd c y.1,λy=>by cases y⟩
    ·rw[if_neg c]
     exact⟨λy=>y.2,λy=>⟨c,y⟩⟩
   ·show((x.di++ [(r,_)]).length:Int)=x.now+1+x.ma
    rw[Qa,QY]
    omega
   ·show((x.st.drop k).kv.length:Int)≤x.now+1
    rw[ek]
    have:(bv x.st.kv k).length≤x.st.kv.length:=QN _ _
    omega
   ·exact λb o n e=>(g4.trans g5) b o (λz=>n ((g b).mpr z)) e
theorem za {α:Type} {f:α→V} {ms:List α} {g:Int} (h:0≤g):jV (ms.map f) (some g) none=(ms.drop g.toNat).map f:=by
 unfold jV HT.sIx
 dsimp only
 rw[if_neg (by omega),ZJ]
 rcases Nat.le_total g.toNat (ms.map f).length with c|c
 ·rw[Nat.min_eq_left c]
  exact QB (by rw[Qu];omega)
 ·rw[Nat.min_eq_right c,List.drop_of_length_le c,List.drop_of_length_le (Q5 _),List.take_nil]
def nG (K:PySem.W.Frag) (t:Adr):Sp:=λvs H Q _=>∃(a:Addr) (lo:Int) (F:Addr→Prop) (x:HSt),vs=[.ref a,.int lo]∧HoA K t H a F x∧0≤lo∧
 ∀(H':Hp) (r:Addr),Same H H'→H r=none→H' r=some (.lst ((x.di.drop lo.toNat).map λe=>V.ref e.1))→Q (.ref r) H'
theorem dY (T:Txt K mg t):FnOk P w K mg base CX0 1 t.jB t.db ["self","low"] (nG K t):=by
 refine T.zp.ok nP (λvs H Q E h=>?_) (λcdv A outer s H vs Q E hr h=>?_)
 ·obtain⟨a,lo,F,x,rfl,_⟩:=h
  rfl
 ·obtain⟨a,lo,F,x,rfl,A,l0,q⟩:=h
  refine⟨_,(ai (aG (gP jI (aq (pv 0) rfl) (io (aI (rf rfl) (by rfl) T.CS zc (aa (pv 1) (aa ae ah)))) lN)))
   ,?_⟩
  obtain⟨s,l,wr,p,h,Fs,Fl,B,O,g⟩:=A
  obtain⟨dx,ho⟩:=B.o.ob
  refine⟨_,rfl,a,_,dx,_,_,rfl,ho,T.aL,T.dA,uS,?_⟩
  have e0:(if(0:Int)>lo then(0:Int)else lo)=lo:=if_neg (by omega)
  refine⟨_,rfl,_,_,rfl,lo,by rw[e0],wr,_,rfl,SqL.of B.o.wr,λr nr=>q _ r (ak nr) nr ?_⟩
  rw[ag,za l0]
def nD (K:PySem.W.Frag):Sp:=λvs H Q _=>∃(a:Addr) (ns:List Int) (k:Int),vs=[.ref a,.int k]∧SqL K H a (ns.map V.int)∧0≤k∧Q (.int (ns.getD k.toNat 0)) H
theorem nU (T:Txt K mg t):FnOk P w K mg base CX0 1 t.jz t.fB ["_law_script","_law_k"] (nD K):=by
 refine T.fO.ok nM (λvs H Q E h=>?_) (λcdv A outer s H vs Q E hr h=>?_)
 ·obtain⟨a,ns,i,rfl,_⟩:=h
  rfl
 ·obtain⟨a,ns,i,rfl,hS,h0,k⟩:=h
  refine⟨_,(af (aV (au iL (pv 1) (aI ay (by rfl) T.bN bn (aa (pv 0) ah)) (ax _))
   (ai (aG (aW aN (pv 0) (pv 1) (λ_ _=>rfl))))
   aF)
   (ai (aG ae)))
   ,?_⟩
  refine⟨_,rfl,_,rfl,a,_,rfl,.inl hS,_,_,rfl,rfl,_,rfl,?_⟩
  refine bI (λc=>?_) (λc=>?_)
  ·have c:=of_decide_eq_true c
   rw[Q1]at c
   exact⟨_,rfl,_,rfl,a,_,_,_,rfl,rfl,hS,pU h0 c,k⟩
  ·have c:¬i<((ns.map V.int).length:Int):=λz=>c (decide_eq_true z)
   rw[Q1]at c
   rw[zb c]at k
   exact k
def p8:Sp:=λvs H Q _=>∃c k:Int,vs=[.int c,.int k]∧∀z:Int,0≤z→z<2147483647→Q (.int z) H
theorem jZ (T:Txt K mg t):FnOk P w K mg base CX0 1 t.mi t.iB ["_law_cell","_law_k"] p8:=by
 refine T.mr.ok sc__law_mixed (λvs H Q E h=>?_) (λcdv A outer s H vs Q E hr h=>?_)
 ·obtain⟨c,k,rfl,_⟩:=h
  rfl
 ·obtain⟨c,k,rfl,q⟩:=h
  refine⟨_,(af (aD (i:=2) sc__law_mixed.nd rfl (Or.inl rfl) (al aK (al cY (al bx (al bx (pv 0) (al cY ae (pv 1))) ae) ae) ae))
   (ai (aG (al aK (al cY (pv 2) (al bx (al aM (pv 2) ae) ae)) ae))))
   ,?_⟩
  refine⟨_,rfl,_,rfl,_,_,rfl,rfl,.inl ⟨by decide,by decide⟩,_,_,rfl,rfl,_,_,rfl,rfl,_,_,rfl,rfl,.inr ⟨by decide,by decide⟩,_,_,rfl,rfl,(by show(0:Int)<2147483647;decide),?_⟩
  have a:=Qe ((c+7919*k+1)*48271) (show(2147483647:Int)≠0 by decide)
  have b:=Qb ((c+7919*k+1)*48271) (show(0:Int)<2147483647 by decide)
  (try dsimp only)
  generalize (c+7919*k+1)*48271%2147483647=n at a b⊢
  refine⟨_,rfl,_,rfl,_,_,rfl,rfl,⟨by decide,by decide⟩,_,_,rfl,rfl,_,_,rfl,rfl,.inl ⟨by omega,by omega⟩,_,_,rfl,rfl,(by show(0:Int)<2147483647;decide),?_⟩
  exact q _ (Qe _ (by decide)) (Qb _ (by decide))
def Be (kd:Int) (H:Hp) (Q:VK):Prop:=∀(H':Hp) (p:Addr) (a e:V),Same H H'→H' p=some (.tup [.int kd,a,e])→okN kd a e→bdV a→bdV e→Q (.ref p) H'
theorem cu {i:Int} (h:i<10^80):bdV (.int i):=h
theorem sv:bdV .non:=True.intro
def iV:Sp:=λvs H Q _=>∃kd c:Int,vs=[.int kd,.int c]∧0≤kd∧kd<3∧Be kd H Q
theorem jc (T:Txt K mg t):FnOk P w K mg base CX0 1 t.eD t.cq ["_law_kind","_law_cell"] iV:=by
 refine T.jW.ok sc__law_numbers_told (λvs H Q E h=>?_) (λcdv A outer s H vs Q E hr h=>?_)
 ·obtain⟨kd,c,rfl,_⟩:=h
  rfl
 ·obtain⟨kd,c,rfl,d0,d3,q⟩:=h
  refine⟨_,(af (aV (au bH (pv 0) ae (ax _))
   (af (aD (i:=2) sc__law_numbers_told.nd rfl (Or.inl rfl) (al aK (pv 1) ae))
   (ai (aG (cH (aa (pv 0) (aa (pv 2) (aa (al bx (pv 2) (al aK (al aM (pv 1) ae) (al iq ae (pv 2)))) ah)))))))
   aF)
   (af (aD (i:=2) sc__law_numbers_told.nd rfl (Or.inl rfl) (al aK (al aM (pv 1) ae) (al gu ae ae)))
   (af (aD (i:=3) sc__law_numbers_told.nd rfl (Or.inl rfl) (al bx (pv 2) (al aK (al tw (pv 1) (al cY ae (al gu ae ae))) (al gu ae ae))))
   (af (aV (PW.pt (ik (au bH (al aK (pv 1) ae) ae (ax _)) (fQ (au bH (pv 0) ae (ax _)))))
   (ai (aG (cH (aa (pv 0) (aa (pv 2) (aa bK ah))))))
   aF)
   (af (aV (au bH (al aK (pv 1) ae) ae (ax _))
   (ai (aG (cH (aa (pv 0) (aa bK (aa (pv 2) ah))))))
   aF)
   (ai (aG (cH (aa (pv 0) (aa (aW aN (bZ (aa (pv 2) (aa (pv 3) ah))) (al iq (pv 0) ae) (λ_ _=>rfl)) (aa (aW aN (bZ (aa (pv 3) (aa (pv 2) ah))) (al iq (pv 0) ae) (λ_ _=>rfl)) ah)))))))))))
   ,?_⟩
  refine⟨_,rfl,rfl,_,rfl,bI (λz=>?_) (λz=>?_)⟩
  ·obtain rfl:kd=0:=V.int.inj (of_decide_eq_true z)
   have a0:=Qe c (show(65537:Int)≠0 by decide)
   have a1:=Qb c (show(0:Int)<65537 by decide)
   refine⟨_,rfl,_,_,rfl,rfl,(by show(0:Int)<65537;decide),?_⟩
   (try dsimp only)
   generalize c%65537=lo at a0 a1⊢
   refine⟨_,rfl,_,rfl,_,rfl,_,rfl,_,_,rfl,rfl,⟨by decide,by decide⟩,_,rfl,_,_,rfl,rfl,_,_,rfl,rfl,(by show(0:Int)<65537-lo;omega),_,_,rfl,rfl,(by show 3≤sizeLine;decide),λp hp=>?_⟩
   have b0:=Qe (c/65537) (show(65537-lo:Int)≠0 by omega)
   have b1:=Qb (c/65537) (show(0:Int)<65537-lo by omega)
   exact q _ p (.int lo) (.int (lo+c/65537%(65537-lo))) (ak hp) ag (.inl ⟨rfl,lo,_,rfl,rfl,a0,by omega,by omega⟩) (cu (by omega)) (cu (by omega))
  ·have dz:kd≠0:=λe=>z (decide_eq_true (by rw[e]))
   have a0:=Qe (c/2) (ZD oE)
   have a1:=Qb (c/2) oE
   have b0:=Qe (c/(2*10^(39:Int).toNat)) (ZD oE)
   have b1:=Qb (c/(2*10^(39:Int).toNat)) oE
   refine⟨_,rfl,_,_,rfl,rfl,⟨by decide,by decide⟩,_,_,rfl,rfl,⟨by decide,by decide,by decide⟩,_,_,rfl,rfl,oE,?_⟩
   (try dsimp only)
   generalize c/2%10^(39:Int).toNat=lo at a0 a1⊢
   refine⟨_,rfl,_,rfl,_,_,rfl,rfl,⟨by decide,by decide,by decide⟩,_,_,rfl,rfl,.inl ⟨by decide,by decide⟩,_,_,rfl,rfl,⟨by decide,by decide⟩,_,_,rfl,rfl,⟨by decide,by decide,by decide⟩,_,_,rfl,rfl,oE,_,_,rfl,rfl,?_⟩
   (try dsimp only)
   generalize c/(2*10^(39:Int).toNat)%10^(39:Int).toNat=hi at b0 b1⊢
   have t39:(10:Int)^(39:Int).toNat=10^39:=rfl
   rw[t39]at a1 b1
   have two:(0:Int)<2:=by decide
   have l3:3≤sizeLine:=by decide
   have l2:2≤sizeLine:=by decide
   rcases(show kd=1∨kd=2 by omega)with rfl|rfl
   ·refine⟨_,rfl,_,_,rfl,rfl,two,rfl,_,rfl,bI (λy=>?_) (λy=>?_)⟩
    ·refine⟨_,rfl,rfl,_,rfl,jU rfl ⟨_,rfl,_,rfl,l3,λp hp=>?_⟩⟩
     exact q _ p (.int lo) .non (ak hp) ag (.inr (.inl ⟨rfl,lo,rfl,a0,.inl rfl⟩)) (cu (by omega)) sv
    ·refine⟨_,rfl,_,_,rfl,rfl,two,rfl,_,rfl,bI (λy2=>absurd y2 y) (λ_=>?_)⟩
     refine⟨_,rfl,_,rfl,_,rfl,l2,λp1 n1=>⟨_,rfl,_,_,rfl,rfl,p1,_,_,_,rfl,rfl,SqL.of ag,rfl,_,rfl,_,rfl,l2,λp2 n2=>⟨_,rfl,_,_,rfl,rfl,p2,_,_,_,rfl,rfl,SqL.of ag,rfl,l3,λp3 n3=>?_⟩⟩⟩
     exact q _ p3 (.int lo) (.int (lo+hi)) (((ak n1).trans (ak n2)).trans (ak n3)) ag (.inr (.inl ⟨rfl,lo,rfl,a0,.inr ⟨_,rfl,by omega⟩⟩)) (cu (by omega)) (cu (by omega))
   ·refine⟨_,rfl,_,_,rfl,rfl,two,rfl,_,rfl,bI (λy=>?_) (λy=>?_)⟩
    ·refine⟨_,rfl,rfl,_,rfl,bQ (λe=>by cases e) ⟨_,rfl,_,_,rfl,rfl,two,rfl,_,rfl,bI (λ_=>⟨_,rfl,_,rfl,l3,λp hp=>?_⟩) (λy2=>absurd y y2)⟩⟩
     exact q _ p .non (.int lo) (ak hp) ag (.inr (.inr ⟨rfl,lo,rfl,a0,.inl rfl⟩)) sv (cu (by omega))
    ·refine⟨_,rfl,_,_,rfl,rfl,two,rfl,_,rfl,bI (λy2=>absurd y2 y) (λ_=>?_)⟩
     refine⟨_,rfl,_,rfl,_,rfl,l2,λp1 n1=>⟨_,rfl,_,_,rfl,rfl,p1,_,_,_,rfl,rfl,SqL.of ag,rfl,_,rfl,_,rfl,l2,λp2 n2=>⟨_,rfl,_,_,rfl,rfl,p2,_,_,_,rfl,rfl,SqL.of ag,rfl,l3,λp3 n3=>?_⟩⟩⟩
     exact q _ p3 (.int (lo+hi)) (.int lo) (((ak n1).trans (ak n2)).trans (ak n3)) ag (.inr (.inr ⟨rfl,lo,rfl,a0,.inr ⟨_,rfl,by omega⟩⟩)) (cu (by omega)) (cu (by omega))
theorem yO {ks:List Int} {i:Nat} (h:i<ks.length):ks.getD i 0∈ks:=by
 rw[Qv,Q3 h]
 exact Zk h
def nC (K:PySem.W.Frag):Sp:=λvs H Q _=>∃(c:Int) (l:Addr) (ks:List Int),vs=[.int c,.ref l]∧H l=some (.lst (ks.map V.int))∧(∀k∈ks,0≤k∧k<10^40)∧Be (c%3) H Q
theorem nS (T:Txt K mg t):FnOk P w K mg base CX0 2 t.jy t.fA ["_law_cell","_law_keys"] (nC K):=by
 have Je:= @jZ P w K mg base t T
 have Jg:= @jc P w K mg base t T
 refine T.p6.ok sc__law_numbers (λvs H Q E h=>?_) (λcdv A outer s H vs Q E hr h=>?_)
 ·obtain⟨c,l,ks,rfl,_⟩:=h
  rfl
 ·obtain⟨c,l,ks,rfl,hS,kb,q⟩:=h
  refine⟨_,(af (aD (i:=2) sc__law_numbers.nd rfl (Or.inl rfl) (al aK (pv 0) ae))
   (af (aV (au bH (al aK (al aM (pv 0) ae) ae) ae (ax _))
   (ai (aG (aQ Jg (hr.mono (by decide)) (by rfl) T.ue T.jW.kp T.uf .nil az (aa (pv 2) (aa (al aM (pv 0) ae) ah)))))
   aF)
   (af (aD (i:=3) sc__law_numbers.nd rfl (Or.inl rfl) (aQ Je (hr.mono (by decide)) (by rfl) T.r6 T.mr.kp T.sw .nil az (aa (al aM (pv 0) ae) (aa ae ah))))
   (af (aV (au bH (pv 2) ae (ax _))
   (af (aD (i:=4) sc__law_numbers.nd rfl (Or.inl rfl) (al aK (pv 3) ae))
   (af (aD (i:=5) sc__law_numbers.nd rfl (Or.inl rfl) (al bx (pv 4) (al aK (al aM (pv 3) ae) (al iq ae (pv 4)))))
   (ai (aG (cH (aa (pv 2) (aa (aW aN (bZ (aa (pv 4) (aa ae ah))) (al aK (pv 3) ae) (λ_ _=>rfl)) (aa (aW aN (bZ (aa (pv 5) (aa ae ah))) (al aK (al aM (pv 3) ae) ae) (λ_ _=>rfl)) ah))))))))
   aF)
   (af (aD (i:=4) sc__law_numbers.nd rfl (Or.inl rfl) (al aK (pv 3) ae))
   (af (aV (PW.pt (ik (au tq (aI ay (by rfl) T.bN bn (aa (pv 1) ah)) ae (ax _)) (fQ (au tq (al aK (al aM (pv 3) ae) ae) ae (ax _)))))
   (ai (aD (i:=4) sc__law_numbers.nd rfl (Or.inl rfl) (al bx (aW aN (pv 1) (al aK (al aM (pv 3) ae) (aI ay (by rfl) T.bN bn (aa (pv 1) ah))) (λ_ _=>rfl)) (al aK (al aM (pv 3) ae) ae))))
   aF)
   (af (aD (i:=5) sc__law_numbers.nd rfl (Or.inl rfl) (al bx (pv 4) (aW aN (bZ (aa (al aK (al aM (pv 3) ae) ae) (aa (al aK (al aM (pv 0) ae) (al gu ae ae)) (aa (al aK (al aM (pv 3) ae) ae) ah)))) (al aK (al aM (pv 3) ae) ae) (λ_ _=>rfl))))
   (af (aV (PW.pt (ik (au bH (al aK (al aM (pv 3) ae) ae) ae (ax _)) (fQ (au bH (pv 2) ae (ax _)))))
   (ai (aG (cH (aa (pv 2) (aa (pv 4) (aa bK ah))))))
   aF)
   (af (aV (au bH (al aK (al aM (pv 3) ae) ae) ae (ax _))
   (ai (aG (cH (aa (pv 2) (aa bK (aa (pv 4) ah))))))
   aF)
   (ai (aG (cH (aa (pv 2) (aa (aW aN (bZ (aa (pv 4) (aa (pv 5) ah))) (al iq (pv 2) ae) (λ_ _=>rfl)) (aa (aW aN (bZ (aa (pv 5) (aa (pv 4) ah))) (al iq (pv 2) ae) (λ_ _=>rfl)) ah)))))))))))))))
   ,?_⟩
  have d0:=Qe c (show(3:Int)≠0 by decide)
  have d3:=Qb c (show(0:Int)<3 by decide)
  have two:(0:Int)<2:=by decide
  have l3:3≤sizeLine:=by decide
  have l2:2≤sizeLine:=by decide
  refine⟨_,rfl,_,_,rfl,rfl,(by show(0:Int)<3;decide),?_⟩
  (try dsimp only)
  generalize c%3=kd at d0 d3 q⊢
  refine⟨_,rfl,_,_,rfl,rfl,⟨by decide,by decide⟩,_,_,rfl,rfl,two,rfl,_,rfl,bI (λ_=>?_) (λ_=>?_)⟩
  ·exact⟨_,rfl,_,rfl,_,_,rfl,rfl,⟨by decide,by decide⟩,kd,_,rfl,d0,d3,q⟩
  refine⟨_,rfl,_,_,rfl,rfl,⟨by decide,by decide⟩,_,_,rfl,λn n0 n1=>?_⟩
  refine⟨_,rfl,rfl,_,rfl,bI (λz=>?_) (λz=>?_)⟩
  ·obtain rfl:kd=0:=V.int.inj (of_decide_eq_true z)
   have a0:=Qe n (show(65537:Int)≠0 by decide)
   have a1:=Qb n (show(0:Int)<65537 by decide)
   refine⟨_,rfl,_,_,rfl,rfl,(by show(0:Int)<65537;decide),?_⟩
   (try dsimp only)
   generalize n%65537=lo at a0 a1⊢
   have b0:=Qe (n/65537) (show(65537-lo:Int)≠0 by omega)
   have b1:=Qb (n/65537) (show(0:Int)<65537-lo by omega)
   refine⟨_,rfl,_,rfl,_,_,rfl,rfl,⟨by decide,by decide⟩,_,rfl,_,_,rfl,rfl,_,_,rfl,rfl,(by show(0:Int)<65537-lo;omega),_,_,rfl,rfl,?_⟩
   (try dsimp only)
   generalize n/65537%(65537-lo)=g at b0 b1⊢
   obtain⟨x,hx,x0⟩:=qI (c:=n) (n:=2) (L:=[.int lo,.int 0]) (P:=λm=>0≤m∧m≤lo) ⟨⟨a0,Zi _⟩,⟨Zi _,a0⟩,trivial⟩ rfl two
   obtain⟨y,hy,y0⟩:=qI (c:=n/2) (n:=2) (L:=[.int (lo+g),.int 65536]) (P:=λm=>lo≤m∧m≤65536) ⟨⟨by omega,by omega⟩,⟨by omega,by omega⟩,trivial⟩ rfl two
   refine⟨_,rfl,_,rfl,l2,λp1 n1'=>⟨_,rfl,_,_,rfl,rfl,two,p1,_,_,_,rfl,rfl,SqL.of ag,hx,_,rfl,l2,λp2 n2=>⟨_,rfl,_,_,rfl,rfl,⟨by decide,by decide⟩,_,_,rfl,rfl,two,p2,_,_,_,rfl,rfl,SqL.of ag,hy,l3,λp3 n3=>?_⟩⟩⟩
   exact q _ p3 (.int x) (.int y) (((ak n1').trans (ak n2)).trans (ak n3)) ag (.inl ⟨rfl,x,y,rfl,rfl,x0.1,by omega,y0.2⟩) (cu (by omega)) (cu (by omega))
  ·have dz:kd≠0:=λe=>z (decide_eq_true (by rw[e]))
   have a0:=Qe n (show(60:Int)≠0 by decide)
   have a1:=Qb n (show(0:Int)<60 by decide)
   refine⟨_,rfl,_,_,rfl,rfl,(by show(0:Int)<60;decide),?_⟩
   (try dsimp only)
   generalize n%60=lo at a0 a1⊢
   refine cw (λσ H'=>H=H'∧∃lo:Int,σ=[some (.int c),some (.ref l),some (.int kd),some (.int n),some (.int lo),none]∧0≤lo∧lo<10^41) (λnx go=>?_) (λσ H' w=>?_)
   ·refine⟨_,rfl,l,_,rfl,.inl (SqL.of hS),_,_,rfl,rfl,_,rfl,bI (λz=>?_) (λz=>?_)⟩
    ·have kl:0<ks.length:=by
      have:=of_decide_eq_true z
      rw[Q1]at this
      omega
     have kl:(0:Int)<(ks.length:Int):=by omega
     have z0:=Qe (n/180) (ZD kl)
     have z1:=Qb (n/180) kl
     have y0:=Qe (n/72000) (show(2:Int)≠0 by decide)
     have y1:=Qb (n/72000) (show(0:Int)<2 by decide)
     refine⟨_,rfl,_,_,rfl,rfl,⟨by decide,by decide⟩,_,_,rfl,rfl,(by show(0:Int)<3;decide),_,_,rfl,rfl,_,rfl,bI (λ_=>?_) (λ_=>go _ _ ⟨rfl,lo,rfl,a0,by omega⟩)⟩
     refine⟨_,rfl,_,rfl,_,_,rfl,rfl,⟨by decide,by decide⟩,_,rfl,l,_,rfl,.inl (SqL.of hS),_,_,rfl,rfl,(by rw[Q1];exact kl),l,_,_,_,rfl,rfl,SqL.of hS,(by rw[Q1];exact pU z0 z1),_,rfl,_,_,rfl,rfl,⟨by decide,by decide⟩,_,_,rfl,rfl,two,_,_,rfl,rfl,go _ _ ⟨rfl,_,rfl,?_⟩⟩
     obtain⟨b0,b1⟩:=kb (ks.getD (n/180%ks.length).toNat 0) (yO (by omega))
     constructor<;>omega
    ·exact go _ _ ⟨rfl,lo,rfl,a0,by omega⟩
   clear a0 a1 lo
   obtain⟨rfl,lo,rfl,a0,a1⟩:=w
   have t38:(0:Int)<10^(38:Int).toNat:=by decide
   have c90:∀z:Int,0≤z%90∧z%90<10^38:=λz=>⟨Qe _ (by decide),Int.lt_trans (Qb _ (by decide)) (by decide)⟩
   have c38:∀z:Int,0≤z%10^(38:Int).toNat∧z%10^(38:Int).toNat<10^38:=λz=>⟨Qe _ (by decide),Qb _ (by decide)⟩
   have c70:∀z:Int,0≤z%70000∧z%70000<10^38:=λz=>⟨Qe _ (by decide),Int.lt_trans (Qb _ (by decide)) (by decide)⟩
   obtain⟨hi,hh,b0,b1⟩:=qI (c:=n/216000) (n:=3) (L:=[.int (n/7%90),.int (c/11%10^(38:Int).toNat),.int (n/7%70000)]) (P:=λm=>0≤m∧m<10^38) ⟨c90 _,c38 _,c70 _,trivial⟩ rfl (by decide)
   refine⟨_,rfl,_,rfl,_,_,rfl,rfl,⟨by decide,by decide⟩,_,_,rfl,rfl,(by show(0:Int)<90;decide),_,rfl,_,_,rfl,rfl,⟨by decide,by decide⟩,_,_,rfl,rfl,⟨by decide,by decide,by decide⟩,_,_,rfl,rfl,t38,_,rfl,_,_,rfl,rfl,⟨by decide,by decide⟩,_,_,rfl,rfl,(by show(0:Int)<70000;decide),l3,λp hp=>?_⟩
   refine⟨_,rfl,_,_,rfl,rfl,⟨by decide,by decide⟩,_,_,rfl,rfl,(by show(0:Int)<3;decide),p,_,_,_,rfl,rfl,SqL.of ag,hh,_,_,rfl,rfl,?_⟩
   have s0:Same H (upd H p (.lst [.int (n/7%90),.int (c/11%10^(38:Int).toNat),.int (n/7%70000)])):=ak hp
   (try dsimp only)
   generalize upd H p (.lst [.int (n/7%90),.int (c/11%10^(38:Int).toNat),.int (n/7%70000)])=H1 at s0⊢
   have q:=λH' p' a e (s:Same H1 H')=>q H' p' a e (s0.trans s)
   have th:(0:Int)<3:=by decide
   have dv:CDiv n 648000:=⟨by decide,by decide⟩
   rcases(show kd=1∨kd=2 by omega)with rfl|rfl
   ·refine⟨_,rfl,_,_,rfl,rfl,dv,_,_,rfl,rfl,th,rfl,_,rfl,bI (λy=>?_) (λy=>?_)⟩
    ·refine⟨_,rfl,rfl,_,rfl,jU rfl ⟨_,rfl,_,rfl,l3,λp hp=>?_⟩⟩
     exact q _ p (.int lo) .non (ak hp) ag (.inr (.inl ⟨rfl,lo,rfl,a0,.inl rfl⟩)) (cu (by omega)) sv
    ·refine⟨_,rfl,_,_,rfl,rfl,dv,_,_,rfl,rfl,th,rfl,_,rfl,bI (λy2=>absurd y2 y) (λ_=>?_)⟩
     refine⟨_,rfl,_,rfl,_,rfl,l2,λp1 n1=>⟨_,rfl,_,_,rfl,rfl,p1,_,_,_,rfl,rfl,SqL.of ag,rfl,_,rfl,_,rfl,l2,λp2 n2=>⟨_,rfl,_,_,rfl,rfl,p2,_,_,_,rfl,rfl,SqL.of ag,rfl,l3,λp3 n3=>?_⟩⟩⟩
     exact q _ p3 (.int lo) (.int (lo+hi)) (((ak n1).trans (ak n2)).trans (ak n3)) ag (.inr (.inl ⟨rfl,lo,rfl,a0,.inr ⟨_,rfl,by omega⟩⟩)) (cu (by omega)) (cu (by omega))
   ·refine⟨_,rfl,_,_,rfl,rfl,dv,_,_,rfl,rfl,th,rfl,_,rfl,bI (λy=>?_) (λy=>?_)⟩
    ·refine⟨_,rfl,rfl,_,rfl,bQ (λe=>by cases e) ⟨_,rfl,_,_,rfl,rfl,dv,_,_,rfl,rfl,th,rfl,_,rfl,bI (λ_=>⟨_,rfl,_,rfl,l3,λp hp=>?_⟩) (λy2=>absurd y y2)⟩⟩
     exact q _ p .non (.int lo) (ak hp) ag (.inr (.inr ⟨rfl,lo,rfl,a0,.inl rfl⟩)) sv (cu (by omega))
    ·refine⟨_,rfl,_,_,rfl,rfl,dv,_,_,rfl,rfl,th,rfl,_,rfl,bI (λy2=>absurd y2 y) (λ_=>?_)⟩
     refine⟨_,rfl,_,rfl,_,rfl,l2,λp1 n1=>⟨_,rfl,_,_,rfl,rfl,p1,_,_,_,rfl,rfl,SqL.of ag,rfl,_,rfl,_,rfl,l2,λp2 n2=>⟨_,rfl,_,_,rfl,rfl,p2,_,_,_,rfl,rfl,SqL.of ag,rfl,l3,λp3 n3=>?_⟩⟩⟩
     exact q _ p3 (.int (lo+hi)) (.int lo) (((ak n1).trans (ak n2)).trans (ak n3)) ag (.inr (.inr ⟨rfl,lo,rfl,a0,.inr ⟨_,rfl,by omega⟩⟩)) (cu (by omega)) (cu (by omega))
theorem uM {C N:Addr} {kd:Str} {ok:V→V→Prop} {a e:V} {H:Hp} {Q:VK} {E:XK} (ho:ok a e) (sa:Sc a) (se:Sc e) (x dx:Addr) (nx:H x=none) (nd:H dx=none)
  (q:∀H' fs,Same H H'→H' x=some (.ins C dx fs)→u9 kd fs a e→Q .non H'):vn C N kd ok [.ref x,a,e] (upd (upd H dx (.own x)) x (.ins C dx [])) Q E:=
 ⟨x,dx,a,e,rfl,ag,sa,se,λ_ H' fs k h f=>q H' fs (wz nx nd k) h f,λz=>absurd ho z⟩
def p7 (K:PySem.W.Frag) (t:Adr):Sp:=λvs H Q _=>∃(n:Addr) (kd:Int) (a e:V),vs=[.ref n]∧SqT K H n [.int kd,a,e]∧okN kd a e∧∀H' p,Same H H'→H p=none→AS t H' p kd a e→Q (.ref p) H'
theorem qj (T:Txt K mg t):FnOk P w K mg base CX0 5 t.mh t.iA ["_law_numbers_here"] (p7 K t):=by
 have G1:= @mN P w K mg base t T
 have Gd:= @qo P w K mg base t T
 have Ja:= @tF P w K mg base t T
 refine T.sD.ok qf (λvs H Q E h=>?_) (λcdv A outer s H vs Q E hr h=>?_)
 ·obtain⟨n,kd,a,e,rfl,_⟩:=h
  rfl
 ·obtain⟨n,kd,a,e,rfl,hn,ho,q⟩:=h
  refine⟨_,(af (aV (au bH (aW d6 (pv 0) ae (λ_ _=>rfl)) ae (ax _))
   (ai (aG (oq T.BX G1 (hr.mono (by decide)) (by rfl) T.BY T.xG .nil az (aa (aW d6 (pv 0) ae (λ_ _=>rfl)) (aa (aW d6 (pv 0) ae (λ_ _=>rfl)) ah)))))
   aF)
   (af (aV (au bH (aW d6 (pv 0) ae (λ_ _=>rfl)) ae (ax _))
   (ai (aG (oq T.DN Ja (hr.mono (by decide)) (by rfl) T.DO T.CA .nil az (aa (aW d6 (pv 0) ae (λ_ _=>rfl)) (aa (aW d6 (pv 0) ae (λ_ _=>rfl)) ah)))))
   aF)
   (ai (aG (oq T.DE Gd (hr.mono (by decide)) (by rfl) T.DF T.AN .nil az (aa (aW d6 (pv 0) ae (λ_ _=>rfl)) (aa (aW d6 (pv 0) ae (λ_ _=>rfl)) ah)))))))
   ,?_⟩
  obtain⟨sa,se⟩:=ho.sc
  rcases ho.kd with rfl|rfl|rfl
  ·refine⟨_,rfl,n,_,_,_,rfl,rfl,hn,rfl,rfl,_,rfl,jU rfl ⟨_,rfl,n,_,_,_,rfl,rfl,hn,rfl,_,rfl,n,_,_,_,rfl,rfl,hn,rfl,λx dx nx nd ne=>?_⟩⟩
   exact uM ho.s sa se x dx nx nd λH' fs s h f=>⟨rfl,q H' x s nx ⟨dx,fs,h,f⟩⟩
  ·refine⟨_,rfl,n,_,_,_,rfl,rfl,hn,rfl,rfl,_,rfl,bQ (λz=>by cases z) ⟨_,rfl,n,_,_,_,rfl,rfl,hn,rfl,rfl,_,rfl,jU rfl ⟨_,rfl,n,_,_,_,rfl,rfl,hn,rfl,_,rfl,n,_,_,_,rfl,rfl,hn,rfl,λx dx nx nd ne=>?_⟩⟩⟩
   exact uM ho.u sa se x dx nx nd λH' fs s h f=>⟨rfl,q H' x s nx ⟨dx,fs,h,f⟩⟩
  ·refine⟨_,rfl,n,_,_,_,rfl,rfl,hn,rfl,rfl,_,rfl,bQ (λz=>by cases z) ⟨_,rfl,n,_,_,_,rfl,rfl,hn,rfl,rfl,_,rfl,bQ (λz=>by cases z) ⟨_,rfl,n,_,_,_,rfl,rfl,hn,rfl,_,rfl,n,_,_,_,rfl,rfl,hn,rfl,λx dx nx nd ne=>?_⟩⟩⟩
   exact uM ho.d sa se x dx nx nd λH' fs s h f=>⟨rfl,q H' x s nx ⟨dx,fs,h,f⟩⟩
theorem qF:(0:Int)<10^(38:Int).toNat:=by decide
theorem Bp {i m:Int} (h0:0≤i) (h1:i≤11) (m0:0≤m) (m1:m≤65536):0≤i*m∧i*m≤720896:=⟨Int.mul_nonneg h0 m0,Int.le_trans (Int.mul_le_mul h1 m1 m0 (by decide)) (by decide)⟩
def Aa (H:Hp) (c n way:Int):St→Hp→Prop:=λσ H'=>H=H'∧∃st:Int,σ=[some (.int c),some (.int st),some (.int n),some (.int way),none]∧0≤st∧st≤10^38
def sP:Sp:=λvs H Q _=>∃c:Int,vs=[.int c]∧∀(H':Hp) (r:Addr) (rs:List Int),Same H H'→H r=none→H' r=some (.lst (rs.map V.int))→rs.length≤12→(∀k∈rs,0≤k∧k<10^39)→Q (.ref r) H'
theorem tE (T:Txt K mg t):FnOk P w K mg base CX0 2 t.pZ t.kT ["_law_cell"] sP:=by
 have Je:= @jZ P w K mg base t T
 refine T.vc.ok sc__law_run (λvs H Q E h=>?_) (λcdv A outer s H vs Q E hr h=>?_)
 ·obtain⟨c,rfl,_⟩:=h
  rfl
 ·obtain⟨c,rfl,q⟩:=h
  refine⟨_,(af (aV (au bH (al aK (pv 0) ae) ae (ax _))
   (af (aD (i:=1) sc__law_run.nd rfl (Or.inr rfl) (al aK (al aM (pv 0) ae) (al gu ae ae)))
   (ai (aG (ot rfl (CScope.of (M:=["_law_k"]) (N:=["_law_cell","_law_start","_law_number","_law_way","_law_step"]) (N':=["_law_cell","_law_start","_law_number","_law_way","_law_step"]) (dsc:=aj eV) rfl rfl (by decide+kernel)) (eO (by rfl) T.k8 (aa (al bx ae (al aK (al aM (pv 0) ae) ae)) ah)) (λ_ _ _ _ _=>(al bx (pv 2) (al cY (pv 0) (aW (yI K rfl) (bZ (aa ae (aa ae (aa ae (aa ae (aa ae ah)))))) (al aK (al aM (pv 1) ae) ae) (λ_ _=>rfl)))))))))
   aF)
   (af (aD (i:=2) sc__law_run.nd rfl (Or.inl rfl) (aQ Je (hr.mono (by decide)) (by rfl) T.r6 T.mr.kp T.sw .nil az (aa (pv 0) (aa ae ah))))
   (af (aD (i:=3) sc__law_run.nd rfl (Or.inl rfl) (al aK (pv 2) ae))
   (af (aD (i:=1) sc__law_run.nd rfl (Or.inr rfl) (al aK (al aM (pv 2) ae) ae))
   (af (aV (au bH (pv 3) ae (ax _))
   (ai (aD (i:=1) sc__law_run.nd rfl (Or.inr rfl) (al aK (al aM (pv 0) ae) (al gu ae ae))))
   aF)
   (af (aV (au bH (pv 3) ae (ax _))
   (ai (aD (i:=1) sc__law_run.nd rfl (Or.inr rfl) (al cY ae (al aK (al aM (pv 2) ae) ae))))
   aF)
   (af (aV (au bH (pv 3) ae (ax _))
   (ai (aD (i:=1) sc__law_run.nd rfl (Or.inr rfl) (al bx (al cY ae (al aK (al aM (pv 2) ae) ae)) (al aK (al aM (pv 2) ae) ae))))
   aF)
   (af (aV (au bH (pv 3) ae (ax _))
   (ai (aD (i:=1) sc__law_run.nd rfl (Or.inr rfl) (al aK (al aM (pv 2) ae) ae)))
   aF)
   (af (aD (i:=4) sc__law_run.nd rfl (Or.inr rfl) (aW aN (bZ (aa ae (aa ae (aa ae (aa ae (aa ae ah)))))) (al aK (al aM (pv 2) ae) ae) (λ_ _=>rfl)))
   (ai (aG (ot rfl (CScope.of (M:=["_law_k"]) (N:=["_law_cell","_law_start","_law_number","_law_way","_law_step"]) (N':=["_law_cell","_law_start","_law_number","_law_way","_law_step"]) (dsc:=aj eV) rfl rfl (by decide+kernel)) (eO (by rfl) T.k8 (aa (al bx ae (al aK (al aM (pv 2) ae) ae)) ah)) (λ_ _ _ _ _=>(al bx (pv 2) (al cY (pv 0) (pv 5))))))))))))))))
   ,?_⟩
  have two:(0:Int)<2:=by decide
  have t38:(10:Int)^(38:Int).toNat=10^38:=rfl
  refine⟨_,rfl,_,_,rfl,rfl,two,rfl,_,rfl,bI (λz=>?_) (λz=>?_)⟩
  ·have s0:=Qe (c/120) (ZD qF)
   have s1:=Qb (c/120) qF
   refine⟨_,rfl,_,_,rfl,rfl,⟨by decide,by decide⟩,_,_,rfl,rfl,⟨by decide,by decide,by decide⟩,_,_,rfl,rfl,qF,?_⟩
   (try dsimp only)
   generalize c/120%10^(38:Int).toNat=st at s0 s1⊢
   rw[t38]at s1
   have b0:=Qe (c/2) (show(12:Int)≠0 by decide)
   have b1:=Qb (c/2) (show(0:Int)<12 by decide)
   refine⟨_,rfl,_,_,rfl,rfl,⟨by decide,by decide⟩,_,_,rfl,rfl,(by show(0:Int)<12;decide),_,_,rfl,rfl,?_⟩
   (try dsimp only)
   generalize c/2%12=m at b0 b1⊢
   refine⟨1+m,rfl,by omega,by omega,λD hD=>kU (n:=(1+m).toNat) (lo:=0) (λi ys H2=>Same H H2∧∃rs:List Int,ys=rs.map V.int∧rs.length=i∧∀k∈rs,0≤k∧k<10^39) ⟨ak hD,[],rfl,rfl,λ_ z=>absurd z Z8⟩ (λi ys H2 hi w hDD=>?_) (λys H2 w hDD=>?_)⟩
   ·obtain⟨s2,rs,rfl,lr,hb⟩:=w
    obtain⟨sp,hsp,p0,p1⟩:=qI (c:=c/24) (n:=5) (L:=[.int 1,.int 3,.int 256,.int 65536,.int 5000]) (P:=λm=>0≤m∧m≤65536) ⟨⟨by decide,by decide⟩,⟨by decide,by decide⟩,⟨by decide,by decide⟩,⟨by decide,by decide⟩,⟨by decide,by decide⟩,trivial⟩ rfl (by decide)
    refine⟨_,rfl,_,rfl,(by show 5≤sizeLine;decide),λp np=>⟨_,rfl,_,_,rfl,rfl,⟨by decide,by decide⟩,_,_,rfl,rfl,(by show(0:Int)<5;decide),p,_,_,_,rfl,rfl,SqL.of ag,hsp,_,_,rfl,rfl,.inr ⟨by omega,by omega⟩,_,_,rfl,rfl,?_⟩⟩
    have sp3:=ak (o:= .lst [.int 1,.int 3,.int 256,.int 65536,.int 5000]) np
    (try dsimp only)
    generalize upd H2 p (.lst [.int 1,.int 3,.int 256,.int 65536,.int 5000])=H3 at sp3⊢
    obtain⟨x0,x1⟩:=Bp (i:=0+(i:Int)) (by omega) (by omega) p0 p1
    generalize (0+(i:Int))*sp=x at x0 x1⊢
    refine CNext.mk hi (sp3 _ _ hDD) (bT (by rw[Q1];omega)) ⟨dN (s2.trans sp3) hD,rs++ [st+x],by rw[Qr];rfl,by rw[Qa,lr];rfl,λk hk=>?_⟩
    rcases Q4.mp hk with hk|hk
    ·exact hb k hk
    ·rw[Q8.mp hk]
     constructor<;>omega
   ·obtain⟨s2,rs,rfl,lr,hb⟩:=w
    exact q H2 D rs s2 hD hDD (by omega) hb
  clear z
  refine⟨_,rfl,c,1,rfl,λn n0 n1=>?_⟩
  refine⟨_,rfl,_,_,rfl,rfl,(by show(0:Int)<5;decide),?_⟩
  (try dsimp only)
  generalize n%5=way
  have s0:=Qe (n/5) (show(50:Int)≠0 by decide)
  have s1:=Qb (n/5) (show(0:Int)<50 by decide)
  refine⟨_,rfl,_,_,rfl,rfl,⟨by decide,by decide⟩,_,_,rfl,rfl,(by show(0:Int)<50;decide),?_⟩
  (try dsimp only)
  generalize n/5%50=st at s0 s1⊢
  refine cw (Aa H c n way) (λnx go=>?_) (λσ1 H1 w=>?_)
  ·refine⟨_,rfl,rfl,_,rfl,bI (λz=>?_) (λz=>go _ _ ⟨rfl,st,rfl,s0,by omega⟩)⟩
   have a0:=Qe (c/5) (ZD qF)
   have a1:=Qb (c/5) qF
   refine⟨_,rfl,_,_,rfl,rfl,⟨by decide,by decide⟩,_,_,rfl,rfl,⟨by decide,by decide,by decide⟩,_,_,rfl,rfl,qF,go _ _ ⟨rfl,_,rfl,a0,?_⟩⟩
   rw[t38]at a1⊢
   omega
  clear s0 s1 st
  obtain⟨rfl,st,rfl,s0,s1⟩:=w
  refine cw (Aa H c n way) (λnx go=>?_) (λσ1 H1 w=>?_)
  ·refine⟨_,rfl,rfl,_,rfl,bI (λz=>?_) (λz=>go _ _ ⟨rfl,st,rfl,s0,s1⟩)⟩
   have a0:=Qe (n/5) (show(40:Int)≠0 by decide)
   have a1:=Qb (n/5) (show(0:Int)<40 by decide)
   exact⟨_,rfl,_,_,rfl,rfl,⟨by decide,by decide⟩,_,_,rfl,rfl,(by show(0:Int)<40;decide),_,_,rfl,rfl,.inl ⟨by decide,by decide⟩,go _ _ ⟨rfl,_,rfl,by omega,by omega⟩⟩
  clear s0 s1 st
  obtain⟨rfl,st,rfl,s0,s1⟩:=w
  refine cw (Aa H c n way) (λnx go=>?_) (λσ1 H1 w=>?_)
  ·refine⟨_,rfl,rfl,_,rfl,bI (λz=>?_) (λz=>go _ _ ⟨rfl,st,rfl,s0,s1⟩)⟩
   have a0:=Qe (n/5) (show(9:Int)≠0 by decide)
   have a1:=Qb (n/5) (show(0:Int)<9 by decide)
   have b0:=Qe (n/45) (show(7:Int)≠0 by decide)
   have b1:=Qb (n/45) (show(0:Int)<7 by decide)
   exact⟨_,rfl,_,_,rfl,rfl,⟨by decide,by decide⟩,_,_,rfl,rfl,(by show(0:Int)<9;decide),_,_,rfl,rfl,.inl ⟨by decide,by decide⟩,_,rfl,_,_,rfl,rfl,⟨by decide,by decide⟩,_,_,rfl,rfl,(by show(0:Int)<7;decide),_,_,rfl,rfl,go _ _ ⟨rfl,_,rfl,by omega,by omega⟩⟩
  clear s0 s1 st
  obtain⟨rfl,st,rfl,s0,s1⟩:=w
  refine cw (Aa H c n way) (λnx go=>?_) (λσ1 H1 w=>?_)
  ·refine⟨_,rfl,rfl,_,rfl,bI (λz=>?_) (λz=>go _ _ ⟨rfl,st,rfl,s0,s1⟩)⟩
   have a0:=Qe (n/5) (show(3000:Int)≠0 by decide)
   have a1:=Qb (n/5) (show(0:Int)<3000 by decide)
   exact⟨_,rfl,_,_,rfl,rfl,⟨by decide,by decide⟩,_,_,rfl,rfl,(by show(0:Int)<3000;decide),go _ _ ⟨rfl,_,rfl,by omega,by omega⟩⟩
  clear s0 s1 st
  obtain⟨rfl,st,rfl,s0,s1⟩:=w
  obtain⟨sp,hsp,p0,p1⟩:=qI (c:=n/20000) (n:=5) (L:=[.int 1,.int 3,.int 256,.int 65536,.int 5000]) (P:=λm=>0≤m∧m≤65536) ⟨⟨by decide,by decide⟩,⟨by decide,by decide⟩,⟨by decide,by decide⟩,⟨by decide,by decide⟩,⟨by decide,by decide⟩,trivial⟩ rfl (by decide)
  refine⟨(by show 5≤sizeLine;decide),λp np=>⟨_,rfl,_,_,rfl,rfl,⟨by decide,by decide⟩,_,_,rfl,rfl,(by show(0:Int)<5;decide),p,_,_,_,rfl,rfl,SqL.of ag,hsp,?_⟩⟩
  have sp3:=ak (o:= .lst [.int 1,.int 3,.int 256,.int 65536,.int 5000]) np
  (try dsimp only)
  generalize upd H p (.lst [.int 1,.int 3,.int 256,.int 65536,.int 5000])=H3 at sp3⊢
  have b0:=Qe (n/100000) (show(12:Int)≠0 by decide)
  have b1:=Qb (n/100000) (show(0:Int)<12 by decide)
  refine⟨_,rfl,_,_,rfl,rfl,⟨by decide,by decide⟩,_,_,rfl,rfl,(by show(0:Int)<12;decide),_,_,rfl,rfl,?_⟩
  (try dsimp only)
  generalize n/100000%12=m at b0 b1⊢
  refine⟨1+m,rfl,by omega,by omega,λD hD=>kU (n:=(1+m).toNat) (lo:=0) (λi ys H2=>Same H3 H2∧∃rs:List Int,ys=rs.map V.int∧rs.length=i∧∀k∈rs,0≤k∧k<10^39) ⟨ak hD,[],rfl,rfl,λ_ z=>absurd z Z8⟩ (λi ys H2 hi w hDD=>?_) (λys H2 w hDD=>?_)⟩
  ·obtain⟨s2,rs,rfl,lr,hb⟩:=w
   obtain⟨x0,x1⟩:=Bp (i:=0+(i:Int)) (by omega) (by omega) p0 p1
   refine⟨_,rfl,_,rfl,_,rfl,_,_,rfl,rfl,.inr ⟨by omega,by omega⟩,_,_,rfl,rfl,?_⟩
   (try dsimp only)
   generalize (0+(i:Int))*sp=x at x0 x1⊢
   refine CNext.mk hi hDD (bT (by rw[Q1];omega)) ⟨dN s2 hD,rs++ [st+x],by rw[Qr];rfl,by rw[Qa,lr];rfl,λk hk=>?_⟩
   rcases Q4.mp hk with hk|hk
   ·exact hb k hk
   ·rw[Q8.mp hk]
    constructor<;>omega
  ·obtain⟨s2,rs,rfl,lr,hb⟩:=w
   exact q H2 D rs (sp3.trans s2) (sm sp3 hD) hDD (by omega) hb
def Wh (F:Addr→Prop) (d:Addr):Addr→Prop:=λb=>F b∨b=d
theorem Fr.wh {F F':Addr→Prop} {d:Addr} {H H':Hp} (f:Fr F F' H H'):Fr (Wh F d) (Wh F' d) H H':=λb o n eb=>⟨(f b o (λz=>n (.inl z)) eb).1,λz=>z.elim (f b o (λz=>n (.inl z)) eb).2 λz=>n (.inr z)⟩
theorem Fr.wd {F:Addr→Prop} {d:Addr} {H:Hp} {o:HO}:Fr (Wh F d) (Wh F d) H (upd H d o):=λb o n eb=>⟨by rw[ac λz=>n (.inr z)];exact eb,n⟩
structure Jh (K:PySem.W.Frag) (t:Adr) (H:Hp) (a d:Addr) (F:Addr→Prop) (x:HSt):Prop where
 A:HoA K t H a F x
 di:H d=some (.dK (aS x.st.kv))
 nd:¬F d
 kb:∀k∈x.st.kv.map (·.1),0≤k∧k<10^40
 iv:∀p∈x.st.kv,∃i:Int,p.2= .int i
 le:x.st.kv.length≤301
 ma:x.ma=0
theorem BN {kv:List (Int×V)} {k i:Int} (h:∀p∈kv,∃i:Int,p.2= .int i):∀p∈bi kv k (.int i),∃i:Int,p.2= .int i:=λp hp=>by
 unfold bi at hp
 split at hp
 ·obtain⟨q,hq,rfl⟩:=Ql.mp hp
  by_cases c:q.1=k
  ·exact⟨i,by rw[if_pos c]⟩
  ·rw[if_neg c]
   exact h q hq
 ·rcases Q4.mp hp with y|y
  ·exact h p y
  ·rw[Q8.mp y];exact⟨i,rfl⟩
section
variable {H H':Hp} {a d:Addr} {F F':Addr→Prop} {x:HSt} {k i:Int}
theorem Jh.fr (J:Jh K t H a d F x) (A:HoA K t H' a F' x) (f:Fr F F' H H'):Jh K t H' a d F' x:=⟨A,(f _ _ J.nd J.di).1,(f _ _ J.nd J.di).2,J.kb,J.iv,J.le,J.ma⟩
theorem Jh.same (J:Jh K t H a d F x) (s:Same H H'):Jh K t H' a d F x:=J.fr (J.A.same s) (Fr.of_same s)
theorem Jh.put (J:Jh K t H a d F x) {x':HSt} (A:HoA K t H' a F' x') (f:Fr F F' H H') (e:x'.st=x.st.put k (.int i)) (m:x'.ma=x.ma) (k0:0≤k∧k<10^40) (l:x.st.kv.length≤300):Jh K t (L2.upd H' d (.dK (aS (bi x.st.kv k (.int i))))) a d F' x':=by
 obtain⟨d1,n1⟩:=f _ _ J.nd J.di
 have ek:x'.st.kv=bi x.st.kv k (.int i):=by rw[e];exact SSt.three_kv
 refine⟨A.upd n1 (λxs z=>by rw[d1]at z;cases z),by rw[ek];exact ag,n1,λz hz=>?_,by rw[ek];exact BN J.iv,?_,m.trans J.ma⟩
 ·rw[ek,lZ]at hz
  split at hz
  ·exact J.kb z hz
  ·rcases Q4.mp hz with y|y
   ·exact J.kb z y
   ·rw[Q8.mp y];exact k0
 ·rw[ek]
  have:=b3 x.st.kv k (.int i)
  omega
theorem Jh.drop (J:Jh K t H a d F x) {x':HSt} (A:HoA K t H' a F' x') (f:Fr F F' H H') (e:x'.st=x.st.drop k) (m:x'.ma=x.ma):Jh K t (L2.upd H' d (.dK (aS (bv x.st.kv k)))) a d F' x':=by
 obtain⟨d1,n1⟩:=f _ _ J.nd J.di
 have ek:x'.st.kv=bv x.st.kv k:=by rw[e];exact SSt.three_kv
 have sub:∀p∈bv x.st.kv k,p∈x.st.kv:=λp hp=>(ZS.mp hp).1
 refine⟨A.upd n1 (λxs z=>by rw[d1]at z;cases z),by rw[ek];exact ag,n1,λz hz=>?_,by rw[ek];exact λp hp=>J.iv p (sub p hp),?_,m.trans J.ma⟩
 ·rw[ek]at hz
  obtain⟨p,hp,rfl⟩:=Ql.mp hz
  exact J.kb _ (Ql.mpr ⟨p,sub p hp,rfl⟩)
 ·rw[ek]
  exact QF (QN _ _) J.le
end
def rJ (K:PySem.W.Frag) (t:Adr):Sp:=λvs H Q _=>∃(a d:Addr) (c:Int) (F:Addr→Prop) (x:HSt),vs=[.ref a,.ref d,.int c]∧Jh K t H a d F x∧x.now<3900∧x.st.kv.length≤300∧
 ∀(H':Hp) (F':Addr→Prop) (x':HSt),Jh K t H' a d F' x'→x'.now≤x.now+12→x'.st.kv.length≤300→Fr (Wh F d) (Wh F' d) H H'→Q .non H'
theorem rV (T:Txt K mg t):FnOk P w K mg base CX0 7 t.nu t.jr ["_law_house_here","_law_kept","_law_cell"] (rJ K t):=by
 have Gg:= @pC P w K mg base t T
 have Gj:= @qm P w K mg base t T
 have Jj:= @tE P w K mg base t T
 refine T.t9.ok sc__law_deed (λvs H Q E h=>?_) (λcdv A outer s H vs Q E hr h=>?_)
 ·obtain⟨a,d,c,F,x,rfl,_⟩:=h
  rfl
 ·obtain⟨a,d,c,F,x,rfl,J,l1,l0,q⟩:=h
  refine⟨_,(af (aD (i:=3) sc__law_deed.nd rfl (Or.inl rfl) (aQ Jj (hr.mono (by decide)) (by rfl) T.B6 T.vc.kp T.Cz .nil az (aa (al aM (pv 2) ae) ah)))
   (ai (kI PassesOwn.never rfl (eO (by rfl) T.k8 (aa (aI ay (by rfl) T.bN bn (aa (pv 3) ah)) ah)) (bU (i:=4) sc__law_deed.nd rfl (Or.inl rfl))
   (ai (aV (au bH (al aK (pv 2) ae) ae (ax _))
   (ai (aV (yb (yj (qV hr) (aW aN (pv 3) (pv 4) (λ_ _=>rfl)) (pv 1)))
   (af (aP (a9 (pv 0) T.aL T.zx Gg (hr.mono (by decide)) T.zF .nil az (aa (aW aN (pv 3) (pv 4) (λ_ _=>rfl)) ah)))
   (ai (aP (fk Z9 ZW PySem.F.type_dict_pop vC (pv 1) (aa (aW aN (pv 3) (pv 4) (λ_ _=>rfl)) ah)))))
   aF))
   (ai (aV (au iL (aI xm (by rfl) T.bN bn (aa (pv 1) ah)) ae (ax _))
   (af (aD (i:=5) sc__law_deed.nd rfl (Or.inl rfl) (al cY (al aK (al bx (al aM (pv 2) ae) (pv 4)) (al gu ae ae)) (aW aN (bZ (aa ae (aa (Bl xR ae) ah))) (al aK (al aM (pv 2) ae) ae) (λ_ _=>rfl))))
   (af (aV (au bH (al aK (al aM (pv 2) ae) ae) ae (ax _))
   (ai (aD (i:=5) sc__law_deed.nd rfl (Or.inl rfl) (al iq (al aK (al bx (al tw (pv 2) (al cY ae (al gu ae ae))) (pv 4)) (al cY ae (al gu ae ae))) (al gu ae ae))))
   aF)
   (af (aP (a9 (pv 0) T.aL T.Av Gj (hr.mono (by decide)) T.AM .nil az (aa (aW aN (pv 3) (pv 4) (λ_ _=>rfl)) (aa (pv 5) ah))))
   (ai (rO (qV hr) (pv 1) (aW aN (pv 3) (pv 4) (λ_ _=>rfl)) (pv 5) rfl)))))
   aF)))))))
   ,?_⟩
  refine⟨_,rfl,_,_,rfl,rfl,⟨by decide,by decide⟩,_,rfl,λH1 r rs s1 nr hr lr rb=>?_⟩
  have J1:=J.same s1
  have nF:¬F r:=J.A.out nr
  have nrd:r≠d:=am J.di nr|>.symm
  refine⟨_,rfl,r,_,rfl,.inl (SqL.of hr),?_⟩
  rw[Q1]
  refine⟨(rs.length:Int),rfl,by omega,by omega,pR (n:=(rs.length:Int).toNat) (λi σ H'=>∃(F':Addr→Prop) (x':HSt) (v4 v5:Option V),σ=[some (.ref a),some (.ref d),some (.int c),some (.ref r),v4,v5]∧Jh K t H' a d F' x'∧x'.now≤x.now+i∧x'.st.kv.length≤300∧Fr (Wh F d) (Wh F' d) H1 H') ⟨F,x,none,none,rfl,J1,by omega,l0,Fr.refl⟩ (λi σ H2 hi w=>?_) (λσ H2 w=>?_)⟩
  ·obtain⟨F2,x2,v4,v5,rfl,J2,l2,e2,f2⟩:=w
   obtain⟨hr2,nr2⟩:=f2 _ _ (λz=>z.elim nF nrd) hr
   have hi':i<rs.length:=by omega
   obtain⟨k,ek⟩:∃k,rs[i]?=some k:=⟨_,Q3 hi'⟩
   obtain⟨k0,k1⟩:=rb k (Q0 ek)
   have at1:atI (rs.map V.int) (0+(i:Int))=some (.int k):=by
    rw[Int.zero_add]
    refine oz ?_
    rw[QD,ek]
    rfl
   obtain⟨dx2,fs2,hi2,hm2,_⟩:=J2.A.ins
   have m2:=J2.ma
   refine⟨_,rfl,_,_,rfl,rfl,(by show(0:Int)<4;decide),rfl,_,rfl,bI (λz=>?_) (λz=>?_)⟩
   ·refine⟨_,rfl,_,rfl,r,_,_,_,rfl,rfl,SqL.of hr2,at1,_,rfl,d,_,rfl,DGet.k (k:=Sum.inl k) J2.di,_,rfl,?_⟩
    rw[liftK_val]
    cases ev:aO x2.st.kv k with
    |none=>exact fz ⟨F2,x2,_,_,rfl,J2,by omega,e2,f2⟩
    |some v=>
     refine dj ⟨_,rfl,a,dx2,fs2,rfl,hi2,hm2 _ (by decide+kernel),_,rfl,_,rfl,r,_,_,_,rfl,rfl,SqL.of hr2,at1,a,k,F2,x2,rfl,J2.A,k0,by omega,λ_ H3 F3 ks3 r3 q3 pa3 A3 N3 f3=>?_,λz=>by rw[ev]at z;cases z⟩
     obtain⟨d3,n3⟩:=f3 _ _ J2.nd J2.di
     obtain⟨hr3,nr3⟩:=f3 _ _ (λz=>nr2 (.inl z)) hr2
     refine⟨_,rfl,.inr (.inr (.inl ⟨rfl,.inl ⟨_,d3⟩⟩)),_,rfl,_,rfl,r,_,_,_,rfl,rfl,SqL.of hr3,at1,d,_,Sum.inl k,v,rfl,rfl,d3,liftK_val.trans ev,?_⟩
     rw[pM]
     exact⟨F3,_,_,_,rfl,J2.drop A3 f3 rfl rfl,by show x2.now+1≤_;omega,by rw[show(x2.st.drop k).kv=bv x2.st.kv k from SSt.three_kv];exact QF (QN _ _) e2,(f2.trans f3.wh).trans Fr.wd⟩
   ·refine⟨_,rfl,d,_,rfl,J2.di,_,_,rfl,rfl,_,rfl,bI (λy=>?_) (λy=>⟨F2,x2,_,_,rfl,J2,by omega,e2,f2⟩)⟩
    have y:=of_decide_eq_true y
    rw[eP]at y
    refine cw (λσ H'=>∃v:Int,σ=[some (.ref a),some (.ref d),some (.int c),some (.ref r),some (.int (0+(i:Int))),some (.int v)]∧Same H2 H') (λnx go=>?_) (λσ H3 w=>?_)
    ·obtain⟨sg,hsg,g0⟩:=qI (c:=c/16) (n:=2) (L:=[.int 1,.int (-1)]) (P:=λm=> -2<m∧m<2) ⟨⟨by decide,by decide⟩,⟨by decide,by decide⟩,trivial⟩ rfl (by decide)
     exact⟨_,rfl,_,_,rfl,rfl,⟨by decide,by decide⟩,_,rfl,_,_,rfl,rfl,_,_,rfl,rfl,⟨by decide,by decide,by decide⟩,_,_,rfl,rfl,oE,_,rfl,(by show 2≤sizeLine;decide),λp np=>⟨_,rfl,_,_,rfl,rfl,⟨by decide,by decide⟩,_,_,rfl,rfl,(by show(0:Int)<2;decide),p,_,_,_,rfl,rfl,SqL.of ag,hsg,_,_,rfl,rfl,.inr ⟨by omega,by omega⟩,go _ _ ⟨_,rfl,ak np⟩⟩⟩
    obtain⟨v,rfl,s3⟩:=w
    refine cw (λσ H'=>∃v:Int,σ=[some (.ref a),some (.ref d),some (.int c),some (.ref r),some (.int (0+(i:Int))),some (.int v)]∧Same H2 H') (λnx go=>?_) (λσ H4 w=>?_)
    ·refine⟨_,rfl,_,_,rfl,rfl,⟨by decide,by decide⟩,_,_,rfl,rfl,(by show(0:Int)<2;decide),rfl,_,rfl,bI (λ_=>?_) (λ_=>go _ _ ⟨v,rfl,s3⟩)⟩
     exact⟨_,rfl,_,_,rfl,rfl,⟨by decide,by decide,by decide⟩,_,_,rfl,rfl,.inl ⟨by decide,by decide⟩,_,_,rfl,rfl,⟨by decide,by decide⟩,_,rfl,_,_,rfl,rfl,_,_,rfl,rfl,⟨by decide,by decide,by decide⟩,_,_,rfl,rfl,.inl ⟨by decide,by decide⟩,_,_,rfl,rfl,(by show(0:Int)<2*10^(39:Int).toNat;decide),_,_,rfl,rfl,⟨by decide,by decide,by decide⟩,_,_,rfl,rfl,go _ _ ⟨_,rfl,s3⟩⟩
    clear s3 v
    obtain⟨v,rfl,s4⟩:=w
    have J4:=J2.same s4
    obtain⟨dx4,fs4,hi4,hm4,_⟩:=J4.A.ins
    have hr4:=s4 _ _ hr2
    refine⟨_,rfl,a,dx4,fs4,rfl,hi4,hm4 _ (by decide+kernel),_,rfl,_,rfl,r,_,_,_,rfl,rfl,SqL.of hr4,at1,_,rfl,a,k,v,F2,x2,rfl,J4.A,k0,by omega,λH5 F5 ks5 r5 q5 pa5 A5 N5 f5=>?_⟩
    obtain⟨d5,n5⟩:=f5 _ _ J4.nd J4.di
    obtain⟨hr5,nr5⟩:=f5 _ _ (λz=>nr2 (.inl z)) hr4
    refine⟨_,rfl,_,rfl,_,rfl,_,rfl,r,_,_,_,rfl,rfl,SqL.of hr5,at1,d,_,rfl,DPut.k (k:=Sum.inl k) d5 (by rw[eP];exact dM (by omega)),?_⟩
    rw[gT]
    exact⟨F5,_,_,_,rfl,J4.put A5 f5 rfl rfl ⟨k0,by omega⟩ (by omega),by show x2.now+1≤_;omega,by rw[show(x2.st.put k (.int v)).kv=bi x2.st.kv k (.int v) from SSt.three_kv];have:=b3 x2.st.kv k (.int v);omega,(f2.trans ((Fr.of_same s4).trans f5.wh)).trans Fr.wd⟩
  ·obtain⟨F2,x2,v4,v5,rfl,J2,l2,e2,f2⟩:=w
   exact q H2 F2 x2 J2 (by omega) e2 ((Fr.of_same s1).trans f2)
def p9 (K:PySem.W.Frag) (t:Adr):Sp:=λvs H Q _=>∃(l:Addr) (cs:List Int),vs=[.ref l]∧H l=some (.lst (cs.map V.int))∧cs.length≤63∧
 ∀(H':Hp) (r a d:Addr) (F:Addr→Prop) (x:HSt),H r=none→¬F r→H' r=some (.tup [.ref a,.ref d])→Jh K t H' a d F x→x.now≤12*cs.length→x.st.kv.length≤300→(∀b o,H b=some o→H' b=some o∧¬Wh F d b)→Q (.ref r) H'
theorem qk (T:Txt K mg t):FnOk P w K mg base CX0 8 t.mj t.iC ["_law_cells"] (p9 K t):=by
 have Gh:= @pB P w K mg base t T
 have Jc:= @rV P w K mg base t T
 refine T.sE.ok sc__law_house (λvs H Q E h=>?_) (λcdv A outer s H vs Q E hr h=>?_)
 ·obtain⟨l,cs,rfl,_⟩:=h
  rfl
 ·obtain⟨l,cs,rfl,hl,ll,q⟩:=h
  refine⟨_,(af (aD (i:=1) sc__law_house.nd rfl (Or.inl rfl) (lP T.Dk Gh (hr.mono (by decide)) (by rfl) T.Dn T.zE .nil az))
   (af (aD (i:=2) sc__law_house.nd rfl (Or.inl rfl) dO)
   (af (kI PassesOwn.never rfl (lO (pv 0)) (bU (i:=3) sc__law_house.nd rfl (Or.inl rfl))
   (ai (aP (aQ Jc (hr.mono (by decide)) (by rfl) T.Br T.t9.kp T.Bv .nil az (aa (pv 1) (aa (pv 2) (aa (pv 3) ah)))))))
   (ai (aG (cH (aa (pv 1) (aa (pv 2) ah))))))))
   ,?_⟩
  refine λa dx na nd nad=>⟨a,dx,rfl,ag,λH1 F1 A1 f1=>⟨rfl,λd n1=>?_⟩⟩
  have o1:∀b o,H b=some o→H1 b=some o∧¬F1 b:=λb o e=>f1 b o (am e na) (by rw[ac (am e na),ac (am e nd)];exact e)
  have J2:Jh K t (upd H1 d (.dK [])) a d F1 HSt.new:=⟨A1.same (ak n1),ag,A1.out n1,(λ_ z=>by cases z),(λ_ z=>by cases z),by decide,rfl⟩
  have o2:∀b o,H b=some o→upd H1 d (.dK []) b=some o∧¬Wh F1 d b:=λb o e=>⟨by rw[ac (am (o1 b o e).1 n1)];exact(o1 b o e).1,λz=>z.elim (o1 b o e).2 (am (o1 b o e).1 n1)⟩
  show BE _ _ _ _ (upd H1 d (.dK []))
  generalize upd H1 d (.dK [])=H2 at J2 o2⊢
  refine⟨_,rfl,l,rfl,⟨_,SqL.of (o2 _ _ hl).1⟩,mT (K:=K) (a:=l) (xs:=cs.map V.int) (λi σ H'=>∃(F':Addr→Prop) (x':HSt) (v3:Option V),σ=[some (.ref l),some (.ref a),some (.ref d),v3]∧Jh K t H' a d F' x'∧x'.now≤12*i∧x'.st.kv.length≤300∧∀b o,H b=some o→H' b=some o∧¬Wh F' d b) ⟨F1,_,none,rfl,J2,by decide,by decide,o2⟩ (λi σ H' _ w=>?_) (λi z σ H' hz w=>?_) (λσ H' w=>?_)⟩
  ·obtain⟨F',x',v3,rfl,J',l',e',o'⟩:=w
   exact SqL.of (o' _ _ hl).1
  ·obtain⟨F',x',v3,rfl,J',l',e',o'⟩:=w
   have hi:=(Q2.mp hz).1
   rw[Q1]at hi
   obtain⟨c,hc,rfl⟩:=Ql.mp (Q0 hz)
   exact⟨_,rfl,_,rfl,_,rfl,a,d,c,F',x',rfl,J',by omega,e',λH3 F3 x3 J3 l3 e3 f3=>⟨F3,x3,_,rfl,J3,by omega,e3,λb o e=>f3 b o (o' b o e).2 (o' b o e).1⟩⟩
  ·obtain⟨F',x',v3,rfl,J',l',e',o'⟩:=w
   rw[Q1]at l'
   refine⟨_,rfl,_,rfl,(by show 2≤sizeLine;decide),λr nr=>?_⟩
   refine q _ r a d F' x' ?_ (J'.A.out nr) ag (J'.same (ak nr)) (by omega) e' λb o e=>⟨by rw[ac (am (o' b o e).1 nr)];exact(o' b o e).1,(o' b o e).2⟩
   cases e:H r with
   |none=>rfl
   |some o=>rw[(o' _ _ e).1]at nr;cases nr
structure CoA (t:Adr) (H:Hp) (c a p dd:Addr) (n:Int):Prop where
 ob:∃dx,H c=some (.ins t.bc dx [("house",.ref a),("first",.ref p),("rest",.ref p),("followed",.int n),("copied",.ref dd),("page",.non)])
 cd:H dd=some (.dK [])
def my (t:Adr):Sp:=λvs H Q _=>∃(c a p dd:Addr) (n:Int),vs=[.ref c]∧CoA t H c a p dd n∧Q (.int n) H
theorem mM (T:Txt K mg t):FnOk P w K mg base CX0 1 t.iP t.d8 ["self"] (my t):=by
 refine T.xI.ok mD (λvs H Q E h=>?_) (λcdv A outer s H vs Q E hr h=>?_)
 ·obtain⟨c,a,p,dd,n,rfl,_⟩:=h
  rfl
 ·obtain⟨c,a,p,dd,n,rfl,C,q⟩:=h
  refine⟨_,(ai (aG (aq (pv 0) rfl)))
   ,?_⟩
  obtain⟨dx,ho⟩:=C.ob
  exact⟨_,rfl,c,_,dx,_,_,rfl,ho,T.aJ,T.bL,rfl,q⟩
def nI (t:Adr):Sp:=λvs H Q _=>∃(c a p dd:Addr) (n:Int),vs=[.ref c]∧CoA t H c a p dd n∧Q (.ref p) H
theorem nX (T:Txt K mg t):FnOk P w K mg base CX0 1 t.jC t.fH ["self"] (nI t):=by
 refine T.zq.ok nQ (λvs H Q E h=>?_) (λcdv A outer s H vs Q E hr h=>?_)
 ·obtain⟨c,a,p,dd,n,rfl,_⟩:=h
  rfl
 ·obtain⟨c,a,p,dd,n,rfl,C,q⟩:=h
  refine⟨_,(ai (aG (aq (pv 0) rfl)))
   ,?_⟩
  obtain⟨dx,ho⟩:=C.ob
  exact⟨_,rfl,c,_,dx,_,_,rfl,ho,T.aJ,T.fu,rfl,q⟩
theorem CoA.same {t:Adr} {H H':Hp} {c a p dd:Addr} {n:Int} (C:CoA t H c a p dd n) (s:Same H H'):CoA t H' c a p dd n:=by
 obtain⟨dx,ho⟩:=C.ob
 exact⟨⟨dx,s _ _ ho⟩,s _ _ C.cd⟩
def nK (t:Adr):Sp:=λvs H Q _=>∃(c a p dd:Addr) (n:Int),vs=[.ref c]∧CoA t H c a p dd n∧∀r,H r=none→Q (.ref r) (upd H r (.dK []))
theorem nZ (T:Txt K mg t):FnOk P w K mg base CX0 1 t.jE t.fI ["self"] (nK t):=by
 refine T.zt.ok nR (λvs H Q E h=>?_) (λcdv A outer s H vs Q E hr h=>?_)
 ·obtain⟨c,a,p,dd,n,rfl,_⟩:=h
  rfl
 ·obtain⟨c,a,p,dd,n,rfl,C,q⟩:=h
  refine⟨_,(ai (aG (gQ kX (by rfl) T.xK su (aa (aq (pv 0) rfl) ah))))
   ,?_⟩
  obtain⟨dx,ho⟩:=C.ob
  exact⟨_,rfl,c,_,dx,_,_,rfl,ho,T.aJ,T.dB,rfl,dd,_,rfl,C.cd,q⟩
def uu (t:Adr):Sp:=λvs H Q _=>∃(p:Addr) (kd k:Int) (av e:V),vs=[.ref p,.int k]∧AS t H p kd av e∧okN kd av e∧0≤k∧∀H',Same H H'→Q (.bl (hN kd av e k)) H'
theorem uG (T:Txt K mg t):FnOk P w K mg base CX0 4 t.rB t.mY ["token","key"] (uu t):=by
 have G0:= @fR P w K mg base t T
 have Gc:= @jg P w K mg base t T
 have J9:= @lR P w K mg base t T
 refine T.xu.ok uB (λvs H Q E h=>?_) (λcdv A outer s H vs Q E hr h=>?_)
 ·obtain⟨p,kd,k,av,e,rfl,_⟩:=h
  rfl
 ·obtain⟨p,kd,k,av,e,rfl,TK,on,k0,q⟩:=h
  refine⟨_,(ai (aG (gs (bV rS (pv 0) bK (ax _)) (gr (sZ (kk:=3) (cx (bg T.bM T.mQ G0 T.m4 (by decide)) (cx (bg T.iN T.tN J9 T.t5 (by decide)) (bg T.cy T.qu Gc T.qB (by decide)))) (hr.mono (by decide)) (pv 0) (aa (pv 1) ah))))))
   ,?_⟩
  obtain⟨dr,fr,hr',tr⟩:=TK
  refine⟨_,rfl,rfl,_,rfl,?_⟩
  rw[show decide (V.ref p=V.non)=false from decide_eq_false λz=>by cases z]
  exact dj ⟨_,rfl,p,_,dr,fr,_,rfl,hr',tr.ho,dHN on.kd,_,rfl,vo on hr' tr k0 λH2 s2=>q H2 s2⟩
def lE (t:Adr):Sp:=λvs H Q _=>∃(c a p dd:Addr) (n kd k:Int) (av e:V),vs=[.ref c,.int k]∧CoA t H c a p dd n∧AS t H p kd av e∧okN kd av e∧0≤k∧∀H',Same H H'→Q (.bl false) H'
theorem lU (T:Txt K mg t):FnOk P w K mg base CX0 5 t.g6 t.dH ["self","key"] (lE t):=by
 have G0:= @fR P w K mg base t T
 have Gc:= @jg P w K mg base t T
 have J9:= @lR P w K mg base t T
 have Jn:= @uG P w K mg base t T
 refine T.xy.ok lI (λvs H Q E h=>?_) (λcdv A outer s H vs Q E hr h=>?_)
 ·obtain⟨c,a,p,dd,n,kd,k,av,e,rfl,_⟩:=h
  rfl
 ·obtain⟨c,a,p,dd,n,kd,k,av,e,rfl,C,TK,on,k0,q⟩:=h
  refine⟨_,(ai (aG (gs (sZ (kk:=3) (cx (bg T.bM T.mQ G0 T.m4 (by decide)) (cx (bg T.iN T.tN J9 T.t5 (by decide)) (bg T.cy T.qu Gc T.qB (by decide)))) (hr.mono (by decide)) (aq (pv 0) rfl) (aa (pv 1) ah)) (gr (ye (aQ Jn (hr.mono (by decide)) (by rfl) T.CO T.xu.kp T.CP .nil az (aa (aq (pv 0) rfl) (aa (pv 1) ah))))))))
   ,?_⟩
  obtain⟨dx,ho⟩:=C.ob
  obtain⟨dr,fr,hr',tr⟩:=TK
  refine⟨_,rfl,c,_,dx,_,_,rfl,ho,T.aJ,T.n8,rfl,p,_,dr,fr,_,rfl,hr',tr.ho,dHN on.kd,_,rfl,vo on hr' tr k0 λH2 s2=>⟨_,rfl,?_⟩⟩
  cases hc:hN kd av e k with
  |false=>exact fz (q H2 s2)
  |true=>
   refine dj ⟨_,rfl,c,_,dx,_,_,rfl,s2 _ _ ho,T.aJ,T.fu,rfl,_,rfl,p,kd,k,av,e,rfl,⟨dr,fr,s2 _ _ hr',tr⟩,on,k0,λH3 s3=>⟨_,rfl,?_⟩⟩
   rw[hc]
   exact q H3 (s2.trans s3)
def kC (t:Adr):Sp:=λvs H Q _=>∃(c a p dd:Addr) (n:Int),vs=[.ref c]∧CoA t H c a p dd n∧∀H' r r2,Same H H'→H' r=some (.tup [.ref p,.int n,.ref r2])→H' r2=some (.dK [])→Q (.ref r) H'
theorem kL (T:Txt K mg t):FnOk P w K mg base CX0 1 t.f9 t.dg ["self"] (kC t):=by
 refine T.wk.ok kE (λvs H Q E h=>?_) (λcdv A outer s H vs Q E hr h=>?_)
 ·obtain⟨c,a,p,dd,n,rfl,_⟩:=h
  rfl
 ·obtain⟨c,a,p,dd,n,rfl,C,q⟩:=h
  refine⟨_,(ai (aG (cH (aa (aq (pv 0) rfl) (aa (aq (pv 0) rfl) (aa (gQ kX (by rfl) T.xK su (aa (aq (pv 0) rfl) ah)) ah))))))
   ,?_⟩
  obtain⟨dx,ho⟩:=C.ob
  refine⟨_,rfl,c,_,dx,_,_,rfl,ho,T.aJ,T.fu,rfl,_,rfl,c,_,dx,_,_,rfl,ho,T.aJ,T.bL,rfl,_,rfl,c,_,dx,_,_,rfl,ho,T.aJ,T.dB,rfl,dd,_,rfl,C.cd,λr2 n2=>⟨(by show 3≤sizeLine;decide),λr nr=>?_⟩⟩
  exact q _ r r2 ((ak n2).trans (ak nr)) ag (ak nr _ _ ag)
def lw (K:PySem.W.Frag) (t:Adr):Sp:=λvs H Q _=>∃(c a p dd:Addr) (z:Int) (F:Addr→Prop) (x:HSt),vs=[.ref c,.int z]∧CoA t H c a p dd x.di.length∧HoA K t H a F x∧∀H',Same H H'→Q (.int x.di.length) H'
theorem lT (T:Txt K mg t):FnOk P w K mg base CX0 2 t.gZ t.dG ["self","steps"] (lw K t):=by
 have Ge:= @dY P w K mg base t T
 refine T.xw.ok sc_Copier__follow (λvs H Q E h=>?_) (λcdv A outer s H vs Q E hr h=>?_)
 ·obtain⟨c,a,p,dd,z,F,x,rfl,_⟩:=h
  rfl
 ·obtain⟨c,a,p,dd,z,F,x,rfl,C,A,q⟩:=h
  refine⟨_,(af (aD (i:=2) sc_Copier__follow.nd rfl (Or.inl rfl) (gP jI (a9 (aq (pv 0) rfl) T.aL T.fw Ge (hr.mono (by decide)) T.zf .nil az (aa (aq (pv 0) rfl) ah)) lN (io (aI (rf rfl) (by rfl) T.CS zc (aa (pv 1) (aa ae ah))))))
   (af (kI PassesOwn.never rfl (lO (pv 2)) (bU (i:=3) sc_Copier__follow.nd rfl (Or.inl rfl))
   (af cX
   (ai (eM (pv 0) ae pP))))
   (ai (aG (aq (pv 0) rfl)))))
   ,?_⟩
  obtain⟨dx,ho⟩:=C.ob
  obtain⟨da,fa,hi,hm,_⟩:=A.ins
  refine⟨_,rfl,c,_,dx,_,_,rfl,ho,T.aJ,T.n6,rfl,a,da,fa,rfl,hi,hm _ (by decide+kernel),_,rfl,c,_,dx,_,_,rfl,ho,T.aJ,T.bL,rfl,a,_,F,x,rfl,A,by omega,λH1 r s1 nr hr=>?_⟩
  have hr:H1 r=some (.lst []):=by
   rw[hr,show(x.di.length:Int).toNat=x.di.length from rfl,List.drop_length]
   rfl
  refine⟨_,rfl,_,_,rfl,_,rfl,r,_,rfl,SqL.of hr,λp1 np1=>?_⟩
  rw[show ∀o,jV ([]:List V) none o=[] from λo=>by unfold jV;simp]
  have s2:=s1.trans (ak (o:= .lst []) np1)
  have h2:upd H1 p1 (.lst []) p1=some (.lst []):=ag
  generalize upd H1 p1 (.lst [])=H2 at s2 h2⊢
  refine⟨_,rfl,p1,rfl,⟨_,SqL.of h2⟩,mT (K:=K) (a:=p1) (xs:=[]) (λi σ H'=>σ=[some (.ref c),some (.int z),some (.ref p1),none]∧H'=H2) ⟨rfl,rfl⟩ (λi σ H' _ w=>by rw[w.2];exact SqL.of h2) (λi y σ H' hy w'=>by cases hy) (λσ H' w'=>?_)⟩
  obtain⟨rfl,rfl⟩:=w'
  exact⟨_,rfl,c,_,dx,_,_,rfl,s2 _ _ ho,T.aJ,T.bL,rfl,q _ s2⟩
def mw (t:Adr):Sp:=λvs H Q _=>∃(c a p dd:Addr) (n:Int),vs=[.ref c]∧CoA t H c a p dd n∧∀H',Same H H'→Q (.int 0) H'
theorem mL (T:Txt K mg t):FnOk P w K mg base CX0 1 t.iO t.d7 ["self"] (mw t):=by
 refine T.xH.ok mC (λvs H Q E h=>?_) (λcdv A outer s H vs Q E hr h=>?_)
 ·obtain⟨c,a,p,dd,n,rfl,_⟩:=h
  rfl
 ·obtain⟨c,a,p,dd,n,rfl,C,q⟩:=h
  refine⟨_,(ai (aG (aI (xk hr.hd) (by rfl) T.DJ Cr (aa (yi Z9 PySem.F.slot_dict_values PySem.F.type_dict_values wL (aq (pv 0) rfl)) ah))))
   ,?_⟩
  obtain⟨dx,ho⟩:=C.ob
  refine⟨_,rfl,c,_,dx,_,_,rfl,ho,T.aJ,T.dB,rfl,.inr (.inr (.inl ⟨rfl,.inl ⟨_,C.cd⟩⟩)),dd,_,rfl,rfl,C.cd,λv nv=>⟨v,dd,[],[],rfl,ag,ak nv _ _ C.cd,rfl,q _ (ak nv)⟩⟩
def RsS (H:Hp) (C:Addr) (E:XK):Prop:=∀(ea:Addr) (od:Option Addr) (H':Hp),ExcAt H' ea od C []→Same H H'→E (.ref ea) od H'
theorem vv {E:XK} {H:Hp} {C:Addr} {bm:List Value} (Y:XCls K C bm) (k:RsS H C E) {σ:St} {D:Ends} {x:Str}:x5 K (vm C (Bc (tC (.str x)) wt)) E D σ H:=by
 refine⟨(by show 1≤1000;decide),λea hn=>⟨ea,C,none,bm,rfl,ag,Y,?_⟩⟩
 rw[b7]
 exact k ea none _ ⟨ag,.inl ⟨rfl,rfl⟩⟩ (ak hn)
def iX (K:PySem.W.Frag) (t:Adr):Sp:=λvs H Q E=>∃(c a p dd:Addr) (n m:Int),vs=[.ref c,.int m]∧CoA t H c a p dd n∧RsS H t.bD E
theorem jh (T:Txt K mg t):FnOk P w K mg base (CX1 P w) 1 t.eF t.bG ["self","many"] (iX K t):=by
 refine T.ui.okX sc_Copier__read_page (λvs H Q E h=>?_) (λcdv A outer s H vs Q E hr h=>?_)
 ·obtain⟨c,a,p,dd,n,m,rfl,_⟩:=h
  rfl
 ·obtain⟨c,a,p,dd,n,m,rfl,C,q⟩:=h
  refine⟨_,(af (aD (i:=2) sc_Copier__read_page.nd rfl (Or.inl rfl) (aq (pv 0) rfl))
   (af (aV (PW.pt (i7 (au gv (pv 2) bK (ax _)) (i6 (au rS (aq (pv 2) rfl) bK (ax _)))))
   (ai (sY rfl vk (qK T.bJ T.qw (by rfl) T.lY (aa gp ah))))
   aF)
   (af cX
   (ai cX))))
   ,?_⟩
  obtain⟨dx,ho⟩:=C.ob
  refine⟨_,rfl,c,_,dx,_,_,rfl,ho,T.aJ,T.jj,rfl,_,rfl,rfl,_,rfl,jU rfl (dj (vv T.bJ q))⟩
def iS (K:PySem.W.Frag) (t:Adr):Sp:=λvs H Q E=>∃(c a p dd:Addr) (n:Int),vs=[.ref c]∧CoA t H c a p dd n∧RsS H t.bD E
theorem iU (T:Txt K mg t):FnOk P w K mg base (CX1 P w) 2 t.dR t.b5 ["self"] (iS K t):=by
 have Gi:= @fo P w K mg base t T
 refine T.ub.okX sc_Copier__close_page (λvs H Q E h=>?_) (λcdv A outer s H vs Q E hr h=>?_)
 ·obtain⟨c,a,p,dd,n,rfl,_⟩:=h
  rfl
 ·obtain⟨c,a,p,dd,n,rfl,C,q⟩:=h
  refine⟨_,(af (aD (i:=1) sc_Copier__close_page.nd rfl (Or.inl rfl) (aq (pv 0) rfl))
   (af (aV (PW.pt (i7 (au gv (pv 1) bK (ax _)) (i7 (au gv (aq (pv 1) rfl) bK (ax _)) (i6 (au rS (aq (pv 1) rfl) bK (ax _))))))
   (ai (sY rfl vk (qK T.bJ T.qw (by rfl) T.lY (aa gp ah))))
   aF)
   (af cX
   (ai cX))))
   ,?_⟩
  obtain⟨dx,ho⟩:=C.ob
  refine⟨_,rfl,c,_,dx,_,_,rfl,ho,T.aJ,T.jj,rfl,_,rfl,rfl,_,rfl,jU rfl (dj (vv T.bJ q))⟩
def nJ (K:PySem.W.Frag) (t:Adr):Sp:=λvs H Q _=>∃(c dx a p:Addr) (F:Addr→Prop) (x:HSt),vs=[.ref c,.ref a,.ref p,.non]∧H c=some (.ins t.bc dx [])∧HoA K t H a F x∧
 ∀H' dd,CoA t H' c a p dd x.di.length→H dd=none→(∀b o,b≠c→H b=some o→H' b=some o)→Q .non H'
theorem nY (T:Txt K mg t):FnOk P w K mg base CX0 2 t.jD t.dh ["self","house","token","stopped"] (nJ K t):=by
 have Ge:= @dY P w K mg base t T
 refine T.zr.ok sc_Copier__init (λvs H Q E h=>?_) (λcdv A outer s H vs Q E hr h=>?_)
 ·obtain⟨c,dx,a,p,F,x,rfl,_⟩:=h
  rfl
 ·obtain⟨c,dx,a,p,F,x,rfl,hc,A,q⟩:=h
  refine⟨_,(af (aV (au gv (pv 3) bK (ax _))
   (ai (aD (i:=3) sc_Copier__init.nd rfl (Or.inl rfl) (cH (aa (pv 2) (aa (aI ay (by rfl) T.bN bn (aa (bB (pv 1) T.aL T.fw Ge (hr.mono (by decide)) T.bS.choose_spec.1 T.bS.choose_spec.2 az) ah)) (aa dO ah))))))
   aF)
   (af (bq (pv 0) (pv 1) rfl)
   (af (bq (pv 0) (pv 2) rfl)
   (af (bq (pv 0) (aW d6 (pv 3) ae (λ_ _=>rfl)) rfl)
   (af (bq (pv 0) (aW d6 (pv 3) ae (λ_ _=>rfl)) rfl)
   (af (bq (pv 0) (gQ kX (by rfl) T.xK su (aa (aW d6 (pv 3) ae (λ_ _=>rfl)) ah)) rfl)
   (ai (bq (pv 0) bK rfl))))))))
   ,?_⟩
  obtain⟨da,fa,hi,hm,_⟩:=A.ins
  refine cw (λσ H'=>∃tp d0:Addr,σ=[some (.ref c),some (.ref a),some (.ref p),some (.ref tp)]∧Same H H'∧H' tp=some (.tup [.ref p,.int x.di.length,.ref d0])∧H' d0=some (.dK [])) (λnx go=>?_) (λσ H2 w=>?_)
  ·refine⟨_,rfl,rfl,_,rfl,jU rfl ⟨_,rfl,_,rfl,a,da,fa,rfl,hi,hm _ (by decide+kernel),a,0,F,x,rfl,A,Zi _,λH1 r s1 nr hr=>⟨r,_,rfl,.inl (SqL.of hr),λd0 nd0=>⟨(by show 3≤sizeLine;decide),λtp ntp=>?_⟩⟩⟩⟩
   rw[Q1,show(0:Int).toNat=0 from rfl,QT]
   exact go _ _ ⟨tp,d0,rfl,(s1.trans (ak nd0)).trans (ak ntp),ag,ak ntp _ _ ag⟩
  obtain⟨tp,d0,rfl,s2,htp,hd0⟩:=w
  have hc2:=s2 _ _ hc
  have n1:tp≠c:=λz=>by rw[z,hc2]at htp;cases htp
  have n2:d0≠c:=λz=>by rw[z,hc2]at hd0;cases hd0
  have hp:∀{o:HO},upd H2 c o tp=some (.tup [.ref p,.int x.di.length,.ref d0]):=λ{o}=>by rw[ac n1];exact htp
  refine⟨_,rfl,_,rfl,c,_,dx,[],rfl,hc2,T.aJ,T.n6,(by show 0<1000;decide),?_⟩
  rw[bu]
  refine⟨_,rfl,_,rfl,c,_,dx,_,rfl,ag,T.aJ,T.n8,(by show 1<1000;decide),?_⟩
  rw[b7,aC (by decide+kernel),bu]
  refine⟨_,rfl,tp,_,_,_,rfl,rfl,SqT.of hp,rfl,_,rfl,c,_,dx,_,rfl,ag,T.aJ,T.fu,(by show 2<1000;decide),?_⟩
  rw[b7,aC (by decide+kernel),aC (by decide+kernel),bu]
  refine⟨_,rfl,tp,_,_,_,rfl,rfl,SqT.of hp,rfl,_,rfl,c,_,dx,_,rfl,ag,T.aJ,T.bL,(by show 3<1000;decide),?_⟩
  rw[b7,aC (by decide+kernel),aC (by decide+kernel),aC (by decide+kernel),bu]
  refine⟨_,rfl,tp,_,_,_,rfl,rfl,SqT.of hp,rfl,d0,_,rfl,by rw[ac n2];exact hd0,λdd nd=>?_⟩
  have nc:dd≠c:=λz=>by rw[z,ag]at nd;cases nd
  refine⟨_,rfl,c,_,dx,_,rfl,ak nd _ _ ag,T.aJ,T.dB,(by show 4<1000;decide),?_⟩
  rw[aC (by decide+kernel),aC (by decide+kernel),aC (by decide+kernel),aC (by decide+kernel),bu]
  refine⟨_,rfl,c,_,dx,_,rfl,ag,T.aJ,T.jj,(by show 5<1000;decide),?_⟩
  rw[b7,aC (by decide+kernel),aC (by decide+kernel),aC (by decide+kernel),aC (by decide+kernel),aC (by decide+kernel),bu]
  rw[ac nc]at nd
  refine q _ dd ⟨⟨dx,ag⟩,by rw[ac nc,ag]⟩ (sm s2 nd) λb o n e=>?_
  rw[ac n,ac (am (s2 _ _ e) nd),ac n]
  exact s2 _ _ e
def jQ (K:PySem.W.Frag) (t:Adr):Sp:=λvs H Q _=>∃(c a p dd:Addr) (n z:Int),vs=[.ref c,.int z]∧CoA t H c a p dd n∧∀H',Same H H'→Q (.bl true) H'
theorem jT (T:Txt K mg t):FnOk P w K mg base CX0 3 t.fJ t.cJ ["_law_copier","_law_way"] (jQ K t):=by
 have G2:= @iU P w K mg base t T
 have G9:= @jh P w K mg base t T
 refine T.fN.ok sc__law_out_of_turn (λvs H Q E h=>?_) (λcdv A outer s H vs Q E hr h=>?_)
 ·obtain⟨c,a,p,dd,n,z,rfl,_⟩:=h
  rfl
 ·obtain⟨c,a,p,dd,n,z,rfl,C,q⟩:=h
  refine⟨_,(af (aD (i:=2) sc__law_out_of_turn.nd rfl (Or.inl rfl) qL)
   (af (BO rfl rfl (λpn E=>(ai (aV (au bH (pv 1) ae (ax _))
   (ai (aP (qJ (pv 0) T.aJ T.ud G9 (hr.mono (by decide)) T.jx.choose_spec.1 T.jx.choose_spec.2 Bn)))
   (ai (aP (qJ (pv 0) T.aJ T.tO G2 (hr.mono (by decide)) T.t6 .nil Bn))))))
   (Dh (i:=3) sc__law_out_of_turn.nd rfl rfl (by rfl) T.lY T.bJ (λea=>(ai (aD (i:=2) sc__law_out_of_turn.nd rfl (Or.inl rfl) (aI (qy K rfl) (by rfl) T.lf gL (aa (pv 3) (aa (eG (v:= .ref t.aU) (by rfl) T.As rfl) ah)))))) Al))
   (ai (aG (pv 2)))))
   ,?_⟩
  obtain⟨dx,ho⟩:=C.ob
  refine⟨_,rfl,rfl,_,rfl,bI (λ_=>?_) (λ_=>?_)⟩
  case' refine_1=>refine⟨_,rfl,c,dx,_,rfl,ho,(by rfl),c,a,p,dd,n,10,rfl,C,λea od H' ex s'=>?_⟩
  case' refine_2=>refine⟨_,rfl,c,dx,_,rfl,ho,(by rfl),c,a,p,dd,n,rfl,C,λea od H' ex s'=>?_⟩
  all_goals
   refine⟨ea,t.bD,rfl,ex.1,_,true,T.bJ,T.rG,dj ?_⟩
   refine⟨_,rfl,ea,od,_,_,_,_,_,rfl,ex,T.bJ,T.zS,Ay T.bJ T.zT T.rF,?_⟩
   exact⟨_,rfl,q _ s'⟩
theorem y7 {xs:List V} {n:Int} (h:0≤n):jV xs none (some n)=xs.take n.toNat:=by
 unfold jV HT.sIx
 simp only[QT,Nat.sub_zero]
 rw[if_neg (by omega)]
 rcases Nat.le_total n.toNat xs.length with c|c
 ·rw[Nat.min_eq_left c]
 ·rw[Nat.min_eq_right c,Xf,QB c]
structure W51 (K:PySem.W.Frag) (t:Adr) (H:Hp) (sc a d p:Addr) (F:Addr→Prop) (x:HSt) (kv:List (Int×V)) (ns:List Int) (kd:Int) (av e:V):Prop where
 A:HoA K t H a F x
 di:H d=some (.dK (aS kv))
 nd:¬F d
 TK:AS t H p kd av e
 np:¬F p
 cS:SqF K (Wh F d) H sc (ns.map V.int)
section
variable {H H':Hp} {sc a d p:Addr} {F F':Addr→Prop} {x x':HSt} {kv:List (Int×V)} {ns:List Int} {kd:Int} {av e:V}
theorem W51.fr (W:W51 K t H sc a d p F x kv ns kd av e) (A:HoA K t H' a F' x') (f:Fr F F' H H'):W51 K t H' sc a d p F' x' kv ns kd av e:=by
 obtain⟨dx,fs,hp,r⟩:=W.TK
 obtain⟨h1,h2⟩:=f _ _ W.nd W.di
 obtain⟨h3,h4⟩:=f _ _ W.np hp
 exact⟨A,h1,h2,⟨dx,fs,h3,r⟩,h4,W.cS.fr f.wh⟩
theorem W51.same (W:W51 K t H sc a d p F x kv ns kd av e) (s:Same H H'):W51 K t H' sc a d p F x kv ns kd av e:=W.fr (W.A.same s) (Fr.of_same s)
end
def zl (H7:Hp) (i:Nat) (ys:List V) (H':Hp):Prop:=Same H7 H'∧∃zs:List Int,ys=zs.map V.int∧zs.length=i∧∀z∈zs,0≤z
theorem wI {H7 H8:Hp} {D:Addr} {i:Nat} {y:V} {xs ys:List V} {z:Int} (hy:xs[i]?=some y) (w:zl H7 i ys H8) (hD:H7 D=none) (hDD:H8 D=some (.lst ys)) (hn:xs.length≤4000) (z0:0≤z):CNext xs.length i ys D (zl H7) (.int z) H8:=by
 obtain⟨s8,zs,rfl,lz,h0⟩:=w
 have hi:i<xs.length:=(Q2.mp hy).1
 refine CNext.mk hi hDD (dM (by rw[Q1];omega)) ⟨dN s8 hD,zs++ [z],by rw[Qr];rfl,by rw[Qa,lz];rfl,λv hv=>?_⟩
 rcases Q4.mp hv with hv|hv
 ·exact h0 v hv
 ·rw[Q8.mp hv]
  exact z0
def xZ (K:PySem.W.Frag):Sp:=λvs H Q _=>∃(a:Addr) (ns:List Int),vs=[.ref a]∧SqL K H a (ns.map V.int)∧ns.length≤63∧∀H',Q (.bl true) H'
theorem BW (T:Txt K mg t):FnOk P w K mg base CX0 9 t.Bw t.vW ["_law_script"] (xZ K):=by
 have G3:= @nZ P w K mg base t T
 have G4:= @lU P w K mg base t T
 have G5:= @lT P w K mg base t T
 have G6:= @nY P w K mg base t T
 have G7:= @nX P w K mg base t T
 have G8:= @mM P w K mg base t T
 have Ga:= @kL P w K mg base t T
 have Gb:= @mL P w K mg base t T
 have Ge:= @dY P w K mg base t T
 have Gi:= @fo P w K mg base t T
 have J8:= @nV P w K mg base t T
 have Jb:= @nU P w K mg base t T
 have Jd:= @qk P w K mg base t T
 have Jf:= @nS P w K mg base t T
 have Ji:= @jT P w K mg base t T
 have Jk:= @qj P w K mg base t T
 refine T.DB.ok sc_law (λvs H Q E h=>?_) (λcdv A outer s H vs Q E hr h=>?_)
 ·obtain⟨a,ns,rfl,_⟩:=h
  rfl
 ·obtain⟨sc,ns,rfl,hS,hlen,q⟩:=h
  refine⟨_,(af (pc (aQ Jd (hr.mono (by decide)) (by rfl) T.Ax T.sE.kp T.AK .nil az (aa (gP jI (pv 0) (io ae) (io ae)) ah)) (uD rfl (fj (bU (i:=1) sc_law.nd rfl (Or.inl rfl)) (fj (bU (i:=2) sc_law.nd rfl (Or.inl rfl)) rP))))
   (af (aD (i:=3) sc_law.nd rfl (Or.inl rfl) (aQ Jk (hr.mono (by decide)) (by rfl) T.Aw T.sD.kp T.AJ .nil az (aa (aQ Jf (hr.mono (by decide)) (by rfl) T.yz T.p6.kp T.zd .nil az (aa (aQ Jb (hr.mono (by decide)) (by rfl) T.jo T.fO.kp T.jv .nil az (aa (pv 0) (aa ae ah))) (aa (aI (ss hr.hd) (by rfl) T.CQ xn (aa (pv 2) ah)) ah))) ah)))
   (af (kI PassesOwn.never rfl (eO (by rfl) T.k8 (aa (al aK (al aM (aQ Jb (hr.mono (by decide)) (by rfl) T.jo T.fO.kp T.jv .nil az (aa (pv 0) (aa ae ah))) ae) ae) ah)) (bU (i:=4) sc_law.nd rfl (Or.inl rfl))
   (ai (aP (bB (pv 1) T.aL T.vF Gi (hr.mono (by decide)) T.v8 .nil az))))
   (af (aD (i:=5) sc_law.nd rfl (Or.inl rfl) (bB (pv 1) T.aL T.fw Ge (hr.mono (by decide)) T.bS.choose_spec.1 T.bS.choose_spec.2 az))
   (af (aD (i:=6) sc_law.nd rfl (Or.inl rfl) (oq T.CL G6 (hr.mono (by decide)) (by rfl) T.CN T.ol.choose_spec.1 T.ol.choose_spec.2 az (aa (pv 1) (aa (pv 3) ah))))
   (af (aV (PW.pt (i7 (i9 (dX (aQ Ji (hr.mono (by decide)) (by rfl) T.kO T.fN.kp T.kY .nil az (aa (pv 6) (aa ae ah))))) (i6 (i9 (dX (aQ Ji (hr.mono (by decide)) (by rfl) T.kO T.fN.kp T.kY .nil az (aa (pv 6) (aa ae ah))))))))
   (ai (aG qL))
   aF)
   (af (aV (PW.pt (i7 (au vA (bB (pv 6) T.aJ T.xC G8 (hr.mono (by decide)) T.xF .nil az) (aI ay (by rfl) T.bN bn (aa (pv 5) ah)) (ax _)) (i7 (au (BS hr.u20) (bB (pv 6) T.aJ T.yw G3 (hr.mono (by decide)) T.zg .nil az) dO (ax _)) (i7 (au vA (bB (pv 6) T.aJ T.xB Gb (hr.mono (by decide)) T.xE .nil az) ae (ax _)) (i6 (au gv (bB (pv 6) T.aJ T.pK G7 (hr.mono (by decide)) T.pW .nil az) bK (ax _)))))))
   (ai (aG qL))
   aF)
   (af (aV (PW.pt (i7 (au vA (jK (kk:=2) (cx (bg T.bM T.dD J8 T.aX (by decide)) (cx (bg T.iN T.jm J8 T.aX (by decide)) (bg T.cy T.gw J8 T.aX (by decide)))) (hr.mono (by decide)) (bB (pv 6) T.aJ T.pK G7 (hr.mono (by decide)) T.pW .nil az)) (jK (kk:=2) (cx (bg T.bM T.dD J8 T.aX (by decide)) (cx (bg T.iN T.jm J8 T.aX (by decide)) (bg T.cy T.gw J8 T.aX (by decide)))) (hr.mono (by decide)) (pv 3)) (ax _)) (i6 (au vA (a9 (pv 6) T.aJ T.wO G5 (hr.mono (by decide)) T.xq .nil az (aa (al aK (aQ Jb (hr.mono (by decide)) (by rfl) T.jo T.fO.kp T.jv .nil az (aa (pv 0) (aa ae ah))) ae) ah)) (aI ay (by rfl) T.bN bn (aa (pv 5) ah)) (ax _)))))
   (ai (aG qL))
   aF)
   (af (kI PassesOwn.never rfl (lO (al yk (gQ (uZ hr.hd) (by rfl) T.DG AH (aa (pv 2) ah)) (ot rfl (CScope.of (M:=["_law_cell"]) (N:=["_law_script","_law_house_here","_law_kept","_law_token_here","_law_k","_law_rows","_law_copier","_law_key","_law_left","_law_place_here","_law_copied"]) (N':=["_law_script","_law_house_here","_law_kept","_law_token_here","_law_k","_law_rows","_law_copier","_law_key","_law_left","_law_place_here","_law_copied"]) (dsc:=aj vp) rfl rfl (by decide+kernel)) (lO (gP jI (pv 0) lN (io ae))) (λ_ _ _ _ _=>(al aK (pv 0) ae))))) (bU (i:=7) sc_law.nd rfl (Or.inl rfl))
   (ai (aV (au wE (a9 (pv 6) T.aJ T.wP G4 (hr.mono (by decide)) T.xr .nil az (aa (pv 7) ah)) qL (ax _))
   (ai (aG qL))
   aF)))
   (af (pc (bB (pv 6) T.aJ T.vG Ga (hr.mono (by decide)) T.v9 .nil az) (uD rfl (fj (bU (i:=8) sc_law.nd rfl (Or.inl rfl)) (fj (bU (i:=9) sc_law.nd rfl (Or.inl rfl)) (fj (bU (i:=10) sc_law.nd rfl (Or.inl rfl)) rP)))))
   (ai (aG (gs (bV bH (jK (kk:=2) (cx (bg T.bM T.dD J8 T.aX (by decide)) (cx (bg T.iN T.jm J8 T.aX (by decide)) (bg T.cy T.gw J8 T.aX (by decide)))) (hr.mono (by decide)) (pv 8)) (jK (kk:=2) (cx (bg T.bM T.dD J8 T.aX (by decide)) (cx (bg T.iN T.jm J8 T.aX (by decide)) (bg T.cy T.gw J8 T.aX (by decide)))) (hr.mono (by decide)) (pv 3)) (ax _)) (gs (bV bH (pv 9) (aI ay (by rfl) T.bN bn (aa (pv 5) ah)) (ax _)) (gs (bV (Am hr.u20) (pv 10) dO (ax _)) (gr (bV (BU K rfl hr.u20) (bB (pv 1) T.aL T.fw Ge (hr.mono (by decide)) T.bS.choose_spec.1 T.bS.choose_spec.2 az) (pv 5) (ax _))))))))))))))))))
   ,?_⟩
  obtain⟨cs,ecs,sb⟩:=y9 ns (some 3) (some 43)
  refine⟨_,rfl,_,rfl,_,rfl,sc,_,rfl,hS,λp1 np1=>?_⟩
  rw[ecs]
  have lcs:cs.length≤63:=QF sb.length_le hlen
  have cS:=(SqF.of (F:=λ_=>False) hS λ_ _ z=>z).new (o:= .lst (cs.map V.int)) np1
  have h1:upd H p1 (.lst (cs.map V.int)) p1=some (.lst (cs.map V.int)):=ag
  (try dsimp only)
  generalize upd H p1 (.lst (cs.map V.int))=H1 at cS h1⊢
  refine⟨p1,cs,rfl,h1,lcs,λH2 r2 a d F x nr2 nFr2 hr2 J l2 e2 o2=>?_⟩
  have cS:=cS.fr (F':=Wh F d) (H':=H2) λb o _ e=>o2 b o e
  refine⟨r2,_,rfl,SqT.of hr2,rfl,_,_,rfl,_,_,rfl,rfl,?_⟩
  clear hS h1 o2 np1 ecs sb hr2 nr2 nFr2
  obtain⟨c1,ec1⟩:∃c:Int,ns.getD (1:Int).toNat 0=c:=⟨_,rfl⟩
  obtain⟨c2,ec2⟩:∃c:Int,ns.getD (2:Int).toNat 0=c:=⟨_,rfl⟩
  refine⟨_,rfl,sc,ns,1,rfl,cS.sq,by decide,?_⟩
  rw[ec1]
  refine⟨_,rfl,d,_,x.st.kv.map (·.1),rfl,.inl J.di,qS,λl ms nl pm pw=>?_⟩
  have s3:=ak (o:= .lst (ms.map V.int)) nl
  have h3:upd H2 l (.lst (ms.map V.int)) l=some (.lst (ms.map V.int)):=ag
  (try dsimp only)
  generalize upd H2 l (.lst (ms.map V.int))=H3 at s3 h3⊢
  refine⟨_,l,ms,rfl,h3,λk hk=>J.kb k (pm.mem_iff.mp hk),?_⟩
  intro H4 n av e s4 hn on ba be
  obtain⟨kd,ekd⟩:∃kd:Int,c1%3=kd:=⟨_,rfl⟩
  rw[ekd]at hn on
  have s4':=s3.trans s4
  have J4:=J.same s4'
  have cS4:=cS.fr (Fr.of_same s4')
  clear s3 s4 h3 nl pm pw cS J
  refine⟨n,kd,av,e,rfl,SqT.of hn,on,λH5 p s5 np TK=>?_⟩
  have J5:=J4.same s5
  have nFp:¬F p:=J4.A.out np
  have cS5:=cS4.fr (Fr.of_same s5)
  have hn5:=s5 _ _ hn
  clear np s5 s4' hn cS4 J4
  have dm0:=Qe (c2/9) (show(3:Int)≠0 by decide)
  have dm1:=Qb (c2/9) (show(0:Int)<3 by decide)
  refine⟨_,rfl,sc,ns,2,rfl,cS5.sq,by decide,?_⟩
  rw[ec2]
  refine⟨_,_,rfl,rfl,⟨by decide,by decide⟩,_,_,rfl,rfl,(by show(0:Int)<3;decide),c2/9%3,rfl,by omega,by omega,?_⟩
  have W0:W51 K t H5 sc a d p F x x.st.kv ns kd av e:=⟨J5.A,J5.di,J5.nd,TK,nFp,cS5⟩
  have kb:∀k∈x.st.kv.map (·.1),0≤k:=λk hk=>(J5.kb k hk).1
  have ma:=J5.ma
  refine pR (n:=(c2/9%3).toNat) (λi σ H'=>∃(F':Addr→Prop) (x':HSt) (v4:Option V),σ=[some (.ref sc),some (.ref a),some (.ref d),some (.ref p),v4,none,none,none,none,none,none]∧W51 K t H' sc a d p F' x' x.st.kv ns kd av e∧x'.now+x'.ma≤756+i) ⟨F,x,_,rfl,W0,by omega⟩ (λi σ H6 hi w=>?_) (λσ H6 w=>?_)
  ·obtain⟨F',x',v4,rfl,W,l⟩:=w
   obtain⟨da,fa,ha,hm,_⟩:=W.A.ins
   exact⟨_,rfl,a,da,fa,rfl,ha,hm _ (by decide+kernel),a,F',x',rfl,W.A,by omega,λH7 F7 r A7 f7=>⟨F7,_,_,rfl,W.fr A7 f7,by show x'.now+(x'.ma+1)≤_;omega⟩⟩
  obtain⟨F6,x6,v4,rfl,W,l⟩:=w
  clear W0 J5 TK nFp cS5
  obtain⟨da,fa,ha,hm,_⟩:=W.A.ins
  refine⟨_,rfl,a,da,fa,rfl,ha,hm _ (by decide+kernel),a,0,F6,x6,rfl,W.A,Zi _,λH7 r s7 nr hr=>?_⟩
  rw[show(0:Int).toNat=0 from rfl,QT]at hr
  have W7:=W.same s7
  clear W
  refine⟨_,rfl,_,rfl,λc dx nc nd ncd=>?_⟩
  have s7':=dN (ak (o:= .own c) nd) (o:= .ins t.bc dx []) nc
  refine⟨c,dx,a,p,F6,x6,rfl,ag,W7.A.same s7',λH8 dd C _ kp=>⟨rfl,?_⟩⟩
  have s8:Same H7 H8:=λb o e=>kp b o (am e nc) (s7' _ _ e)
  have W8:=W7.same s8
  have hr8:=s8 _ _ hr
  clear s7' kp s8 W7 hr nc nd ncd nr s7
  obtain⟨n,en⟩:∃n:Nat,x6.di.length=n:=⟨_,rfl⟩
  have lr:(x6.di.map λe=>V.ref e.1).length=n:=by rw[Q1];exact en
  (try dsimp only)
  refine cw (λσ H'=>σ=[some (.ref sc),some (.ref a),some (.ref d),some (.ref p),v4,some (.ref r),some (.ref c),none,none,none,none]∧Same H8 H') (λnx go=>?_) (λσ H9 w=>?_)
  ·exact⟨_,rfl,c,a,p,dd,_,0,rfl,C,λH9 s9=>⟨_,rfl,fz ⟨_,rfl,c,a,p,dd,_,1,rfl,C.same s9,λH10 s10=>⟨_,rfl,fz (go _ _ ⟨rfl,s9.trans s10⟩)⟩⟩⟩⟩
  obtain⟨rfl,s9⟩:=w
  have W9:=W8.same s9
  have C9:=C.same s9
  have hr9:=s9 _ _ hr8
  clear W8 C hr8 s9
  obtain⟨dc,hc⟩:=C9.ob
  refine cw (λσ H'=>σ=[some (.ref sc),some (.ref a),some (.ref d),some (.ref p),v4,some (.ref r),some (.ref c),none,none,none,none]∧Same H9 H') (λnx go=>?_) (λσ H10 w=>?_)
  ·refine⟨_,rfl,c,dc,_,rfl,hc,(by rfl),c,a,p,dd,_,rfl,C9,_,rfl,r,_,rfl,.inl (SqL.of hr9),?_⟩
   rw[Q1]
   refine⟨rfl,_,rfl,vM rfl ⟨_,rfl,c,dc,_,rfl,hc,(by rfl),c,a,p,dd,_,rfl,C9,λr1 n1=>λz nz=>⟨r1,z,[],rfl,rfl,.inl (ak nz _ _ ag),.inl ag,_,rfl,?_⟩⟩⟩
   have s10:=(ak (o:= .dK []) n1).trans (ak (o:= .dK []) nz)
   generalize upd (upd H9 r1 (.dK [])) z (.dK [])=H10 at s10⊢
   have C10:=C9.same s10
   obtain⟨d2,hc2⟩:=C10.ob
   refine fz ⟨_,rfl,c,d2,_,rfl,hc2,(by rfl),c,a,p,dd,_,rfl,C10,λH11 s11=>?_⟩
   have C11:=C10.same s11
   obtain⟨d3,hc3⟩:=C11.ob
   refine⟨rfl,_,rfl,vM rfl ⟨_,rfl,c,d3,_,rfl,hc3,(by rfl),c,a,p,dd,_,rfl,C11,rfl,_,rfl,bQ (λz=>by cases z) (go _ _ ⟨rfl,s10.trans s11⟩)⟩⟩
  obtain⟨rfl,s10⟩:=w
  have W10:=W9.same s10
  have C10:=C9.same s10
  have hr10:=s10 _ _ hr9
  clear W9 C9 hr9 s10 hc
  obtain⟨dc,hc⟩:=C10.ob
  obtain⟨dr,fr,hr',tr⟩:=W10.TK
  refine cw (λσ H'=>σ=[some (.ref sc),some (.ref a),some (.ref d),some (.ref p),v4,some (.ref r),some (.ref c),none,none,none,none]∧Same H10 H') (λnx go=>?_) (λσ H11 w=>?_)
  ·refine⟨_,rfl,c,dc,_,rfl,hc,(by rfl),c,a,p,dd,_,rfl,C10,p,_,dr,fr,_,rfl,hr',tr.wo,dWN on.kd,p,dr,kd,fr,av,e,rfl,hr',tr,on,ba,be,λH11 s11=>?_⟩
   refine⟨_,rfl,p,_,dr,fr,_,rfl,s11 _ _ hr',tr.wo,dWN on.kd,p,dr,kd,fr,av,e,rfl,s11 _ _ hr',tr,on,ba,be,λH12 s12=>⟨rfl,_,rfl,vM rfl ?_⟩⟩
   have s12':=s11.trans s12
   have W12:=W10.same s12'
   have C12:=C10.same s12'
   obtain⟨d3,hc3⟩:=C12.ob
   refine⟨_,rfl,c,d3,_,rfl,hc3,(by rfl),_,rfl,sc,ns,2,rfl,W12.cS.sq,by decide,?_⟩
   rw[ec2]
   refine⟨_,_,rfl,rfl,(by show(0:Int)<9;decide),c,a,p,dd,_,F6,x6,rfl,C12,W12.A,λH13 s13=>⟨_,rfl,r,_,rfl,.inl (SqL.of (s13 _ _ (s12' _ _ hr10))),?_⟩⟩
   rw[Q1]
   exact⟨rfl,_,rfl,vM rfl (go _ _ ⟨rfl,s12'.trans s13⟩)⟩
  obtain⟨rfl,s11⟩:=w
  have W11:=W10.same s11
  have C11:=C10.same s11
  have hr11:=s11 _ _ hr10
  clear W10 C10 hr10 s11 hc hr' tr
  refine⟨_,rfl,d,_,rfl,.inl W11.di,λl6 nl6=>?_⟩
  rw[show gU (aS x.st.kv)=(x.st.kv.map (·.1)).map V.int from qS]
  have s6:=ak (o:= .lst ((x.st.kv.map (·.1)).map V.int)) nl6
  have h6:upd H11 l6 (.lst ((x.st.kv.map (·.1)).map V.int)) l6=some (.lst ((x.st.kv.map (·.1)).map V.int)):=ag
  generalize upd H11 l6 (.lst ((x.st.kv.map (·.1)).map V.int))=H12 at s6 h6⊢
  refine⟨_,rfl,20,rfl,sc,_,rfl,(W11.same s6).cS.sq,λl7 nl7=>?_⟩
  rw[y7 (by decide),←ZI]
  obtain⟨xs,exs⟩:∃xs,ns.take (20:Int).toNat=xs:=⟨_,rfl⟩
  have lx:xs.length≤63:=by rw[←exs,Qm];omega
  rw[exs]
  have s7:=s6.trans (ak (o:= .lst (xs.map V.int)) nl7)
  have h6:=ak (o:= .lst (xs.map V.int)) nl7 _ _ h6
  have h7:upd H12 l7 (.lst (xs.map V.int)) l7=some (.lst (xs.map V.int)):=ag
  generalize upd H12 l7 (.lst (xs.map V.int))=H7 at s7 h6 h7⊢
  refine⟨l7,rfl,⟨_,SqL.of h7⟩,λD hD=>?_⟩
  refine xi (K:=K) (a:=l7) (xs:=xs.map V.int) (zl H7) ⟨ak hD,[],rfl,rfl,λ_ z=>absurd z Z8⟩ (λi ys H8 _ w=>SqL.of (w.1 _ _ h7)) (λi y ys H8 hy w hDD=>?_) (λys H8 w hDD=>?_)
  ·obtain⟨z,_,rfl⟩:=Ql.mp (Q0 hy)
   exact⟨_,rfl,_,_,rfl,rfl,(by show(0:Int)<70000;decide),wI hy w hD hDD (by rw[Q1];omega) (Qe _ (by decide))⟩
  obtain⟨s8,zs,rfl,lz,z0⟩:=w
  rw[Q1]at lz
  refine⟨l6,D,_,_,rfl,rfl,s8 _ _ h6,hDD,(by simp only[Q1];have:1000≤sizeLine:=(by decide);omega),λl9 n9=>?_⟩
  rw[←Qr]
  obtain⟨ks,eks⟩:∃ks,x.st.kv.map (·.1)++zs=ks:=⟨_,rfl⟩
  have k0:∀k∈ks,0≤k:=λk hk=>by
   rw[←eks]at hk
   exact(Q4.mp hk).elim (kb k) (z0 k)
  rw[eks]
  have s9:=(s7.trans s8).trans (ak (o:= .lst (ks.map V.int)) n9)
  have h9:upd H8 l9 (.lst (ks.map V.int)) l9=some (.lst (ks.map V.int)):=ag
  generalize upd H8 l9 (.lst (ks.map V.int))=H9 at s9 h9⊢
  have W9:=W11.same s9
  have C9:=C11.same s9
  have hr9:=s9 _ _ hr11
  refine⟨l9,rfl,⟨_,SqL.of h9⟩,mT (K:=K) (a:=l9) (xs:=ks.map V.int) (λi σ H'=>∃v7:Option V,σ=[some (.ref sc),some (.ref a),some (.ref d),some (.ref p),v4,some (.ref r),some (.ref c),v7,none,none,none]∧Same H9 H') ⟨_,rfl,Same.refl _⟩ (λi σ H' _ w=>by obtain⟨_,_,s⟩:=w;exact SqL.of (s _ _ h9)) (λi z σ H' hz w'=>?_) (λσ H' w'=>?_)⟩
  ·obtain⟨v7,rfl,s⟩:=w'
   obtain⟨k,hk',rfl⟩:=Ql.mp (Q0 hz)
   have C':=C9.same s
   obtain⟨d3,hc3⟩:=C'.ob
   refine⟨_,rfl,c,d3,_,rfl,hc3,(by rfl),_,rfl,c,a,p,dd,_,kd,k,av,e,rfl,C',(W9.same s).TK,on,k0 k hk',λH2 s2=>⟨_,_,rfl,rfl,_,rfl,fz ⟨_,rfl,s.trans s2⟩⟩⟩
  obtain⟨v7,rfl,s⟩:=w'
  have W12:=W9.same s
  have C12:=C9.same s
  have hr12:=s _ _ hr9
  clear W9 C9 hr9 W11 C11 hr11 s h9 s9 h6 h7 hDD hD s8 s7 s6 n9 nl6 nl7
  obtain⟨d3,hc3⟩:=C12.ob
  refine⟨_,rfl,c,d3,_,rfl,hc3,(by rfl),c,a,p,dd,_,rfl,C12,λH13 tp r2 s13 ht h2=>⟨tp,_,rfl,SqT.of ht,rfl,_,_,rfl,_,_,rfl,_,_,rfl,rfl,?_⟩⟩
  have W13:=W12.same s13
  have hr13:=s13 _ _ hr12
  obtain⟨dr,fr,hr',tr⟩:=W13.TK
  refine⟨_,rfl,p,_,dr,fr,_,rfl,hr',tr.wo,dWN on.kd,p,dr,kd,fr,av,e,rfl,hr',tr,on,ba,be,λH14 s14=>?_⟩
  refine⟨_,rfl,p,_,dr,fr,_,rfl,s14 _ _ hr',tr.wo,dWN on.kd,p,dr,kd,fr,av,e,rfl,s14 _ _ hr',tr,on,ba,be,λH15 s15=>⟨rfl,_,rfl,?_⟩⟩
  rw[decide_eq_true rfl]
  have s15':=s14.trans s15
  refine dj ⟨_,rfl,_,rfl,r,_,rfl,.inl (SqL.of (s15' _ _ hr13)),?_⟩
  rw[Q1]
  refine⟨rfl,_,rfl,?_⟩
  rw[decide_eq_true rfl]
  refine dj ⟨_,rfl,λz nz=>⟨r2,z,[],[],rfl,rfl,ak nz _ _ (s15' _ _ h2),ag,rfl,(λp hp=>absurd hp Z8),_,rfl,dj ?_⟩⟩
  have s16:=s15'.trans (ak (o:= .dK []) nz)
  generalize upd H15 z (.dK [])=H16 at s16⊢
  have W16:=W13.same s16
  obtain⟨da,fa,ha,hm,_⟩:=W16.A.ins
  refine⟨_,rfl,a,da,fa,rfl,ha,hm _ (by decide+kernel),a,0,F6,x6,rfl,W16.A,Zi _,λH17 r3 s17 nr3 hr3=>?_⟩
  rw[show(0:Int).toNat=0 from rfl,QT]at hr3
  have e3:∀{H:Hp} {l:Addr},H l=some (.lst (x6.di.map λe=>V.ref e.1))→H l=some (.lst ((x6.di.map (·.1)).map V.ref)):=λh=>by rw[h,Z3];rfl
  exact⟨_,rfl,r3,r,x6.di.map (·.1),rfl,rfl,SqL.of (e3 hr3),SqL.of (e3 (s17 _ _ (s16 _ _ hr13))),q _⟩
end
end SW
namespace ZK
open PySem PySem.W SW L2
theorem fM {P:Params} {x qual:Str} {st:Stmt} {a:Addr} {kV doc pm cdv ct:Value} {an:Option Addr} (l:(K P).lookup a=some (f (D x qual st N kV doc pm an cdv ct)):=by kernel_rfl) (c:codeIn (K P) cdv qual=true:=by kernel_rfl) (k:keepIn (K P) (.ref a)=true:=by kernel_rfl):Fun (K P) x qual st a (D x qual st N kV doc pm an cdv ct):=Cm l c k
theorem nA {P:Params} {C:Addr} {x:Str} (h:findIn (K P) (.ref C) x=some none:=by kernel_rfl):NoAttr (K P) C x:=h
theorem fT {P:Params} {x qual:Str} {st:Stmt} {a b:Addr} {kV doc pm cdv ct:Value} {an:Option Addr} (l:(K P).lookup a=some (f (D x qual st (R b) kV doc pm an cdv ct)):=by kernel_rfl) (c:codeIn (K P) cdv qual=true:=by kernel_rfl) (k:keepIn (K P) (.ref a)=true:=by kernel_rfl):CI (K P) x qual st b a (D x qual st (R b) kV doc pm an cdv ct):=vO l c k
theorem fU {P:Params} {x qual:Str} {st:Stmt} {a b:Addr} {kV doc pm cdv ct:Value} {an:Option Addr} (l:(K P).lookup a=some (f (D x qual st (R b) kV doc pm an cdv ct)):=by kernel_rfl) (c:codeIn (K P) cdv qual=true:=by kernel_rfl) (k:keepIn (K P) (.ref a)=true:=by kernel_rfl):FunD (K P) x qual st a (D x qual st (R b) kV doc pm an cdv ct):=(vO l c k).1
theorem CF {P:Params}:(K P).lookup 219=some ⟨(T "tuple"),none,.seq #[(.int 0 462),(.int 65536 463)] 0, #[]⟩:=by kernel_rfl
theorem CD {P:Params}:(K P).lookup 246=some ⟨(T "tuple"),none,.seq #[(.int 0 497),N] 0, #[]⟩:=by kernel_rfl
theorem CC {P:Params}:(K P).lookup 273=some ⟨(T "tuple"),none,.seq #[N,(.int 0 531)] 0, #[]⟩:=by kernel_rfl
theorem T314 {P:Params}:(K P).lookup 314=some ⟨(T "tuple"),none,.seq #[N] 0, #[]⟩:=by kernel_rfl
theorem T329 {P:Params}:(K P).lookup 329=some ⟨(T "tuple"),none,.seq #[(.int 10 600)] 0, #[]⟩:=by kernel_rfl
theorem T728 {P:Params}:(K P).lookup 728=some ⟨(T "tuple"),none,.seq #[(.int 0 1113)] 0, #[]⟩:=by kernel_rfl
end ZK
namespace SW
open PySem L2
set_option maxHeartbeats 0
theorem us1 {α:Type} {us:List α} (hl:us.length=1):∃x0,us=[x0]:=by rcases us with _|⟨x0,_|⟨y,t⟩⟩<;>first|exact⟨_,rfl⟩|simp at hl
theorem us2 {α:Type} {us:List α} (hl:us.length=2):∃x0 x1,us=[x0,x1]:=by rcases us with _|⟨x0,_|⟨x1,_|⟨y,t⟩⟩⟩<;>first|exact⟨_,_,rfl⟩|simp at hl
theorem us3 {α:Type} {us:List α} (hl:us.length=3):∃x0 x1 x2,us=[x0,x1,x2]:=by rcases us with _|⟨x0,_|⟨x1,_|⟨x2,_|⟨y,t⟩⟩⟩⟩<;>first|exact⟨_,_,_,rfl⟩|simp at hl
theorem us4 {α:Type} {us:List α} (hl:us.length=4):∃x0 x1 x2 x3,us=[x0,x1,x2,x3]:=by rcases us with _|⟨x0,_|⟨x1,_|⟨x2,_|⟨x3,_|⟨y,t⟩⟩⟩⟩⟩<;>first|exact⟨_,_,_,_,rfl⟩|simp at hl
open ZK in
theorem txt {P:Params} {h:Heap} {mg:Str→Option Value} (X:(ZK.K P).In h) (G:h.Ns mainGlobals mg):Txt (ZK.K P) mg ZK.t:=⟨Q9 X G (by kernel_rfl),
  Q9 X G (by kernel_rfl),
  Q9 X G (by kernel_rfl),
  Q9 X G (by kernel_rfl),
  Q9 X G (by kernel_rfl),
  Q9 X G (by kernel_rfl),
  Q9 X G (by kernel_rfl),
  Q9 X G (by kernel_rfl),
  Q9 X G (by kernel_rfl),
  Q9 X G (by kernel_rfl),
  Q9 X G (by kernel_rfl),
  Q9 X G (by kernel_rfl),
  Q9 X G (by kernel_rfl),
  Q9 X G (by kernel_rfl),
  Q9 X G (by kernel_rfl),
  Q9 X G (by kernel_rfl),
  ZK.fM,
  .all λus hl=>by obtain⟨_,_,rfl⟩:=us2 hl;rfl,
  ZK.fM,
  .all λus hl=>by obtain⟨_,_,rfl⟩:=us2 hl;rfl,
  ZK.fM,
  .all λus hl=>by obtain⟨_,_,rfl⟩:=us2 hl;rfl,
  ZK.fM,
  .all λus hl=>by obtain⟨_,_,rfl⟩:=us2 hl;rfl,
  Q9 X G (by kernel_rfl),
  ZK.fM,
  .all λus hl=>by obtain⟨_,rfl⟩:=us1 hl;rfl,
  Q9 X G (by kernel_rfl),
  ZK.fM,
  .all λus hl=>by obtain⟨_,rfl⟩:=us1 hl;rfl,
  Q9 X G (by kernel_rfl),
  ZK.fM,
  .all λus hl=>by obtain⟨_,rfl⟩:=us1 hl;rfl,
  Q9 X G (by kernel_rfl),
  ZK.fM,
  .all λus hl=>by obtain⟨_,_,rfl⟩:=us2 hl;rfl,
  Q9 X G (by kernel_rfl),
  ZK.fM,
  .all λus hl=>by obtain⟨_,rfl⟩:=us1 hl;rfl,
  Q9 X G (by kernel_rfl),
  ZK.fM,
  .all λus hl=>by obtain⟨_,_,rfl⟩:=us2 hl;rfl,
  Q9 X G (by kernel_rfl),
  ZK.fM,
  .all λus hl=>by obtain⟨_,rfl⟩:=us1 hl;rfl,
  ZK.fM,
  .all λus hl=>by obtain⟨_,_,_,_,rfl⟩:=us4 hl;rfl,
  ZK.fM,
  .all λus hl=>by obtain⟨_,rfl⟩:=us1 hl;rfl,
  ZK.fU,
  cN (ds:=[]) 3 rfl (fT (a:=226)) CF λ_ _ _ _ _ _ us hl=>by obtain⟨_,_,_,rfl⟩:=us3 hl;exact⟨_,rfl,rfl⟩,
  ⟨_,cN (ds:=[(.int 65536 463)]) 2 rfl (fT (a:=226)) CF λ_ _ _ _ _ _ us hl=>by obtain⟨_,_,rfl⟩:=us2 hl;exact⟨_,rfl,rfl⟩,(.cons ⟨_,rfl⟩ .nil)⟩,
  ⟨_,cN (ds:=[(.int 0 462),(.int 65536 463)]) 1 rfl (fT (a:=226)) CF λ_ _ _ _ _ _ us hl=>by obtain⟨_,rfl⟩:=us1 hl;exact⟨_,rfl,rfl⟩,(.cons ⟨_,rfl⟩ (.cons ⟨_,rfl⟩ .nil))⟩,
  ZK.fM,
  .all λus hl=>by obtain⟨_,_,rfl⟩:=us2 hl;rfl,
  ZK.fU,
  cN (ds:=[]) 3 rfl (fT (a:=253)) CD λ_ _ _ _ _ _ us hl=>by obtain⟨_,_,_,rfl⟩:=us3 hl;exact⟨_,rfl,rfl⟩,
  ⟨_,cN (ds:=[N]) 2 rfl (fT (a:=253)) CD λ_ _ _ _ _ _ us hl=>by obtain⟨_,_,rfl⟩:=us2 hl;exact⟨_,rfl,rfl⟩,(.cons rfl .nil)⟩,
  ⟨_,cN (ds:=[(.int 0 497),N]) 1 rfl (fT (a:=253)) CD λ_ _ _ _ _ _ us hl=>by obtain⟨_,rfl⟩:=us1 hl;exact⟨_,rfl,rfl⟩,(.cons ⟨_,rfl⟩ (.cons rfl .nil))⟩,
  ZK.fM,
  .all λus hl=>by obtain⟨_,_,rfl⟩:=us2 hl;rfl,
  ZK.fU,
  cN (ds:=[]) 3 rfl (fT (a:=280)) CC λ_ _ _ _ _ _ us hl=>by obtain⟨_,_,_,rfl⟩:=us3 hl;exact⟨_,rfl,rfl⟩,
  ⟨_,cN (ds:=[(.int 0 531)]) 2 rfl (fT (a:=280)) CC λ_ _ _ _ _ _ us hl=>by obtain⟨_,_,rfl⟩:=us2 hl;exact⟨_,rfl,rfl⟩,(.cons ⟨_,rfl⟩ .nil)⟩,
  ⟨_,cN (ds:=[N,(.int 0 531)]) 1 rfl (fT (a:=280)) CC λ_ _ _ _ _ _ us hl=>by obtain⟨_,rfl⟩:=us1 hl;exact⟨_,rfl,rfl⟩,(.cons rfl (.cons ⟨_,rfl⟩ .nil))⟩,
  ZK.fM,
  .all λus hl=>by obtain⟨_,_,rfl⟩:=us2 hl;rfl,
  Q9 X G (by kernel_rfl),
  ZK.fM,
  .all λus hl=>by obtain⟨_,_,rfl⟩:=us2 hl;rfl,
  ZK.fU,
  cN (ds:=[]) 4 rfl (fT (a:=321)) T314 λ_ _ _ _ _ _ us hl=>by obtain⟨_,_,_,_,rfl⟩:=us4 hl;exact⟨_,rfl,rfl⟩,
  ⟨_,cN (ds:=[N]) 3 rfl (fT (a:=321)) T314 λ_ _ _ _ _ _ us hl=>by obtain⟨_,_,_,rfl⟩:=us3 hl;exact⟨_,rfl,rfl⟩,(.cons rfl .nil)⟩,
  ZK.fU,
  cN (ds:=[]) 2 rfl (fT (a:=336)) T329 λ_ _ _ _ _ _ us hl=>by obtain⟨_,_,rfl⟩:=us2 hl;exact⟨_,rfl,rfl⟩,
  ⟨_,cN (ds:=[(.int 10 600)]) 1 rfl (fT (a:=336)) T329 λ_ _ _ _ _ _ us hl=>by obtain⟨_,rfl⟩:=us1 hl;exact⟨_,rfl,rfl⟩,(.cons ⟨_,rfl⟩ .nil)⟩,
  ZK.fM,
  .all λus hl=>by obtain⟨_,rfl⟩:=us1 hl;rfl,
  ZK.fM,
  .all λus hl=>by obtain⟨_,_,rfl⟩:=us2 hl;rfl,
  ZK.fM,
  .all λus hl=>by obtain⟨_,rfl⟩:=us1 hl;rfl,
  ZK.fM,
  .all λus hl=>by obtain⟨_,_,rfl⟩:=us2 hl;rfl,
  ZK.fM,
  .all λus hl=>by obtain⟨_,rfl⟩:=us1 hl;rfl,
  ZK.fM,
  .all λus hl=>by obtain⟨_,rfl⟩:=us1 hl;rfl,
  ZK.fM,
  .all λus hl=>by obtain⟨_,rfl⟩:=us1 hl;rfl,
  ZK.fM,
  .all λus hl=>by obtain⟨_,rfl⟩:=us1 hl;rfl,
  ZK.fM,
  .all λus hl=>by obtain⟨_,rfl⟩:=us1 hl;rfl,
  ZK.fM,
  .all λus hl=>by obtain⟨_,_,rfl⟩:=us2 hl;rfl,
  ZK.fM,
  .all λus hl=>by obtain⟨_,_,rfl⟩:=us2 hl;rfl,
  ZK.fM,
  .all λus hl=>by obtain⟨_,_,rfl⟩:=us2 hl;rfl,
  ZK.fM,
  .all λus hl=>by obtain⟨_,rfl⟩:=us1 hl;rfl,
  ZK.fM,
  .all λus hl=>by obtain⟨_,_,rfl⟩:=us2 hl;rfl,
  ZK.fM,
  .all λus hl=>by obtain⟨_,_,rfl⟩:=us2 hl;rfl,
  ZK.fM,
  .all λus hl=>by obtain⟨_,_,rfl⟩:=us2 hl;rfl,
  ZK.fM,
  .all λus hl=>by obtain⟨_,rfl⟩:=us1 hl;rfl,
  ZK.fM,
  .all λus hl=>by obtain⟨_,_,_,rfl⟩:=us3 hl;rfl,
  Q9 X G (by kernel_rfl),
  ZK.fM,
  .all λus hl=>by obtain⟨_,rfl⟩:=us1 hl;rfl,
  ZK.fM,
  .all λus hl=>by obtain⟨_,rfl⟩:=us1 hl;rfl,
  ZK.fM,
  .all λus hl=>by obtain⟨_,_,_,rfl⟩:=us3 hl;rfl,
  ZK.fM,
  .all λus hl=>by obtain⟨_,_,rfl⟩:=us2 hl;rfl,
  ZK.fM,
  .all λus hl=>by obtain⟨_,_,rfl⟩:=us2 hl;rfl,
  ZK.fM,
  .all λus hl=>by obtain⟨_,_,rfl⟩:=us2 hl;rfl,
  ZK.fM,
  .all λus hl=>by obtain⟨_,rfl⟩:=us1 hl;rfl,
  ZK.fM,
  .all λus hl=>by obtain⟨_,rfl⟩:=us1 hl;rfl,
  ZK.fM,
  .all λus hl=>by obtain⟨_,rfl⟩:=us1 hl;rfl,
  ZK.fM,
  .all λus hl=>by obtain⟨_,_,_,rfl⟩:=us3 hl;rfl,
  ZK.fM,
  .all λus hl=>by obtain⟨_,_,rfl⟩:=us2 hl;rfl,
  ZK.fM,
  .all λus hl=>by obtain⟨_,rfl⟩:=us1 hl;rfl,
  ZK.fU,
  cN (ds:=[]) 2 rfl (fT (a:=735)) T728 λ_ _ _ _ _ _ us hl=>by obtain⟨_,_,rfl⟩:=us2 hl;exact⟨_,rfl,rfl⟩,
  ⟨_,cN (ds:=[(.int 0 1113)]) 1 rfl (fT (a:=735)) T728 λ_ _ _ _ _ _ us hl=>by obtain⟨_,rfl⟩:=us1 hl;exact⟨_,rfl,rfl⟩,(.cons ⟨_,rfl⟩ .nil)⟩,
  ZK.fM,
  .all λus hl=>by obtain⟨_,_,_,rfl⟩:=us3 hl;rfl,
  Q9 X G (by kernel_rfl),
  ZK.fM,
  .all λus hl=>by obtain⟨_,_,rfl⟩:=us2 hl;rfl,
  Q9 X G (by kernel_rfl),
  ZK.fM,
  .all λus hl=>by obtain⟨_,_,rfl⟩:=us2 hl;rfl,
  Q9 X G (by kernel_rfl),
  ZK.fM,
  .all λus hl=>by obtain⟨_,rfl⟩:=us1 hl;rfl,
  Q9 X G (by kernel_rfl),
  ZK.fM,
  .all λus hl=>by obtain⟨_,_,_,rfl⟩:=us3 hl;rfl,
  Q9 X G (by kernel_rfl),
  ZK.fM,
  .all λus hl=>by obtain⟨_,rfl⟩:=us1 hl;rfl,
  Q9 X G (by kernel_rfl),
  ZK.fM,
  .all λus hl=>by obtain⟨_,_,rfl⟩:=us2 hl;rfl,
  Q9 X G (by kernel_rfl),
  ZK.fM,
  .all λus hl=>by obtain⟨_,_,rfl⟩:=us2 hl;rfl,
  Q9 X G (by kernel_rfl),
  ZK.fM,
  .all λus hl=>by obtain⟨_,rfl⟩:=us1 hl;rfl,
  Q9 X G (by kernel_rfl),
  ZK.fM,
  .all λus hl=>by obtain⟨_,_,rfl⟩:=us2 hl;rfl,
  Q9 X G (by kernel_rfl),
  ZK.fM,
  .all λus hl=>by obtain⟨_,rfl⟩:=us1 hl;rfl,
  ⟨⟨_,_,_,_,_,_,_,_,_,_,_,_,_,_,(by rfl)⟩,⟨[],rfl⟩,(by kernel_rfl),(by kernel_rfl),(by kernel_rfl),(by kernel_rfl)⟩,
  ⟨⟨_,_,_,_,_,_,_,_,_,_,_,_,_,_,(by rfl)⟩,⟨[ZK.t.aU],rfl⟩,(by kernel_rfl),(by kernel_rfl),(by kernel_rfl),(by kernel_rfl)⟩,
  ⟨⟨_,_,_,_,_,_,_,_,_,_,_,_,_,_,(by rfl)⟩,⟨[ZK.t.aU],rfl⟩,(by kernel_rfl),(by kernel_rfl),(by kernel_rfl),(by kernel_rfl)⟩,
  ⟨(by kernel_rfl),(by kernel_rfl),(by kernel_rfl),(by kernel_rfl)⟩,
  (by kernel_rfl),
  ZK.nA,
  ⟨⟨_,_,_,_,_,_,_,_,_,_,_,_,_,_,(by rfl)⟩,⟨[ZK.t.aU],rfl⟩,(by kernel_rfl),(by kernel_rfl),(by kernel_rfl),(by kernel_rfl)⟩,
  ZK.nA,
  ⟨⟨_,_,_,_,_,_,_,_,_,_,_,_,_,_,(by rfl)⟩,⟨[ZK.t.aU],rfl⟩,(by kernel_rfl),(by kernel_rfl),(by kernel_rfl),(by kernel_rfl)⟩,
  ZK.nA,
  ⟨⟨_,_,_,_,_,_,_,_,_,_,_,_,_,_,(by rfl)⟩,⟨[ZK.t.aU],rfl⟩,(by kernel_rfl),(by kernel_rfl),(by kernel_rfl),(by kernel_rfl)⟩,
  ZK.nA,
  ⟨⟨_,_,_,_,_,_,_,_,_,_,_,_,_,_,(by rfl)⟩,⟨[ZK.t.aU],rfl⟩,(by kernel_rfl),(by kernel_rfl),(by kernel_rfl),(by kernel_rfl)⟩,
  ZK.nA,
  ZK.nA,
  ZK.nA,
  ⟨(by kernel_rfl),(by kernel_rfl),(by kernel_rfl),(by kernel_rfl)⟩,
  ⟨(by kernel_rfl),(by kernel_rfl),(by kernel_rfl),(by kernel_rfl)⟩,
  ⟨(by kernel_rfl),(by kernel_rfl),(by kernel_rfl)⟩,
  ZK.nA,
  ZK.nA,
  ZK.nA,
  ⟨(by kernel_rfl),(by kernel_rfl),(by kernel_rfl),(by kernel_rfl)⟩,
  ⟨(by kernel_rfl),(by kernel_rfl),(by kernel_rfl),(by kernel_rfl)⟩,
  ⟨(by kernel_rfl),(by kernel_rfl),(by kernel_rfl)⟩,
  ⟨(by kernel_rfl),(by kernel_rfl),(by kernel_rfl)⟩,
  ZK.nA,
  ZK.nA,
  ZK.nA,
  ⟨(by kernel_rfl),(by kernel_rfl),(by kernel_rfl),(by kernel_rfl)⟩,
  ⟨(by kernel_rfl),(by kernel_rfl),(by kernel_rfl),(by kernel_rfl)⟩,
  ⟨(by kernel_rfl),(by kernel_rfl),(by kernel_rfl)⟩,
  ⟨(by kernel_rfl),(by kernel_rfl),(by kernel_rfl)⟩,
  ZK.nA,
  ZK.nA,
  ZK.nA,
  ⟨(by kernel_rfl),(by kernel_rfl),(by kernel_rfl),(by kernel_rfl)⟩,
  ⟨(by kernel_rfl),(by kernel_rfl),(by kernel_rfl),(by kernel_rfl)⟩,
  ⟨(by kernel_rfl),(by kernel_rfl),(by kernel_rfl)⟩,
  ⟨(by kernel_rfl),(by kernel_rfl),(by kernel_rfl)⟩,
  ZK.nA,
  ZK.nA,
  ZK.nA,
  ZK.nA,
  ZK.nA,
  ZK.nA,
  ⟨(by kernel_rfl),(by kernel_rfl),(by kernel_rfl),(by kernel_rfl)⟩,
  ⟨(by kernel_rfl),(by kernel_rfl),(by kernel_rfl),(by kernel_rfl)⟩,
  ⟨(by kernel_rfl),(by kernel_rfl),(by kernel_rfl)⟩,
  ⟨(by kernel_rfl),(by kernel_rfl),(by kernel_rfl)⟩,
  ⟨(by kernel_rfl),(by kernel_rfl),(by kernel_rfl)⟩,
  ⟨(by kernel_rfl),(by kernel_rfl),(by kernel_rfl)⟩,
  ⟨(by kernel_rfl),(by kernel_rfl),(by kernel_rfl)⟩,
  ⟨(by kernel_rfl),(by kernel_rfl),(by kernel_rfl)⟩,
  ⟨(by kernel_rfl),(by kernel_rfl),(by kernel_rfl)⟩,
  ⟨(by kernel_rfl),(by kernel_rfl),(by kernel_rfl)⟩,
  ⟨(by kernel_rfl),(by kernel_rfl),(by kernel_rfl)⟩,
  ZK.nA,
  ⟨(by kernel_rfl),(by kernel_rfl),(by kernel_rfl),(by kernel_rfl)⟩,
  ⟨(by kernel_rfl),(by kernel_rfl),(by kernel_rfl),(by kernel_rfl)⟩,
  ⟨(by kernel_rfl),(by kernel_rfl),(by kernel_rfl)⟩,
  ⟨(by kernel_rfl),(by kernel_rfl),(by kernel_rfl)⟩,
  ⟨(by kernel_rfl),(by kernel_rfl),(by kernel_rfl)⟩,
  ⟨(by kernel_rfl),(by kernel_rfl),(by kernel_rfl)⟩,
  ⟨(by kernel_rfl),(by kernel_rfl),(by kernel_rfl)⟩,
  ⟨(by kernel_rfl),(by kernel_rfl),(by kernel_rfl)⟩,
  ⟨(by kernel_rfl),(by kernel_rfl),(by kernel_rfl)⟩,
  ZK.nA,
  ⟨(by kernel_rfl),(by kernel_rfl),(by kernel_rfl),(by kernel_rfl)⟩,
  ⟨(by kernel_rfl),(by kernel_rfl),(by kernel_rfl),(by kernel_rfl)⟩,
  ⟨(by kernel_rfl),(by kernel_rfl),(by kernel_rfl)⟩,
  ZK.nA,
  ZK.nA,
  ZK.nA,
  ⟨(by kernel_rfl),(by kernel_rfl),(by kernel_rfl),(by kernel_rfl)⟩,
  ⟨(by kernel_rfl),(by kernel_rfl),(by kernel_rfl),(by kernel_rfl)⟩,
  ⟨(by kernel_rfl),(by kernel_rfl),(by kernel_rfl)⟩,
  ⟨(by kernel_rfl),(by kernel_rfl),(by kernel_rfl)⟩,
  ⟨(by kernel_rfl),(by kernel_rfl),(by kernel_rfl)⟩,
  ⟨(by kernel_rfl),(by kernel_rfl),(by kernel_rfl)⟩,
  ⟨(by kernel_rfl),(by kernel_rfl),(by kernel_rfl)⟩,
  ⟨(by kernel_rfl),(by kernel_rfl),(by kernel_rfl)⟩,
  ZK.nA,
  ZK.nA,
  ZK.nA,
  ZK.nA,
  ZK.nA,
  ZK.nA,
  ZK.nA,
  ZK.nA,
  ⟨(by kernel_rfl),(by kernel_rfl),(by kernel_rfl),(by kernel_rfl)⟩,
  ⟨(by kernel_rfl),(by kernel_rfl),(by kernel_rfl),(by kernel_rfl)⟩,
  ⟨(by kernel_rfl),(by kernel_rfl),(by kernel_rfl)⟩,
  ⟨(by kernel_rfl),(by kernel_rfl),(by kernel_rfl)⟩,
  ⟨(by kernel_rfl),(by kernel_rfl),(by kernel_rfl)⟩,
  ⟨(by kernel_rfl),(by kernel_rfl),(by kernel_rfl)⟩,
  ⟨(by kernel_rfl),(by kernel_rfl),(by kernel_rfl)⟩,
  ⟨(by kernel_rfl),(by kernel_rfl),(by kernel_rfl)⟩,
  ⟨(by kernel_rfl),(by kernel_rfl),(by kernel_rfl)⟩,
  (by kernel_rfl),
  (by kernel_rfl),
  ⟨348,Q9 X G (by kernel_rfl)⟩,
  ⟨350,Q9 X G (by kernel_rfl)⟩,
  ⟨706,Q9 X G (by kernel_rfl)⟩,
  ⟨708,Q9 X G (by kernel_rfl)⟩,
  ⟨888,Q9 X G (by kernel_rfl)⟩,
  ⟨890,Q9 X G (by kernel_rfl)⟩,
  Qy X G (by kernel_rfl),
  Qy X G (by kernel_rfl),
  Qy X G (by kernel_rfl),
  Qy X G (by kernel_rfl),
  Qy X G (by kernel_rfl),
  Qy X G (by kernel_rfl),
  Qy X G (by kernel_rfl),
  Qy X G (by kernel_rfl),
  Qy X G (by kernel_rfl),
  Qy X G (by kernel_rfl),
  Qy X G (by kernel_rfl),
  Qy X G (by kernel_rfl)⟩
theorem walk {l:PySem.W.OpenLaw} {q:Program} {loose:List Str} {XP:(Str→Option Value)→Heap→Prop} {YP:World→Heap→Prop} {d:DefRec} {K:Params→PySem.W.Frag} (hn:l.most=some 63) (hdf:d.params.defaults=[])
  (hY:∀(w:World) (h:Heap),YP w h→(K w.params).In h) (hd:d.name="law")
  (F:∀(w:World) (mg:Str→Option Value) (h:Heap),(K w.params).In h→h.Ns mainGlobals mg→∃t,Txt (K w.params) mg t):
  PySem.W.WalkO q loose XP YP l.row.toRowW d [] (λf vs=>PySem.call f vs):=by
 refine L2.walk_of (n:=63) (k:=9) (x:="_law_script") (CX:=λ_=>CX0) (sp:=λw=>xZ (K w.params)) hn (by decide) hdf ⟨rfl,by decide,by decide⟩ hY (λw mg fa h KX G hfa=>?_) (λ_ _ a ns hl _ hS=>⟨a,ns,rfl,hS,hl,λ_=>rfl⟩) λ_ _ _ _ _ z=>z
 obtain⟨t,T⟩:=F w mg h KX G
 have e:=hfa.symm.trans ((congrArg mg hd).trans T.DP)
 cases e
 obtain⟨oc,od,kV,doc,pm,an,cdv,ct,osl,e1,lk,hcd⟩:=T.DB.ex
 refine⟨t.vW,λs u=>?_,λbase _ _=>BW T⟩
 rw[e1]
 exact .of_eq rfl
end SW
open PySem PySem.W PyProof.Rows
set_option maxRecDepth 100000 in
set_option maxHeartbeats 0 in
theorem PySem.Challenge.cw_staywalk_k51_a_copier_begins_holds : PySem.Challenge.rw_staywalk_k51_a_copier_begins.Holds := by
 w_on
 refine holds_law ZK.said λsaid=>?_
 refine holds_open (q:=ZK.q) (loose:=["BySlots","Up","Down"]) (Xt:=λs=>xlAt ZK.q [] s&&recOk (RowW.records (OpenRow.toRowW (OpenLaw.row PySem.Challenge.rw_staywalk_k51_a_copier_begins))) s) (XP:=XL ZK.q []) (Yf:=Hook.obs ZK.H) (Ya:=Hook.val ZK.H) (YP:=Hook.says ZK.H) ZK.left (Hook.of ZK.H) (Hook.keeps ZK.H) (λs e=>xl_of s (Bool.and_eq_true_iff.mp e).1) XL.keeps (by rfl) (by rfl) (by rfl) (λs e=>recFacts_of (Bool.and_eq_true_iff.mp e).2) (by rfl) (by first|assumption|decide+kernel) (by decide+kernel) ⟨rfl,rfl,rfl,rfl,rfl,by decide+kernel⟩ ?hw ?hc
 (case hw=>w_witness2)
 exact SW.walk (l:=PySem.Challenge.rw_staywalk_k51_a_copier_begins) rfl rfl (λw h Y=>kIn_of Y) rfl λw mg h KX G=>⟨_,SW.txt KX G⟩
#print axioms PySem.Challenge.cw_staywalk_k51_a_copier_begins_holds
