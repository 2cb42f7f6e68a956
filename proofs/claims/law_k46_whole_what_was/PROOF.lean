import PyProof.Rows.All
import PySem.Challenge.RW_staywalk_k46_whole_what_was
import KE.KFromBytes
import KE.KItemsList
import KE.KPairComp
import KE.KSortTup
import KE.KIsAll
import KE.KRevIter
import KE.KDictOf
set_option Elab.async false
set_option linter.all false
set_option maxRecDepth 100000
abbrev Q0:=@List.mem_of_getElem?
abbrev Q2:=@List.length_map
abbrev Q3:=@List.getElem?_eq_some_iff
abbrev Q4:=@List.getElem?_eq_getElem
abbrev Q5:=@Nat.le_refl
abbrev Q6:=@List.mem_cons_of_mem
abbrev Q7:=@Bool.false_ne_true
abbrev Q8:=@List.mem_cons_self
abbrev Q9:=@List.length_cons
abbrev Qa:=@List.length_append
abbrev Qb:=@List.mem_append
abbrev Qc:=@List.getElem?_map
abbrev Qd:=@List.size_toArray
abbrev Qe:=@List.mem_cons
abbrev Qf:=@List.mem_map
abbrev Qg:=@List.mem_singleton
abbrev Qh:=@PySem.W.mg_of
abbrev Qi:=@List.map_append
abbrev Qj:=@List.length_take
abbrev Qk:=@Nat.zero_le
abbrev Ql:=@PySem.F.plainAttrs_list
abbrev Qm:=@List.getElem?_set
abbrev Qn:=@List.mem_append_right
abbrev Qo:=@List.map_cons
abbrev Qp:=@Nat.lt_of_lt_of_le
abbrev Qq:=@Nat.ne_of_lt
abbrev Qr:=@List.length_filter_le
abbrev Qs:=@List.nodup_cons
abbrev Qt:=@List.length_set
abbrev Qu:=@List.getD_eq_getElem?_getD
abbrev Qv:=@Nat.le_trans
abbrev Qw:=@PySem.F.plainAttrs_dict
abbrev Qx:=@PySem.W.mg_none_of
abbrev Qy:=@List.map_map
abbrev Qz:=@List.take_add_one
abbrev QA:=@Bool.false_eq_true
abbrev QB:=@List.filter_cons
abbrev QC:=@List.getElem_of_mem
abbrev QD:=@List.mem_iff_getElem?
abbrev QE:=@List.contains_cons
abbrev QF:=@Int.emod_nonneg
abbrev QG:=@List.all_eq_true
abbrev QH:=@List.take_length
abbrev QI:=@List.length_pos_iff
abbrev QJ:=@List.length_singleton
abbrev QK:=@PySem.F.slot_list_append
abbrev QL:=@PySem.F.type_list_append
abbrev QM:=@List.mem_filter
abbrev QN:=@PySem.W.kia_one
abbrev QO:=@Nat.le_of_lt
abbrev QP:=@List.getElem?_append_right
abbrev QQ:=@List.take_of_length_le
abbrev QR:=@Array.length_toList
abbrev QS:=@List.getElem?_append_left
abbrev QT:=@List.getElem?_eq_none_iff
abbrev QU:=@List.take_append_drop
abbrev QV:=@List.length_drop
abbrev QW:=@List.mem_of_mem_eraseIdx
abbrev QX:=@List.mem_append_left
abbrev QY:=@List.getElem?_cons_succ
abbrev QZ:=@List.flatten_append
abbrev Z0:=@List.nodup_nil
abbrev Z1:=@List.pairwise_cons
abbrev Z2:=@List.filter_append
abbrev Z3:=@PySem.W.methodCall_KW
abbrev Z4:=@List.length_replicate
abbrev Z5:=@List.pairwise_iff_getElem
abbrev Z6:=@List.ne_nil_of_length_pos
abbrev Z7:=@List.mem_or_eq_of_mem_set
abbrev Z8:=@List.find?_cons
abbrev Z9:=@Nat.le_succ
abbrev Za:=@List.pairwise_map
abbrev Zb:=@List.flatten_cons
abbrev Zc:=@Nat.lt_irrefl
abbrev Zd:=@List.eq_of_mem_replicate
abbrev Ze:=@List.map_congr_left
abbrev Zf:=@Option.bind_some
abbrev Zg:=@List.getElem_mem
abbrev Zh:=@Array.getElem?_eq_some_iff
abbrev Zi:=@Int.le_refl
abbrev Zj:=@List.pairwise_append
abbrev Zk:=@List.mem_of_mem_take
abbrev Zl:=@List.lookup_cons
abbrev Zm:=@PySem.W.callWith_K
abbrev Zn:=@Int.emod_lt_of_pos
abbrev Zo:=@List.length_eq_zero_iff
abbrev Zp:=@Nat.le_of_eq
abbrev Zq:=@Int.toNat_natCast
abbrev Zr:=@PySem.F.slot_dict_pop
abbrev Zs:=@List.concat_eq_append
abbrev Zt:=@Bool.and_eq_true
abbrev Zu:=@Nat.max_eq_right
abbrev Zv:=@List.any_cons
abbrev Zw:=@List.mem_of_mem_drop
abbrev Zx:=@List.mem_map_of_mem
abbrev Zy:=@Bool.or_true
abbrev Zz:=@Nat.lt_of_le_of_lt
abbrev ZA:=@List.drop_eq_getElem_cons
abbrev ZB:=@List.getLast?_eq_getElem?
abbrev ZC:=@Option.isSome_iff_exists
abbrev ZD:=@PySem.F.slot_list_insert
abbrev ZE:=@PySem.F.type_list_insert
abbrev ZF:=@List.map_take
abbrev ZG:=@List.cons_append
abbrev ZH:=@Int.eq_ofNat_of_zero_le
abbrev ZI:=@List.pairwise_singleton
abbrev ZJ:=@PySem.F.slot_dict_items
abbrev ZL:=@List.getElem?_set_self
abbrev ZM:=@List.length_pos_of_mem
abbrev ZN:=@List.drop_eq_nil_of_le
abbrev ZO:=@List.filter_eq_nil_iff
abbrev ZP:=@Bool.eq_iff_iff
abbrev ZQ:=@List.of_mem_zip
abbrev ZR:=@Option.map_some
abbrev ZS:=@Array.getElem?_toList
abbrev ZT:=@PySem.F.slot_dict_get
abbrev ZU:=@PySem.F.type_dict_pop
abbrev ZV:=@Array.toArray_toList
abbrev ZW:=@List.getElem?_set_ne
abbrev ZX:=@List.getElem?_append
abbrev ZY:=@List.length_eraseIdx
abbrev ZZ:=@List.mem_of_getLast?
abbrev X0:=@List.filterMap_cons
abbrev X1:=@PySem.W.plainGet_of
abbrev X2:=@List.filter_sublist
abbrev X3:=@Nat.not_lt
abbrev X4:=@List.getElem?_drop
abbrev X5:=@Option.isSome_map
abbrev X6:=@Int.ne_of_gt
abbrev X7:=@Nat.zero_add
abbrev X8:=@List.append_assoc
abbrev X9:=@List.map_set
abbrev Xa:=@List.find?_append
abbrev Xb:=@List.eraseIdxIfInBounds_toArray
abbrev Xc:=@Nat.lt_succ_self
abbrev Xd:=@List.not_mem_nil
abbrev Xe:=@List.mem_flatten
abbrev Xf:=@List.mem_reverse
abbrev Xg:=@List.length_nil
abbrev Xh:=@Nat.not_lt_zero
abbrev Xi:=@PySem.F.slot_dict_setdefault
abbrev Xj:=@Int.fdiv_eq_ediv_of_nonneg
abbrev Xk:=@Bool.and_false
abbrev Xl:=@PySem.F.excBase_ValueError
abbrev Xm:=@List.drop_zero
abbrev Xn:=@Array.perm_iff_toList_perm
namespace L2
open PySem PySem.Spec PyProof.Rows
noncomputable def aG (s:Stmt) (j:Nat):Stmt:=match s with
 | .ClassDef _ _ _ body _ _ _ _ _ _ _=>body.getD j (.Pass ⟨0,0,0,0⟩)
 |_=> .Pass ⟨0,0,0,0⟩
noncomputable def dN (s:Stmt):Arguments:=match s with
 | .FunctionDef _ a _ _ _ _ _ _ _ _=>a
 |_=>{posonlyargs:=[],args:=[],vararg:=none,kwonlyargs:=[],kw_defaults:=[],kwarg:=none,defaults:=[]}
noncomputable def bW (s:Stmt):List Stmt:=match s with
 | .FunctionDef _ _ b _ _ _ _ _ _ _=>b
 |_=> []
noncomputable def ai (s:Stmt):Scope:=match s with
 | .FunctionDef _ _ _ _ _ _ sc _ _ _=>sc
 |_=>{kind:= .function,names:=[],isGenerator:=false,isCoroutine:=false}
end L2
namespace HD
open PySem PySem.W
noncomputable def yN (p:Program) (w:World) (n₀:Nat) (ann:Option Value):Nat→SharedT→Thread→Option SharedT
 |0,_,_=>none
 |n+1,s,t=>match through t with
  |true=>some s
  |false=>match Fast.tw6613529449190102663 n₀ ann t with
   |false=>none
   |true=>match Fast.tw10156331382660048174 (Fast.tw11892475500146522536 Fast.tw14364793385576792824) p w s t with
    |some (s',t')=>yN p w n₀ ann n s' t'
    |none=>none
theorem t8 {p:Program} {w:World} {n₀:Nat} {ann:Option Value}:∀{n:Nat} {s s':SharedT} {t:Thread},yN p w n₀ ann n s t=some s'→topRun treeTable p w n₀ ann n s.abs t=some s'.abs
 |0,_,_,_,h=>by cases h
 |n+1,s,s',t,h=>by
  unfold yN at h
  rw[←Fast.te6613529449190102663,←Fast.te10156331382660048174,←Fast.te11892475500146522536,←Fast.te14364793385576792824]at h
  unfold topRun
  cases ht:through t with
  |true=>rw[ht]at h;cases h;rfl
  |false=>
   rw[ht]at h
   cases hk:stepOk n₀ ann t with
   |false=>rw[hk]at h;cases h
   |true=>
    rw[hk]at h
    cases hs:stepT (denote treeTable) p w s t with
    |none=>rw[hs]at h;cases h
    |some x=>
     obtain⟨s2,t2⟩:=x
     rw[hs]at h
     show(match step (denote treeTable) p w s.abs t with| .go s' t'=>topRun treeTable p w n₀ ann n s' t'| .halt _ _=>none)=_
     rw[stepT_spec hs]
     exact t8 h
noncomputable def layT:List Obj→BT→Nat→Option (BT×Nat)
 | [],t,n=>some (t,n)
 |o::r,t,n=>match ((t.ins n o).get n).isSome with
  |true=>layT r (t.ins n o) (n+1)
  |false=>none
theorem uv {life:Life}:∀{l:List Obj} {t t':BT} {n n':Nat},layT l t n=some (t',n')→absHeap t' n' life=⟨(absHeap t n life).objs++l.toArray,life⟩
 | [],t,t',n,n',h=>by
  cases h
  rw[Array.append_empty]
  rfl
 |o::r,t,t',n,n',h=>by
  unfold layT at h
  cases g:((t.ins n o).get n).isSome with
  |false=>rw[g]at h;cases h
  |true=>
   rw[g]at h
   rw[uv h,absHeap_ins g]
   show Heap.mk _ _=Heap.mk _ _
   congr 1
   show(absHeap t n life).objs.push o++r.toArray=_
   rw[←Array.append_singleton,Array.append_assoc]
   congr 1
   simp
noncomputable def toT (s:Shared):Option SharedT:=match layT s.heap.objs.toList .nil 0 with
 |some (t,n)=>some ⟨t,n,s.heap.life,s.gens,s.drawn,s.toks,s.os⟩
 |none=>none
theorem Ar {s:Shared} {S:SharedT} (h:toT s=some S):S.abs=s:=by
 unfold toT at h
 cases e:layT s.heap.objs.toList .nil 0 with
 |none=>rw[e]at h;cases h
 |some x=>
  obtain⟨t,n⟩:=x
  rw[e]at h
  cases h
  obtain⟨⟨objs,life⟩,gens,drawn,toks,os⟩:=s
  show Shared.mk (absHeap t n life) _ _ _ _=_
  rw[uv e]
  show Shared.mk (Heap.mk (#[]++objs.toList.toArray) life) _ _ _ _=_
  rw[ZV,Array.empty_append]
noncomputable def Bc (p:Program) (w:World) (N:Nat) (s₀:Shared):Option Shared:=match toT s₀ with
 |some S=>(yN p w S.n (s₀.heap.nsMap mainGlobals "__annotations__") N S (topStub p)).map SharedT.abs
 |none=>none
theorem zx {p:Program} {w:World} {N:Nat} {s₀ s₁:Shared} (h:Bc p w N s₀=some s₁):topRun treeTable p w s₀.heap.objs.size (s₀.heap.nsMap mainGlobals "__annotations__") N s₀ (topStub p)=some s₁:=by
 unfold Bc at h
 cases e:toT s₀ with
 |none=>rw[e]at h;cases h
 |some S=>
  rw[e]at h
  obtain⟨S1,h1,rfl⟩:=Option.map_eq_some_iff.mp h
  have ea:=Ar e
  have en:S.n=s₀.heap.objs.size:=by
   rw[←ea]
   exact(absHeap_size _ _ _).symm
  rw[en]at h1
  have:=t8 h1
  rw[ea]at this
  exact this
theorem left_of {p q:Program} {loose:List Str} {Xt:Shared→Bool} {α:Type} {Yf:Shared→α} {Ya:World→α} {N:Nat}
  (h:∀w,((Fast.tw10274390034422433532 Fast.tw14364793385576792824 (opening p) w N (start (opening p)).1 (start (opening p)).2).bind (Fast.tw14289696077712309145 p)).bind (λs₀=>match s₀.heap.isNs mainGlobals&&s₀.gens.size==0 with
   |true=>(Bc p w N s₀).bind λs₁=>match staticsOk (importedModules p.main.body) s₀.heap s₁.heap&&namesBound p s₁.heap&&gensDone s₁&&laidKept s₀.heap s₁.heap with
    |true=>some (Fast.tw4187177175401517315 q loose (importedModules p.main.body) Xt true s₁,Yf s₁)
    |false=>none
   |false=>none)=some (openGood q loose,Ya w)):LeftO p q loose Xt Yf Ya N:=λw=>by
 have h:=h w
 rw[←Fast.te10274390034422433532,←Fast.te14364793385576792824,←Fast.te14289696077712309145,←Fast.te4187177175401517315]at h
 obtain⟨s₀,h0,h⟩:=Option.bind_eq_some_iff.mp h
 unfold openEnds fencedOpening
 rw[h0]
 show(topFrom treeTable p w N s₀).map _=_
 unfold topFrom
 cases hg:(s₀.heap.isNs mainGlobals&&s₀.gens.size==0)with
 |false=>rw[hg]at h;cases h
 |true=>
  rw[hg]at h
  obtain⟨s₁,h1,h⟩:=Option.bind_eq_some_iff.mp h
  show Option.map _ ((topRun treeTable p w s₀.heap.objs.size (s₀.heap.nsMap mainGlobals "__annotations__") N s₀ (topStub p)).bind _)=_
  rw[zx h1]
  cases hs:(staticsOk (importedModules p.main.body) s₀.heap s₁.heap&&namesBound p s₁.heap&&gensDone s₁&&laidKept s₀.heap s₁.heap)with
  |false=>rw[hs]at h;cases h
  |true=>
   rw[hs]at h
   show Option.map _ (match (staticsOk (importedModules p.main.body) s₀.heap s₁.heap&&namesBound p s₁.heap&&gensDone s₁&&laidKept s₀.heap s₁.heap)with|true=>some s₁|false=>none)=_
   rw[hs]
   exact h
end HD
namespace SW
open PySem L2
set_option maxHeartbeats 0
noncomputable def top (i:Nat):Stmt:=PySem.Challenge.pw_staywalk_k46_whole_what_was.main.body.getD i (.Pass ⟨0,0,0,0⟩)
noncomputable abbrev iP:Stmt:=aG (top 4) 0
noncomputable abbrev iN:Stmt:=aG (top 5) 0
noncomputable abbrev dS:Stmt:=aG (top 6) 0
noncomputable abbrev cZ:Stmt:=aG (top 7) 0
noncomputable abbrev kF:Stmt:=top 10
noncomputable abbrev kE:Stmt:=top 11
noncomputable abbrev jh:Stmt:=top 13
noncomputable abbrev kG:Stmt:=top 15
noncomputable abbrev fc:Stmt:=aG (top 16) 0
noncomputable abbrev jj:Stmt:=aG (top 17) 0
noncomputable abbrev g7:Stmt:=aG (top 17) 1
noncomputable abbrev cG:Stmt:=top 20
noncomputable abbrev gZ:Stmt:=top 21
noncomputable abbrev dU:Stmt:=aG (top 26) 0
noncomputable abbrev de:Stmt:=aG (top 26) 1
noncomputable abbrev cJ:Stmt:=aG (top 26) 2
noncomputable abbrev fo:Stmt:=aG (top 26) 3
noncomputable abbrev g8:Stmt:=aG (top 26) 4
noncomputable abbrev bL:Stmt:=aG (top 26) 6
noncomputable abbrev cI:Stmt:=aG (top 26) 8
noncomputable abbrev bZ:Stmt:=aG (top 26) 9
noncomputable abbrev bO:Stmt:=aG (top 26) 10
noncomputable abbrev fm:Stmt:=aG (top 28) 0
noncomputable abbrev fk:Stmt:=aG (top 28) 1
noncomputable abbrev cH:Stmt:=aG (top 28) 3
noncomputable abbrev bN:Stmt:=aG (top 28) 4
noncomputable abbrev eM:Stmt:=top 32
noncomputable abbrev fg:Stmt:=aG (top 33) 0
noncomputable abbrev gs:Stmt:=aG (top 33) 1
noncomputable abbrev fj:Stmt:=aG (top 33) 2
noncomputable abbrev gu:Stmt:=aG (top 33) 4
noncomputable abbrev iO:Stmt:=aG (top 33) 6
noncomputable abbrev cY:Stmt:=aG (top 33) 11
noncomputable abbrev cp:Stmt:=aG (top 33) 13
noncomputable abbrev cq:Stmt:=aG (top 33) 14
noncomputable abbrev fq:Stmt:=aG (top 35) 0
noncomputable abbrev gw:Stmt:=aG (top 35) 1
noncomputable abbrev fv:Stmt:=aG (top 35) 2
noncomputable abbrev ft:Stmt:=aG (top 35) 9
noncomputable abbrev dz:Stmt:=aG (top 35) 10
noncomputable abbrev fu:Stmt:=aG (top 35) 11
noncomputable abbrev dW:Stmt:=aG (top 35) 12
noncomputable abbrev gv:Stmt:=aG (top 35) 13
noncomputable abbrev bU:Stmt:=aG (top 35) 14
noncomputable abbrev fw:Stmt:=aG (top 35) 15
noncomputable abbrev bz:Stmt:=aG (top 35) 16
noncomputable abbrev b3:Stmt:=aG (top 35) 17
noncomputable abbrev gr:Stmt:=top 37
noncomputable abbrev ji:Stmt:=top 38
noncomputable abbrev gh:Stmt:=top 39
noncomputable abbrev g6:Stmt:=top 40
noncomputable abbrev dR:Stmt:=top 41
noncomputable abbrev gj:Stmt:=top 42
noncomputable abbrev wJ:Stmt:=top 43
set_option genSizeOf false in
set_option genInjectivity false in
structure Adr where
 yj:Addr
 iV:FuncData
 yi:Addr
 iT:FuncData
 eI:Addr
 eD:FuncData
 db:Addr
 da:FuncData
 p8:Addr
 kZ:FuncData
 p5:Addr
 kY:FuncData
 oo:Addr
 jA:FuncData
 p9:Addr
 k7:FuncData
 fS:Addr
 fE:FuncData
 ot:Addr
 eC:FuncData
 lL:Addr
 iu:FuncData
 iy:Addr
 d9:FuncData
 lI:Addr
 io:FuncData
 iB:Addr
 eF:FuncData
 i5:Addr
 fK:FuncData
 eY:Addr
 cV:FuncData
 i4:Addr
 fJ:FuncData
 ou:Addr
 iw:FuncData
 eX:Addr
 cU:FuncData
 eW:Addr
 cT:FuncData
 dH:Addr
 b6:FuncData
 dw:Addr
 bR:FuncData
 iZ:Addr
 fI:FuncData
 iY:Addr
 fH:FuncData
 eV:Addr
 cR:FuncData
 iA:Addr
 eE:FuncData
 lJ:Addr
 iq:FuncData
 iW:Addr
 fF:FuncData
 ko:Addr
 gJ:FuncData
 iX:Addr
 fG:FuncData
 kq:Addr
 gK:FuncData
 o7:Addr
 iU:FuncData
 gc:Addr
 c8:FuncData
 eJ:Addr
 cr:FuncData
 eK:Addr
 cu:FuncData
 i6:Addr
 fL:FuncData
 kt:Addr
 gM:FuncData
 i9:Addr
 fP:FuncData
 i7:Addr
 fN:FuncData
 gR:Addr
 dB:FuncData
 i8:Addr
 fO:FuncData
 iC:Addr
 eG:FuncData
 kr:Addr
 gL:FuncData
 gd:Addr
 bX:FuncData
 ja:Addr
 fQ:FuncData
 cz:Addr
 bF:FuncData
 dI:Addr
 b7:FuncData
 km:Addr
 gI:FuncData
 oq:Addr
 jB:FuncData
 kh:Addr
 gG:FuncData
 lK:Addr
 ir:FuncData
 iz:Addr
 eB:FuncData
 ki:Addr
 gH:FuncData
 Ak:Addr
 uH:FuncData
 a4:Addr
 vY:Addr
 kf:Addr
 uI:Addr
 bq:Addr
 aY:Addr
 eU:Addr
 gU:Addr
 lg:Addr
 bg:Addr
 cn:Addr
 aT:Addr
 av:Addr
end SW
namespace ZK
open PySem PySem.W SW L2
noncomputable abbrev N:Value:= .none
noncomputable abbrev B (b:Bool):Value:= .bool b
noncomputable abbrev I (i:Int):Value:= .int i 0
noncomputable abbrev S (x:Str) (t:Nat):Value:= .str x t
noncomputable abbrev F (t:Nat):Value:= .str "/claim/cut.py" t
noncomputable abbrev R (a:Addr):Value:= .ref a
noncomputable abbrev T (n:String):Value:= .type n
noncomputable abbrev E (P:Params) (x:Str) (t:Nat) (v:Value):DictEntry:=⟨PyData.keyHash P x,.str x t,v⟩
noncomputable abbrev c (vs:List Value):Obj:=⟨.type "code",none,.fields vs.toArray, #[]⟩
noncomputable abbrev D (nm qn:Str) (s:Stmt) (df kV dc pm:Value) (an:Option Addr) (cd ct:Value):FuncData:=fnOf nm qn (dN s) (bW s) (ai s) df kV dc pm an cd ct
noncomputable abbrev f (d:FuncData):Obj:=⟨.type "function",none,.func d, #[]⟩
noncomputable def t:Adr:=⟨60,D "__init__" "NoKey.__init__" iP N N N (S "staywalk.errors" 194) none (R 59) N,79,D "__init__" "Twice.__init__" iN N N N (S "staywalk.errors" 194) none (R 78) N,98,D "__init__" "TooOld.__init__" dS N N N (S "staywalk.errors" 194) none (R 97) N,117,D "__init__" "NoMoment.__init__" cZ N N N (S "staywalk.errors" 194) none (R 116) N,129,D "mark_of" "mark_of" kF N N N (S "staywalk.bits" 330) none (R 128) N,136,D "slot_of" "slot_of" kE N N N (S "staywalk.bits" 330) none (R 135) N,143,D "is_whole" "is_whole" jh N N N (S "staywalk.wholes" 349) none (R 142) N,150,D "is_from" "is_from" kG N N N (S "staywalk.tokens" 358) none (R 149) N,164,D "__init__" "Token.__init__" fc N N N (S "staywalk.tokens" 358) none (R 163) N,193,D "__init__" "Up.__init__" jj (R 186) N N (S "staywalk.tokens" 358) none (R 192) N,200,D "holds" "Up.holds" g7 N N N (S "staywalk.tokens" 358) none (R 199) N,237,D "keys_of_page" "keys_of_page" cG N N N (S "staywalk.asks" 476) none (R 236) N,244,D "keys_near" "keys_near" gZ N N N (S "staywalk.asks" 476) none (R 243) N,265,D "__init__" "Leaves.__init__" dU N N N (S "staywalk.leaves" 501) none (R 264) N,270,D "add" "Leaves.add" de N N N (S "staywalk.leaves" 501) none (R 269) N,277,D "discard" "Leaves.discard" cJ N N N (S "staywalk.leaves" 501) none (R 276) N,284,D "has" "Leaves.has" fo N N N (S "staywalk.leaves" 501) none (R 283) N,289,D "many" "Leaves.many" g8 N N N (S "staywalk.leaves" 501) none (R 288) N,301,D "from_on" "Leaves.from_on" bL N N N (S "staywalk.leaves" 501) none (R 300) N,313,D "leaf_of" "Leaves.leaf_of" cI N N N (S "staywalk.leaves" 501) none (R 312) N,320,D "part_leaf" "Leaves.part_leaf" bZ N N N (S "staywalk.leaves" 501) none (R 319) N,327,D "join_small" "Leaves.join_small" bO N N N (S "staywalk.leaves" 501) none (R 326) N,348,D "__init__" "Makes.__init__" fm N N N (S "staywalk.makes" 614) none (R 347) N,355,D "note" "Makes.note" fk N N N (S "staywalk.makes" 614) none (R 354) N,369,D "value_at" "Makes.value_at" cH N N N (S "staywalk.makes" 614) none (R 368) N,374,D "sweep" "Makes.sweep" bN N N N (S "staywalk.makes" 614) none (R 373) N,386,D "empty_row" "empty_row" eM N N N (S "staywalk.slots" 675) none (R 385) N,400,D "__init__" "Slots.__init__" fg N N N (S "staywalk.slots" 675) none (R 399) N,407,D "put" "Slots.put" gs N N N (S "staywalk.slots" 675) none (R 406) N,414,D "drop" "Slots.drop" fj N N N (S "staywalk.slots" 675) none (R 413) N,428,D "has" "Slots.has" gu N N N (S "staywalk.slots" 675) none (R 427) N,440,D "rows" "Slots.rows" iO N N N (S "staywalk.slots" 675) none (R 439) N,475,D "cell_of" "Slots.cell_of" cY N N N (S "staywalk.slots" 675) none (R 474) N,489,D "move_slot" "Slots.move_slot" cp N N N (S "staywalk.slots" 675) none (R 488) N,496,D "begin_row" "Slots.begin_row" cq N N N (S "staywalk.slots" 675) none (R 495) N,517,D "__init__" "House.__init__" fq N N N (S "staywalk.house" 834) none (R 516) N,524,D "put" "House.put" gw N N N (S "staywalk.house" 834) none (R 523) N,531,D "drop" "House.drop" fv N N N (S "staywalk.house" 834) none (R 530) N,581,D "hold" "House.hold" ft N N N (S "staywalk.house" 834) none (R 580) N,588,D "let_go" "House.let_go" dz N N N (S "staywalk.house" 834) none (R 587) N,595,D "held" "House.held" fu N N N (S "staywalk.house" 834) none (R 594) N,602,D "sweep" "House.sweep" dW N N N (S "staywalk.house" 834) none (R 601) N,609,D "was" "House.was" gv N N N (S "staywalk.house" 834) none (R 608) N,615,D "page_at" "House.page_at" bU (R 610) N N (S "staywalk.house" 834) none (R 614) N,622,D "done" "House.done" fw N N N (S "staywalk.house" 834) none (R 621) N,629,D "refuse_outside" "House.refuse_outside" bz N N N (S "staywalk.house" 834) none (R 628) N,636,D "value_then" "House.value_then" b3 N N N (S "staywalk.house" 834) none (R 635) N,650,D "_law_drawn" "_law_drawn" gr N N N (S "law_staywalk_k46_whole_what_was" 1009) none (R 649) N,657,D "_law_key" "_law_key" ji N N N (S "law_staywalk_k46_whole_what_was" 1009) none (R 656) N,664,D "_law_value" "_law_value" gh N N N (S "law_staywalk_k46_whole_what_was" 1009) none (R 663) N,671,D "_law_deed" "_law_deed" g6 N N N (S "law_staywalk_k46_whole_what_was" 1009) none (R 670) N,678,D "_law_refused" "_law_refused" dR N N N (S "law_staywalk_k46_whole_what_was" 1009) none (R 677) N,685,D "_law_right" "_law_right" gj N N N (S "law_staywalk_k46_whole_what_was" 1009) none (R 684) N,692,D "law" "law" wJ N N N (S "law_staywalk_k46_whole_what_was" 1009) none (R 691) N,31,44,63,82,101,120,174,203,230,330,377,499,639⟩
noncomputable def K:Params→Frag:=λP=>(nat_lit 2,⟨N,none,.dict #[] 0, #[]⟩)::
(nat_lit 3,⟨(T "dict"),none,.dict #[E P "__name__" 165 (S "law_staywalk_k46_whole_what_was" 1009),E P "__doc__" 166 N,E P "__package__" 167 N,E P "__loader__" 168 (.builtin "__main__.__loader__#opaque"),E P "__spec__" 169 N,E P "__annotations__" 170 (R 6),E P "__builtins__" 171 (R 4),E P "__file__" 173 (S "/claim/cut.py" 172),E P "__cached__" 174 N,E P "_wall" 193 (R 21),E P "WalkError" 213 (R 31),E P "NoToken" 229 (R 44),E P "NoKey" 254 (R 63),E P "Twice" 279 (R 82),E P "TooOld" 304 (R 101),E P "NoMoment" 329 (R 120),E P "PLACES" 333 (.int 65536 332),E P "mark_of" 340 (R 129),E P "slot_of" 348 (R 136),E P "is_whole" 357 (R 143),E P "is_from" 367 (R 150),E P "Token" 407 (R 174),E P "Up" 441 (R 203),E P "Down" 475 (R 230),E P "keys_of_page" 483 (R 237),E P "keys_near" 492 (R 244),E P "token_behind" 500 (R 251),E P "MOST_IN_LEAF" 504 (.int 8 503),E P "LEAST_IN_TWO" 506 (.int 5 505),E P "Leaves" 613 (R 330),E P "Makes" 674 (R 377),E P "LEAST_SIZE" 678 (.int 4 677),E P "GREATEST_SIZE" 680 (.int 256 679),E P "empty_row" 686 (R 386),E P "Slots" 833 (R 499),E P "House" 1008 (R 639),E P "_law_drawn" 1019 (R 650),E P "_law_key" 1028 (R 657),E P "_law_value" 1035 (R 664),E P "_law_deed" 1048 (R 671),E P "_law_refused" 1058 (R 678),E P "_law_right" 1069 (R 685),E P "law" 1083 (R 692)] 43, #[]⟩)::
(nat_lit 30,⟨(T "dict"),none,.dict #[E P "__module__" 203 (S "staywalk.errors" 194),E P "__firstlineno__" 207 (.int 5 206),E P "__static_attributes__" 208 (R 29),E P "__weakref__" 210 (R 32),E P "__doc__" 211 N] 3, #[]⟩)::
(nat_lit 31,⟨(T "type"),none,.cls ⟨"WalkError",[(T "ValueError")],[(R 31),(T "ValueError"),(T "Exception"),(T "BaseException"),(T "object")],30,"WalkError",true,[],[(R 44),(R 63),(R 82),(R 101),(R 120)],false,none,false⟩, #[some (R 22),none,some (S "WalkError" 196),some (S "WalkError" 204),some (.builtin "ValueError.__new__"),some (B true)]⟩)::
(nat_lit 43,⟨(T "dict"),none,.dict #[E P "__module__" 221 (S "staywalk.errors" 194),E P "__firstlineno__" 225 (.int 7 224),E P "__static_attributes__" 226 (R 42),E P "__doc__" 227 N] 2, #[]⟩)::
(nat_lit 44,⟨(T "type"),none,.cls ⟨"NoToken",[(R 31)],[(R 44),(R 31),(T "ValueError"),(T "Exception"),(T "BaseException"),(T "object")],43,"NoToken",true,[],[],false,none,false⟩, #[some (R 35),none,some (S "NoToken" 214),some (S "NoToken" 222),some (.builtin "ValueError.__new__"),some (B true)]⟩)::
(nat_lit 59,c [(S "__init__" 242),(S "NoKey.__init__" 243),(F 244),(I 11),(I 2),(I 0),(I 0),(I 3),(R 54),(B true),(I 181),(R 55),N,(R 56),(R 57),(R 58),(I 247),(I 11),(F 248)])::
(nat_lit 60,f t.iV)::
(nat_lit 62,⟨(T "dict"),none,.dict #[E P "__module__" 237 (S "staywalk.errors" 194),E P "__firstlineno__" 241 (.int 9 240),E P "__init__" 249 (R 60),E P "__static_attributes__" 251 (R 61),E P "__doc__" 252 N] 2, #[]⟩)::
(nat_lit 63,⟨(T "type"),none,.cls ⟨"NoKey",[(R 31)],[(R 63),(R 31),(T "ValueError"),(T "Exception"),(T "BaseException"),(T "object")],62,"NoKey",true,[],[],false,none,false⟩, #[some (R 47),none,some (S "NoKey" 230),some (S "NoKey" 238),some (.builtin "ValueError.__new__"),some (B true)]⟩)::
(nat_lit 78,c [(S "__init__" 267),(S "Twice.__init__" 268),(F 269),(I 16),(I 2),(I 0),(I 0),(I 3),(R 73),(B true),(I 181),(R 74),N,(R 75),(R 76),(R 77),(I 272),(I 16),(F 273)])::
(nat_lit 79,f t.iT)::
(nat_lit 81,⟨(T "dict"),none,.dict #[E P "__module__" 262 (S "staywalk.errors" 194),E P "__firstlineno__" 266 (.int 14 265),E P "__init__" 274 (R 79),E P "__static_attributes__" 276 (R 80),E P "__doc__" 277 N] 2, #[]⟩)::
(nat_lit 82,⟨(T "type"),none,.cls ⟨"Twice",[(R 31)],[(R 82),(R 31),(T "ValueError"),(T "Exception"),(T "BaseException"),(T "object")],81,"Twice",true,[],[],false,none,false⟩, #[some (R 66),none,some (S "Twice" 255),some (S "Twice" 263),some (.builtin "ValueError.__new__"),some (B true)]⟩)::
(nat_lit 97,c [(S "__init__" 292),(S "TooOld.__init__" 293),(F 294),(I 21),(I 2),(I 0),(I 0),(I 3),(R 92),(B true),(I 181),(R 93),N,(R 94),(R 95),(R 96),(I 297),(I 21),(F 298)])::
(nat_lit 98,f t.eD)::
(nat_lit 100,⟨(T "dict"),none,.dict #[E P "__module__" 287 (S "staywalk.errors" 194),E P "__firstlineno__" 291 (.int 19 290),E P "__init__" 299 (R 98),E P "__static_attributes__" 301 (R 99),E P "__doc__" 302 N] 2, #[]⟩)::
(nat_lit 101,⟨(T "type"),none,.cls ⟨"TooOld",[(R 31)],[(R 101),(R 31),(T "ValueError"),(T "Exception"),(T "BaseException"),(T "object")],100,"TooOld",true,[],[],false,none,false⟩, #[some (R 85),none,some (S "TooOld" 280),some (S "TooOld" 288),some (.builtin "ValueError.__new__"),some (B true)]⟩)::
(nat_lit 116,c [(S "__init__" 317),(S "NoMoment.__init__" 318),(F 319),(I 26),(I 2),(I 0),(I 0),(I 3),(R 111),(B true),(I 181),(R 112),N,(R 113),(R 114),(R 115),(I 322),(I 26),(F 323)])::
(nat_lit 117,f t.da)::
(nat_lit 119,⟨(T "dict"),none,.dict #[E P "__module__" 312 (S "staywalk.errors" 194),E P "__firstlineno__" 316 (.int 24 315),E P "__init__" 324 (R 117),E P "__static_attributes__" 326 (R 118),E P "__doc__" 327 N] 2, #[]⟩)::
(nat_lit 120,⟨(T "type"),none,.cls ⟨"NoMoment",[(R 31)],[(R 120),(R 31),(T "ValueError"),(T "Exception"),(T "BaseException"),(T "object")],119,"NoMoment",true,[],[],false,none,false⟩, #[some (R 104),none,some (S "NoMoment" 305),some (S "NoMoment" 313),some (.builtin "ValueError.__new__"),some (B true)]⟩)::
(nat_lit 128,c [(S "mark_of" 334),(S "mark_of" 335),(F 336),(I 31),(I 1),(I 0),(I 0),(I 3),(R 123),(B true),(I 181),(R 124),N,(R 125),(R 126),(R 127),(I 338),(I 31),(F 339)])::
(nat_lit 129,f t.kZ)::
(nat_lit 135,c [(S "slot_of" 341),(S "slot_of" 342),(F 343),(I 33),(I 2),(I 0),(I 0),(I 3),(R 130),(B true),(I 181),(R 131),N,(R 132),(R 133),(R 134),(I 346),(I 33),(F 347)])::
(nat_lit 136,f t.kY)::
(nat_lit 142,c [(S "is_whole" 351),(S "is_whole" 352),(F 353),(I 36),(I 1),(I 0),(I 0),(I 3),(R 137),(B true),(I 181),(R 138),N,(R 139),(R 140),(R 141),(I 355),(I 36),(F 356)])::
(nat_lit 143,f t.jA)::
(nat_lit 149,c [(S "is_from" 360),(S "is_from" 361),(F 362),(I 39),(I 2),(I 0),(I 0),(I 3),(R 144),(B true),(I 181),(R 145),N,(R 146),(R 147),(R 148),(I 365),(I 39),(F 366)])::
(nat_lit 150,f t.k7)::
(nat_lit 163,c [(S "__init__" 380),(S "Token.__init__" 381),(F 382),(I 43),(I 4),(I 0),(I 0),(I 3),(R 158),(B true),(I 181),(R 159),N,(R 160),(R 161),(R 162),(I 387),(I 43),(F 388)])::
(nat_lit 164,f t.fE)::
(nat_lit 173,⟨(T "dict"),none,.dict #[E P "__module__" 375 (S "staywalk.tokens" 358),E P "__firstlineno__" 379 (.int 41 378),E P "__init__" 389 (R 164),E P "words" 396 (R 171),E P "__static_attributes__" 400 (R 172),E P "__dict__" 402 (R 175),E P "__weakref__" 404 (R 176),E P "__doc__" 405 N] 4, #[]⟩)::
(nat_lit 174,⟨(T "type"),none,.cls ⟨"Token",[(T "object")],[(R 174),(T "object")],173,"Token",true,[],[(R 203),(R 230)],false,none,false⟩, #[none,none,some (S "Token" 368),some (S "Token" 376),some (.builtin "object.__new__"),some (B true)]⟩)::
(nat_lit 186,⟨(T "tuple"),none,.seq #[(.int 0 420),N] 0, #[]⟩)::
(nat_lit 192,c [(S "__init__" 421),(S "Up.__init__" 422),(F 423),(I 52),(I 3),(I 0),(I 0),(I 3),(R 187),(B true),(I 181),(R 188),N,(R 189),(R 190),(R 191),(I 427),(I 52),(F 428)])::
(nat_lit 193,f t.eC)::
(nat_lit 199,c [(S "holds" 430),(S "Up.holds" 431),(F 432),(I 57),(I 2),(I 0),(I 0),(I 3),(R 194),(B true),(I 181),(R 195),N,(R 196),(R 197),(R 198),(I 435),(I 57),(F 436)])::
(nat_lit 200,f t.iu)::
(nat_lit 202,⟨(T "dict"),none,.dict #[E P "__module__" 415 (S "staywalk.tokens" 358),E P "__firstlineno__" 419 (.int 50 418),E P "__init__" 429 (R 193),E P "holds" 437 (R 200),E P "__static_attributes__" 438 (R 201),E P "__doc__" 439 N] 2, #[]⟩)::
(nat_lit 203,⟨(T "type"),none,.cls ⟨"Up",[(R 174)],[(R 203),(R 174),(T "object")],202,"Up",true,[],[],false,none,false⟩, #[some (R 179),none,some (S "Up" 408),some (S "Up" 416),some (.builtin "object.__new__"),some (B true)]⟩)::
(nat_lit 229,⟨(T "dict"),none,.dict #[E P "__module__" 449 (S "staywalk.tokens" 358),E P "__firstlineno__" 453 (.int 59 452),E P "__init__" 463 (R 220),E P "holds" 471 (R 227),E P "__static_attributes__" 472 (R 228),E P "__doc__" 473 N] 2, #[]⟩)::
(nat_lit 230,⟨(T "type"),none,.cls ⟨"Down",[(R 174)],[(R 230),(R 174),(T "object")],229,"Down",true,[],[],false,none,false⟩, #[some (R 206),none,some (S "Down" 442),some (S "Down" 450),some (.builtin "object.__new__"),some (B true)]⟩)::
(nat_lit 236,c [(S "keys_of_page" 478),(S "keys_of_page" 479),(F 480),(I 69),(I 3),(I 0),(I 0),(I 3),(R 233),(B true),(I 181),(R 234),N,N,N,(R 235),(I 481),(I 69),(F 482)])::
(nat_lit 237,f t.d9)::
(nat_lit 243,c [(S "keys_near" 484),(S "keys_near" 485),(F 486),(I 78),(I 3),(I 0),(I 0),(I 3),(R 238),(B true),(I 181),(R 239),N,(R 240),(R 241),(R 242),(I 490),(I 78),(F 491)])::
(nat_lit 244,f t.io)::
(nat_lit 264,c [(S "__init__" 519),(S "Leaves.__init__" 520),(F 521),(I 91),(I 1),(I 0),(I 0),(I 3),(R 259),(B true),(I 181),(R 260),N,(R 261),(R 262),(R 263),(I 523),(I 91),(F 524)])::
(nat_lit 265,f t.eF)::
(nat_lit 269,c [(S "add" 526),(S "Leaves.add" 527),(F 528),(I 94),(I 2),(I 0),(I 0),(I 3),(R 266),(B true),(I 181),(R 267),N,N,N,(R 268),(I 529),(I 94),(F 530)])::
(nat_lit 270,f t.fK)::
(nat_lit 276,c [(S "discard" 532),(S "Leaves.discard" 533),(F 534),(I 106),(I 2),(I 0),(I 0),(I 3),(R 271),(B true),(I 181),(R 272),N,(R 273),(R 274),(R 275),(I 538),(I 106),(F 539)])::
(nat_lit 277,f t.cV)::
(nat_lit 283,c [(S "has" 541),(S "Leaves.has" 542),(F 543),(I 117),(I 2),(I 0),(I 0),(I 3),(R 278),(B true),(I 181),(R 279),N,(R 280),(R 281),(R 282),(I 547),(I 117),(F 548)])::
(nat_lit 284,f t.fJ)::
(nat_lit 288,c [(S "many" 550),(S "Leaves.many" 551),(F 552),(I 121),(I 1),(I 0),(I 0),(I 3),(R 285),(B true),(I 181),(R 286),N,N,N,(R 287),(I 553),(I 121),(F 554)])::
(nat_lit 289,f t.iw)::
(nat_lit 300,c [(S "from_on" 563),(S "Leaves.from_on" 564),(F 565),(I 127),(I 3),(I 0),(I 0),(I 3),(R 297),(B true),(I 181),(R 298),N,N,N,(R 299),(I 566),(I 127),(F 567)])::
(nat_lit 301,f t.cU)::
(nat_lit 312,c [(S "leaf_of" 575),(S "Leaves.leaf_of" 576),(F 577),(I 145),(I 2),(I 0),(I 0),(I 3),(R 307),(B true),(I 181),(R 308),N,(R 309),(R 310),(R 311),(I 583),(I 145),(F 584)])::
(nat_lit 313,f t.cT)::
(nat_lit 319,c [(S "part_leaf" 586),(S "Leaves.part_leaf" 587),(F 588),(I 156),(I 2),(I 0),(I 0),(I 3),(R 314),(B true),(I 181),(R 315),N,(R 316),(R 317),(R 318),(I 593),(I 156),(F 594)])::
(nat_lit 320,f t.b6)::
(nat_lit 326,c [(S "join_small" 596),(S "Leaves.join_small" 597),(F 598),(I 162),(I 2),(I 0),(I 0),(I 3),(R 321),(B true),(I 181),(R 322),N,(R 323),(R 324),(R 325),(I 602),(I 162),(F 603)])::
(nat_lit 327,f t.bR)::
(nat_lit 329,⟨(T "dict"),none,.dict #[E P "__module__" 514 (S "staywalk.leaves" 501),E P "__firstlineno__" 518 (.int 89 517),E P "__init__" 525 (R 265),E P "add" 531 (R 270),E P "discard" 540 (R 277),E P "has" 549 (R 284),E P "many" 555 (R 289),E P "all_of" 562 (R 296),E P "from_on" 568 (R 301),E P "down_from" 574 (R 306),E P "leaf_of" 585 (R 313),E P "part_leaf" 595 (R 320),E P "join_small" 604 (R 327),E P "__static_attributes__" 606 (R 328),E P "__dict__" 608 (R 331),E P "__weakref__" 610 (R 332),E P "__doc__" 611 N] 4, #[]⟩)::
(nat_lit 330,⟨(T "type"),none,.cls ⟨"Leaves",[(T "object")],[(R 330),(T "object")],329,"Leaves",true,[],[],false,none,false⟩, #[none,none,some (S "Leaves" 507),some (S "Leaves" 515),some (.builtin "object.__new__"),some (B true)]⟩)::
(nat_lit 347,c [(S "__init__" 628),(S "Makes.__init__" 629),(F 630),(I 172),(I 1),(I 0),(I 0),(I 3),(R 342),(B true),(I 181),(R 343),N,(R 344),(R 345),(R 346),(I 632),(I 172),(F 633)])::
(nat_lit 348,f t.fI)::
(nat_lit 354,c [(S "note" 635),(S "Makes.note" 636),(F 637),(I 175),(I 3),(I 0),(I 0),(I 3),(R 349),(B true),(I 181),(R 350),N,(R 351),(R 352),(R 353),(I 641),(I 175),(F 642)])::
(nat_lit 355,f t.fH)::
(nat_lit 368,c [(S "value_at" 651),(S "Makes.value_at" 652),(F 653),(I 181),(I 2),(I 0),(I 0),(I 3),(R 363),(B true),(I 181),(R 364),N,(R 365),(R 366),(R 367),(I 657),(I 181),(F 658)])::
(nat_lit 369,f t.cR)::
(nat_lit 373,c [(S "sweep" 660),(S "Makes.sweep" 661),(F 662),(I 187),(I 2),(I 0),(I 0),(I 3),(R 370),(B true),(I 181),(R 371),N,N,N,(R 372),(I 663),(I 187),(F 664)])::
(nat_lit 374,f t.eE)::
(nat_lit 376,⟨(T "dict"),none,.dict #[E P "__module__" 623 (S "staywalk.makes" 614),E P "__firstlineno__" 627 (.int 170 626),E P "__init__" 634 (R 348),E P "note" 643 (R 355),E P "all_told" 650 (R 362),E P "value_at" 659 (R 369),E P "sweep" 665 (R 374),E P "__static_attributes__" 667 (R 375),E P "__dict__" 669 (R 378),E P "__weakref__" 671 (R 379),E P "__doc__" 672 N] 4, #[]⟩)::
(nat_lit 377,⟨(T "type"),none,.cls ⟨"Makes",[(T "object")],[(R 377),(T "object")],376,"Makes",true,[],[],false,none,false⟩, #[none,none,some (S "Makes" 616),some (S "Makes" 624),some (.builtin "object.__new__"),some (B true)]⟩)::
(nat_lit 385,c [(S "empty_row" 681),(S "empty_row" 682),(F 683),(I 198),(I 1),(I 0),(I 0),(I 3),(R 382),(B true),(I 181),(R 383),N,N,N,(R 384),(I 684),(I 198),(F 685)])::
(nat_lit 386,f t.iq)::
(nat_lit 399,c [(S "__init__" 699),(S "Slots.__init__" 700),(F 701),(I 202),(I 1),(I 0),(I 0),(I 3),(R 394),(B true),(I 181),(R 395),N,(R 396),(R 397),(R 398),(I 703),(I 202),(F 704)])::
(nat_lit 400,f t.fF)::
(nat_lit 406,c [(S "put" 706),(S "Slots.put" 707),(F 708),(I 207),(I 3),(I 0),(I 0),(I 3),(R 401),(B true),(I 181),(R 402),N,(R 403),(R 404),(R 405),(I 713),(I 207),(F 714)])::
(nat_lit 407,f t.gJ)::
(nat_lit 413,c [(S "drop" 716),(S "Slots.drop" 717),(F 718),(I 215),(I 2),(I 0),(I 0),(I 3),(R 408),(B true),(I 181),(R 409),N,(R 410),(R 411),(R 412),(I 721),(I 215),(F 722)])::
(nat_lit 414,f t.fG)::
(nat_lit 427,c [(S "has" 733),(S "Slots.has" 734),(F 735),(I 229),(I 2),(I 0),(I 0),(I 3),(R 422),(B true),(I 181),(R 423),N,(R 424),(R 425),(R 426),(I 738),(I 229),(F 739)])::
(nat_lit 428,f t.gK)::
(nat_lit 439,c [(S "rows" 748),(S "Slots.rows" 749),(F 750),(I 235),(I 1),(I 0),(I 0),(I 3),(R 436),(B true),(I 181),(R 437),N,N,N,(R 438),(I 751),(I 235),(F 752)])::
(nat_lit 440,f t.iU)::
(nat_lit 474,c [(S "cell_of" 785),(S "Slots.cell_of" 786),(F 787),(I 250),(I 2),(I 0),(I 0),(I 3),(R 469),(B true),(I 181),(R 470),N,(R 471),(R 472),(R 473),(I 793),(I 250),(F 794)])::
(nat_lit 475,f t.c8)::
(nat_lit 488,c [(S "move_slot" 804),(S "Slots.move_slot" 805),(F 806),(I 261),(I 1),(I 0),(I 0),(I 3),(R 483),(B true),(I 181),(R 484),N,(R 485),(R 486),(R 487),(I 812),(I 261),(F 813)])::
(nat_lit 489,f t.cr)::
(nat_lit 495,c [(S "begin_row" 815),(S "Slots.begin_row" 816),(F 817),(I 274),(I 1),(I 0),(I 0),(I 3),(R 490),(B true),(I 181),(R 491),N,(R 492),(R 493),(R 494),(I 820),(I 274),(F 821)])::
(nat_lit 496,f t.cu)::
(nat_lit 498,⟨(T "dict"),none,.dict #[E P "__module__" 694 (S "staywalk.slots" 675),E P "__firstlineno__" 698 (.int 200 697),E P "__init__" 705 (R 400),E P "put" 715 (R 407),E P "drop" 723 (R 414),E P "get" 732 (R 421),E P "has" 740 (R 428),E P "many" 747 (R 435),E P "rows" 753 (R 440),E P "moved" 760 (R 447),E P "cells" 767 (R 454),E P "span" 776 (R 461),E P "stop" 784 (R 468),E P "cell_of" 795 (R 475),E P "lying_at" 803 (R 482),E P "move_slot" 814 (R 489),E P "begin_row" 822 (R 496),E P "__static_attributes__" 826 (R 497),E P "__dict__" 828 (R 500),E P "__weakref__" 830 (R 501),E P "__doc__" 831 N] 4, #[]⟩)::
(nat_lit 499,⟨(T "type"),none,.cls ⟨"Slots",[(T "object")],[(R 499),(T "object")],498,"Slots",true,[],[],false,none,false⟩, #[none,none,some (S "Slots" 687),some (S "Slots" 695),some (.builtin "object.__new__"),some (B true)]⟩)::
(nat_lit 516,c [(S "__init__" 848),(S "House.__init__" 849),(F 850),(I 285),(I 1),(I 0),(I 0),(I 3),(R 511),(B true),(I 181),(R 512),N,(R 513),(R 514),(R 515),(I 852),(I 285),(F 853)])::
(nat_lit 517,f t.fL)::
(nat_lit 523,c [(S "put" 855),(S "House.put" 856),(F 857),(I 295),(I 3),(I 0),(I 0),(I 3),(R 518),(B true),(I 181),(R 519),N,(R 520),(R 521),(R 522),(I 861),(I 295),(F 862)])::
(nat_lit 524,f t.gM)::
(nat_lit 530,c [(S "drop" 864),(S "House.drop" 865),(F 866),(I 301),(I 2),(I 0),(I 0),(I 3),(R 525),(B true),(I 181),(R 526),N,(R 527),(R 528),(R 529),(I 869),(I 301),(F 870)])::
(nat_lit 531,f t.fP)::
(nat_lit 580,c [(S "hold" 919),(S "House.hold" 920),(F 921),(I 324),(I 1),(I 0),(I 0),(I 3),(R 575),(B true),(I 181),(R 576),N,(R 577),(R 578),(R 579),(I 923),(I 324),(F 924)])::
(nat_lit 581,f t.fN)::
(nat_lit 587,c [(S "let_go" 926),(S "House.let_go" 927),(F 928),(I 328),(I 2),(I 0),(I 0),(I 3),(R 582),(B true),(I 181),(R 583),N,(R 584),(R 585),(R 586),(I 931),(I 328),(F 932)])::
(nat_lit 588,f t.dB)::
(nat_lit 594,c [(S "held" 934),(S "House.held" 935),(F 936),(I 335),(I 1),(I 0),(I 0),(I 3),(R 589),(B true),(I 181),(R 590),N,(R 591),(R 592),(R 593),(I 938),(I 335),(F 939)])::
(nat_lit 595,f t.fO)::
(nat_lit 601,c [(S "sweep" 941),(S "House.sweep" 942),(F 943),(I 338),(I 1),(I 0),(I 0),(I 3),(R 596),(B true),(I 181),(R 597),N,(R 598),(R 599),(R 600),(I 947),(I 338),(F 948)])::
(nat_lit 602,f t.eG)::
(nat_lit 608,c [(S "was" 950),(S "House.was" 951),(F 952),(I 345),(I 3),(I 0),(I 0),(I 3),(R 603),(B true),(I 181),(R 604),N,(R 605),(R 606),(R 607),(I 956),(I 345),(F 957)])::
(nat_lit 609,f t.gL)::
(nat_lit 610,⟨(T "tuple"),none,.seq #[(.int 10 959)] 0, #[]⟩)::
(nat_lit 614,c [(S "page_at" 960),(S "House.page_at" 961),(F 962),(I 349),(I 4),(I 0),(I 0),(I 3),(R 611),(B true),(I 181),(R 612),N,N,N,(R 613),(I 963),(I 349),(F 964)])::
(nat_lit 615,f t.bX)::
(nat_lit 621,c [(S "done" 966),(S "House.done" 967),(F 968),(I 358),(I 3),(I 0),(I 0),(I 3),(R 616),(B true),(I 181),(R 617),N,(R 618),(R 619),(R 620),(I 973),(I 358),(F 974)])::
(nat_lit 622,f t.fQ)::
(nat_lit 628,c [(S "refuse_outside" 976),(S "House.refuse_outside" 977),(F 978),(I 365),(I 2),(I 0),(I 0),(I 3),(R 623),(B true),(I 181),(R 624),N,(R 625),(R 626),(R 627),(I 981),(I 365),(F 982)])::
(nat_lit 629,f t.bF)::
(nat_lit 635,c [(S "value_then" 984),(S "House.value_then" 985),(F 986),(I 371),(I 3),(I 0),(I 0),(I 3),(R 630),(B true),(I 181),(R 631),N,(R 632),(R 633),(R 634),(I 990),(I 371),(F 991)])::
(nat_lit 636,f t.b7)::
(nat_lit 638,⟨(T "dict"),none,.dict #[E P "__module__" 843 (S "staywalk.house" 834),E P "__firstlineno__" 847 (.int 283 846),E P "__init__" 854 (R 517),E P "put" 863 (R 524),E P "drop" 871 (R 531),E P "get" 879 (R 538),E P "has" 887 (R 545),E P "many" 894 (R 552),E P "lay_mark" 901 (R 559),E P "diary" 910 (R 567),E P "makes" 918 (R 574),E P "hold" 925 (R 581),E P "let_go" 933 (R 588),E P "held" 940 (R 595),E P "sweep" 949 (R 602),E P "was" 958 (R 609),E P "page_at" 965 (R 615),E P "done" 975 (R 622),E P "refuse_outside" 983 (R 629),E P "value_then" 992 (R 636),E P "__static_attributes__" 1001 (R 637),E P "__dict__" 1003 (R 640),E P "__weakref__" 1005 (R 641),E P "__doc__" 1006 N] 4, #[]⟩)::
(nat_lit 639,⟨(T "type"),none,.cls ⟨"House",[(T "object")],[(R 639),(T "object")],638,"House",true,[],[],false,none,false⟩, #[none,none,some (S "House" 836),some (S "House" 844),some (.builtin "object.__new__"),some (B true)]⟩)::
(nat_lit 649,c [(S "_law_drawn" 1011),(S "_law_drawn" 1012),(F 1013),(I 374),(I 2),(I 0),(I 0),(I 3),(R 644),(B true),(I 181),(R 645),N,(R 646),(R 647),(R 648),(I 1017),(I 374),(F 1018)])::
(nat_lit 650,f t.gI)::
(nat_lit 656,c [(S "_law_key" 1020),(S "_law_key" 1021),(F 1022),(I 380),(I 2),(I 0),(I 0),(I 3),(R 651),(B true),(I 181),(R 652),N,(R 653),(R 654),(R 655),(I 1026),(I 380),(F 1027)])::
(nat_lit 657,f t.jB)::
(nat_lit 663,c [(S "_law_value" 1029),(S "_law_value" 1030),(F 1031),(I 383),(I 1),(I 0),(I 0),(I 3),(R 658),(B true),(I 181),(R 659),N,(R 660),(R 661),(R 662),(I 1033),(I 383),(F 1034)])::
(nat_lit 664,f t.gG)::
(nat_lit 670,c [(S "_law_deed" 1036),(S "_law_deed" 1037),(F 1038),(I 387),(I 3),(I 0),(I 0),(I 3),(R 665),(B true),(I 181),(R 666),N,(R 667),(R 668),(R 669),(I 1046),(I 387),(F 1047)])::
(nat_lit 671,f t.ir)::
(nat_lit 677,c [(S "_law_refused" 1049),(S "_law_refused" 1050),(F 1051),(I 407),(I 3),(I 0),(I 0),(I 3),(R 672),(B true),(I 181),(R 673),N,(R 674),(R 675),(R 676),(I 1056),(I 407),(F 1057)])::
(nat_lit 678,f t.eB)::
(nat_lit 684,c [(S "_law_right" 1059),(S "_law_right" 1060),(F 1061),(I 418),(I 4),(I 0),(I 0),(I 3),(R 679),(B true),(I 181),(R 680),N,(R 681),(R 682),(R 683),(I 1067),(I 418),(F 1068)])::
(nat_lit 685,f t.gH)::
(nat_lit 691,c [(S "law" 1070),(S "law" 1071),(F 1072),(I 427),(I 1),(I 0),(I 0),(I 3),(R 686),(B true),(I 181),(R 687),N,(R 688),(R 689),(R 690),(I 1081),(I 427),(F 1082)])::
(nat_lit 692,f t.uH)::[]
noncomputable abbrev as:List Addr:=[2,3,30,31,43,44,59,60,62,63,78,79,81,82,97,98,100,101,116,117,119,120,128,129,135,136,142,143,149,150,163,164,173,174,186,192,193,199,200,202,203,229,230,236,237,243,244,264,265,269,270,276,277,283,284,288,289,300,301,312,313,319,320,326,327,329,330,347,348,354,355,368,369,373,374,376,377,385,386,399,400,406,407,413,414,427,428,439,440,474,475,488,489,495,496,498,499,516,517,523,524,530,531,580,581,587,588,594,595,601,602,608,609,610,614,615,621,622,628,629,635,636,638,639,649,650,656,657,663,664,670,671,677,678,684,685,691,692]
noncomputable abbrev p:Program:=PySem.Challenge.pw_staywalk_k46_whole_what_was
noncomputable abbrev q:Program:=view p [0,2,3,4,5,6,7,9,10,11,13,15,16,17,18,20,21,22,24,25,26,28,30,31,32,33,35,37,38,39,40,41,42,43]
noncomputable abbrev H:Hook:=kHook K as λ_=>rfl
theorem said:OpenLaw.wellSaid PySem.Challenge.rw_staywalk_k46_whole_what_was=true:=by
 rw[Fast.te9446332074065402090]
 kernel_rfl
theorem left:LeftO p q ["Up","Down"] (λs=>xlAt q [] s&&recOk [] s) (Hook.obs H) (Hook.val H) 10410:=HD.left_of λw=>by kernel_rfl
end ZK
namespace L2
open PySem PySem.Spec PyProof.Rows
abbrev Key:=Sum Int Str
def ij:Key→Value→Bool
 | .inl k,v=>Value.isInt k v
 | .inr x,v=>Value.isStrOf x v
def keyH (w:World):Key→Int
 | .inl k=>hashInt k
 | .inr x=>hashStr w x
theorem bw:∀{k:Key} {v:Value},ij k v=true→(∃i t,k=Sum.inl i∧v=Value.int i t)∨(∃x t,k=Sum.inr x∧v=Value.str x t)
 | .inl i,v,h=>by
  obtain⟨t,e⟩:=Value.isInt_shape (k:=i) (v:=v) h
  exact .inl ⟨i,t,rfl,e⟩
 | .inr x,v,h=>by
  obtain⟨t,e⟩:=Value.isStrOf_shape (x:=x) (v:=v) h
  exact .inr ⟨x,t,rfl,e⟩
theorem vJ (i:Int) (t:Tok):ij (.inl i) (.int i t)=true:=by simp[ij,Value.isInt]
theorem vI (x:Str) (t:Tok):ij (.inr x) (.str x t)=true:=by simp[ij,Value.isStrOf]
theorem AV (a b:Int):decide ((Sum.inl a:Key)=Sum.inl b)=(a==b):=by
 by_cases e:a=b
 ·subst e;simp
 ·have h:¬(Sum.inl a:Key)=Sum.inl b:=λq=>e (Sum.inl.inj q)
  rw[decide_eq_false h]
  exact(beq_eq_false_iff_ne.mpr e).symm
theorem AS (a b:Str):decide ((Sum.inr a:Key)=Sum.inr b)=decide (a=b):=by
 by_cases e:a=b
 ·subst e;simp
 ·have h:¬(Sum.inr a:Key)=Sum.inr b:=λq=>e (Sum.inr.inj q)
  rw[decide_eq_false h,decide_eq_false e]
theorem AU (a:Int) (b:Str):decide ((Sum.inl a:Key)=Sum.inr b)=false:=decide_eq_false (λq=>nomatch q)
theorem AT (a:Str) (b:Int):decide ((Sum.inr a:Key)=Sum.inl b)=false:=decide_eq_false (λq=>nomatch q)
def aR (prog:Program) (w:World):PySem.KeyKind prog w Key where
 is:=ij
 hash:=keyH w
 inj:=λv a b ha hb=>by
  rcases bw ha with⟨i,t,rfl,rfl⟩|⟨x,t,rfl,rfl⟩
  ·rcases bw hb with⟨j,u,rfl,e⟩|⟨y,u,rfl,e⟩
   ·injection e with e1 _;rw[e1]
   ·exact nomatch e
  ·rcases bw hb with⟨j,u,rfl,e⟩|⟨y,u,rfl,e⟩
   ·exact nomatch e
   ·injection e with e1 _;rw[e1]
 byValue:=λk v h=>by
  rcases bw h with⟨i,t,rfl,rfl⟩|⟨x,t,rfl,rfl⟩<;>rfl
 pyHash:=λhv h=>by
  rcases bw hv with⟨i,t,rfl,rfl⟩|⟨x,t,rfl,rfl⟩
  ·exact wpAny_pyHash_int h
  ·exact wpAny_pyHash_str h
 eqBool:=λhu hv h=>by
  rcases bw hu with⟨i,t,rfl,rfl⟩|⟨x,t,rfl,rfl⟩
  ·rcases bw hv with⟨j,u,rfl,rfl⟩|⟨y,u,rfl,rfl⟩
   ·rw[AV]at h;exact wpAny_eqBool_int h
   ·rw[AU]at h;exact SeqAt.EqAt.int_str i t y u _ _ _ _ h
  ·rcases bw hv with⟨j,u,rfl,rfl⟩|⟨y,u,rfl,rfl⟩
   ·rw[AT]at h;exact SeqAt.EqAt.str_int x t j u _ _ _ _ h
   ·rw[AS]at h;exact wpAny_eqBool_str h
 «strs»:=λk x t v h=>by
  rcases bw h with⟨i,u,rfl,e⟩|⟨y,u,rfl,e⟩
  ·exact nomatch e
  ·injection e with e1 _
   subst e1
   cases v<;>rfl
theorem tG (prog:Program) (w:World) (k:Key) (v:Value):(aR prog w).is k v=ij k v:=rfl
theorem rT (prog:Program) (w:World) (i:Int) (t:Tok):(aR prog w).is (.inl i) (.int i t)=true:=vJ i t
theorem rS (prog:Program) (w:World) (x:Str) (t:Tok):(aR prog w).is (.inr x) (.str x t)=true:=vI x t
end L2
namespace L2
open PySem PySem.Spec PyProof.Rows
inductive V where
 |non|bl (b:Bool)|int (i:Int)|str (x:Str)|byt (b:Array UInt8)|flt (b:UInt64)|ref (a:Addr)|ty (n:String)
 deriving DecidableEq
def RelV:V→Value→Prop
 | .non,u=>u=Value.none
 | .bl b,u=>u=Value.bool b
 | .int i,u=>∃t,u=Value.int i t
 | .str x,u=>∃t,u=Value.str x t
 | .byt b,u=>∃t,u=Value.bytes b t
 | .flt b,u=>∃t,u=Value.float b t
 | .ref a,u=>u=Value.ref a
 | .ty n,u=>u=Value.type n
abbrev Vals:List V→List Value→Prop:=Paired RelV
theorem Vals.length {xs:List V} {us:List Value} (r:Vals xs us):xs.length=us.length:=Paired.length r
theorem Vals.get:∀{xs:List V} {us:List Value} {i:Nat} {x:V},Vals xs us→xs[i]?=some x→∃u,us[i]?=some u∧RelV x u
 |_,_,_,_,.nil,e=>by simp at e
 |_,_,0,_,.cons r _,e=>by simp at e;subst e;exact⟨_,rfl,r⟩
 |_,_,i+1,x,.cons _ t,e=>by
  obtain⟨u,h1,h2⟩:=Vals.get (i:=i) (x:=x) t (by simpa using e)
  exact⟨u,by simpa using h1,h2⟩
theorem Vals.set {x:V} {u:Value} (r:RelV x u):∀{xs:List V} {us:List Value} (i:Nat),Vals xs us→Vals (xs.set i x) (us.set i u)
 |_,_,_,.nil=> .nil
 |_,_,0,.cons _ t=> .cons r t
 |_,_,i+1,.cons q t=> .cons q (Vals.set r i t)
theorem Vals.append:∀{xs ys:List V} {us ws:List Value},Vals xs us→Vals ys ws→Vals (xs++ys) (us++ws)
 |_,_,_,_,.nil,s=>s
 |_,_,_,_,.cons r t,s=> .cons r (Vals.append t s)
theorem Vals.take:∀{xs:List V} {us:List Value} (n:Nat),Vals xs us→Vals (xs.take n) (us.take n)
 |_,_,0,_=> .nil
 |_,_,_+1,.nil=> .nil
 |_,_,n+1,.cons r t=> .cons r (Vals.take n t)
theorem Vals.drop:∀{xs:List V} {us:List Value} (n:Nat),Vals xs us→Vals (xs.drop n) (us.drop n)
 |_,_,0,r=>r
 |_,_,_+1,.nil=> .nil
 |_,_,n+1,.cons _ t=>Vals.drop n t
def RelO:Option V→Option Value→Prop
 |some v,some u=>RelV v u
 |none,none=>True
 |_,_=>False
def KV {κ:Type}:List (κ×V)→List (κ×Value)→Prop:=Paired λ(p:κ×V) (q:κ×Value)=>p.1=q.1∧RelV p.2 q.2
def kV:Key→V
 | .inl i=> .int i
 | .inr x=> .str x
inductive HO where
 |lst (xs:List V)
 |tup (xs:List V)
 |dK (kvs:List (Key×V))|dT (kvs:List (List Key×V))
 |set (S:Int→Bool) (n:Nat)
 |ins (C dx:Addr) (fs:List (Str×V))
 |own (x:Addr)
 |xd (fs:List (Str×V))
 |met (f x:Addr)
 |rng (lo hi:Int)
 |frz (o:Obj) (u:HO)
 |tbl (ps:Array Value)
 |ext (φ:Heap→Prop)
abbrev Hp:=Addr→Option HO
def upd (H:Hp) (a:Addr) (o:HO):Hp:=λb=>if b=a then some o else H b
theorem af {H:Hp} {a:Addr} {o:HO}:upd H a o a=some o:=by unfold upd;rw[if_pos rfl]
theorem ac {H:Hp} {a b:Addr} {o:HO} (h:b≠a):upd H a o b=H b:=by unfold upd;rw[if_neg h]
theorem cf {H:Hp} {a:Addr} {o u:HO}:upd (upd H a o) a u=upd H a u:=by
 funext b;unfold upd;split<;>rfl
theorem bJ {H:Hp} {a b:Addr} {o u:HO} (h:H a=some o) (h':H b=some u) (d:o≠u):a≠b:=by
 intro e;subst e;rw[h]at h';exact d (Option.some.inj h')
theorem aj {H:Hp} {a b:Addr} {o:HO} (h:H a=some o) (h':H b=none):a≠b:=by
 intro e;subst e;rw[h]at h';cases h'
section
variable (P:Program) (w:World)
def ObjOk (H:Hp) (h:Heap) (a:Addr):HO→Prop
 | .lst xs=>xs.length≤sizeLine∧∃(its:List Value) (n:Nat),Vals xs its∧h.get? a=some {cls:= .type "list",data:= .seq its.toArray n}
 | .tup xs=>xs.length≤sizeLine∧∃its:List Value,Vals xs its∧IsTup h a its.toArray
 | .dK kvs=>kvs.length≤sizeLine∧(a==sysModules)=false∧∃vs,KV kvs vs∧h.DictOf (aR P w) a vs
 | .dT kvs=>kvs.length≤sizeLine∧(a==sysModules)=false∧∃xs:List (List Key×Addr×Value),
   Paired (λ(p:List Key×V) (q:List Key×Addr×Value)=>p.1=q.1∧H q.2.1=some (.tup (p.1.map kV))∧RelV p.2 q.2.2) kvs xs∧
   ∃o es ep,h.get? a=some o∧o.ExactDict∧o.data= .dict es ep∧es.toList=xs.map (entryOfKey (tupleKind (aR P w)))∧(xs.map (·.1)).Nodup
 | .set S n=>h.SetOf (intKind P w) a S n
 | .ins C dx fs=>H dx=some (.own a)∧fs.length≤1000∧dx≠a∧h.get? a=some (PySem.W.instObj C dx)∧
   ∃mA,h.Ns1 dx mA∧(∀f,RelO (fs.lookup f) (mA f))∧PySem.Within mA (fs.map (·.1))
 | .own _=>∃o,h.get? a=some o
 | .xd fs=>∃mA,h.Ns1 a mA∧∀f,RelO (fs.lookup f) (mA f)
 | .rng lo hi=>∃t u v,h.get? a=some {cls:= .type "range",data:= .fields #[.int lo t,.int hi u,.int 1 v]}
 | .frz o u=>h.get? a=some o∧ObjOk H h a u
 | .tbl ps=>h.get? a=some {cls:= .none,data:= .fields ps}
 | .met f x=>h.get? a=some (PySem.W.methodObj (.ref f) (.ref x))
 | .ext φ=>φ h∧(∃o,h.get? a=some o)∧∀h1 h2:Heap,φ h1→(∀o,h1.get? a=some o→h2.get? a=some o)→φ h2
def HOk (H:Hp) (h:Heap):Prop:=∀a o,H a=some o→ObjOk P w H h a o
end
section
variable {P:Program} {w:World} {H H':Hp} {h h':Heap} {a:Addr} {o:HO}
theorem ObjOk.lt (x:ObjOk P w H h a o):a<h.objs.size:=by
 cases o with
 |lst xs=>obtain⟨_,_,_,_,e⟩:=x;exact Heap.lt_size e
 |tup xs=>obtain⟨_,_,_,p⟩:=x;exact p.lt
 |dK kvs=>obtain⟨_,_,_,_,o,_,_,e,_⟩:=x;exact Heap.lt_size e
 |dT kvs=>obtain⟨_,_,_,_,o,_,_,e,_⟩:=x;exact Heap.lt_size e
 |set S n=>obtain⟨o,_,_,_,e,_⟩:=x;exact Heap.lt_size e
 |ins C dx fs=>obtain⟨_,_,_,e,_⟩:=x;exact Heap.lt_size e
 |own y=>obtain⟨_,e⟩:=x;exact Heap.lt_size e
 |xd fs=>obtain⟨_,⟨_,_,_,e,_⟩,_⟩:=x;exact Heap.lt_size e
 |rng lo hi=>obtain⟨_,_,_,e⟩:=x;exact Heap.lt_size e
 |frz ob u=>obtain⟨e,_⟩:=x;exact Heap.lt_size e
 |tbl ps=>exact Heap.lt_size (show h.get? a=some _ from x)
 |met f y=>exact Heap.lt_size (show h.get? a=some _ from x)
 |ext φ=>obtain⟨_,⟨_,e⟩,_⟩:=x;exact Heap.lt_size e
theorem Paired.mapP {α β:Type} {F G:α→β→Prop}:∀{l₁:List α} {l₂:List β},Paired F l₁ l₂→(∀a b,F a b→G a b)→Paired G l₁ l₂
 |_,_,.nil,_=> .nil
 |_,_,.cons r t,f=> .cons (f _ _ r) (Paired.mapP t f)
theorem ObjOk.stay (x:ObjOk P w H h a o) (k:∀b u,(b=a∨H b=some (.own a))→h.get? b=some u→h'.get? b=some u)
  (ho:∀b,H b=some (.own a)→H' b=some (.own a)) (ht:∀b xs,H b=some (.tup xs)→H' b=some (.tup xs)):ObjOk P w H' h' a o:=by
 induction o with
 |lst xs=>obtain⟨z,its,n,r,e⟩:=x;exact⟨z,its,n,r,k _ _ (.inl rfl) e⟩
 |tup xs=>obtain⟨z,its,r,ob,e,c⟩:=x;exact⟨z,its,r,ob,k _ _ (.inl rfl) e,c⟩
 |dK kvs=>obtain⟨z,y,vs,r,ob,es,ep,e,c⟩:=x;exact⟨z,y,vs,r,ob,es,ep,k _ _ (.inl rfl) e,c⟩
 |dT kvs=>
  obtain⟨z,y,xs,r,ob,es,ep,e,c⟩:=x
  exact⟨z,y,xs,Paired.mapP r λp q z=>⟨z.1,ht _ _ z.2.1,z.2.2⟩,ob,es,ep,k _ _ (.inl rfl) e,c⟩
 |set S n=>obtain⟨ob,es,ep,t,e,c⟩:=x;exact⟨ob,es,ep,t,k _ _ (.inl rfl) e,c⟩
 |ins C dx fs=>
  obtain⟨d,z,ne,e,mA,⟨od,es,ep,e2,c⟩,r⟩:=x
  exact⟨ho _ d,z,ne,k _ _ (.inl rfl) e,mA,⟨od,es,ep,k _ _ (.inr d) e2,c⟩,r⟩
 |own y=>obtain⟨ob,e⟩:=x;exact⟨ob,k _ _ (.inl rfl) e⟩
 |xd fs=>obtain⟨mA,⟨od,es,ep,e,c⟩,r⟩:=x;exact⟨mA,⟨od,es,ep,k _ _ (.inl rfl) e,c⟩,r⟩
 |rng lo hi=>obtain⟨t,u,v,e⟩:=x;exact⟨t,u,v,k _ _ (.inl rfl) e⟩
 |frz ob u ih=>obtain⟨e,q⟩:=x;exact⟨k _ _ (.inl rfl) e,ih q⟩
 |tbl ps=>
  have e:h.get? a=some {cls:= .none,data:= .fields ps}:=x
  show h'.get? a=some {cls:= .none,data:= .fields ps}
  exact k a _ (.inl rfl) e
 |met f y=>
  have e:h.get? a=some (PySem.W.methodObj (.ref f) (.ref y)):=x
  show h'.get? a=some (PySem.W.methodObj (.ref f) (.ref y))
  exact k a _ (.inl rfl) e
 |ext φ=>obtain⟨p,⟨o,e⟩,st⟩:=x;exact⟨st _ _ p λo q=>k _ _ (.inl rfl) q,⟨o,k _ _ (.inl rfl) e⟩,st⟩
theorem HOk.lt (x:HOk P w H h) (e:H a=some o):a<h.objs.size:=(x a o e).lt
theorem HOk.fresh (x:HOk P w H h) (e:h.objs.size≤a):H a=none:=by
 cases q:H a with
 |none=>rfl
 |some u=>exact absurd (Qp (x.lt q) e) (Zc _)
theorem HOk.kept (x:HOk P w H h) (k:∀b u,h.get? b=some u→h'.get? b=some u):HOk P w H h':=λa o e=>
 (x a o e).stay (λb u _ q=>k b u q) (λ_ q=>q) λ_ _ q=>q
theorem HOk.laid (x:HOk P w H h) (k:∀b u,h.get? b=some u→h'.get? b=some u) (hp:h.objs.size≤a) (new:ObjOk P w (upd H a o) h' a o):HOk P w (upd H a o) h':=λb u e=>by
 have hn:=x.fresh hp
 by_cases hb:b=a
 ·subst hb;rw[af]at e;cases e;exact new
 ·rw[ac hb]at e
  exact(x b u e).stay (λc v _ q=>k c v q) (λc q=>by rw[ac (aj q hn)];exact q) λc xs q=>by rw[ac (aj q hn)];exact q
end
def Rd (H:Hp) (a:Addr) (u:HO):Prop:=H a=some u∨∃o,H a=some (.frz o u)
theorem Rd.ok {P:Program} {w:World} {H:Hp} {h:Heap} {a:Addr} {u:HO} (r:Rd H a u) (x:HOk P w H h):ObjOk P w H h a u:=by
 rcases r with r|⟨o,r⟩
 ·exact x a u r
 ·obtain⟨_,q⟩:=x a _ r
  exact q
def Mut:Option HO→Prop
 |some (.lst _)=>True
 |some (.dK _)=>True
 |some (.dT _)=>True
 |some (.set _ _)=>True
 |some (.ins _ _ _)=>True
 |some (.ext _)=>True
 |_=>False
section
variable {P:Program} {w:World} {H:Hp} {h h':Heap} {x e:Addr} {o':HO}
theorem HOk.write (ok:HOk P w H h) (mu:Mut (H x)) (he:e=x∨H e=some (.own x)) (k:∀b u,b≠e→h.get? b=some u→h'.get? b=some u) (heo:∃u,h'.get? e=some u)
  (new:ObjOk P w (upd H x o') h' x o'):HOk P w (upd H x o') h':=λb u q=>by
 have nown:∀c y,H c=some (.own y)→c≠x:=λc y r z=>by subst z;rw[r]at mu;exact mu
 have ntup:∀c xs,H c=some (.tup xs)→c≠x:=λc xs r z=>by subst z;rw[r]at mu;exact mu
 by_cases hb:b=x
 ·subst hb;rw[af]at q;cases q;exact new
 ·rw[ac hb]at q
  by_cases hbe:b=e
  ·have q':H b=some (.own x):=by
    rcases he with z|z
    ·exact absurd (hbe.trans z) hb
    ·rw[hbe];exact z
   rw[q]at q';cases q'
   obtain⟨v,hv⟩:=heo
   exact⟨v,by rw[hbe];exact hv⟩
  ·refine(ok b u q).stay (λc v hc r=>k c v ?_ r) (λc r=>by rw[ac (nown c b r)];exact r) λc xs r=>by rw[ac (ntup c xs r)];exact r
   rcases hc with rfl|hc
   ·exact hbe
   ·rintro rfl
    rcases he with z|z
    ·exact nown c b hc z
    ·rw[hc]at z;cases z;exact hb rfl
end
structure Un (fs ex:List Addr) (H H':Hp) (h h':Heap):Prop where
 keep:∀b o,h.get? b=some o→H b=none→b∉fs→b∉ex→h'.get? b=some o
 slot:∀b o,h.get? b=some o→H b=none→b∈fs→b∉ex→∃sl,h'.get? b=some {o with slots:=sl}
 free:∀b o,h.get? b=some o→H b=none→b∉ex→H' b=none
 there:∀b o,h.get? b=some o→b∉ex→∃o',h'.get? b=some o'
 tups:∀b xs,H b=some (.tup xs)→H' b=some (.tup xs)
 frzs:∀b o u,H b=some (.frz o u)→H' b=some (.frz o u)
 tbls:∀b ps,H b=some (.tbl ps)→∃more,H' b=some (.tbl (ps++more))
section
variable {fs fs' ex ex':List Addr} {H H1 H2:Hp} {h h1 h2 h':Heap} {a x e:Addr} {o:HO}
theorem Un.any (u:Un fs ex H H1 h h1) {b:Addr} {ob:Obj} (q:h.get? b=some ob) (n:H b=none) (hx:b∉ex):∃sl,h1.get? b=some {ob with slots:=sl}:=by
 by_cases hb:b∈fs
 ·exact u.slot b ob q n hb hx
 ·exact⟨ob.slots,u.keep b ob q n hb hx⟩
theorem Un.kept (k:∀b u,h.get? b=some u→h'.get? b=some u):Un fs ex H H h h':=
 ⟨λb ob q _ _ _=>k b ob q,λb ob q _ _ _=>⟨ob.slots,k b ob q⟩,λ_ _ _ n _=>n,λb ob q _=>⟨ob,k b ob q⟩,λ_ _ q=>q,λ_ _ _ q=>q,λ_ ps q=>⟨#[],by rw[q];simp⟩⟩
theorem Un.refl:Un fs ex H H h h:=Un.kept λ_ _ q=>q
theorem Un.laid (k:∀b u,h.get? b=some u→h'.get? b=some u) (hp:h.objs.size≤a) (hn:H a=none):Un fs ex H (upd H a o) h h' where
 keep:=λb u q _ _ _=>k b u q
 slot:=λb u q _ _ _=>⟨u.slots,k b u q⟩
 free:=λb u q n _=>by rw[ac (Qq (Qp (Heap.lt_size q) hp))];exact n
 there:=λb u q _=>⟨u,k b u q⟩
 tups:=λb xs q=>by rw[ac (aj q hn)];exact q
 frzs:=λb u xs q=>by rw[ac (aj q hn)];exact q
 tbls:=λb ps q=>⟨#[],by rw[ac (aj q hn),q];simp⟩
theorem Un.write (mu:Mut (H x)) (he:e=x∨H e=some (.own x)) (k:∀b u,b≠e→h.get? b=some u→h'.get? b=some u) (heo:∃u,h'.get? e=some u):Un fs ex H (upd H x o) h h':=by
 have hx:∀b,H b=none→b≠x:=λb n z=>by subst z;rw[n]at mu;exact mu
 have hb:∀b,H b=none→b≠e:=λb n z=>by
  subst z
  rcases he with r|r
  ·exact hx b n r
  ·rw[n]at r;cases r
 have hm:∀b u,H b=some u→¬Mut (some u)→b≠x:=λb u q nm z=>by subst z;rw[q]at mu;exact nm mu
 refine⟨λb u q n _ _=>k b u (hb b n) q,λb u q n _ _=>⟨u.slots,k b u (hb b n) q⟩,λb u q n _=>by rw[ac (hx b n)];exact n,λb u q _=>?_,
  λb xs q=>by rw[ac (hm b _ q λz=>z)];exact q,λb u xs q=>by rw[ac (hm b _ q λz=>z)];exact q,λb ps q=>⟨#[],by rw[ac (hm b _ q λz=>z),q];simp⟩⟩
 by_cases hbe:b=e
 ·subst hbe;exact heo
 ·exact⟨u,k b u hbe q⟩
end
def trk (h:Heap) (H:Hp):List Addr:=(List.range h.objs.size).filter λa=>(H a).isSome
def qL (h:Heap) (H:Hp):Heap:=PySem.W.hideAll h (trk h H)
theorem vO (h:Heap) (H:Hp):(qL h H).objs.size=h.objs.size:=PySem.W.hideAll_size _ _
theorem xx {h:Heap} {H:Hp} {b:Addr} {o:Obj} (e:h.get? b=some o) (n:H b=none):(qL h H).get? b=some o:=
 PySem.W.hideAll_get _ e λhm=>by
  have q:(H b).isSome=true:=(QM.mp hm).2
  rw[n]at q;simp at q
theorem zd {h:Heap} {H:Hp} {b:Addr} {o:Obj} (e:(qL h H).get? b=some o):h.get? b=some o∧H b=none:=by
 have e':h.get? b=some o:=PySem.W.of_hideAll (trk h H) e
 refine⟨e',?_⟩
 cases q:H b with
 |none=>rfl
 |some x=>
  have hm:b∈trk h H:=QM.mpr ⟨List.mem_range.mpr (Heap.lt_size e'),by simp[q]⟩
  have z:(qL h H).get? b=none:=PySem.W.hideAll_none (trk h H) hm
  rw[z]at e;cases e
end L2
namespace L2
open PySem PySem.Spec PyProof.Rows
structure Mod (K:PySem.W.Frag) (mg:Str→Option Value) (base:Heap):Prop where
 kin:K.In base
 glob:base.Ns mainGlobals mg
 blt:∃mb,base.Ns builtinsNs mb∧∀x:Str,x≠"__name__"→mb x=bootBuiltins x
 nolimit:base.NoLimit
/-- the context: a def's body (or a comprehension's block) running. base: fixed through the whole law; s₀, H₀: the entry; outer: the frames whose slots others may change (a def's callers); stack: all frames that run;
  ex:iterators that were made ahead of the entry and are walked here (a comprehension's);fn:the names whose cells were made at the entry (a def:all;a comprehension's block:its own);calm:not within an except suite;pn:pins that every state bears;xe:what is wanted of an exception that leaves the code-/
structure Cx where
 prog:Program
 w:World
 K:PySem.W.Frag
 mg:Str→Option Value
 base:Heap
 A:Around
 N:List Str
 s₀:Shared
 H₀:Hp
 env:Env
 outer:List Env
 stack:List Env
 ex:List Addr
 fn:Str→Bool
 calm:Bool
 pn:List (Addr×Obj)
 xe:Value→Shared→Prop
def frs (l:List Env):List Addr:=l.filterMap (·.frame)
abbrev Cx.fs (X:Cx):List Addr:=frs X.outer
def Vis (sc:Scope) (x:Str):Prop:=sc.names.lookup x=some .local∨sc.names.lookup x=some .cell∨sc.names.lookup x=some .free
def Loc (sc:Scope) (x:Str):Prop:=sc.names.lookup x=some .local∨sc.names.lookup x=some .cell
def Look (env:Env) (h:Heap) (m:Str→Option Value) (x:Str) (u:Value):Prop:=
 (env.kindOf x=some .local∧m x=some u)∨((env.kindOf x=some .cell∨env.kindOf x=some .free)∧∃c,env.cells.lookup x=some c∧h.IsCell c (some u))
structure Cx.Ok (X:Cx):Prop where
 mod:Mod X.K X.mg X.base
 kind:X.env.scope.kind= .function
 glob:X.env.globals=mainGlobals
 blt:X.env.builtins=builtinsNs
 above:X.s₀.heap.objs.size≤X.env.locals
 inj:∀x y c,X.env.cells.lookup x=some c→X.env.cells.lookup y=some c→x=y
 has:∀x,(X.env.kindOf x=some .cell∨X.env.kindOf x=some .free)→∃c,X.env.cells.lookup x=some c
 cab:∀x c,X.fn x=true→X.env.cells.lookup x=some c→X.s₀.heap.objs.size≤c
 hd:X.calm=true→X.A.handled=none
 frames:X.A.frames=some X.stack
 stk:X.stack=X.outer∨(X.stack=X.env::X.outer∧X.env.frame=some X.env.locals)
 exf:∀b∈X.ex,b≠X.env.locals∧∀x c,X.env.cells.lookup x=some c→c≠b
 bs:∀b o,X.base.get? b=some o→X.s₀.heap.get? b=some o∧X.H₀ b=none
 bsz:X.base.objs.size≤X.s₀.heap.objs.size
 noex:∀b o,X.base.get? b=some o→b∉X.ex
 exfs:∀b∈X.ex,b∉X.fs
 funs:X.s₀.heap.FunFrames X.base X.outer
 frf:∀b∈X.fs,X.H₀ b=none
structure Inv (X:Cx) (pins:List (Addr×Obj)) (σ:List (Option V)) (H:Hp) (s:Shared):Prop where
 ok:X.Ok
 os:s.os=X.s₀.os
 bare:AllBare s.gens
 base:Un X.fs X.ex X.H₀ H X.s₀.heap s.heap
 loc:∃m,s.heap.Ns X.env.locals m∧∀(i:Nat) (x:Str) (v:V),X.N[i]?=some x→σ[i]?=some (some v)→Vis X.env.scope x→∃u,RelV v u∧Look X.env s.heap m x u
 cell:∀x c,X.env.cells.lookup x=some c→∃v,s.heap.IsCell c v
 free:H X.env.locals=none
 freeC:∀x c,X.env.cells.lookup x=some c→H c=none
 pin:∀p∈X.pn++pins,s.heap.get? p.1=some p.2∧H p.1=none∧p.1≠X.env.locals∧p.1∉X.fs∧∀v,p.2.data≠ .cell v
 hok:HOk X.prog X.w H s.heap
 len:σ.length=X.N.length
section
variable {X:Cx} {pins:List (Addr×Obj)} {σ:List (Option V)} {H H':Hp} {s:Shared} {h':Heap}
theorem Cx.Ok.nofr (ok:X.Ok) {b:Addr} {o:Obj} (e:X.base.get? b=some o):b∉X.fs:=λhb=>by
 have:=(ok.funs.mem hb).1
 rw[e]at this;cases this
theorem Inv.bs (I:Inv X pins σ H s):∀b o,X.base.get? b=some o→s.heap.get? b=some o∧H b=none:=λb o e=>
 ⟨I.base.keep b o (I.ok.bs b o e).1 (I.ok.bs b o e).2 (I.ok.nofr e) (I.ok.noex b o e),I.base.free b o (I.ok.bs b o e).1 (I.ok.bs b o e).2 (I.ok.noex b o e)⟩
theorem Inv.bk (I:Inv X pins σ H s):∀b o,X.base.get? b=some o→s.heap.get? b=some o:=λb o e=>(I.bs b o e).1
theorem Inv.mod (I:Inv X pins σ H s):Mod X.K X.mg X.base:=I.ok.mod
theorem Inv.kIn (I:Inv X pins σ H s):X.K.In s.heap:=I.ok.mod.kin.keeps I.bk
theorem Inv.lt (I:Inv X pins σ H s):X.env.locals<s.heap.objs.size:=let⟨_,hn,_⟩:=I.loc;hn.lt
theorem Inv.sz (I:Inv X pins σ H s):X.s₀.heap.objs.size≤s.heap.objs.size:=Qv I.ok.above (QO I.lt)
theorem Inv.nofs (I:Inv X pins σ H s) {a:Addr} (h:s.heap.objs.size≤a):a∉X.fs:=λhb=>by
 obtain⟨_,o,ho,_⟩:=I.ok.funs.mem hb
 exact absurd (Qp (Heap.lt_size ho) (Qv I.sz h)) (Zc _)
theorem Inv.cne (I:Inv X pins σ H s):∀x c,X.env.cells.lookup x=some c→c≠X.env.locals:=λx c e z=>by
 obtain⟨v,o,ho,hd⟩:=I.cell x c e
 obtain⟨m,⟨o',es,ep,ho',hd',_⟩,_⟩:=I.loc
 rw[z,ho']at ho;cases ho;rw[hd']at hd;cases hd
theorem Inv.funs (I:Inv X pins σ H s):s.heap.FunFrames X.base X.outer:=by
 have all:∀(l:List Env),(∀b∈frs l,b∈X.fs)→X.s₀.heap.FunFrames X.base l→s.heap.FunFrames X.base l:=by
  intro l
  induction l with
  |nil=>intro _ _;trivial
  |cons env r ih=>
   intro hs hl
   obtain⟨hk,⟨L,o,hf,hn,ho,hd⟩,hr⟩:=hl
   have hL:L∈X.fs:=hs L (by unfold frs;rw[X0,hf];exact Q8)
   obtain⟨sl,e⟩:=I.base.slot L o ho (I.ok.frf L hL) hL λz=>I.ok.exfs L z hL
   exact⟨hk,⟨L,_,hf,hn,e,hd⟩,ih (λb hb=>hs b (by unfold frs;rw[X0,hf];exact Q6 _ hb)) hr⟩
 exact all X.outer (λ_ hb=>hb) I.ok.funs
theorem Inv.stack (I:Inv X pins σ H s):s.heap.FunFrames X.base X.stack:=by
 rcases I.ok.stk with e|⟨e,hf⟩
 ·rw[e];exact I.funs
 ·rw[e]
  obtain⟨m,hn,_⟩:=I.loc
  refine .cons (by rw[I.ok.kind];decide) hf hn ?_ I.funs
  exact Heap.get?_none_of_le (Qv I.ok.bsz I.ok.above)
theorem Inv.stkSub (I:Inv X pins σ H s):∀b∈frs X.stack,b∈X.env.locals::X.fs:=λb hb=>by
 rcases I.ok.stk with e|⟨e,hf⟩
 ·rw[e]at hb;exact Q6 _ hb
 ·rw[e]at hb
  unfold frs at hb
  rw[X0,hf]at hb
  exact hb
theorem Inv.stkFree (I:Inv X pins σ H s):∀b∈frs X.stack,H b=none:=λb hb=>by
 rcases Qe.mp (I.stkSub b hb)with e|hb
 ·rw[e];exact I.free
 ·obtain⟨_,o,ho,_⟩:=I.ok.funs.mem hb
  exact I.base.free b o ho (I.ok.frf b hb) λz=>I.ok.exfs b z hb
theorem Inv.step {g':Array GenState} {t':Nat} {d':Drawn} {ch:List Addr} (I:Inv X pins σ H s)
  (hch:∀b∈ch,(b∈X.ex∨X.s₀.heap.objs.size≤b)∧b≠X.env.locals∧(∀x c,X.env.cells.lookup x=some c→c≠b)∧∀p∈X.pn++pins,p.1≠b)
  (keep:∀b o,b≠X.env.locals→b∉X.fs→b∉ch→s.heap.get? b=some o→H b=none→h'.get? b=some o)
  (slot:∀b o,b≠X.env.locals→b∈X.fs→b∉ch→s.heap.get? b=some o→H b=none→∃sl,h'.get? b=some {o with slots:=sl}) (free:∀b o,b∉ch→s.heap.get? b=some o→H b=none→H' b=none)
  (there:∀b o,b∉ch→s.heap.get? b=some o→∃o',h'.get? b=some o')
  (tups:∀b xs,H b=some (.tup xs)→H' b=some (.tup xs)) (frzs:∀b o u,H b=some (.frz o u)→H' b=some (.frz o u)) (tbls:∀b ps,H b=some (.tbl ps)→∃more,H' b=some (.tbl (ps++more)))
  (ns:∀m,s.heap.Ns X.env.locals m→h'.Ns X.env.locals m) (hok:HOk X.prog X.w H' h') (hg:AllBare g'):
  Inv X pins σ H' {s with heap:=h',gens:=g',drawn:=d',toks:=t'}:=by
 have neL:∀b o,X.s₀.heap.get? b=some o→b≠X.env.locals:=λb o e=>Qq (Qp (Heap.lt_size e) I.ok.above)
 have neC:∀b o,X.s₀.heap.get? b=some o→b∉X.ex→b∉ch:=λb o e hx hb=>by
  rcases(hch b hb).1 with z|z
  ·exact hx z
  ·exact absurd (Qp (Heap.lt_size e) z) (Zc _)
 have cellK:∀x c,X.env.cells.lookup x=some c→∀v,s.heap.IsCell c v→h'.IsCell c v:=λx c e v ⟨o,ho,hd⟩=>by
  have nch:c∉ch:=λz=>(hch c z).2.2.1 x c e rfl
  by_cases hc:c∈X.fs
  ·obtain⟨sl,q⟩:=slot c o (I.cne x c e) hc nch ho (I.freeC x c e)
   exact⟨_,q,hd⟩
  ·exact⟨o,keep c o (I.cne x c e) hc nch ho (I.freeC x c e),hd⟩
 refine⟨I.ok,I.os,hg,⟨λb o e n hb hx=>?_,λb o e n hb hx=>?_,λb o e n hx=>?_,λb o e hx=>?_,λb xs e=>tups b xs (I.base.tups b xs e),λb o xs e=>frzs b o xs (I.base.frzs b o xs e),λb ps e=>?_⟩,?_,λx c e=>?_,?_,λx c e=>?_,λp hp=>?_,hok,I.len⟩
 ·exact keep b o (neL b o e) hb (neC b o e hx) (I.base.keep b o e n hb hx) (I.base.free b o e n hx)
 ·obtain⟨sl,e1⟩:=I.base.slot b o e n hb hx
  obtain⟨sl',e2⟩:=slot b _ (neL b o e) hb (neC b o e hx) e1 (I.base.free b o e n hx)
  exact⟨sl',e2⟩
 ·obtain⟨o',e1⟩:=I.base.there b o e hx
  exact free b o' (neC b o e hx) e1 (I.base.free b o e n hx)
 ·obtain⟨o',e1⟩:=I.base.there b o e hx
  exact there b o' (neC b o e hx) e1
 ·obtain⟨m1,e1⟩:=I.base.tbls b ps e
  obtain⟨m2,e2⟩:=tbls b _ e1
  exact⟨m1++m2,by rw[e2,Array.append_assoc]⟩
 ·obtain⟨m,hn,hl⟩:=I.loc
  refine⟨m,ns m hn,λi x v e1 e2 e3=>?_⟩
  obtain⟨u,r,l⟩:=hl i x v e1 e2 e3
  refine⟨u,r,?_⟩
  rcases l with l|⟨k,c,e,z⟩
  ·exact .inl l
  ·exact .inr ⟨k,c,e,cellK x c e _ z⟩
 ·obtain⟨v,z⟩:=I.cell x c e
  exact⟨v,cellK x c e v z⟩
 ·obtain⟨m,⟨o,_,_,ho,_⟩,_⟩:=I.loc
  exact free _ o (λz=>(hch _ z).2.1 rfl) ho I.free
 ·obtain⟨v,o,ho,hd⟩:=I.cell x c e
  exact free c o (λz=>(hch c z).2.2.1 x c e rfl) ho (I.freeC x c e)
 ·obtain⟨e,n,ne,nf,d⟩:=I.pin p hp
  have nch:p.1∉ch:=λz=>(hch p.1 z).2.2.2 p hp rfl
  exact⟨keep p.1 p.2 ne nf nch e n,free p.1 p.2 nch e n,ne,nf,d⟩
theorem Inv.un {t':Nat} (I:Inv X pins σ H s) (u:Un X.fs [] H H' s.heap h') (hok:HOk X.prog X.w H' h'):Inv X pins σ H' {s with heap:=h',toks:=t'}:=by
 obtain⟨m,⟨o,es,ep,ho,r⟩,_⟩:=id I.loc
 obtain⟨sl,hL⟩:=u.any ho I.free (by simp)
 exact I.step (g':=s.gens) (d':=s.drawn) (ch:=[]) (λ_ z=>nomatch z) (λb o _ hb _ e n=>u.keep b o e n hb (by simp)) (λb o _ hb _ e n=>u.slot b o e n hb (by simp)) (λb o _ e n=>u.free b o e n (by simp)) (λb o _ e=>u.there b o e (by simp)) u.tups u.frzs u.tbls (λm' hm=>by
  obtain⟨o',es',ep',ho',r'⟩:=hm
  rw[ho]at ho';cases ho'
  exact⟨_,es',ep',hL,r'⟩) hok I.bare
theorem Inv.call {g':Array GenState} {t':Nat} {d':Drawn} {ch:List Addr} (I:Inv X pins σ H s) (u:Un (frs X.stack) ch H H' s.heap h') (hok:HOk X.prog X.w H' h') (hg:AllBare g')
  (hch:∀b∈ch,(b∈X.ex∨X.s₀.heap.objs.size≤b)∧b≠X.env.locals∧(∀x c,X.env.cells.lookup x=some c→c≠b)∧∀p∈X.pn++pins,p.1≠b):
  Inv X pins σ H' {s with heap:=h',gens:=g',drawn:=d',toks:=t'}:=by
 obtain⟨m,⟨o,es,ep,ho,r⟩,_⟩:=id I.loc
 obtain⟨sl,hL⟩:=u.any ho I.free λz=>(hch _ z).2.1 rfl
 exact I.step (ch:=ch) hch (λb o hL hb hc e n=>u.keep b o e n (λz=>(Qe.mp (I.stkSub b z)).elim hL hb) hc) (λb o _ _ hc e n=>u.any e n hc) (λb o hc e n=>u.free b o e n hc) (λb o hc e=>u.there b o e hc) u.tups u.frzs u.tbls (λm' hm=>by
  obtain⟨o',es',ep',ho',r'⟩:=hm
  rw[ho]at ho';cases ho'
  exact⟨_,es',ep',hL,r'⟩) hok hg
theorem Inv.turned {t':Nat} {it:Addr} (I:Inv X pins σ H s) (k:∀b o,b≠it→s.heap.get? b=some o→h'.get? b=some o) (hn:H it=none) (hL:it≠X.env.locals)
  (h1:it∈X.ex∨X.s₀.heap.objs.size≤it) (h2:∀x c,X.env.cells.lookup x=some c→c≠it) (h3:∀p∈X.pn++pins,p.1≠it):Inv X pins σ H {s with heap:=h',toks:=t'}:=by
 have nit:∀b u,H b=some u→b≠it:=λb u e z=>by rw[z,hn]at e;cases e
 refine I.step (g':=s.gens) (d':=s.drawn) (ch:=[it]) (λb hb=>?_) (λb o _ _ hc e _=>k b o (λz=>hc (by simp[z])) e) (λb o _ _ hc e _=>⟨o.slots,k b o (λz=>hc (by simp[z])) e⟩) (λ_ _ _ _ n=>n)
  (λb o hc e=>⟨o,k b o (λz=>hc (by simp[z])) e⟩) (λ_ _ e=>e) (λ_ _ _ e=>e) (λb ps e=>⟨#[],by rw[e];simp⟩) (λm hm=>?_) (λb u e=>?_) I.bare
 ·have e:b=it:=by simpa using hb
  subst e
  exact⟨h1,hL,h2,h3⟩
 ·obtain⟨o,es,ep,ho,r⟩:=hm
  exact⟨o,es,ep,k _ o (Ne.symm hL) ho,r⟩
 ·refine(I.hok b u e).stay (λc v hc q=>k c v ?_ q) (λ_ q=>q) λ_ _ q=>q
  rcases hc with z|z
  ·rw[z];exact nit b u e
  ·exact nit c _ z
theorem Inv.tok (I:Inv X pins σ H s) (t:Nat):Inv X pins σ H {s with toks:=t}:=I.un (h':=s.heap) (t':=t) Un.refl I.hok
theorem Inv.kept {t':Nat} (I:Inv X pins σ H s) (k:∀b u,s.heap.get? b=some u→h'.get? b=some u):Inv X pins σ H {s with heap:=h',toks:=t'}:=I.un (Un.kept k) (I.hok.kept k)
theorem Inv.laid {a:Addr} {o:HO} {t':Nat} (I:Inv X pins σ H s) (k:∀b u,s.heap.get? b=some u→h'.get? b=some u) (hp:s.heap.objs.size≤a) (new:ObjOk X.prog X.w (upd H a o) h' a o):
  Inv X pins σ (upd H a o) {s with heap:=h',toks:=t'}:=I.un (Un.laid k hp (I.hok.fresh hp)) (I.hok.laid k hp new)
theorem Inv.write {x e:Addr} {o:HO} {t':Nat} (I:Inv X pins σ H s) (mu:Mut (H x)) (he:e=x∨H e=some (.own x)) (k:∀b u,b≠e→s.heap.get? b=some u→h'.get? b=some u) (heo:∃u,h'.get? e=some u)
  (new:ObjOk X.prog X.w (upd H x o) h' x o):Inv X pins σ (upd H x o) {s with heap:=h',toks:=t'}:=I.un (Un.write mu he k heo) (I.hok.write mu he k heo new)
theorem Inv.pins_of {pins':List (Addr×Obj)} (I:Inv X pins σ H s) (h:∀p∈pins',s.heap.get? p.1=some p.2∧H p.1=none∧p.1≠X.env.locals∧p.1∉X.fs∧∀v,p.2.data≠ .cell v):Inv X pins' σ H s:=
 ⟨I.ok,I.os,I.bare,I.base,I.loc,I.cell,I.free,I.freeC,λp hp=>(Qb.mp hp).elim (λz=>I.pin p (QX _ z)) (h p),I.hok,I.len⟩
theorem nI {N:List Str} (hN:N.Nodup) {i j:Nat} {x:Str} (a:N[i]?=some x) (b:N[j]?=some x):i=j:=by
 obtain⟨h1,e1⟩:=Q3.mp a
 obtain⟨h2,e2⟩:=Q3.mp b
 exact(List.getElem_inj hN).mp (e1.trans e2.symm)
theorem pf {M:Model} {A:Around} {E:Value→Shared→Prop} {i:Nat} {x:Str} {v:V} {u:Value} {Q:Unit→Shared→Prop} (I:Inv X pins σ H s) (hN:X.N.Nodup) (hi:X.N[i]?=some x) (hx:Loc X.env.scope x) (r:RelV v u)
  (h:∀s',Inv X pins (σ.set i (some v)) H s'→(∃a,Heap.SameBut a s.heap s'.heap∧(a=X.env.locals∨X.env.cells.lookup x=some a))→Q () s') (hf:X.fn x=true∨X.env.scope.names.lookup x=some .local:=by first|exact .inl rfl|exact .inr rfl|assumption):wpAny M A (storeName X.env x u) Q E s:=by
 obtain⟨m,hn,hl⟩:=id I.loc
 have hcls:(X.env.scope.kind== .class||(X.env.scope.kind== .module&&X.env.locals !=X.env.globals))=false:=by rw[I.ok.kind];rfl
 have hiσ:i<σ.length:=by rw[I.len];exact(Q3.mp hi).1
 have cne:=I.cne
 have tracked:∀{a:Addr} {h':Heap},(∃o,s.heap.get? a=some o∧H a=none)→Heap.SameBut a s.heap h'→HOk X.prog X.w H h':=λ{a h'} ha hs b ob e=>by
  obtain⟨_,_,hfree⟩:=ha
  refine(I.hok b ob e).stay (λc w' hc q=>(hs.2 c ?_).trans q) (λ_ q=>q) λ_ _ q=>q
  rintro rfl
  rcases hc with rfl|hc
  ·rw[hfree]at e;cases e
  ·rw[hfree]at hc;cases hc
 rcases hx with hk|hk
 ·refine wpAny_storeName_local hk hn (λh' hn' hs=>?_) hcls
  obtain⟨oL,_,_,hoL,_⟩:=id hn
  refine h _ ⟨I.ok,I.os,I.bare,⟨λb o e n hb hx=>?_,λb o e n hb hx=>?_,I.base.free,λb o e hx=>?_,I.base.tups,I.base.frzs,I.base.tbls⟩,⟨_,hn',λj y v' e1 e2 e3=>?_⟩,λy c e=>?_,I.free,I.freeC,λp hp=>?_,tracked ⟨oL,hoL,I.free⟩ hs,by simpa using I.len⟩ ⟨_,hs,.inl rfl⟩
  ·exact(hs.2 b (Qq (Qp (Heap.lt_size e) I.ok.above))).trans (I.base.keep b o e n hb hx)
  ·obtain⟨sl,e1⟩:=I.base.slot b o e n hb hx
   exact⟨sl,(hs.2 b (Qq (Qp (Heap.lt_size e) I.ok.above))).trans e1⟩
  ·obtain⟨o',e1⟩:=I.base.there b o e hx
   exact⟨o',(hs.2 b (Qq (Qp (Heap.lt_size e) I.ok.above))).trans e1⟩
  ·by_cases hj:j=i
   ·subst hj
    rw[hi]at e1;cases e1
    rw[ZL hiσ]at e2
    cases e2
    exact⟨u,r,.inl ⟨hk,by simp⟩⟩
   ·rw[ZW (Ne.symm hj)]at e2
    obtain⟨u',r',q⟩:=hl j y v' e1 e2 e3
    refine⟨u',r',?_⟩
    rcases q with⟨k,e⟩|⟨k,c,e,z⟩
    ·refine .inl ⟨k,?_⟩
     have:y≠x:=λe=>hj (nI hN e1 (e▸hi))
     simp[this,e]
    ·exact .inr ⟨k,c,e,z.sameBut hs (cne y c e)⟩
  ·obtain⟨w',z⟩:=I.cell y c e
   exact⟨w',z.sameBut hs (cne y c e)⟩
  ·obtain⟨e,n,ne,nf,d⟩:=I.pin p hp
   exact⟨(hs.2 p.1 ne).trans e,n,ne,nf,d⟩
 ·have hfn:X.fn x=true:=by
   rcases hf with z|z
   ·exact z
   ·rw[z]at hk;cases hk
  obtain⟨c,hc⟩:=I.ok.has x (.inl hk)
  obtain⟨w',z⟩:=I.cell x c hc
  refine wpAny_storeName_cell I.ok.kind hk hc z (λh' hc' hs=>?_)
  obtain⟨oc,hoc,hocd⟩:=id z
  refine h {s with heap:=h'} ⟨I.ok,I.os,I.bare,⟨λb o e n hb hx=>?_,λb o e n hb hx=>?_,I.base.free,λb o e hx=>?_,I.base.tups,I.base.frzs,I.base.tbls⟩,⟨m,hn.sameBut hs (Ne.symm (cne x c hc)),λj y v' e1 e2 e3=>?_⟩,λy c' e=>?_,I.free,I.freeC,λp hp=>?_,tracked ⟨oc,hoc,I.freeC x c hc⟩ hs,by simpa using I.len⟩ ⟨c,hs,.inr hc⟩
  ·exact(hs.2 b (Qq (Qp (Heap.lt_size e) (I.ok.cab x c hfn hc)))).trans (I.base.keep b o e n hb hx)
  ·obtain⟨sl,e1⟩:=I.base.slot b o e n hb hx
   exact⟨sl,(hs.2 b (Qq (Qp (Heap.lt_size e) (I.ok.cab x c hfn hc)))).trans e1⟩
  ·obtain⟨o',e1⟩:=I.base.there b o e hx
   exact⟨o',(hs.2 b (Qq (Qp (Heap.lt_size e) (I.ok.cab x c hfn hc)))).trans e1⟩
  ·by_cases hj:j=i
   ·subst hj
    rw[hi]at e1;cases e1
    rw[ZL hiσ]at e2
    cases e2
    exact⟨u,r,.inr ⟨.inl hk,c,hc,hc'⟩⟩
   ·rw[ZW (Ne.symm hj)]at e2
    obtain⟨u',r',q⟩:=hl j y v' e1 e2 e3
    refine⟨u',r',?_⟩
    rcases q with q|⟨k,c',e,z'⟩
    ·exact .inl q
    ·refine .inr ⟨k,c',e,z'.sameBut hs ?_⟩
     rintro rfl
     exact hj (nI hN e1 (I.ok.inj _ _ _ e hc▸hi))
  ·by_cases hcc:c'=c
   ·subst hcc;exact⟨_,hc'⟩
   ·obtain⟨w2,z2⟩:=I.cell y c' e
    exact⟨w2,z2.sameBut hs hcc⟩
  ·obtain⟨e,n,ne,nf,d⟩:=I.pin p hp
   refine⟨(hs.2 p.1 ?_).trans e,n,ne,nf,d⟩
   intro q
   rw[q,hoc]at e
   have q':oc=p.2:=Option.some.inj e
   exact d w' (by rw[←q'];exact hocd)
theorem jI {M:Model} {A:Around} {E:Value→Shared→Prop} {i:Nat} {x:Str} {v:V} {u:Value} {Q:Unit→Shared→Prop} (I:Inv X pins σ H s) (hN:X.N.Nodup) (hi:X.N[i]?=some x) (hx:Loc X.env.scope x) (r:RelV v u)
  (h:∀s',Inv X pins (σ.set i (some v)) H s'→Q () s') (hf:X.fn x=true∨X.env.scope.names.lookup x=some .local:=by first|exact .inl rfl|exact .inr rfl|assumption):wpAny M A (storeName X.env x u) Q E s:=
 pf I hN hi hx r (λs' I' _=>h s' I') hf
theorem Inv.call' {s':Shared} {ch:List Addr} (I:Inv X pins σ H s) (ho:s'.os=s.os) (u:Un (frs X.stack) ch H H' s.heap s'.heap) (hok:HOk X.prog X.w H' s'.heap) (hg:AllBare s'.gens)
  (hch:∀b∈ch,(b∈X.ex∨X.s₀.heap.objs.size≤b)∧b≠X.env.locals∧(∀x c,X.env.cells.lookup x=some c→c≠b)∧∀p∈X.pn++pins,p.1≠b):Inv X pins σ H' s':=by
 obtain⟨h',g',d',t',o'⟩:=s'
 have e:o'=s.os:=ho
 subst e
 exact I.call (g':=g') (t':=t') (d':=d') u hok hg hch
end
abbrev XK:=Value→Option Addr→Hp→Prop
abbrev St:=List (Option V)
abbrev VK:=V→Hp→Prop
abbrev TE:=St→Hp→VK→Prop
abbrev TT:=St→Hp→(Bool→Hp→Prop)→Prop
abbrev TA:=St→Hp→(List V→Hp→Prop)→Prop
structure Ends where
 nx:St→Hp→Prop
 rt:VK
 bk:St→Hp→Prop:=λ_ _=>False
 ct:St→Hp→Prop:=λ_ _=>False
abbrev TS:=Ends→St→Hp→Prop
def EP (X:Cx) (pins:List (Addr×Obj)) (σ:St) (Q:VK) (u:Value) (s':Shared):Prop:=∃v H',Inv X pins σ H' s'∧RelV v u∧Q v H'
def TP (X:Cx) (pins:List (Addr×Obj)) (σ:St) (Q:Bool→Hp→Prop) (b:Bool) (s':Shared):Prop:=∃H',Inv X pins σ H' s'∧Q b H'
def AP (X:Cx) (pins:List (Addr×Obj)) (σ:St) (Q:List V→Hp→Prop) (us:List Value) (s':Shared):Prop:=∃vs H',Inv X pins σ H' s'∧Vals vs us∧Q vs H'
def SP (X:Cx) (pins:List (Addr×Obj)) (D:Ends) (f:Flow) (s':Shared):Prop:=
 match f with
 | .next=>∃σ' H',Inv X pins σ' H' s'∧D.nx σ' H'
 | .brk=>∃σ' H',Inv X pins σ' H' s'∧D.bk σ' H'
 | .cont=>∃σ' H',Inv X pins σ' H' s'∧D.ct σ' H'
 | .ret u=>∃v σ' H',Inv X pins σ' H' s'∧RelV v u∧D.rt v H'
def PE (X:Cx) (e:Expr) (t:TE):Prop:=
 ∀(pins:List (Addr×Obj)) (s:Shared) (σ:St) (H:Hp) (Q:VK),Inv X pins σ H s→t σ H Q→wpAny (model X.prog X.w) X.A (eval e X.env) (EP X pins σ Q) X.xe s
def PT (X:Cx) (e:Expr) (t:TT):Prop:=
 ∀(pins:List (Addr×Obj)) (s:Shared) (σ:St) (H:Hp) (Q:Bool→Hp→Prop),Inv X pins σ H s→t σ H Q→wpAny (model X.prog X.w) X.A (isTrue e X.env (eval e X.env)) (TP X pins σ Q) X.xe s
def PW (X:Cx) (e:Expr) (t:TT):Prop:=
 ∀(whole:Sem Value) (pins:List (Addr×Obj)) (s:Shared) (σ:St) (H:Hp) (Q:Bool→Hp→Prop),Inv X pins σ H s→t σ H Q→wpAny (model X.prog X.w) X.A (isTrue e X.env whole) (TP X pins σ Q) X.xe s
theorem PW.pt {X:Cx} {e:Expr} {t:TT} (h:PW X e t):PT X e t:=h _
def PA (X:Cx) (es:List Expr) (t:TA):Prop:=
 ∀(pos:Pos) (pins:List (Addr×Obj)) (s:Shared) (σ:St) (H:Hp) (Q:List V→Hp→Prop),Inv X pins σ H s→t σ H Q→wpAny (model X.prog X.w) X.A (spliced (backTo pos (starEach es X.env))) (AP X pins σ Q) X.xe s
def PS (X:Cx) (st:Stmt) (t:TS):Prop:=
 ∀(pins:List (Addr×Obj)) (s:Shared) (σ:St) (H:Hp) (D:Ends),Inv X pins σ H s→t D σ H→wpAny (model X.prog X.w) X.A (exec st X.env) (SP X pins D) X.xe s
def PSs (X:Cx) (st:List Stmt) (t:TS):Prop:=
 ∀(pins:List (Addr×Obj)) (s:Shared) (σ:St) (H:Hp) (D:Ends),Inv X pins σ H s→t D σ H→wpAny (model X.prog X.w) X.A (execs st X.env) (SP X pins D) X.xe s
theorem thn {α:Type} {t:Sem α} {Q Q':α→Shared→Prop} {M:Model} {A:Around} {E:Value→Shared→Prop} {s:Shared} (h:wpAny M A t Q E s) (hQ:∀a s,Q a s→Q' a s):wpAny M A t Q' E s:=wpAny_mono h hQ λ_ _ x=>x
end L2
namespace L2
open PySem PySem.Spec PyProof.Rows
section
variable {X:Cx}
def wF (i:Nat):TE:=λσ H Q=>∃v,σ[i]?=some (some v)∧Q v H
def tC (v:V):TE:=λ_ H Q=>Q v H
theorem AH {i:Nat} {x:Str} {pos:Pos} (hN:X.N[i]?=some x) (hv:Vis X.env.scope x) (hd:(x==("__debug__":Str))=false:=by decide) (hcd:(x==("__classdict__":Str))=false:=by decide):PE X (.Name x pos) (wF i):=by
 intro pins s σ H Q I h
 obtain⟨v,e,h⟩:=h
 obtain⟨m,hn,hl⟩:=I.loc
 obtain⟨u,r,l⟩:=hl i x v hN e hv
 have fin:EP X pins σ Q u s:=⟨v,H,I,r,h⟩
 rcases l with⟨hk,hm⟩|⟨hk,c,hc,hcell⟩
 ·exact wpAny_Name (wpAny_loadName_local I.ok.kind hk hn hm fin) hd
 ·rcases hk with hk|hk
  ·exact wpAny_Name (wpAny_loadName_cell I.ok.kind hk hc hcell fin) hd
  ·exact wpAny_Name (wpAny_loadName_free I.ok.kind hk hc hcell fin hcd) hd
theorem ak {i j pos}:PE X (.Constant (.int i) j pos) (tC (.int i)):=λ_ _ _ H _ I h=>wpAny_Constant_int ⟨.int i,H,I.tok _,⟨_,rfl⟩,h⟩
theorem wX {b j pos}:PE X (.Constant (.bool b) j pos) (tC (.bl b)):=λ_ _ _ H _ I h=>Constant_bool ⟨.bl b,H,I,rfl,h⟩
theorem fz {j pos}:PE X (.Constant .none j pos) (tC .non):=λ_ _ _ H _ I h=>Constant_none ⟨.non,H,I,rfl,h⟩
theorem dY {x j pos}:PE X (.Constant (.str x) j pos) (tC (.str x)):=λ_ _ _ H _ I h=>Calls.Constant_str ⟨.str x,H,I.tok _,⟨_,rfl⟩,h⟩
def Gl (X:Cx) (x:Str):Prop:=X.env.kindOf x=some .globalImplicit
theorem gB {E:Value→Shared→Prop} {pins:List (Addr×Obj)} {s:Shared} {σ:St} {H:Hp} {x:Str} {u:Value} {pos:Pos} {Q:Value→Shared→Prop} (I:Inv X pins σ H s) (hg:Gl X x) (hm:X.mg x=some u) (h:Q u s)
  (hd:(x==("__debug__":Str))=false:=by decide):wpAny (model X.prog X.w) X.A (eval (.Name x pos) X.env) Q E s:=
 Calls.Name_function_global I.ok.kind hg (Calls.loadGlobal_global (by rw[I.ok.glob];exact I.mod.glob.keeps I.bk) hm h) hd
theorem kT {E:Value→Shared→Prop} {pins:List (Addr×Obj)} {s:Shared} {σ:St} {H:Hp} {x:Str} {u:Value} {pos:Pos} {Q:Value→Shared→Prop} (I:Inv X pins σ H s) (hg:Gl X x) (hm:X.mg x=none) (hv:bootBuiltins x=some u) (h:Q u s)
  (hn:x≠"__name__":=by decide) (hd:(x==("__debug__":Str))=false:=by decide):wpAny (model X.prog X.w) X.A (eval (.Name x pos) X.env) Q E s:=by
 obtain⟨mb,h1,h2⟩:=I.mod.blt
 exact Calls.Name_function_global I.ok.kind hg (Calls.loadGlobal_builtin (by rw[I.ok.glob];exact I.mod.glob.keeps I.bk) hm (by rw[I.ok.blt];exact h1.keeps I.bk) ((h2 x hn).trans hv) h) hd
theorem cm {x:Str} {v:V} {u:Value} {pos:Pos} (hg:Gl X x) (hm:X.mg x=some u) (r:RelV v u) (hd:(x==("__debug__":Str))=false:=by decide):PE X (.Name x pos) (tC v):=
 λ_ _ _ H _ I h=>gB I hg hm ⟨v,H,I,r,h⟩ hd
theorem jW {x:Str} {v:V} {u:Value} {pos:Pos} (hg:Gl X x) (hm:X.mg x=none) (hv:bootBuiltins x=some u) (r:RelV v u) (hn:x≠"__name__":=by decide) (hd:(x==("__debug__":Str))=false:=by decide):PE X (.Name x pos) (tC v):=
 λ_ _ _ H _ I h=>kT I hg hm hv ⟨v,H,I,r,h⟩ hn hd
variable {a b:Expr} {ta tb:TE} {pos:Pos}
def PC (X:Cx) (op:CmpOp) (a b:Expr) (t:TE):Prop:=
 ∀(pins:List (Addr×Obj)) (s:Shared) (σ:St) (H:Hp) (Q:VK),Inv X pins σ H s→t σ H Q→
  wpAny (model X.prog X.w) X.A (eval a X.env) (λv s₁=>wpAny (model X.prog X.w) X.A (eval b X.env) (λu s₂=>wpAny (model X.prog X.w) X.A (compareOp op v u) (EP X pins σ Q) X.xe s₂) X.xe s₁) X.xe s
def tB (t:TE):TT:=λσ H Q=>t σ H λx H1=>∃c,x= .bl c∧Q c H1
theorem AI {op:CmpOp} {t:TE} (h:PC X op a b t) (h1:behindInMarks op b=false:=by first|exact nobehind _ (by decide) (by decide)|rfl):PE X (.Compare a [op] [b] pos) t:=λpins s σ H Q I hw=>wpAny_Compare1 (h pins s σ H Q I hw) h1
theorem qp {op:CmpOp} {t:TE} (h:PC X op a b t) (h1:behindInMarks op b=false:=by first|exact nobehind _ (by decide) (by decide)|rfl):PT X (.Compare a [op] [b] pos) (tB t):=by
 intro pins s σ H Q I hw
 refine wpAny_isTrue_Compare1 (thn (h pins s σ H _ I hw) λv s1 h1=>thn h1 λu s2 h2=>thn h2 λc s3 hzz=>?_) h1
 obtain⟨x,H1,I1,r1,q1⟩:=hzz
 obtain⟨d,rfl,q⟩:=q1
 cases r1
 exact wpAny_truthy_bool ⟨H1,I1,q⟩
theorem b4 {e:Expr} {t:TE} (h:PE X e t) (he:∀whole,isTrue e X.env whole=(do let v←whole;standAt e.pos;holding [v] (truthy v)):=by intro _;rfl):PT X e (tB t):=by
 intro pins s σ H Q I hw
 refine isTrue_plain (thn (h pins s σ H _ I hw) λv s1 hzz=>?_) (he _)
 obtain⟨x,H1,I1,r1,q1⟩:=hzz
 obtain⟨d,rfl,q⟩:=q1
 cases r1
 exact wpAny_truthy_bool ⟨H1,I1,q⟩
variable {tA tB':TT} {rest:List Expr}
def tAnd (t u:TT):TT:=λσ H Q=>t σ H λc H1=>if c=true then u σ H1 Q else Q false H1
def tOr (t u:TT):TT:=λσ H Q=>t σ H λc H1=>if c=true then Q true H1 else u σ H1 Q
def tNot (t:TT):TT:=λσ H Q=>t σ H λc H1=>Q (!c) H1
theorem dJ (ha:PT X a tA):PW X (.BoolOp .And [a] pos) tA:=by
 intro wh pins s σ H Q I h
 refine isTrue_and (thn (ha pins s σ H Q I h) λc s1 e=>?_)
 cases c with
 |true=>exact isTrue_and_nil e
 |false=>exact e
theorem sX (ha:PT X a tA):PW X (.BoolOp .Or [a] pos) tA:=by
 intro wh pins s σ H Q I h
 refine isTrue_or (thn (ha pins s σ H Q I h) λc s1 e=>?_)
 cases c with
 |false=>exact isTrue_or_nil e
 |true=>exact e
theorem dX (ha:PT X a tA) (hb:PW X (.BoolOp .And (b::rest) pos) tB'):PW X (.BoolOp .And (a::b::rest) pos) (tAnd tA tB'):=by
 intro wh pins s σ H Q I h
 refine isTrue_and (thn (ha pins s σ H _ I h) λc s1 ⟨H1,I1,q1⟩=>?_)
 cases c with
 |true=>exact hb wh pins s1 σ H1 Q I1 q1
 |false=>exact⟨H1,I1,q1⟩
theorem wN (ha:PT X a tA) (hb:PW X (.BoolOp .Or (b::rest) pos) tB'):PW X (.BoolOp .Or (a::b::rest) pos) (tOr tA tB'):=by
 intro wh pins s σ H Q I h
 refine isTrue_or (thn (ha pins s σ H _ I h) λc s1 ⟨H1,I1,q1⟩=>?_)
 cases c with
 |true=>exact⟨H1,I1,q1⟩
 |false=>exact hb wh pins s1 σ H1 Q I1 q1
theorem gx (ha:PT X a tA):PT X (.UnaryOp .Not a pos) (tNot tA):=by
 intro pins s σ H Q I h
 exact isTrue_not (ha pins s σ H (λc H1=>Q (!c) H1) I h)
def BC (ta tb:TE):TE:=λσ H Q=>ta σ H λx H1=>∃c,x= .bl c∧if c=true then tb σ H1 Q else Q (.bl false) H1
def tOrV (ta tb:TE):TE:=λσ H Q=>ta σ H λx H1=>∃c,x= .bl c∧if c=true then Q (.bl true) H1 else tb σ H1 Q
def Bv (ta:TE):TE:=λσ H Q=>ta σ H λx H1=>∃c,x= .bl c∧Q (.bl (!c)) H1
theorem kI {op} {t:TE} (h:PE X a t):PE X (.BoolOp op [a] pos) t:=λpins s σ H Q I hw=>BoolOp_one (h pins s σ H Q I hw)
theorem kJ (ha:PE X a ta) (hb:PE X (.BoolOp .And (b::rest) pos) tb):PE X (.BoolOp .And (a::b::rest) pos) (BC ta tb):=by
 intro pins s σ H Q I h
 refine BoolOp_and (thn (ha pins s σ H _ I h) λv s1 hzz=>?_)
 obtain⟨x,H1,I1,r1,q1⟩:=hzz
 obtain⟨c,rfl,q1⟩:=q1
 cases r1
 refine wpAny_truthy_bool ?_
 cases c with
 |true=>exact hb pins s1 σ H1 Q I1 q1
 |false=>exact⟨.bl false,H1,I1,rfl,q1⟩
theorem BO (ha:PE X a ta) (hb:PE X (.BoolOp .Or (b::rest) pos) tb):PE X (.BoolOp .Or (a::b::rest) pos) (tOrV ta tb):=by
 intro pins s σ H Q I h
 refine BoolOp_or (thn (ha pins s σ H _ I h) λv s1 hzz=>?_)
 obtain⟨x,H1,I1,r1,q1⟩:=hzz
 obtain⟨c,rfl,q1⟩:=q1
 cases r1
 refine wpAny_truthy_bool ?_
 cases c with
 |false=>exact hb pins s1 σ H1 Q I1 q1
 |true=>exact⟨.bl true,H1,I1,rfl,q1⟩
theorem wU (ha:PE X a ta):PE X (.UnaryOp .Not a pos) (Bv ta):=by
 intro pins s σ H Q I h
 refine UnaryOp_ (thn (ha pins s σ H _ I h) λv s1 hzz=>?_)
 obtain⟨x,H1,I1,r1,q1⟩:=hzz
 obtain⟨c,rfl,q1⟩:=q1
 cases r1
 exact not_of (wpAny_truthy_bool ⟨.bl (!c),H1,I1,rfl,q1⟩)
def tIf (t:TT) (ta tb:TE):TE:=λσ H Q=>t σ H λc H1=>if c=true then ta σ H1 Q else tb σ H1 Q
theorem wW {c:Expr} (hc:PT X c tA) (ha:PE X a ta) (hb:PE X b tb):PE X (.IfExp c a b pos) (tIf tA ta tb):=by
 intro pins s σ H Q I h
 refine wpAny_IfExp (thn (hc pins s σ H _ I h) λd s1 ⟨H1,I1,q1⟩=>?_)
 cases d with
 |true=>exact ha pins s1 σ H1 Q I1 q1
 |false=>exact hb pins s1 σ H1 Q I1 q1
end
end L2
namespace L2
open PySem PySem.Spec PyProof.Rows
def SqL (K:PySem.W.Frag) (H:Hp) (a:Addr) (xs:List V):Prop:=
 Rd H a (.lst xs)∨
  ∃(o:Obj) (its:Array Value) (n:Nat),K.lookup a=some o∧o.cls= .type "list"∧o.dict=none∧o.data= .seq its n∧its.size≤sizeLine∧Vals xs its.toList
def SqT (K:PySem.W.Frag) (H:Hp) (a:Addr) (xs:List V):Prop:=
 Rd H a (.tup xs)∨
  ∃(o:Obj) (its:Array Value) (n:Nat),K.lookup a=some o∧o.cls= .type "tuple"∧o.data= .seq its n∧its.size≤sizeLine∧Vals xs its.toList
def absV:Value→Option V
 | .none=>some .non
 | .bool b=>some (.bl b)
 | .int i _=>some (.int i)
 | .str x _=>some (.str x)
 | .bytes b _=>some (.byt b)
 | .float b _=>some (.flt b)
 | .ref a=>some (.ref a)
 | .type n=>some (.ty n)
 |_=>none
theorem RelV.abs {x:V} {u:Value} (r:RelV x u):absV u=some x:=by
 cases x with
 |non=>cases r;rfl
 |bl _=>cases r;rfl
 |int _=>obtain⟨t,rfl⟩:=r;rfl
 |str _=>obtain⟨t,rfl⟩:=r;rfl
 |byt _=>obtain⟨t,rfl⟩:=r;rfl
 |flt _=>obtain⟨t,rfl⟩:=r;rfl
 |ref _=>cases r;rfl
 |ty _=>cases r;rfl
theorem RelV.inj {x y:V} {u:Value} (r:RelV x u) (q:RelV y u):x=y:=Option.some.inj (r.abs.symm.trans q.abs)
theorem Vals.inj:∀{xs ys:List V} {us:List Value},Vals xs us→Vals ys us→xs=ys
 |_,_,_,.nil,.nil=>rfl
 |_,_,_,.cons r t,.cons r' t'=>by rw[r.inj r',Vals.inj t t']
section
variable {X:Cx} {pins:List (Addr×Obj)} {σ:St} {H:Hp} {s:Shared} {a:Addr} {xs ys:List V}
theorem SqL.of {K:PySem.W.Frag} (h:H a=some (.lst xs)):SqL K H a xs:= .inl (.inl h)
theorem SqT.of {K:PySem.W.Frag} (h:H a=some (.tup xs)):SqT K H a xs:= .inl (.inl h)
theorem Inv.list (I:Inv X pins σ H s) (h:SqL X.K H a xs):∃its:List Value,Vals xs its∧PlainL s.heap a its.toArray∧xs.length≤sizeLine:=by
 rcases h with h|⟨o,its,n,hk,hc,hd,hs,hz,r⟩
 ·obtain⟨z,its,n,r,e⟩:=h.ok I.hok
  exact⟨its,r,⟨_,n,e,rfl,rfl,rfl⟩,z⟩
 ·refine⟨its.toList,r,⟨o,n,I.kIn a o hk,hc,hd,by simpa using hs⟩,?_⟩
  have e:=r.length
  simp only[QR]at e
  omega
theorem Inv.tuple (I:Inv X pins σ H s) (h:SqT X.K H a xs):∃its:List Value,Vals xs its∧IsTup s.heap a its.toArray∧xs.length≤sizeLine:=by
 rcases h with h|⟨o,its,n,hk,hc,hs,hz,r⟩
 ·obtain⟨z,its,r,p⟩:=h.ok I.hok
  exact⟨its,r,p,z⟩
 ·refine⟨its.toList,r,⟨o,I.kIn a o hk,hc,n,by simpa using hs⟩,?_⟩
  have e:=r.length
  simp only[QR]at e
  omega
theorem Inv.list_inj (I:Inv X pins σ H s) (h:SqL X.K H a xs) (h':SqL X.K H a ys):xs=ys:=by
 obtain⟨its,r,⟨o,n,e,_,_,d⟩,_⟩:=I.list h
 obtain⟨its',r',⟨o',n',e',_,_,d'⟩,_⟩:=I.list h'
 rw[e]at e';cases e'
 rw[d]at d'
 injection d' with d1 _
 have:its=its':=by simpa using congrArg Array.toList d1
 subst this
 exact r.inj r'
end
abbrev Cx.wish (X:Cx) (E:Value→Shared→Prop):Cx:={X with xe:=E}
abbrev Cx.nox (X:Cx):Cx:=X.wish λ_ _=>False
theorem Cx.Ok.wish {X:Cx} (ok:X.Ok) (E:Value→Shared→Prop):(X.wish E).Ok:=
 ⟨ok.mod,ok.kind,ok.glob,ok.blt,ok.above,ok.inj,ok.has,ok.cab,ok.hd,ok.frames,ok.stk,ok.exf,ok.bs,ok.bsz,ok.noex,ok.exfs,ok.funs,ok.frf⟩
theorem Cx.Ok.unwish {X:Cx} {E:Value→Shared→Prop} (ok:(X.wish E).Ok):X.Ok:=
 ⟨ok.mod,ok.kind,ok.glob,ok.blt,ok.above,ok.inj,ok.has,ok.cab,ok.hd,ok.frames,ok.stk,ok.exf,ok.bs,ok.bsz,ok.noex,ok.exfs,ok.funs,ok.frf⟩
section
variable {X:Cx} {pins:List (Addr×Obj)} {σ:St} {H:Hp} {s:Shared} {E:Value→Shared→Prop}
theorem Inv.wish (I:Inv X pins σ H s) (E:Value→Shared→Prop):Inv (X.wish E) pins σ H s:=⟨I.ok.wish E,I.os,I.bare,I.base,I.loc,I.cell,I.free,I.freeC,I.pin,I.hok,I.len⟩
theorem Inv.unwish (I:Inv (X.wish E) pins σ H s):Inv X pins σ H s:=⟨I.ok.unwish,I.os,I.bare,I.base,I.loc,I.cell,I.free,I.freeC,I.pin,I.hok,I.len⟩
theorem SP.unwish {D:Ends} {f:Flow} {s':Shared} (h:SP (X.wish E) pins D f s'):SP X pins D f s':=by
 cases f with
 |next=>obtain⟨σ',H',I,q⟩:=h;exact⟨σ',H',I.unwish,q⟩
 |brk=>obtain⟨σ',H',I,q⟩:=h;exact⟨σ',H',I.unwish,q⟩
 |cont=>obtain⟨σ',H',I,q⟩:=h;exact⟨σ',H',I.unwish,q⟩
 |ret u=>obtain⟨v,σ',H',I,r,q⟩:=h;exact⟨v,σ',H',I.unwish,r,q⟩
theorem PSs.nox {st:List Stmt} {t:TS} (h:PSs X.nox st t):PSs X st t:=λpins s σ H D I hw=>
 wpAny_mono (h pins s σ H D (I.wish _) hw) (λ_ _ q=>q.unwish) λ_ _ z=>False.elim z
end
section
variable {X:Cx} {st:Stmt} {rest:List Stmt} {t u:TS} {e:Expr} {te:TE} {pos:Pos}
def zQ:TS:=λD σ H=>D.nx σ H
def yC (t u:TS):TS:=λD σ H=>t {D with nx:=u D} σ H
theorem aJ:PSs X [] zQ:=λ_ _ σ H _ I h=>wpAny_execs_nil ⟨σ,H,I,h⟩
theorem ae (h1:PS X st t) (h2:PSs X rest u):PSs X (st::rest) (yC t u):=by
 intro pins s σ H D I h
 refine wpAny_execs_cons (thn (h1 pins s σ H {D with nx:=u D} I h) λf s1 q=>?_)
 cases f with
 |next=>
  obtain⟨σ',H',I',q⟩:=q
  exact h2 pins s1 σ' H' D I' q
 |ret v=>exact q
 |brk=>exact q
 |cont=>exact q
theorem ah (h1:PS X st t):PSs X [st] t:=by
 intro pins s σ H D I h
 refine wpAny_execs_cons (thn (h1 pins s σ H D I h) λf s1 q=>?_)
 cases f with
 |next=>exact wpAny_execs_nil q
 |ret v=>exact q
 |brk=>exact q
 |cont=>exact q
theorem Inv.quiet {pins:List (Addr×Obj)} {σ:St} {H:Hp} {s:Shared} (I:Inv X pins σ H s):interactive X.env=false:=by simp[interactive,I.ok.kind]
def By (te:TE):TS:=λD σ H=>te σ H λ_ H1=>D.nx σ H1
theorem aE (he:PE X e te) (hs:swapsWith e none pos.line X.env=pure false:=by rfl):PS X (.Expr e pos) (By te):=by
 intro pins s σ H D I h
 exact wpAny_Expr_any (thn (he pins s σ H _ I h) λv s1 ⟨x,H1,I1,r1,q1⟩=>⟨σ,H1,I1,q1⟩) I.quiet hs
def tRet (te:TE):TS:=λD σ H=>te σ H D.rt
theorem aL (he:PE X e te):PS X (.Return (some e) pos) (tRet te):=by
 intro pins s σ H D I h
 exact wpAny_Return_some (thn (he pins s σ H _ I h) λv s1 ⟨x,H1,I1,r1,q1⟩=>⟨x,σ,H1,I1,r1,q1⟩)
def Bt:TS:=λD _ H=>D.rt .non H
theorem jT:PS X (.Return none pos) Bt:=λ_ _ σ H _ I h=>wpAny_Return_none ⟨.non,σ,H,I,rfl,h⟩
def Au (c:TT) (t u:TS):TS:=λD σ H=>c σ H λb H1=>if b=true then t D σ H1 else u D σ H1
theorem aZ {c:Expr} {a b:List Stmt} {tc:TT} (hc:PT X c tc) (ha:PSs X a t) (hb:PSs X b u):PS X (.If c a b pos) (Au tc t u):=by
 intro pins s σ H D I h
 refine wpAny_If (thn (hc pins s σ H _ I h) λd s1 ⟨H1,I1,q1⟩=>?_)
 cases d with
 |true=>exact ha pins s1 σ H1 D I1 q1
 |false=>exact hb pins s1 σ H1 D I1 q1
end
abbrev TG:=V→St→Hp→(St→Hp→Prop)→Prop
abbrev TGs:=List V→St→Hp→(St→Hp→Prop)→Prop
def PG (X:Cx) (target:Expr) (t:TG):Prop:=
 ∀(pins:List (Addr×Obj)) (s:Shared) (σ:St) (H:Hp) (v:V) (u:Value) (Q:St→Hp→Prop),Inv X pins σ H s→RelV v u→t v σ H Q→
  wpAny (model X.prog X.w) X.A (assign target X.env u) (λ_ s'=>∃σ' H',Inv X pins σ' H' s'∧Q σ' H') X.xe s
def PGs (X:Cx) (ts:List Expr) (t:TGs):Prop:=
 ∀(pins:List (Addr×Obj)) (s:Shared) (σ:St) (H:Hp) (vs:List V) (us:List Value) (Q:St→Hp→Prop),Inv X pins σ H s→Vals vs us→t vs σ H Q→
  wpAny (model X.prog X.w) X.A (assignInOrder ((assignEach ts X.env).map (·.2)) us) (λ_ s'=>∃σ' H',Inv X pins σ' H' s'∧Q σ' H') X.xe s
abbrev Bj:=V→V→V→Hp→(Hp→Prop)→Prop
def PSet (X:Cx) (t:Bj):Prop:=
 ∀(pins:List (Addr×Obj)) (s:Shared) (σ:St) (H:Hp) (o i v:V) (ov iv u:Value) (Q:Hp→Prop),Inv X pins σ H s→RelV o ov→RelV i iv→RelV v u→t o i v H Q→
  wpAny (model X.prog X.w) X.A (setItem ov iv u) (λ_ s'=>∃H',Inv X pins σ H' s'∧Q H') X.xe s
abbrev TIp:=V→V→Hp→VK→Prop
def PIp (X:Cx) (op:Operator) (t:TIp):Prop:=
 ∀(pins:List (Addr×Obj)) (s:Shared) (σ:St) (H:Hp) (x y:V) (v u:Value) (Q:VK),Inv X pins σ H s→RelV x v→RelV y u→t x y H Q→
  wpAny (model X.prog X.w) X.A (inplaceOp op v u) (EP X pins σ Q) X.xe s
section
variable {X:Cx} {pos:Pos}
def j9 (i:Nat):TG:=λv σ H Q=>Q (σ.set i (some v)) H
theorem dh {i:Nat} {x:Str} (hN:X.N.Nodup) (hi:X.N[i]?=some x) (hx:Loc X.env.scope x) (hf:X.fn x=true∨X.env.scope.names.lookup x=some .local:=by first|exact .inl rfl|exact .inr rfl|assumption):PG X (.Name x pos) (j9 i):=by
 intro pins s σ H v u Q I r h
 exact wpAny_assign_Name (jI I hN hi hx r (λs' I'=>⟨_,H,I',h⟩) hf)
def gNil:TGs:=λvs σ H Q=>vs=[]∧Q σ H
def Cd (t:TG) (u:TGs):TGs:=λvs σ H Q=>∃v r,vs=v::r∧t v σ H λσ' H'=>u r σ' H' Q
theorem y4:PGs X [] gNil:=by
 intro pins s σ H vs us Q I r h
 obtain⟨e,h⟩:=h
 subst e
 cases r
 exact assignInOrder_nil ⟨σ,H,I,h⟩
theorem rF {e:Expr} {es:List Expr} {t:TG} {u:TGs} (h1:PG X e t) (h2:PGs X es u)
  (hs:(assignEach (e::es) X.env).map (·.2)=assign e X.env::(assignEach es X.env).map (·.2):=by rfl):PGs X (e::es) (Cd t u):=by
 intro pins s σ H vs us Q I r h
 obtain⟨v,vr,e1,h⟩:=h
 subst e1
 cases r with
 |cons r rr=>
  rw[hs]
  refine assignInOrder_cons (thn (h1 pins s σ H _ _ _ I r h) λ_ s1 hzz=>?_)
  obtain⟨σ1,H1,I1,q1⟩:=hzz
  exact h2 pins s1 σ1 H1 _ _ Q I1 rr q1
def gTup (K:PySem.W.Frag) (n:Nat) (t:TGs):TG:=λv σ H Q=>∃a xs,v= .ref a∧SqT K H a xs∧xs.length=n∧t xs σ H Q
theorem AG {es:List Expr} {k:Nat} {t:TGs} {n:Nat} (hc:X.calm=true) (h:PGs X es t)
  (hn:(assignEach es X.env).length=n:=by rfl) (hst:(assignEach es X.env).findIdx? (·.1)=none:=by rfl):PG X (.Tuple es k pos) (gTup X.K n t):=by
 intro pins s σ H v u Q I r hw
 obtain⟨a,xs,e1,hq,hl,hw⟩:=hw
 subst e1
 cases r
 obtain⟨its,rv,ht,hz⟩:=I.tuple hq
 refine assign_Tuple_tuple (I.ok.hd hc) ht (by simp[hn,←hl,rv.length]) hst λh' hx=>?_
 have I1:Inv X pins σ H {s with heap:=h'}:=I.kept (t':=s.toks) λb o e=>hx b o (Qq (Heap.lt_size e)) e
 exact h pins _ σ H xs _ Q I1 (by simpa using rv) hw
def gSub (to ti:TE) (t:Bj):TG:=λv σ H Q=>to σ H λo H1=>ti σ H1 λi H2=>t o i v H2 λH3=>Q σ H3
theorem sZ {o i:Expr} {to ti:TE} {t:Bj} (ho:PE X o to) (hi:PE X i ti) (hs:PSet X t)
  (ha:∀v,assign (.Subscript o i pos) X.env v=(do
   let ov←holding [v] (eval o X.env)
   let iv←holding [v,ov] (eval i X.env)
   standAt pos
   holding [v,ov,iv] (setItem ov iv v)
   release [v,ov,iv] []):=by intro _;rfl):PG X (.Subscript o i pos) (gSub to ti t):=by
 intro pins s σ H v u Q I r h
 rw[ha]
 refine wpAny_bind (wpAny_holding (thn (ho pins s σ H _ I h) λov s1 hzz=>?_))
 obtain⟨x,H1,I1,r1,q1⟩:=hzz
 refine wpAny_bind (wpAny_holding (thn (hi pins s1 σ H1 _ I1 q1) λiv s2 hzz=>?_))
 obtain⟨y,H2,I2,r2,q2⟩:=hzz
 refine wpAny_bind (wpAny_standAt (wpAny_bind (wpAny_holding (thn (hs pins s2 σ H2 x y v ov iv u _ I2 r1 r2 r q2) λ_ s3 hzz=>?_))))
 obtain⟨H3,I3,q3⟩:=hzz
 exact wpAny_release ⟨σ,H3,I3,q3⟩
def yG (te:TE) (g:TG):TS:=λD σ H=>te σ H λx H1=>g x σ H1 D.nx
theorem sY {tg e:Expr} {te:TE} {g:TG} (he:PE X e te) (hg:PG X tg g) (hs:swapsWithSole [tg] e pos.line X.env=pure false:=by rfl) (hw:swappedStores [tg] e X.env=pure none:=by rfl)
  (h1:(assignEach [tg] X.env).map (·.2)=[assign tg X.env]:=by rfl):PS X (.Assign [tg] e pos) (yG te g):=by
 intro pins s σ H D I h
 refine wpAny_Assign_stores (thn (he pins s σ H _ I h) λv s1 hzz=>?_) hs hw
 obtain⟨x,H1,I1,r1,q1⟩:=hzz
 rw[h1]
 exact thn (hg pins s1 σ H1 x v _ I1 r1 q1) λ_ s2 q=>q
theorem aM {i:Nat} {x:Str} {e:Expr} {te:TE} {pos':Pos} (hN:X.N.Nodup) (hi:X.N[i]?=some x) (hx:Loc X.env.scope x) (he:PE X e te) (hs:swapsWith e (some (.Name x pos')) pos.line X.env=pure false:=by rfl) (hf:X.fn x=true∨X.env.scope.names.lookup x=some .local:=by first|exact .inl rfl|exact .inr rfl|assumption):
  PS X (.Assign [.Name x pos'] e pos) (yG te (j9 i)):=by
 intro pins s σ H D I h
 refine wpAny_Assign_Name (thn (he pins s σ H _ I h) λv s1 hzz=>?_) hs
 obtain⟨y,H1,I1,r1,q1⟩:=hzz
 exact jI I1 hN hi hx r1 (λs2 I2=>⟨_,H1,I2,q1⟩) hf
def tAug (i:Nat) (te:TE) (ti:TIp):TS:=λD σ H=>∃x,σ[i]?=some (some x)∧te σ H λy H1=>ti x y H1 λz H2=>D.nx (σ.set i (some z)) H2
theorem wS {i:Nat} {x:Str} {e:Expr} {te:TE} {op:Operator} {ti:TIp} {pos':Pos} (hN:X.N.Nodup) (hi:X.N[i]?=some x) (hx:Loc X.env.scope x) (he:PE X e te) (ho:PIp X op ti) (hf:X.fn x=true∨X.env.scope.names.lookup x=some .local:=by first|exact .inl rfl|exact .inr rfl|assumption):
  PS X (.AugAssign (.Name x pos') op e pos) (tAug i te ti):=by
 intro pins s σ H D I h
 obtain⟨v,e1,h⟩:=h
 obtain⟨m,hn,hl⟩:=I.loc
 have vis:Vis X.env.scope x:=by rcases hx with k|k;exact .inl k;exact .inr (.inl k)
 obtain⟨u,r,l⟩:=hl i x v hi e1 vis
 refine wpAny_AugAssign_Name ?_
 have go:wpAny (model X.prog X.w) X.A (eval e X.env) (λw s₂=>wpAny (model X.prog X.w) X.A (inplaceOp op u w) (λr s₃=>wpAny (model X.prog X.w) X.A (storeName X.env x r) (λ_=>SP X pins D .next) X.xe s₃) X.xe s₂) X.xe s:=by
  refine thn (he pins s σ H _ I h) λw s1 hzz=>?_
  obtain⟨y,H1,I1,r1,q1⟩:=hzz
  refine thn (ho pins s1 σ H1 v y u w _ I1 r r1 q1) λz s2 hzz=>?_
  obtain⟨zv,H2,I2,r2,q2⟩:=hzz
  exact jI I2 hN hi hx r2 (λs3 I3=>⟨_,H2,I3,q2⟩) hf
 rcases l with⟨hk,hm⟩|⟨hk,c,hc,hcell⟩
 ·exact wpAny_loadName_local I.ok.kind hk hn hm go
 ·rcases hk with hk|hk
  ·exact wpAny_loadName_cell I.ok.kind hk hc hcell go
  ·rcases hx with k|k
   ·have:X.env.scope.names.lookup x=some .free:=hk
    rw[k]at this;cases this
   ·have:X.env.scope.names.lookup x=some .free:=hk
    rw[k]at this;cases this
def ipI (f:Int→Int→Int):TIp:=λx y H Q=>∃i j,x= .int i∧y= .int j∧Q (.int (f i j)) H
theorem xp:PIp X .Add (ipI λi j=>i+j):=by
 intro pins s σ H x y v u Q I r1 r2 h
 obtain⟨i,j,e1,e2,q⟩:=h
 subst e1;subst e2
 obtain⟨t,rfl⟩:=r1
 obtain⟨t',rfl⟩:=r2
 exact iadd_int ⟨.int _,H,I.tok _,⟨_,rfl⟩,q⟩
end
section
variable {X:Cx} {pos:Pos}
def As (c:TT) (tb:TS):TS:=λD σ H=>∃W:Nat→St→Hp→Prop,(∃m,W m σ H)∧∀m σ H,W m σ H→
 c σ H λb H1=>if b=true then ∃N:St→Hp→Prop,(∀σ' H',N σ' H'→∃m',m'<m∧W m' σ' H')∧tb {D with nx:=N,ct:=N,bk:=D.nx} σ H1 else D.nx σ H1
theorem rE {c:Expr} {body:List Stmt} {tc:TT} {tb:TS} (hp:PassesOwn (model X.prog X.w) X.A X.env X.xe) (hc:PT X c tc) (hb:PSs X body tb):PS X (.While c body [] pos) (As tc tb):=by
 intro pins s σ H D I h
 obtain⟨W,⟨m0,w0⟩,turn⟩:=h
 refine wpAny_While (codeAny_whileLoop (λn s'=>∃σ' H',Inv X pins σ' H' s'∧W n σ' H') ?_ m0 ⟨σ,H,I,w0⟩)
 rintro n s1 ⟨σ1,H1,I1,w1⟩
 refine wpAny_passesOwn hp (thn (hc pins s1 σ1 H1 _ I1 (turn n σ1 H1 w1)) λb s2 ⟨H2,I2,q2⟩=>?_)
 cases b with
 |true=>
  obtain⟨N,hN,q2⟩:=q2
  rw[if_pos rfl]
  refine wpAny_passesOwn hp (thn (hb pins s2 σ1 H2 _ I2 q2) λf s3 q3=>?_)
  cases f with
  |next=>
   obtain⟨σ3,H3,I3,n3⟩:=q3
   obtain⟨m',hm,w3⟩:=hN σ3 H3 n3
   exact⟨m',hm,σ3,H3,I3,w3⟩
  |cont=>
   obtain⟨σ3,H3,I3,n3⟩:=q3
   obtain⟨m',hm,w3⟩:=hN σ3 H3 n3
   exact⟨m',hm,σ3,H3,I3,w3⟩
  |brk=>exact q3
  |ret v=>exact q3
 |false=>
  rw[if_neg Q7]
  exact wpAny_execs_nil ⟨σ1,H2,I2,q2⟩
end
structure It where
 go:Nat→Hp→Prop
 yld:Nat→Hp→V→Hp→Prop
 stop:Nat→Hp→Prop
def iD (X:Cx) (pins:List (Addr×Obj)) (H:Hp) (b:Addr):Prop:=
 H b=none∧b≠X.env.locals∧b∉X.fs∧(b∈X.ex∨X.s₀.heap.objs.size≤b)∧(∀x c,X.env.cells.lookup x=some c→c≠b)∧∀p∈X.pn++pins,p.1≠b
theorem Inv.fpOk {X:Cx} {pins:List (Addr×Obj)} {σ:St} {H H':Hp} {s:Shared} {b:Addr} (I:Inv X pins σ H s) (hb:s.heap.objs.size≤b) (hn:H' b=none):iD X pins H' b:=by
 refine⟨hn,Nat.ne_of_gt (Qp I.lt hb),I.nofs hb,.inr (Qv I.sz hb),λx c e z=>?_,λp hp z=>?_⟩
 ·obtain⟨v,q⟩:=I.cell x c e
  exact absurd (Qp q.lt (by rw[z];exact hb)) (Zc _)
 ·exact absurd (Qp (Heap.lt_size (I.pin p hp).1) (by rw[z];exact hb)) (Zc _)
structure tS (P:Program) (w:World) (K:PySem.W.Frag) (tg:Expr) (J:It) (fp:List Addr) (it:Addr) (tn:Nat→Heap→Prop):Prop where
 mem:it∈fp
 obj:∀i h,tn i h→∀b∈fp,∃o,h.get? b=some o∧∀v,o.data≠ .cell v
 keep:∀i h h',tn i h→(∀b∈fp,∀o,h.get? b=some o→h'.get? b=some o)→tn i h'
 item:∀(X:Cx),X.prog=P→X.w=w→X.K=K→X.calm=true→∀(i:Nat) (pins:List (Addr×Obj)) (s:Shared) (σ:St) (H:Hp) (E:Value→Shared→Prop),Inv X pins σ H s→(∀b∈fp,iD X pins H b)→tn i s.heap→J.go i H→
  wpAny (model P w) X.A (pyNext (.ref it)) (λr s1=>∃u,r=some u∧
   wpAny (model P w) X.A (letOwnedTupleGo tg (.ref it) u) (λ_ s2=>∃x H',Inv X pins σ H' s2∧RelV x u∧J.yld i H x H'∧tn (i+1) s2.heap∧∀b∈fp,H' b=none) E s1) E s
 done:∀(X:Cx),X.prog=P→X.w=w→X.K=K→X.calm=true→∀(i:Nat) (pins:List (Addr×Obj)) (s:Shared) (σ:St) (H:Hp) (E:Value→Shared→Prop),Inv X pins σ H s→(∀b∈fp,iD X pins H b)→tn i s.heap→J.stop i H→
  wpAny (model P w) X.A (pyNext (.ref it)) (λr s1=>r=none∧Inv X pins σ H s1) E s
 self:∀(A:Around) (i:Nat) (s:Shared) (Q:Value→Shared→Prop) (E:Value→Shared→Prop),tn i s.heap→Q (.ref it) s→wpAny (model P w) A (pyIter (.ref it)) Q E s
abbrev TI:=St→Hp→(It→Hp→Prop)→Prop
def PIE (X:Cx) (pins:List (Addr×Obj)) (σ:St) (tg:Expr) (R:It→Hp→Prop) (itv:Value) (s2:Shared):Prop:=
 ∃(it:Addr) (fp:List Addr) (tn:Nat→Heap→Prop) (J:It) (H':Hp),itv= .ref it∧Inv X pins σ H' s2∧tS X.prog X.w X.K tg J fp it tn∧tn 0 s2.heap∧(∀b∈fp,iD X pins H' b)∧R J H'
def PI (X:Cx) (tg iter:Expr) (wi:TI):Prop:=
 ∀(pins:List (Addr×Obj)) (s:Shared) (σ:St) (H:Hp) (R:It→Hp→Prop),Inv X pins σ H s→wi σ H R→
  wpAny (model X.prog X.w) X.A (eval iter X.env) (λv s1=>wpAny (model X.prog X.w) X.A (pyIter v) (PIE X pins σ tg R) X.xe s1) X.xe s
theorem se {M:Model} {A:Around} {E:Value→Shared→Prop} {s:Shared} {tg:Expr} {it:Addr} {u:Value} {o:Obj} {n:String} {vs:Array Value} {Q:Unit→Shared→Prop} (ho:s.heap.get? it=some o) (hc:o.cls= .type n) (hd:o.data= .fields vs)
  (hn:["enumerate","zip","dict_itemiterator","dict_reverseitemiterator","odict_iterator","itertools.zip_longest","itertools.pairwise"].contains n=false) (hQ:Q () s):wpAny M A (letOwnedTupleGo tg (.ref it) u) Q E s:=by
 unfold letOwnedTupleGo
 cases tg<;>first
  |exact wpAny_pure hQ
  |(cases u<;>first
    |exact wpAny_pure hQ
    |(refine wpAny_bind (wpAny_load ho ?_)
      rw[hc,hd]
      show wpAny M A (if(["enumerate","zip","dict_itemiterator","dict_reverseitemiterator","odict_iterator","itertools.zip_longest","itertools.pairwise"].contains n&&vs[0]?==some (rawInt _))=true then _ else _) Q E s
      rw[if_neg (by intro h;rw[hn,Bool.false_and]at h;cases h)]
      exact wpAny_pure hQ))
def Itl (K:PySem.W.Frag) (a:Addr):It:=
 ⟨λi H=>∃xs x,SqL K H a xs∧xs[i]?=some x,λi H x H'=>H'=H∧∀xs,SqL K H a xs→xs[i]?=some x,λi H=>∃xs,SqL K H a xs∧xs.length≤i⟩
def Itr (lo:Int) (n:Nat):It:=⟨λi _=>i<n,λi H x H'=>H'=H∧x= .int (lo+i),λi _=>n≤i⟩
theorem u7 {P:Program} {w:World} {K:PySem.W.Frag} {tg:Expr} (a it:Addr):tS P w K tg (Itl K a) [it] it (λi h=>h.IsListIter it a i) where
 mem:=by simp
 obj:=λi h st b hb=>by
  have e:b=it:=by simpa using hb
  subst e
  obtain⟨o,e,c,d⟩:=st
  exact⟨o,e,λv z=>by rw[d]at z;cases z⟩
 keep:=λi h h' st k=>st.at λo e=>k it (by simp) o e
 item:=by
  intro X hP hw hK hc i pins s σ H E I hf st hg
  subst hP hw hK
  obtain⟨xs,x,hq,hx⟩:=hg
  obtain⟨its,rv,p,hz⟩:=I.list hq
  obtain⟨u,hu,ru⟩:=rv.get hx
  obtain⟨f0,f1,f2,f3,f4,f5⟩:=hf it (by simp)
  refine wpAny_pyNext_list_item st p.isList (x:=u) (by simpa using hu) λh' st' sb=>?_
  have I1:Inv X pins σ H {s with heap:=h'}:=I.turned (t':=s.toks) (λb o hb e=>(sb.2 b hb).trans e) f0 f1 f3 f4 f5
  obtain⟨o,e,c,d⟩:=id st'
  exact⟨u,rfl,se (s:={s with heap:=h'}) e c d (by decide) ⟨x,H,I1,ru,⟨rfl,λys hy=>by rw[I.list_inj hy hq];exact hx⟩,st',λb hb=>(hf b hb).1⟩⟩
 done:=by
  intro X hP hw hK hc i pins s σ H E I hf st hg
  subst hP hw hK
  obtain⟨xs,hq,hx⟩:=hg
  obtain⟨its,rv,p,hz⟩:=I.list hq
  obtain⟨f0,f1,f2,f3,f4,f5⟩:=hf it (by simp)
  have hl:=rv.length
  exact wpAny_pyNext_list_end (I.ok.hd hc) st p.isList (by simp;omega) λh' eb=>⟨rfl,I.turned (t':=s.toks) (λb o hb e=>eb b o hb e) f0 f1 f3 f4 f5⟩
 self:=λ_ _ _ _ _ st h=>wpAny_pyIter_listiter st h
theorem sN {P:Program} {w:World} {K:PySem.W.Frag} {tg:Expr} (it:Addr) (lo:Int) (n:Nat):tS P w K tg (Itr lo n) [it] it (λi h=>IsRangeIter h it (lo+(i:Nat)*1) ((n:Int)-(i:Nat)) 1) where
 mem:=by simp
 obj:=λi h st b hb=>by
  have e:b=it:=by simpa using hb
  subst e
  exact⟨_,st,λv z=>by
   have z':Data.fields _=Data.cell v:=z
   cases z'⟩
 keep:=λi h h' st k=>k it (by simp) _ st
 item:=by
  intro X hP hw hK hc i pins s σ H E I hf st hg
  subst hP hw hK
  obtain⟨f0,f1,f2,f3,f4,f5⟩:=hf it (by simp)
  have W:=Walks.range (prog:=X.prog) (w:=X.w) (I.ok.hd hc) it lo 1 n
  refine W.item i s _ _ hg st λv h' tk hv st' kk=>?_
  obtain⟨t,rfl⟩:=hv
  have I1:Inv X pins σ H {s with heap:=h',toks:=tk}:=I.turned (λb o hb e=>kk b o (by simpa using hb) e) f0 f1 f3 f4 f5
  refine⟨_,rfl,se (s:={s with heap:=h',toks:=tk}) (n:="range_iterator") st' rfl rfl (by decide) ⟨.int (lo+i),H,I1,⟨t,?_⟩,⟨rfl,rfl⟩,st',λb hb=>(hf b hb).1⟩⟩
  rw[Int.mul_one]
 done:=by
  intro X hP hw hK hc i pins s σ H E I hf st hg
  subst hP hw hK
  obtain⟨f0,f1,f2,f3,f4,f5⟩:=hf it (by simp)
  exact wpAny_pyNext_range_end (I.ok.hd hc) st (by have:n≤i:=hg;omega) λh' eb=>⟨rfl,I.turned (t':=s.toks) (λb o hb e=>eb b o hb e) f0 f1 f3 f4 f5⟩
 self:=λ_ _ _ _ _ st h=>wpAny_pyIter_rangeiter st h
end L2
namespace L2
open PySem PySem.Spec PyProof.Rows
section
variable {X:Cx} {tg:Expr}
def B8 (K:PySem.W.Frag) (tl:TE):TI:=λσ H R=>tl σ H λx H1=>∃a,x= .ref a∧(∃xs,SqL K H1 a xs)∧R (Itl K a) H1
theorem eO {l:Expr} {tl:TE} (hl:PE X l tl):PI X tg l (B8 X.K tl):=by
 intro pins s σ H R I h
 refine thn (hl pins s σ H _ I h) λv s1 hzz=>?_
 obtain⟨x,H1,I1,r1,q1⟩:=hzz
 obtain⟨a,e,⟨xs,hq⟩,q⟩:=q1
 subst e
 cases r1
 obtain⟨its,rv,p,hz⟩:=I1.list hq
 refine wpAny_pyIter_list p.isList ?_
 refine⟨s1.heap.objs.size,[s1.heap.objs.size],_,_,H1,rfl,I1.kept (t':=s1.toks) λb o e=>Heap.get?_push_of_some _ e,u7 a _,⟨_,Heap.get?_push_size _ rfl,rfl,rfl⟩,λb hb=>?_,q⟩
 have e:b=s1.heap.objs.size:=by simpa using hb
 subst e
 exact I1.fpOk (Q5 _) (I1.hok.fresh (Q5 _))
theorem wM {pins:List (Addr×Obj)} {σ:St} {H:Hp} {s:Shared} {R:It→Hp→Prop} {E:Value→Shared→Prop} {lo hi:Int} {t u v:Tok} {tk:Nat} (I:Inv X pins σ H s) (h1: -(2^62)≤lo) (h2:lo<2^62) (h3: -(2^62)≤hi) (h4:hi<2^62)
  (q:R (Itr lo (hi-lo).toNat) H):wpAny (model X.prog X.w) X.A (pyIter (.ref s.heap.objs.size)) (PIE X pins σ tg R) E {s with heap:=s.heap.push {cls:= .type "range",data:= .fields #[.int lo t,.int hi u,.int 1 v]},toks:=tk}:=by
 refine wpAny_pyIter_range (IsRange.new ..) (small_one h1 h2 h3 h4) ?_
 have I1:Inv X pins σ H {s with heap:=s.heap.push {cls:= .type "range",data:= .fields #[.int lo t,.int hi u,.int 1 v]},toks:=tk}:=I.kept λb o e=>Heap.get?_push_of_some _ e
 refine⟨(s.heap.push {cls:= .type "range",data:= .fields #[.int lo t,.int hi u,.int 1 v]}).objs.size,[(s.heap.push {cls:= .type "range",data:= .fields #[.int lo t,.int hi u,.int 1 v]}).objs.size],_,_,H,rfl,
  I1.kept (t':=tk) λb o e=>Heap.get?_push_of_some _ e,sN _ lo (hi-lo).toNat,?_,λb hb=>?_,q⟩
 ·have e1:lo+((0:Nat):Int)*1=lo:=by simp
  have e2:(((hi-lo).toNat:Nat):Int)-((0:Nat):Int)=Builtin.Range.rangeSize lo hi 1:=by rw[rangeSize_one];split<;>omega
  show IsRangeIter _ _ (lo+((0:Nat):Int)*1) ((((hi-lo).toNat:Nat):Int)-((0:Nat):Int)) 1
  rw[e1,e2]
  exact Heap.get?_push_size _ rfl
 ·have e:b=(s.heap.push {cls:= .type "range",data:= .fields #[.int lo t,.int hi u,.int 1 v]}).objs.size:=by simpa using hb
  subst e
  exact I1.fpOk (Q5 _) (I1.hok.fresh (Q5 _))
def B7 (ta:TA):TI:=λσ H R=>ta σ H λvs H1=>∃j:Int,vs=[.int j]∧-(2^62)≤j∧j<2^62∧R (Itr 0 j.toNat) H1
theorem pz {a:Expr} {ta:TA} {p pos:Pos} (hg:Gl X "range") (hm:X.mg "range"=none) (ha:PA X [a] ta) (hs:starEach [a] X.env=[(false,eval a X.env)]:=by rfl):PI X tg (.Call (.Name "range" p) [a] [] pos) (B7 ta):=by
 intro pins s σ H R I h
 refine Call_ (kT I hg hm boot_range (PyProof.Rows.callWith_type1 (thn (ha pos pins s σ H _ I h) λus s1 hzz=>?_) hs rfl))
 obtain⟨vs,H1,I1,r1,q1⟩:=hzz
 obtain⟨j,e,q1,q2,q⟩:=q1
 subst e
 cases r1 with
 |cons r rr=>
  cases rr
  obtain⟨t,rfl⟩:=r
  exact call_range_1 (wM I1 (by omega) (by omega) q1 q2 (by simpa using q))
def tFor (wi:TI) (g:TG) (tb:TS):TS:=λD σ H=>wi σ H λJ H1=>∃W:Nat→Nat→St→Hp→Prop,(∃m,W 0 m σ H1)∧∀i m σ H,W i m σ H→
 (J.stop i H∧D.nx σ H)∨(J.go i H∧∃N:St→Hp→Prop,(∀σ' H',N σ' H'→∃m',m'<m∧W (i+1) m' σ' H')∧∀x H',J.yld i H x H'→g x σ H' λσ2 H2=>tb {D with nx:=N,ct:=N,bk:=D.nx} σ2 H2)
def mZ (fp:List Addr) (h:Heap):List (Addr×Obj):=fp.filterMap λb=>(h.get? b).map λo=>(b,o)
theorem gA {fp:List Addr} {h:Heap} {b:Addr} {o:Obj} (hb:b∈fp) (e:h.get? b=some o):(b,o)∈mZ fp h:=List.mem_filterMap.mpr ⟨b,hb,by rw[e];rfl⟩
theorem vk {fp:List Addr} {h:Heap} {p:Addr×Obj} (hp:p∈mZ fp h):p.1∈fp∧h.get? p.1=some p.2:=by
 obtain⟨b,hb,e⟩:=List.mem_filterMap.mp hp
 cases q:h.get? b with
 |none=>rw[q]at e;cases e
 |some o=>
  rw[q]at e
  have e':(b,o)=p:=Option.some.inj e
  subst e'
  exact⟨hb,q⟩
theorem Inv.pinned {pins:List (Addr×Obj)} {σ:St} {H:Hp} {s:Shared} {fp:List Addr} (I:Inv X pins σ H s) (hf:∀b∈fp,iD X pins H b) (ho:∀b∈fp,∃o,s.heap.get? b=some o∧∀v,o.data≠ .cell v):Inv X (pins++mZ fp s.heap) σ H s:=
 I.pins_of λp hp=>(Qb.mp hp).elim (λz=>I.pin p (Qn _ z)) λz=>by
  obtain⟨hb,e⟩:=vk z
  obtain⟨f0,f1,f2,_⟩:=hf p.1 hb
  obtain⟨o,e',d⟩:=ho p.1 hb
  rw[e]at e';cases e'
  exact⟨e,f0,f1,f2,d⟩
theorem Inv.unpinned {pins pl:List (Addr×Obj)} {σ:St} {H:Hp} {s:Shared} (I:Inv X (pins++pl) σ H s):Inv X pins σ H s:=I.pins_of λp hp=>I.pin p (Qn _ (QX _ hp))
theorem hJ {iter:Expr} {body:List Stmt} {wi:TI} {g:TG} {tb:TS} {pos:Pos} (hp:PassesOwn (model X.prog X.w) X.A X.env X.xe) (hc:X.calm=true) (hi:PI X tg iter wi) (hg:PG X tg g) (hb:PSs X body tb)
  (hs:∀x,foldedSetIterable iter X.env x=pure x:=by intro _;rfl):PS X (.For tg iter body [] pos) (tFor wi g tb):=by
 intro pins s σ H D I h
 refine wpAny_For (thn (hi pins s σ H _ I h) λv s1 h1=>thn h1 λitv s2 h2=>?_) hs
 obtain⟨it,fp,tn,J,H2,e,I2,T,st2,f2,W,⟨m0,w0⟩,turn⟩:=h2
 subst e
 have stat:∀{H':Hp},(∀b∈fp,H' b=none)→∀b∈fp,iD X pins H' b:=λhn b hb=>⟨hn b hb,(f2 b hb).2⟩
 refine codeAny_forLoop_any (λn s'=>∃i σ' H',Inv X pins σ' H' s'∧tn i s'.heap∧(∀b∈fp,H' b=none)∧W i n σ' H') ?_ m0 ⟨0,σ,H2,I2,st2,λb hb=>(f2 b hb).1,w0⟩
 rintro n s3 ⟨i,σ3,H3,I3,st3,fr3,w3⟩
 rcases turn i n σ3 H3 w3 with⟨stop,qn⟩|⟨go,N,hN,step⟩
 ·refine wpAny_passesOwn hp (thn (T.done X rfl rfl rfl hc i pins s3 σ3 H3 X.xe I3 (stat fr3) st3 stop) λr s4 ⟨hr,I4⟩=>?_)
  subst hr
  exact wpAny_execs_nil ⟨σ3,H3,I4,qn⟩
 ·refine wpAny_passesOwn hp (thn (T.item X rfl rfl rfl hc i pins s3 σ3 H3 X.xe I3 (stat fr3) st3 go) λr s4 ⟨u,hr,h4⟩=>?_)
  subst hr
  refine wpAny_passesOwn hp (thn h4 λ_ s5 hzz=>?_)
  obtain⟨x,H5,I5,r5,y5,st5,fr5⟩:=hzz
  have I5':=I5.pinned (stat fr5) (T.obj _ _ st5)
  refine wpAny_passesOwn hp (thn (hg _ s5 σ3 H5 x u _ I5' r5 (step x H5 y5)) λ_ s6 hzz=>?_)
  obtain⟨σ6,H6,I6,q6⟩:=hzz
  refine wpAny_passesOwn hp (thn (hb _ s6 σ6 H6 _ I6 q6) λf s7 q7=>?_)
  have again:∀{σ7:St} {H7:Hp},Inv X (pins++mZ fp s5.heap) σ7 H7 s7→N σ7 H7→∃m,m<n∧∃i σ' H',Inv X pins σ' H' s7∧tn i s7.heap∧(∀b∈fp,H' b=none)∧W i m σ' H':=λ{σ7 H7} I7 n7=>by
   obtain⟨m',hm,w7⟩:=hN σ7 H7 n7
   refine⟨m',hm,i+1,σ7,H7,I7.unpinned,T.keep _ _ _ st5 λb hb o e=>(I7.pin (b,o) (Qn _ (Qn _ (gA hb e)))).1,λb hb=>?_,w7⟩
   obtain⟨o,e,d⟩:=T.obj _ _ st5 b hb
   exact(I7.pin (b,o) (Qn _ (Qn _ (gA hb e)))).2.1
  cases f with
  |next=>obtain⟨σ7,H7,I7,n7⟩:=q7;exact again I7 n7
  |cont=>obtain⟨σ7,H7,I7,n7⟩:=q7;exact again I7 n7
  |brk=>obtain⟨σ7,H7,I7,q7⟩:=q7;exact⟨σ7,H7,I7.unpinned,q7⟩
  |ret v=>obtain⟨x7,σ7,H7,I7,r7,q7⟩:=q7;exact⟨x7,σ7,H7,I7.unpinned,r7,q7⟩
end
theorem xF {K:PySem.W.Frag} {a:Addr} {xs:List V} {g:TG} {tb:TS} {D:Ends} {σ:St} {H:Hp} (Pv:Nat→St→Hp→Prop) (h0:Pv 0 σ H) (hl:∀i σ H,i≤xs.length→Pv i σ H→SqL K H a xs)
  (hs:∀i x σ H,xs[i]?=some x→Pv i σ H→g x σ H λσ2 H2=>tb {D with nx:=Pv (i+1),ct:=Pv (i+1),bk:=D.nx} σ2 H2) (hd:∀σ H,Pv xs.length σ H→D.nx σ H):
  ∃W:Nat→Nat→St→Hp→Prop,(∃m,W 0 m σ H)∧∀i m σ H,W i m σ H→
   ((Itl K a).stop i H∧D.nx σ H)∨((Itl K a).go i H∧∃N:St→Hp→Prop,(∀σ' H',N σ' H'→∃m',m'<m∧W (i+1) m' σ' H')∧∀x H',(Itl K a).yld i H x H'→g x σ H' λσ2 H2=>tb {D with nx:=N,ct:=N,bk:=D.nx} σ2 H2):=by
 refine⟨λi m σ H=>m=xs.length-i∧i≤xs.length∧Pv i σ H,⟨xs.length,by simp,Qk _,h0⟩,?_⟩
 rintro i m σ H ⟨rfl,hi,p⟩
 have q:=hl i σ H hi p
 by_cases hlt:i<xs.length
 ·refine .inr ⟨⟨xs,xs[i],q,by simp[hlt]⟩,Pv (i+1),λσ' H' p'=>⟨xs.length-(i+1),by omega,rfl,hlt,p'⟩,λx H' y=>?_⟩
  obtain⟨e,y⟩:=y
  subst e
  exact hs i x σ _ (y xs q) p
 ·have e:i=xs.length:=by omega
  subst e
  exact .inl ⟨⟨xs,q,Q5 _⟩,hd σ H p⟩
theorem vQ {lo:Int} {n:Nat} {g:TG} {tb:TS} {D:Ends} {σ:St} {H:Hp} (Pv:Nat→St→Hp→Prop) (h0:Pv 0 σ H)
  (hs:∀i σ H,i<n→Pv i σ H→g (.int (lo+i)) σ H λσ2 H2=>tb {D with nx:=Pv (i+1),ct:=Pv (i+1),bk:=D.nx} σ2 H2) (hd:∀σ H,Pv n σ H→D.nx σ H):
  ∃W:Nat→Nat→St→Hp→Prop,(∃m,W 0 m σ H)∧∀i m σ H,W i m σ H→
   ((Itr lo n).stop i H∧D.nx σ H)∨((Itr lo n).go i H∧∃N:St→Hp→Prop,(∀σ' H',N σ' H'→∃m',m'<m∧W (i+1) m' σ' H')∧∀x H',(Itr lo n).yld i H x H'→g x σ H' λσ2 H2=>tb {D with nx:=N,ct:=N,bk:=D.nx} σ2 H2):=by
 refine⟨λi m σ H=>m=n-i∧i≤n∧Pv i σ H,⟨n,by simp,Qk _,h0⟩,?_⟩
 rintro i m σ H ⟨rfl,hi,p⟩
 by_cases hlt:i<n
 ·refine .inr ⟨hlt,Pv (i+1),λσ' H' p'=>⟨n-(i+1),by omega,rfl,hlt,p'⟩,λx H' y=>?_⟩
  obtain⟨e,y⟩:=y
  subst e y
  exact hs i σ _ hlt p
 ·have e:i=n:=by omega
  subst e
  exact .inl ⟨Q5 _,hd σ H p⟩
end L2
namespace L2
open PySem PySem.Spec PyProof.Rows
abbrev R2:=V→V→Hp→VK→Prop
def OpR (X:Cx) (f:Value→Value→Sem Value) (r:R2):Prop:=
 ∀(pins:List (Addr×Obj)) (s:Shared) (σ:St) (H:Hp) (x y:V) (v u:Value) (Q:VK),Inv X pins σ H s→RelV x v→RelV y u→r x y H Q→
  wpAny (model X.prog X.w) X.A (f v u) (EP X pins σ Q) X.xe s
def UnR (X:Cx) (f:Value→Sem Value) (r:V→Hp→VK→Prop):Prop:=
 ∀(pins:List (Addr×Obj)) (s:Shared) (σ:St) (H:Hp) (x:V) (v:Value) (Q:VK),Inv X pins σ H s→RelV x v→r x H Q→
  wpAny (model X.prog X.w) X.A (f v) (EP X pins σ Q) X.xe s
def gf (X:Cx) (f:Value) (r:List V→Hp→VK→Prop):Prop:=
 ∀(pins:List (Addr×Obj)) (s:Shared) (σ:St) (H:Hp) (xs:List V) (us:List Value) (Q:VK),Inv X pins σ H s→Vals xs us→r xs H Q→
  wpAny (model X.prog X.w) X.A (call f us) (EP X pins σ Q) X.xe s
def tOp (r:R2) (ta tb:TE):TE:=λσ H Q=>ta σ H λx H1=>tb σ H1 λy H2=>r x y H2 Q
def tUn (r:V→Hp→VK→Prop) (ta:TE):TE:=λσ H Q=>ta σ H λx H1=>r x H1 Q
def rI (C:Int→Int→Prop) (g:Int→Int→V):R2:=λx y H Q=>∃i j,x= .int i∧y= .int j∧C i j∧Q (g i j) H
def rI0 (g:Int→Int→V):R2:=λx y H Q=>∃i j,x= .int i∧y= .int j∧Q (g i j) H
def rU (g:Int→V):V→Hp→VK→Prop:=λx H Q=>∃i,x= .int i∧Q (g i) H
section
variable {X:Cx} {a b c:Expr} {ta tb tc:TE} {pos:Pos}
theorem Bh (ha:PE X a ta) (hb:PE X b tb) {pins:List (Addr×Obj)} {s:Shared} {σ:St} {H:Hp} {R:V→V→Hp→Prop} (I:Inv X pins σ H s)
  (h:ta σ H λx H1=>tb σ H1 λy H2=>R x y H2) {Q:Value→Shared→Prop} {f:Value→Value→Sem Value}
  (hf:∀v u s2 x y H2,Inv X pins σ H2 s2→RelV x v→RelV y u→R x y H2→wpAny (model X.prog X.w) X.A (f v u) Q X.xe s2):
  wpAny (model X.prog X.w) X.A (eval a X.env) (λv s₁=>wpAny (model X.prog X.w) X.A (eval b X.env) (λu s₂=>wpAny (model X.prog X.w) X.A (f v u) Q X.xe s₂) X.xe s₁) X.xe s:=by
 refine thn (ha pins s σ H _ I h) λv s1 hzz=>?_
 obtain⟨x,H1,I1,r1,q1⟩:=hzz
 refine thn (hb pins s1 σ H1 _ I1 q1) λu s2 hzz=>?_
 obtain⟨y,H2,I2,r2,q2⟩:=hzz
 exact hf v u s2 x y H2 I2 r1 r2 q2
theorem aH {op:Operator} {r:R2} (ho:OpR X (binaryOp op) r) (ha:PE X a ta) (hb:PE X b tb):PE X (.BinOp a op b pos) (tOp r ta tb):=by
 intro pins s σ H Q I h
 exact wpAny_BinOp (Bh ha hb I h λv u s2 x y H2 I2 rx ry q=>ho pins s2 σ H2 x y v u Q I2 rx ry q)
theorem ud {op:UnaryOp} {r:V→Hp→VK→Prop} (ho:UnR X (unaryOp op) r) (ha:PE X a ta):PE X (.UnaryOp op a pos) (tUn r ta):=by
 intro pins s σ H Q I h
 exact UnaryOp_ (thn (ha pins s σ H _ I h) λv s1 ⟨x,H1,I1,r1,q1⟩=>ho pins s1 σ H1 x v Q I1 r1 q1)
theorem opI {f:Value→Value→Sem Value} {C:Int→Int→Prop} {g:Int→Int→Int}
  (rule:∀(i j:Int) (t u:Tok) (s:Shared) (Q:Value→Shared→Prop) (E:Value→Shared→Prop),C i j→Q (.int (g i j) s.toks) {s with toks:=s.toks+1}→wpAny (model X.prog X.w) X.A (f (.int i t) (.int j u)) Q E s):
  OpR X f (rI C λi j=> .int (g i j)):=by
 intro pins s σ H x y v u Q I rx ry h
 obtain⟨i,j,rfl,rfl,hc,q⟩:=h
 obtain⟨t,rfl⟩:=rx
 obtain⟨t',rfl⟩:=ry
 exact rule i j t t' s _ _ hc ⟨.int (g i j),H,I.tok _,⟨_,rfl⟩,q⟩
theorem opI0 {f:Value→Value→Sem Value} {g:Int→Int→Int}
  (rule:∀(i j:Int) (t u:Tok) (s:Shared) (Q:Value→Shared→Prop) (E:Value→Shared→Prop),Q (.int (g i j) s.toks) {s with toks:=s.toks+1}→wpAny (model X.prog X.w) X.A (f (.int i t) (.int j u)) Q E s):
  OpR X f (rI0 λi j=> .int (g i j)):=by
 intro pins s σ H x y v u Q I rx ry h
 obtain⟨i,j,rfl,rfl,q⟩:=h
 obtain⟨t,rfl⟩:=rx
 obtain⟨t',rfl⟩:=ry
 exact rule i j t t' s _ _ ⟨.int (g i j),H,I.tok _,⟨_,rfl⟩,q⟩
theorem zb {f:Value→Value→Sem Value} {g:Int→Int→Bool}
  (rule:∀(i j:Int) (t u:Tok) (s:Shared) (Q:Value→Shared→Prop) (E:Value→Shared→Prop),Q (.bool (g i j)) s→wpAny (model X.prog X.w) X.A (f (.int i t) (.int j u)) Q E s):
  OpR X f (rI0 λi j=> .bl (g i j)):=by
 intro pins s σ H x y v u Q I rx ry h
 obtain⟨i,j,rfl,rfl,q⟩:=h
 obtain⟨t,rfl⟩:=rx
 obtain⟨t',rfl⟩:=ry
 exact rule i j t t' s _ _ ⟨.bl (g i j),H,I,rfl,q⟩
def CDiv (i j:Int):Prop:=0<j∧j<1073741824
def CPow (i j:Int):Prop:=0≤j∧j≤1000000∧i.natAbs<2^64
def CMul (i j:Int):Prop:=(-(2^64)<i∧i<2^64)∨(-(2^64)<j∧j<2^64)
theorem CMul.ok {i j:Int} (h:CMul i j):IntMulOk i j:=by
 rcases h with⟨h1,h2⟩|⟨h1,h2⟩
 ·exact .of_left (intBits_le_64 h1 h2)
 ·exact .of_right (intBits_le_64 h1 h2)
theorem sM (k:Nat):(0:Int)≤2^k:=by
 rw[two_pow_cast]
 exact Int.natCast_nonneg _
theorem bH:OpR X (binaryOp .Add) (rI0 λi j=> .int (i+j)):=opI0 λ_ _ _ _ _ _ _ q=>add_int q
theorem kL:OpR X (binaryOp .Sub) (rI0 λi j=> .int (i-j)):=opI0 λ_ _ _ _ _ _ _ q=>sub_int q
theorem fA:OpR X (binaryOp .Mult) (rI CMul λi j=> .int (i*j)):=opI λ_ _ _ _ _ _ _ hc q=>mul_int q hc.ok
theorem jX:OpR X (binaryOp .FloorDiv) (rI CDiv λi j=> .int (i/j)):=opI λi j _ _ _ _ _ hc q=>by
 have h1:(0:Int)<j:=hc.1
 have h2:j<1073741824:=hc.2
 exact floordiv_int (by omega) (by rw[Xj i (by omega)];exact q) (.inl (PyProof.noPylong_small (by omega)))
theorem bC:OpR X (binaryOp .Mod) (rI (λ_ j=>0<j) λi j=> .int (i%j)):=opI λi j _ _ _ _ _ hc q=>by
 have h1:(0:Int)<j:=hc
 exact mod_int' (by omega) (by rw[Int.fmod_eq_emod_of_nonneg i (by omega)];exact q)
theorem tj:OpR X (binaryOp .Pow) (rI CPow λi j=> .int (i^j.toNat)):=opI λ_ _ _ _ _ _ _ hc q=>pow_int_small hc.1 hc.2.1 hc.2.2 q
theorem AK:OpR X (binaryOp .RShift) (rI (λ_ j=>0≤j) λi j=> .int (i/2^j.toNat)):=opI λi j _ _ _ _ _ hc q=>
 rshift_int hc (by rw[Xj i (sM _)];exact q)
theorem unI {f:Value→Sem Value} {g:Int→Int}
  (rule:∀(i:Int) (t:Tok) (s:Shared) (Q:Value→Shared→Prop) (E:Value→Shared→Prop),Q (.int (g i) s.toks) {s with toks:=s.toks+1}→wpAny (model X.prog X.w) X.A (f (.int i t)) Q E s):
  UnR X f (rU λi=> .int (g i)):=by
 intro pins s σ H x v Q I rx h
 obtain⟨i,rfl,q⟩:=h
 obtain⟨t,rfl⟩:=rx
 exact rule i t s _ _ ⟨.int (g i),H,I.tok _,⟨_,rfl⟩,q⟩
theorem qc:UnR X (unaryOp .USub) (rU λi=> .int (-i)):=unI λ_ _ _ _ _ q=>neg_int q
end
def scal:V→V→Bool
 | .non,.non=>true| .non,.int _=>true| .int _,.non=>true| .non,.bl _=>true| .bl _,.non=>true| .non,.str _=>true| .str _,.non=>true
 | .int _,.int _=>true| .bl _,.bl _=>true| .str _,.str _=>true| .byt _,.byt _=>true
 | .int _,.str _=>true| .str _,.int _=>true| .bl _,.str _=>true| .str _,.bl _=>true
 |_,_=>false
def rEq:R2:=λx y H Q=>scal x y=true∧Q (.bl (decide (x=y))) H
theorem zz {i j:Int}:decide (V.int i=V.int j)=(i==j):=by
 rw[ZP]
 simp
theorem Bd {i j:Bool}:decide (V.bl i=V.bl j)=(i==j):=by
 rw[ZP]
 simp
theorem zy {i j:Str}:decide (V.str i=V.str j)=(i==j):=by
 rw[ZP]
 simp
theorem zA {i j:Array UInt8}:decide (V.byt i=V.byt j)=(i.toList==j.toList):=by
 rw[ZP]
 cases i
 cases j
 simp
section
variable {X:Cx} {a b c:Expr} {ta tb tc:TE} {pos:Pos}
theorem bQ {pins:List (Addr×Obj)} {σ:St} {H:Hp} {s:Shared} {Q:VK} {k k':Bool} (I:Inv X pins σ H s) (q:Q (.bl k) H) (e:k=k'):EP X pins σ Q (.bool k') s:=by
 subst e
 exact⟨.bl k,H,I,rfl,q⟩
theorem dt:OpR X (compareOp .Eq) rEq:=by
 intro pins s σ H x y v u Q I rx ry h
 obtain⟨hs,q⟩:=h
 cases x with
 |non=>
  cases rx
  cases y with
  |non=>cases ry;exact PySem.EqNone.eq_none_none (bQ I q (by simp))
  |bl j=>cases ry;exact PySem.EqNone.eq_none_bool (bQ I q (by simp))
  |int j=>obtain⟨t',rfl⟩:=ry;exact PySem.EqNone.eq_none_int (bQ I q (by simp))
  |str j=>obtain⟨t',rfl⟩:=ry;exact PySem.EqNone.eq_none_str (bQ I q (by simp))
  |_=>exact absurd (show false=true from hs) Q7
 |bl i=>
  cases rx
  cases y with
  |non=>cases ry;exact PySem.EqNone.eq_bool_none (bQ I q (by simp))
  |bl j=>cases ry;exact eq_bool (bQ I q Bd)
  |str j=>obtain⟨t',rfl⟩:=ry;exact PySem.EqMixed.eq_bool_str (bQ I q (by simp))
  |_=>exact absurd (show false=true from hs) Q7
 |int i=>
  obtain⟨t,rfl⟩:=rx
  cases y with
  |non=>cases ry;exact PySem.EqNone.eq_int_none (bQ I q (by simp))
  |int j=>obtain⟨t',rfl⟩:=ry;exact eq_int (bQ I q zz)
  |str j=>obtain⟨t',rfl⟩:=ry;exact PySem.EqMixed.eq_int_str (bQ I q (by simp))
  |_=>exact absurd (show false=true from hs) Q7
 |str i=>
  obtain⟨t,rfl⟩:=rx
  cases y with
  |non=>cases ry;exact PySem.EqNone.eq_str_none (bQ I q (by simp))
  |bl j=>cases ry;exact PySem.EqMixed.eq_str_bool (bQ I q (by simp))
  |int j=>obtain⟨t',rfl⟩:=ry;exact PySem.EqMixed.eq_str_int (bQ I q (by simp))
  |str j=>obtain⟨t',rfl⟩:=ry;exact eq_str (bQ I q zy)
  |_=>exact absurd (show false=true from hs) Q7
 |byt i=>
  obtain⟨t,rfl⟩:=rx
  cases y with
  |byt j=>obtain⟨t',rfl⟩:=ry;exact PySem.W.eq_bytes (bQ I q zA)
  |_=>exact absurd (show false=true from hs) Q7
 |_=>cases y<;>exact absurd (show false=true from hs) Q7
theorem dq:OpR X (compareOp .Lt) (rI0 λi j=> .bl (decide (i<j))):=zb λ_ _ _ _ _ _ _ q=>lt_int q
theorem uh:OpR X (compareOp .LtE) (rI0 λi j=> .bl (decide (i≤j))):=zb λ_ _ _ _ _ _ _ q=>le_int q
theorem m6:OpR X (compareOp .Gt) (rI0 λi j=> .bl (decide (j<i))):=zb λ_ _ _ _ _ _ _ q=>gt_int q
theorem ui:OpR X (compareOp .GtE) (rI0 λi j=> .bl (decide (j≤i))):=zb λ_ _ _ _ _ _ _ q=>ge_int q
theorem tm:OpR X (compareOp .Is) (λx y H Q=>y= .non∧Q (.bl (decide (x= .non))) H):=by
 intro pins s σ H x y v u Q I rx ry h
 obtain⟨rfl,q⟩:=h
 cases ry
 refine is_none_gen (bQ I q ?_)
 cases x<;>first
  |(cases rx;rfl)
  |(obtain⟨t,rfl⟩:=rx;rfl)
theorem ug:OpR X (compareOp .IsNot) (λx y H Q=>y= .non∧Q (.bl (!decide (x= .non))) H):=by
 intro pins s σ H x y v u Q I rx ry h
 obtain⟨rfl,q⟩:=h
 cases ry
 refine isnot_none_gen (bQ I q ?_)
 cases x<;>first
  |(cases rx;rfl)
  |(obtain⟨t,rfl⟩:=rx;rfl)
theorem aD (b:Expr) {op:CmpOp} (h:op≠ .In:=by decide) (h2:op≠ .NotIn:=by decide):behindInMarks op b=false:=by
 have e1:(op==CmpOp.In)=false:=by cases op<;>first|rfl|exact absurd rfl h
 have e2:(op==CmpOp.NotIn)=false:=by cases op<;>first|rfl|exact absurd rfl h2
 cases b<;>simp[behindInMarks,e1,e2]
theorem cN {op:CmpOp} {r:R2} (ho:OpR X (compareOp op) r) (ha:PE X a ta) (hb:PE X b tb) (hm:behindInMarks op b=false):PE X (.Compare a [op] [b] pos) (tOp r ta tb):=by
 intro pins s σ H Q I h
 exact wpAny_Compare1 (Bh ha hb I h λv u s2 x y H2 I2 rx ry q=>ho pins s2 σ H2 x y v u Q I2 rx ry q) hm
def zP (t:TE):TT:=λσ H Q=>t σ H λx H'=>∃k,x= .bl k∧Q k H'
theorem aC {op:CmpOp} {r:R2} (ho:OpR X (compareOp op) r) (ha:PE X a ta) (hb:PE X b tb) (hm:behindInMarks op b=false):PT X (.Compare a [op] [b] pos) (zP (tOp r ta tb)):=by
 intro pins s σ H Q I h
 refine wpAny_isTrue_Compare1 (thn (ha pins s σ H _ I h) λv s1 ⟨x,H1,I1,r1,q1⟩=>thn (hb pins s1 σ H1 _ I1 q1) λu s2 ⟨y,H2,I2,r2,q2⟩=>
  thn (ho pins s2 σ H2 x y v u _ I2 r1 r2 q2) λc s3 ⟨z,H3,I3,r3,k,e,q3⟩=>?_) hm
 subst e
 cases r3
 exact wpAny_truthy_bool ⟨H3,I3,q3⟩
def Aw (r r':R2) (ta tb tc:TE):TE:=λσ H Q=>ta σ H λx H1=>tb σ H1 λy H2=>r x y H2 λz H3=>∃k,z= .bl k∧
 (if k=true then tc σ H3 λw' H4=>r' y w' H4 Q else Q (.bl false) H3)
theorem wQ {op op':CmpOp} {r r':R2} (ho:OpR X (compareOp op) r) (ho':OpR X (compareOp op') r') (ha:PE X a ta) (hb:PE X b tb) (hc:PE X c tc)
  (hm:lastMarks [op,op'] [b,c]=false:=by with_unfolding_all rfl):PT X (.Compare a [op,op'] [b,c] pos) (zP (Aw r r' ta tb tc)):=by
 intro pins s σ H Q I h
 refine isTrue_chain (thn (ha pins s σ H _ I h) λv s1 ⟨x,H1,I1,r1,q1⟩=>test_link (thn (hb pins s1 σ H1 _ I1 q1) λu s2 ⟨y,H2,I2,r2,q2⟩=>
  thn (ho pins s2 σ H2 x y v u _ I2 r1 r2 q2) λd s3 ⟨z,H3,I3,r3,k,e,q3⟩=>?_)) hm
 subst e
 cases r3
 refine wpAny_truthy_bool ?_
 cases k with
 |false=>
  obtain⟨k',e',q'⟩:=q3
  cases e'
  exact ite_ff ⟨H3,I3,q'⟩
 |true=>
  refine ite_tt (test_last (thn (hc pins s3 σ H3 _ I3 q3) λw' s4 ⟨z',H4,I4,r4,q4⟩=>thn (ho' pins s4 σ H4 y z' u w' _ I4 r2 r4 q4) λd' s5 hzz=>?_))
  obtain⟨z2,H5,I5,r5,k2,e2,q5⟩:=hzz
  subst e2
  cases r5
  exact wpAny_truthy_bool ⟨H5,I5,q5⟩
theorem nR:(sizeLine:Nat)<2^63:=by rw[sizeLine_eq];decide
theorem mn {x:V} {us:List Value} (r:Vals [x] us):∃u,us=[u]∧RelV x u:=by
 cases r with
 |cons r1 r2=>cases r2;exact⟨_,rfl,r1⟩
theorem lB {x y:V} {us:List Value} (r:Vals [x,y] us):∃u w',us=[u,w']∧RelV x u∧RelV y w':=by
 cases r with
 |cons r1 r2=>
  cases r2 with
  |cons r3 r4=>cases r4;exact⟨_,_,rfl,r1,r3⟩
theorem vX (hc:X.calm=true):gf X (.builtin "max") (λxs H Q=>∃i j,xs=[.int i,.int j]∧Q (.int (if j>i then j else i)) H):=by
 intro pins s σ H xs us Q I r h
 obtain⟨i,j,rfl,q⟩:=h
 obtain⟨u,w',rfl,⟨t,rfl⟩,⟨t',rfl⟩⟩:=lB r
 refine max_two_ints (I.ok.hd hc) λh' tk k=>⟨_,H,I.kept k,?_,q⟩
 by_cases hj:j>i
 ·rw[if_pos hj,if_pos hj];exact⟨_,rfl⟩
 ·rw[if_neg hj,if_neg hj];exact⟨_,rfl⟩
theorem vW (hc:X.calm=true):gf X (.builtin "min") (λxs H Q=>∃i j,xs=[.int i,.int j]∧Q (.int (if j<i then j else i)) H):=by
 intro pins s σ H xs us Q I r h
 obtain⟨i,j,rfl,q⟩:=h
 obtain⟨u,w',rfl,⟨t,rfl⟩,⟨t',rfl⟩⟩:=lB r
 refine min_two_ints (I.ok.hd hc) λh' tk k=>⟨_,H,I.kept k,?_,q⟩
 by_cases hj:j<i
 ·rw[if_pos hj,if_pos hj];exact⟨_,rfl⟩
 ·rw[if_neg hj,if_neg hj];exact⟨_,rfl⟩
end
end L2
namespace L2
open PySem PySem.Spec PyProof.Rows
structure ObjM (h:Heap) (x dx C:Addr) (mA:Str→Option Value):Prop where
 obj:h.get? x=some (PySem.W.instObj C dx)
 ns:h.Ns1 dx mA
 ne:dx≠x
theorem pF {h:Heap} {dx:Addr} {mA:Str→Option Value} (n:h.Ns1 dx mA):∃od,h.get? dx=some od∧∀name,PySem.W.lookIn name od=some (mA name):=by
 obtain⟨o,es,ep,ho,hd,hk,_,hm⟩:=n
 refine⟨o,ho,λname=>?_⟩
 have e:=hm name
 unfold nsFind findBy at e
 rw[←Array.find?_toList]at e
 unfold PySem.W.lookIn
 rw[hd]
 dsimp only
 split
 ·rename_i y q
  rw[q]at e
  exact congrArg some e
 ·rename_i q
  rw[q]at e
  have a:es.toList.any (·.refKey)=false:=by
   rw[List.any_eq_false]
   intro y hy
   obtain⟨z,t,hkey⟩:=hk y (Array.mem_toList_iff.mp hy)
   simp[DictEntry.refKey,hkey]
  have a':¬es.toList.any (·.refKey)=true:=by rw[a];exact Q7
  rw[if_neg a']
  exact congrArg some e
theorem ObjM.look {h:Heap} {x dx C:Addr} {mA:Str→Option Value} (I:ObjM h x dx C mA):∃od,PySem.W.InstAt h x (PySem.W.instObj C dx) C (some od)∧∀name,PySem.W.lookIn name od=some (mA name):=
 let⟨od,ho,hl⟩:=pF I.ns
 ⟨od,⟨I.obj,rfl,rfl,ho⟩,hl⟩
section
variable {prog:Program} {w:World} {A:Around} {E:Value→Shared→Prop} {s:Shared} {K:PySem.W.Frag} {x dx C f:Addr} {mA:Str→Option Value} {name:Str} {v:Value}
theorem zp {expr:Bool} {Q:Value→Shared→Prop} (X:K.In s.heap) (I:ObjM s.heap x dx C mA) (hg:PySem.W.plainGet K C name=true) (hh:PySem.W.hasDictIn K C=true)
  (ha:PySem.W.findIn K (.ref C) name=some none) (hv:mA name=some v) (hv':PySem.W.handedIn v=true) (h:Q v {s with toks:=s.toks+1}):
  wpAny (model prog w) A (getAttr (.ref x) name expr) Q E s:=by
 obtain⟨od,J,hl⟩:=I.look
 exact PySem.W.get_value X J (X1 hg).1 (PySem.W.findObj_own hh ha rfl (by rw[hl,hv])) hv' h
theorem xy {pl:Sem Bool} {Q:Value×List Value→Shared→Prop} (X:K.In s.heap) (I:ObjM s.heap x dx C mA) (hg:PySem.W.plainGet K C name=true)
  (hf:PySem.W.findIn K (.ref C) name=some (some (.ref f))) (ht:PySem.W.isFn K (.ref f)=true) (hv:mA name=none) (h:Q (.ref f,[.ref x]) s):
  wpAny (model prog w) A (getMethod (.ref x) name pl) Q E s:=by
 obtain⟨od,J,hl⟩:=I.look
 exact PySem.W.method_fn X J (X1 hg).1 (X1 hg).2 hf (beq_iff_eq.mp ht) (by show(PySem.W.lookIn name od).map (·.isSome)=some false;rw[hl,hv];rfl) h
theorem yK {ns:List Str} {Q:Unit→Shared→Prop} (X:K.In s.heap) (I:ObjM s.heap x dx C mA)
  (hs:PySem.W.findIn K (.ref C) "__setattr__"=some (some (.builtin "object.__setattr__"))) (hp:PySem.W.plainOver K C=true) (ht:PySem.W.takerIn K C name=some none) (hh:PySem.W.hasDictIn K C=true)
  (hw:PySem.Within mA ns) (hsz:ns.length≤sizeLine)
  (h:∀h',ObjM h' x dx C (λy=>if y=name then some v else mA y)→Heap.SameBut dx s.heap h'→Q () {s with heap:=h',toks:=s.toks+2}):
  wpAny (model prog w) A (setAttr (.ref x) name v) Q E s:=by
 obtain⟨od,J,hl⟩:=I.look
 refine PySem.W.set_plain X J hs (PySem.W.osa_open (s:={s with toks:=s.toks+1}) (r:=none) X J hp ht λb=>?_)
 obtain⟨cd,hc,hd'⟩:=PySem.W.any_some hh
 have hx:s.heap.get? x=some ⟨.ref C,some dx,.plain, #[]⟩:=I.obj
 refine wpAny_bind (wpAny_pure (wpAny_bind (wpAny_bind (wpAny_loadPart hx (wpAny_bind (PySem.W.Looks.here (s:={s with toks:=s.toks+1}) (PySem.W.looks_clsIn X hc) ?_))))))
 rw[hd']
 refine wpAny_pure (a:=some dx) (wpAny_bind (wpAny_pure (wpAny_bind ?_)))
 refine wpAny_nsSet1 (s:={s with toks:=s.toks+1}) I.ns λh' hn2 hs2=>?_
 obtain⟨oD,esD,epD,hoD,hdD,hcD⟩:=hn2.count (PySem.Within.cons name v hw)
 refine wpAny_bind (wpAny_lookBehind hoD (by rw[hdD];exact pastItsLine_dict (Qv hcD (by rw[Q9];omega))) ?_)
 exact wpAny_pure (h _ ⟨(hs2.2 _ (Ne.symm I.ne)).trans I.obj,hn2,I.ne⟩ hs2)
theorem xi {R:Result→Shared→Prop} {vs:List Value} {kw:List (Str×Value)} (X:K.In s.heap) (hm:PySem.W.makesIn K C=true)
  (hi:PySem.W.findIn K (.ref C) "__init__"=some (some (.ref f))) (hf:PySem.W.typeIn K (.ref f)=some (.type "function"))
  (h:codeAny (model prog w) (A.under (.builtin "type.__call__" ⟨.ref C::vs,kw⟩)) (.call (.ref f) ⟨.ref (s.heap.objs.size+1)::vs,kw⟩) (PySem.W.InitBack (s.heap.objs.size+1) R)
   {s with heap:=(s.heap.push PySem.W.emptyDict).push (PySem.W.instObj C s.heap.objs.size)}):
  codeAny (model prog w) A (.call (.ref C) ⟨vs,kw⟩) R s:=by
 obtain⟨hh,g,d,t,os⟩:=s
 exact PySem.W.make_core (PySem.W.makes_of X hm) (PySem.W.looks_findIn X hi) (λself=>PySem.W.bind_fn X self hf) (.inl rfl) h
end
def aV (f:Str) (v:V):List (Str×V)→List (Str×V)
 | []=> [(f,v)]
 |(g,x)::r=>if g=f then(g,v)::r else(g,x)::aV f v r
theorem bG (f g:Str) (v:V):∀fs:List (Str×V),(aV f v fs).lookup g=if g=f then some v else fs.lookup g
 | []=>by
  show List.lookup g [(f,v)]=_
  by_cases h:g=f
  ·have hb:(g==f)=true:=beq_iff_eq.mpr h
   simp only[List.lookup,hb,if_pos h]
  ·have hb:(g==f)=false:=beq_eq_false_iff_ne.mpr h
   simp only[List.lookup,hb,if_neg h]
 |(k,x)::r=>by
  have ih:=bG f g v r
  rw[show aV f v ((k,x)::r)=(if k=f then(k,v)::r else(k,x)::aV f v r) from rfl]
  by_cases hk:k=f
  ·rw[if_pos hk]
   by_cases h:g=k
   ·have hb:(g==k)=true:=beq_iff_eq.mpr h
    simp only[List.lookup,hb,if_pos (h.trans hk)]
   ·have hb:(g==k)=false:=beq_eq_false_iff_ne.mpr h
    simp only[List.lookup,hb,if_neg (λe:g=f=>h (e.trans hk.symm))]
  ·rw[if_neg hk]
   by_cases h:g=k
   ·have hb:(g==k)=true:=beq_iff_eq.mpr h
    simp only[List.lookup,hb,if_neg (λe:g=f=>hk (h.symm.trans e))]
   ·have hb:(g==k)=false:=beq_eq_false_iff_ne.mpr h
    simp only[List.lookup,hb]
    exact ih
theorem kU (f:Str) (v:V):∀fs:List (Str×V),f∈(aV f v fs).map (·.1)∧∀g,g∈fs.map (·.1)→g∈(aV f v fs).map (·.1)
 | []=>⟨by simp[aV],λg h=>by simp at h⟩
 |(k,x)::r=>by
  obtain⟨i1,i2⟩:=kU f v r
  rw[show aV f v ((k,x)::r)=(if k=f then(k,v)::r else(k,x)::aV f v r) from rfl]
  by_cases hk:k=f
  ·rw[if_pos hk]
   subst hk
   exact⟨by simp,λg h=>by simpa using h⟩
  ·rw[if_neg hk]
   refine⟨?_,λg h=>?_⟩
   ·rw[Qo]
    exact Q6 _ i1
   ·rw[Qo]at h⊢
    rcases Qe.mp h with e|e
    ·exact Qe.mpr (.inl e)
    ·exact Q6 _ (i2 g e)
theorem lF (f:Str) (v:V):∀fs:List (Str×V),(aV f v fs).length≤fs.length+1
 | []=>by simp[aV]
 |(k,x)::r=>by
  have ih:=lF f v r
  rw[show aV f v ((k,x)::r)=(if k=f then(k,v)::r else(k,x)::aV f v r) from rfl]
  by_cases hk:k=f
  ·rw[if_pos hk,Q9,Q9];omega
  ·rw[if_neg hk,Q9,Q9];omega
theorem RelO.some_of {v:V} {o:Option Value} (r:RelO (some v) o):∃u,o=some u∧RelV v u:=by
 cases o with
 |none=>exact(show False from r).elim
 |some u=>exact⟨u,rfl,r⟩
theorem RelO.none_of {o:Option Value} (r:RelO none o):o=none:=by
 cases o with
 |none=>rfl
 |some u=>exact(show False from r).elim
theorem pJ {v:V} {u:Value} (r:RelV v u):PySem.W.handedIn u=true:=by
 cases v with
 |non=>cases (show u=Value.none from r);rfl
 |bl b=>cases (show u=Value.bool b from r);rfl
 |int i=>obtain⟨t,e⟩:=(show ∃t,u=Value.int i t from r);cases e;rfl
 |str x=>obtain⟨t,e⟩:=(show ∃t,u=Value.str x t from r);cases e;rfl
 |byt b=>obtain⟨t,e⟩:=(show ∃t,u=Value.bytes b t from r);cases e;rfl
 |flt b=>obtain⟨t,e⟩:=(show ∃t,u=Value.float b t from r);cases e;rfl
 |ref a=>cases (show u=Value.ref a from r);rfl
 |ty n=>cases (show u=Value.type n from r);rfl
section
variable {P:Program} {w:World} {H H':Hp} {h h':Heap} {a C dx:Addr} {fs fs':List (Str×V)}
theorem ins_get (hok:HOk P w H h) (e:H a=some (.ins C dx fs)):∃mA,ObjM h a dx C mA∧(∀f,RelO (fs.lookup f) (mA f))∧PySem.Within mA (fs.map (·.1))∧fs.length≤1000∧H dx=some (.own a):=by
 obtain⟨d,z,ne,ob,mA,n,r,q⟩:=(show ObjOk P w H h a (.ins C dx fs) from hok a _ e)
 exact⟨mA,⟨ob,n,ne⟩,r,q,z,d⟩
end
structure Cls (K:PySem.W.Frag) (C:Addr):Prop where
 pg:PySem.W.plainGet K C Str.empty=true
 hd:PySem.W.hasDictIn K C=true
 po:PySem.W.plainOver K C=true
 sa:PySem.W.findIn K (.ref C) "__setattr__"=some (some (.builtin "object.__setattr__"))
theorem Cls.get {K:PySem.W.Frag} {C:Addr} (c:Cls K C) (f:Str):PySem.W.plainGet K C f=true:=c.pg
def NoAttr (K:PySem.W.Frag) (C:Addr) (f:Str):Prop:=PySem.W.findIn K (.ref C) f=some none
theorem NoAttr.taker {K:PySem.W.Frag} {C:Addr} {f:Str} (n:NoAttr K C f):PySem.W.takerIn K C f=some none:=by
 unfold PySem.W.takerIn
 rw[show PySem.W.findIn K (.ref C) f=some none from n]
 rfl
structure bS (K:PySem.W.Frag) (C:Addr) (m:Str) (f:Addr):Prop where
 at_:PySem.W.findIn K (.ref C) m=some (some (.ref f))
 fn:PySem.W.isFn K (.ref f)=true
 kp:PySem.W.keepIn K (.ref f)=true
section
variable {X:Cx} {pins:List (Addr×Obj)} {σ:St} {H:Hp} {s:Shared} {a C dx:Addr} {fs:List (Str×V)} {f:Str} {v:V} {A:Around} {E:Value→Shared→Prop}
theorem nW {b:Bool} {Q:Value→Shared→Prop} (I:Inv X pins σ H s) (e:H a=some (.ins C dx fs)) (c:Cls X.K C) (n:NoAttr X.K C f) (l:fs.lookup f=some v)
  (h:∀u s',Inv X pins σ H s'→RelV v u→Q u s'):wpAny (model X.prog X.w) A (getAttr (.ref a) f b) Q E s:=by
 obtain⟨mA,O,r,_,_,_⟩:=ins_get I.hok e
 obtain⟨u,hu,ru⟩:=RelO.some_of (v:=v) (o:=mA f) (by rw[←l];exact r f)
 exact zp I.kIn O (c.get f) c.hd n hu (pJ ru) (h u _ (I.tok _) ru)
theorem gF {m:Str} {g:Addr} {pl:Sem Bool} {Q:Value×List Value→Shared→Prop} (I:Inv X pins σ H s) (e:H a=some (.ins C dx fs)) (c:Cls X.K C) (k:bS X.K C m g) (l:fs.lookup m=none)
  (h:Q (.ref g,[.ref a]) s):wpAny (model X.prog X.w) A (getMethod (.ref a) m pl) Q E s:=by
 obtain⟨mA,O,r,_,_,_⟩:=ins_get I.hok e
 have hn:mA m=none:=RelO.none_of (by rw[←l];exact r m)
 exact xy I.kIn O (c.get m) k.at_ k.fn hn h
theorem mM {y:V} {u:Value} {Q:Unit→Shared→Prop} (I:Inv X pins σ H s) (e:H a=some (.ins C dx fs)) (c:Cls X.K C) (n:NoAttr X.K C f) (hl:fs.length<1000) (ry:RelV y u)
  (h:∀s',Inv X pins σ (upd H a (.ins C dx (aV f y fs))) s'→Q () s'):wpAny (model X.prog X.w) A (setAttr (.ref a) f u) Q E s:=by
 obtain⟨mA,O,r,wi,_,ho⟩:=ins_get I.hok e
 have hz:(fs.map (·.1)).length≤sizeLine:=by rw[Q2,sizeLine_eq];omega
 refine yK I.kIn O c.sa c.po n.taker c.hd wi hz λh' O' sb=>h _ ?_
 have hd:∃o,h'.get? dx=some o:=let⟨o,_,_,e',_⟩:=O'.ns;⟨o,e'⟩
 refine I.write (x:=a) (e:=dx) (by rw[e];exact True.intro) (.inr ho) (λb q hb z=>(sb.2 b hb).trans z) hd ?_
 refine⟨by rw[ac O.ne];exact ho,?_,O.ne,O'.obj,_,O'.ns,λg=>?_,λg hg=>?_⟩
 ·have:=lF f y fs;omega
 ·show RelO ((aV f y fs).lookup g) (if g=f then some u else mA g)
  rw[bG]
  by_cases q:g=f
  ·rw[if_pos q,if_pos q];exact ry
  ·rw[if_neg q,if_neg q];exact r g
 ·by_cases q:g=f
  ·rw[q];exact(kU f y fs).1
  ·refine(kU f y fs).2 g (wi g λz=>hg ?_)
   show(if g=f then some u else mA g)=none
   rw[if_neg q];exact z
theorem Inv.made (I:Inv X pins σ H s):Inv X pins σ (upd (upd H s.heap.objs.size (.own (s.heap.objs.size+1))) (s.heap.objs.size+1) (.ins C s.heap.objs.size []))
  {s with heap:=(s.heap.push PySem.W.emptyDict).push (PySem.W.instObj C s.heap.objs.size)}:=by
 have e1:(s.heap.push PySem.W.emptyDict).get? s.heap.objs.size=some PySem.W.emptyDict:=Heap.get?_push_size s.heap rfl
 have e2:((s.heap.push PySem.W.emptyDict).push (PySem.W.instObj C s.heap.objs.size)).get? (s.heap.objs.size+1)=some (PySem.W.instObj C s.heap.objs.size):=by
  have:=Heap.get?_push_size (s.heap.push PySem.W.emptyDict) (o:=PySem.W.instObj C s.heap.objs.size) rfl
  rwa [Heap.size_push]at this
 have e3:(s.heap.push PySem.W.emptyDict).Ns s.heap.objs.size (λ_=>none):=⟨PySem.W.emptyDict, #[],_,e1,rfl,(λe he=>absurd he (by simp)),λ_=>rfl⟩
 have I1:=I.laid (a:=s.heap.objs.size) (o:= .own (s.heap.objs.size+1)) (h':=s.heap.push PySem.W.emptyDict) (t':=s.toks) (λb u q=>Heap.get?_push_of_some _ q) (Q5 _) ⟨_,e1⟩
 refine I1.laid (a:=s.heap.objs.size+1) (o:= .ins C s.heap.objs.size []) (t':=s.toks) (λb u q=>Heap.get?_push_of_some _ q) (Zp (Heap.size_push _ _)) ?_
 have ne:s.heap.objs.size≠s.heap.objs.size+1:=Qq (Xc _)
 refine⟨by rw[ac ne,af],Qk _,ne,e2,λ_=>none,(Heap.Ns1.of_empty e3).at λo q=>Heap.get?_push_of_some _ q,λ_=>True.intro,λy hy=>absurd rfl hy⟩
theorem uN {prog:Program} {w:World} {env:Env} {e:Expr} {f:Str} {pos:Pos} {s:Shared} {Q:Value→Shared→Prop} (hb:attributeBase e f env (eval e env)=eval e env)
  (h:wpAny (model prog w) A (eval e env) (λo s₁=>wpAny (model prog w) A (getAttr o f true) Q E s₁) E s):wpAny (model prog w) A (eval (.Attribute e f pos) env) Q E s:=
 Attribute_any_ h (by rw[arm_eval_Attribute,hb])
end
def tFld (K:PySem.W.Frag) (ta:TE) (f:Str):TE:=λσ H Q=>ta σ H λx H1=>∃a C dx fs v,x= .ref a∧H1 a=some (.ins C dx fs)∧Cls K C∧NoAttr K C f∧fs.lookup f=some v∧Q v H1
def sFld (K:PySem.W.Frag) (ta tv:TE) (f:Str):TS:=λD σ H=>tv σ H λy H1=>ta σ H1 λx H2=>∃a C dx fs,x= .ref a∧H2 a=some (.ins C dx fs)∧Cls K C∧NoAttr K C f∧fs.length<1000∧
 D.nx σ (upd H2 a (.ins C dx (aV f y fs)))
def zH (X:Cx) (op:Operator) (rd:V→V→Hp→VK→Prop):Prop:=
 ∀(pins:List (Addr×Obj)) (s:Shared) (σ:St) (H:Hp) (x y:V) (u v:Value) (Q:VK),Inv X pins σ H s→RelV x u→RelV y v→rd x y H Q→wpAny (model X.prog X.w) X.A (inplaceOp op u v) (EP X pins σ Q) X.xe s
def yL (K:PySem.W.Frag) (ta tv:TE) (rd:V→V→Hp→VK→Prop) (f:Str):TS:=λD σ H=>ta σ H λx H1=>∃a C dx fs v,x= .ref a∧H1 a=some (.ins C dx fs)∧Cls K C∧NoAttr K C f∧fs.lookup f=some v∧
 tv σ H1 λy H2=>rd v y H2 λz H3=>∃dx' fs',H3 a=some (.ins C dx' fs')∧fs'.length<1000∧D.nx σ (upd H3 a (.ins C dx' (aV f z fs')))
section
variable {X:Cx} {o e value:Expr} {f:Str} {pos pos' tpos:Pos} {ta tv:TE}
theorem ar (he:PE X e ta) (hb:attributeBase e f X.env (eval e X.env)=eval e X.env):PE X (.Attribute e f pos) (tFld X.K ta f):=by
 intro pins s σ H Q I h
 refine uN hb (thn (he pins s σ H _ I h) λu s1 hzz=>?_)
 obtain⟨x,H1,I1,rx,a,C,dx,fs,v,ex,ea,c,n,l,q⟩:=hzz
 subst ex
 obtain rfl:u=Value.ref a:=rx
 exact nW I1 ea c n l λu' s2 I2 ru=>⟨v,H1,I2,ru,q⟩
theorem bB (ha:PE X o ta) (hv:PE X value tv) (hs:swapsWith value (some (.Attribute o f pos')) pos.line X.env=pure false):PS X (.Assign [.Attribute o f pos'] value pos) (sFld X.K ta tv f):=by
 intro pins s σ H D I h
 refine plainObj_wpAny_Assign_Attribute (thn (hv pins s σ H _ I h) λu s1 ⟨y,H1,I1,ry,q⟩=>thn (ha pins s1 σ H1 _ I1 q) λov s2 hzz=>?_) hs
 obtain⟨x,H2,I2,rx,a,C,dx,fs,ex,ea,c,n,l,q2⟩:=hzz
 subst ex
 obtain rfl:ov=Value.ref a:=rx
 exact mM I2 ea c n l ry λs3 I3=>⟨σ,_,I3,q2⟩
theorem iH {op:Operator} {rd:V→V→Hp→VK→Prop} (ha:PE X o ta) (hv:PE X value tv) (hop:zH X op rd):PS X (.AugAssign (.Attribute o f tpos) op value pos) (yL X.K ta tv rd f):=by
 intro pins s σ H D I h
 refine wpAny_AugAssign_AttributeAny (thn (ha pins s σ H _ I h) λov s1 hzz=>?_)
 obtain⟨x,H1,I1,rx,a,C,dx,fs,v,ex,ea,c,n,l,q⟩:=hzz
 subst ex
 obtain rfl:ov=Value.ref a:=rx
 refine nW I1 ea c n l λu s2 I2 ru=>thn (hv pins s2 σ H1 _ I2 q) λw3 s3 ⟨y,H2,I3,ry,q3⟩=>thn (hop pins s3 σ H2 v y u w3 _ I3 ru ry q3) λw4 s4 hzz=>?_
 obtain⟨z,H3,I4,rz,dx',fs',ea',l',q4⟩:=hzz
 exact mM I4 ea' c n l' rz λs5 I5=>⟨σ,_,I5,q4⟩
def rAdd:V→V→Hp→VK→Prop:=λx y H Q=>∃i j,x= .int i∧y= .int j∧Q (.int (i+j)) H
def rSub:V→V→Hp→VK→Prop:=λx y H Q=>∃i j,x= .int i∧y= .int j∧Q (.int (i-j)) H
theorem tK:zH X .Add rAdd:=by
 rintro pins s σ H x y u v Q I rx ry ⟨i,j,rfl,rfl,q⟩
 obtain⟨t,rfl⟩:=(show ∃t,u=Value.int i t from rx)
 obtain⟨t',rfl⟩:=(show ∃t',v=Value.int j t' from ry)
 exact PyProof.Rows.iadd_int ⟨.int (i+j),H,I.tok _,⟨_,rfl⟩,q⟩
theorem xr:zH X .Sub rSub:=by
 rintro pins s σ H x y u v Q I rx ry ⟨i,j,rfl,rfl,q⟩
 obtain⟨t,rfl⟩:=(show ∃t,u=Value.int i t from rx)
 obtain⟨t',rfl⟩:=(show ∃t',v=Value.int j t' from ry)
 exact PyProof.Rows.isub_int ⟨.int (i-j),H,I.tok _,⟨_,rfl⟩,q⟩
theorem Aa {pl:Sem Bool} {m:Str} {apos:Pos} {args:List Expr} {pins:List (Addr×Obj)} {s:Shared} {σ:St} {H:Hp} {Q:Value→Shared→Prop} {te:TE} (he:PE X e te) (I:Inv X pins σ H s)
  (h:te σ H λx H1=>∃a C dx fs g,x= .ref a∧H1 a=some (.ins C dx fs)∧Cls X.K C∧bS X.K C m g∧fs.lookup m=none∧
   ∀s1,Inv X pins σ H1 s1→wpAny (model X.prog X.w) X.A (callWith pos (.ref g) [.ref a] (backTo pos (starEach args X.env)) (backToKw pos (keywordEach [] X.env))) Q X.xe s1)
  (ht:eval (.Call (.Attribute e m apos) args [] pos) X.env=(do
   let ov←eval e X.env
   standAt apos.atName
   let(f,first)←holding [ov] (getMethod ov m pl)
   callWith pos f first (backTo pos (starEach args X.env)) (backToKw pos (keywordEach [] X.env)))):
  wpAny (model X.prog X.w) X.A (eval (.Call (.Attribute e m apos) args [] pos) X.env) Q X.xe s:=by
 refine Z3 (pl:=pl) (thn (he pins s σ H _ I h) λu s1 hzz=>?_) ht
 obtain⟨x,H1,I1,rx,a,C,dx,fs,g,ex,ea,c,k,l,q⟩:=hzz
 subst ex
 obtain rfl:u=Value.ref a:=rx
 exact gF I1 ea c k l (q s1 I1)
end
section
variable {X:Cx} {pins:List (Addr×Obj)} {σ:St} {H:Hp} {s:Shared} {A:Around} {E:Value→Shared→Prop} {Q:Value→Shared→Prop} {c:Value} {b:Bool}
inductive TyOf (K:PySem.W.Frag) (H:Hp):V→Value→Prop where
 |non:TyOf K H .non (.type "NoneType")
 |bl (x:Bool):TyOf K H (.bl x) (.type "bool")
 |int (i:Int):TyOf K H (.int i) (.type "int")
 |str (x:Str):TyOf K H (.str x) (.type "str")
 |flt (x:UInt64):TyOf K H (.flt x) (.type "float")
 |lst {a:Addr} {xs:List V} (e:H a=some (.lst xs)):TyOf K H (.ref a) (.type "list")
 |frz {a:Addr} {o:Obj} {xs:List V} (e:H a=some (.frz o (.lst xs))):TyOf K H (.ref a) (.type "list")
 |tup {a:Addr} {xs:List V} (e:H a=some (.tup xs)):TyOf K H (.ref a) (.type "tuple")
 |dK {a:Addr} {kvs:List (Key×V)} (e:H a=some (.dK kvs)):TyOf K H (.ref a) (.type "dict")
 |dT {a:Addr} {kvs:List (List Key×V)} (e:H a=some (.dT kvs)):TyOf K H (.ref a) (.type "dict")
 |ins {a C dx:Addr} {fs:List (Str×V)} (e:H a=some (.ins C dx fs)) (cl:Cls K C) (ha:PySem.W.findIn K (.ref C) "__class__"=some (some (.builtin "object.__class__")))
   (hn:PySem.W.specialIn K (.builtin "object.__class__") "__get__"=some (some (.builtin "getset_descriptor.__get__"))) (htk:PySem.W.takesIn K (.builtin "object.__class__")=some true)
   (hm:PySem.W.mroIn K C (.type "object")=some true):TyOf K H (.ref a) (.ref C)
theorem pI {x:V} {u t:Value} (I:Inv X pins σ H s) (rx:RelV x u) (ty:TyOf X.K H x t) (e:PySem.W.kitOne X.K t c=some b) (h:∀tk,Q (.bool b) {s with toks:=tk}):
  wpAny (model X.prog X.w) A (call (.builtin "isinstance") [u,c]) Q E s:=by
 cases ty with
 |non=>cases (show u=Value.none from rx);exact QN PySem.W.kitx_none I.kIn True.intro e (λz=>nomatch z) h
 |bl y=>cases (show u=Value.bool y from rx);exact QN PySem.W.kitx_bool I.kIn True.intro e (λz=>nomatch z) h
 |int i=>obtain⟨t,q⟩:=(show ∃t,u=Value.int i t from rx);cases q;exact QN PySem.W.kitx_int I.kIn True.intro e (λz=>nomatch z) h
 |str y=>obtain⟨t,q⟩:=(show ∃t,u=Value.str y t from rx);cases q;exact QN PySem.W.kitx_str I.kIn True.intro e (λz=>nomatch z) h
 |flt y=>obtain⟨t,q⟩:=(show ∃t,u=Value.float y t from rx);cases q;exact QN PySem.W.kitx_float I.kIn True.intro e (λz=>nomatch z) h
 | @lst a xs ea=>
  cases (show u=Value.ref a from rx)
  obtain⟨_,_,n,_,h1⟩:=(show ObjOk X.prog X.w H s.heap a (.lst xs) from I.hok a _ ea)
  exact QN PySem.W.kitx_list I.kIn ⟨_,h1,rfl⟩ e (λz=>nomatch z) h
 | @frz a ob xs ea=>
  cases (show u=Value.ref a from rx)
  obtain⟨_,_,_,n,_,h1⟩:=(show ObjOk X.prog X.w H s.heap a (.frz ob (.lst xs)) from I.hok a _ ea)
  exact QN PySem.W.kitx_list I.kIn ⟨_,h1,rfl⟩ e (λz=>nomatch z) h
 | @tup a xs ea=>
  cases (show u=Value.ref a from rx)
  obtain⟨_,_,_,p⟩:=(show ObjOk X.prog X.w H s.heap a (.tup xs) from I.hok a _ ea)
  obtain⟨o,h1,h2,_⟩:=p
  exact QN PySem.W.kitx_tuple I.kIn ⟨o,h1,h2⟩ e (λz=>nomatch z) h
 | @dK a kvs ea=>
  cases (show u=Value.ref a from rx)
  obtain⟨_,_,vs,_,p⟩:=(show ObjOk X.prog X.w H s.heap a (.dK kvs) from I.hok a _ ea)
  obtain⟨o,es,ep,h1,h2,_⟩:=p
  exact QN PySem.W.kitx_dict I.kIn ⟨o,h1,h2.1⟩ e (λz=>nomatch z) h
 | @dT a kvs ea=>
  cases (show u=Value.ref a from rx)
  obtain⟨_,_,xs,_,o,es,ep,h1,h2,_⟩:=(show ObjOk X.prog X.w H s.heap a (.dT kvs) from I.hok a _ ea)
  exact QN PySem.W.kitx_dict I.kIn ⟨o,h1,h2.1⟩ e (λz=>nomatch z) h
 | @ins a C dx fs ea cl ha hn htk hm=>
  cases (show u=Value.ref a from rx)
  obtain⟨mA,O,_⟩:=ins_get I.hok ea
  obtain⟨od,J,_⟩:=O.look
  exact QN (PySem.W.kitx_own (cl.get _) cl.hd ha hn htk hm) I.kIn J e (λz=>nomatch z) h
end
end L2
namespace L2
open PySem PySem.Spec PyProof.Rows
structure Room (k:Nat) (A:Around):Prop where
 hd:A.handled=none
 dp:A.depth+3*k+5<recursionLimit
 un:A.units+16*k+200<cLine
theorem Room.mono {j k:Nat} {A:Around} (r:Room k A) (h:j≤k):Room j A:=⟨r.hd,by have:=r.dp;omega,by have:=r.un;omega⟩
theorem Room.deeper {k:Nat} {A:Around} (r:Room (k+1) A) (env:Env):Room k (A.deeper env):=
 ⟨r.hd,by have:=r.dp;show A.depth+1+3*k+5<_;omega,by have:=r.un;show A.units+3+16*k+200<_;omega⟩
theorem tJ {A:Around} {C:Addr} {us:List Value} {kw:List (Str×Value)}:(A.under (.builtin "type.__call__" ⟨.ref C::us,kw⟩)).depth=A.depth+1:=by
 first|rfl|simp[Around.under,Code.weight,Code.isCreation,Code.isGuard,Code.isCaller,Code.frames,Code.isFrame,guardIds]
theorem tI {A:Around} {C:Addr} {us:List Value} {kw:List (Str×Value)}:(A.under (.builtin "type.__call__" ⟨.ref C::us,kw⟩)).units=A.units+1:=by
 first|rfl|simp[Around.under,Code.cUnits,Code.frames,Code.isFrame]
theorem Room.make {k:Nat} {A:Around} (r:Room (k+1) A) (C:Addr) (us:List Value) (kw:List (Str×Value)):Room k (A.under (.builtin "type.__call__" ⟨.ref C::us,kw⟩)):=
 ⟨r.hd,by have:=r.dp;rw[tJ];omega,by have:=r.un;rw[tI];omega⟩
theorem Room.depth {k:Nat} {A:Around} (r:Room k A):A.depth<recursionLimit:=by have:=r.dp;omega
theorem Room.units {k:Nat} {A:Around} (r:Room k A):A.units+64<cLine:=by have:=r.un;omega
def yE:TA:=λ_ H Q=>Q [] H
def zT (ta:TE) (tr:TA):TA:=λσ H Q=>ta σ H λx H1=>tr σ H1 λxs H2=>Q (x::xs) H2
section
variable {X:Cx} {e:Expr} {es:List Expr} {te:TE} {t:TA} {pos:Pos}
theorem ag:PA X [] yE:=λ_ _ _ _ H Q I h=>Calls.spliced_nil ⟨[],H,I,.nil,h⟩
theorem aa (ha:PE X e te) (hr:PA X es t) (hs:starEach (e::es) X.env=(false,eval e X.env)::starEach es X.env:=by rfl):PA X (e::es) (zT te t):=by
 intro pos pins s σ H Q I h
 rw[hs]
 show wpAny _ _ (spliced ((false,eval e X.env)::backTo pos (starEach es X.env))) _ _ s
 refine Calls.spliced_cons (thn (ha pins s σ H _ I h) λu s1 hzz=>?_)
 obtain⟨x,H1,I1,r1,q1⟩:=hzz
 exact thn (hr pos pins s1 σ H1 _ I1 q1) λus s2 ⟨xs,H2,I2,r2,q2⟩=>⟨x::xs,H2,I2,.cons r1 r2,q2⟩
def tTup (t:TA):TE:=λσ H Q=>t σ H λxs H1=>xs.length≤sizeLine∧∀p,H1 p=none→Q (.ref p) (upd H1 p (.tup xs))
def tLst (t:TA):TE:=λσ H Q=>t σ H λxs H1=>xs.length≤sizeLine∧∀p,H1 p=none→Q (.ref p) (upd H1 p (.lst xs))
theorem jk {x1} (h:PA X es t):PE X (.Tuple es x1 pos) (tTup t):=by
 intro pins s σ H Q I hq
 refine wpAny_Tuple_spliced (thn (h pos pins s σ H _ I hq) λus s1 ⟨xs,H1,I1,r,z,q⟩=>⟨by rw[←r.length];exact z,?_⟩)
 have hf:H1 s1.heap.objs.size=none:=I1.hok.fresh (Q5 _)
 refine⟨.ref s1.heap.objs.size,upd H1 s1.heap.objs.size (.tup xs),I1.laid (t':=s1.toks) (λb u e=>Heap.get?_push_of_some _ e) (Q5 _) ?_,rfl,q _ hf⟩
 exact⟨z,us,r,⟨_,Heap.get?_push_size _ rfl,rfl,_,rfl⟩⟩
theorem dZ (h:PA X es t):PE X (.List es pos) (tLst t):=by
 intro pins s σ H Q I hq
 refine wpAny_List_spliced (thn (h pos pins s σ H _ I hq) λus s1 ⟨xs,H1,I1,r,z,q⟩=>⟨by rw[←r.length];exact z,?_⟩)
 have hf:H1 s1.heap.objs.size=none:=I1.hok.fresh (Q5 _)
 refine⟨.ref s1.heap.objs.size,upd H1 s1.heap.objs.size (.lst xs),I1.laid (t':=s1.toks) (λb u e=>Heap.get?_push_of_some _ e) (Q5 _) ?_,rfl,q _ hf⟩
 exact⟨z,us,0,r,Heap.get?_push_size _ rfl⟩
end
abbrev Sp:=List V→Hp→VK→XK→Prop
abbrev CXT:=List Env→Hp→Shared→XK→Value→Shared→Prop
structure Env0 (P:Program) (w:World) (K:PySem.W.Frag) (mg:Str→Option Value) (base:Heap) (A:Around) (outer:List Env) (s:Shared) (H:Hp):Prop where
 frames:A.frames=some outer
 mod:Mod K mg base
 bs:∀b o,base.get? b=some o→s.heap.get? b=some o∧H b=none
 bsz:base.objs.size≤s.heap.objs.size
 funs:s.heap.FunFrames base outer
 frf:∀b∈frs outer,H b=none
 hok:HOk P w H s.heap
 bare:AllBare s.gens
def CE (outer:List Env) (P:Program) (w:World) (H:Hp) (s:Shared) (Q:VK) (u:Value) (s':Shared):Prop:=
 ∃v H',s'.os=s.os∧AllBare s'.gens∧Un (frs outer) [] H H' s.heap s'.heap∧HOk P w H' s'.heap∧RelV v u∧Q v H'
def CR (CX:CXT) (outer:List Env) (P:Program) (w:World) (H:Hp) (s:Shared) (Q:VK) (E:XK) (r:Result) (s':Shared):Prop:=
 match r with
 | .ok (.ret u)=>CE outer P w H s Q u s'
 | .ok _=>False
 | .error e=>CX outer H s E e s'
structure aX (P:Program) (w:World) (K:PySem.W.Frag) (mg:Str→Option Value) (base:Heap) (CX:CXT) (k:Nat) (f:Addr) (fd:FuncData) (ps:List Str) (sp:Sp):Prop where
 len:∀vs H Q E,sp vs H Q E→vs.length=ps.length
 run:∀(A:Around) (outer:List Env) (s:Shared) (H:Hp) (args:Args) (us:List Value) (vs:List V) (Q:VK) (E:XK),Room k A→Env0 P w K mg base A outer s H→BindsTo s fd args (ps.zip us)→Vals vs us→sp vs H Q E→
  codeAny (model P w) A (.call (.ref f) args) (CR CX outer P w H s Q E) s
theorem Env0.make {P:Program} {w:World} {K:PySem.W.Frag} {mg:Str→Option Value} {base:Heap} {A:Around} {outer:List Env} {s:Shared} {H:Hp} (e:Env0 P w K mg base A outer s H) (C:Addr) (us:List Value) (kw:List (Str×Value)):
  Env0 P w K mg base (A.under (.builtin "type.__call__" ⟨.ref C::us,kw⟩)) outer s H:=⟨by first|exact e.frames|(simpa[Around.under,Code.envs,Code.isFrame,pushEnvs]using e.frames),e.mod,e.bs,e.bsz,e.funs,e.frf,e.hok,e.bare⟩
section
variable {X:Cx} {pins:List (Addr×Obj)} {σ:St} {H:Hp} {s s':Shared}
theorem Inv.env0 (I:Inv X pins σ H s):Env0 X.prog X.w X.K X.mg X.base X.A X.stack s H:=
 ⟨I.ok.frames,I.ok.mod,I.bs,Qv I.ok.bsz I.sz,I.stack,I.stkFree,I.hok,I.bare⟩
theorem Inv.after {Q:VK} {u:Value} (I:Inv X pins σ H s) (h:CE X.stack X.prog X.w H s Q u s'):EP X pins σ Q u s':=by
 obtain⟨v,H',os,bare,un,hok,r,q⟩:=h
 obtain⟨hh,g,d,t,os'⟩:=s'
 obtain rfl:os'=s.os:=os
 exact⟨v,H',I.call (h':=hh) (g':=g) (d':=d) (t':=t) (ch:=[]) un hok bare (λb z=>absurd z (by simp)),r,q⟩
end
def zU (sp:Sp) (dvs:List V) (E:XK) (t:TA):TE:=λσ H Q=>t σ H λvs H1=>sp (vs++dvs) H1 Q E
def zR (C:Addr) (m:Str) (sp:Sp) (dvs:List V) (E:XK) (ta:TE) (t:TA):TE:=λσ H Q=>ta σ H λx H1=>∃a dx fs,x= .ref a∧H1 a=some (.ins C dx fs)∧fs.lookup m=none∧
 t σ H1 λvs H2=>sp (x::(vs++dvs)) H2 Q E
def Bx (C:Addr) (sp:Sp) (dvs:List V) (E:XK) (t:TA):TE:=λσ H Q=>t σ H λvs H1=>∀x dx,H1 x=none→H1 dx=none→dx≠x→
 sp (.ref x::(vs++dvs)) (upd (upd H1 dx (.own x)) x (.ins C dx [])) (λv H2=>v= .non∧Q (.ref x) H2) E
def Binds (K:PySem.W.Frag) (fd:FuncData) (ps:List Str) (ds:List Value):Prop:=
 ∀(s:Shared) (us:List Value),K.In s.heap→(us++ds).length=ps.length→BindsTo s fd ⟨us,[]⟩ (ps.zip (us++ds))
theorem Binds.all {K:PySem.W.Frag} {fd:FuncData} {ps:List Str} (h:∀us:List Value,us.length=ps.length→bindArgs fd ⟨us,[]⟩=pure (ps.zip us)):Binds K fd ps []:=λs us _ hl=>by
 rw[List.append_nil]at hl⊢
 exact .of_eq (h us hl)
def dC (CX:CXT) (X:Cx) (E:XK):Prop:=∀(pins:List (Addr×Obj)) (σ:St) (H:Hp) (s:Shared) (e:Value) (s':Shared),Inv X pins σ H s→CX X.stack H s E e s'→X.xe e s'
section
variable {X:Cx} {CX:CXT} {k:Nat} {f C:Addr} {fd:FuncData} {ps:List Str} {sp:Sp} {dvs:List V} {ds:List Value} {E:XK} {x m:Str} {p pos apos:Pos} {e o:Expr} {es:List Expr} {ta:TE} {t:TA}
theorem qo {pins:List (Addr×Obj)} {σ:St} {H:Hp} {s:Shared} {Q:VK} {us:List Value} {vs:List V} (F:aX X.prog X.w X.K X.mg X.base CX k f fd ps sp) (hr:Room k X.A) (hb:Binds X.K fd ps ds) (hd:Vals dvs ds) (hx:dC CX X E)
  (I:Inv X pins σ H s) (r:Vals vs us) (h:sp (vs++dvs) H Q E):wpAny (model X.prog X.w) X.A (call (.ref f) us) (EP X pins σ Q) X.xe s:=by
 have r2:Vals (vs++dvs) (us++ds):=r.append hd
 have hl:(us++ds).length=ps.length:=by rw[←r2.length];exact F.len _ _ _ _ h
 refine wpAny_call (codeAny_mono (F.run X.A X.stack s H ⟨us,[]⟩ (us++ds) (vs++dvs) Q E hr I.env0 (hb s us I.kIn hl) r2 h) λr s' hq=>?_)
 cases r with
 |error e=>exact hx pins σ H s e s' I hq
 |ok fl=>
  cases fl with
  |ret u=>exact I.after hq
  |next=>exact False.elim hq
  |brk=>exact False.elim hq
  |cont=>exact False.elim hq
theorem aQ (F:aX X.prog X.w X.K X.mg X.base CX k f fd ps sp) (hr:Room k X.A) (hg:Gl X x) (hm:X.mg x=some (.ref f)) (hk:PySem.W.keepIn X.K (.ref f)=true) (hb:Binds X.K fd ps ds) (hd:Vals dvs ds) (hx:dC CX X E)
  (ha:PA X (e::es) t) (hdb:(x==("__debug__":Str))=false:=by decide) (he:starEach (e::es) X.env=(false,eval e X.env)::starEach es X.env:=by rfl) (hpl:(backTo pos (starEach es X.env)).any (·.1)=false:=by rfl):
  PE X (.Call (.Name x p) (e::es) [] pos) (zU sp dvs E t):=by
 intro pins s σ H Q I h
 refine wpAny_Call_Name_kw (gB I hg hm ?_ hdb)
 refine Zm (h₀:=X.base) I.ok.mod.kin hk (thn (ha pos pins s σ H _ I h) λus s1 ⟨vs,H1,I1,r,q⟩=>⟨I1.kIn,?_⟩) he hpl
 exact qo F hr hb hd hx I1 r q
theorem aK {pl:Sem Bool} (he:PE X o ta) (c:Cls X.K C) (hm:bS X.K C m f) (F:aX X.prog X.w X.K X.mg X.base CX k f fd ps sp) (hr:Room k X.A) (hb:Binds X.K fd ps ds) (hd:Vals dvs ds) (hx:dC CX X E) (ha:PA X (e::es) t)
  (hst:starEach (e::es) X.env=(false,eval e X.env)::starEach es X.env:=by rfl) (hpl:(backTo pos (starEach es X.env)).any (·.1)=false:=by rfl)
  (ht:eval (.Call (.Attribute o m apos) (e::es) [] pos) X.env=(do
   let ov←eval o X.env
   standAt apos.atName
   let(f,first)←holding [ov] (getMethod ov m pl)
   callWith pos f first (backTo pos (starEach (e::es) X.env)) (backToKw pos (keywordEach [] X.env))):=by rfl):
  PE X (.Call (.Attribute o m apos) (e::es) [] pos) (zR C m sp dvs E ta t):=by
 intro pins s σ H Q I h
 refine Z3 (pl:=pl) (thn (he pins s σ H _ I h) λu s1 hzz=>?_) ht
 obtain⟨x,H1,I1,rx,a,dx,fs,ex,ea,l,q⟩:=hzz
 subst ex
 obtain rfl:u=Value.ref a:=rx
 refine gF I1 ea c hm l ?_
 refine Zm (first:=[.ref a]) (h₀:=X.base) I.ok.mod.kin hm.kp (thn (ha pos pins s1 σ H1 _ I1 q) λus s2 ⟨vs,H2,I2,r,q2⟩=>⟨I2.kIn,?_⟩) hst hpl
 exact qo (us:= .ref a::us) (vs:= .ref a::vs) F hr hb hd hx I2 (.cons rfl r) q2
theorem b8 {pl:Sem Bool} (he:PE X o ta) (c:Cls X.K C) (hm:bS X.K C m f) (F:aX X.prog X.w X.K X.mg X.base CX k f fd ps sp) (hr:Room k X.A) (hb:Binds X.K fd ps ds) (hd:Vals dvs ds) (hx:dC CX X E)
  (ht:eval (.Call (.Attribute o m apos) [] [] pos) X.env=(do
   let ov←eval o X.env
   standAt apos.atName
   let(f,first)←holding [ov] (getMethod ov m pl)
   callWith pos f first (backTo pos (starEach [] X.env)) (backToKw pos (keywordEach [] X.env))):=by rfl):
  PE X (.Call (.Attribute o m apos) [] [] pos) (zR C m sp dvs E ta yE):=by
 intro pins s σ H Q I h
 refine Z3 (pl:=pl) (thn (he pins s σ H _ I h) λu s1 hzz=>?_) ht
 obtain⟨x,H1,I1,rx,a,dx,fs,ex,ea,l,q⟩:=hzz
 subst ex
 obtain rfl:u=Value.ref a:=rx
 refine gF I1 ea c hm l ?_
 exact PySem.W.callWith_K0 (first:=[.ref a]) I1.kIn hm.kp (qo (us:=[.ref a]) (vs:=[.ref a]) F hr hb hd hx I1 (.cons rfl .nil) q)
structure Mk (K:PySem.W.Frag) (C f:Addr):Prop where
 makes:PySem.W.makesIn K C=true
 init:PySem.W.findIn K (.ref C) "__init__"=some (some (.ref f))
 fn:PySem.W.isFn K (.ref f)=true
 kp:PySem.W.keepIn K (.ref C)=true
theorem wL {pins:List (Addr×Obj)} {σ:St} {H:Hp} {s:Shared} {Q:VK} {us:List Value} {vs:List V} (M:Mk X.K C f) (F:aX X.prog X.w X.K X.mg X.base CX k f fd ps sp) (hr:Room (k+1) X.A) (hb:Binds X.K fd ps ds) (hd:Vals dvs ds)
  (hx:dC CX X E) (I:Inv X pins σ H s) (r:Vals vs us)
  (h:∀x dx,H x=none→H dx=none→dx≠x→sp (.ref x::(vs++dvs)) (upd (upd H dx (.own x)) x (.ins C dx [])) (λv H2=>v= .non∧Q (.ref x) H2) E):
  wpAny (model X.prog X.w) X.A (call (.ref C) us) (EP X pins σ Q) X.xe s:=by
 have hq:=h (s.heap.objs.size+1) s.heap.objs.size (I.hok.fresh (Z9 _)) (I.hok.fresh (Q5 _)) (Qq (Xc _))
 have I2:=Inv.made (C:=C) I
 have r2:Vals (V.ref (s.heap.objs.size+1)::(vs++dvs)) (Value.ref (s.heap.objs.size+1)::(us++ds)):= .cons rfl (r.append hd)
 have hl:(Value.ref (s.heap.objs.size+1)::us++ds).length=ps.length:=by
  have e:=r2.length
  rw[F.len _ _ _ _ hq]at e
  exact e.symm
 refine wpAny_call (xi (f:=f) I.kIn M.makes M.init (beq_iff_eq.mp M.fn) (codeAny_mono (F.run _ X.stack _ _ ⟨Value.ref (s.heap.objs.size+1)::us,[]⟩ (Value.ref (s.heap.objs.size+1)::(us++ds)) _ _ E (hr.make C us [])
  (I2.env0.make C us []) (hb _ (Value.ref (s.heap.objs.size+1)::us) I2.kIn hl) r2 hq) λr s' hq'=>?_))
 cases r with
 |error e=>exact hx pins σ _ _ e s' I2 hq'
 |ok fl=>
  cases fl with
  |ret u=>
   obtain⟨v,H',I3,rv,ev,q3⟩:=I2.after hq'
   subst ev
   exact⟨rv,⟨V.ref (s.heap.objs.size+1),H',I3,rfl,q3⟩⟩
  |next=>exact False.elim hq'
  |brk=>exact False.elim hq'
  |cont=>exact False.elim hq'
theorem fV (M:Mk X.K C f) (F:aX X.prog X.w X.K X.mg X.base CX k f fd ps sp) (hr:Room (k+1) X.A) (hg:Gl X x) (hm:X.mg x=some (.ref C)) (hb:Binds X.K fd ps ds) (hd:Vals dvs ds) (hx:dC CX X E)
  (hdb:(x==("__debug__":Str))=false:=by decide):PE X (.Call (.Name x p) [] [] pos) (Bx C sp dvs E yE):=by
 intro pins s σ H Q I h
 refine wpAny_Call_Name_kw (gB I hg hm ?_ hdb)
 exact PySem.W.callWith_K0 I.kIn M.kp (wL (us:=[]) M F hr hb hd hx I .nil h)
end
structure ax (N P:List Str) (sc:Scope):Prop where
 kind:sc.kind= .function
 co:sc.isCoroutine=false
 gen:sc.isGenerator=false
 nd:N.Nodup
 pre:N.take P.length=P
 par:∀x∈P,sc.names.lookup x=some .local∨sc.names.lookup x=some .cell
 nofree:∀y∈sc.names,y.2≠ .free
theorem pW {kindOf:Str→Option NameKind} {x:Str}:∀{binds:List (Str×Value)} {m:Str→Option Value},(∀v,(x,v)∉binds)→bindL kindOf binds m x=m x
 | [],_,_=>rfl
 |(n,v)::r,m,h=>by
  unfold bindL
  rw[pW λw hw=>h w (Q6 _ hw)]
  split
  ·have:x≠n:=by rintro rfl;exact h v Q8
   simp[this]
  ·rfl
theorem pY {kindOf:Str→Option NameKind} {x:Str}:∀{binds:List (Str×Value)} {m:Str→Option Value},(∀v,(x,v)∉binds)→bindC kindOf binds m x=m x
 | [],_,_=>rfl
 |(n,v)::r,m,h=>by
  unfold bindC
  rw[pY λw hw=>h w (Q6 _ hw)]
  split
  ·rfl
  ·have:x≠n:=by rintro rfl;exact h v Q8
   simp[this]
theorem pX {kindOf:Str→Option NameKind} {x:Str} {v:Value}:∀{P:List Str} {vs:List Value} {i:Nat} {m:Str→Option Value},P.Nodup→P[i]?=some x→vs[i]?=some v→kindOf x=some .local→
  bindL kindOf (P.zip vs) m x=some v
 | [],_,_,_,_,h,_,_=>by simp at h
 |_::_,[],_,_,_,_,h,_=>by simp at h
 |p::P,w::vs,0,m,nd,h1,h2,hk=>by
  simp at h1 h2;subst h1;subst h2
  show bindL kindOf ((p,w)::P.zip vs) m p=_
  unfold bindL
  rw[pW λv hv=>(Qs.mp nd).1 (ZQ hv).1,if_pos hk]
  simp
 |p::P,w::vs,i+1,m,nd,h1,h2,hk=>by
  show bindL kindOf ((p,w)::P.zip vs) m x=_
  unfold bindL
  exact pX (i:=i) (Qs.mp nd).2 (by simpa using h1) (by simpa using h2) hk
theorem pZ {kindOf:Str→Option NameKind} {x:Str} {v:Value}:∀{P:List Str} {vs:List Value} {i:Nat} {m:Str→Option Value},P.Nodup→P[i]?=some x→vs[i]?=some v→kindOf x≠some .local→
  bindC kindOf (P.zip vs) m x=some v
 | [],_,_,_,_,h,_,_=>by simp at h
 |_::_,[],_,_,_,_,h,_=>by simp at h
 |p::P,w::vs,0,m,nd,h1,h2,hk=>by
  simp at h1 h2;subst h1;subst h2
  show bindC kindOf ((p,w)::P.zip vs) m p=_
  unfold bindC
  rw[pY λv hv=>(Qs.mp nd).1 (ZQ hv).1,if_neg hk]
  simp
 |p::P,w::vs,i+1,m,nd,h1,h2,hk=>by
  show bindC kindOf ((p,w)::P.zip vs) m x=_
  unfold bindC
  exact pZ (i:=i) (Qs.mp nd).2 (by simpa using h1) (by simpa using h2) hk
def start (N:List Str) (vs:List V):St:=vs.map some++List.replicate (N.length-vs.length) none
def k8 (CX:CXT) (P:Program) (w:World) (K:PySem.W.Frag) (mg:Str→Option Value) (base:Heap) (N:List Str) (qual:Str) (scope:Scope) (f:Addr) (cd:Value) (A:Around) (outer:List Env) (s:Shared) (H:Hp) (E:XK):Cx where
 prog:=P
 w:=w
 K:=K
 mg:=mg
 base:=base
 A:=A.deeper (envOfC qual scope s.heap.objs.size f cd)
 N:=N
 s₀:=s
 H₀:=H
 env:=envOfC qual scope s.heap.objs.size f cd
 outer:=outer
 stack:=envOfC qual scope s.heap.objs.size f cd::outer
 ex:=[]
 calm:=true
 fn:=λ_=>true
 pn:=[]
 xe:=λe s'=>wpAny (model P w) (A.deeper (envOfC qual scope s.heap.objs.size f cd)) (leaving (envOfC qual scope s.heap.objs.size f cd) e) (λ_ s''=>CX outer H s E e s'') (λe' s''=>CX outer H s E e' s'') s'
theorem sv {sc:Scope} {n:Nat} {x:Str} (h:sc.names.lookup x=some .cell):∃c,(cellsFrom n sc.names []).lookup x=some c:=by
 have q:=PySem.W.cellsFrom_some sc.names n [] (.inl h)
 exact ZC.mp q
theorem vM {CX:CXT} {P:Program} {w:World} {K:PySem.W.Frag} {mg:Str→Option Value} {base:Heap} {N ps:List Str} {qual:Str} {scope:Scope} {f:Addr} {cd:Value} {A:Around} {outer:List Env} {s s1:Shared} {H:Hp} {E:XK} {us:List Value} {vs:List V}
  (S:ax N ps scope) (hd:A.handled=none) (e0:Env0 P w K mg base A outer s H) (hl:vs.length=ps.length) (r:Vals vs us)
  (x:InCallC s s.heap.objs.size (bindL (envOfC qual scope s.heap.objs.size f cd).kindOf (ps.zip us) λ_=>none) (cellsFrom (s.heap.objs.size+1) scope.names []) (bindC (envOfC qual scope s.heap.objs.size f cd).kindOf (ps.zip us) λ_=>none) s1):
  Inv (k8 CX P w K mg base N qual scope f cd A outer s H E) [] (start N vs) H s1:=by
 have hpl:ps.length≤N.length:=by have:=congrArg List.length S.pre;rw[Qj]at this;omega
 obtain⟨h1,tk,rfl,hk⟩:=x.done
 have noA:∀b:Addr,b∉(k8 CX P w K mg base N qual scope f cd A outer s H E).ex:=λb z=>absurd (show b∈([]:List Addr) from z) (by simp)
 refine⟨⟨e0.mod,S.kind,rfl,rfl,Q5 _,λy z c h1 h2=>?_,λy hy=>?_,λy c _ h=>?_,λ_=>hd,Around.frames_deeper e0.frames,.inr ⟨rfl,rfl⟩,λb z=>absurd z (noA b),e0.bs,e0.bsz,λb _ _=>noA b,λb z=>absurd z (noA b),e0.funs,e0.frf⟩,
  rfl,e0.bare,Un.kept hk,⟨_,x.toInCall.ns,λi y v h1 h2 h3=>?_⟩,λy c h=>⟨_,x.cell y c h⟩,e0.hok.fresh (Q5 _),λy c h=>?_,λp hp=>absurd (show p∈([]:List (Addr×Obj)) from hp) (by simp),e0.hok.kept hk,?_⟩
 ·exact name_of_addr x.apart (PySem.mem_of_lookup h1) (PySem.mem_of_lookup h2)
 ·have hy:scope.names.lookup y=some .cell∨scope.names.lookup y=some .free:=hy
  rcases hy with hy|hy
  ·exact sv hy
  ·exact absurd rfl (S.nofree _ (PySem.mem_of_lookup hy))
 ·exact QO (x.above y c (PySem.mem_of_lookup h))
 ·have hi:i<vs.length:=by
   unfold start at h2
   by_cases hi:i<vs.length
   ·exact hi
   ·rw[QP (by simpa using hi)]at h2
    rw[List.getElem?_replicate]at h2
    split at h2<;>cases h2
  have ha:vs[i]?=some v:=by
   unfold start at h2
   rw[QS (by simpa using hi),Qc]at h2
   cases e:vs[i]? with
   |none=>rw[e]at h2;cases h2
   |some a=>rw[e]at h2;cases h2;rfl
  obtain⟨u,hu,rv⟩:=r.get ha
  have hp:ps[i]?=some y:=by
   rw[←S.pre,List.getElem?_take_of_lt (by omega)];exact h1
  have ndP:ps.Nodup:=by rw[←S.pre];exact S.nd.sublist (List.take_sublist _ _)
  refine⟨u,rv,?_⟩
  rcases S.par y (Q0 hp)with k|k
  ·exact .inl ⟨k,pX ndP hp hu k⟩
  ·obtain⟨c,e⟩:=sv (n:=s.heap.objs.size+1) k
   refine .inr ⟨.inl k,c,e,?_⟩
   have q:=x.cell y c e
   rw[pZ ndP hp hu (by show scope.names.lookup y≠_;rw[k];decide)]at q
   exact q
 ·exact e0.hok.fresh (QO (x.above y c (PySem.mem_of_lookup h)))
 ·unfold start
  show _=N.length
  rw[Qa,Q2,Z4]
  omega
theorem uD {CX:CXT} {P:Program} {w:World} {K:PySem.W.Frag} {mg:Str→Option Value} {base:Heap} {k:Nat} {f:Addr} {name qual:Str} {params:Arguments} {body:List Stmt} {scope:Scope} {dV kV doc pm cdv ct oc:Value} {an od:Option Addr}
  {osl:Array (Option Value)} {N ps:List Str} {sp:Sp} (lk:K.lookup f=some ⟨oc,od,.func (PySem.W.fnOf name qual params body scope dV kV doc pm an cdv ct),osl⟩) (hcd:PySem.W.codeIn K cdv qual=true) (S:ax N ps scope)
  (len:∀vs H Q E,sp vs H Q E→vs.length=ps.length)
  (hbody:∀(A:Around) (outer:List Env) (s:Shared) (H:Hp) (vs:List V) (Q:VK) (E:XK),Room k (A.deeper (envOfC qual scope s.heap.objs.size f cdv))→sp vs H Q E→
   ∃t,PSs (k8 CX P w K mg base N qual scope f cdv A outer s H E) body t∧t {nx:=λ_ H'=>Q .non H',rt:=Q} (start N vs) H):
  aX P w K mg base CX (k+1) f (PySem.W.fnOf name qual params body scope dV kV doc pm an cdv ct) ps sp:=by
 refine⟨len,λA outer s H args us vs Q E hr e0 hb r hsp=>?_⟩
 have hl:=len _ _ _ _ hsp
 have KX:K.In s.heap:=e0.mod.kin.keeps λb o e=>(e0.bs b o e).1
 have lim:s.heap.NoLimit:=e0.mod.nolimit.keeps λb o e=>(e0.bs b o e).1
 have hkind:∀y∈ps.zip us,scope.names.lookup y.1=some .local∨(scope.names.lookup y.1=some .cell∧((cellsFrom (s.heap.objs.size+1) scope.names []).lookup y.1).isSome=true):=λ⟨n,v⟩ hy=>by
  rcases S.par n (ZQ hy).1 with q|q
  ·exact .inl q
  ·exact .inr ⟨q,PySem.W.cellsFrom_some _ _ _ (.inl q)⟩
 refine codeAny_call_function hr.depth (KX _ _ lk) rfl S.co S.gen rfl (PySem.W.codeRec_of KX hcd) (hb _ _ _ _ ?_)
 refine wpAny_newFunctionEnv_cells S.kind hkind λenv he s1 x=>?_
 subst he
 refine⟨lim.keeps x.toInCall.keep,codeAny_func ?_⟩
 obtain⟨t,ht,hq⟩:=hbody A outer s H vs Q E (hr.deeper _) hsp
 have I:Inv (k8 CX P w K mg base N qual scope f cdv A outer s H E) [] (start N vs) H s1:=vM S hr.hd e0 hl r x
 refine wpAny_mono (ht [] s1 (start N vs) H _ I hq) (λfl s' hs=>?_) λe s' hs=>hs
 have fin:∀{σ':St} {H':Hp} {v:V} {u:Value},Inv (k8 CX P w K mg base N qual scope f cdv A outer s H E) [] σ' H' s'→RelV v u→Q v H'→CE outer P w H s Q u s':=
  λ{σ' H' v u} J rv q=>⟨v,H',J.os,J.bare,J.base,J.hok,rv,q⟩
 cases fl with
 |ret u=>
  obtain⟨v,σ',H',J,rv,q⟩:=hs
  exact fin J rv q
 |next=>
  obtain⟨σ',H',J,q⟩:=hs
  exact fin (v:=V.non) (u:=Value.none) J rfl q
 |brk=>
  obtain⟨_,_,_,q⟩:=hs
  exact False.elim q
 |cont=>
  obtain⟨_,_,_,q⟩:=hs
  exact False.elim q
end L2
namespace L2
open PySem PySem.Spec PyProof.Rows
section
variable {X:Cx} {x:Str} {p pos:Pos} {e:Expr} {es:List Expr} {t:TA} {id T:String} {r:List V→Hp→VK→Prop}
def tCB (r:List V→Hp→VK→Prop) (t:TA):TE:=λσ H Q=>t σ H λvs H1=>r vs H1 Q
theorem au (hc:gf X (.builtin id) r) (hg:Gl X x) (hm:X.mg x=none) (hv:bootBuiltins x=some (.builtin id)) (ha:PA X (e::es) t) (hn:x≠"__name__":=by decide) (hdb:(x==("__debug__":Str))=false:=by decide)
  (he:starEach (e::es) X.env=(false,eval e X.env)::starEach es X.env:=by rfl) (hpl:(backTo pos (starEach es X.env)).any (·.1)=false:=by rfl):PE X (.Call (.Name x p) (e::es) [] pos) (tCB r t):=by
 intro pins s σ H Q I h
 refine wpAny_Call_Name_kw (kT I hg hm hv ?_ hn hdb)
 exact PyProof.Rows.callWith_builtin1 (thn (ha pos pins s σ H _ I h) λus s1 ⟨vs,H1,I1,r1,q1⟩=>hc pins s1 σ H1 vs us Q I1 r1 q1) he hpl
theorem vi (hc:gf X (.type T) r) (hg:Gl X x) (hm:X.mg x=none) (hv:bootBuiltins x=some (.type T)) (ha:PA X (e::es) t) (hn:x≠"__name__":=by decide) (hdb:(x==("__debug__":Str))=false:=by decide)
  (he:starEach (e::es) X.env=(false,eval e X.env)::starEach es X.env:=by rfl) (hpl:(backTo pos (starEach es X.env)).any (·.1)=false:=by rfl):PE X (.Call (.Name x p) (e::es) [] pos) (tCB r t):=by
 intro pins s σ H Q I h
 refine wpAny_Call_Name_kw (kT I hg hm hv ?_ hn hdb)
 exact PyProof.Rows.callWith_type1 (thn (ha pos pins s σ H _ I h) λus s1 ⟨vs,H1,I1,r1,q1⟩=>hc pins s1 σ H1 vs us Q I1 r1 q1) he hpl
end
end L2
namespace HT
open PySem PyProof.Rows
def lexLt:List Int→List Int→Bool
 | [],[]=>false
 | [],_::_=>true
 |_::_,[]=>false
 |x::xs,y::ys=>if x=y then lexLt xs ys else decide (x<y)
theorem lexLt_cons (x y:Int) (xs ys:List Int):lexLt (x::xs) (y::ys)=if x=y then lexLt xs ys else decide (x<y):=rfl
theorem lexLt_nil_nil:lexLt [] []=false:=rfl
theorem lexLt_nil_cons (y:Int) (ys:List Int):lexLt [] (y::ys)=true:=rfl
theorem lexLt_cons_nil (x:Int) (xs:List Int):lexLt (x::xs) []=false:=rfl
section
variable {prog:Program} {w:World} {A:Around} {E:Value→Shared→Prop} {s:Shared}
def sIx (n d:Nat):Option Int→Nat
 |none=>d
 |some v=>if v<0 then(v+(n:Int)).toNat else min v.toNat n
end
end HT
namespace L2
open PySem PySem.Spec PyProof.Rows
abbrev TO:=St→Hp→(Option Int→Hp→Prop)→Prop
def PO (X:Cx) (e:Option Expr) (t:TO):Prop:=
 ∀(pins:List (Addr×Obj)) (s:Shared) (σ:St) (H:Hp) (Q:Option Int→Hp→Prop),Inv X pins σ H s→t σ H Q→
  wpAny (model X.prog X.w) X.A (evalPart e X.env) (λu s'=>∃o H',Inv X pins σ H' s'∧IsPart u o∧Q o H') X.xe s
def yD:TO:=λ_ H Q=>Q none H
def Bu (t:TE):TO:=λσ H Q=>t σ H λx H1=>∃i,x= .int i∧Q (some i) H1
theorem nV {ns:List Int}:∀{us:List Value},Vals (ns.map V.int) us→IntsAre us ns:=by
 induction ns with
 |nil=>intro us r;rw[List.map_nil]at r;cases r;exact .nil
 |cons n ns ih=>
  intro us r
  rw[Qo]at r
  cases r with
  |cons r1 r2=>
   obtain⟨t,e⟩:=r1
   subst e
   exact .cons n t (ih r2)
section
variable {X:Cx} {e:Expr} {te:TE} {lo hi:Option Expr} {tl th:TO} {pos p2:Pos}
theorem jV:PO X none yD:=by
 intro pins s σ H Q I h
 rw[evalPart_none]
 exact wpAny_pure ⟨none,H,I,.none,h⟩
theorem jU (h:PE X e te):PO X (some e) (Bu te):=by
 intro pins s σ H Q I hw
 rw[evalPart_some]
 refine thn (h pins s σ H _ I hw) λu s1 hzz=>?_
 obtain⟨x,H1,I1,r1,q1⟩:=hzz
 obtain⟨i,rfl,q⟩:=q1
 obtain⟨t,rfl⟩:=r1
 exact⟨some i,H1,I1,.int i t,q⟩
def SlR (X:Cx) (r:V→Option Int→Option Int→Hp→VK→Prop):Prop:=
 ∀(pins:List (Addr×Obj)) (s:Shared) (σ:St) (H:Hp) (x:V) (v vl vu:Value) (lo hi:Option Int) (sl:Addr) (Q:VK),Inv X pins σ H s→RelV x v→s.heap.IsSliceOf sl vl vu .none→IsPart vl lo→IsPart vu hi→r x lo hi H Q→
  ∃T id,typeLookup (.type T) "__getitem__"=pure (some (.builtin id))∧s.TypeIs v T∧wpAny (model X.prog X.w) X.A (getItem v (.ref sl)) (EP X pins σ Q) X.xe s
def tSl (r:V→Option Int→Option Int→Hp→VK→Prop) (te:TE) (tl th:TO):TE:=λσ H Q=>te σ H λx H1=>tl σ H1 λl H2=>th σ H2 λu H3=>r x l u H3 Q
theorem hU {r:V→Option Int→Option Int→Hp→VK→Prop} (hr:SlR X r) (he:PE X e te) (hl:PO X lo tl) (hu:PO X hi th):PE X (.Subscript e (.Slice lo hi none p2) pos) (tSl r te tl th):=by
 intro pins s σ H Q I h
 refine Subscript_ (thn (he pins s σ H _ I h) λv s1 hzz=>?_)
 obtain⟨x,H1,I1,r1,q1⟩:=hzz
 refine wpAny_Slice (thn (hl pins s1 σ H1 _ I1 q1) λvl s2 ⟨l,H2,I2,pl,q2⟩=>thn (hu pins s2 σ H2 _ I2 q2) λvu s3 hzz=>?_)
 obtain⟨u,H3,I3,pu,q3⟩:=hzz
 rw[evalPart_none]
 refine wpAny_pure ?_
 have I4:Inv X pins σ H3 {s3 with heap:=s3.heap.push {cls:= .type "slice",data:= .fields #[vl,vu,.none]}}:=I3.kept (t':=s3.toks) λb ob q=>Heap.get?_push_of_some _ q
 obtain⟨T,id,hT,ht,hg⟩:=hr pins {s3 with heap:=s3.heap.push {cls:= .type "slice",data:= .fields #[vl,vu,.none]}} σ H3 x v vl vu l u s3.heap.objs.size Q I4 r1 (Heap.IsSliceOf.new ..) pl pu q3
 show wpAny (model X.prog X.w) X.A (subscriptTail e (.Slice lo hi none p2) v (.ref s3.heap.objs.size)) (EP X pins σ Q) X.xe {s3 with heap:=s3.heap.push {cls:= .type "slice",data:= .fields #[vl,vu,.none]}}
 exact tail_any (ops:=[.ref s3.heap.objs.size,v]) ht hT hg (by with_unfolding_all rfl)
def n8 (xs:List V) (lo hi:Option Int):List V:=(xs.drop (HT.sIx xs.length 0 lo)).take (HT.sIx xs.length xs.length hi-HT.sIx xs.length 0 lo)
theorem ss (xs:List V) (lo hi:Option Int):(n8 xs lo hi).length≤xs.length:=by
 unfold n8
 rw[Qj,QV]
 omega
end
end L2
namespace L2
open PySem PySem.Spec PyProof.Rows
def ixN (n:Nat) (i:Int):Option Nat:=if 0≤i then(if i<n then some i.toNat else none)else if-(n:Int)≤i then some (i+n).toNat else none
def atI {α:Type} (xs:List α) (i:Int):Option α:=(ixN xs.length i).bind λj=>xs[j]?
theorem uz {n:Nat} {i:Int} {j:Nat} (h:ixN n i=some j):seqIndex? i n=some j∧j<n∧-(n:Int)≤i∧i<n:=by
 unfold ixN at h
 by_cases h0:0≤i
 ·rw[if_pos h0]at h
  by_cases h1:i<n
  ·rw[if_pos h1]at h
   have e:i.toNat=j:=Option.some.inj h
   exact⟨by rw[seqIndex_of h0 h1,e],by omega,by omega,h1⟩
  ·rw[if_neg h1]at h;cases h
 ·rw[if_neg h0]at h
  by_cases h1: -(n:Int)≤i
  ·rw[if_pos h1]at h
   have e:(i+n).toNat=j:=Option.some.inj h
   exact⟨by rw[seqIndex_neg (by omega) h1,e],by omega,h1,by omega⟩
  ·rw[if_neg h1]at h;cases h
theorem uP {α:Type} {xs:List α} {i:Int} {v:α} (h:atI xs i=some v):∃j,seqIndex? i xs.length=some j∧xs[j]?=some v∧j<xs.length∧-(xs.length:Int)≤i∧i<xs.length:=by
 unfold atI at h
 cases e:ixN xs.length i with
 |none=>rw[e]at h;cases h
 |some j=>
  rw[e]at h
  obtain⟨h1,h2,h3,h4⟩:=uz e
  exact⟨j,h1,h,h2,h3,h4⟩
theorem kg {α:Type} {xs:List α} {j:Nat} {v:α} (h:xs[j]?=some v):atI xs (j:Int)=some v:=by
 have hj:j<xs.length:=(Q3.mp h).1
 have e:ixN xs.length (j:Int)=some j:=by
  unfold ixN
  rw[if_pos (by omega),if_pos (by omega)];simp
 unfold atI;rw[e];exact h
theorem sB {α:Type} (xs:List α) (v:α):atI (xs++ [v]) (-1)=some v:=by
 have hl:(xs++ [v]).length=xs.length+1:=by simp
 have e:ixN (xs++ [v]).length (-1)=some xs.length:=by
  unfold ixN
  rw[hl,if_neg (by decide),if_pos (by omega)]
  congr 1
  omega
 unfold atI
 rw[e]
 show(xs++ [v])[xs.length]?=some v
 simp
def zG (b:Expr):Prop:=∀o i,subscripted b false o i=operate [o,i] (getItem o i)
def IxR (X:Cx) (r:R2):Prop:=
 ∀(value slice:Expr) (pins:List (Addr×Obj)) (s:Shared) (σ:St) (H:Hp) (x y:V) (v u:Value) (Q:VK),Inv X pins σ H s→RelV x v→RelV y u→r x y H Q→
  subscripted slice false v u=operate [v,u] (getItem v u)→wpAny (model X.prog X.w) X.A (subscriptTail value slice v u) (EP X pins σ Q) X.xe s
def MtR (X:Cx) (id:String) (r:V→List V→Hp→VK→Prop):Prop:=
 ∀(pins:List (Addr×Obj)) (s:Shared) (σ:St) (H:Hp) (x:V) (xs:List V) (v:Value) (us:List Value) (Q:VK),Inv X pins σ H s→RelV x v→Vals xs us→r x xs H Q→
  wpAny (model X.prog X.w) X.A (call (.builtin id) (v::us)) (EP X pins σ Q) X.xe s
section
variable {X:Cx} {a b:Expr} {ta tb:TE} {pos:Pos}
theorem ba {r:R2} (hr:IxR X r) (ha:PE X a ta) (hb:PE X b tb) (hs:zG b):PE X (.Subscript a b pos) (tOp r ta tb):=by
 intro pins s σ H Q I h
 exact Subscript_ (Bh ha hb I h λv u s2 x y H2 I2 rx ry q=>hr a b pins s2 σ H2 x y v u Q I2 rx ry q (hs _ _))
def rIxL (K:PySem.W.Frag):R2:=λx y H Q=>∃p xs i v,x= .ref p∧y= .int i∧SqL K H p xs∧atI xs i=some v∧Q v H
def rIxT (K:PySem.W.Frag):R2:=λx y H Q=>∃p xs i v,x= .ref p∧y= .int i∧SqT K H p xs∧atI xs i=some v∧Q v H
theorem aS:IxR X (rIxL X.K):=by
 intro value slice pins s σ H x y v u Q I rx ry h hs
 obtain⟨p,xs,i,z,rfl,rfl,hq,he,q⟩:=h
 cases rx
 obtain⟨t,rfl⟩:=ry
 obtain⟨its,r,pl,hz⟩:=I.list hq
 obtain⟨j,h1,h2,h3,h4,h5⟩:=uP he
 obtain⟨w,ew,rw'⟩:=r.get h2
 have hl:=r.length
 have hn:=nR
 have fin:EP X pins σ Q w s:=⟨z,H,I,rw',q⟩
 by_cases h0:0≤i
 ·have hj:i.toNat=j:=by
   rw[seqIndex_of h0 h5]at h1
   exact Option.some.inj h1
  exact item_listR pl.isList h0 (by omega) (by rw[hj];simpa using ew) fin hs
 ·have hj:(i+(its.toArray.size:Int)).toNat=j:=by
   rw[seqIndex_neg (by omega) h4]at h1
   rw[Qd,←hl]
   exact Option.some.inj h1
  exact subscriptTail_builtinR (x:=w) pl.isList.typeIs slot_list_getitem.lookup
   (wpAny_getItem_list_neg (Q:=λr s'=>r=w∧EP X pins σ Q r s') pl.isList (by omega) (by rw[Qd]<;>omega) (by omega) (by rw[hj];simpa using ew) ⟨rfl,fin⟩) hs
theorem jv:IxR X (rIxT X.K):=by
 intro value slice pins s σ H x y v u Q I rx ry h hs
 obtain⟨p,xs,i,z,rfl,rfl,hq,he,q⟩:=h
 cases rx
 obtain⟨t,rfl⟩:=ry
 obtain⟨its,r,pl,hz⟩:=I.tuple hq
 obtain⟨j,h1,h2,h3,h4,h5⟩:=uP he
 obtain⟨w,ew,rw'⟩:=r.get h2
 have hl:=r.length
 have hn:=nR
 have fin:EP X pins σ Q w s:=⟨z,H,I,rw',q⟩
 exact subscriptTail_builtinR (x:=w) pl.typeIs slot_tuple_getitem.lookup
  (getItem_tuple (j:=j) (Q:=λr s'=>r=w∧EP X pins σ Q r s') pl (by omega) (by omega) (by rw[Qd,←hl];exact h1) (by simpa using ew) ⟨rfl,fin⟩) hs
theorem tH (its:List Value) (n j:Nat) (u:Value):Obj.mapSeq (·.setIfInBounds j u) {cls:= .type "list",data:= .seq its.toArray n}={cls:= .type "list",data:= .seq (its.set j u).toArray n}:=by
 simp[Obj.mapSeq]
theorem Inv.lst {pins:List (Addr×Obj)} {σ:St} {H:Hp} {s:Shared} {p:Addr} {xs:List V} (I:Inv X pins σ H s) (h:H p=some (.lst xs)):
  ∃(its:List Value) (n:Nat),Vals xs its∧s.heap.get? p=some {cls:= .type "list",data:= .seq its.toArray n}∧xs.length≤sizeLine:=by
 obtain⟨z,its,n,r,e⟩:=I.hok p _ h
 exact⟨its,n,r,e,z⟩
theorem Inv.lstUpd {pins:List (Addr×Obj)} {σ:St} {H:Hp} {s:Shared} {p:Addr} {xs ys:List V} {its its':List Value} {n n':Nat} {f:Obj→Obj} (I:Inv X pins σ H s) (h:H p=some (.lst xs))
  (ho:s.heap.get? p=some {cls:= .type "list",data:= .seq its.toArray n}) (hf:f {cls:= .type "list",data:= .seq its.toArray n}={cls:= .type "list",data:= .seq its'.toArray n'}) (r:Vals ys its') (hz:ys.length≤sizeLine) (t:Nat):
  Inv X pins σ (upd H p (.lst ys)) {s with heap:=s.heap.update p f,toks:=t}:=by
 have e:(s.heap.update p f).get? p=some {cls:= .type "list",data:= .seq its'.toArray n'}:=by
  rw[Heap.get?_update_self f ho (by rw[hf]<;>rfl),hf]
 refine I.write (x:=p) (e:=p) (by rw[h];trivial) (.inl rfl) (λb u hb q=>(Heap.get?_update_other _ _ (Ne.symm hb)).trans q) ⟨_,e⟩ ?_
 exact⟨hz,its',n',r,e⟩
def BH:V→V→V→Hp→(Hp→Prop)→Prop:=λo i v H Q=>∃p xs k j,o= .ref p∧i= .int k∧H p=some (.lst xs)∧ixN xs.length k=some j∧Q (upd H p (.lst (xs.set j v)))
theorem mN:PSet X BH:=by
 intro pins s σ H o i v ov iv u Q I ro ri rv h
 obtain⟨p,xs,k,j,rfl,rfl,hp,hj,q⟩:=h
 cases ro
 obtain⟨t,rfl⟩:=ri
 obtain⟨its,n,r,ho,hz⟩:=I.lst hp
 obtain⟨h1,h2,h3,h4⟩:=uz hj
 have hl:=r.length
 have hn:=nR
 have I':Inv X pins σ (upd H p (.lst (xs.set j v))) {s with heap:=s.heap.update p (Obj.mapSeq (·.setIfInBounds j u))}:=
  I.lstUpd hp ho (tH its n j u) (r.set rv j) (by rw[Qt];exact hz) s.toks
 by_cases h0:0≤k
 ·have hk:k.toNat=j:=by
   rw[seqIndex_of h0 h4]at h1
   exact Option.some.inj h1
  exact PySem.W.ki_setAt ho h0 (by omega) (by rw[Qd,←hl];exact h4) (by rw[hk];exact⟨_,I',q⟩)
 ·have hk:(k+(its.toArray.size:Int)).toNat=j:=by
   rw[seqIndex_neg (by omega) h3]at h1
   rw[Qd,←hl]
   exact Option.some.inj h1
  exact PySem.W.ki_setBack ho (by omega) (by rw[Qd,←hl];exact h3) (by omega) (by rw[hk];exact⟨_,I',q⟩)
theorem qi (lo hi:Option Int) (n:Nat):(sliceBounds lo hi none n).1=((HT.sIx n 0 lo:Nat):Int)∧(sliceBounds lo hi none n).2.1=((HT.sIx n n hi:Nat):Int)∧(sliceBounds lo hi none n).2.2=1:=by
 refine⟨?_,?_,rfl⟩
 ·cases lo with
  |none=>simp[sliceBounds,HT.sIx]
  |some i=>
   simp only[sliceBounds,HT.sIx,Option.getD_none,show(1:Int)>0 by decide,if_true]
   by_cases h:i<0
   ·simp only[h,if_true]<;>omega
   ·simp only[h,if_false]<;>omega
 ·cases hi with
  |none=>simp[sliceBounds,HT.sIx]
  |some i=>
   simp only[sliceBounds,HT.sIx,Option.getD_none,show(1:Int)>0 by decide,if_true]
   by_cases h:i<0
   ·simp only[h,if_true]<;>omega
   ·simp only[h,if_false]<;>omega
theorem oG (its:List Value) (lo hi:Option Int):slicePick its.toArray lo hi none=((its.drop (HT.sIx its.length 0 lo)).take (HT.sIx its.length its.length hi-HT.sIx its.length 0 lo)).toArray:=by
 obtain⟨h1,h2,h3⟩:=qi lo hi its.toArray.size
 unfold slicePick
 rw[h1,h2,h3]
 simp only[sliceRange_one,pick_run,Qd]<;>rfl
def rSlL (K:PySem.W.Frag):V→Option Int→Option Int→Hp→VK→Prop:=λx lo hi H Q=>∃a xs,x= .ref a∧SqL K H a xs∧∀p,H p=none→Q (.ref p) (upd H p (.lst (n8 xs lo hi)))
theorem jM:SlR X (rSlL X.K):=by
 intro pins s σ H x v vl vu lo hi sl Q I rx hs pl pu h
 obtain⟨a,xs,rfl,hx,q⟩:=h
 cases rx
 obtain⟨its,r,ht,hz⟩:=I.list hx
 have hlen:=r.length
 refine⟨"list",_,slot_list_getitem.lookup,ht.isList.typeIs,?_⟩
 refine wpAny_getItem_list_slice ht.isList hs pl pu .none (by simp) ?_ (by rw[Qd]<;>omega)
 rw[oG,←hlen]
 refine⟨.ref s.heap.objs.size,_,I.laid (t':=s.toks) (o:= .lst (n8 xs lo hi)) (λb ob q=>Heap.get?_push_of_some _ q) (Q5 _) ?_,rfl,q _ (I.hok.fresh (Q5 _))⟩
 exact⟨Qv (ss xs lo hi) hz,_,0,(r.drop (HT.sIx xs.length 0 lo)).take (HT.sIx xs.length xs.length hi-HT.sIx xs.length 0 lo),Heap.get?_push_size _ rfl⟩
def ka:V→Bool
 | .non=>true
 | .bl _=>true
 | .int _=>true
 | .str _=>true
 |_=>false
def eqV:V→V→Bool
 | .non,.non=>true
 | .bl a,.bl b=>a==b
 | .bl a,.int b=>(if a then 1 else 0)==b
 | .int a,.bl b=>a==(if b then 1 else 0)
 | .int a,.int b=>a==b
 | .str a,.str b=>a==b
 |_,_=>false
theorem Bb {A:Around} {s:Shared} {y x:V} {u v:Value} (ry:RelV y u) (rx:RelV x v) (fy:ka y=true) (fx:ka x=true):SeqAt.EqAt A s u v (eqV y x):=by
 cases y with
 |non=>
  cases ry
  cases x with
  |non=>cases rx;exact SeqAt.EqAt.same _
  |bl b=>cases rx;exact SeqAt.EqAt.none_bool b
  |int b=>obtain⟨t,rfl⟩:=rx;exact SeqAt.EqAt.none_int b t
  |str b=>obtain⟨t,rfl⟩:=rx;exact SeqAt.EqAt.none_str b t
  |_=>exact absurd (show false=true from fx) Q7
 |bl a=>
  cases ry
  cases x with
  |non=>cases rx;exact SeqAt.EqAt.bool_none a
  |bl b=>cases rx;exact SeqAt.EqAt.bool_bool a b
  |int b=>obtain⟨t,rfl⟩:=rx;exact SeqAt.EqAt.bool_int a b t
  |str b=>obtain⟨t,rfl⟩:=rx;exact SeqAt.EqAt.bool_str a b t
  |_=>exact absurd (show false=true from fx) Q7
 |int a=>
  obtain⟨t',rfl⟩:=ry
  cases x with
  |non=>cases rx;exact SeqAt.EqAt.int_none a t'
  |bl b=>cases rx;exact SeqAt.EqAt.int_bool a t' b
  |int b=>obtain⟨t,rfl⟩:=rx;exact SeqAt.EqAt.int_int a t' b t
  |str b=>obtain⟨t,rfl⟩:=rx;exact SeqAt.EqAt.int_str a t' b t
  |_=>exact absurd (show false=true from fx) Q7
 |str a=>
  obtain⟨t',rfl⟩:=ry
  cases x with
  |non=>cases rx;exact SeqAt.EqAt.str_none a t'
  |bl b=>cases rx;exact SeqAt.EqAt.str_bool a t' b
  |int b=>obtain⟨t,rfl⟩:=rx;exact SeqAt.EqAt.str_int a t' b t
  |str b=>obtain⟨t,rfl⟩:=rx;exact SeqAt.EqAt.str_str a t' b t
  |_=>exact absurd (show false=true from fx) Q7
 |_=>exact absurd (show false=true from fy) Q7
def eqU (x:V) (u:Value):Bool:=match u with
 | .none=>eqV .non x
 | .bool b=>eqV (.bl b) x
 | .int i _=>eqV (.int i) x
 | .str z _=>eqV (.str z) x
 |_=>false
theorem xI {x y:V} {u:Value} (r:RelV y u) (f:ka y=true):eqU x u=eqV y x:=by
 cases y with
 |non=>cases r;rfl
 |bl b=>cases r;rfl
 |int i=>obtain⟨t,rfl⟩:=r;rfl
 |str z=>obtain⟨t,rfl⟩:=r;rfl
 |_=>exact absurd (show false=true from f) Q7
theorem qW {x:V}:∀{xs:List V} {us:List Value},Vals xs us→xs.all ka=true→us.any (eqU x)=xs.any λy=>eqV y x
 |_,_,.nil,_=>rfl
 |y::xs,u::us,.cons r t,f=>by
  rw[List.all_cons,Zt]at f
  rw[Zv,Zv,xI r f.1,qW t f.2]
theorem nO {A:Around} {s:Shared} {x:V} {v:Value} (rx:RelV x v) (fx:ka x=true):∀{xs:List V} {us:List Value},Vals xs us→xs.all ka=true→∀u∈us,SeqAt.EqAt A s u v (eqU x u)
 |_,_,.nil,_=>λu hu=>by cases hu
 |y::xs,u::us,.cons r t,f=>λu' hu=>by
  rw[List.all_cons,Zt]at f
  rcases Qe.mp hu with rfl|hu
  ·rw[xI r f.1];exact Bb r rx f.1 fx
  ·exact nO rx fx t f.2 u' hu
def inV (x:V) (xs:List V):Bool:=xs.any λy=>eqV y x
def rIn (K:PySem.W.Frag) (neg:Bool):R2:=λx y H Q=>∃p xs,y= .ref p∧(SqL K H p xs∨SqT K H p xs)∧ka x=true∧xs.all ka=true∧Q (.bl (if neg then !inV x xs else inV x xs)) H
theorem vj:OpR X (compareOp .In) (rIn X.K false):=by
 intro pins s σ H x y v u Q I rx ry h
 obtain⟨p,xs,rfl,hq,fx,fs,q⟩:=h
 cases ry
 rcases hq with hq|hq
 ·obtain⟨its,r,pl,hz⟩:=I.list hq
  refine SeqAt.in_listAt (eqU x) pl.isList (λw hw=>nO rx fx r fs w (by simpa using hw)) ⟨.bl _,H,I,rfl,?_⟩
  rw[show its.toArray.any (eqU x)=its.any (eqU x) by simp,qW r fs]
  exact q
 ·obtain⟨its,r,pl,hz⟩:=I.tuple hq
  refine SeqAt.in_tupleAt (eqU x) pl (λw hw=>nO rx fx r fs w (by simpa using hw)) ⟨.bl _,H,I,rfl,?_⟩
  rw[show its.toArray.any (eqU x)=its.any (eqU x) by simp,qW r fs]
  exact q
theorem aq:gf X (.builtin "len") (λxs H Q=>∃p ys,xs=[.ref p]∧(SqL X.K H p ys∨SqT X.K H p ys)∧Q (.int ys.length) H):=by
 intro pins s σ H xs us Q I r h
 obtain⟨p,ys,rfl,hq,q⟩:=h
 obtain⟨u,rfl,rx⟩:=mn r
 cases rx
 have hn:=nR
 rcases hq with hq|hq
 ·obtain⟨its,r',pl,hz⟩:=I.list hq
  have hlen:=r'.length
  exact Calls.call_len_list pl.isList (by simp only[Qd]<;>omega) ⟨.int ys.length,H,I.tok _,⟨s.toks+1,by rw[Qd,hlen]⟩,q⟩
 ·obtain⟨its,r',pl,hz⟩:=I.tuple hq
  have hlen:=r'.length
  exact len_tuple pl (by simp only[Qd]<;>omega) ⟨.int ys.length,H,I.tok _,⟨s.toks+1,by rw[Qd,hlen]⟩,q⟩
def tyV (K:PySem.W.Frag) (T:String) (x:V) (H:Hp):Prop:=match x with
 | .str _=>T="str"
 | .int _=>T="int"
 | .ref p=>(T="list"∧∃xs,SqL K H p xs)∨(T="tuple"∧∃o,K.lookup p=some o∧o.cls= .type "tuple"∧o.dict=none)∨
   (T="dict"∧((∃kvs,H p=some (.dK kvs))∨∃kvs,H p=some (.dT kvs)))∨(T="set"∧∃S n,H p=some (.set S n))
 |_=>False
theorem wB {pins:List (Addr×Obj)} {σ:St} {H:Hp} {s:Shared} {T:String} {x:V} {v:Value} (I:Inv X pins σ H s) (r:RelV x v) (ty:tyV X.K T x H):
  s.TypeIs v T∧∀a,v= .ref a→∃ob,s.heap.get? a=some ob∧ob.dict=none:=by
 cases x with
 |str z=>
  obtain⟨t,rfl⟩:=r
  cases (show T="str" from ty)
  exact⟨typeIs_str s z t,λ_ e=>nomatch e⟩
 |int i=>
  obtain⟨t,rfl⟩:=r
  cases (show T="int" from ty)
  exact⟨typeIs_int s i t,λ_ e=>nomatch e⟩
 |ref p=>
  cases r
  rcases ty with⟨rfl,xs,hq⟩|⟨rfl,o,hk,hc,hd⟩|⟨rfl,hk⟩|⟨rfl,S,n,hk⟩
  ·obtain⟨its,_,pl,_⟩:=I.list hq
   refine⟨pl.isList.typeIs,λa e=>?_⟩
   cases e
   obtain⟨o,n,e,c,hd,_⟩:=pl
   exact⟨o,e,hd⟩
  ·refine⟨⟨o,I.kIn p o hk,hc⟩,λa e=>?_⟩
   cases e
   exact⟨o,I.kIn _ o hk,hd⟩
  ·have z:∃o,s.heap.get? p=some o∧o.ExactDict:=by
    rcases hk with⟨kvs,hk⟩|⟨kvs,hk⟩
    ·obtain⟨_,_,_,_,o,_,_,e,ex,_⟩:=I.hok p _ hk
     exact⟨o,e,ex⟩
    ·obtain⟨_,_,_,_,o,_,_,e,ex,_⟩:=I.hok p _ hk
     exact⟨o,e,ex⟩
   obtain⟨o,e,ex⟩:=z
   refine⟨⟨o,e,ex.1⟩,λa e2=>?_⟩
   cases e2
   exact⟨o,e,ex.2.1⟩
  ·obtain⟨o,_,_,_,e,ex,_⟩:=I.hok p _ hk
   refine⟨⟨o,e,ex.1⟩,λa e2=>?_⟩
   cases e2
   exact⟨o,e,ex.2.1⟩
 |_=>exact False.elim ty
def tBM0 (K:PySem.W.Frag) (T:String) (r:V→List V→Hp→VK→Prop) (to:TE):TE:=λσ H Q=>to σ H λx H1=>tyV K T x H1∧r x [] H1 Q
def tBM (K:PySem.W.Frag) (T:String) (r:V→List V→Hp→VK→Prop) (to:TE) (t:TA):TE:=λσ H Q=>to σ H λx H1=>tyV K T x H1∧t σ H1 λxs H2=>r x xs H2 Q
variable {o e:Expr} {es:List Expr} {to:TE} {t:TA} {name:Str} {apos cpos:Pos} {T id:String} {r:V→List V→Hp→VK→Prop}
theorem qr (pa:PlainAttrs T) (slot:Slot T name id) (hty:typeOf (.builtin id)=pure (.type "method_descriptor")) (hm:MtR X id r) (ho:PE X o to)
  (hbase:attributeBase o name X.env (eval o X.env)=eval o X.env:=by rfl) (hline:(apos.endLine==cpos.line)=true:=by rfl):PE X (.Call (.Attribute o name apos) [] [] cpos) (tBM0 X.K T r to):=by
 intro pins s σ H Q I h
 refine wpAny_Call_method0_late hbase hline (thn (ho pins s σ H _ I h) λv s1 hzz=>?_)
 obtain⟨x,H1,I1,r1,ty,q1⟩:=hzz
 obtain⟨h1,h2⟩:=wB I1 r1 ty
 exact⟨T,id,pa,slot,hty,h1,h2,Calls.callWith_builtin rfl (PySem.evalArgs_none (hm pins s1 σ H1 x [] v [] Q I1 r1 .nil q1))⟩
theorem cx (pa:PlainAttrs T) (slot:Slot T name id) (hty:typeOf (.builtin id)=pure (.type "method_descriptor")) (hm:MtR X id r) (ho:PE X o to) (ha:PA X (e::es) t)
  (hbase:attributeBase o name X.env (eval o X.env)=eval o X.env:=by rfl)
  (hfew:((backTo cpos (starEach (e::es) X.env)).all (λx=>!x.1)&&(backToKw cpos (keywordEach [] X.env)).all (λx=>x.1.isSome)
   &&decide ((e::es).length+([]:List Keyword).length+(if([]:List Keyword).isEmpty then 0 else 1)<30))=true:=by rfl)
  (hline:(apos.endLine==cpos.line)=true:=by rfl) (hs:starEach (e::es) X.env=(false,eval e X.env)::starEach es X.env:=by rfl) (hplain:(backTo cpos (starEach es X.env)).any (·.1)=false:=by rfl):
  PE X (.Call (.Attribute o name apos) (e::es) [] cpos) (tBM X.K T r to t):=by
 intro pins s σ H Q I h
 refine wpAny_Call_method_late hbase hfew hline rfl (thn (ho pins s σ H _ I h) λv s1 hzz=>?_)
 obtain⟨x,H1,I1,r1,ty,q1⟩:=hzz
 obtain⟨h1,h2⟩:=wB I1 r1 ty
 refine⟨T,id,pa,slot,hty,h1,h2,?_⟩
 have hA:=ha cpos pins s1 σ H1 _ I1 q1
 rw[hs]at hA⊢
 refine Calls.callWith_builtin (by show(false||(backTo cpos (starEach es X.env)).any (·.1))=false;rw[hplain]<;>rfl) (Calls.evalArgs_plain ?_)
 exact thn hA λus s2 ⟨vs,H2,I2,r2,q2⟩=>hm pins s2 σ H2 x vs v us Q I2 r1 r2 q2
end
end L2
namespace L2
open PySem PySem.Spec PyProof.Rows
def MtM (X:Cx) (id:String) (r:V→List V→Hp→VK→Prop):Prop:=
 ∀(pins:List (Addr×Obj)) (s:Shared) (σ:St) (H:Hp) (x:V) (xs:List V) (v:Value) (us:List Value) (Q:VK),Inv X pins σ H s→RelV x v→Vals xs us→r x xs H Q→
  wpAny (model X.prog X.w) X.A (call (.builtin id) (v::us)) (EP X pins σ Q) X.xe s
theorem Vals.one:∀{x:V} {us:List Value},Vals [x] us→∃u,us=[u]∧RelV x u
 |_,_,.cons r .nil=>⟨_,rfl,r⟩
theorem Vals.two:∀{x y:V} {us:List Value},Vals [x,y] us→∃u v,us=[u,v]∧RelV x u∧RelV y v
 |_,_,_,.cons r (.cons q .nil)=>⟨_,_,rfl,r,q⟩
theorem Vals.eraseIdx:∀{xs:List V} {us:List Value} (i:Nat),Vals xs us→Vals (xs.eraseIdx i) (us.eraseIdx i)
 |_,_,_,.nil=> .nil
 |_,_,0,.cons _ t=>t
 |_,_,i+1,.cons r t=> .cons r (Vals.eraseIdx i t)
theorem kS {α:Type}:∀(l:List α) (i:Nat),(l.eraseIdx i).length≤l.length
 | [],_=>Q5 _
 |_::_,0=>Z9 _
 |_::r,i+1=>Nat.succ_le_succ (kS r i)
section
variable {X:Cx} {pins:List (Addr×Obj)} {σ:St} {H:Hp} {s:Shared} {l b:Addr} {xs ys zs:List V}
theorem Inv.lset {its its':List Value} {n:Nat} {f:Array Value→Array Value} {t':Nat} (I:Inv X pins σ H s) (hH:H l=some (.lst xs))
  (e:s.heap.get? l=some {cls:= .type "list",data:= .seq its.toArray n}) (hf:f its.toArray=its'.toArray) (hv:Vals ys its') (hz:ys.length≤sizeLine):
  Inv X pins σ (upd H l (.lst ys)) {s with heap:=s.heap.update l (Obj.mapSeq f),toks:=t'}:=by
 have q:=PySem.IsL.update e f
 rw[hf]at q
 refine I.write (x:=l) (e:=l) (by rw[hH];exact trivial) (.inl rfl) (λb' u hb hu=>(Heap.get?_update_other s.heap (Obj.mapSeq f) (Ne.symm hb)).trans hu) ⟨_,q⟩ ?_
 exact⟨hz,its',_,hv,q⟩
theorem Inv.lnew {its:List Value} {t':Nat} (I:Inv X pins σ H s) (hv:Vals ys its) (hz:ys.length≤sizeLine):
  Inv X pins σ (upd H s.heap.objs.size (.lst ys)) {s with heap:=s.heap.push {cls:= .type "list",data:= .seq its.toArray},toks:=t'}:=
 I.laid (λ_ _ q=>Heap.get?_push_of_some _ q) (Q5 _) ⟨hz,its,0,hv,Heap.get?_push_size _ rfl⟩
theorem Inv.fresh (I:Inv X pins σ H s):H s.heap.objs.size=none:=I.hok.fresh (Q5 _)
theorem Inv.lstM (I:Inv X pins σ H s) (hH:H l=some (.lst xs)):xs.length≤sizeLine∧∃(its:List Value) (n:Nat),Vals xs its∧xs.length=its.length∧s.heap.get? l=some {cls:= .type "list",data:= .seq its.toArray n}:=by
 obtain⟨z,its,n,r,e⟩:=I.hok l _ hH
 exact⟨z,its,n,r,r.length,e⟩
theorem w5 {n:Nat} (h:n≤sizeLine):Builtin.List.listTooLong n=false:=by
 unfold Builtin.List.listTooLong
 exact decide_eq_false (by omega)
end
section
variable {X:Cx}
def yT:V→List V→Hp→VK→Prop:=λx vs H Q=>∃l xs y,x= .ref l∧vs=[y]∧H l=some (.lst xs)∧xs.length<sizeLine∧Q .non (upd H l (.lst (xs++ [y])))
theorem cy:MtM X "list.append" yT:=by
 intro pins s σ H x vs v us Q I rx rv h
 obtain⟨l,xs,y,rfl,rfl,hH,hz,q⟩:=h
 cases rx
 obtain⟨u,rfl,ru⟩:=rv.one
 obtain⟨z,its,n,r,hl,e⟩:=I.lstM hH
 refine call_meets F.slot_list_append ⟨_,e,rfl⟩ F.entry_list_append (F.args_list_append_2 _ _) (PySem.list_append l its.toArray n u (by rw[Qd];omega)) ⟨e,?_⟩
 refine⟨.non,_,I.lset (its':=its++ [u]) hH e (by simp) (r.append (.cons ru .nil)) ?_,rfl,q⟩
 rw[Qa,QJ]
 omega
def yS:V→List V→Hp→VK→Prop:=λx vs H Q=>∃l b xs zs,x= .ref l∧vs=[.ref b]∧H l=some (.lst xs)∧H b=some (.lst zs)∧xs.length+zs.length≤sizeLine∧Q .non (upd H l (.lst (xs++zs)))
theorem vA:MtM X "list.extend" yS:=by
 intro pins s σ H x vs v us Q I rx rv h
 obtain⟨l,b,xs,zs,rfl,rfl,hH,hB,hz,q⟩:=h
 cases rx
 obtain⟨u,rfl,ru⟩:=rv.one
 cases ru
 obtain⟨z,its,n,r,hl,e⟩:=I.lstM hH
 obtain⟨z2,its2,n2,r2,hl2,e2⟩:=I.lstM hB
 have hsz:its.toArray.size+its2.toArray.size≤sizeLine:=by rw[Qd,Qd];omega
 have hlong:¬(!its.toArray.isEmpty&&Builtin.List.listTooLong (its.toArray.size+its2.toArray.size))=true:=by
  rw[w5 hsz,Xk]
  exact Q7
 refine call_meets F.slot_list_extend ⟨_,e,rfl⟩ F.entry_list_extend (F.args_list_extend_2 _ _)
  (AutoSeq1.list_extend_list_list_0 l its.toArray n b its2.toArray n2 hlong (by rw[Qd];omega) (by omega)) ⟨e,e2,?_⟩
 refine⟨.non,_,I.lset (its':=its++its2) hH e (by simp) (r.append r2) ?_,rfl,q⟩
 rw[Qa]
 omega
def AA:V→List V→Hp→VK→Prop:=λx vs H Q=>∃l xs i k y,x= .ref l∧vs=[.int i]∧H l=some (.lst xs)∧-(2^63)≤i∧i<2^63∧seqIndex? i xs.length=some k∧xs[k]?=some y∧Q y (upd H l (.lst (xs.eraseIdx k)))
theorem rO:MtM X "list.pop" AA:=by
 intro pins s σ H x vs v us Q I rx rv h
 obtain⟨l,xs,i,k,y,rfl,rfl,hH,h1,h2,hk,hy,q⟩:=h
 cases rx
 obtain⟨u,rfl,ru⟩:=rv.one
 obtain⟨t,rfl⟩:=ru
 obtain⟨z,its,n,r,hl,e⟩:=I.lstM hH
 obtain⟨w,hw,rw'⟩:=r.get hy
 refine call_meets F.slot_list_pop ⟨_,e,rfl⟩ F.entry_list_pop (F.args_list_pop_2 _ _)
  (MeetsSeq.list_pop_at l its.toArray n i t k w (fitsIndex_both h1 h2) (by rw[Qd,←hl];exact hk) (by rw[←ZS];exact hw) (by rw[Qd];omega)) ⟨e,?_⟩
 refine⟨y,_,I.lset (its':=its.eraseIdx k) hH e ?_ (r.eraseIdx k) ?_,rw',q⟩
 ·show its.toArray.eraseIdxIfInBounds k=(its.eraseIdx k).toArray
  rw[Xb]
 ·have:=kS xs k
  omega
def rCat:R2:=λx y H Q=>∃l b xs zs,x= .ref l∧y= .ref b∧H l=some (.lst xs)∧H b=some (.lst zs)∧xs.length+zs.length≤sizeLine∧∀p,H p=none→Q (.ref p) (upd H p (.lst (xs++zs)))
theorem AM:OpR X (binaryOp .Add) rCat:=by
 intro pins s σ H x y v u Q I rx ry h
 obtain⟨l,b,xs,zs,rfl,rfl,hH,hB,hz,q⟩:=h
 cases rx
 cases ry
 obtain⟨z,its,n,r,hl,e⟩:=I.lstM hH
 obtain⟨z2,its2,n2,r2,hl2,e2⟩:=I.lstM hB
 refine PySem.P.add_list e e2 ?_ (by rw[Qd,Qd];omega)
 have ea:its.toArray++its2.toArray=(its++its2).toArray:=by simp
 rw[ea]
 exact⟨.ref _,_,I.lnew (t':=s.toks) (r.append r2) (by rw[Qa];omega),rfl,q _ I.fresh⟩
end
end L2
namespace L2
open PySem PySem.Spec PyProof.Rows
section
variable {κ:Type} [DecidableEq κ]
def aF (kvs:List (κ×V)) (k:κ):Option V:=(kvs.find? λkv=>decide (kv.1=k)).map (·.2)
def aU (kvs:List (κ×V)) (k:κ) (v:V):List (κ×V):=
 if(kvs.any λkv=>decide (kv.1=k))=true then kvs.map (λkv=>if kv.1=k then(kv.1,v)else kv)else kvs++ [(k,v)]
def bf (kvs:List (κ×V)) (k:κ):List (κ×V):=kvs.filter λkv=>decide (kv.1≠k)
theorem gV {k:κ}:aF ([]:List (κ×V)) k=none:=rfl
theorem a5 {p:κ×V} {r:List (κ×V)} {k:κ} (e:p.1=k):aF (p::r) k=some p.2:=by simp[aF,Z8,e]
theorem aW {p:κ×V} {r:List (κ×V)} {k:κ} (e:¬p.1=k):aF (p::r) k=aF r k:=by simp[aF,Z8,e]
theorem bM (k:κ):∀kvs:List (κ×V),(kvs.any λkv=>decide (kv.1=k))=(aF kvs k).isSome
 | []=>rfl
 |p::r=>by
  rw[Zv]
  by_cases e:p.1=k
  ·simp only[a5 e,decide_eq_true e,Bool.true_or,Option.isSome_some]
  ·rw[aW e,decide_eq_false e,Bool.false_or];exact bM k r
theorem rh (k j:κ) (y:V):∀kvs:List (κ×V),aF (kvs.map λkv=>if kv.1=k then(kv.1,y)else kv) j=(aF kvs j).map λx=>if j=k then y else x
 | []=>rfl
 |p::r=>by
  have ih:=rh k j y r
  rw[Qo]
  by_cases h:p.1=k
  ·rw[if_pos h]
   by_cases e:p.1=j
   ·rw[a5 (p:=(p.1,y)) e,a5 e,ZR,if_pos (e.symm.trans h)]
   ·rw[aW (p:=(p.1,y)) e,aW e,ih]
  ·rw[if_neg h]
   by_cases e:p.1=j
   ·rw[a5 (p:=p) e,a5 e,ZR,if_neg (λz=>h (e.trans z))]
   ·rw[aW (p:=p) e,aW e,ih]
theorem pd (k j:κ) (y:V):∀kvs:List (κ×V),aF kvs k=none→aF (kvs++ [(k,y)]) j=if j=k then some y else aF kvs j
 | [],_=>by
  by_cases e:k=j
  ·rw[if_pos e.symm];exact a5 (p:=(k,y)) e
  ·rw[if_neg (λz=>e z.symm)];exact aW (p:=(k,y)) e
 |p::r,hn=>by
  rw[ZG]
  have hk:¬p.1=k:=λz=>by rw[a5 z]at hn;cases hn
  rw[aW hk]at hn
  have ih:=pd k j y r hn
  by_cases e:p.1=j
  ·rw[a5 e,a5 e,if_neg (λz=>hk (e.trans z))]
  ·rw[aW e,aW e,ih]
theorem cE (kvs:List (κ×V)) (k j:κ) (y:V):aF (aU kvs k y) j=if j=k then some y else aF kvs j:=by
 unfold aU
 by_cases a:(kvs.any λkv=>decide (kv.1=k))=true
 ·rw[if_pos a,rh]
  rw[bM]at a
  by_cases e:j=k
  ·obtain⟨x,hx⟩:=ZC.mp a
   rw[if_pos e,e,hx,ZR,if_pos rfl]
  ·rw[if_neg e]
   cases aF kvs j with
   |none=>rfl
   |some x=>rw[ZR,if_neg e]
 ·rw[if_neg a]
  refine pd k j y kvs ?_
  rw[bM]at a
  cases q:aF kvs k with
  |none=>rfl
  |some x=>rw[q]at a;exact(a rfl).elim
theorem bv (kvs:List (κ×V)) (k:κ) (v:V):(aU kvs k v).length≤kvs.length+1:=by
 unfold aU
 split
 ·rw[Q2];omega
 ·rw[Qa,Q9,Xg];omega
theorem wP {kvs:List (κ×V)} {k:κ} (v:V) (h:aF kvs k=none):aU kvs k v=kvs++ [(k,v)]:=by
 unfold aU
 rw[bM,h]
 exact if_neg (by decide)
theorem RelO.isSome_eq {o:Option V} {u:Option Value} (r:RelO o u):o.isSome=u.isSome:=by
 cases o with
 |none=>cases u with
  |none=>rfl
  |some _=>exact(show False from r).elim
 |some _=>cases u with
  |none=>exact(show False from r).elim
  |some _=>rfl
theorem RelO.getD {o:Option V} {u:Option Value} {d:V} {d':Value} (r:RelO o u) (rd:RelV d d'):RelV (o.getD d) (u.getD d'):=by
 cases o with
 |none=>cases u with
  |none=>exact rd
  |some _=>exact(show False from r).elim
 |some _=>cases u with
  |none=>exact(show False from r).elim
  |some _=>exact r
theorem KV.val {kvs:List (κ×V)} {vs:List (κ×Value)} (r:KV kvs vs) (k:κ):RelO (aF kvs k) (valueAt vs k):=by
 unfold KV at r
 induction r with
 |nil=>exact True.intro
 | @cons p q ps qs h t ih=>
  obtain⟨h1,h2⟩:=h
  by_cases e:p.1=k
  ·have e':q.1=k:=h1.symm.trans e
   have b:valueAt (q::qs) k=some q.2:=by simp[valueAt,Z8,e']
   rw[a5 e,b];exact h2
  ·have e':¬q.1=k:=λz=>e (h1.trans z)
   have b:valueAt (q::qs) k=valueAt qs k:=by simp[valueAt,Z8,e']
   rw[aW e,b];exact ih
theorem KV.any {kvs:List (κ×V)} {vs:List (κ×Value)} (r:KV kvs vs) (k:κ):(kvs.any λkv=>decide (kv.1=k))=vs.any λkv=>decide (kv.1=k):=by
 unfold KV at r
 induction r with
 |nil=>rfl
 |cons h t ih=>rw[Zv,Zv,ih,h.1]
theorem KV.repl {kvs:List (κ×V)} {vs:List (κ×Value)} (r:KV kvs vs) (k:κ) {y:V} {u:Value} (ry:RelV y u):
  KV (kvs.map λkv=>if kv.1=k then(kv.1,y)else kv) (vs.map λkv=>if kv.1=k then(kv.1,u)else kv):=by
 unfold KV at r⊢
 induction r with
 |nil=>exact .nil
 | @cons p q ps qs h t ih=>
  rw[Qo,Qo]
  refine .cons ?_ ih
  obtain⟨h1,h2⟩:=h
  by_cases e:p.1=k
  ·rw[if_pos e,if_pos (h1.symm.trans e)];exact⟨h1,ry⟩
  ·rw[if_neg e,if_neg (λz=>e (h1.trans z))];exact⟨h1,h2⟩
theorem KV.put {kvs:List (κ×V)} {vs:List (κ×Value)} (r:KV kvs vs) (k:κ) {y:V} {u:Value} (ry:RelV y u):KV (aU kvs k y) (stored vs k u):=by
 unfold aU stored
 rw[r.any k]
 by_cases e:(vs.any λkv=>decide (kv.1=k))=true
 ·rw[if_pos e,if_pos e];exact r.repl k ry
 ·rw[if_neg e,if_neg e];exact Paired.snoc r ⟨rfl,ry⟩
theorem KV.drop {kvs:List (κ×V)} {vs:List (κ×Value)} (r:KV kvs vs) (k:κ):KV (bf kvs k) (without vs k):=by
 unfold KV at r⊢
 unfold bf without
 induction r with
 |nil=>exact .nil
 | @cons p q ps qs h t ih=>
  obtain⟨h1,h2⟩:=h
  rw[QB,QB]
  by_cases e:p.1=k
  ·have a:¬decide (p.1≠k)=true:=by simp[e]
   have b:¬decide (q.1≠k)=true:=by simp[h1.symm.trans e]
   rw[if_neg a,if_neg b];exact ih
  ·have e':¬q.1=k:=λz=>e (h1.trans z)
   have a:decide (p.1≠k)=true:=by simp[e]
   have b:decide (q.1≠k)=true:=by simp[e']
   rw[if_pos a,if_pos b];exact .cons ⟨h1,h2⟩ ih
theorem KV.length {kvs:List (κ×V)} {vs:List (κ×Value)} (r:KV kvs vs):kvs.length=vs.length:=Paired.length r
theorem xJ (kvs:List (κ×V)) (k:κ):(bf kvs k).length≤kvs.length:=Qr _ _
end
theorem lG {P:Program} {w:World} {k:Key} {u:Value} (r:RelV (kV k) u):(aR P w).is k u=true:=by
 cases k with
 |inl i=>obtain⟨t,e⟩:=(show ∃t,u=Value.int i t from r);subst e;exact rT P w i t
 |inr x=>obtain⟨t,e⟩:=(show ∃t,u=Value.str x t from r);subst e;exact rS P w x t
theorem pH {P:Program} {w:World}:∀{ks:List Key} {us:List Value},Vals (ks.map kV) us→ItemsAre (aR P w) ks us
 | [],_,r=>by rw[List.map_nil]at r;cases r;exact .nil
 |k::ks,_,r=>by
  rw[Qo]at r
  cases r with
  |cons h t=>exact .cons (lG h) (pH t)
abbrev KT (H:Hp):List (List Key×V)→List (List Key×Addr×Value)→Prop:=Paired λp q=>p.1=q.1∧H q.2.1=some (.tup (p.1.map kV))∧RelV p.2 q.2.2
theorem KT.val {H:Hp} {kvs:List (List Key×V)} {xs:List (List Key×Addr×Value)} (r:KT H kvs xs) (k:List Key):RelO (aF kvs k) ((atKey xs k).map (·.2)):=by
 induction r with
 |nil=>exact True.intro
 | @cons p q ps qs h t ih=>
  obtain⟨h1,_,h2⟩:=h
  by_cases e:p.1=k
  ·have e':q.1=k:=h1.symm.trans e
   have b:atKey (q::qs) k=some q.2:=by simp[atKey,Z8,e']
   rw[a5 e,b];exact h2
  ·have e':¬q.1=k:=λz=>e (h1.trans z)
   have b:atKey (q::qs) k=atKey qs k:=by simp[atKey,Z8,e']
   rw[aW e,b];exact ih
theorem KT.repl {H:Hp} {kvs:List (List Key×V)} {xs:List (List Key×Addr×Value)} (r:KT H kvs xs) (k:List Key) {y:V} {u:Value} (ry:RelV y u):
  KT H (kvs.map λkv=>if kv.1=k then(kv.1,y)else kv) (xs.map (putAt k u)):=by
 induction r with
 |nil=>exact .nil
 | @cons p q ps qs h t ih=>
  rw[Qo,Qo]
  refine .cons ?_ ih
  obtain⟨h1,h2,h3⟩:=h
  unfold putAt
  by_cases e:p.1=k
  ·rw[if_pos e,if_pos (h1.symm.trans e)];exact⟨h1,h2,ry⟩
  ·rw[if_neg e,if_neg (λz=>e (h1.trans z))];exact⟨h1,h2,h3⟩
theorem KT.put {H:Hp} {kvs:List (List Key×V)} {xs:List (List Key×Addr×Value)} (r:KT H kvs xs) (k:List Key) {b:Addr} {y:V} {u:Value} (hb:H b=some (.tup (k.map kV))) (ry:RelV y u):
  KT H (aU kvs k y) (storedH xs k b u):=by
 have e:(kvs.any λkv=>decide (kv.1=k))=(atKey xs k).isSome:=by
  rw[bM,(r.val k).isSome_eq,X5]
 unfold aU storedH
 rw[e]
 by_cases q:(atKey xs k).isSome=true
 ·rw[if_pos q,if_pos q];exact r.repl k ry
 ·rw[if_neg q,if_neg q];exact Paired.snoc r ⟨rfl,hb,ry⟩
theorem KT.keeps {H H':Hp} {kvs:List (List Key×V)} {xs:List (List Key×Addr×Value)} (r:KT H kvs xs) (ht:∀b ys,H b=some (.tup ys)→H' b=some (.tup ys)):KT H' kvs xs:=
 Paired.mapP r λ_ _ z=>⟨z.1,ht _ _ z.2.1,z.2.2⟩
section
variable {P:Program} {w:World} {H:Hp} {h:Heap} {a:Addr}
theorem zW {u:HO} (ok:HOk P w H h) (e:Rd H a u):ObjOk P w H h a u:=e.ok ok
theorem nY {kvs:List (Key×V)} (ok:HOk P w H h) (e:Rd H a (.dK kvs)):kvs.length≤sizeLine∧(a==sysModules)=false∧∃vs,KV kvs vs∧h.DictOf (aR P w) a vs:=
 show ObjOk P w H h a (.dK kvs) from zW ok e
theorem eS {kvs:List (Key×V)} (ok:HOk P w H h) (e:H a=some (.dK kvs)):kvs.length≤sizeLine∧(a==sysModules)=false∧∃vs,KV kvs vs∧h.DictOf (aR P w) a vs:=nY ok (.inl e)
theorem kW {ks:List Key} (ok:HOk P w H h) (e:H a=some (.tup (ks.map kV))):(tupleKind (aR P w)).is h ks a:=by
 obtain⟨_,its,r,o,h1,h2,n,h3⟩:=(show ObjOk P w H h a (.tup (ks.map kV)) from ok a _ e)
 exact⟨o,its.toArray,n,h1,h2,h3,by simpa using pH r⟩
theorem pP {kvs:List (List Key×V)} (ok:HOk P w H h) (e:Rd H a (.dT kvs)):kvs.length≤sizeLine∧(a==sysModules)=false∧
  ∃xs,KT H kvs xs∧h.DictOfH (tupleKind (aR P w)) a xs:=by
 obtain⟨z,y,xs,r,o,es,ep,h1,h2,h3,h4,h5⟩:=(show ObjOk P w H h a (.dT kvs) from zW ok e)
 refine⟨z,y,xs,r,o,es,ep,h1,h2,h3,h4,λx hx=>?_,h5⟩
 have all:∀{l:List (List Key×V)} {m:List (List Key×Addr×Value)},KT H l m→∀x∈m,(tupleKind (aR P w)).is h x.1 x.2.1:=by
  intro l m q
  induction q with
  |nil=>intro x hx;exact nomatch hx
  | @cons p q ps qs hq t ih=>
   intro x hx
   rcases Qe.mp hx with e|hx
   ·subst e
    exact kW ok (by rw[←hq.1];exact hq.2.1)
   ·exact ih x hx
 exact all r x hx
theorem Ce {kvs:List (List Key×V)} (ok:HOk P w H h) (e:H a=some (.dT kvs)):kvs.length≤sizeLine∧(a==sysModules)=false∧
  ∃xs,KT H kvs xs∧h.DictOfH (tupleKind (aR P w)) a xs:=pP ok (.inl e)
end
def DGet (H:Hp) (a:Addr) (y:V) (r:Option V):Prop:=
 (∃kvs k,Rd H a (.dK kvs)∧y=kV k∧r=aF kvs k)∨∃kvs k b,Rd H a (.dT kvs)∧y= .ref b∧H b=some (.tup (k.map kV))∧r=aF kvs k
def DPut (H:Hp) (a:Addr) (y v:V) (H':Hp):Prop:=
 (∃kvs k,H a=some (.dK kvs)∧y=kV k∧kvs.length<sizeLine∧H'=upd H a (.dK (aU kvs k v)))∨
 ∃kvs k b,H a=some (.dT kvs)∧y= .ref b∧H b=some (.tup (k.map kV))∧kvs.length<sizeLine∧H'=upd H a (.dT (aU kvs k v))
theorem DGet.k {H:Hp} {a:Addr} {kvs:List (Key×V)} {k:Key} (e:H a=some (.dK kvs)):DGet H a (kV k) (aF kvs k):= .inl ⟨kvs,k,.inl e,rfl,rfl⟩
theorem DPut.k {H:Hp} {a:Addr} {kvs:List (Key×V)} {k:Key} {v:V} (e:H a=some (.dK kvs)) (hl:kvs.length<sizeLine):DPut H a (kV k) v (upd H a (.dK (aU kvs k v))):= .inl ⟨kvs,k,e,rfl,hl,rfl⟩
section
variable {X:Cx} {pins:List (Addr×Obj)} {σ:St} {H:Hp} {s:Shared} {a:Addr} {y v:V} {u r:Value} {o:Option V} {A:Around} {E:Value→Shared→Prop}
theorem Inv.big (I:Inv X pins σ H s):sysModules<s.heap.objs.size:=by
 have h:mainGlobals<s.heap.objs.size:=(I.mod.glob.keeps I.bk).lt
 exact Nat.lt_trans (by decide) h
theorem pU {Q:Value→Shared→Prop} (hu:A.units+1<cLine) (I:Inv X pins σ H s) (g:DGet H a y (some v)) (ry:RelV y u) (h:∀w' s',Inv X pins σ H s'→RelV v w'→Q w' s'):
  wpAny (model X.prog X.w) A (getItem (.ref a) u) Q E s:=by
 rcases g with⟨kvs,k,e,ey,l⟩|⟨kvs,k,b,e,ey,eb,l⟩
 ·subst ey
  obtain⟨z,hd,vs,rel,dd⟩:=nY I.hok e
  obtain⟨w',hw,rw'⟩:=RelO.some_of (v:=v) (o:=valueAt vs k) (by rw[l];exact rel.val k)
  exact wpAny_getItem_of (lG ry) dd.mapOf hw (h w' _ (I.tok _) rw')
 ·subst ey
  cases (show u=Value.ref b from ry)
  obtain⟨z,hd,xs,rel,dd⟩:=pP I.hok e
  obtain⟨w',hw,rw'⟩:=RelO.some_of (v:=v) (o:=(atKey xs k).map (·.2)) (by rw[l];exact rel.val k)
  obtain⟨p,hp,hp2⟩:=Option.map_eq_some_iff.mp hw
  refine wpAny_getItem_heap (tupleKind_room_in1 hu) (kW I.hok eb) dd hp ?_
  rw[hp2]
  exact h w' _ (I.tok _) rw'
theorem d_in {Q:Value→Shared→Prop} (hu:A.units+1<cLine) (I:Inv X pins σ H s) (g:DGet H a y o) (ry:RelV y u) (h:∀s',Inv X pins σ H s'→Q (.bool o.isSome) s'):
  wpAny (model X.prog X.w) A (compareOp .In u (.ref a)) Q E s:=by
 rcases g with⟨kvs,k,e,ey,l⟩|⟨kvs,k,b,e,ey,eb,l⟩
 ·subst ey
  obtain⟨z,hd,vs,rel,dd⟩:=nY I.hok e
  refine wpAny_in_of (lG ry) hd dd.mapOf ?_
  rw[←(rel.val k).isSome_eq,←l]
  exact h _ (I.tok _)
 ·subst ey
  cases (show u=Value.ref b from ry)
  obtain⟨z,hd,xs,rel,dd⟩:=pP I.hok e
  refine wpAny_in_heap (tupleKind_room_in1 hu) (kW I.hok eb) hd dd ?_
  have q:=(rel.val k).isSome_eq
  rw[X5]at q
  rw[←q,←l]
  exact h _ (I.tok _)
theorem zB {Q:Value→Shared→Prop} (hu:A.units+1<cLine) (I:Inv X pins σ H s) (g:DGet H a y o) (ry:RelV y u) (h:∀s',Inv X pins σ H s'→Q (.bool (!o.isSome)) s'):
  wpAny (model X.prog X.w) A (compareOp .NotIn u (.ref a)) Q E s:=by
 rcases g with⟨kvs,k,e,ey,l⟩|⟨kvs,k,b,e,ey,eb,l⟩
 ·subst ey
  obtain⟨z,hd,vs,rel,dd⟩:=nY I.hok e
  refine wpAny_notIn_of (lG ry) hd dd.mapOf ?_
  rw[←(rel.val k).isSome_eq,←l]
  exact h _ (I.tok _)
 ·subst ey
  cases (show u=Value.ref b from ry)
  obtain⟨z,hd,xs,rel,dd⟩:=pP I.hok e
  refine wpAny_notIn_heap (tupleKind_room_in1 hu) (kW I.hok eb) hd dd ?_
  have q:=(rel.val k).isSome_eq
  rw[X5]at q
  rw[←q,←l]
  exact h _ (I.tok _)
theorem kb {h':Heap} {t':Nat} {ob:HO} (I:Inv X pins σ H s) (mu:Mut (H a)) (hs:Heap.SameBut a s.heap h') (he:∃q,h'.get? a=some q) (new:ObjOk X.prog X.w (upd H a ob) h' a ob):
  Inv X pins σ (upd H a ob) {s with heap:=h',toks:=t'}:=
 I.write (x:=a) (e:=a) mu (.inl rfl) (λb q hb z=>(hs.2 b hb).trans z) he new
theorem qO {P:Program} {w:World} {H':Hp} {h':Heap} {kvs:List (Key×V)} {vs:List (Key×Value)} (z:kvs.length≤sizeLine) (hd:(a==sysModules)=false) (rel:KV kvs vs) (dd:h'.DictOf (aR P w) a vs):
  ObjOk P w H' h' a (.dK kvs):=⟨z,hd,vs,rel,dd⟩
theorem pT {H':Hp} {Q:Unit→Shared→Prop} (hu:A.units+1<cLine) (I:Inv X pins σ H s) (g:DPut H a y v H') (ry:RelV y u) (rv:RelV v r) (h:∀s',Inv X pins σ H' s'→Q () s'):
  wpAny (model X.prog X.w) A (setItem (.ref a) u r) Q E s:=by
 rcases g with⟨kvs,k,e,ey,l,eH⟩|⟨kvs,k,b,e,ey,eb,l,eH⟩
 ·subst ey eH
  obtain⟨z,hd,vs,rel,dd⟩:=eS I.hok e
  have hz:vs.length≤sizeLine:=by rw[←rel.length];exact z
  have hl:(aU kvs k v).length≤sizeLine:=by have:=bv kvs k v;omega
  refine wpAny_setItem_pairs (hsz:=hz) (lG ry) dd λh' dd' hs=>h _ ?_
  have he:∃q,h'.get? a=some q:=let⟨q,_,_,hq,_⟩:=dd';⟨q,hq⟩
  exact kb I (by rw[e];exact True.intro) hs he (qO hl hd (rel.put k rv) dd')
 ·subst ey eH
  cases (show u=Value.ref b from ry)
  obtain⟨z,hd,xs,rel,dd⟩:=Ce I.hok e
  have hz:xs.length≤sizeLine:=by rw[←Paired.length rel];exact z
  have hl:(aU kvs k v).length≤sizeLine:=by have:=bv kvs k v;omega
  refine wpAny_setItem_heap (hsz:=hz) (tupleKind_room_in1 hu) (kW I.hok eb) dd λh' dd' hs=>h _ ?_
  obtain⟨q,es,ep,hq,h2,h3,h4,_,h5⟩:=dd'
  refine kb I (by rw[e];exact True.intro) hs ⟨q,hq⟩ ⟨hl,hd,_,(rel.put k eb rv).keeps λc ys ec=>?_,q,es,ep,hq,h2,h3,h4,h5⟩
  rw[ac (bJ ec e (λz=>nomatch z))]
  exact ec
end
section
variable {X:Cx} {pins:List (Addr×Obj)} {σ:St} {H:Hp} {s:Shared} {a:Addr} {kvs:List (Key×V)} {k:Key} {u:Value} {A:Around} {E:Value→Shared→Prop}
theorem Cg {v:V} {more:List Value} {Q:Value→Shared→Prop} (I:Inv X pins σ H s) (e:H a=some (.dK kvs)) (ry:RelV (kV k) u) (l:aF kvs k=some v) (hm:more=[]∨∃x,more=[x])
  (h:∀w' s',Inv X pins σ (upd H a (.dK (bf kvs k))) s'→RelV v w'→Q w' s'):wpAny (model X.prog X.w) A (call (.builtin "dict.pop") (.ref a::u::more)) Q E s:=by
 obtain⟨z,hd,vs,rel,dd⟩:=eS I.hok e
 obtain⟨w',hw,rw'⟩:=RelO.some_of (v:=v) (o:=valueAt vs k) (by rw[←l];exact rel.val k)
 have hp:(keyPart u).isSome=true:=by
  cases k with
  |inl i=>obtain⟨t,q⟩:=(show ∃t,u=Value.int i t from ry);subst q;rfl
  |inr x=>obtain⟨t,q⟩:=(show ∃t,u=Value.str x t from ry);subst q;rfl
 have ha:argsOk "dict.pop" ⟨.ref a::u::more,[]⟩:=by
  rcases hm with q|⟨x,q⟩
  ·subst q;exact PySem.F.args_dict_pop_2 _ _
  ·subst q;exact PySem.F.args_dict_pop_3 _ _ _
 refine call_meetsIn Zr dd.typeIs PySem.F.entry_dict_pop ha (meets_dict_pop_there (aR X.prog X.w) a (lG ry) more hm hp)
  ⟨vs,w',dd,by rw[←rel.length];exact z,hw,λh' dd' hs=>h w' _ ?_ rw'⟩
 have he:∃q,h'.get? a=some q:=let⟨q,_,_,hq,_⟩:=dd';⟨q,hq⟩
 exact kb I (by rw[e];exact True.intro) hs he (qO (Qv (xJ kvs k) z) hd (rel.drop k) dd')
end
def NoSl (i:Expr):Prop:=∀ov iv,subscripted i false ov iv=operate [ov,iv] (getItem ov iv)
theorem yJ {prog:Program} {w:World} {A:Around} {E:Value→Shared→Prop} {s:Shared} {env:Env} {value slice:Expr} {pos:Pos} {T id:String} {Q:Value→Shared→Prop}
  (hl:typeLookup (.type T) "__getitem__"=pure (some (.builtin id))) (hs:NoSl slice)
  (h:wpAny (model prog w) A (eval value env) (λo s₁=>wpAny (model prog w) A (eval slice env) (λi s₂=>s₂.TypeIs o T∧wpAny (model prog w) A (getItem o i) Q E s₂) E s₁) E s):
  wpAny (model prog w) A (eval (.Subscript value slice pos) env) Q E s:=by
 refine Subscript_ (wpAny_mono h (λo s₁ h₁=>wpAny_mono h₁ (λi s₂ h₂=>?_) λ_ _ x=>x) λ_ _ x=>x)
 obtain⟨hT,h₂⟩:=h₂
 unfold subscriptTail
 refine wpAny_bind ?_
 rw[getitemInPython_of_ne hT.not_modules]
 refine wpAny_bind (wpAny_specialOf hT hl ?_)
 have fin:wpAny (model prog w) A (subscripted slice false o i) (λr s₃=>wpAny (model prog w) A (letTemporaryGo value o r>>=λ_=>pure r) Q E s₃) E s₂:=by
  rw[hs o i]
  exact wpAny_operating (wpAny_mono h₂ (λr s₃ h₃=>wpAny_bind (wpAny_letTemporaryGo (wpAny_pure h₃))) λ_ _ x=>x)
 first
  |exact wpAny_pure (wpAny_bind fin)
  |exact wpAny_bind (wpAny_pure (wpAny_bind fin))
  |exact wpAny_bind fin
theorem sk {X:Cx} {pins:List (Addr×Obj)} {σ:St} {H:Hp} {s:Shared} {a:Addr} {y:V} {o:Option V} (I:Inv X pins σ H s) (g:DGet H a y o):s.TypeIs (.ref a) "dict":=by
 rcases g with⟨kvs,k,e,_,_⟩|⟨kvs,k,b,e,_,_,_⟩
 ·obtain⟨_,_,vs,_,dd⟩:=nY I.hok e
  exact dd.typeIs
 ·obtain⟨_,_,xs,_,dd⟩:=pP I.hok e
  exact dd.typeIs
def Bz (td ty:TE):TE:=λσ H Q=>td σ H λx H1=>ty σ H1 λy H2=>∃a v,x= .ref a∧DGet H2 a y (some v)∧Q v H2
def tDIn (ty td:TE):TE:=λσ H Q=>ty σ H λy H1=>td σ H1 λx H2=>∃a o,x= .ref a∧DGet H2 a y o∧Q (.bl o.isSome) H2
def yF (ty td:TE):TE:=λσ H Q=>ty σ H λy H1=>td σ H1 λx H2=>∃a o,x= .ref a∧DGet H2 a y o∧Q (.bl (!o.isSome)) H2
def BE (td ty tv:TE):TS:=λD σ H=>tv σ H λv H1=>td σ H1 λx H2=>ty σ H2 λy H3=>∃a H4,x= .ref a∧DPut H3 a y v H4∧D.nx σ H4
def BF (td ty tv:TE) (rd:V→V→Hp→VK→Prop):TS:=λD σ H=>td σ H λx H1=>ty σ H1 λy H2=>∃a v,x= .ref a∧DGet H2 a y (some v)∧
 tv σ H2 λy2 H3=>rd v y2 H3 λz H4=>∃H5,DPut H4 a y z H5∧D.nx σ H5
section
variable {X:Cx} {o i e value:Expr} {pos pos' tpos:Pos} {td ty tv:TE}
theorem qq (hu:X.A.units+1<cLine) (ho:PE X o td) (hi:PE X i ty) (hs:NoSl i):PE X (.Subscript o i pos) (Bz td ty):=by
 intro pins s σ H Q I h
 refine yJ PySem.F.slot_dict_getitem.lookup hs (thn (ho pins s σ H _ I h) λu s1 ⟨x,H1,I1,rx,q1⟩=>thn (hi pins s1 σ H1 _ I1 q1) λiv s2 hzz=>?_)
 obtain⟨y,H2,I2,ry,a,v,ex,g,q2⟩:=hzz
 subst ex
 obtain rfl:u=Value.ref a:=rx
 exact⟨sk I2 g,pU hu I2 g ry λw' s3 I3 rw'=>⟨v,H2,I3,rw',q2⟩⟩
theorem wY (hu:X.A.units+1<cLine) (hi:PE X i ty) (ho:PE X o td):PC X .In i o (tDIn ty td):=by
 intro pins s σ H Q I h
 refine thn (hi pins s σ H _ I h) λiv s1 ⟨y,H1,I1,ry,q1⟩=>thn (ho pins s1 σ H1 _ I1 q1) λu s2 hzz=>?_
 obtain⟨x,H2,I2,rx,a,ov,ex,g,q2⟩:=hzz
 subst ex
 obtain rfl:u=Value.ref a:=rx
 exact d_in hu I2 g ry λs3 I3=>⟨.bl ov.isSome,H2,I3,rfl,q2⟩
theorem kK (hu:X.A.units+1<cLine) (hi:PE X i ty) (ho:PE X o td):PC X .NotIn i o (yF ty td):=by
 intro pins s σ H Q I h
 refine thn (hi pins s σ H _ I h) λiv s1 ⟨y,H1,I1,ry,q1⟩=>thn (ho pins s1 σ H1 _ I1 q1) λu s2 hzz=>?_
 obtain⟨x,H2,I2,rx,a,ov,ex,g,q2⟩:=hzz
 subst ex
 obtain rfl:u=Value.ref a:=rx
 exact zB hu I2 g ry λs3 I3=>⟨.bl (!ov.isSome),H2,I3,rfl,q2⟩
theorem mf (hu:X.A.units+1<cLine) (ho:PE X o td) (hi:PE X i ty) (hv:PE X value tv) (hs:swapsWith value (some (.Subscript o i pos')) pos.line X.env=pure false):
  PS X (.Assign [.Subscript o i pos'] value pos) (BE td ty tv):=by
 intro pins s σ H D I h
 refine wpAny_Assign_Subscript (thn (hv pins s σ H _ I h) λr s1 ⟨v,H1,I1,rv,q1⟩=>thn (ho pins s1 σ H1 _ I1 q1) λu s2 ⟨x,H2,I2,rx,q2⟩=>thn (hi pins s2 σ H2 _ I2 q2) λiv s3 hzz=>?_) hs
 obtain⟨y,H3,I3,ry,a,H4,ex,g,q3⟩:=hzz
 subst ex
 obtain rfl:u=Value.ref a:=rx
 exact pT hu I3 g ry rv λs4 I4=>⟨σ,H4,I4,q3⟩
theorem yX {op:Operator} {rd:V→V→Hp→VK→Prop} (hu:X.A.units+1<cLine) (ho:PE X o td) (hi:PE X i ty) (hv:PE X value tv) (hop:zH X op rd)
  (ha:∀ov iv new,augStore i ov iv new=(do holding [new,ov,iv] (setItem ov iv new);release [new,ov,iv] [];pure .next)):PS X (.AugAssign (.Subscript o i tpos) op value pos) (BF td ty tv rd):=by
 intro pins s σ H D I h
 refine wpAny_AugAssign_SubscriptAny (thn (ho pins s σ H _ I h) λu s1 ⟨x,H1,I1,rx,q1⟩=>thn (hi pins s1 σ H1 _ I1 q1) λiv s2 hzz=>?_) ha
 obtain⟨y,H2,I2,ry,a,v,ex,g,q2⟩:=hzz
 subst ex
 obtain rfl:u=Value.ref a:=rx
 refine pU hu I2 g ry λw' s3 I3 rw'=>thn (hv pins s3 σ H2 _ I3 q2) λw2 s4 ⟨y2,H3,I4,ry2,q3⟩=>thn (hop pins s4 σ H3 v y2 w' w2 _ I4 rw' ry2 q3) λw3 s5 hzz=>?_
 obtain⟨z,H4,I5,rz,H5,g5,q4⟩:=hzz
 exact pT hu I5 g5 ry rz λs6 I6=>⟨σ,H5,I6,q4⟩
end
theorem sj {P:Program} {w:World} {H:Hp} (h:Heap) (hb:sysModules<h.objs.size):ObjOk P w H (h.push {cls:= .type "dict",data:= .dict #[]}) h.objs.size (.dK []):=
 ⟨Qk _,beq_eq_false_iff_ne.mpr (Ne.symm (Qq hb)),[],.nil,Heap.DictOf.new h⟩
def Av:TE:=λ_ H Q=>∀p,H p=none→Q (.ref p) (upd H p (.dK []))
section
variable {X:Cx} {pos:Pos}
theorem fW:PE X (.Dict [] [] pos) Av:=λpins s σ H Q I h=>
 wpAny_Dict_empty ⟨.ref s.heap.objs.size,_,I.laid (a:=s.heap.objs.size) (o:= .dK []) (t':=s.toks) (λ_ _ q=>Heap.get?_push_of_some _ q) (Q5 _) (sj s.heap I.big),rfl,h _ (I.hok.fresh (Q5 _))⟩
end
section
variable {X:Cx} {pins:List (Addr×Obj)} {σ:St} {H:Hp} {s:Shared} {a:Addr} {y d:V} {u r:Value} {o:Option V} {A:Around} {E:Value→Shared→Prop}
theorem Be {Q:Value→Shared→Prop} (hu:A.units+1<cLine) (I:Inv X pins σ H s) (g:DGet H a y o) (ry:RelV y u) (rd:RelV d r) (h:∀w' s',Inv X pins σ H s'→RelV (o.getD d) w'→Q w' s'):
  wpAny (model X.prog X.w) A (call (.builtin "dict.get") [.ref a,u,r]) Q E s:=by
 rcases g with⟨kvs,k,e,ey,l⟩|⟨kvs,k,b,e,ey,eb,l⟩
 ·subst ey
  obtain⟨z,hd,vs,rel,dd⟩:=nY I.hok e
  refine call_meetsIn ZT dd.typeIs PySem.F.entry_dict_get (PySem.F.args_dict_get_3 _ _ _) (meets_dict_get_default (aR X.prog X.w) a (lG ry) hd r) ⟨_,dd.mapOf,h _ _ (I.tok _) ?_⟩
  rw[l]
  exact(rel.val k).getD rd
 ·subst ey
  cases (show u=Value.ref b from ry)
  obtain⟨z,hd,xs,rel,dd⟩:=pP I.hok e
  refine call_meetsIn ZT dd.typeIs PySem.F.entry_dict_get (PySem.F.args_dict_get_3 _ _ _) (meetsH_dict_get_default (tupleKind (aR X.prog X.w)) a b hd r) ⟨tupleKind_room_in1 hu,k,xs,kW I.hok eb,dd,h _ _ (I.tok _) ?_⟩
  rw[l]
  exact(rel.val k).getD rd
end
end L2
namespace Att
open PySem PySem.W PySem.Calls PyProof.Rows
theorem l4 {P:Params} {h:Heap}:∀(ns:List Int) (vs:List Value),WellAll P h vs (ns.map WData.int)→IntsAre vs ns:=by
 intro ns
 induction ns with
 |nil=>
  intro vs w
  rw[List.map_nil]at w
  cases w
  exact .nil
 |cons n ns ih=>
  intro vs w
  rw[Qo]at w
  cases w with
  |cons a b=>
   cases a
   exact .cons _ _ (ih _ b)
theorem vd {l:OpenLaw} {n:Nat} (hn:l.most=some n) {P:Params} {h:Heap} {args:List WData} {vals:List Value}
  (hpre:l.row.toRowW.claim.pre args=true) (hwl:WellAll P h vals args):
  ∃a vs ns,vals=[Value.ref a]∧args=[WData.list (ns.map WData.int)]∧h.get? a=some {cls:= .type "list",data:= .seq vs.toArray}∧IntsAre vs ns∧ns.length≤n:=by
 have hsh:WShape.hasAll [] args [.list .int]=true:=(pre_splitW hpre).1
 have hc:l.pre.holds [] {args:=args}=true:=(pre_splitW hpre).2
 obtain⟨d,r,rfl,h1,h2⟩:=hasAllW_cons hsh
 obtain rfl:=hasAllW_nil h2
 obtain⟨xs,rfl,h3⟩:=hasW_list h1
 obtain⟨ns,rfl⟩:=items_int h3
 have hlen:ns.length≤n:=by
  unfold OpenLaw.pre at hc
  have h4:(WTm.not (.lt (.lit (.int (n:Int))) (.len (.arg 0)))).holds [] {args:=[.list (ns.map .int)]}=true:=by
   have h4:=(holds_andW hc).1
   rw[hn]at h4
   exact h4
  have h5:=condW_of h4 (w_not (w_lt w_lit (w_len_list (w_arg rfl))))
  rw[Q2]at h5
  refine Nat.le_of_not_lt λq=>?_
  have q':(n:Int)<((ns.length:Nat):Int):=by omega
  first
   |(rw[decide_eq_true q']at h5;exact absurd h5 (by decide))
   |(simp at h5;omega)
 cases hwl with
 |cons w1 w2=>
  cases w2
  cases w1 with
  |list ho hall=>exact⟨_,_,ns,rfl,rfl,ho,l4 ns _ hall,hlen⟩
theorem vg (l:OpenLaw) (args:List WData):l.row.toRowW.claim.post args (.bool true) args=true:=
 postW_of (r:=l.row.toRowW) (X:=(true==true))
  (show WShape.has [] (.bool true) .bool=true by first|rfl|decide|simp[WShape.has,WShape.arms,WShape.armsAll])
  (show(WTm.eq .res (.lit (.bool true))).value [] {args:=args,res:=some (.bool true),after:=args}=some (.bool (true==true)) from w_eq_bool (w_res rfl) w_lit) rfl
theorem attach_call {l:OpenLaw} {n:Nat} {q:Program} {loose:List Str} {XP:(Str→Option Value)→Heap→Prop} {YP:World→Heap→Prop} {d:DefRec}
  (hn:l.most=some n) (hdf:d.params.defaults=[])
  (call:∀(w:World) (s₀ s₁:Shared) (mg mb:Str→Option Value) (fa:Addr) (o:Obj) (pm cd doc:Value) (a:Addr) (vs:List Value) (ns:List Int),
   Ground q loose [] XP w s₀ mg mb s₁.heap→YP w s₁.heap→
   s₁.heap.get? fa=some o→o.data= .func (docDef d.name d.params d.body d.scope pm cd doc)→s₁.heap.CodeRec cd d.name→mg d.name=some (.ref fa)→
   s₁.heap.get? a=some {cls:= .type "list",data:= .seq vs.toArray}→IntsAre vs ns→ns.length≤n→s₁.gens= #[]→
   codeAny (model l.prog w) callerA (.call (.ref fa) ⟨[.ref a],[]⟩) (λr s'=>r= .ok (.ret (.bool true))∧OldK s₁.heap s'.heap∧s'.os=s₁.os∧AllBare s'.gens) s₁):
  WalkO q loose XP YP l.row.toRowW d [] (λf vs=>PySem.call f vs):=by
 intro w s₀ s₁ mg mb G Y fa o pm cd doc dV kV ho hd hcd hD hmg hg args vals as hpre hlay hrd hwl hlo
 obtain rfl:dV= .none:=Dflts.none hD hdf
 obtain rfl:kV= .none:=Dflts.noKw hD
 obtain⟨a,vs,ns,rfl,rfl,hobj,hints,hlen⟩:=vd hn hpre hwl
 refine enter_call (codeAny_mono (call w s₀ s₁ mg mb fa o pm cd doc a vs ns G Y ho (fd_plain hd) hcd hmg hobj hints hlen hg) λr s' hq=>?_)
 obtain⟨rfl,h2,h3,h4⟩:=hq
 exact⟨.inl ⟨.bool true,.bool true,[],rfl,λ_=>rfl,.bool true,vg l _,λ_=>⟨List.Pairwise.nil,λ_ hm=>(nomatch hm)⟩⟩,h2,h3,h4⟩
end Att
namespace L2
open PySem PySem.Spec PyProof.Rows
theorem pc:∀{vs:List Value} {ns:List Int},IntsAre vs ns→Vals (ns.map V.int) vs
 |_,_,.nil=> .nil
 |_,_,.cons n t h=> .cons ⟨t,rfl⟩ (pc h)
def Bl (H:Hp):Prop:=∀b,H b=none∨∃o xs,H b=some (.frz o (.lst xs))
theorem xl {P:Program} {w:World} {K:PySem.W.Frag} {mg mb:Str→Option Value} {CX:CXT} {k:Nat} {fa a:Addr} {fd:FuncData} {x:Str} {sp:Sp} {s₁:Shared} {vs:List Value} {ns:List Int}
  (KX:K.In s₁.heap) (hns:s₁.heap.Ns mainGlobals mg) (hb:s₁.heap.Ns builtinsNs mb) (hbb:∀x:Str,x≠"__name__"→mb x=bootBuiltins x) (hlim:s₁.heap.NoLimit) (hg:s₁.gens= #[])
  (ha:s₁.heap.get? a=some {cls:= .type "list",data:= .seq vs.toArray}) (hi:IntsAre vs ns) (hl:ns.length≤sizeLine) (hr:Room k callerA)
  (F:∀base:Heap,K.In base→base.Ns mainGlobals mg→aX P w K mg base CX k fa fd [x] sp) (hbind:∀(s:Shared) (u:Value),BindsTo s fd ⟨[u],[]⟩ [(x,u)])
  (hsp:∀H:Hp,Bl H→SqL K H a (ns.map V.int)→sp [.ref a] H (λv _=>v= .bl true) λ_ _ _=>False)
  (hCX:∀H e s',CX [] H s₁ (λ_ _ _=>False) e s'→False):
  codeAny (model P w) callerA (.call (.ref fa) ⟨[.ref a],[]⟩) (λr s'=>r= .ok (.ret (.bool true))∧OldK s₁.heap s'.heap∧s'.os=s₁.os∧AllBare s'.gens) s₁:=by
 have rv:=pc hi
 have lenV:=hi.length
 have core:∀H:Hp,Bl H→SqL K H a (ns.map V.int)→HOk P w H s₁.heap→(∀b,H b≠none→b=a)→(H a≠none→K.lookup a=none)→
   codeAny (model P w) callerA (.call (.ref fa) ⟨[.ref a],[]⟩) (λr s'=>r= .ok (.ret (.bool true))∧OldK s₁.heap s'.heap∧s'.os=s₁.os∧AllBare s'.gens) s₁:=by
  intro H hO hS hok hA hK
  have base_of:∀{b:Addr} {o:Obj},s₁.heap.get? b=some o→H b=none→(qL s₁.heap H).get? b=some o:=λe n=>xx e n
  have noA:∀{b:Addr} {o:Obj} {es:Array DictEntry} {ep:Nat},s₁.heap.get? b=some o→o.data= .dict es ep→H b=none:=λ{b o es ep} e d=>by
   cases q:H b with
   |none=>rfl
   |some u=>
    have e':b=a:=hA b (by rw[q];simp)
    subst e'
    rw[ha]at e;cases e
    have d':Data.seq vs.toArray _=Data.dict es ep:=d
    cases d'
  have nsK:∀{b:Addr} {m:Str→Option Value},s₁.heap.Ns b m→(qL s₁.heap H).Ns b m:=λ{b m} ⟨o,es,ep,e,d,r⟩=>⟨o,es,ep,base_of e (noA e d),d,r⟩
  have hKb:K.In (qL s₁.heap H):=λb o e=>base_of (KX b o e) (by
   cases q:H b with
   |none=>rfl
   |some u=>
    have e':b=a:=hA b (by rw[q];simp)
    subst e'
    rw[hK (by rw[q];simp)]at e;cases e)
  have hM:Mod K mg (qL s₁.heap H):=⟨hKb,nsK hns,⟨mb,nsK hb,hbb⟩,let⟨mc,h1,h2⟩:=hlim;⟨mc,nsK h1,h2⟩⟩
  have e0:Env0 P w K mg (qL s₁.heap H) callerA [] s₁ H:=⟨rfl,hM,λb o e=>zd e,Zp (vO _ _),trivial,λb hb=>absurd (show b∈([]:List Addr) from hb) (by simp),hok,.of_eq hg⟩
  refine codeAny_mono ((F _ hKb (nsK hns)).run callerA [] s₁ H ⟨[.ref a],[]⟩ [.ref a] [.ref a] _ _ hr e0 (hbind s₁ (.ref a)) (.cons rfl .nil) (hsp H hO hS)) λr s' h=>?_
  cases r with
  |error e=>exact(hCX H e s' h).elim
  |ok fl=>
   cases fl with
   |next=>exact False.elim h
   |brk=>exact False.elim h
   |cont=>exact False.elim h
   |ret u=>
    obtain⟨v,H',os,bare,un,hok',r',q⟩:=h
    have q':v= .bl true:=q
    subst q'
    obtain rfl:u=Value.bool true:=r'
    refine⟨rfl,OldK.of_keep λb o e=>?_,os,bare⟩
    cases q:H b with
    |none=>exact un.keep b o e q (by intro z;exact absurd (show b∈([]:List Addr) from z) (by simp)) (by simp)
    |some u=>
     rcases hO b with z|⟨ob,xs,z⟩
     ·rw[q]at z;cases z
     ·have z2:=un.frzs b ob _ z
      obtain⟨e1,_⟩:=hok b _ z
      obtain⟨e2,_⟩:=hok' b _ z2
      rw[e]at e1;cases e1
      exact e2
 cases hk:K.lookup a with
 |some o=>
  have e:=KX a o hk
  rw[ha]at e
  cases e
  refine core (λ_=>none) (λ_=> .inl rfl) (.inr ⟨_,vs.toArray,_,hk,rfl,rfl,rfl,by rw[Qd,lenV];exact hl,by simpa using rv⟩) (λb u z=>by have z':(none:Option HO)=some u:=z;cases z') (λb z=>absurd rfl z) λz=>absurd rfl z
 |none=>
  refine core (λb=>if b=a then some (.frz {cls:= .type "list",data:= .seq vs.toArray} (.lst (ns.map V.int)))else none) (λb=>?_) (.inl (.inr ⟨{cls:= .type "list",data:= .seq vs.toArray},if_pos rfl⟩)) (λb u z=>?_) (λb z=>?_) λ_=>hk
  ·by_cases hb:b=a
   ·exact .inr ⟨_,_,if_pos hb⟩
   ·exact .inl (if_neg hb)
  ·by_cases hb:b=a
   ·have z':=(if_pos hb).symm.trans z
    cases z'
    subst hb
    exact⟨ha,by rw[Q2];exact hl,vs,_,rv,ha⟩
   ·have z':=(if_neg hb).symm.trans z
    cases z'
  ·by_cases hb:b=a
   ·exact hb
   ·exact absurd (if_neg hb) z
end L2
namespace L2
open PySem PySem.Spec PyProof.Rows
theorem walk_of {l:PySem.W.OpenLaw} {n k:Nat} {q:Program} {loose:List Str} {XP:(Str→Option Value)→Heap→Prop} {YP:World→Heap→Prop} {d:DefRec} {K:Params→PySem.W.Frag} {CX:World→CXT} {sp:World→Sp} {x:Str}
  (hn:l.most=some n) (hn2:n≤sizeLine) (hdf:d.params.defaults=[]) (hr:Room k callerA)
  (hY:∀(w:World) (h:Heap),YP w h→(K w.params).In h)
  (F:∀(w:World) (mg:Str→Option Value) (fa:Addr) (h:Heap),(K w.params).In h→h.Ns mainGlobals mg→mg d.name=some (.ref fa)→
   ∃fd:FuncData,(∀(s:Shared) (u:Value),BindsTo s fd ⟨[u],[]⟩ [(x,u)])∧
    ∀base:Heap,(K w.params).In base→base.Ns mainGlobals mg→aX l.prog w (K w.params) mg base (CX w) k fa fd [x] (sp w))
  (hsp:∀(w:World) (H:Hp) (a:Addr) (ns:List Int),ns.length≤n→Bl H→SqL (K w.params) H a (ns.map V.int)→sp w [.ref a] H (λv _=>v= .bl true) λ_ _ _=>False)
  (hCX:∀(w:World) (H:Hp) (s:Shared) (e:Value) (s':Shared),CX w [] H s (λ_ _ _=>False) e s'→False):
  PySem.W.WalkO q loose XP YP l.row.toRowW d [] (λf vs=>PySem.call f vs):=by
 refine Att.attach_call hn hdf λw s₀ s₁ mg mb fa o pm cd doc a vs ns G Y ho hd hcd hmg hobj hints hlen hg=>?_
 have KX:=hY w _ Y
 obtain⟨fd,hb,hF⟩:=F w mg fa _ KX G.T.g hmg
 exact xl KX G.T.g G.T.b G.T.builtins G.T.nolimit hg hobj hints (Qv hlen hn2) hr hF hb (λH hO hS=>hsp w H a ns hlen hO hS) λH e s'=>hCX w H s₁ e s'
end L2
namespace L2
open PySem PySem.Spec PyProof.Rows
abbrev CX0:CXT:=λ_ _ _ _ _ _=>False
abbrev E0:XK:=λ_ _ _=>False
theorem aB {X:Cx}:dC CX0 X E0:=λ_ _ _ _ _ _ _ h=>h.elim
structure Fun (K:PySem.W.Frag) (x qual:Str) (st:Stmt) (f:Addr) (fd:FuncData):Prop where
 ex:∃(oc:Value) (od:Option Addr) (kV doc pm:Value) (an:Option Addr) (cdv ct:Value) (osl:Array (Option Value)),
  fd=PySem.W.fnOf x qual (dN st) (bW st) (ai st) .none kV doc pm an cdv ct∧K.lookup f=some ⟨oc,od,.func fd,osl⟩∧PySem.W.codeIn K cdv qual=true
 kp:PySem.W.keepIn K (.ref f)=true
section
variable {P:Program} {w:World} {K:PySem.W.Frag} {mg:Str→Option Value} {base:Heap}
theorem Fun.ok {x qual:Str} {st:Stmt} {f:Addr} {fd:FuncData} {N ps:List Str} {k:Nat} {sp:Sp} (F:Fun K x qual st f fd) (S:ax N ps (ai st)) (len:∀vs H Q E,sp vs H Q E→vs.length=ps.length)
  (hbody:∀(cdv:Value) (A:Around) (outer:List Env) (s:Shared) (H:Hp) (vs:List V) (Q:VK) (E:XK),Room k (A.deeper (envOfC qual (ai st) s.heap.objs.size f cdv))→sp vs H Q E→
   ∃t,PSs (k8 CX0 P w K mg base N qual (ai st) f cdv A outer s H E).nox (bW st) t∧t {nx:=λ_ H'=>Q .non H',rt:=Q} (start N vs) H):aX P w K mg base CX0 (k+1) f fd ps sp:=by
 obtain⟨oc,od,kV,doc,pm,an,cdv,ct,osl,rfl,lk,hcd⟩:=F.ex
 refine uD lk hcd S len λA outer s H vs Q E hr hsp=>?_
 obtain⟨t,h,q⟩:=hbody cdv A outer s H vs Q E hr hsp
 exact⟨t,h.nox,q⟩
theorem A9 {x qual:Str} {st:Stmt} {f:Addr} {oc:Value} {od an:Option Addr} {osl:Array (Option Value)} {kV doc pm cdv ct:Value} (l:K.lookup f=some ⟨oc,od,.func (PySem.W.fnOf x qual (dN st) (bW st) (ai st) .none kV doc pm an cdv ct),osl⟩)
  (c:PySem.W.codeIn K cdv qual=true) (k:PySem.W.keepIn K (.ref f)=true):Fun K x qual st f (PySem.W.fnOf x qual (dN st) (bW st) (ai st) .none kV doc pm an cdv ct):=⟨⟨oc,od,kV,doc,pm,an,cdv,ct,osl,rfl,l,c⟩,k⟩
end
theorem eQ {A:Around} {k:Nat} (hr:Room k A):A.units+1<cLine:=Zz (Nat.add_le_add_left (by decide:1≤64) _) hr.units
theorem bT {n:Nat} (h:n≤1000):n<sizeLine:=Zz h (by decide)
section
variable {X:Cx}
theorem pv (i:Nat) {x:Str} {pos:Pos} (hN:X.N[i]?=some x:=by rfl) (hv:Vis X.env.scope x:=by first|exact Or.inl rfl|exact Or.inr (Or.inl rfl)|exact Or.inr (Or.inr rfl)) (hd:(x==("__debug__":Str))=false:=by decide)
  (hcd:(x==("__classdict__":Str))=false:=by decide):PE X (.Name x pos) (wF i):=AH hN hv hd hcd
end
theorem c7 {A B:Prop} (h:B):if false=true then A else B:=by
 rw[if_neg Q7]
 exact h
theorem cQ {A B:Prop} (h:A):if true=true then A else B:=by
 rw[if_pos rfl]
 exact h
theorem im {c A B:Prop} [Decidable c] (h1:c→A) (h2:¬c→B):if c then A else B:=by
 by_cases h:c
 ·rw[if_pos h]
  exact h1 h
 ·rw[if_neg h]
  exact h2 h
def Same (H H':Hp):Prop:=∀b o,H b=some o→H' b=some o
theorem Same.refl (H:Hp):Same H H:=λ_ _ h=>h
theorem Same.trans {H H1 H2:Hp} (a:Same H H1) (b:Same H1 H2):Same H H2:=λc o h=>b c o (a c o h)
end L2
namespace L2
open PySem PySem.Spec PyProof.Rows
section
variable {κ:Type} [DecidableEq κ]
theorem wy {kvs:List (κ×V)} {k:κ} (h:aF kvs k=none):¬k∈kvs.map (·.1):=by
 intro m
 obtain⟨p,hp,e⟩:=Qf.mp m
 have q:(kvs.any λkv=>decide (kv.1=k))=true:=List.any_eq_true.mpr ⟨p,hp,decide_eq_true e⟩
 rw[bM,h]at q
 exact absurd q (by simp)
theorem valV_in {kvs:List (κ×V)} {k:κ} {v:V} (h:aF kvs k=some v):k∈kvs.map (·.1):=by
 have q:(kvs.any λkv=>decide (kv.1=k))=true:=by
  rw[bM,h]
  all_goals rfl
 obtain⟨p,hp,e⟩:=List.any_eq_true.mp q
 exact Qf.mpr ⟨p,hp,of_decide_eq_true e⟩
theorem uj:∀{l:List κ} {k:κ},l.Nodup→¬k∈l→(l++ [k]).Nodup
 | [],k,_,_=>by simp
 |a::r,k,h,hk=>by
  obtain⟨h1,h2⟩:=Qs.mp h
  show(a::(r++ [k])).Nodup
  refine Qs.mpr ⟨λm=>?_,uj h2 λm=>hk (Qe.mpr (Or.inr m))⟩
  rcases Qb.mp m with q|q
  ·exact h1 q
  ·exact hk (Qe.mpr (Or.inl (Qg.mp q).symm))
theorem ze {kvs:List (κ×V)} {k:κ} (v:V) (hn:(kvs.map (·.1)).Nodup) (h:aF kvs k=none):((aU kvs k v).map (·.1)).Nodup:=by
 rw[wP v h,Qi]
 exact uj hn (wy h)
theorem kX {p:κ×V} {r:List (κ×V)} {k:κ} (e:p.1=k):bf (p::r) k=bf r k:=by
 unfold bf
 rw[QB,if_neg (by simp[e])]
theorem iK {p:κ×V} {r:List (κ×V)} {k:κ} (e:¬p.1=k):bf (p::r) k=p::bf r k:=by
 unfold bf
 rw[QB,if_pos (by simp[e])]
theorem si:∀{kvs:List (κ×V)} {k:κ},¬k∈kvs.map (·.1)→bf kvs k=kvs
 | [],_,_=>rfl
 |p::r,k,h=>by
  have h':¬k∈r.map (·.1):=λm=>by
   obtain⟨q,hq,e⟩:=Qf.mp m
   exact h (Qf.mpr ⟨q,Qe.mpr (Or.inr hq),e⟩)
  rw[iK λe=>h (Qf.mpr ⟨p,Qe.mpr (Or.inl rfl),e⟩),si h']
theorem pQ {kvs:List (κ×V)} {k:κ} {p:κ×V} (h:p∈bf kvs k):p∈kvs:=(QM.mp h).1
theorem j2:∀{kvs:List (κ×V)} {k:κ},(kvs.map (·.1)).Nodup→((bf kvs k).map (·.1)).Nodup
 | [],_,_=>Z0
 |p::r,k,h=>by
  have h:(p.1::r.map (·.1)).Nodup:=h
  obtain⟨h1,h2⟩:=Qs.mp h
  by_cases e:p.1=k
  ·rw[kX e]
   exact j2 h2
  ·rw[iK e]
   show(p.1::(bf r k).map (·.1)).Nodup
   refine Qs.mpr ⟨λm=>h1 ?_,j2 h2⟩
   obtain⟨q,hq,eq⟩:=Qf.mp m
   exact Qf.mpr ⟨q,pQ hq,eq⟩
theorem pR:∀{kvs:List (κ×V)} {k:κ},(kvs.map (·.1)).Nodup→k∈kvs.map (·.1)→(bf kvs k).length+1=kvs.length
 | [],_,_,m=>by simp at m
 |p::r,k,h,m=>by
  have h:(p.1::r.map (·.1)).Nodup:=h
  have m:k=p.1∨k∈r.map (·.1):=Qe.mp m
  obtain⟨h1,h2⟩:=Qs.mp h
  by_cases e:p.1=k
  ·subst e
   rw[kX rfl,si h1]
   all_goals rfl
  ·have m':k∈r.map (·.1):=m.resolve_left λz=>e z.symm
   have q:=pR h2 m'
   rw[iK e,Q9,Q9]
   omega
end
end L2
namespace L2
open PySem PySem.Spec PyProof.Rows
theorem a7:bootBuiltins "len"=some (.builtin "len"):=by decide+kernel
theorem a6:bootBuiltins "isinstance"=some (.builtin "isinstance"):=by decide+kernel
theorem xK:bootBuiltins "min"=some (.builtin "min"):=by decide+kernel
theorem lq:bootBuiltins "sorted"=some (.builtin "sorted"):=by decide+kernel
theorem xL:bootBuiltins "int"=some (.type "int"):=by decide+kernel
theorem uJ:bootBuiltins "bool"=some (.type "bool"):=by decide+kernel
theorem Bg:bootBuiltins "max"=some (.builtin "max"):=by decide+kernel
theorem zC:bootBuiltins "dict"=some (.type "dict"):=by decide+kernel
theorem oX:bootBuiltins "ValueError"=some (.type "ValueError"):=by decide+kernel
theorem xn {K:PySem.W.Frag}:PySem.W.kitOne K (.type "int") (.type "int")=some true:=by kernel_rfl
theorem xo {K:PySem.W.Frag}:PySem.W.kitOne K (.type "int") (.type "bool")=some false:=by kernel_rfl
theorem fZ {c A B:Prop} [Decidable c] (hc:c) (h:A):if decide c=true then A else B:=by
 rw[decide_eq_true hc]
 exact cQ h
theorem bP {c A B:Prop} [Decidable c] (hc:¬c) (h:B):if decide c=true then A else B:=by
 rw[decide_eq_false hc]
 exact c7 h
theorem pK {K:PySem.W.Frag} {a:Addr} {xs:List V} {g:TG} {tb:TS} {nx:St→Hp→Prop} {rt:VK} {σ:St} {H:Hp} (Pv:Nat→St→Hp→Prop) (h0:Pv 0 σ H) (hl:∀i σ H,i≤xs.length→Pv i σ H→SqL K H a xs)
  (hs:∀i x σ H,xs[i]?=some x→Pv i σ H→g x σ H λσ2 H2=>tb ⟨Pv (i+1),rt,nx,Pv (i+1)⟩ σ2 H2) (hd:∀σ H,Pv xs.length σ H→nx σ H):
  ∃W:Nat→Nat→St→Hp→Prop,(∃m,W 0 m σ H)∧∀i m σ H,W i m σ H→
   ((Itl K a).stop i H∧nx σ H)∨((Itl K a).go i H∧∃N:St→Hp→Prop,(∀σ' H',N σ' H'→∃m',m'<m∧W (i+1) m' σ' H')∧∀x H',(Itl K a).yld i H x H'→g x σ H' λσ2 H2=>tb ⟨N,rt,nx,N⟩ σ2 H2):=
 xF (D:=⟨nx,rt,λ_ _=>False,λ_ _=>False⟩) Pv h0 hl hs hd
theorem tM {lo:Int} {n:Nat} {g:TG} {tb:TS} {nx:St→Hp→Prop} {rt:VK} {σ:St} {H:Hp} (Pv:Nat→St→Hp→Prop) (h0:Pv 0 σ H)
  (hs:∀i σ H,i<n→Pv i σ H→g (.int (lo+i)) σ H λσ2 H2=>tb ⟨Pv (i+1),rt,nx,Pv (i+1)⟩ σ2 H2) (hd:∀σ H,Pv n σ H→nx σ H):
  ∃W:Nat→Nat→St→Hp→Prop,(∃m,W 0 m σ H)∧∀i m σ H,W i m σ H→
   ((Itr lo n).stop i H∧nx σ H)∨((Itr lo n).go i H∧∃N:St→Hp→Prop,(∀σ' H',N σ' H'→∃m',m'<m∧W (i+1) m' σ' H')∧∀x H',(Itr lo n).yld i H x H'→g x σ H' λσ2 H2=>tb ⟨N,rt,nx,N⟩ σ2 H2):=
 vQ (D:=⟨nx,rt,λ_ _=>False,λ_ _=>False⟩) Pv h0 hs hd
theorem ke {ns:List Int} {k:Int} (h0:0≤k) (h:k<(ns.length:Int)):atI (ns.map V.int) k=some (.int (ns.getD k.toNat 0)):=by
 obtain⟨j,rfl⟩:=ZH h0
 refine kg ?_
 have hj:j<ns.length:=by omega
 rw[Qc,Q4 hj,Zq,Qu,Q4 hj]
 rfl
section
variable {X:Cx}
theorem eT:gf X (.builtin "isinstance") (λxs H Q=>∃x n t b,xs=[x,.ty n]∧TyOf X.K H x t∧PySem.W.kitOne X.K t (.type n)=some b∧Q (.bl b) H):=by
 intro pins s σ H xs us Q I r h
 obtain⟨x,n,t,b,rfl,ty,e,q⟩:=h
 obtain⟨u,w',rfl,ru,rw'⟩:=lB r
 cases (show w'=Value.type n from rw')
 exact pI I ru ty e λtk=>⟨.bl b,H,I.tok _,rfl,q⟩
end
end L2
namespace SW
end SW
namespace L2
open PySem PySem.Spec PyProof.Rows
abbrev aI (C:Addr) (od:Option Addr) (vs:Array Value):Obj:={cls:= .ref C,dict:=od,data:= .fields vs}
def Trc (h:Heap) (e:Addr) (vs:Array Value) (T:Addr) (fl:Value):Prop:=
 vs[1]?=some (.ref T)∧T≠e∧∃oT ts,h.get? T=some oT∧oT.data= .fields ts∧ts[3]?=some fl
structure Noted (l:List Addr) (e:Addr) (old:Addr→Prop) (h h':Heap):Prop where
 keep:∀b o,h.get? b=some o→b∉l→b≠e→¬old b→h'.get? b=some o
 slot:∀b o,h.get? b=some o→b∈l→b≠e→¬old b→∃sl,h'.get? b=some {o with slots:=sl}
 there:∀b o,h.get? b=some o→∃o',h'.get? b=some o'
section
variable {M:Model} {A:Around} {E:Value→Shared→Prop} {s:Shared} {base:Heap} {env:Env} {outer:List Env} {L e C:Addr} {od:Option Addr} {vs:Array Value} {Q:Unit→Shared→Prop}
theorem Ba (hl:s.heap.FunFrames base (env::outer)) (he:s.heap.get? e=some (aI C od vs)):e∉frs (env::outer):=λhm=>by
 obtain⟨_,o,ho,hn⟩:=hl.mem hm
 cases he.symm.trans ho
 exact hn vs rfl
theorem nG {head:Value} {had:Bool} (hfr:A.frames=some (env::outer)) (hl:s.heap.FunFrames base (env::outer)) (hf:env.frame=some L) (he:s.heap.get? e=some (aI C od vs)) (hsz:1<vs.size)
  (q:∀h' T vs',Noted (frs (env::outer)) e (λ_=>False) s.heap h'→h'.get? e=some (aI C od vs')→(vs'.size=vs.size∧vs'[2]?=vs[2]?)→s.heap.objs.size≤T→Trc h' e vs' T (rawInt L)→Q () {s with heap:=h'}):
  wpAny M A (do let a←frameOf env;let pl←entryPlaceOf L had;let b←EntryCells.newEntry head a .none (rawInt L) .none pl;setField (.ref e) 1 b) Q E s:=by
 have nf:e∉(env::outer).filterMap (·.frame):=Ba hl he
 refine wpAny_bind (wpAny_frameOf_fun hfr hl hf λh1 so=>?_)
 refine wpAny_bind (wpAny_entryPlaceOf λpl ip=>?_)
 unfold EntryCells.newEntry newFields
 refine wpAny_bind (wpAny_newObj_type ?_ (ip.sizeOk5 _ _ _ _ _))
 have e1:h1.get? e=some (aI C od vs):=(so.2.1 e nf).trans he
 have big:3<([head,Value.ref L,.none,rawInt L,.none]++(if pl.isEmpty then List.replicate 6 Value.none else pl)).toArray.size:=by
  simp only[Qd,Qa,Q9,Xg]
  omega
 have at3:([head,Value.ref L,.none,rawInt L,.none]++(if pl.isEmpty then List.replicate 6 Value.none else pl)).toArray[3]?=some (rawInt L):=by simp
 generalize ([head,Value.ref L,.none,rawInt L,.none]++(if pl.isEmpty then List.replicate 6 Value.none else pl)).toArray=ts at big at3
 generalize eo:({cls:= .type "traceback",dict:=none,data:= .fields ts}:Obj)=oT
 have e2:(h1.push oT).get? e=some (aI C od vs):=Heap.get?_push_of_some _ e1
 have ne:h1.objs.size≠e:=Nat.ne_of_gt (Heap.lt_size e1)
 refine wpAny_setField e2 rfl hsz (q _ h1.objs.size (vs.setIfInBounds 1 (.ref h1.objs.size)) ⟨λb o g1 g2 g3 _=>?_,λb o g1 _ g3 _=>?_,λb o g1=>?_⟩ ?_ ⟨Array.size_setIfInBounds,by simp⟩ (Zp so.1.symm) ⟨by simp[hsz],ne,oT,ts,?_,by rw[←eo],at3⟩)
 ·rw[Heap.get?_update_other _ _ (Ne.symm g3)]
  exact Heap.get?_push_of_some _ ((so.2.1 b g2).trans g1)
 ·obtain⟨sl,r⟩:=so.2.2 b o g1
  exact⟨sl,(Heap.get?_update_other _ _ (Ne.symm g3)).trans (Heap.get?_push_of_some _ r)⟩
 ·by_cases z:b=e
  ·subst z
   exact⟨_,Heap.get?_update_self _ e2 rfl⟩
  ·obtain⟨sl,r⟩:=so.2.2 b o g1
   exact⟨_,(Heap.get?_update_other _ _ (Ne.symm z)).trans (Heap.get?_push_of_some _ r)⟩
 ·exact Heap.get?_update_self _ e2 rfl
 ·rw[Heap.get?_update_other _ _ (Ne.symm ne),←eo]
  exact Heap.get?_push_size h1 rfl
theorem tD (hfr:A.frames=some (env::outer)) (hl:s.heap.FunFrames base (env::outer)) (hf:env.frame=some L) (he:s.heap.get? e=some (aI C od vs)) (h1:vs[1]?=some .none)
  (q:∀h' T vs',Noted (frs (env::outer)) e (λ_=>False) s.heap h'→h'.get? e=some (aI C od vs')→(vs'.size=vs.size∧vs'[2]?=vs[2]?)→s.heap.objs.size≤T→Trc h' e vs' T (rawInt L)→Q () {s with heap:=h'}):
  wpAny M A (noteFrame (.ref e) env) Q E s:=by
 unfold noteFrame
 simp only[hf]
 refine wpAny_bind (wpAny_field he rfl h1 ?_)
 rw[if_neg (by decide)]
 exact nG hfr hl hf he (Zh.mp h1).1 q
theorem vn {T:Addr} (hfr:A.frames=some (env::outer)) (hl:s.heap.FunFrames base (env::outer)) (hf:env.frame=some L) (he:s.heap.get? e=some (aI C od vs)) (tr:Trc s.heap e vs T .none)
  (q:∀h' T' vs',Noted (frs (env::outer)) e (· =T) s.heap h'→h'.get? e=some (aI C od vs')→(vs'.size=vs.size∧vs'[2]?=vs[2]?)→s.heap.objs.size≤T'→Trc h' e vs' T' (rawInt L)→Q () {s with heap:=h'}):
  wpAny M A (noteFrame (.ref e) env) Q E s:=by
 obtain⟨h1,ne,oT,ts,hT,hd,h3⟩:=tr
 unfold noteFrame
 simp only[hf]
 refine wpAny_bind (wpAny_field he rfl h1 ?_)
 rw[if_pos (show(Value.ref T !=Value.none)=true by simp)]
 refine wpAny_bind (wpAny_field hT hd h3 ?_)
 rw[if_neg (show ¬(Value.none==rawInt L)=true by simp[rawInt])]
 have oth:∀b,b≠T→(s.heap.update T (Obj.mapFields (·.setIfInBounds 3 Value.none))).get? b=s.heap.get? b:=λb z=>Heap.get?_update_other _ _ (Ne.symm z)
 have nofr:∀b o,s.heap.get? b=some o→(∀ws,o.data≠ .fields ws)→b≠T:=λb o g1 g2 z=>by
  subst z
  cases hT.symm.trans g1
  exact g2 ts hd
 refine wpAny_bind (wpAny_setField hT hd (Zh.mp h3).1 ?_)
 refine nG hfr (hl.of_keeps λb o g1 g2=>⟨o,(oth b (nofr b o g1 g2)).trans g1,rfl⟩) hf ((oth e (Ne.symm ne)).trans he) (Zh.mp h1).1 λh' T' vs' n g1 g2 g3 g4=>?_
 refine q h' T' vs' ⟨λb o k1 k2 k3 k4=>n.keep b o ((oth b k4).trans k1) k2 k3 id,λb o k1 k2 k3 k4=>n.slot b o ((oth b k4).trans k1) k2 k3 id,λb o k1=>?_⟩ g1 g2 (by rw[Heap.size_after_update]at g3;exact g3) g4
 by_cases z:b=T
 ·subst z
  exact n.there b _ (Heap.get?_update_self _ hT (Obj.isFreed_of_fields (Obj.data_mapFields hd _)))
 ·exact n.there b o ((oth b z).trans k1)
theorem jx {l:List Addr} {T:Addr} {fl:Value} (he:s.heap.get? e=some (aI C od vs)) (tr:Trc s.heap e vs T fl)
  (q:∀h',(∀b o,b≠T→s.heap.get? b=some o→h'.get? b=some o)→h'.get? e=some (aI C od vs)→(∃o,h'.get? T=some o)→h'.objs.size=s.heap.objs.size→Trc h' e vs T .none→Q () {s with heap:=h'}):
  wpAny M A (setFlight (.ref e) none) Q E s:=by
 obtain⟨h1,ne,oT,ts,hT,hd,h3⟩:=tr
 have big:3<ts.size:=(Zh.mp h3).1
 unfold setFlight
 refine wpAny_bind (wpAny_field he rfl h1 ?_)
 rw[if_pos (show(Value.ref T !=Value.none)=true by simp)]
 have oth:∀b,b≠T→(s.heap.update T (Obj.mapFields (·.setIfInBounds 3 ((none:Option Addr).elim Value.none λf=>rawInt f)))).get? b=s.heap.get? b:=λb z=>Heap.get?_update_other _ _ (Ne.symm z)
 have new:=Heap.get?_update_self (Obj.mapFields (·.setIfInBounds 3 ((none:Option Addr).elim Value.none λf=>rawInt f))) hT (Obj.isFreed_of_fields (Obj.data_mapFields hd _))
 exact wpAny_setField hT hd big (q _ (λb o z g=>(oth b z).trans g) ((oth e (Ne.symm ne)).trans he) ⟨_,new⟩ (Heap.size_after_update ..) ⟨h1,ne,_,_,new,Obj.data_mapFields hd _,by simp[big]⟩)
end
end L2
namespace L2
open PySem PySem.Spec PyProof.Rows
def XN (e C:Addr) (od:Option Addr):HO:= .ext λh=>∃t,h.get? e=some (aI C od #[.ref t,.none,.none,.none,.bool false,.none])
def XO (e C:Addr) (od:Option Addr):HO:= .ext λh=>∃vs,h.get? e=some (aI C od vs)∧1<vs.size
section
variable {P:Program} {w:World} {H:Hp} {h h':Heap} {e C:Addr} {od:Option Addr} {vs:Array Value}
theorem wp {t:Addr} (k:h.get? e=some (aI C od #[.ref t,.none,.none,.none,.bool false,.none])):ObjOk P w H h e (XN e C od):=
 ⟨⟨t,k⟩,⟨_,k⟩,λ_ _ ⟨t,k⟩ st=>⟨t,st _ k⟩⟩
theorem zM (k:h.get? e=some (aI C od vs)) (z:1<vs.size):ObjOk P w H h e (XO e C od):=
 ⟨⟨vs,k,z⟩,⟨_,k⟩,λ_ _ ⟨vs,k,z⟩ st=>⟨vs,st _ k,z⟩⟩
theorem wq (ok:HOk P w H h) (q:H e=some (XN e C od)):∃t,h.get? e=some (aI C od #[.ref t,.none,.none,.none,.bool false,.none]):=(ok e _ q).1
theorem wo (ok:HOk P w H h) (q:H e=some (XO e C od)):∃vs,h.get? e=some (aI C od vs)∧1<vs.size:=(ok e _ q).1
theorem Noted.hok {l:List Addr} {old:Addr→Prop} {φ:Heap→Prop} (n:Noted l e old h h') (ok:HOk P w H h) (hl:∀b∈l,H b=none) (ho:∀b,old b→H b=none) (he:H e=some (.ext φ))
  (new:h'.get? e=some (aI C od vs)) (z:1<vs.size):HOk P w (upd H e (XO e C od)) h':=λb u q=>by
 by_cases hb:b=e
 ·subst hb
  rw[af]at q
  cases q
  exact zM new z
 ·rw[ac hb]at q
  have oth:∀c v,H c=some v→c≠e→∀o,h.get? c=some o→h'.get? c=some o:=λc v r ne o g=>
   n.keep c o g (λm=>by rw[hl c m]at r;cases r) ne λm=>by rw[ho c m]at r;cases r
  refine(ok b u q).stay (λc v hc r=>?_) (λc r=>?_) λc xs r=>?_
  ·rcases hc with rfl|hc
   ·exact oth _ _ q hb v r
   ·exact oth _ _ hc (λm=>by rw[m,he]at hc;cases hc) v r
  ·rw[ac (λm=>by rw[m,he]at r;cases r)]
   exact r
  ·rw[ac (λm=>by rw[m,he]at r;cases r)]
   exact r
theorem Noted.un {l:List Addr} {old:Addr→Prop} {ch:List Addr} {φ:Heap→Prop} {o':HO} (n:Noted l e old h h') (hc:∀b,old b→b∈ch) (he:H e=some (.ext φ)):Un l ch H (upd H e o') h h':=by
 have ne:∀b,H b=none→b≠e:=λb r z=>by rw[z,he]at r;cases r
 refine⟨λb o g r m k=>n.keep b o g m (ne b r) λz=>k (hc b z),λb o g r m k=>n.slot b o g m (ne b r) λz=>k (hc b z),λb o _ r _=>by rw[ac (ne b r)];exact r,λb o g _=>n.there b o g,λb xs r=>?_,λb o u r=>?_,λb ps r=>⟨#[],?_⟩⟩
 ·rw[ac (λm=>by rw[m,he]at r;cases r)]
  exact r
 ·rw[ac (λm=>by rw[m,he]at r;cases r)]
  exact r
 ·rw[ac (λm=>by rw[m,he]at r;cases r),r]
  simp
end
def CX1 (P:Program) (w:World):CXT:=λouter H s E e s'=>∃(ea C:Addr) (od:Option Addr) (vs:Array Value) (T:Addr) (H':Hp),
 e= .ref ea∧s'.os=s.os∧AllBare s'.gens∧Un (frs outer) [] H H' s.heap s'.heap∧HOk P w H' s'.heap∧H' ea=some (XO ea C od)∧s'.heap.get? ea=some (aI C od vs)∧1<vs.size∧
 Trc s'.heap ea vs T .none∧H' T=none∧s.heap.objs.size≤T∧E (.ref ea) od H'
end L2
namespace L2
open PySem PySem.Spec PyProof.Rows
theorem mt {H:Hp} {a:Addr} {o:HO} (h:H a=some o):upd H a o=H:=by
 funext b
 by_cases z:b=a
 ·subst z;rw[af,h]
 ·rw[ac z]
def uR (X:Cx) (E:St→XK) (e:Value) (s:Shared):Prop:=∃(pins:List (Addr×Obj)) (σ:St) (H:Hp) (ea C:Addr) (od:Option Addr) (vs:Array Value) (φ:Heap→Prop),
 e= .ref ea∧Inv X pins σ H s∧H ea=some (.ext φ)∧s.heap.get? ea=some (aI C od vs)∧1<vs.size∧(vs[1]?=some .none∨∃T,Trc s.heap ea vs T .none∧iD X pins H T)∧E σ (.ref ea) od (upd H ea (XO ea C od))
section
variable {X:Cx} {pins:List (Addr×Obj)} {σ:St} {H:Hp} {s:Shared} {M:Model} {A:Around} {W:Value→Shared→Prop}
theorem tz {ea C:Addr} {od:Option Addr} {vs:Array Value} {φ:Heap→Prop} {Q:Unit→Shared→Prop} (I:Inv X pins σ H s) (hst:X.stack=X.env::X.outer) (hf:X.env.frame=some X.env.locals) (hA:A.frames=some X.stack)
  (hx:H ea=some (.ext φ)) (hr:s.heap.get? ea=some (aI C od vs)) (hz:1<vs.size) (ht:vs[1]?=some .none∨(∃T,Trc s.heap ea vs T .none∧iD X pins H T)∨∃T,Trc s.heap ea vs T (rawInt X.env.locals)∧iD X pins H T)
  (q:∀s' vs' T,Inv X pins σ (upd H ea (XO ea C od)) s'→s'.heap.get? ea=some (aI C od vs')→1<vs'.size→Trc s'.heap ea vs' T .none→iD X pins (upd H ea (XO ea C od)) T→vs'[2]?=vs[2]?→Q () s'):
  wpAny M A (noteFrame (.ref ea) X.env) (λ_ s1=>wpAny M A (setFlight (.ref ea) none) Q W s1) W s:=by
 rw[hst]at hA
 have hl:s.heap.FunFrames X.base (X.env::X.outer):=hst▸I.stack
 have hfree:∀b∈frs (X.env::X.outer),H b=none:=hst▸I.stkFree
 have fin:∀(old:Addr→Prop) (ch:List Addr) (h1:Heap) (T':Addr) (vs':Array Value),(∀b,old b↔b∈ch)→(∀b∈ch,iD X pins H b)→Noted (frs (X.env::X.outer)) ea old s.heap h1→h1.get? ea=some (aI C od vs')→(vs'.size=vs.size∧vs'[2]?=vs[2]?)→
   s.heap.objs.size≤T'→Trc h1 ea vs' T' (rawInt X.env.locals)→wpAny M A (setFlight (.ref ea) none) Q W {s with heap:=h1}:=by
  intro old ch h1 T' vs' hoc hch n g1 g2 g3 g4
  refine jx (l:=[]) (s:={s with heap:=h1}) g1 g4 λh2 k1 k2 k3 k4 k5=>?_
  have nT:∀b o,s.heap.get? b=some o→b≠T':=λb o g z=>absurd (Heap.lt_size g) (X3.mpr (z▸g3))
  have n2:Noted (frs (X.env::X.outer)) ea old s.heap h2:=⟨λb o r1 r2 r3 r4=>k1 b o (nT b o r1) (n.keep b o r1 r2 r3 r4),λb o r1 r2 r3 r4=>by
    obtain⟨sl,r⟩:=n.slot b o r1 r2 r3 r4
    exact⟨sl,k1 b _ (nT b o r1) r⟩,λb o r1=>by
    obtain⟨o',r⟩:=n.there b o r1
    exact⟨o',k1 b _ (nT b o r1) r⟩⟩
  have hok2:HOk X.prog X.w (upd H ea (XO ea C od)) h2:=n2.hok I.hok hfree (λb z=>(hch b ((hoc b).mp z)).1) hx k2 (g2.1▸hz)
  have un2:Un (frs X.stack) ch H (upd H ea (XO ea C od)) s.heap h2:=by
   rw[hst]
   exact n2.un (λb z=>(hoc b).mp z) hx
  have I2:Inv X pins σ (upd H ea (XO ea C od)) {s with heap:=h2}:=I.call' (s':={s with heap:=h2}) rfl un2 hok2 I.bare λb hb=>by
   obtain⟨z1,z2,z3,z4,z5,z6⟩:=hch b hb
   exact⟨z4,z2,z5,z6⟩
  refine q _ vs' T' I2 k2 (g2.1▸hz) k5 (I.fpOk g3 ?_) g2.2
  have neT:T'≠ea:=Ne.symm (nT ea _ hr)
  rw[ac neT]
  exact I.hok.fresh g3
 rcases ht with h1|⟨T,tr,fp⟩|⟨T,tr,fp⟩
 ·exact tD hA hl hf hr h1 λh1 T' vs' n g1 g2 g3 g4=>fin (λ_=>False) [] h1 T' vs' (λb=>by simp) (λb z=>nomatch z) n g1 g2 g3 g4
 ·exact vn hA hl hf hr tr λh1 T' vs' n g1 g2 g3 g4=>fin (· =T) [T] h1 T' vs' (λb=>by simp) (λb z=>by rw[Qg.mp z];exact fp) n g1 g2 g3 g4
 ·obtain⟨h1,ne,oT,ts,hT,hd,h3⟩:=id tr
  refine wpAny_noteFrame_inFlight hf hr rfl h1 hT hd h3 ?_
  refine jx (l:=[]) hr tr λh' k1 k2 k3 k4 k5=>?_
  have I1:Inv X pins σ H {s with heap:=h'}:=I.turned (t':=s.toks) (it:=T) k1 fp.1 fp.2.1 fp.2.2.2.1 fp.2.2.2.2.1 fp.2.2.2.2.2
  have I2:Inv X pins σ (upd H ea (XO ea C od)) {s with heap:=h'}:=I1.write (x:=ea) (e:=ea) (t':=s.toks) (by rw[hx];exact True.intro) (.inl rfl) (λ_ _ _ e=>e) ⟨_,k2⟩ (zM k2 hz)
  exact q _ vs T I2 k2 hz k5 ⟨by rw[ac ne];exact fp.1,fp.2.1,fp.2.2.1,fp.2.2.2.1,fp.2.2.2.2.1,fp.2.2.2.2.2⟩ rfl
theorem pB {ea C:Addr} {od:Option Addr} {vs:Array Value} {φ:Heap→Prop} {Q:Unit→Shared→Prop} (I:Inv X pins σ H s) (hst:X.stack=X.env::X.outer) (hf:X.env.frame=some X.env.locals) (hA:A.frames=some X.stack)
  (hx:H ea=some (.ext φ)) (hr:s.heap.get? ea=some (aI C od vs)) (hz:1<vs.size) (ht:vs[1]?=some .none∨∃T,Trc s.heap ea vs T .none∧iD X pins H T)
  (q:∀s' vs' T,Inv X pins σ (upd H ea (XO ea C od)) s'→s'.heap.get? ea=some (aI C od vs')→1<vs'.size→Trc s'.heap ea vs' T .none→iD X pins (upd H ea (XO ea C od)) T→Q () s'):
  wpAny M A (noteFrame (.ref ea) X.env) (λ_ s1=>wpAny M A (setFlight (.ref ea) none) Q W s1) W s:=
 tz I hst hf hA hx hr hz (ht.imp id .inl) λs' vs' T I' r z t f _=>q s' vs' T I' r z t f
theorem Inv.thrown {E:XK} {e:Value} {s':Shared} (I:Inv X pins σ H s) (h:CX1 X.prog X.w X.stack H s E e s'):∃(ea C:Addr) (od:Option Addr) (vs:Array Value) (H':Hp),e= .ref ea∧Inv X pins σ H' s'∧H' ea=some (XO ea C od)∧
  s'.heap.get? ea=some (aI C od vs)∧1<vs.size∧(∃T,Trc s'.heap ea vs T .none∧iD X pins H' T)∧E (.ref ea) od H':=by
 obtain⟨ea,C,od,vs,T,H',rfl,os,bare,un,hok,hx,hr,hz,tr,hT,hn,q⟩:=h
 exact⟨ea,C,od,vs,H',rfl,I.call' os un hok bare λb z=>absurd z (by simp),hx,hr,hz,⟨T,tr,I.fpOk hn hT⟩,q⟩
theorem Inv.flies {E:XK} {F:St→XK} {e:Value} {s':Shared} (I:Inv X pins σ H s) (h:CX1 X.prog X.w X.stack H s E e s') (k:∀v od H',E v od H'→F σ v od H'):uR X F e s':=by
 obtain⟨ea,C,od,vs,H',rfl,I',hx,hr,hz,ht,q⟩:=I.thrown h
 exact⟨pins,σ,H',ea,C,od,vs,_,rfl,I',hx,hr,hz,.inr ht,by rw[mt hx];exact k _ _ _ q⟩
end
section
variable {P:Program} {w:World} {K:PySem.W.Frag} {mg:Str→Option Value} {base:Heap} {N:List Str} {qual:Str} {scope:Scope} {f:Addr} {cd:Value} {A:Around} {outer:List Env} {s:Shared} {H:Hp} {E:XK}
theorem rW {e:Value} {s':Shared} (h:uR (k8 (CX1 P w) P w K mg base N qual scope f cd A outer s H E) (λ_=>E) e s'):(k8 (CX1 P w) P w K mg base N qual scope f cd A outer s H E).xe e s':=by
 obtain⟨pins,σ,H1,ea,C,od,vs,φ,rfl,I,hx,hr,hz,ht,q⟩:=h
 show wpAny _ _ (leaving _ (.ref ea)) _ _ s'
 unfold leaving
 refine wpAny_bind (pB I rfl rfl I.ok.frames hx hr hz ht λs2 vs2 T I2 r2 z2 t2 f2=>?_)
 refine⟨ea,C,od,vs2,T,_,rfl,I2.os,I2.bare,I2.base,I2.hok,af,r2,z2,t2,f2.1,?_,q⟩
 rcases f2.2.2.2.1 with z|z
 ·exact absurd (show T∈([]:List Addr) from z) (by simp)
 ·exact z
theorem z8:dC (CX1 P w) (k8 (CX1 P w) P w K mg base N qual scope f cd A outer s H E) E:=
 λ_ _ _ _ _ _ I h=>rW (I.flies h λ_ _ _ q=>q)
theorem Fun.okX {x qual:Str} {st:Stmt} {f:Addr} {fd:FuncData} {N ps:List Str} {k:Nat} {sp:Sp} (F:Fun K x qual st f fd) (S:ax N ps (ai st)) (len:∀vs H Q E,sp vs H Q E→vs.length=ps.length)
  (hbody:∀(cdv:Value) (A:Around) (outer:List Env) (s:Shared) (H:Hp) (vs:List V) (Q:VK) (E:XK),Room k (A.deeper (envOfC qual (ai st) s.heap.objs.size f cdv))→sp vs H Q E→
   ∃t,PSs (k8 (CX1 P w) P w K mg base N qual (ai st) f cdv A outer s H E) (bW st) t∧t {nx:=λ_ H'=>Q .non H',rt:=Q} (start N vs) H):aX P w K mg base (CX1 P w) (k+1) f fd ps sp:=by
 obtain⟨oc,od,kV,doc,pm,an,cdv,ct,osl,rfl,lk,hcd⟩:=F.ex
 exact uD lk hcd S len λA outer s H vs Q E hr hsp=>hbody cdv A outer s H vs Q E hr hsp
end
end L2
namespace L2
open PySem PySem.Spec PyProof.Rows
abbrev vBase:List Value:=[.type "ValueError",.type "Exception",.type "BaseException",.type "object"]
def ExcMro (bm:List Value):Prop:=∃ups:List Addr,bm=ups.map Value.ref++vBase
theorem ExcMro.typ {bm:List Value} (B:ExcMro bm) (T:String):bm.contains (.type T)=vBase.contains (.type T):=by
 obtain⟨ups,rfl⟩:=B
 induction ups with
 |nil=>rfl
 |cons a r ih=>rw[Qo,ZG,QE,ih];rfl
theorem ExcMro.val {bm:List Value} (B:ExcMro bm):bm.contains (.type "ValueError")=true:=(B.typ _).trans (by decide+kernel)
theorem ExcMro.bas {bm:List Value} (B:ExcMro bm):bm.contains (.type "BaseException")=true:=(B.typ _).trans (by decide+kernel)
theorem ExcMro.att {bm:List Value} (B:ExcMro bm):bm.contains (.type "AttributeError")=false:=(B.typ _).trans (by decide+kernel)
theorem ExcMro.nam {bm:List Value} (B:ExcMro bm):bm.contains (.type "NameError")=false:=(B.typ _).trans (by decide+kernel)
theorem ExcMro.obj {bm:List Value} (B:ExcMro bm):bm.contains (.type "object")=true:=(B.typ _).trans (by decide+kernel)
theorem ExcMro.pass {bm:List Value} (B:ExcMro bm) (self:Value):refuseLoop self "__setattr__" bm=pure ():=by
 obtain⟨ups,rfl⟩:=B
 induction ups with
 |nil=>exact PySem.F.store_ValueError.passes self
 |cons a r ih=>rw[Qo,ZG,refuseLoop_ref];exact ih
structure XCls (K:PySem.W.Frag) (C:Addr) (bm:List Value):Prop where
 ob:∃nm q N bs sn sub ab col dd k0 k1 k2 k3 k5,K.lookup C=some (excClassObj nm q C N bs bm true sn sub ab col dd k0 k1 k2 k3 k5 "ValueError.__new__")
 mro:ExcMro bm
 kp:PySem.W.keepIn K (.ref C)=true
 ga:PySem.W.findIn K (.ref C) "__getattribute__"=some (some (.builtin "BaseException.__getattribute__"))
 gn:PySem.W.findIn K (.ref C) "__getattr__"=some none
 sa:PySem.W.findIn K (.ref C) "__setattr__"=some (some (.builtin "object.__setattr__"))
section
variable {prog:Program} {w:World} {A:Around} {h:Heap} {g:Array GenState} {d:Drawn} {t:Nat} {os:OsState}
variable {nm q:Str} {C N:Addr} {bs bm:List Value} {sn:List Str} {sub:List Value} {ab:Bool} {col:Option Bool} {dd:Option Addr} {k0 k1 k2 k3 k5:Option Value}
abbrev bV (C t:Addr):Obj:=aI C none #[.ref t,.none,.none,.none,.bool false,.none]
abbrev gg (us:List Value):Obj:={cls:= .type "tuple",data:= .seq us.toArray}
theorem zu {rest:List Value} {R:Result→Shared→Prop} (B:ExcMro bm) (hC:h.get? C=some (excClassObj nm q C N bs bm true sn sub ab col dd k0 k1 k2 k3 k5 "ValueError.__new__")) (hz:rest.length≤sizeLine)
  (hq:R (.ok (.ret (.ref (h.objs.size+1)))) ⟨(h.push (gg rest)).push (bV C h.objs.size),g,d,t,os⟩):
  codeAny (model prog w) A (.call (.builtin "ValueError.__new__") ⟨.ref C::rest,[]⟩) R ⟨h,g,d,t,os⟩:=by
 have F:=Xl
 have c1:(Value.ref C::bm).contains (.type "ValueError")=true:=by rw[QE,B.val,Zy]
 have c2:(Value.ref C::bm).contains (.type "AttributeError")=false:=by rw[QE,B.att];rfl
 have c3:(Value.ref C::bm).contains (.type "NameError")=false:=by rw[QE,B.nam];rfl
 have st:=F.noStar
 have en:=F.ends
 refine codeAny_call_builtin_code (Code.quiet_builtin _ F.quiet) ?_
 simp only[checkBuiltinCall,F.newKind,F.newSplit,F.newRow]
 repeat (first|refine wpAny_loadPart_at hC ?_|(refine wpAny_isSubtype_exc hC ?_;rw[c1])|refine wpAny_staticBase_exc hC ?_|refine wpAny_madeBy_exc hC ?_|simp only[bne_self_eq_false,QA,if_false]|wp_step)
 refine codeAny_builtinAt F.entry ?_
 unfold Builtin.«BaseException.__new__»
 refine PySem.wpAt_bind ?_
 show PySem.wpAt _ _ _ (stack>>=_) _ _ _
 refine PySem.wpAt_bind (PySem.wpAt_stack λp below=>PySem.wpAt_of_wpAny ?_)
 wp_walk
 refine PySem.wpAt_of_wpAny ?_
 rw[F.owner]
 repeat (first|with_reducible refine wpAny_madeHere_exc F.canon hC ?_|with_reducible refine wpAny_loadPart_at hC ?_|(with_reducible refine wpAny_isSubtype_exc hC ?_;first|rw[c1]|rw[c2]|rw[c3])|wp_step)
 show R _ _
 rw[Heap.size_push]
 exact hq
open PySem.W in
theorem xG {K:PySem.W.Frag} {fi:Value} {us:List Value} {R:Result→Shared→Prop} (X:K.In h) (Y:XCls K C bm) (hz:us.length≤sizeLine) (hi:findIn K (.ref C) "__init__"=some (some fi)) (hf:∀self,Looks (model prog w) h (bindSpecial fi self) (fi,[self]))
  (hq:codeAny (model prog w) (A.under (.builtin "type.__call__" ⟨.ref C::us,[]⟩)) (.call fi ⟨.ref (h.objs.size+1)::us,[]⟩) (InitBack (h.objs.size+1) R) ⟨(h.push (gg us)).push (bV C h.objs.size),g,d,t,os⟩):
  codeAny (model prog w) A (.call (.ref C) ⟨us,[]⟩) R ⟨h,g,d,t,os⟩:=by
 obtain⟨nm,q,N,bs,sn,sub,ab,col,dd,k0,k1,k2,k3,k5,hK⟩:=Y.ob
 have hC:=X _ _ hK
 have B:=Y.mro
 have cC:(Value.ref C::bm).contains (.ref C)=true:=by simp
 have hl:=looks_findIn (M:=model prog w) X hi
 have f1:=tc_lookup
 have f2:=tc_bind (.ref C)
 have hT:(⟨h,g,d,t,os⟩:Shared).TypeIs (.ref C) "type":=⟨_,hC,rfl⟩
 refine codeAny_of_tree ?_
 show wpAny _ _ (callAny (.ref C) _) _ _ _
 repeat (any_goals (first|assumption|with_reducible refine wpAny_loadPart_at hC ?_|wp_step))
 refine⟨rfl,?_⟩
 refine codeAny_call_builtin_at (Code.quiet_builtin _ (by decide+kernel)) entry_typeCall (wpAny_check_type_call_sub hC ?_)
 repeat (first|with_reducible refine wpAny_loadPart_at hC ?_|with_reducible refine wpAny_madeBy_exc hC ?_|wp_step)
 refine zu B hC hz ?_
 show wpAny _ (A.under (.builtin "type.__call__" ⟨.ref C::us,[]⟩)) _ _ _ ⟨(h.push (gg us)).push (bV C h.objs.size),g,d,t,os⟩
 have k:∀b o,h.get? b=some o→((h.push (gg us)).push (bV C h.objs.size)).get? b=some o:=λb o e=>Heap.get?_push_of_some _ (Heap.get?_push_of_some _ e)
 have he:((h.push (gg us)).push (bV C h.objs.size)).get? (h.objs.size+1)=some (bV C h.objs.size):=by heap_get
 have hC1:=k _ _ hC
 have hl1:=hl.keeps k
 have fb:=(hf (.ref (h.objs.size+1))).keeps k
 have t1:Looks (model prog w) ((h.push (gg us)).push (bV C h.objs.size)) (typeOf (.ref (h.objs.size+1))) (.ref C):=(Looks.ld he).andThen .now
 have s1:Looks (model prog w) ((h.push (gg us)).push (bV C h.objs.size)) (isSubtype (.ref C) (.ref C)) true:=λA' Q' E' s' kk z=>by
  obtain⟨hp,g',d',t',os'⟩:=s'
  exact wpAny_isSubtype_exc (kk _ _ hC1) (by rw[cC];exact z)
 unfold isInstance callSpecial? specialOf
 repeat (first|simp only[cC,Bool.not_true,QA,if_false]|with_reducible refine wpAny_call ?_|lk)
 refine codeAny_mono hq λr s' z=>?_
 rcases r with e|(v|_|_|_)<;>first|exact z|exact z.elim|skip
 obtain⟨rfl,z⟩:=z
 exact wpAny_pure (wpAny_pure z)
end
end L2
namespace L2
open PySem PySem.Spec PyProof.Rows
section
variable {prog:Program} {w:World} {A:Around} {h:Heap} {g:Array GenState} {d:Drawn} {t:Nat} {os:OsState}
variable {nm q:Str} {C N:Addr} {bs bm:List Value} {sn:List Str} {sub:List Value} {ab:Bool} {col:Option Bool} {dd:Option Addr} {k0 k1 k2 k3 k5:Option Value}
theorem xH {e:Addr} {od:Option Addr} {t0:Addr} {us:List Value} {R:Result→Shared→Prop} (B:ExcMro bm) (hC:h.get? C=some (excClassObj nm q C N bs bm true sn sub ab col dd k0 k1 k2 k3 k5 "ValueError.__new__"))
  (he:h.get? e=some (aI C od #[.ref t0,.none,.none,.none,.bool false,.none])) (hz:us.length≤sizeLine)
  (hq:∀h',(∀b o,b≠e→h.get? b=some o→h'.get? b=some o)→h'.get? e=some (aI C od #[.ref h.objs.size,.none,.none,.none,.bool false,.none])→R (.ok (.ret .none)) ⟨h',g,d,t,os⟩):
  codeAny (model prog w) A (.call (.builtin "ValueError.__init__") ⟨.ref e::us,[]⟩) R ⟨h,g,d,t,os⟩:=by
 have F:=Xl
 have c1:(Value.ref C::bm).contains (.type "ValueError")=true:=by rw[QE,B.val,Zy]
 have st:=F.noStar
 refine codeAny_call_builtin F.init.plain F.initEntry ?_
 simp only[checkBuiltinCall,F.initKind,F.initSplit,F.initRow]
 repeat (first|with_reducible refine wpAny_loadPart_at he ?_|with_reducible refine wpAny_loadPart_at hC ?_|(with_reducible refine wpAny_isSubtype_exc hC ?_;rw[c1])|wp_step)
 refine wpAny_onRaise ?_
 rw[show ∀(a b:String) (n:Nat),Bind.check ⟨.positional,"*","ValueError",.self,[⟨"args",.varPos,false⟩]⟩ a b n (List.map (λx=>x.fst) ({pos:=Value.ref e::us}:Args).kw)=pure () from λa b n=>check_star_args _ _ _ _ _ _]
 refine wpAny_pure ?_
 wp_walk
 have he1:(h.push (gg us)).get? e=some (aI C od #[.ref t0,.none,.none,.none,.bool false,.none]):=Heap.get?_push_of_some _ he
 refine hq _ (λb o z k=>?_) ?_
 ·rw[Heap.get?_update_other _ _ (Ne.symm z)]
  exact Heap.get?_push_of_some _ k
 ·exact Heap.get?_update_self _ he1 rfl
end
end L2
namespace L2
open PySem PySem.Spec PyProof.Rows PySem.W
section
variable {prog:Program} {w:World} {A:Around} {E:Value→Shared→Prop} {s:Shared} {K:PySem.W.Frag} {e C:Addr} {bm:List Value}
theorem XCls.cd (Y:XCls K C bm):∃cd,clsIn K C=some cd∧cd.mro= .ref C::bm∧cd.hasDict=true:=by
 obtain⟨nm,q,N,bs,sn,sub,ab,col,dd,k0,k1,k2,k3,k5,hK⟩:=Y.ob
 exact⟨_,by unfold clsIn;rw[hK],rfl,rfl⟩
theorem XCls.inst (Y:XCls K C bm) (X:K.In s.heap) {od:Option Addr} {vs:Array Value} (he:s.heap.get? e=some (aI C od vs)) (T:String) (hT:bm.contains (.type T)=true):Looks (model prog w) s.heap (isInstance (.ref e) (.type T)) true:=by
 obtain⟨cd,hc,hm,_⟩:=Y.cd
 refine((Looks.ld he).andThen .now:Looks (model prog w) s.heap (typeOf (.ref e)) (.ref C)).andThen (looks_mroIn X ?_)
 unfold mroIn
 rw[hc,Zf,if_neg (by rw[hm];exact Q7),hm,QE,hT,Zy]
theorem zt {vs:Array Value} {name:Str} {v:Value} {Q:Unit→Shared→Prop} (X:K.In s.heap) (Y:XCls K C bm) (hn:findIn K (.ref C) name=some none) (he:s.heap.get? e=some (aI C none vs))
  (hq:∀h' tk,(∀b o,b≠e→s.heap.get? b=some o→h'.get? b=some o)→h'.get? e=some (aI C (some s.heap.objs.size) vs)→h'.Ns1 s.heap.objs.size (λy=>if y=name then some v else none)→Q () {s with heap:=h',toks:=tk}):
  wpAny (model prog w) A (setAttr (.ref e) name v) Q E s:=by
 have SF:=PySem.F.store_object
 obtain⟨cd,hc,hm,hd⟩:=Y.cd
 have I:InstAt s.heap e (aI C none vs) C none:=⟨he,rfl,rfl,True.intro⟩
 have ty:Looks (model prog w) s.heap (typeOf (.ref e)) (.ref C):=I.type
 have mo:Looks (model prog w) s.heap (mroOf (.ref C)) (.ref C::bm):=hm▸(looks_clsIn X hc).andThen .now
 refine set_plain X I Y.sa (codeAny_call_builtin SF.slot.plain SF.entry (@check_slot (model prog w) _ _ {s with toks:=s.toks+1} "object.__setattr__" "object" "__setattr__" (.ref e) [.str name s.toks,v] [] _ SF.kind SF.split (Y.inst X he "object" Y.mro.obj) (SF.args (.ref e) (.str name s.toks) v) ?_))
 obtain⟨h,g,d,t,os⟩:=s
 rw[osa_eq,refuse_eq]
 refine wpAny_bind (wpAny_bind (ty.at (wpAny_bind (mo.at ?_))))
 rw[refuseLoop_ref,Y.mro.pass]
 have lk1:=looks_findIn (M:=model prog w) (h:=h) X hn
 refine wpAny_pure (wpAny_bind (ty.at (wpAny_bind (lk1.at (wpAny_bind (wpAny_pure ?_))))))
 have e1:(h.push {cls:= .type "dict",data:= .dict #[]}).get? e=some (aI C none vs):=Heap.get?_push_of_some _ he
 have ne:e≠h.objs.size:=Qq (Heap.lt_size he)
 have C1:=looks_clsIn (M:=model prog w) (h:=h) X hc
 show wpAny _ _ (Builtin.ObjectAttr.storeInOwnDict _ _ _ _ _ _) _ _ _
 unfold Builtin.ObjectAttr.storeInOwnDict Builtin.ObjectAttr.ownDictForStores
 repeat (first|with_reducible refine wpAny_loadPart_at he ?_|lk|wp_step)
 have eg:((h.push {cls:= .type "dict",data:= .dict #[]}).update e λo=>{cls:=o.cls,dict:=some h.objs.size,data:=o.data,slots:=o.slots}).get? h.objs.size=some {cls:= .type "dict",data:= .dict #[]}:=
  (Heap.get?_update_ne _ _ _ _ ne.symm).trans (Heap.get?_push_at rfl rfl)
 have en:((h.push {cls:= .type "dict",data:= .dict #[]}).update e λo=>{cls:=o.cls,dict:=some h.objs.size,data:=o.data,slots:=o.slots}).Ns h.objs.size (λ_=>none):=
  ⟨_, #[],_,eg,rfl,λx hx=>absurd hx (by simp),λ_=>rfl⟩
 have ee:((h.push {cls:= .type "dict",data:= .dict #[]}).update e λo=>{cls:=o.cls,dict:=some h.objs.size,data:=o.data,slots:=o.slots}).get? e=some (aI C (some h.objs.size) vs):=Heap.get?_update_self _ e1 rfl
 refine wpAny_update' e1 ?_
 refine wpAny_pure ?_
 show wpAny _ _ (Builtin.ObjectAttr.storeInDict h.objs.size (.str name t) name v) _ _ _
 unfold Builtin.ObjectAttr.storeInDict Builtin.ObjectAttr.newKeyGuard
 refine wpAny_bind (wpAny_pure (wpAny_bind (wpAny_nsSet1 (Heap.Ns1.of_empty en) λh2 n2 sb=>?_)))
 obtain⟨oD,esD,epD,hoD,hdD,hcD⟩:=n2.count (Within.cons name v Within.nil)
 refine wpAny_bind (wpAny_lookBehind hoD (by rw[hdD];exact pastItsLine_dict (Qv hcD (by rw[Q9,Xg,sizeLine_eq];omega))) (wpAny_pure ?_))
 exact hq h2 _ (λb o z k=>(sb.2 b (Qq (Heap.lt_size k))).trans ((Heap.get?_update_ne _ _ _ _ z).trans (Heap.get?_push_of_some _ k))) ((sb.2 e ne).trans ee) n2
end
end L2
namespace L2
open PySem PySem.Spec PyProof.Rows PySem.W
section
variable {prog:Program} {w:World} {A:Around} {E:Value→Shared→Prop} {s:Shared} {K:PySem.W.Frag} {e C:Addr} {bm:List Value}
theorem bga_slot:Slot "ValueError" "__getattribute__" "BaseException.__getattribute__":=
 .of (owner:="BaseException") (n:="__getattribute__") (by rw[typeLookup_type,builtinLookup_eq_fast];kernel_rfl) (by decide+kernel) (by decide+kernel) (by decide+kernel)
  (by first|exact .inl (by decide+kernel)|exact .inr (by decide+kernel)) (by rw[isSubtype_type];kernel_rfl)
theorem sg {vs:Array Value} {odx:Option Addr} {od:Option Obj} {name:Str} {expr fill:Bool} {tk:Tok} {r:Builtin.ObjectAttr.Found} {Q:Value→Shared→Prop} (X:K.In s.heap) (Y:XCls K C bm) (I:InstAt s.heap e (aI C odx vs) C od)
  (hf:findObj K C od name=some r)
  (hq:wpAny (model prog w) A.in1 (match r with| .value v=>ret v| .bind g a=>Builtin.ObjectAttr.bindTo g a (.ref e) (.ref C)| .missing=>ret .none) (λfin s'=>match fin with| .done (.ret v)=>wpAny (model prog w) A (handedOut v) Q E s'|_=>False) (λ_ _=>False) s)
  (hr:r≠ .missing):wpAny (model prog w) A (getAttrBy (.ref e) (.str name tk) fill expr) Q E s:=by
 obtain⟨h,g,d,t,os⟩:=s
 have L0:=I.type (M:=model prog w)
 have L1:=looks_findIn (M:=model prog w) (h:=h) X Y.ga
 have L2:=looks_findIn (M:=model prog w) (h:=h) X Y.gn
 have L3:=looks_find (M:=model prog w) (h:=h) X I hf
 unfold getAttrBy
 refine wpAny_holding (wpAny_bind (L0.at (wpAny_bind (L1.at ?_))))
 dsimp only
 have n2:(Value.builtin "BaseException.__getattribute__"==Value.builtin "object.__getattribute__")=false:=by decide+kernel
 rw[n2,Xk,if_neg Q7]
 unfold getAttrByItsOwn hookBefore
 rw[if_pos (show onTheHeap (.ref C)=true from rfl)]
 refine wpAny_bind (L2.at (wpAny_bind (wpAny_attempt (wpAny_holding ?_))))
 unfold callGetattribute
 rw[show(expr&&onTheHeap (Value.builtin "BaseException.__getattribute__"))=false from Xk _,if_neg Q7]
 unfold boundAndCalled
 rw[bga_slot.bind]
 refine wpAny_bind (wpAny_pure ?_)
 show wpAny _ _ (call (.builtin "BaseException.__getattribute__") [.ref e,.str name tk]) _ _ _
 refine wpAny_call (codeAny_call_builtin bga_slot.plain PySem.F.entry_bexc_ga (@check_slot (model prog w) _ _ ⟨h,g,d,t,os⟩ "BaseException.__getattribute__" "BaseException" "__getattribute__" (.ref e) [.str name tk] [] _ (by decide+kernel) (by decide+kernel) (Y.inst (s:=⟨h,g,d,t,os⟩) X I.at_ "BaseException" Y.mro.bas) (PySem.F.args_bexc_ga _ _) ?_))
 unfold Builtin.«object.__getattribute__»
 refine wpAny_bind (wpAny_pure (wpAny_bind (wpAny_pure (wpAny_bind (L0.at (wpAny_bind (L3.at ?_)))))))
 cases r with
 |missing=>exact absurd rfl hr
 |value v=>
  refine wpAny_mono hq (λfin s' z=>?_) λ_ _ z=>z.elim
  rcases fin with(_|_|_|_)|_<;>first|exact z|exact z.elim
 |bind g' a=>
  refine wpAny_mono hq (λfin s' z=>?_) λ_ _ z=>z.elim
  rcases fin with(_|_|_|_)|_<;>first|exact z|exact z.elim
theorem zw {vs:Array Value} {dx:Addr} {mA:Str→Option Value} {name:Str} {v:Value} {expr:Bool} {Q:Value→Shared→Prop} (X:K.In s.heap) (Y:XCls K C bm) (hn:findIn K (.ref C) name=some none) (he:s.heap.get? e=some (aI C (some dx) vs))
  (hd:s.heap.Ns1 dx mA) (hv:mA name=some v) (hh:handedIn v=true) (hq:Q v {s with toks:=s.toks+1}):wpAny (model prog w) A (getAttr (.ref e) name expr) Q E s:=by
 obtain⟨cd,hc,hm,hdc⟩:=Y.cd
 obtain⟨od,ho,hl⟩:=pF hd
 have I:InstAt s.heap e (aI C (some dx) vs) C (some od):=⟨he,rfl,rfl,ho⟩
 refine wpAny_bind (wpAny_mkText ?_)
 refine sg (s:={s with toks:=s.toks+1}) (od:=some od) X Y I (findObj_own (by show(clsIn K C).any (·.hasDict)=true;rw[hc];exact hdc) hn rfl (by rw[hl,hv])) ?_ (by intro z;cases z)
 exact wpAny_pure (by show wpAny _ _ (handedOut v) _ _ _;rw[handedOut_of hh];exact wpAny_pure hq)
structure XIs (K:PySem.W.Frag) (C:Addr):Prop where
 ha:findIn K (.ref C) "__class__"=some (some (.builtin "object.__class__"))
 hn:specialIn K (.builtin "object.__class__") "__get__"=some (some (.builtin "getset_descriptor.__get__"))
 tk:takesIn K (.builtin "object.__class__")=some true
 hm:mroIn K C (.type "object")=some true
theorem vT {vs:Array Value} {odx:Option Addr} {od:Option Obj} {Q:Option Value→Shared→Prop} (X:K.In s.heap) (Y:XCls K C bm) (Z:XIs K C) (I:InstAt s.heap e (aI C odx vs) C od) (h:Q (some (.ref C)) {s with toks:=s.toks+1}):
  wpAny (model prog w) A (getAttr? (.ref e) "__class__") Q E s:=by
 obtain⟨cd,hc,hm,hdc⟩:=Y.cd
 have hf:findObj K C od "__class__"=some (.bind (.builtin "getset_descriptor.__get__") (.builtin "object.__class__")):=by
  unfold findObj
  rw[hc,Zf,Z.ha,Zf]
  dsimp only
  rw[Z.hn,Zf]
  dsimp only
  rw[Z.tk]
  rfl
 unfold getAttr? getAttrBy?
 refine wpAny_bind (wpAny_mkText (wpAny_bind (wpAny_attempt ?_)))
 refine sg (s:={s with toks:=s.toks+1}) X Y I hf ?_ (by intro z;cases z)
 show wpAny _ _ (holding [.builtin "object.__class__"] (call (.builtin "getset_descriptor.__get__") [.builtin "object.__class__",.ref e,.ref C])>>=ret) _ _ _
 refine wpAny_bind (wpAny_holding (wpAny_call (class_get (s:={s with toks:=s.toks+1}) X I Z.hm ?_)))
 exact wpAny_pure (by show wpAny _ _ (handedOut _) _ _ _;rw[handedOut_of rfl];exact wpAny_pure (wpAny_pure h))
theorem rX {vs:Array Value} {odx:Option Addr} {od:Option Obj} (Y:XCls K C bm) (Z:XIs K C):KitX K (.ref e) (.ref C) (λh=>InstAt h e (aI C odx vs) C od) where
 ty:=λ_ _ _ I=>I.type
 it:=λ_ _ X _=>by
  obtain⟨nm,q,N,bs,sn,sub,ab,col,dd,k0,k1,k2,k3,k5,hK⟩:=Y.ob
  intro A' Q' E' s' k q
  unfold isType loadHead
  exact wpAny_bind (wpAny_loadPart (k _ _ (X _ _ hK)) (wpAny_pure q))
 ne:=λh tp dd its n sl X htp=>by
  obtain⟨nm,q,N,bs,sn,sub,ab,col,dd,k0,k1,k2,k3,k5,hK⟩:=Y.ob
  refine Bool.eq_false_iff.mpr λq=>?_
  obtain rfl:C=tp:=Value.ref.inj (beq_iff_eq.mp q)
  have z:=congrArg Obj.cls (Option.some.inj ((X _ _ hK).symm.trans htp))
  exact absurd (Value.type.inj z) (by decide+kernel)
 ca:=λX I k=>vT X Y Z I k
end
end L2
namespace L2
open PySem PySem.Spec PyProof.Rows PySem.W
def ExcAt (H:Hp) (e:Addr) (od:Option Addr) (C:Addr) (fs:List (Str×V)):Prop:=H e=some (XO e C od)∧((fs=[]∧od=none)∨∃dx,od=some dx∧H dx=some (.xd fs))
section
variable {X:Cx} {pins:List (Addr×Obj)} {σ:St} {H:Hp} {s:Shared}
theorem ExcAt.inst {e:Addr} {od:Option Addr} {C:Addr} {fs:List (Str×V)} (I:Inv X pins σ H s) (h:ExcAt H e od C fs):∃vs odo,InstAt s.heap e (aI C od vs) C odo:=by
 obtain⟨h1,h2⟩:=h
 obtain⟨vs,r,_⟩:=wo I.hok h1
 rcases h2 with⟨_,rfl⟩|⟨dx,rfl,hd⟩
 ·exact⟨vs,none,r,rfl,rfl,True.intro⟩
 ·obtain⟨mA,⟨o,es,ep,ho,_⟩,_⟩:=(show ObjOk X.prog X.w H s.heap dx (.xd fs) from I.hok dx _ hd)
  exact⟨vs,some o,r,rfl,rfl,ho⟩
theorem gE {K:PySem.W.Frag} {C D:Addr} {bm bm':List Value} {b:Bool} (Y:XCls K C bm) (Z:XCls K D bm') (h:subIn K (.ref C) (.ref D)=some b):kitOne K (.ref C) (.ref D)=some b:=by
 unfold kitOne
 obtain⟨cd,hc,hm,_⟩:=Y.cd
 obtain⟨cd',hc',_,_⟩:=Z.cd
 by_cases z:((Value.ref C:Value)== .ref D)=true
 ·rw[if_pos z]
  obtain rfl:C=D:=Value.ref.inj (beq_iff_eq.mp z)
  have:subIn K (.ref C) (.ref C)=some true:=by
   show mroIn K C (.ref C)=some true
   unfold mroIn
   rw[hc,Zf,if_neg (by rw[hm];exact Q7),hm,QE]
   simp
  rw[h]at this
  rw[this]
 ·rw[if_neg z]
  obtain⟨nm,q,N,bs,sn,sub,ab,col,dd,k0,k1,k2,k3,k5,hK⟩:=Z.ob
  have ht:typeIn K (.ref D)=some (.type "type"):=by
   show(K.lookup D).map (·.cls)=_
   rw[hK]
   rfl
  show(if((clsIn K D).isSome&&typeIn K (.ref D)==some (.type "type"))=true then subIn K (.ref C) (.ref D)else none)=some b
  rw[if_pos (by rw[hc',ht];simp),h]
theorem uw {K:PySem.W.Frag} {C:Addr} {bm:List Value} (Y:XCls K C bm):kitOne K (.ref C) (.type "ValueError")=some true:=by
 unfold kitOne
 obtain⟨cd,hc,hm,_⟩:=Y.cd
 rw[if_neg (by intro z;cases beq_iff_eq.mp z)]
 show(if kitMeta "ValueError"=true then subIn K (.ref C) (.type "ValueError")else none)=some true
 rw[if_pos (by decide+kernel)]
 show mroIn K C (.type "ValueError")=some true
 unfold mroIn
 rw[hc,Zf,if_neg (by rw[hm];exact Q7),hm,QE,Y.mro.val,Zy]
theorem cc (K:PySem.W.Frag) (hK:X.K=K):gf X (.builtin "isinstance") (λxs H Q=>∃e od C fs bm D b,xs=[.ref e,.ref D]∧ExcAt H e od C fs∧XCls K C bm∧XIs K C∧kitOne K (.ref C) (.ref D)=some b∧Q (.bl b) H):=by
 subst hK
 intro pins s σ H xs us Q I r h
 obtain⟨e,od,C,fs,bm,D,b,rfl,hx,Y,Z,hk,q⟩:=h
 obtain⟨u0,u1,rfl,r0,r1⟩:=lB r
 cases (show u0=Value.ref e from r0)
 cases (show u1=Value.ref D from r1)
 obtain⟨vs,odo,J⟩:=hx.inst I
 exact kia_one (rX Y Z) I.kIn J hk (λz=>by cases z) λtk=>⟨.bl b,H,I.tok _,rfl,q⟩
theorem oW (K:PySem.W.Frag) (hK:X.K=K):gf X (.builtin "isinstance") (λxs H Q=>∃e od C fs bm n b,xs=[.ref e,.ty n]∧ExcAt H e od C fs∧XCls K C bm∧XIs K C∧kitOne K (.ref C) (.type n)=some b∧Q (.bl b) H):=by
 subst hK
 intro pins s σ H xs us Q I r h
 obtain⟨e,od,C,fs,bm,n,b,rfl,hx,Y,Z,hk,q⟩:=h
 obtain⟨u0,u1,rfl,r0,r1⟩:=lB r
 cases (show u0=Value.ref e from r0)
 cases (show u1=Value.type n from r1)
 obtain⟨vs,odo,J⟩:=hx.inst I
 exact kia_one (rX Y Z) I.kIn J hk (λz=>by cases z) λtk=>⟨.bl b,H,I.tok _,rfl,q⟩
theorem qR (K:PySem.W.Frag) (hK:X.K=K):gf X (.builtin "isinstance") (λxs H Q=>∃x D t b,xs=[x,.ref D]∧TyOf K H x t∧kitOne K t (.ref D)=some b∧Q (.bl b) H):=by
 subst hK
 intro pins s σ H xs us Q I r h
 obtain⟨x,D,t,b,rfl,ty,e,q⟩:=h
 obtain⟨u,w',rfl,ru,rw'⟩:=lB r
 cases (show w'=Value.ref D from rw')
 exact pI I ru ty e λtk=>⟨.bl b,H,I.tok _,rfl,q⟩
def zS (K:PySem.W.Frag) (ta:TE) (f:Str):TE:=λσ H Q=>ta σ H λx H1=>∃e C dx fs bm v,x= .ref e∧H1 e=some (XO e C (some dx))∧H1 dx=some (.xd fs)∧XCls K C bm∧NoAttr K C f∧fs.lookup f=some v∧Q v H1
theorem y7 {o:Expr} {ta:TE} {f:Str} {pos:Pos} (he:PE X o ta) (hb:attributeBase o f X.env (eval o X.env)=eval o X.env):PE X (.Attribute o f pos) (zS X.K ta f):=by
 intro pins s σ H Q I h
 refine uN hb (thn (he pins s σ H _ I h) λu s1 hzz=>?_)
 obtain⟨x,H1,I1,rx,e,C,dx,fs,bm,v,ex,ea,ed,Y,n,l,q⟩:=hzz
 subst ex
 obtain rfl:u=Value.ref e:=rx
 obtain⟨vs,r,_⟩:=wo I1.hok ea
 obtain⟨mA,hA,ro⟩:=(show ObjOk X.prog X.w H1 s1.heap dx (.xd fs) from I1.hok dx _ ed)
 obtain⟨w',hu,ru⟩:=RelO.some_of (v:=v) (o:=mA f) (by rw[←l];exact ro f)
 exact zw I1.kIn Y n r hA hu (pJ ru) ⟨v,H1,I1.tok _,ru,q⟩
end
end L2
namespace L2
open PySem PySem.Spec PyProof.Rows PySem.W
section
variable {X:Cx} {pins:List (Addr×Obj)} {σ:St} {H:Hp} {s:Shared}
theorem Inv.madeX {C:Addr} {us:List Value} (I:Inv X pins σ H s):Inv X pins σ (upd H (s.heap.objs.size+1) (XN (s.heap.objs.size+1) C none)) {s with heap:=(s.heap.push (gg us)).push (bV C s.heap.objs.size)}:=
 I.laid (t':=s.toks) (λb o e=>Heap.get?_push_of_some _ (Heap.get?_push_of_some _ e)) (Z9 _) (wp (t:=s.heap.objs.size) (by heap_get))
def wG (C:Addr) (sp:Sp) (dvs:List V) (E:XK) (t:TA):TE:=λσ H Q=>t σ H λvs H1=>vs.length≤1000∧∀e,H1 e=none→sp (.ref e::(vs++dvs)) (upd H1 e (XN e C none)) (λv H2=>v= .non∧Q (.ref e) H2) E
variable {CX:CXT} {k:Nat} {f C:Addr} {fd:FuncData} {ps:List Str} {sp:Sp} {dvs:List V} {ds:List Value} {E:XK} {x m:Str} {p pos apos:Pos} {e o:Expr} {es:List Expr} {ta:TE} {t:TA} {bm:List Value}
theorem ve {Q:VK} {us:List Value} {vs:List V} (Y:XCls X.K C bm) (hi:findIn X.K (.ref C) "__init__"=some (some (.ref f))) (hf:isFn X.K (.ref f)=true) (F:aX X.prog X.w X.K X.mg X.base CX k f fd ps sp) (hr:Room (k+1) X.A) (hb:Binds X.K fd ps ds) (hd:Vals dvs ds)
  (hx:dC CX X E) (I:Inv X pins σ H s) (r:Vals vs us) (hz:vs.length≤1000)
  (h:∀e,H e=none→sp (.ref e::(vs++dvs)) (upd H e (XN e C none)) (λv H2=>v= .non∧Q (.ref e) H2) E):wpAny (model X.prog X.w) X.A (call (.ref C) us) (EP X pins σ Q) X.xe s:=by
 have hq:=h (s.heap.objs.size+1) (I.hok.fresh (Z9 _))
 have I2:=Inv.madeX (C:=C) (us:=us) I
 have r2:Vals (V.ref (s.heap.objs.size+1)::(vs++dvs)) (Value.ref (s.heap.objs.size+1)::(us++ds)):= .cons rfl (r.append hd)
 have hl:(Value.ref (s.heap.objs.size+1)::us++ds).length=ps.length:=by
  have z:=r2.length
  rw[F.len _ _ _ _ hq]at z
  exact z.symm
 have hz2:us.length≤sizeLine:=by rw[←r.length];exact QO (bT hz)
 obtain⟨h0,g0,d0,t0,o0⟩:=s
 refine wpAny_call (xG I.kIn Y hz2 hi (λself=>bind_fn I.kIn self (beq_iff_eq.mp hf)) (codeAny_mono (F.run _ X.stack _ _ ⟨Value.ref (h0.objs.size+1)::us,[]⟩ (Value.ref (h0.objs.size+1)::(us++ds)) _ _ E (hr.make C us [])
  (I2.env0.make C us []) (hb _ (Value.ref (h0.objs.size+1)::us) I2.kIn hl) r2 hq) λr s' hq'=>?_))
 cases r with
 |error e=>exact hx pins σ _ _ e s' I2 hq'
 |ok fl=>
  cases fl with
  |ret u=>
   obtain⟨v,H',I3,rv,ev,q3⟩:=I2.after hq'
   subst ev
   exact⟨rv,⟨V.ref (h0.objs.size+1),H',I3,rfl,q3⟩⟩
  |next=>exact False.elim hq'
  |brk=>exact False.elim hq'
  |cont=>exact False.elim hq'
theorem m4 (Y:XCls X.K C bm) (hi:findIn X.K (.ref C) "__init__"=some (some (.ref f))) (hf:isFn X.K (.ref f)=true) (F:aX X.prog X.w X.K X.mg X.base CX k f fd ps sp) (hr:Room (k+1) X.A) (hg:Gl X x) (hm:X.mg x=some (.ref C)) (hb:Binds X.K fd ps ds) (hd:Vals dvs ds) (hx:dC CX X E)
  (ha:PA X (e::es) t) (hdb:(x==("__debug__":Str))=false:=by decide) (he:starEach (e::es) X.env=(false,eval e X.env)::starEach es X.env:=by rfl) (hpl:(backTo pos (starEach es X.env)).any (·.1)=false:=by rfl):
  PE X (.Call (.Name x p) (e::es) [] pos) (wG C sp dvs E t):=by
 intro pins s σ H Q I h
 refine wpAny_Call_Name_kw (gB I hg hm ?_ hdb)
 refine Zm (h₀:=X.base) I.ok.mod.kin Y.kp (thn (ha pos pins s σ H _ I h) λus s1 ⟨vs,H1,I1,r,hz,q⟩=>⟨I1.kIn,?_⟩) he hpl
 exact ve Y hi hf F hr hb hd hx I1 r hz q
theorem Inv.rewrite {ea:Addr} {φ:Heap→Prop} {od:Option Addr} {t1:Addr} {h':Heap} {tk:Nat} (I:Inv X pins σ H s) (hx:H ea=some (.ext φ)) (k:∀b o,b≠ea→s.heap.get? b=some o→h'.get? b=some o)
  (new:h'.get? ea=some (aI C od #[.ref t1,.none,.none,.none,.bool false,.none])):Inv X pins σ (upd H ea (XN ea C od)) {s with heap:=h',toks:=tk}:=
 I.write (x:=ea) (e:=ea) (by rw[hx];exact True.intro) (.inl rfl) k ⟨_,new⟩ (wp new)
end
end L2
namespace L2
open PySem PySem.Spec PyProof.Rows PySem.W
structure uQ (K:PySem.W.Frag) (C:Addr) (m:Str) (v:Value):Prop where
 sp:specialIn K (.ref C) "__getattribute__"=some (some (.builtin "type.__getattribute__"))
 rd:readsIn K C (.type "type")=true
 at_:findCls K (.ref C) (.type "type") m=some (.val v)
section
variable {X:Cx} {pins:List (Addr×Obj)} {σ:St} {H:Hp} {s:Shared}
variable {CX:CXT} {k:Nat} {f C:Addr} {fd:FuncData} {ps:List Str} {sp:Sp} {dvs:List V} {ds:List Value} {E:XK} {x m:Str} {p pos apos:Pos} {e o:Expr} {es:List Expr} {ta:TE} {t:TA} {bm:List Value}
theorem y9 {pl:Sem Bool} (hg:Gl X x) (hm:X.mg x=some (.ref C)) (hc:uQ X.K C m (.ref f)) (hk:PySem.W.keepIn X.K (.ref f)=true) (F:aX X.prog X.w X.K X.mg X.base CX k f fd ps sp) (hr:Room k X.A) (hb:Binds X.K fd ps ds) (hd:Vals dvs ds) (hx:dC CX X E) (ha:PA X (e::es) t)
  (hdb:(x==("__debug__":Str))=false:=by decide)
  (hst:starEach (e::es) X.env=(false,eval e X.env)::starEach es X.env:=by rfl) (hpl:(backTo pos (starEach es X.env)).any (·.1)=false:=by rfl)
  (ht:eval (.Call (.Attribute (.Name x p) m apos) (e::es) [] pos) X.env=(do
   let ov←eval (.Name x p) X.env
   standAt apos.atName
   let(f,first)←holding [ov] (getMethod ov m pl)
   callWith pos f first (backTo pos (starEach (e::es) X.env)) (backToKw pos (keywordEach [] X.env))):=by rfl):
  PE X (.Call (.Attribute (.Name x p) m apos) (e::es) [] pos) (zU sp dvs E t):=by
 intro pins s σ H Q I h
 refine Z3 (pl:=pl) (gB I hg hm ?_ hdb) ht
 refine method_cls I.kIn hc.sp (cls_value I.kIn hc.rd hc.at_ rfl ?_)
 refine Zm (first:=[]) (h₀:=X.base) I.ok.mod.kin hk (thn (ha pos pins _ σ H _ (I.tok _) h) λus s2 ⟨vs,H2,I2,r,q2⟩=>⟨I2.kIn,?_⟩) hst hpl
 exact qo F hr hb hd hx I2 r q2
def BB (K:PySem.W.Frag) (t:TA):TE:=λσ H Q=>t σ H λvs H1=>∃ea C od r bm,vs= .ref ea::r∧r.length≤1000∧H1 ea=some (XN ea C od)∧XCls K C bm∧Q .non H1
theorem uf {pl:Sem Bool} (hg:Gl X x) (hm:X.mg x=some (.ref C)) (hc:uQ X.K C m (.builtin "ValueError.__init__")) (ha:PA X (e::es) t)
  (hdb:(x==("__debug__":Str))=false:=by decide)
  (hst:starEach (e::es) X.env=(false,eval e X.env)::starEach es X.env:=by rfl) (hpl:(backTo pos (starEach es X.env)).any (·.1)=false:=by rfl)
  (ht:eval (.Call (.Attribute (.Name x p) m apos) (e::es) [] pos) X.env=(do
   let ov←eval (.Name x p) X.env
   standAt apos.atName
   let(f,first)←holding [ov] (getMethod ov m pl)
   callWith pos f first (backTo pos (starEach (e::es) X.env)) (backToKw pos (keywordEach [] X.env))):=by rfl):
  PE X (.Call (.Attribute (.Name x p) m apos) (e::es) [] pos) (BB X.K t):=by
 intro pins s σ H Q I h
 refine Z3 (pl:=pl) (gB I hg hm ?_ hdb) ht
 refine method_cls I.kIn hc.sp (cls_value I.kIn hc.rd hc.at_ (by decide+kernel) ?_)
 have hA:=ha pos pins _ σ H _ (I.tok (s.toks+1)) h
 show wpAny _ _ (callWith pos (.builtin "ValueError.__init__") [] (backTo pos (starEach (e::es) X.env)) []) _ _ _
 rw[hst]at hA⊢
 refine Calls.callWith_builtin (by show(false||(backTo pos (starEach es X.env)).any (·.1))=false;rw[hpl]<;>rfl) (Calls.evalArgs_plain ?_)
 refine thn hA λus s2 hzz=>?_
 obtain⟨vs,H2,I2,r2,ea,C',od,r,bm,ev,hz,hx,Y,q2⟩:=hzz
 subst ev
 obtain⟨nm,q',N,bs,sn,sub,ab,col,dd,k0,k1,k2,k3,k5,hK⟩:=Y.ob
 have hC:=I2.kIn _ _ hK
 cases r2 with
 | @cons _ u _ us' r0 r1=>
  cases (show u=Value.ref ea from r0)
  obtain⟨t0,he⟩:=wq I2.hok hx
  obtain⟨h0,g0,d0,tk0,o0⟩:=s2
  refine wpAny_call (xH (us:=us') Y.mro hC he (by rw[←r1.length];exact QO (bT hz)) λh' k' n'=>?_)
  have I3:=I2.rewrite (C:=C') (od:=od) (tk:=tk0) hx k' n'
  rw[mt hx]at I3
  exact⟨V.non,H2,I3,rfl,q2⟩
theorem Inv.newfld {ea:Addr} {t1:Addr} {fn:Str} {y:V} {u:Value} {h':Heap} {tk:Nat} (I:Inv X pins σ H s) (hx:H ea=some (XN ea C none)) (k:∀b o,b≠ea→s.heap.get? b=some o→h'.get? b=some o)
  (new:h'.get? ea=some (aI C (some s.heap.objs.size) #[.ref t1,.none,.none,.none,.bool false,.none])) (hn:h'.Ns1 s.heap.objs.size (λz=>if z=fn then some u else none)) (ry:RelV y u):
  Inv X pins σ (upd (upd H s.heap.objs.size (.xd [(fn,y)])) ea (XN ea C (some s.heap.objs.size))) {s with heap:=h',toks:=tk}:=by
 have nd:H s.heap.objs.size=none:=I.hok.fresh (Q5 _)
 have ne:ea≠s.heap.objs.size:=λz=>by rw[z,nd]at hx;cases hx
 have ub:∀b v,H b=some v→b≠ea→upd (upd H s.heap.objs.size (.xd [(fn,y)])) ea (XN ea C (some s.heap.objs.size)) b=some v:=λb v q z=>by
  rw[ac z,ac (aj q nd)]
  exact q
 have un:∀b,H b=none→b≠s.heap.objs.size→upd (upd H s.heap.objs.size (.xd [(fn,y)])) ea (XN ea C (some s.heap.objs.size)) b=none:=λb q z=>by
  rw[ac (λw=>by rw[w,hx]at q;cases q),ac z]
  exact q
 have nea:∀b,H b=none→b≠ea:=λb q z=>by rw[z,hx]at q;cases q
 have lt:∀b o,s.heap.get? b=some o→b≠s.heap.objs.size:=λb o q=>Qq (Heap.lt_size q)
 refine I.un (t':=tk) ⟨λb o g1 g2 _ _=>k b o (nea b g2) g1,λb o g1 g2 _ _=>⟨o.slots,k b o (nea b g2) g1⟩,λb o g1 g2 _=>un b g2 (lt b o g1),λb o g1 _=>?_,λb xs g1=>ub b _ g1 λz=>(by rw[z,hx]at g1;cases g1),λb o v g1=>ub b _ g1 λz=>(by rw[z,hx]at g1;cases g1),λb ps g1=>⟨#[],?_⟩⟩ λb v q=>?_
 ·by_cases z:b=ea
  ·exact⟨_,z▸new⟩
  ·exact⟨o,k b o z g1⟩
 ·rw[ub b _ g1 λz=>(by rw[z,hx]at g1;cases g1)]
  simp
 ·by_cases z:b=ea
  ·subst z
   rw[af]at q
   cases q
   exact wp new
  ·rw[ac z]at q
   by_cases z2:b=s.heap.objs.size
   ·subst z2
    rw[af]at q
    cases q
    refine⟨_,hn,λg=>?_⟩
    show RelO (List.lookup g [(fn,y)]) (if g=fn then some u else none)
    by_cases z3:g=fn
    ·subst z3
     rw[if_pos rfl]
     show RelO (match g==g with|true=>some y|false=>none) (some u)
     rw[beq_self_eq_true]
     exact ry
    ·rw[if_neg z3]
     show RelO (match g==fn with|true=>some y|false=>none) none
     rw[beq_eq_false_iff_ne.mpr z3]
     exact True.intro
   ·rw[ac z2]at q
    refine(I.hok b v q).stay (λc w hc r=>k c w ?_ r) (λc r=>ub c _ r λz=>(by rw[z,hx]at r;cases r)) λc xs r=>ub c _ r λz=>(by rw[z,hx]at r;cases r)
    rcases hc with rfl|hc
    ·exact z
    ·exact λz=>by rw[z,hx]at hc;cases hc
def BD (K:PySem.W.Frag) (ta tv:TE) (f:Str):TS:=λD σ H=>tv σ H λy H1=>ta σ H1 λx H2=>∃ea C bm,x= .ref ea∧H2 ea=some (XN ea C none)∧XCls K C bm∧NoAttr K C f∧∀dx,H2 dx=none→D.nx σ (upd (upd H2 dx (.xd [(f,y)])) ea (XN ea C (some dx)))
theorem ua {o value:Expr} {ta tv:TE} {f:Str} {pos pos':Pos} (ha:PE X o ta) (hv:PE X value tv) (hs:swapsWith value (some (.Attribute o f pos')) pos.line X.env=pure false):PS X (.Assign [.Attribute o f pos'] value pos) (BD X.K ta tv f):=by
 intro pins s σ H D I h
 refine plainObj_wpAny_Assign_Attribute (thn (hv pins s σ H _ I h) λu s1 ⟨y,H1,I1,ry,q⟩=>thn (ha pins s1 σ H1 _ I1 q) λov s2 hzz=>?_) hs
 obtain⟨x,H2,I2,rx,ea,C,bm,ex,hx,Y,n,q2⟩:=hzz
 subst ex
 obtain rfl:ov=Value.ref ea:=rx
 obtain⟨t1,he⟩:=wq I2.hok hx
 refine zt I2.kIn Y n he λh' tk k1 k2 k3=>⟨σ,_,I2.newfld hx k1 k2 k3 ry,q2 _ (I2.hok.fresh (Q5 _))⟩
theorem vf {env:Env} {y:Sem Value} {Q:Flow→Shared→Prop} {M:Model} {A:Around} {W:Value→Shared→Prop} (hh:A.handled=none)
  (h:wpAny M A y (λv s1=>∃ea C od t nm q N bs bm sn sub ab col dd k0 k1 k2 k3 k5,v= .ref ea∧s1.heap.get? C=some (excClassObj nm q C N bs bm true sn sub ab col dd k0 k1 k2 k3 k5 "ValueError.__new__")∧ExcMro bm∧
   s1.heap.get? ea=some (aI C od #[.ref t,.none,.none,.none,.bool false,.none])∧W (.ref ea) s1) W s):wpAny M A (raiseStmt env (some y) none) Q W s:=by
 unfold raiseStmt
 refine wpAny_bind (wpAny_mono h (λv s1 z=>?_) λ_ _ z=>z)
 obtain⟨ea,C,od,t,nm,q,N,bs,bm,sn,sub,ab,col,dd,k0,k1,k2,k3,k5,rfl,hC,B,he,hE⟩:=z
 have cB:(Value.ref C::bm).contains (.type "BaseException")=true:=by rw[QE,B.bas,Zy]
 obtain⟨hp,g,d,tk,os⟩:=s1
 repeat (first|with_reducible refine wpAny_loadPart_at he ?_|with_reducible refine wpAny_loadPart_at hC ?_|(with_reducible refine wpAny_isSubtype_exc hC ?_;rw[cB])|wp_step)
 exact wpAny_raiseNew_none hh hE
def xT (X:Cx) (E:XK):Prop:=∀e s,uR X (λ_=>E) e s→X.xe e s
def wK (K:PySem.W.Frag) (te:TE) (E:XK):TS:=λ_ σ H=>te σ H λv H1=>∃ea C od bm,v= .ref ea∧H1 ea=some (XN ea C od)∧XCls K C bm∧E (.ref ea) od (upd H1 ea (XO ea C od))
theorem mX {ex:Expr} {te:TE} {pos:Pos} (hc:X.calm=true) (hx:xT X E) (he:PE X ex te):PS X (.Raise (some ex) none pos) (wK X.K te E):=by
 intro pins s σ H D I h
 rw[arm_exec_Raise]
 simp only[evalOpt,Option.map]
 refine wpAny_bind (wpAny_standAt (vf (I.ok.hd hc) (wpAny_bind (thn (he pins s σ H _ I h) λv s1 ⟨y,H1,I1,ry,ea,C,od,bm,ev,hn,Y,q⟩=>wpAny_bind (wpAny_standAt (wpAny_pure ?_))))))
 subst ev
 cases (show v=Value.ref ea from ry)
 obtain⟨nm,q',N,bs,sn,sub,ab,col,dd,k0,k1,k2,k3,k5,hK⟩:=Y.ob
 obtain⟨t,he'⟩:=wq I1.hok hn
 exact⟨ea,C,od,t,nm,q',N,bs,bm,sn,sub,ab,col,dd,k0,k1,k2,k3,k5,rfl,I1.kIn _ _ hK,Y.mro,he',hx _ _ ⟨pins,σ,H1,ea,C,od,_,_,rfl,I1,hn,he',(by show 1<6;decide),.inl rfl,q⟩⟩
end
theorem qd {P:Program} {w:World} {K:PySem.W.Frag} {mg:Str→Option Value} {base:Heap} {N:List Str} {qual:Str} {scope:Scope} {f:Addr} {cd:Value} {A:Around} {outer:List Env} {s:Shared} {H:Hp} {E:XK}:
  xT (k8 (CX1 P w) P w K mg base N qual scope f cd A outer s H E) E:=λ_ _ h=>rW h
end L2
namespace L2
open PySem PySem.Spec PyProof.Rows PySem.W
section
variable {M:Model} {A:Around} {W:Value→Shared→Prop} {s:Shared}
variable {nm q nm' q':Str} {C N C' N':Addr} {bs bm bs' bm':List Value} {sn sn':List Str} {sub sub':List Value} {ab ab':Bool} {col col':Option Bool} {dd dd':Option Addr} {k0 k1 k2 k3 k5 k0' k1' k2' k3' k5':Option Value}
theorem vS {e:Addr} {od:Option Addr} {vs:Array Value} {b:Bool} {Q:Bool→Shared→Prop} (hC:s.heap.get? C=some (excClassObj nm q C N bs bm true sn sub ab col dd k0 k1 k2 k3 k5 "ValueError.__new__"))
  (hD:s.heap.get? C'=some (excClassObj nm' q' C' N' bs' bm' true sn' sub' ab' col' dd' k0' k1' k2' k3' k5' "ValueError.__new__")) (B:ExcMro bm') (he:s.heap.get? e=some (aI C od vs)) (hb:(Value.ref C::bm).contains (.ref C')=b)
  (hq:Q b s):wpAny M A (excMatches (.ref e) (.ref C')) Q W s:=by
 have cB:(Value.ref C'::bm').contains (.type "BaseException")=true:=by rw[QE,B.bas,Zy]
 have f:=tc_notTuple
 obtain⟨hp,g,d,t,os⟩:=s
 unfold excMatches
 repeat (first|with_reducible refine wpAny_loadPart_at he ?_|with_reducible refine wpAny_loadPart_at hD ?_|(with_reducible refine wpAny_isSubtype_exc hD ?_;rw[cB])|(with_reducible refine wpAny_isSubtype_exc hC ?_;rw[hb])|wp_step)
 cases b<;>(wp_walk;exact hq)
end
abbrev Cx.sui (X:Cx) (ea:Addr):Cx:={X with A:=X.A.mark (some (.ref ea)),calm:=false,xe:=λ_ _=>False}
abbrev Cx.tr (X:Cx) (pn:List (Addr×Obj)) (E:St→XK):Cx:={X with pn:=X.pn++pn,xe:=uR {X with pn:=X.pn++pn} E}
section
variable {X:Cx} {pins:List (Addr×Obj)} {σ:St} {H:Hp} {s:Shared}
theorem Cx.Ok.sui (ok:X.Ok) (ea:Addr):(X.sui ea).Ok:=
 ⟨ok.mod,ok.kind,ok.glob,ok.blt,ok.above,ok.inj,ok.has,ok.cab,λz=>absurd z Q7,ok.frames,ok.stk,ok.exf,ok.bs,ok.bsz,ok.noex,ok.exfs,ok.funs,ok.frf⟩
theorem Inv.sui (I:Inv X pins σ H s) (ea:Addr):Inv (X.sui ea) pins σ H s:=⟨I.ok.sui ea,I.os,I.bare,I.base,I.loc,I.cell,I.free,I.freeC,I.pin,I.hok,I.len⟩
theorem Inv.back {ea:Addr} (ok:X.Ok) (I:Inv (X.sui ea) pins σ H s):Inv X pins σ H s:=⟨ok,I.os,I.bare,I.base,I.loc,I.cell,I.free,I.freeC,I.pin,I.hok,I.len⟩
theorem Cx.Ok.tr (ok:X.Ok) (pn:List (Addr×Obj)) (E:St→XK):(X.tr pn E).Ok:=
 ⟨ok.mod,ok.kind,ok.glob,ok.blt,ok.above,ok.inj,ok.has,ok.cab,ok.hd,ok.frames,ok.stk,ok.exf,ok.bs,ok.bsz,ok.noex,ok.exfs,ok.funs,ok.frf⟩
theorem Inv.tr (I:Inv X pins σ H s) (E:St→XK):Inv (X.tr pins E) [] σ H s:=⟨I.ok.tr pins E,I.os,I.bare,I.base,I.loc,I.cell,I.free,I.freeC,λp hp=>I.pin p (by simpa using hp),I.hok,I.len⟩
theorem Inv.untr {pn:List (Addr×Obj)} (ok:X.Ok) (I:Inv {X with pn:=X.pn++pn} pins σ H s):Inv X pn σ H s:=
 ⟨ok,I.os,I.bare,I.base,I.loc,I.cell,I.free,I.freeC,λp hp=>I.pin p (QX _ hp),I.hok,I.len⟩
theorem Inv.untr' {pn:List (Addr×Obj)} {E:St→XK} (ok:X.Ok) (I:Inv (X.tr pn E) pins σ H s):Inv X pn σ H s:=
 ⟨ok,I.os,I.bare,I.base,I.loc,I.cell,I.free,I.freeC,λp hp=>I.pin p (QX _ hp),I.hok,I.len⟩
theorem iG {M:Model} {A:Around} {W:Value→Shared→Prop} {i:Nat} {x:Str} {pos:Pos} {Q:Unit→Shared→Prop} (I:Inv X pins σ H s) (hN:X.N.Nodup) (hi:X.N[i]?=some x) (hk:X.env.scope.names.lookup x=some .local)
  (h:∀s',Inv X pins (σ.set i none) H s'→Q () s'):wpAny M A (do bindName X.env x .none;unbindBehindTheSuite X.env x pos) Q W s:=by
 obtain⟨m,hn,hl⟩:=id I.loc
 have hiσ:i<σ.length:=by rw[I.len];exact(Q3.mp hi).1
 have above:∀b o,X.s₀.heap.get? b=some o→b≠X.env.locals:=λb o e=>Qq (Qp (Heap.lt_size e) I.ok.above)
 refine wpAny_nameGoes_keeps hk hn (by rw[I.ok.kind];rfl) λh' v hn' hs=>h _ ?_
 have cl:∀y c,X.env.cells.lookup y=some c→∀w,s.heap.IsCell c w→h'.IsCell c w:=λy c e w z=>z.sameBut hs (I.cne y c e)
 refine⟨I.ok,I.os,I.bare,⟨λb o e n hb hx=>(hs.2 b (above b o e)).trans (I.base.keep b o e n hb hx),λb o e n hb hx=>?_,I.base.free,λb o e hx=>?_,I.base.tups,I.base.frzs,I.base.tbls⟩,⟨_,hn',λj y v' e1 e2 e3=>?_⟩,λy c e=>?_,I.free,I.freeC,λp hp=>?_,λb ob e=>?_,by simpa using I.len⟩
 ·obtain⟨sl,r⟩:=I.base.slot b o e n hb hx
  exact⟨sl,(hs.2 b (above b o e)).trans r⟩
 ·obtain⟨o',r⟩:=I.base.there b o e hx
  exact⟨o',(hs.2 b (above b o e)).trans r⟩
 ·have hj:j≠i:=λz=>by rw[z,ZL hiσ]at e2;cases e2
  rw[ZW (Ne.symm hj)]at e2
  obtain⟨u,r,q⟩:=hl j y v' e1 e2 e3
  refine⟨u,r,?_⟩
  rcases q with⟨k,e⟩|⟨k,c,e,z⟩
  ·have ny:y≠x:=λz=>hj (nI hN e1 (z▸hi))
   exact .inl ⟨k,by simp[ny,e]⟩
  ·exact .inr ⟨k,c,e,cl y c e _ z⟩
 ·obtain⟨w',z⟩:=I.cell y c e
  exact⟨w',cl y c e w' z⟩
 ·obtain⟨e,n,ne,nf,d⟩:=I.pin p hp
  exact⟨(hs.2 p.1 ne).trans e,n,ne,nf,d⟩
 ·refine(I.hok b ob e).stay (λc w' hc r=>(hs.2 c ?_).trans r) (λ_ r=>r) λ_ _ r=>r
  rintro rfl
  have fr:=I.free
  rcases hc with rfl|hc
  ·rw[fr]at e;cases e
  ·rw[fr]at hc;cases hc
end
end L2
namespace L2
open PySem PySem.Spec PyProof.Rows PySem.W
abbrev TH:=Ends→St→Hp→Addr→Addr→Option Addr→Prop
def PH (X:Cx) (hs:List ExceptHandler) (t:TH):Prop:=∀(pins:List (Addr×Obj)) (s:Shared) (σ:St) (H:Hp) (D:Ends) (ea C:Addr) (od:Option Addr) (vs:Array Value) (T:Addr),Inv X pins σ H s→H ea=some (XO ea C od)→
 s.heap.get? ea=some (aI C od vs)→Trc s.heap ea vs T .none→iD X pins H T→t D σ H ea C od→wpAny (model X.prog X.w) X.A (handleBy (.ref ea) X.env hs) (SP X pins D) X.xe s
def Ca:TH:=λ_ _ _ _ _ _=>False
def Ends.gone (D:Ends) (i:Nat):Ends:=⟨λσ H=>D.nx (σ.set i none) H,D.rt,λσ H=>D.bk (σ.set i none) H,λσ H=>D.ct (σ.set i none) H⟩
def hAs (K:PySem.W.Frag) (Dc:Addr) (i:Nat) (ts:TS) (tr:TH):TH:=λD σ H ea C od=>∃bm b,XCls K C bm∧subIn K (.ref C) (.ref Dc)=some b∧if b=true then ts (D.gone i) (σ.set i (some (.ref ea))) H else tr D σ H ea C od
section
variable {X:Cx} {x n:Str} {np pos:Pos} {b0:Stmt} {suite:List Stmt} {rest:List ExceptHandler} {i:Nat} {ts:TS} {tr:TH} {Dc:Addr} {bm':List Value}
theorem y3 {hs:List ExceptHandler}:PH X hs Ca:=λ_ _ _ _ _ _ _ _ _ _ _ _ _ _ _ h=>h.elim
theorem yI {K:PySem.W.Frag} {C D:Addr} {bm:List Value} {b:Bool} (Y:XCls K C bm) (h:subIn K (.ref C) (.ref D)=some b):(Value.ref C::bm).contains (.ref D)=b:=by
 obtain⟨cd,hc,hm,_⟩:=Y.cd
 have h:mroIn K C (.ref D)=some b:=h
 unfold mroIn at h
 rw[hc,Zf,if_neg (by rw[hm];exact Q7),hm]at h
 exact Option.some.inj h
theorem yZ {name:Option Str} {pins:List (Addr×Obj)} {s:Shared} {σ:St} {H:Hp} {ea C:Addr} {od:Option Addr} {vs:Array Value} {bm:List Value} {b:Bool} {Q:Flow→Shared→Prop} (I:Inv X pins σ H s) (hr:s.heap.get? ea=some (aI C od vs)) (hg:Gl X x) (hm:X.mg x=some (.ref Dc)) (Z:XCls X.K Dc bm')
  (Y:XCls X.K C bm) (hb:subIn X.K (.ref C) (.ref Dc)=some b) (hdb:(x==("__debug__":Str))=false)
  (h1:b=true→codeAny (model X.prog X.w) (X.A.mark (some (.ref ea))) (.handlers (.ref ea) [.ExceptHandler none name (b0::suite) pos] X.env) (λr s2=>match r with
     | .ok f=>(match name with
      |none=>Q f s2
      |some n=>wpAny (model X.prog X.w) X.A (do bindName X.env n .none;unbindBehindTheSuite X.env n pos) (λ_ s3=>Q f s3) X.xe s2)
     | .error x=>cameBackBy (model X.prog X.w) X.A X.env X.xe x s2) s)
  (h2:b=false→wpAny (model X.prog X.w) X.A (handleBy (.ref ea) X.env rest) Q X.xe s):
  wpAny (model X.prog X.w) X.A (handleBy (.ref ea) X.env (.ExceptHandler (some (.Name x np)) name (b0::suite) pos::rest)) Q X.xe s:=by
 obtain⟨nm,q1,N,bs,sn,sub,ab,col,dd,k0,k1,k2,k3,k5,hK⟩:=Y.ob
 obtain⟨nm',q1',N',bs',sn',sub',ab',col',dd',k0',k1',k2',k3',k5',hK'⟩:=Z.ob
 refine wpAny_handleBy_cons (codeAny_handlers_test (gB (X:=X.sui ea) (I.sui ea) hg hm ?_ hdb)) (by intro q;cases q)
 refine vS (I.kIn _ _ hK) (I.kIn _ _ hK') Z.mro hr (yI Y hb) ?_
 cases b with
 |true=>exact h1 rfl
 |false=>exact h2 rfl
theorem BN (hN:X.N.Nodup) (hi:X.N[i]?=some n) (hk:X.env.scope.names.lookup n=some .local) (hg:Gl X x) (hm:X.mg x=some (.ref Dc)) (Z:XCls X.K Dc bm') (hs:∀ea,PSs (X.sui ea) (b0::suite) ts) (hr:PH X rest tr) (hdb:(x==("__debug__":Str))=false:=by decide):
  PH X (.ExceptHandler (some (.Name x np)) (some n) (b0::suite) pos::rest) (hAs X.K Dc i ts tr):=by
 intro pins s σ H D ea C od vs T I hx hre htr hfp h
 obtain⟨bm,b,Y,hb,h⟩:=h
 refine yZ I hre hg hm Z Y hb hdb (λz=>?_) (λz=>?_)
 ·subst z
  rw[if_pos rfl]at h
  refine codeAny_handlers_suite_as (jx (l:=[]) hre htr λh' g1 g2 g3 g4 g5=>?_)
  have I1:Inv X pins σ H {s with heap:=h'}:=I.turned (t':=s.toks) (it:=T) g1 hfp.1 hfp.2.1 hfp.2.2.2.1 hfp.2.2.2.2.1 hfp.2.2.2.2.2
  refine jI (v:= .ref ea) I1 hN hi (.inl hk) rfl (λs2 I2=>?_) (.inr hk)
  refine wpAny_mono (hs ea pins s2 _ H (D.gone i) (I2.sui ea) h) (λf s4 z=>?_) λ_ _ z=>z.elim
  cases f with
  |next=>
   obtain⟨σ',H',I',q⟩:=z
   exact iG (I'.back I.ok) hN hi hk λs5 I5=>⟨_,H',I5,q⟩
  |brk=>
   obtain⟨σ',H',I',q⟩:=z
   exact iG (I'.back I.ok) hN hi hk λs5 I5=>⟨_,H',I5,q⟩
  |cont=>
   obtain⟨σ',H',I',q⟩:=z
   exact iG (I'.back I.ok) hN hi hk λs5 I5=>⟨_,H',I5,q⟩
  |ret u=>
   obtain⟨v,σ',H',I',rv,q⟩:=z
   exact iG (I'.back I.ok) hN hi hk λs5 I5=>⟨v,_,H',I5,rv,q⟩
 ·subst z
  rw[if_neg Q7]at h
  exact hr pins s σ H D ea C od vs T I hx hre htr hfp h
def sTry (tb:(St→XK)→TS) (th:TH):TS:=λD σ H=>tb (λσ1 v od H1=>∃ea C,v= .ref ea∧H1 ea=some (XO ea C od)∧th D σ1 H1 ea C od) D σ H
theorem AE {body:List Stmt} {h0:ExceptHandler} {hs:List ExceptHandler} {tb:(St→XK)→TS} {th:TH} (hst:X.stack=X.env::X.outer) (hf:X.env.frame=some X.env.locals) (hb:∀pn E,PSs (X.tr pn E) body (tb E)) (hh:PH X (h0::hs) th):
  PS X (.Try body (h0::hs) [] [] pos) (sTry tb th):=by
 intro pins s σ H D I h
 refine wpAny_Try_except (wpAny_mono (hb pins _ [] s σ H D (I.tr _) h) (λf s1 z=>?_) λe s1 z=>?_)
 ·cases f with
  |next=>
   obtain⟨σ',H',I',q⟩:=z
   exact wpAny_execs_nil ⟨σ',H',I'.untr' I.ok,q⟩
  |brk=>
   obtain⟨σ',H',I',q⟩:=z
   exact⟨σ',H',I'.untr' I.ok,q⟩
  |cont=>
   obtain⟨σ',H',I',q⟩:=z
   exact⟨σ',H',I'.untr' I.ok,q⟩
  |ret u=>
   obtain⟨v,σ',H',I',rv,q⟩:=z
   exact⟨v,σ',H',I'.untr' I.ok,rv,q⟩
 ·obtain⟨pins1,σ1,H1,ea,C,od,vs,φ,rfl,I1,hx,hr,hz,ht,ea',C',e1,e2,q⟩:=z
  obtain rfl:ea=ea':=Value.ref.inj e1
  refine pB (X:={X with pn:=X.pn++pins}) I1 hst hf I1.ok.frames hx hr hz ht λs2 vs2 T I2 r2 z2 t2 f2=>?_
  obtain⟨vs3,r3,_⟩:=wo I2.hok e2
  obtain rfl:C=C':=by
   have z:=congrArg Obj.cls (Option.some.inj (r2.symm.trans r3))
   exact Value.ref.inj z
  exact hh pins s2 σ1 _ D ea C od vs2 T (I2.untr I.ok) e2 r2 t2 ⟨f2.1,f2.2.1,f2.2.2.1,f2.2.2.2.1,f2.2.2.2.2.1,λp hp=>f2.2.2.2.2.2 p (QX _ hp)⟩ q
end
end L2
namespace L2
open PySem PySem.Spec PyProof.Rows PySem.W
def qX (CX:CXT) (X:Cx) (E:St→XK):Prop:=∀(pins:List (Addr×Obj)) (σ:St) (H:Hp) (s:Shared) (e:Value) (s':Shared),Inv X pins σ H s→CX X.stack H s (E σ) e s'→X.xe e s'
theorem BP {X:Cx} {pn:List (Addr×Obj)} {E:St→XK}:qX (CX1 X.prog X.w) (X.tr pn E) E:=λpins σ H s e s' I h=>by
 have ok:Cx.Ok {X with pn:=X.pn++pn}:=⟨I.ok.mod,I.ok.kind,I.ok.glob,I.ok.blt,I.ok.above,I.ok.inj,I.ok.has,I.ok.cab,I.ok.hd,I.ok.frames,I.ok.stk,I.ok.exf,I.ok.bs,I.ok.bsz,I.ok.noex,I.ok.exfs,I.ok.funs,I.ok.frf⟩
 have I':Inv {X with pn:=X.pn++pn} pins σ H s:=⟨ok,I.os,I.bare,I.base,I.loc,I.cell,I.free,I.freeC,I.pin,I.hok,I.len⟩
 exact I'.flies h λ_ _ _ q=>q
def At (C:Addr) (m:Str) (sp:Sp) (dvs:List V) (E:St→XK) (ta:TE) (t:TA):TE:=λσ H Q=>ta σ H λx H1=>∃a dx fs,x= .ref a∧H1 a=some (.ins C dx fs)∧fs.lookup m=none∧
 t σ H1 λvs H2=>sp (x::(vs++dvs)) H2 Q (E σ)
section
variable {X:Cx} {CX:CXT} {k:Nat} {f C:Addr} {fd:FuncData} {ps:List Str} {sp:Sp} {dvs:List V} {ds:List Value} {E:St→XK} {x m:Str} {p pos apos:Pos} {e o:Expr} {es:List Expr} {ta:TE} {t:TA}
theorem yM {pins:List (Addr×Obj)} {σ:St} {H:Hp} {s:Shared} {Q:VK} {us:List Value} {vs:List V} (F:aX X.prog X.w X.K X.mg X.base CX k f fd ps sp) (hr:Room k X.A) (hb:Binds X.K fd ps ds) (hd:Vals dvs ds) (hx:qX CX X E)
  (I:Inv X pins σ H s) (r:Vals vs us) (h:sp (vs++dvs) H Q (E σ)):wpAny (model X.prog X.w) X.A (call (.ref f) us) (EP X pins σ Q) X.xe s:=by
 have r2:Vals (vs++dvs) (us++ds):=r.append hd
 have hl:(us++ds).length=ps.length:=by rw[←r2.length];exact F.len _ _ _ _ h
 refine wpAny_call (codeAny_mono (F.run X.A X.stack s H ⟨us,[]⟩ (us++ds) (vs++dvs) Q (E σ) hr I.env0 (hb s us I.kIn hl) r2 h) λr s' hq=>?_)
 cases r with
 |error e=>exact hx pins σ H s e s' I hq
 |ok fl=>cases fl<;>first|exact I.after hq|exact False.elim hq
theorem wV {pl:Sem Bool} (he:PE X o ta) (c:Cls X.K C) (hm:bS X.K C m f) (F:aX X.prog X.w X.K X.mg X.base CX k f fd ps sp) (hr:Room k X.A) (hb:Binds X.K fd ps ds) (hd:Vals dvs ds) (hx:qX CX X E) (ha:PA X (e::es) t)
  (hst:starEach (e::es) X.env=(false,eval e X.env)::starEach es X.env:=by rfl) (hpl:(backTo pos (starEach es X.env)).any (·.1)=false:=by rfl)
  (ht:eval (.Call (.Attribute o m apos) (e::es) [] pos) X.env=(do
   let ov←eval o X.env
   standAt apos.atName
   let(f,first)←holding [ov] (getMethod ov m pl)
   callWith pos f first (backTo pos (starEach (e::es) X.env)) (backToKw pos (keywordEach [] X.env))):=by rfl):
  PE X (.Call (.Attribute o m apos) (e::es) [] pos) (At C m sp dvs E ta t):=by
 intro pins s σ H Q I h
 refine Z3 (pl:=pl) (thn (he pins s σ H _ I h) λu s1 hzz=>?_) ht
 obtain⟨x,H1,I1,rx,a,dx,fs,ex,ea,l,q⟩:=hzz
 subst ex
 obtain rfl:u=Value.ref a:=rx
 refine gF I1 ea c hm l ?_
 refine Zm (first:=[.ref a]) (h₀:=X.base) I.ok.mod.kin hm.kp (thn (ha pos pins s1 σ H1 _ I1 q) λus s2 ⟨vs,H2,I2,r,q2⟩=>⟨I2.kIn,?_⟩) hst hpl
 exact yM (us:= .ref a::us) (vs:= .ref a::vs) F hr hb hd hx I2 (.cons rfl r) q2
end
end L2
namespace L2
open PySem PySem.Spec PyProof.Rows PySem.W
theorem tf {X:Cx} {P:Program} {w:World}:dC (CX1 P w) X E0:=λ_ _ _ _ _ _ _ ⟨_,_,_,_,_,_,_,_,_,_,_,_,_,_,_,_,_,z⟩=>z.elim
def tW (K:PySem.W.Frag) (fd:FuncData) (ps:List Str) (dvs:List V):Prop:=∃ds,Binds K fd ps ds∧Vals dvs ds
structure FunD (K:PySem.W.Frag) (x qual:Str) (st:Stmt) (f:Addr) (fd:FuncData):Prop where
 ex:∃(oc:Value) (od:Option Addr) (dV kV doc pm:Value) (an:Option Addr) (cdv ct:Value) (osl:Array (Option Value)),
  fd=fnOf x qual (dN st) (bW st) (ai st) dV kV doc pm an cdv ct∧K.lookup f=some ⟨oc,od,.func fd,osl⟩∧codeIn K cdv qual=true
 kp:keepIn K (.ref f)=true
section
variable {P:Program} {w:World} {K:PySem.W.Frag} {mg:Str→Option Value} {base:Heap} {x qual:Str} {st:Stmt} {f:Addr} {fd:FuncData} {N ps:List Str} {k:Nat} {sp:Sp}
theorem FunD.ok (F:FunD K x qual st f fd) (S:ax N ps (ai st)) (len:∀vs H Q E,sp vs H Q E→vs.length=ps.length)
  (hbody:∀(cdv:Value) (A:Around) (outer:List Env) (s:Shared) (H:Hp) (vs:List V) (Q:VK) (E:XK),Room k (A.deeper (envOfC qual (ai st) s.heap.objs.size f cdv))→sp vs H Q E→
   ∃t,PSs (k8 CX0 P w K mg base N qual (ai st) f cdv A outer s H E).nox (bW st) t∧t {nx:=λ_ H'=>Q .non H',rt:=Q} (start N vs) H):aX P w K mg base CX0 (k+1) f fd ps sp:=by
 obtain⟨oc,od,dV,kV,doc,pm,an,cdv,ct,osl,rfl,lk,hcd⟩:=F.ex
 refine uD lk hcd S len λA outer s H vs Q E hr hsp=>?_
 obtain⟨t,h,q⟩:=hbody cdv A outer s H vs Q E hr hsp
 exact⟨t,h.nox,q⟩
theorem FunD.okX (F:FunD K x qual st f fd) (S:ax N ps (ai st)) (len:∀vs H Q E,sp vs H Q E→vs.length=ps.length)
  (hbody:∀(cdv:Value) (A:Around) (outer:List Env) (s:Shared) (H:Hp) (vs:List V) (Q:VK) (E:XK),Room k (A.deeper (envOfC qual (ai st) s.heap.objs.size f cdv))→sp vs H Q E→
   ∃t,PSs (k8 (CX1 P w) P w K mg base N qual (ai st) f cdv A outer s H E) (bW st) t∧t {nx:=λ_ H'=>Q .non H',rt:=Q} (start N vs) H):aX P w K mg base (CX1 P w) (k+1) f fd ps sp:=by
 obtain⟨oc,od,dV,kV,doc,pm,an,cdv,ct,osl,rfl,lk,hcd⟩:=F.ex
 exact uD lk hcd S len λA outer s H vs Q E hr hsp=>hbody cdv A outer s H vs Q E hr hsp
structure Bm (K:PySem.W.Frag) (x qual:Str) (st:Stmt) (T f:Addr) (fd:FuncData):Prop where
 toD:FunD K x qual st f fd
 ex:∃(kV doc pm:Value) (an:Option Addr) (cdv ct:Value),fd=fnOf x qual (dN st) (bW st) (ai st) (.ref T) kV doc pm an cdv ct
theorem uC {oc:Value} {od an:Option Addr} {osl:Array (Option Value)} {T:Addr} {kV doc pm cdv ct:Value} (l:K.lookup f=some ⟨oc,od,.func (fnOf x qual (dN st) (bW st) (ai st) (.ref T) kV doc pm an cdv ct),osl⟩)
  (c:codeIn K cdv qual=true) (k:keepIn K (.ref f)=true):Bm K x qual st T f (fnOf x qual (dN st) (bW st) (ai st) (.ref T) kV doc pm an cdv ct):=⟨⟨⟨oc,od,_,kV,doc,pm,an,cdv,ct,osl,rfl,l,c⟩,k⟩,⟨kV,doc,pm,an,cdv,ct,rfl⟩⟩
theorem oe {T:Addr} {dd:Option Addr} {items:Array Value} {n:Nat} {sl:Array (Option Value)} {ds:List Value} (g:Nat) (hg:g+ds.length=ps.length) (F:Bm K x qual st T f fd) (hT:K.lookup T=some ⟨.type "tuple",dd,.seq items n,sl⟩)
  (h:∀(kV doc pm:Value) (an:Option Addr) (cdv ct:Value) (us:List Value),us.length=g→∃k,bindArgs (fnOf x qual (dN st) (bW st) (ai st) (.ref T) kV doc pm an cdv ct) ⟨us,[]⟩=seqItems? (.ref T)>>=k∧k (some items)=pure (ps.zip (us++ds))):
  Binds K fd ps ds:=by
 obtain⟨kV,doc,pm,an,cdv,ct,rfl⟩:=F.ex
 intro s us X hl
 obtain⟨k,h1,h2⟩:=h kV doc pm an cdv ct us (by rw[Qa]at hl;omega)
 exact BindsTo.of_defaults rfl (X _ _ hT) rfl h1 h2
end
end L2
namespace L2
open PySem PySem.Spec PyProof.Rows
inductive DV where
 |non|bl (b:Bool)|int (i:Int)|str (x:Str)|lst (xs:List DV)|tup (xs:List DV)
end L2
namespace L2
open PySem PySem.Spec PyProof.Rows
end L2
namespace L2
open PySem PySem.Spec PyProof.Rows SeqAt
section
variable {X:Cx}
theorem gy {st:Stmt}:PS X st (λ_ _ _=>False):=λ_ _ _ _ _ _ h=>h.elim
theorem PlainL.isL {h:Heap} {a:Addr} {xs:Array Value} (p:PlainL h a xs):h.IsList a xs:=by
 obtain⟨o,n,e,c,_,d⟩:=p
 exact⟨o,e,c,n,d⟩
def rEqN (K:PySem.W.Frag) (f:Bool):R2:=λx y H Q=>∃a b xs,x= .ref a∧y= .ref b∧SqL K H a xs∧SqL K H b []∧Q (.bl (xs.isEmpty !=f)) H
theorem wZ (K:PySem.W.Frag) (hK:X.K=K) (hu:X.A.units+20<cLine):OpR X (compareOp .NotEq) (rEqN K true):=by
 subst hK
 intro pins s σ H x y v u Q I rx ry h
 obtain⟨a,b,xs,rfl,rfl,h1,h2,q⟩:=h
 cases rx
 cases ry
 obtain⟨i1,r1,p1,z1⟩:=I.list h1
 obtain⟨i2,r2,p2,z2⟩:=I.list h2
 have hu0:X.A.units<cLine:=by omega
 cases r2
 cases r1 with
 |nil=>exact RcNeAt.lists (A:=X.A) (e:=λ_=>true) (PlainL.isL p1) (PlainL.isL p2) rfl hu0 (λj h1=>absurd h1 (Xh _)) _ _ _ _ ⟨.bl _,H,I,rfl,q⟩
 |cons r t=>exact RcNeAt.lists_lengths (PlainL.isL p1) (PlainL.isL p2) (by simp) hu0 _ _ _ _ ⟨.bl _,H,I,rfl,q⟩
end
section
variable {K:PySem.W.Frag} {H:Hp} {x y:Addr} {ns:List Int} {Q:VK}
theorem rM (h1:SqL K H x (ns.map V.int)) (h2:SqL K H y []) (q:Q (.bl (!decide (ns=[]))) H):rEqN K true (.ref x) (.ref y) H Q:=by
 refine⟨x,y,_,rfl,rfl,h1,h2,?_⟩
 cases ns with
 |nil=>exact q
 |cons n ns=>rw[decide_eq_false (by simp)]at q;exact q
end
end L2
namespace L2
open PySem PySem.Spec PyProof.Rows SeqAt
def Fl:V→Prop
 | .int _=>True| .str _=>True| .non=>True|_=>False
section
variable {X:Cx} {pins:List (Addr×Obj)} {σ:St} {H:Hp} {s:Shared}
theorem uE {A:Around} {x:V} {u v:Value} (h:Fl x) (r1:RelV x u) (r2:RelV x v):EqAt A s u v true:=by
 cases x with
 |int n=>
  obtain⟨t1,rfl⟩:=r1
  obtain⟨t2,rfl⟩:=r2
  have:=EqAt.int_int (A:=A) (s:=s) n t1 n t2
  rwa [beq_self_eq_true]at this
 |str n=>
  obtain⟨t1,rfl⟩:=r1
  obtain⟨t2,rfl⟩:=r2
  have:=EqAt.str_str (A:=A) (s:=s) n t1 n t2
  rwa [beq_self_eq_true]at this
 |non=>
  cases (show u=Value.none from r1)
  cases (show v=Value.none from r2)
  exact EqAt.same _
 |_=>exact h.elim
end
end L2
namespace L2
open PySem PySem.Spec PyProof.Rows SeqAt
def Alk (K:PySem.W.Frag) (H:Hp):Nat→V→V→Prop
 |0,x,y=>Fl x∧x=y
 |n+1,x,y=>(Fl x∧x=y)∨∃a b xs ys,x= .ref a∧y= .ref b∧(SqL K H a xs∧SqL K H b ys∨SqT K H a xs∧SqT K H b ys)∧xs.length=ys.length∧∀(j:Nat) (u v:V),xs[j]?=some u→ys[j]?=some v→Alk K H n u v
theorem ol:∀{xs:List V} {us:List Value},Vals xs us→∀(j:Nat) (h:j<us.length),∃x,xs[j]?=some x∧RelV x us[j]
 |_,_,.nil,_,h=>absurd h (Xh _)
 |_,_,.cons r _,0,_=>⟨_,rfl,r⟩
 |_,_,.cons _ r,j+1,h=>ol r j (Nat.lt_of_succ_lt_succ h)
section
variable {X:Cx} {pins:List (Addr×Obj)} {σ:St} {H:Hp} {s:Shared}
theorem xS (I:Inv X pins σ H s):∀(n:Nat) {A:Around} {x y:V} {u v:Value},A.units+n<cLine→Alk X.K H n x y→RelV x u→RelV y v→EqAt A s u v true
 |0,_,_,_,_,_,_,⟨f,e⟩,r1,r2=>uE f r1 (e▸r2)
 |n+1,A,x,y,u,v,hu,h,r1,r2=>by
  rcases h with⟨f,e⟩|⟨a,b,xs,ys,rfl,rfl,o,l,g⟩
  ·exact uE f r1 (e▸r2)
  cases r1
  cases r2
  by_cases e:a=b
  ·subst e
   exact EqAt.same _
  have it:∀{us vs:List Value},Vals xs us→Vals ys vs→∀(j:Nat) (h1:j<us.length) (h2:j<vs.length),EqAt A.in1 s us[j] vs[j] true:=λv1 v2 j h1 h2=>by
   obtain⟨x,e1,q1⟩:=ol v1 j h1
   obtain⟨y,e2,q2⟩:=ol v2 j h2
   exact xS I n (by show A.units+1+n<cLine;omega) (g j x y e1 e2) q1 q2
  refine EqAt.of_refs e ?_
  rcases o with⟨h1,h2⟩|⟨h1,h2⟩
  ·obtain⟨i1,v1,p1,_⟩:=I.list h1
   obtain⟨i2,v2,p2,_⟩:=I.list h2
   have:=RcAt.lists (A:=A) (e:=λ_=>true) (PlainL.isL p1) (PlainL.isL p2) (by simpa[←v1.length,←v2.length]using l) (by omega) (λj a b=>by simpa using it v1 v2 j (by simpa using a) (by simpa using b))
   rw[QG.mpr λ_ _=>rfl]at this
   exact this
  ·obtain⟨i1,v1,p1,_⟩:=I.tuple h1
   obtain⟨i2,v2,p2,_⟩:=I.tuple h2
   have:=RcAt.tuples (A:=A) (e:=λ_=>true) p1 p2 (by omega) (λj a b=>by simpa using it v1 v2 j (by simpa using a) (by simpa using b))
   rw[QG.mpr λ_ _=>rfl]at this
   simpa[←v1.length,←v2.length,l]using this
def rAlk (K:PySem.W.Frag) (f:Bool):R2:=λx y H Q=>∃(a b:Addr) (xs ys:List V),x= .ref a∧y= .ref b∧(SqL K H a xs∧SqL K H b ys∨SqT K H a xs∧SqT K H b ys)∧xs.length=ys.length∧(∀(j:Nat) (u v:V),xs[j]?=some u→ys[j]?=some v→Alk K H 4 u v)∧Q (.bl (!f)) H
theorem AL (K:PySem.W.Frag) (hK:X.K=K) (hu:X.A.units+20<cLine):OpR X (compareOp .NotEq) (rAlk K true):=by
 subst hK
 intro pins s σ H x y v u Q I rx ry h
 obtain⟨a,b,xs,ys,rfl,rfl,o,l,g,q⟩:=h
 cases rx
 cases ry
 have it:∀{us vs:List Value},Vals xs us→Vals ys vs→∀(j:Nat) (h1:j<us.length) (h2:j<vs.length),EqAt X.A.in1 s us[j] vs[j] true:=λv1 v2 j h1 h2=>by
  obtain⟨x,e1,q1⟩:=ol v1 j h1
  obtain⟨y,e2,q2⟩:=ol v2 j h2
  exact xS I 4 (by show X.A.units+1+4<cLine;omega) (g j x y e1 e2) q1 q2
 rcases o with⟨h1,h2⟩|⟨h1,h2⟩
 ·obtain⟨i1,v1,p1,_⟩:=I.list h1
  obtain⟨i2,v2,p2,_⟩:=I.list h2
  have:=RcNeAt.lists (A:=X.A) (e:=λ_=>true) (PlainL.isL p1) (PlainL.isL p2) (by simpa[←v1.length,←v2.length]using l) (by omega) (λj a b=>by simpa using it v1 v2 j (by simpa using a) (by simpa using b))
  rw[QG.mpr λ_ _=>rfl]at this
  exact this _ _ _ _ ⟨.bl _,H,I,rfl,q⟩
 ·obtain⟨i1,v1,p1,_⟩:=I.tuple h1
  obtain⟨i2,v2,p2,_⟩:=I.tuple h2
  have:=RcNeAt.tuples (A:=X.A) (e:=λ_=>true) p1 p2 (by omega) (λj a b=>by simpa using it v1 v2 j (by simpa using a) (by simpa using b))
  rw[QG.mpr λ_ _=>rfl,show(true&&i1.toArray.size==i2.toArray.size)=true by simp[←v1.length,←v2.length,l]]at this
  exact this _ _ _ _ ⟨.bl _,H,I,rfl,q⟩
end
end L2
namespace L2
open PySem PySem.Spec PyProof.Rows
theorem oU {x y:V} {A B:Prop} (e:x=y) (h:A):if decide (x=y)=true then A else B:=by
 rw[decide_eq_true e]
 exact cQ h
theorem am {H:Hp} {p:Addr} {o:HO} (h:H p=none):Same H (upd H p o):=λb u e=>by
 rw[ac (aj e h)]
 exact e
def AllI (P:Int→Prop):List V→Prop
 | []=>True
 | .int m::r=>P m∧AllI P r
 |_::_=>False
theorem AllI.ints {P:Int→Prop}:∀{L:List V},AllI P L→∃ns:List Int,L=ns.map V.int∧∀m∈ns,P m
 | [],_=>⟨[],rfl,λ_ z=>nomatch z⟩
 | .int m::r,h=>by
  obtain⟨ns,e,q⟩:=AllI.ints h.2
  refine⟨m::ns,by rw[e];rfl,λx hx=>?_⟩
  rcases Qe.mp hx with rfl|hx
  ·exact h.1
  ·exact q x hx
theorem BM {P:Int→Prop} {L:List V} {c n:Int} (h:AllI P L) (hn:(L.length:Int)=n) (hp:0<n):∃m,atI L (c%n)=some (.int m)∧P m:=by
 obtain⟨ns,e,q⟩:=h.ints
 subst e
 have a:=QF c (X6 hp)
 have b:=Zn c hp
 rw[Q2]at hn
 have hlt:(c%n).toNat<ns.length:=by omega
 refine⟨_,ke a (by omega),q _ ?_⟩
 rw[Qu,Q4 hlt]
 exact Zg hlt
theorem dQ {H H':Hp} {l:Addr} {o:HO} (s:Same H H') (n:H l=none):Same H (upd H' l o):=λb u e=>by
 rw[ac (aj e n)]
 exact s b u e
theorem ju {K:PySem.W.Frag} {C D:Addr} {b:Bool} (h1:PySem.W.typeIn K (.ref D)=some (.type "type")) (h2:PySem.W.isClsIn K D=true) (h3:PySem.W.subIn K (.ref C) (.ref D)=some b) (hne:C=D→b=true):
  PySem.W.kitOne K (.ref C) (.ref D)=some b:=by
 unfold PySem.W.kitOne
 by_cases z:((Value.ref C:Value)== .ref D)=true
 ·rw[if_pos z,hne (Value.ref.inj (beq_iff_eq.mp z))]
 ·rw[if_neg z]
  show(if((PySem.W.clsIn K D).isSome&&PySem.W.typeIn K (.ref D)==some (.type "type"))=true then PySem.W.subIn K (.ref C) (.ref D)else none)=some b
  have:(PySem.W.clsIn K D).isSome=true:=h2
  rw[if_pos (by rw[this,h1];simp),h3]
theorem Room.u20 {k:Nat} {A:Around} (r:Room k A):A.units+20<cLine:=by have:=r.un;omega
section
variable {X:Cx} {k:Nat} {f C:Addr} {fd:FuncData} {ps:List Str} {sp:Sp} {dvs:List V} {ds:List Value} {E:XK} {x m:Str} {p pos apos:Pos} {e o:Expr} {es:List Expr} {ta:TE} {t:TA}
theorem rG (K:PySem.W.Frag) (hK:X.K=K) {f:Str} (he:PE X o ta) (hb:attributeBase o f X.env (eval o X.env)=eval o X.env):PE X (.Attribute o f pos) (zS K ta f):=by
 subst hK
 exact y7 he hb
end
end L2
namespace Srt
open PySem PyProof.Rows
abbrev dk:Keyed:=(Value.none,Value.none)
def g (xs:Array Keyed) (i:Nat):Keyed:=xs[i]?.getD dk
theorem nX {xs:Array Keyed} {i:Nat} (h:i<xs.size):xs[i]?=some (g xs i):=by
 unfold g;rw[getElem?_pos xs i h];rfl
theorem j8 {xs ys:Array Keyed} {i j:Nat} (h:xs[i]?=ys[j]?):g xs i=g ys j:=by unfold g;rw[h]
theorem Cb {xs:Array Keyed} {i:Nat} (h:i<xs.size):g xs i∈xs:=by
 have e:=nX h
 exact Array.mem_of_getElem? e
structure Cmp (blt:Keyed→Keyed→Bool):Prop where
 asym:∀x y,blt x y=true→blt y x=false
 tr:∀x y z,blt y x=false→blt z y=false→blt z x=false
section
variable {blt:Keyed→Keyed→Bool} (C:Cmp blt)
abbrev le (blt:Keyed→Keyed→Bool) (x y:Keyed):Prop:=blt y x=false
include C
theorem Cmp.trans {x y z:Keyed} (h1:le blt x y) (h2:le blt y z):le blt x z:=C.tr x y z h1 h2
theorem Cmp.of_lt {x y:Keyed} (h:blt x y=true):le blt x y:=C.asym _ _ h
end
def On (blt:Keyed→Keyed→Bool) (xs:Array Keyed) (lo hi:Nat):Prop:=∀i j,lo≤i→i<j→j<hi→le blt (g xs i) (g xs j)
def Off (blt:Keyed→Keyed→Bool) (xs:Array Keyed) (lo hi:Nat):Prop:=∀i j,lo≤i→i<j→j<hi→le blt (g xs j) (g xs i)
theorem On.one {blt:Keyed→Keyed→Bool} {xs:Array Keyed} {lo:Nat}:On blt xs lo (lo+1):=λi j h1 h2 h3=>by omega
theorem Off.one {blt:Keyed→Keyed→Bool} {xs:Array Keyed} {lo:Nat}:Off blt xs lo (lo+1):=λi j h1 h2 h3=>by omega
theorem On.congr {blt:Keyed→Keyed→Bool} {xs ys:Array Keyed} {lo hi:Nat} (h:On blt xs lo hi) (e:∀k,lo≤k→k<hi→g ys k=g xs k):On blt ys lo hi:=λi j h1 h2 h3=>by
 rw[e i h1 (by omega),e j (by omega) h3];exact h i j h1 h2 h3
section
variable {blt:Keyed→Keyed→Bool} (C:Cmp blt)
include C
theorem On.snoc {xs:Array Keyed} {lo n:Nat} (h:On blt xs lo (lo+n)) (hn:1≤n) (e:le blt (g xs (lo+n-1)) (g xs (lo+n))):On blt xs lo (lo+(n+1)):=λi j h1 h2 h3=>by
 by_cases z:j<lo+n
 ·exact h i j h1 h2 z
 ·have ej:j=lo+n:=by omega
  subst ej
  by_cases y:i=lo+n-1
  ·subst y;exact e
  ·exact C.trans (h i (lo+n-1) h1 (by omega) (by(clear y z h3 h2 h1 e;omega))) e
theorem Off.snoc {xs:Array Keyed} {lo n:Nat} (h:Off blt xs lo (lo+n)) (hn:1≤n) (e:le blt (g xs (lo+n)) (g xs (lo+n-1))):Off blt xs lo (lo+(n+1)):=λi j h1 h2 h3=>by
 by_cases z:j<lo+n
 ·exact h i j h1 h2 z
 ·have ej:j=lo+n:=by omega
  subst ej
  by_cases y:i=lo+n-1
  ·subst y;exact e
  ·exact C.trans e (h i (lo+n-1) h1 (by omega) (by(clear y z h3 h2 h1 e;omega)))
end
theorem xz {xs:Array Keyed} {i j:Nat} (hj:j≤xs.size) (k:Nat):g (mirror xs i j ((j-i)/2)) k=if i≤k∧k<j then g xs (i+j-1-k)else g xs k:=by
 have e:=getElem?_mirror_all (i:=i) hj k
 by_cases h1:i≤k∧k<j
 ·rw[if_pos h1]at e⊢;exact j8 e
 ·rw[if_neg h1]at e⊢;exact j8 e
theorem xA {xs:Array Keyed} {src d:Nat} (hs:src<xs.size) (hd:d≤src) (k:Nat):g (bubble xs src d) k=if k=src-d then g xs src else if src-d<k∧k≤src then g xs (k-1)else g xs k:=by
 have e:=getElem?_bubble hs d hd k
 by_cases h1:k=src-d
 ·rw[if_pos h1]at e⊢;exact j8 e
 ·rw[if_neg h1]at e⊢
  by_cases h2:src-d<k∧k≤src
  ·rw[if_pos h2]at e⊢;exact j8 e
  ·rw[if_neg h2]at e⊢;exact j8 e
section
variable {prog:Program} {w:World} {A:Around} {E:Value→Shared→Prop} {s:Shared} {a₀:Array Keyed} {κ:SortKind} {blt:Keyed→Keyed→Bool}
def wa (prog:Program) (w:World) (A:Around) (E:Value→Shared→Prop) (s:Shared) (a₀:Array Keyed) (κ:SortKind) (blt:Keyed→Keyed→Bool):Prop:=
 ∀(x y:Keyed) (st:SortSt) (Q:Option Bool→SortSt→Prop),x∈a₀→y∈a₀→kindOf st=κ→Q (some (blt x y)) st→wpS (model prog w) A E s (lt' x y) Q st
structure Base (a₀:Array Keyed) (κ:SortKind) (st:SortSt):Prop where
 kind:kindOf st=κ
 fine:failedOf st=none
 perm:(arrOf st).Perm a₀
theorem Base.size {st:SortSt} (B:Base a₀ κ st):(arrOf st).size=a₀.size:=B.perm.size_eq
theorem Base.mem {st:SortSt} (B:Base a₀ κ st) {i:Nat} (h:i<a₀.size):g (arrOf st) i∈a₀:=(B.perm.mem_iff).mp (Cb (by rw[B.size];exact h))
variable (L:wa prog w A E s a₀ κ blt)
include L
theorem jH {st:SortSt} {i j:Nat} {Q:Option Bool→SortSt→Prop} (B:Base a₀ κ st) (hi:i<a₀.size) (hj:j<a₀.size) (h:Q (some (blt (g (arrOf st) i) (g (arrOf st) j))) st):
  wpS (model prog w) A E s (ltAt' i j) Q st:=by
 rw[ltAt'_eq]
 refine wpS_bind (wpS_get ?_)
 show wpS _ _ _ _ (do let x←elem' (arrOf st) i;let y←elem' (arrOf st) j;lt' x y) Q st
 rw[elem'_eq,elem'_eq,nX (by rw[B.size];exact hi),nX (by rw[B.size];exact hj)]
 refine wpS_bind (wpS_pure (wpS_bind (wpS_pure ?_)))
 exact L _ _ st Q (B.mem hi) (B.mem hj) B.kind h
omit L in
theorem wx {α:Type} {m m':StateT SortSt Sem α} {Q:α→SortSt→Prop} {st:SortSt} (e:m=m') (h:wpS (model prog w) A E s m' Q st):wpS (model prog w) A E s m Q st:=by rw[e];exact h
abbrev wb (lo:Nat) (xs ys:Array Keyed):Prop:=∀k,k<lo→g ys k=g xs k
theorem dP {st:SortSt} {i j:Nat} {Q:Unit→SortSt→Prop} (B:Base a₀ κ st) (hj:j≤a₀.size)
  (h:∀st',Base a₀ κ st'→pendingOf st'=pendingOf st→(∀k,g (arrOf st') k=if i≤k∧k<j then g (arrOf st) (i+j-1-k)else g (arrOf st) k)→Q () st'):
  wpS (model prog w) A E s (reverseSlice' i j) Q st:=by
 rw[reverseSlice'_eq]
 refine wpS_modify (h _ ⟨B.kind,B.fine,(mirror_perm _ _ _ _).trans B.perm⟩ rfl λk=>?_)
 exact xz (by rw[B.size];exact hj) k
theorem ww {st:SortSt} {lo a nrem:Nat} {γ:Type} {f:Nat→Option γ×Nat→StateT SortSt Sem (ForInStep (Option γ×Nat))} {Q:Option γ×Nat→SortSt→Prop} (C:Cmp blt) (B:Base a₀ κ st) (ha:1≤a) (han:a≤nrem) (hz:lo+nrem≤a₀.size) (hs:On blt (arrOf st) lo (lo+a))
  (hf:∀(i n:Nat) (R:ForInStep (Option γ×Nat)→SortSt→Prop),n<nrem→1≤n→(blt (g (arrOf st) (lo+n)) (g (arrOf st) (lo+n-1))=true→R (.done (none,n)) st)→(blt (g (arrOf st) (lo+n)) (g (arrOf st) (lo+n-1))=false→R (.yield (none,n+1)) st)→wpS (model prog w) A E s (f i (none,n)) R st)
  (h:∀n,a≤n→n≤nrem→On blt (arrOf st) lo (lo+n)→(n<nrem→blt (g (arrOf st) (lo+n)) (g (arrOf st) (lo+n-1))=true)→Q (none,n) st):
  wpS (model prog w) A E s (forIn [a:nrem] (none,a) f) Q st:=by
 refine wpS_forRange (I:=λi c st'=>st'=st∧c=(none,i)∧a≤i∧i≤nrem∧On blt (arrOf st) lo (lo+i)) ?_ ?_ ⟨rfl,rfl,Q5 _,han,hs⟩
 ·rintro i c st' h1 h2 ⟨rfl,rfl,h3,h4,h5⟩
  refine hf i i _ h2 (by(clear h4 h3 h2 hz han;omega)) (λe=>?_) (λe=>?_)
  ·exact h i h3 h4 h5 λ_=>e
  ·exact⟨rfl,rfl,by omega,by omega,h5.snoc C (by(clear e h4 h3 h2 hz han;omega)) e⟩
 ·rintro c st' ⟨rfl,rfl,h3,h4,h5⟩
  have e:max a nrem=nrem:=Zu han
  rw[e]at h5⊢
  exact h nrem han (Q5 _) h5 λz=>absurd z (Zc _)
omit L in
theorem kN {xs ys:Array Keyed} {lo b e:Nat} (hb:lo≤b) (h:Off blt xs lo e) (o:On blt xs b e) (hy:∀k,g ys k=if b≤k∧k<e then g xs (b+e-1-k)else g xs k):Off blt ys lo e:=λi j h1 h2 h3=>by
 rw[hy i,hy j]
 by_cases jb:b≤j
 ·rw[if_pos ⟨jb,h3⟩]
  by_cases ib:b≤i
  ·rw[if_pos ⟨ib,by(clear ib jb h1 hb;omega)⟩]
   exact o _ _ (by(clear ib jb h2 h1 hb;omega)) (by(clear ib jb h1 hb;omega)) (by(clear jb h2 h1 hb;omega))
  ·rw[if_neg (by omega)]
   exact h _ _ h1 (by(clear jb h2 h1 hb;omega)) (by(clear ib h2 h1 hb;omega))
 ·rw[if_neg (by omega),if_neg (by omega)]
  exact h i j h1 h2 h3
omit L in
theorem AN {xs ys:Array Keyed} {lo e:Nat} (h:Off blt xs lo e) (hy:∀k,g ys k=if lo≤k∧k<e then g xs (lo+e-1-k)else g xs k):On blt ys lo e:=λi j h1 h2 h3=>by
 rw[hy i,hy j,if_pos ⟨h1,by omega⟩,if_pos ⟨by omega,h3⟩]
 exact h _ _ (by(clear h2 h1;omega)) (by omega) (by(clear h2;omega))
omit L in
theorem zc {xs ys:Array Keyed} {lo e:Nat} (h:On blt xs lo e) (hy:∀k,g ys k=if lo≤k∧k<e then g xs (lo+e-1-k)else g xs k):Off blt ys lo e:=λi j h1 h2 h3=>by
 rw[hy i,hy j,if_pos (show lo≤j∧j<e by omega),if_pos (show lo≤i∧i<e by omega)]
 exact h _ _ (by(clear h2 h1;omega)) (by omega) (by(clear h2;omega))
def xQ (lo:Nat):Nat→Option (Option Nat)×Nat→StateT SortSt Sem (ForInStep (Option (Option Nat)×Nat)):=λ_ __s=>do
 let __x←ltAt' (lo+__s.snd) (lo+__s.snd-1)
 match __x with
 |some smaller=>if smaller=true then pure (ForInStep.done (none,__s.snd))else pure (ForInStep.yield (none,__s.snd+1))
 |_=>pure (ForInStep.done (some none,__s.snd))
def pe (lo n nrem:Nat):StateT SortSt Sem (Option Nat):=do
 reverseSlice' lo (lo+n)
 let __s←forIn [n:nrem] (none,n) (xQ lo)
 match __s.fst with
 |some r=>pure r
 |none=>pure (some __s.snd)
def uG (lo:Nat):Nat→Option (Option Nat)×Nat×Nat→StateT SortSt Sem (ForInStep (Option (Option Nat)×Nat×Nat)):=λ_ __s=>do
 let __x←ltAt' (lo+__s.snd.fst) (lo+__s.snd.fst-1)
 match __x with
 |some smaller=>
  if smaller=true then
   if __s.snd.snd>0 then do
    reverseSlice' (lo+__s.snd.fst-(__s.snd.snd+1)) (lo+__s.snd.fst)
    pure (ForInStep.yield (none,__s.snd.fst+1,0))
   else pure (ForInStep.yield (none,__s.snd.fst+1,0))
  else do
   let __x←ltAt' (lo+__s.snd.fst-1) (lo+__s.snd.fst)
   match __x with
   |some larger=>
    if larger=true then pure (ForInStep.done (none,__s.snd.fst,__s.snd.snd))
    else pure (ForInStep.yield (none,__s.snd.fst+1,__s.snd.snd+1))
   |_=>pure (ForInStep.done (some none,__s.snd.fst,__s.snd.snd))
 |_=>pure (ForInStep.done (some none,__s.snd.fst,__s.snd.snd))
def pS (lo n nrem:Nat):StateT SortSt Sem (Option Nat):=do
 liftM (rule "list.sort.descending-run")
 let __s←forIn [n+1:nrem] (none,n+1,0) (uG lo)
 match __s.fst with
 |some r=>pure r
 |none=>
  if __s.snd.snd>0 then do
   reverseSlice' (lo+__s.snd.fst-(__s.snd.snd+1)) (lo+__s.snd.fst)
   pe lo __s.snd.fst nrem
  else pe lo __s.snd.fst nrem
theorem tY {st:SortSt} {lo nrem i n:Nat} {R:ForInStep (Option (Option Nat)×Nat)→SortSt→Prop} (B:Base a₀ κ st) (hz:lo+nrem≤a₀.size) (hn:n<nrem) (h1:1≤n)
  (ht:blt (g (arrOf st) (lo+n)) (g (arrOf st) (lo+n-1))=true→R (.done (none,n)) st) (hf:blt (g (arrOf st) (lo+n)) (g (arrOf st) (lo+n-1))=false→R (.yield (none,n+1)) st):wpS (model prog w) A E s (xQ lo i (none,n)) R st:=by
 unfold xQ
 refine wpS_bind (jH L B (by dsimp only;omega) (by dsimp only;omega) ?_)
 dsimp only
 cases e:blt (g (arrOf st) (lo+n)) (g (arrOf st) (lo+n-1))with
 |true=>exact wpS_pure (ht e)
 |false=>exact wpS_pure (hf e)
theorem jG {st:SortSt} {lo n nrem:Nat} {Q:Option Nat→SortSt→Prop} (C:Cmp blt) (B:Base a₀ κ st) (h1:1≤n) (hn:n≤nrem) (hz:lo+nrem≤a₀.size) (ho:Off blt (arrOf st) lo (lo+n))
  (h:∀m st',Base a₀ κ st'→pendingOf st'=pendingOf st→1≤m→m≤nrem→On blt (arrOf st') lo (lo+m)→wb lo (arrOf st) (arrOf st')→Q (some m) st'):wpS (model prog w) A E s (pe lo n nrem) Q st:=by
 unfold pe
 refine wpS_bind (dP L B (by omega) λst' B' hp hy=>?_)
 refine wpS_bind (ww L C B' h1 hn hz (AN ho hy) (λi n R hn h1 ht hf=>tY L B' (i:=i) hz hn h1 ht hf) (λm ha hm hs _=>?_))
 exact wpS_pure (h m st' B' hp (by(clear hm hp hz hn;omega)) hm hs λk hk=>by rw[hy k,if_neg (by(clear hm ha hp hz hn h1;omega))])
theorem rc {st:SortSt} {lo n nrem:Nat} {Q:Option Nat→SortSt→Prop} (C:Cmp blt) (B:Base a₀ κ st) (h1:1≤n) (hn:n+1≤nrem) (hz:lo+nrem≤a₀.size) (ho:Off blt (arrOf st) lo (lo+(n+1)))
  (h:∀m st',Base a₀ κ st'→pendingOf st'=pendingOf st→1≤m→m≤nrem→On blt (arrOf st') lo (lo+m)→wb lo (arrOf st) (arrOf st')→Q (some m) st'):wpS (model prog w) A E s (pS lo n nrem) Q st:=by
 unfold pS
 refine wpS_bind (wpS_lift (wpAny_rule ⟨rfl,?_⟩))
 refine wpS_bind (wpS_forRange (I:=λi c st'=>∃q,c=(none,i,q)∧Base a₀ κ st'∧pendingOf st'=pendingOf st∧wb lo (arrOf st) (arrOf st')∧n+1≤i∧i≤nrem∧q+1≤i∧Off blt (arrOf st') lo (lo+i)∧On blt (arrOf st') (lo+i-(q+1)) (lo+i)) ?_ ?_
  ⟨0,rfl,B,rfl,λ_ _=>rfl,Q5 _,hn,by omega,ho,λi j a b c=>by(clear hz hn h1;omega)⟩)
 ·rintro i c st' hi1 hi2 ⟨q,rfl,B',hp,hk,h2,h3,h4,off,on⟩
  unfold uG
  refine wpS_bind (jH L B' (by dsimp only;omega) (by dsimp only;omega) ?_)
  dsimp only
  cases e:blt (g (arrOf st') (lo+i)) (g (arrOf st') (lo+i-1))with
  |true=>
   by_cases q0:q>0
   ·rw[if_pos rfl,if_pos q0]
    refine wpS_bind (dP L B' (by omega) λst2 B2 hp2 hy=>?_)
    refine wpS_pure ⟨0,rfl,B2,hp2.trans hp,λk hk2=>by rw[hy k,if_neg (by(clear hp2 q0 e h3 h2 hp hi2 hi1 hz hn h1;omega))];exact hk k hk2,by omega,by omega,by omega,?_,λi j a b c=>by(clear hp2 q0 e h4 h3 h2 hp hi2 hi1 hz hn h1;omega)⟩
    refine(kN (by(clear hp2 q0 e h3 h2 hp hi2 hi1 hz hn h1;omega)) off on hy).snoc C (by(clear hp2 q0 e h4 h3 h2 hp hi2 hz hn h1;omega)) ?_
    rw[hy,hy,if_neg (by omega),if_pos (by(clear hp2 q0 e h4 h3 h2 hp hi2 hz hn h1;omega))]
    have z:lo+i-(q+1)+(lo+i)-1-(lo+i-1)=lo+i-(q+1):=by(clear hp2 q0 e h4 h3 h2 hp hi2 hi1 hz hn h1;omega)
    rw[z]
    exact C.trans (C.of_lt e) (off _ _ (by(clear z hp2 q0 e h3 h2 hp hi2 hi1 hz hn h1;omega)) (by(clear z hp2 e h4 h3 h2 hp hi2 hz hn;omega)) (by(clear z hp2 q0 e h4 h3 h2 hp hi2 hz hn h1;omega)))
   ·rw[if_pos rfl,if_neg q0]
    exact wpS_pure ⟨0,rfl,B',hp,hk,by omega,by omega,by omega,off.snoc C (by(clear q0 e h4 h3 h2 hp hi2 hz hn h1;omega)) (C.of_lt e),λi j a b c=>by(clear q0 e h4 h3 h2 hp hi2 hi1 hz hn h1;omega)⟩
  |false=>
   simp only[QA,if_false]
   refine wpS_bind (jH L B' (by omega) (by omega) ?_)
   dsimp only
   cases e2:blt (g (arrOf st') (lo+i-1)) (g (arrOf st') (lo+i))with
   |true=>
    simp only[if_true]
    refine wpS_pure ?_
    dsimp only
    by_cases q0:q>0
    ·rw[if_pos q0]
     refine wpS_bind (dP L B' (by omega) λst2 B2 hp2 hy=>?_)
     refine jG L C B2 (by(clear hp2 q0 e2 e h4 h3 h2 hp hi2 hz hn h1;omega)) h3 hz (kN (by(clear hp2 q0 e2 e h3 h2 hp hi2 hi1 hz hn h1;omega)) off on hy) λm st3 B3 hp3 a b c d=>h m st3 B3 (hp3.trans (hp2.trans hp)) a b c λk hk2=>?_
     rw[d k hk2,hy k,if_neg (by(clear b a hp3 hp2 q0 e2 e h3 h2 hp hi2 hi1 hz hn h1;omega))]
     exact hk k hk2
    ·rw[if_neg q0]
     exact jG L C B' (by(clear q0 e2 e h4 h3 h2 hp hi2 hz hn h1;omega)) h3 hz off λm st3 B3 hp3 a b c d=>h m st3 B3 (hp3.trans hp) a b c λk hk2=>(d k hk2).trans (hk k hk2)
   |false=>
    simp only[QA,if_false]
    refine wpS_pure ⟨q+1,rfl,B',hp,hk,by omega,by omega,by(clear e2 e h3 h2 hp hi2 hi1 hz hn h1;omega),off.snoc C (by(clear e2 e h4 h3 h2 hp hi2 hz hn h1;omega)) e2,?_⟩
    have z:lo+(i+1)-(q+1+1)=lo+i-(q+1):=by(clear e2 e h4 h3 h2 hp hi2 hi1 hz hn h1;omega)
    rw[z]
    intro x y hx hy hz'
    by_cases hyi:y<lo+i
    ·exact on x y hx hy hyi
    ·have ey:y=lo+i:=by(clear hy hx z e2 e h4 h3 h2 hp hi2 hi1 hz hn h1;omega)
     subst ey
     by_cases hxi:x=lo+i-1
     ·subst hxi;exact e
     ·exact C.trans (on x (lo+i-1) hx (by(clear hyi hz' hx z e2 e h4 h3 h2 hp hi2 hi1 hz hn h1;omega)) (by(clear hxi hyi hz' hy hx z e2 e h4 h3 h2 hp hi2 hz hn h1;omega))) e
 ·rintro c st' ⟨q,rfl,B',hp,hk,h2,h3,h4,off,on⟩
  have em:max (n+1) nrem=nrem:=Zu hn
  rw[em]at h3 h4 off on⊢
  dsimp only
  by_cases q0:q>0
  ·rw[if_pos q0]
   refine wpS_bind (dP L B' (by omega) λst2 B2 hp2 hy=>?_)
   refine jG L C B2 (by(clear hp2 q0 em h4 h3 h2 hp hz h1;omega)) h3 hz (kN (by(clear hp2 q0 em h3 h2 hp hz hn h1;omega)) off on hy) λm st3 B3 hp3 a b c d=>h m st3 B3 (hp3.trans (hp2.trans hp)) a b c λk hk2=>?_
   rw[d k hk2,hy k,if_neg (by(clear b a hp3 hp2 q0 em h3 h2 hp hz hn h1;omega))]
   exact hk k hk2
  ·rw[if_neg q0]
   exact jG L C B' (by(clear q0 em h4 h3 h2 hp hz h1;omega)) h3 hz off λm st3 B3 hp3 a b c d=>h m st3 B3 (hp3.trans hp) a b c λk hk2=>(d k hk2).trans (hk k hk2)
theorem wv {st:SortSt} {lo nrem:Nat} {Q:Option Nat→SortSt→Prop} (C:Cmp blt) (B:Base a₀ κ st) (h1:1≤nrem) (hz:lo+nrem≤a₀.size)
  (h:∀n st',Base a₀ κ st'→pendingOf st'=pendingOf st→1≤n→n≤nrem→On blt (arrOf st') lo (lo+n)→wb lo (arrOf st) (arrOf st')→Q (some n) st'):wpS (model prog w) A E s (countRun' lo nrem) Q st:=by
 rw[countRun'_eq]
 dsimp only
 refine wpS_bind (ww L C B (Q5 1) h1 hz On.one (λi n R hn h1 ht hf=>tY L B (i:=i) hz hn h1 ht hf) (λn ha hn hs hlt=>?_))
 dsimp only
 by_cases en:n=nrem
 ·subst en
  simp only[beq_self_eq_true,if_true]
  exact wpS_pure (h n st B rfl ha hn hs λ_ _=>rfl)
 ·have eb:(n==nrem)=false:=beq_eq_false_iff_ne.mpr en
  simp only[eb,QA,if_false]
  have fall:=hlt (by(clear eb ha hz h1;omega))
  by_cases n1:n>1
  ·rw[if_pos n1]
   refine wpS_bind (jH L B (by omega) (by omega) ?_)
   dsimp only
   cases e:blt (g (arrOf st) lo) (g (arrOf st) (lo+n-1))with
   |true=>
    simp only[if_true]
    exact wpS_pure (h n st B rfl ha hn hs λ_ _=>rfl)
   |false=>
    simp only[QA,if_false]
    refine wpS_bind (dP L B (by omega) λst2 B2 hp2 hy=>?_)
    have off:Off blt (arrOf st2) lo (lo+(n+1)):=by
     refine(zc hs hy).snoc C ha ?_
     rw[hy,hy,if_neg (by omega),if_pos (by omega)]
     have z:lo+(lo+n)-1-(lo+n-1)=lo:=by omega
     rw[z]
     exact C.trans (C.of_lt fall) e
    refine wx (m':=pS lo n nrem) (by
      unfold pS pe xQ uG
      congr 1;funext _u;congr 1;funext s2;obtain⟨r2,n2,q2⟩:=s2
      cases r2 with
      |some r2=>rfl
      |none=>
       dsimp only
       split
       ·congr 1;funext _v;congr 1;funext _w;congr 1;funext s3;obtain⟨r3,n3⟩:=s3;cases r3<;>rfl
       ·congr 1;funext _w;congr 1;funext s3;obtain⟨r3,n3⟩:=s3;cases r3<;>rfl) (rc L C B2 ha (by omega) hz off λm st3 B3 hp3 a b c d=>h m st3 B3 (hp3.trans hp2) a b c λk hk=>by rw[d k hk,hy k,if_neg (by omega)])
  ·rw[if_neg n1]
   have e1:n=1:=by(clear fall eb en hn hz h1;omega)
   subst e1
   refine wx (m':=pS lo 1 nrem) (by
      unfold pS pe xQ uG
      congr 1;funext _u;congr 1;funext s2;obtain⟨r2,n2,q2⟩:=s2
      cases r2 with
      |some r2=>rfl
      |none=>
       dsimp only
       split
       ·congr 1;funext _v;congr 1;funext _w;congr 1;funext s3;obtain⟨r3,n3⟩:=s3;cases r3<;>rfl
       ·congr 1;funext _w;congr 1;funext s3;obtain⟨r3,n3⟩:=s3;cases r3<;>rfl) (rc L C B ha (by omega) hz (Off.one.snoc C (Q5 1) (C.of_lt fall)) h)
omit L in
theorem tX {st:SortSt} {k l:Nat} {Q:Unit→SortSt→Prop} (B:Base a₀ κ st) (hk:k<a₀.size) (hl:l≤k)
  (h:∀st',Base a₀ κ st'→pendingOf st'=pendingOf st→(∀j,g (arrOf st') j=if j=l then g (arrOf st) k else if l<j∧j≤k then g (arrOf st) (j-1)else g (arrOf st) j)→Q () st'):
  wpS (model prog w) A E s (moveDown' k l) Q st:=by
 rw[moveDown'_eq]
 refine wpS_modify (h _ ⟨B.kind,B.fine,(bubble_perm _ _ _).trans B.perm⟩ rfl λj=>?_)
 have e:=xA (xs:=arrOf st) (src:=k) (d:=k-l) (by rw[B.size];exact hk) (by(clear hl hk;omega)) j
 have z:k-(k-l)=l:=by(clear e hk;omega)
 rw[z]at e
 exact e
theorem uW {st:SortSt} {lo n ok:Nat} {Q:Bool→SortSt→Prop} (C:Cmp blt) (B:Base a₀ κ st) (h1:1≤ok) (hok:ok≤n) (hz:lo+n≤a₀.size) (hs:On blt (arrOf st) lo (lo+ok))
  (h:∀st',Base a₀ κ st'→pendingOf st'=pendingOf st→On blt (arrOf st') lo (lo+n)→wb lo (arrOf st) (arrOf st')→Q true st'):wpS (model prog w) A E s (binarySort' lo n ok) Q st:=by
 rw[binarySort'_eq]
 dsimp only
 have em:max ok 1=ok:=Nat.max_eq_left h1
 rw[em]
 refine wpS_bind (wpS_forRange (I:=λi c st'=>c=(none,())∧Base a₀ κ st'∧pendingOf st'=pendingOf st∧wb lo (arrOf st) (arrOf st')∧ok≤i∧i≤n∧On blt (arrOf st') lo (lo+i)) ?_ ?_
  ⟨rfl,B,rfl,λ_ _=>rfl,Q5 _,hok,hs⟩)
 ·rintro k c st' hk1 hk2 ⟨rfl,B',hp,hk,h2,h3,on⟩
  refine wpS_bind (wpS_forRange (I:=λi c st2=>st2=st'∧∃l r,c=(none,l,r)∧l≤r∧r≤k∧r-l≤k-i∧(∀j,j<l→le blt (g (arrOf st') (lo+j)) (g (arrOf st') (lo+k)))∧(∀j,r≤j→j<k→le blt (g (arrOf st') (lo+k)) (g (arrOf st') (lo+j)))) ?_ ?_
   ⟨rfl,0,k,rfl,Qk _,Q5 _,Q5 _,λj hj=>absurd hj (Xh _),λj a b=>by(clear h3 h2 hp hk2 hk1 em hz hok h1;omega)⟩)
  ·rintro i c st2 hi1 hi2 ⟨rfl,l,r,rfl,hlr,hrk,hm,below,above⟩
   dsimp only
   by_cases hge:l≥r
   ·rw[if_pos hge]
    refine wpS_pure ?_
    dsimp only
    have elr:l=r:=by(clear hm hrk hp hi2 hi1 h3 h2 hk2 hk1 em hz hok h1;omega)
    refine wpS_bind (tX B' (by omega) (by(clear elr hge hm hp hi2 hi1 h3 h2 hk2 hk1 em hz hok h1;omega)) λst3 B3 hp3 hy=>wpS_pure ⟨rfl,B3,hp3.trans hp,λq hq=>?_,by(clear hp3 elr hge hm hrk hlr hp hi2 hi1 h3 h2 hk2 em hz hok h1;omega),by omega,?_⟩)
    ·rw[hy q,if_neg (by(clear hp3 elr hge hm hrk hlr hp hi2 hi1 h3 h2 hk2 hk1 em hz hok h1;omega)),if_neg (by(clear hp3 elr hge hm hrk hlr hp hi2 hi1 h3 h2 hk2 hk1 em hz hok h1;omega))];exact hk q hq
    ·intro a b ha hab hb
     rw[hy a,hy b]
     by_cases b1:b=lo+l
     ·rw[if_pos b1,if_neg (by(clear hb ha hp3 elr hge hm hrk hlr hp hi2 hi1 h3 h2 hk2 hk1 em hz hok h1;omega)),if_neg (by(clear hb ha hp3 elr hge hm hrk hlr hp hi2 hi1 h3 h2 hk2 hk1 em hz hok h1;omega))]
      have:=below (a-lo) (by(clear hb hp3 elr hge hm hrk hlr hp hi2 hi1 h3 h2 hk2 hk1 em hz hok h1;omega))
      rwa [show lo+(a-lo)=a by(clear this b1 hb hab hp3 elr hge hm hrk hlr hp hi2 hi1 h3 h2 hk2 hk1 em hz hok h1;omega)]at this
     ·rw[if_neg b1]
      by_cases b2:lo+l<b∧b≤lo+k
      ·rw[if_pos b2]
       by_cases a1:a=lo+l
       ·rw[if_pos a1]
        have:=above (b-1-lo) (by(clear a1 b1 hb hab ha hp3 elr hm hrk hlr hp hi2 hi1 h3 h2 hk2 hk1 em hz hok h1;omega)) (by(clear a1 b2 b1 hab ha hp3 elr hge hm hrk hlr hp hi2 hi1 h3 h2 hk2 em hz hok;omega))
        rwa [show lo+(b-1-lo)=b-1 by(clear this a1 b2 b1 hb hp3 elr hge hm hrk hlr hp hi2 hi1 h3 h2 hk2 hk1 em hz hok h1;omega)]at this
       ·rw[if_neg a1]
        by_cases a2:lo+l<a∧a≤lo+k
        ·rw[if_pos a2];exact on _ _ (by(clear a1 b2 b1 hb hab ha hp3 elr hge hm hrk hlr hp hi2 hi1 h3 h2 hk2 hk1 em hz hok h1;omega)) (by(clear a2 b1 hb ha hp3 elr hge hm hrk hlr hp hi2 hi1 h3 h2 hk2 hk1 em hz hok h1;omega)) (by(clear a2 a1 b2 b1 hab ha hp3 elr hge hm hrk hlr hp hi2 hi1 h3 h2 hk2 em hz hok;omega))
        ·rw[if_neg a2];exact on _ _ (by omega) (by(clear b1 hb ha hp3 elr hge hm hrk hlr hp hi2 hi1 h3 h2 hk2 hk1 em hz hok h1;omega)) (by(clear a2 a1 b2 b1 hab ha hp3 elr hge hm hrk hlr hp hi2 hi1 h3 h2 hk2 em hz hok;omega))
      ·rw[if_neg b2,if_neg (by(clear b1 ha hp3 elr hge hm hrk hlr hp hi2 hi1 h3 h2 hk2 hk1 em hz hok h1;omega)),if_neg (by(clear b1 ha hp3 elr hge hm hrk hlr hp hi2 hi1 h3 h2 hk2 hk1 em hz hok h1;omega))]
       exact on _ _ ha hab (by(clear hab ha hp3 elr hge hm hp hi2 hi1 h3 h2 hk2 hk1 em hz hok h1;omega))
   ·rw[if_neg hge]
    refine wpS_bind (jH L B' (by omega) (by(clear hge hm hp hi2 hi1 h3 h2 hk1 em hok h1;omega)) ?_)
    dsimp only
    cases e:blt (g (arrOf st2) (lo+k)) (g (arrOf st2) (lo+(l+r)/2))with
    |true=>
     rw[if_pos rfl]
     refine wpS_pure ⟨rfl,l,(l+r)/2,rfl,by(clear e hge hm hrk hp hi2 hi1 h3 h2 hk2 hk1 em hz hok h1;omega),by(clear e hge hm hp hi2 hi1 h3 h2 hk2 hk1 em hz hok h1;omega),by omega,below,λj a b=>?_⟩
     by_cases ej:j=(l+r)/2
     ·subst ej;exact C.of_lt e
     ·exact C.trans (C.of_lt e) (on _ _ (by(clear ej b a e hge hm hrk hlr hp hi2 hi1 h3 h2 hk2 hk1 em hz hok h1;omega)) (by(clear b e hge hm hrk hlr hp hi2 hi1 h3 h2 hk2 hk1 em hz hok h1;omega)) (by(clear ej a e hge hm hrk hlr hp hi2 hi1 h3 h2 hk2 hk1 em hz hok h1;omega)))
    |false=>
     rw[if_neg (by decide)]
     refine wpS_pure ⟨rfl,(l+r)/2+1,r,rfl,by(clear e hm hrk hlr hp hi2 hi1 h3 h2 hk2 hk1 em hz hok h1;omega),by omega,by omega,λj a=>?_,above⟩
     by_cases ej:j=(l+r)/2
     ·subst ej;exact e
     ·exact C.trans (on _ _ (by(clear ej a e hge hm hrk hlr hp hi2 hi1 h3 h2 hk2 hk1 em hz hok h1;omega)) (by(clear e hge hm hrk hlr hp hi2 hi1 h3 h2 hk2 hk1 em hz hok h1;omega)) (by(clear ej a e hm hlr hp hi2 hi1 h3 h2 hk2 hk1 em hz hok h1;omega))) e
  ·rintro c st2 ⟨rfl,l,r,rfl,hlr,hrk,hm,below,above⟩
   have ek:max 0 k=k:=Zu (Qk _)
   rw[ek]at hm
   have elr:l=r:=by(clear ek hrk hp h3 h2 hk2 hk1 em hz hok h1;omega)
   dsimp only
   refine wpS_bind (tX B' (by(clear elr ek hm hrk hlr hp h3 h2 hk1 em hok h1;omega)) (by(clear elr ek hm hp h3 h2 hk2 hk1 em hz hok h1;omega)) λst3 B3 hp3 hy=>wpS_pure ⟨rfl,B3,hp3.trans hp,λq hq=>?_,by(clear hp3 elr ek hm hrk hlr hp h3 h2 hk2 em hz hok h1;omega),by(clear hp3 elr ek hm hrk hlr hp h3 h2 hk1 em hz hok h1;omega),?_⟩)
   ·rw[hy q,if_neg (by(clear hp3 elr ek hm hrk hlr hp h3 h2 hk2 hk1 em hz hok h1;omega)),if_neg (by(clear hp3 elr ek hm hrk hlr hp h3 h2 hk2 hk1 em hz hok h1;omega))];exact hk q hq
   ·intro a b ha hab hb
    rw[hy a,hy b]
    by_cases b1:b=lo+l
    ·rw[if_pos b1,if_neg (by(clear hb ha hp3 elr ek hm hrk hlr hp h3 h2 hk2 hk1 em hz hok h1;omega)),if_neg (by(clear hb ha hp3 elr ek hm hrk hlr hp h3 h2 hk2 hk1 em hz hok h1;omega))]
     have:=below (a-lo) (by(clear hb hp3 elr ek hm hrk hlr hp h3 h2 hk2 hk1 em hz hok h1;omega))
     rwa [show lo+(a-lo)=a by(clear this b1 hb hab hp3 elr ek hm hrk hlr hp h3 h2 hk2 hk1 em hz hok h1;omega)]at this
    ·rw[if_neg b1]
     by_cases b2:lo+l<b∧b≤lo+k
     ·rw[if_pos b2]
      by_cases a1:a=lo+l
      ·rw[if_pos a1]
       have:=above (b-1-lo) (by omega) (by(clear a1 b2 b1 hab ha hp3 elr ek hm hrk hlr hp h3 h2 hk2 em hz hok;omega))
       rwa [show lo+(b-1-lo)=b-1 by(clear this a1 b2 b1 hb hp3 elr ek hm hrk hlr hp h3 h2 hk2 hk1 em hz hok h1;omega)]at this
      ·rw[if_neg a1]
       by_cases a2:lo+l<a∧a≤lo+k
       ·rw[if_pos a2];exact on _ _ (by(clear a1 b2 b1 hb hab ha hp3 elr ek hm hrk hlr hp h3 h2 hk2 hk1 em hz hok h1;omega)) (by(clear a2 b1 hb ha hp3 elr ek hm hrk hlr hp h3 h2 hk2 hk1 em hz hok h1;omega)) (by(clear a2 a1 b2 b1 hab ha hp3 elr ek hm hrk hlr hp h3 h2 hk2 em hz hok;omega))
       ·rw[if_neg a2];exact on _ _ (by omega) (by(clear b1 hb ha hp3 elr ek hm hrk hlr hp h3 h2 hk2 hk1 em hz hok h1;omega)) (by(clear a2 a1 b2 b1 hab ha hp3 elr ek hm hrk hlr hp h3 h2 hk2 em hz hok;omega))
     ·rw[if_neg b2,if_neg (by(clear b1 ha hp3 elr ek hm hrk hlr hp h3 h2 hk2 hk1 em hz hok h1;omega)),if_neg (by(clear b1 ha hp3 elr ek hm hrk hlr hp h3 h2 hk2 hk1 em hz hok h1;omega))]
      exact on _ _ ha hab (by(clear hab ha hp3 elr ek hm hp h3 h2 hk2 hk1 em hz hok h1;omega))
 ·rintro c st' ⟨rfl,B',hp,hk,h2,h3,on⟩
  have e:max ok n=n:=Zu hok
  rw[e]at on
  exact wpS_pure (h st' B' hp on hk)
omit L in
end
end Srt
namespace Srt
open PySem PyProof.Rows
section
variable {blt:Keyed→Keyed→Bool}
abbrev PW (blt:Keyed→Keyed→Bool) (l:List Keyed):Prop:=l.Pairwise (le blt)
theorem wO {a:Array Keyed} (h:On blt a 0 a.size) (i:Nat):PW blt (a.toList.drop i):=by
 refine Z5.mpr λj k hj hk hjk=>?_
 rw[QV,QR]at hj hk
 have e1:=nX (xs:=a) (i:=i+j) (by(clear hjk hk;omega))
 have e2:=nX (xs:=a) (i:=i+k) (by omega)
 rw[←ZS,Q4 (by rw[QR];omega)]at e1 e2
 rw[List.getElem_drop,List.getElem_drop,Option.some.inj e1,Option.some.inj e2]
 exact h _ _ (Qk _) (by omega) (by omega)
end
end Srt
namespace Srt
open PySem PyProof.Rows
section
variable {prog:Program} {w:World} {A:Around} {E:Value→Shared→Prop} {s:Shared} {a₀:Array Keyed} {κ:SortKind} {blt:Keyed→Keyed→Bool}
variable (L:wa prog w A E s a₀ κ blt)
include L
theorem rb {st:SortSt} {Q:Unit→SortSt→Prop} (C:Cmp blt) (B:Base a₀ κ st) (hp:pendingOf st= #[]) (h2:1≤a₀.size) (h64:a₀.size<64)
  (h:∀st',Base a₀ κ st'→On blt (arrOf st') 0 a₀.size→Q () st'):wpS (model prog w) A E s sortRuns' Q st:=by
 rw[sortRuns'_eq]
 refine wpS_bind (wpS_get ?_)
 dsimp only
 have hsz:=B.size
 rw[hsz]
 have mr:minRun' a₀.size a₀.size 0=a₀.size:=by
  generalize hs:a₀.size=f at h2 h64
  cases f with
  |zero=>omega
  |succ f=>rw[minRun'_succ,if_pos h64]
 have em:max 0 a₀.size=a₀.size:=Zu (Qk _)
 refine wpS_bind (wpS_mono (wpS_forRange
  (I:=λi c st'=>(c=(none,0)∧i=0∧pendingOf st'= #[]∧Base a₀ κ st')∨(c=(none,a₀.size)∧Base a₀ κ st'∧(pendingOf st').size=1∧On blt (arrOf st') 0 a₀.size))
  (Q:=λc st'=>c=(none,a₀.size)∧Base a₀ κ st'∧(pendingOf st').size=1∧On blt (arrOf st') 0 a₀.size) ?step ?fin (.inl ⟨rfl,rfl,hp,B⟩)) ?post)
 case fin=>
  rintro c st' (⟨_,hi,_⟩|h')
  ·rw[em]at hi
   omega
  ·exact h'
 case step=>
  rintro i c st' _ hi hI
  rcases hI with⟨rfl,rfl,hp',B'⟩|⟨rfl,B',z,O⟩
  ·dsimp only
   rw[if_neg (by omega)]
   refine wpS_bind (wv L C B' (by omega) (by omega) λn st2 B2 p2 m1 m2 O2 k2=>?_)
   dsimp only
   by_cases small:n<minRun' a₀.size a₀.size 0
   ·rw[if_pos small]
    refine wpS_bind (wpS_lift (wpAny_rule ⟨rfl,?_⟩))
    refine wpS_bind (uW L C B2 m1 (by omega) (by omega) O2 λst3 B3 p3 O3 k3=>?_)
    rw[if_neg (by decide)]
    generalize hn:min (a₀.size-0) (minRun' a₀.size a₀.size 0)=n' at O3
    have en:n'=a₀.size:=by omega
    have e0:pendingOf st3= #[]:=by rw[p3,p2,hp']
    have eb:(pendingOf st3).back?=none:=by rw[e0];rfl
    refine wpS_bind (wpS_get ?_)
    rw[eb]
    dsimp only
    refine wpS_bind (wpS_modify (wpS_pure (.inr ⟨by rw[en,X7],⟨B3.kind,B3.fine,B3.perm⟩,?_,?_⟩)))
    ·show((pendingOf st3).push _).size=1
     rw[Array.size_push,e0]
     rfl
    ·rw[en,X7]at O3
     exact O3
   ·rw[if_neg small]
    have en:n=a₀.size:=by omega
    have e0:pendingOf st2= #[]:=by rw[p2,hp']
    have eb:(pendingOf st2).back?=none:=by rw[e0];rfl
    refine wpS_bind (wpS_get ?_)
    rw[eb]
    dsimp only
    refine wpS_bind (wpS_modify (wpS_pure (.inr ⟨by rw[en,X7],⟨B2.kind,B2.fine,B2.perm⟩,?_,?_⟩)))
    ·show((pendingOf st2).push _).size=1
     rw[Array.size_push,e0]
     rfl
    ·rw[en,X7]at O2
     exact O2
  ·dsimp only
   rw[if_pos (Q5 _)]
   exact wpS_pure ⟨rfl,B',z,O⟩
 case post=>
  rintro c st' ⟨rfl,B',z,O⟩
  dsimp only
  refine wpS_bind (wpS_mono (wpS_forRange (I:=λ_ c st2=>c=(none,())∧Base a₀ κ st2∧(pendingOf st2).size=1∧On blt (arrOf st2) 0 a₀.size)
   (Q:=λc st2=>c=(none,())∧Base a₀ κ st2∧(pendingOf st2).size=1∧On blt (arrOf st2) 0 a₀.size) ?_ (λ_ _ q=>q) ⟨rfl,B',z,O⟩) ?_)
  ·rintro i c st2 _ hi ⟨rfl,B2,z2,O2⟩
   refine wpS_bind (wpS_get ?_)
   rw[if_pos (by rw[z2];exact Q5 _)]
   exact wpS_pure ⟨rfl,B2,z2,O2⟩
  ·rintro c st2 ⟨rfl,B2,z2,O2⟩
   dsimp only
   exact wpS_pure (h st2 B2 O2)
end
end Srt
namespace Srt
open PySem PyProof.Rows
section
variable {prog:Program} {w:World} {A:Around} {E:Value→Shared→Prop} {s:Shared} {κ:SortKind} {blt:Keyed→Keyed→Bool}
abbrev But (a:Addr) (s s':Shared):Prop:=∀b o,b≠a→s.heap.get? b=some o→s'.heap.get? b=some o
theorem pj {a:Addr} {vs:List Value} {n:Nat} {P:PySem.Fin→Shared→Prop} (ho:s.heap.get? a=some (seqObj "list" vs.toArray n)) (h64:vs.length<64) (C:Cmp blt)
  (hkk:∀h':Heap,But a s {s with heap:=h'}→2≤vs.length→∀Q':SortKind→Shared→Prop,Q' κ {s with heap:=h'}→wpAny (model prog w) A (keyKind' vs.toArray) Q' E {s with heap:=h'})
  (L:∀h':Heap,But a s {s with heap:=h'}→wa prog w A E {s with heap:=h'} (pairsOf vs) κ blt)
  (h:∀out:Array Keyed,out.Perm (pairsOf vs)→PW blt out.toList→P (.done (.ret .none)) {s with heap:=sortedHeap s.heap a vs (out.map (·.2))}):wpAny (model prog w) A (Builtin.«list.sort» ⟨[.ref a],[]⟩) P E s:=by
 have hv:vs.toArray.size=vs.length:=Qd
 have hz:vs.length≤sizeLine:=Qv (QO h64) (by decide)
 have ha:=Heap.lt_size ho
 rw[list_sort_plain]
 refine wpAny_bind (listItems_at ho rfl (wpAny_bind (listUpdate_at ho rfl ?_ (hsz:=by rw[hv];exact hz))))
 obtain⟨e1,ho1⟩:∃k,(s.heap.update a (Obj.mapSeq λ_=> #[])).get? a=some (seqObj "list" #[] k):=⟨_,get?_update_seq ho (λ_=> #[])⟩
 refine wpAny_bind (seqEpoch_at ho1 rfl (wpAny_bind (wpAny_newTuple ?_ (hsz:=hz))))
 refine wpAny_bind (wpAny_newList (wpAny_holding ?_))
 generalize hh:((s.heap.update a (Obj.mapSeq λ_=> #[])).push (seqObj "tuple" vs.toArray 0)).push (seqObj "list" #[] 0)=h6
 have up:∀b o,(s.heap.update a (Obj.mapSeq λ_=> #[])).get? b=some o→h6.get? b=some o:=λb o e=>by
  rw[←hh]
  exact Heap.get?_push_of_some _ (Heap.get?_push_of_some _ e)
 have ho6:=up a _ ho1
 have but:But a s {s with heap:=h6}:=λb o hb e=>up b o (by exact(Heap.get?_update_other _ _ (Ne.symm hb)).trans e)
 have fin:∀out:Array Keyed,out.Perm (pairsOf vs)→PW blt out.toList→P (.done (.ret .none)) {s with heap:=h6.update a (Obj.mapSeq λ_=>out.map (·.2))}:=λout p q=>by
  have:=h out p q
  unfold sortedHeap at this
  rw[hh]at this
  exact this
 have hsz2:∀out:Array Keyed,out.Perm (pairsOf vs)→(out.map (·.2)).size≤sizeLine+1:=λout p=>by
  have:=p.size_eq
  rw[pairsOf_size]at this
  rw[Array.size_map]
  omega
 dsimp only
 by_cases h2:vs.toArray.size<2
 ·rw[if_pos h2,if_pos h2]
  refine wpAny_bind (wpAny_pure ?_)
  rw[StateT.run_pure]
  refine wpAny_bind (wpAny_pure ?_)
  dsimp only
  have pr:(SortSt.mk' general' (vs.toArray.zip vs.toArray) #[] 7 none|>arrOf).Perm (pairsOf vs):=Array.Perm.refl _
  refine wpAny_bind (seqEpoch_at ho6 rfl (wpAny_bind (listUpdate_at ho6 rfl ?_ (hsz:=Qk _) (hsz2:=hsz2 _ pr))))
  simp only[bne_self_eq_false,QA,if_false]
  refine wpAny_pure (fin _ pr ?_)
  have l1:(vs.toArray.zip vs.toArray).toList.length≤1:=by simp at h2⊢;omega
  show PW blt (vs.toArray.zip vs.toArray).toList;revert l1
  generalize (vs.toArray.zip vs.toArray).toList=l
  rcases l with _|⟨x,_|⟨y,t⟩⟩<;>intro l1<;>first|exact List.Pairwise.nil|exact ZI _ _|exact absurd l1 (Nat.not_le_of_lt (Nat.succ_lt_succ (Nat.succ_pos _)))
 ·rw[if_neg h2,if_neg h2]
  refine wpAny_bind (hkk h6 but (by omega) _ ?_)
  refine wpAny_bind (wpAny_mono (rb (L h6 but) (st:=SortSt.mk' κ (vs.toArray.zip vs.toArray) #[] 7 none) (Q:=λ_ st'=>Base (pairsOf vs) κ st'∧On blt (arrOf st') 0 (pairsOf vs).size) C
   ⟨rfl,rfl,Array.Perm.refl _⟩ rfl (by rw[pairsOf_size];omega) (by rw[pairsOf_size];exact h64) λst' B O=>⟨B,O⟩) ?_ λ_ _ e=>e)
  rintro ⟨⟨⟩,st'⟩ s' ⟨rfl,B,O⟩
  dsimp only
  refine wpAny_bind (seqEpoch_at ho6 rfl (wpAny_bind (listUpdate_at ho6 rfl ?_ (hsz:=Qk _) (hsz2:=hsz2 _ B.perm))))
  rw[B.fine]
  simp only[bne_self_eq_false,QA,if_false]
  refine wpAny_pure (fin _ B.perm ?_)
  have:=wO (a:=arrOf st') (blt:=blt) (by rw[B.size];exact O) 0
  rwa [Xm]at this
end
end Srt
namespace Srt
open PySem PyProof.Rows
theorem rV:∀(a b:List Int),HT.lexLt a b=true→HT.lexLt b a=false
 | [],[],h=>rfl
 | [],_::_,_=>rfl
 |_::_,[],h=>by rw[HT.lexLt_cons_nil]at h;cases h
 |x::xs,y::ys,h=>by
  rw[HT.lexLt_cons]at h⊢
  by_cases e:x=y
  ·rw[if_pos e]at h
   rw[if_pos e.symm]
   exact rV xs ys h
  ·rw[if_neg e]at h
   rw[if_neg (Ne.symm e)]
   have:=of_decide_eq_true h
   exact decide_eq_false (by omega)
theorem xk:∀(a b c:List Int),HT.lexLt b a=false→HT.lexLt c b=false→HT.lexLt c a=false
 | [],b,[],_,_=>rfl
 |x::xs,[],c,h,_=>by rw[HT.lexLt_nil_cons]at h;cases h
 |a,y::ys,[],_,h=>by rw[HT.lexLt_nil_cons]at h;cases h
 | [],_,_::_,_,_=>HT.lexLt_cons_nil _ _
 |x::xs,y::ys,z::zs,h1,h2=>by
  rw[HT.lexLt_cons]at h1 h2⊢
  by_cases e1:y=x
  ·rw[if_pos e1]at h1
   by_cases e2:z=y
   ·rw[if_pos e2]at h2
    rw[if_pos (e2.trans e1)]
    exact xk xs ys zs h1 h2
   ·rw[if_neg e2]at h2
    rw[if_neg (by rw[←e1];exact e2)]
    have:=of_decide_eq_false h2
    exact decide_eq_false (by omega)
  ·rw[if_neg e1]at h1
   have g1:=of_decide_eq_false h1
   by_cases e2:z=y
   ·rw[if_pos e2]at h2
    rw[if_neg (by omega)]
    exact decide_eq_false (by omega)
   ·rw[if_neg e2]at h2
    have g2:=of_decide_eq_false h2
    by_cases e3:z=x
    ·omega
    ·rw[if_neg e3]
     exact decide_eq_false (by omega)
theorem cmp_of (k:Keyed→List Int):Cmp λp q=>HT.lexLt (k p) (k q):=⟨λx y h=>rV _ _ h,λx y z h1 h2=>xk _ _ _ h1 h2⟩
theorem runs_of {prog:Program} {w:World} {A:Around} {E:Value→Shared→Prop} {s:Shared} {a₀:Array Keyed} {κ:SortKind} {blt:Keyed→Keyed→Bool}
  (h:∀(x y:Keyed) (E':Value→Shared→Prop) (Q:Bool→Shared→Prop),x∈a₀→y∈a₀→Q (blt x y) s→wpAny (model prog w) A (keyLt' κ x.1 y.1) Q E' s):wa prog w A E s a₀ κ blt:=by
 intro x y st Q hx hy hk q
 rw[lt'_eq]
 refine wpS_bind (wpS_get ?_)
 rw[hk]
 refine wpS_bind (wpS_lift (wpAny_attempt (h x y _ _ hx hy ⟨rfl,?_⟩)))
 exact wpS_pure q
end Srt
namespace L2
open PySem PySem.Spec PyProof.Rows
def unV (u:Value):V:=(absV u).getD .non
theorem wA {x:V} {u:Value} (r:RelV x u):unV u=x:=by unfold unV;rw[r.abs];rfl
theorem tZ:∀{xs:List V} {us:List Value},Vals xs us→us.map unV=xs
 |_,_,.nil=>rfl
 |_,_,.cons r t=>by rw[Qo,wA r,tZ t]
theorem rf {xs:List V} {us:List Value} (h:Vals xs us) {u:Value} (hu:u∈us):∃x∈xs,RelV x u:=by
 induction h with
 |nil=>exact absurd hu Xd
 |cons r t ih=>
  rcases Qe.mp hu with e|e
  ·subst e;exact⟨_,Q8,r⟩
  ·obtain⟨x,h1,h2⟩:=ih e
   exact⟨x,Q6 _ h1,h2⟩
theorem t5:∀{us:List Value},(∀u∈us,RelV (unV u) u)→Vals (us.map unV) us
 | [],_=> .nil
 |u::r,h=> .cons (h u Q8) (t5 λv hv=>h v (Q6 _ hv))
section
variable {X:Cx}
def qG:V→List Int
 | .int i=> [i]
 |_=> []
theorem vh {ns:List Int} {ys:List V} (h:ys.Perm (ns.map V.int)):∃ms:List Int,ys=ms.map V.int∧ms.Perm ns:=by
 have e:ys=(ys.map λy=>match y with| .int i=>i|_=>0).map V.int:=by
  rw[Qy]
  refine(List.map_id' ys).symm.trans (Ze λy hy=>?_)
  obtain⟨i,_,rfl⟩:=Qf.mp (h.mem_iff.mp hy)
  rfl
 refine⟨_,e,?_⟩
 refine(h.map λy=>match y with| .int i=>i|_=>0).trans (List.Perm.of_eq ?_)
 rw[Qy]
 exact List.map_id' ns
end
end L2
namespace Srt
open PySem PyProof.Rows
section
variable {prog:Program} {w:World} {A:Around} {E:Value→Shared→Prop} {s:Shared} {κ:SortKind} {blt:Keyed→Keyed→Bool}
theorem sorted_src {r:Value} {G:List Value→Prop} {Q:Value→Shared→Prop}
  (hc:∀(R:List Value→Shared→Prop) (E':Value→Shared→Prop),(∀(h1:Heap) (tk:Nat) (vs:List Value),(∀b o,s.heap.get? b=some o→h1.get? b=some o)→G vs→R vs {s with heap:=h1,toks:=tk})→wpAny (model prog w) A.in1 (collect r) R E' s)
  (hz:∀vs,G vs→vs.length<64) (C:Cmp blt)
  (hkk:∀(vs:List Value) (h':Heap) (tk:Nat),G vs→(∀b o,s.heap.get? b=some o→h'.get? b=some o)→2≤vs.length→∀Q':SortKind→Shared→Prop,Q' κ {s with heap:=h',toks:=tk}→wpAny (model prog w) A.in1.in1 (keyKind' vs.toArray) Q' (λ_ _=>False) {s with heap:=h',toks:=tk})
  (L:∀(vs:List Value) (h':Heap) (tk:Nat),G vs→(∀b o,s.heap.get? b=some o→h'.get? b=some o)→wa prog w A.in1.in1 (λ_ _=>False) {s with heap:=h',toks:=tk} (pairsOf vs) κ blt)
  (h:∀(vs:List Value) (h1 h2:Heap) (tk e:Nat) (out:Array Keyed),G vs→(∀b o,s.heap.get? b=some o→h1.get? b=some o)→(∀b o,h1.get? b=some o→h2.get? b=some o)→h2.get? h1.objs.size=some (seqObj "list" (out.map (·.2)) e)→out.Perm (pairsOf vs)→PW blt out.toList→Q (.ref h1.objs.size) {s with heap:=h2,toks:=tk}):
  wpAny (model prog w) A (call (.builtin "sorted") [r]) Q E s:=by
 refine Calls.call_function_entry kind_sorted plain_sorted entry_sorted (args_sorted1 _) ?_
 unfold Builtin.«sorted»
 refine wpAny_bind (m:=checkCount "sorted" 1 1 _) (wpAny_pure (wpAny_bind (hc _ _ λh1 tk vs k1 g=>?_)))
 refine wpAny_bind (wpAny_newList ?_ (hsz:=Qv (QO (hz vs g)) (by decide)))
 have new:(h1.push (seqObj "list" vs.toArray 0)).get? h1.objs.size=some (seqObj "list" vs.toArray 0):=Heap.get?_push_size _ rfl
 have keep:∀h':Heap,But h1.objs.size {s with heap:=h1.push (seqObj "list" vs.toArray 0),toks:=tk} {s with heap:=h',toks:=tk}→∀b o,s.heap.get? b=some o→h'.get? b=some o:=λh' k b o e=>
  k b o (Qq (Heap.lt_size (k1 b o e))) (Heap.get?_push_of_some _ (k1 b o e))
 show wpAny _ _ _ _ _ {s with heap:=h1.push (seqObj "list" vs.toArray 0),toks:=tk}
 refine wpAny_bind (wpAny_holding (wpAny_mono (wpAny_call_entry (E:=λ_ _=>False) slot_list_sort ⟨_,new,rfl⟩ entry_list_sort (pj (s:={s with heap:=h1.push (seqObj "list" vs.toArray 0),toks:=tk}) (κ:=κ) (blt:=blt) new (hz vs g) C (λh' k=>hkk vs h' tk g (keep h' k)) (λh' k=>L vs h' tk g (keep h' k)) λout p q=>⟨_,rfl,?_⟩) (args_list_sort _)) (λ_ _ q=>q) λ_ _ f=>f.elim))
 refine wpAny_pure ⟨_,rfl,?_⟩
 obtain⟨e,at_⟩:=sortedHeap_at (out:=out.map (·.2)) new
 refine h vs h1 _ tk e out g k1 (λb o q=>?_) at_ p q
 have lt:=Heap.lt_size q
 rw[sortedHeap_old (Qq lt) (by rw[size_push'];exact Nat.lt_succ_of_lt lt)]
 exact Heap.get?_push_of_some _ q
end
end Srt
namespace L2
open PySem PySem.Spec PyProof.Rows
section
variable {X:Cx}
theorem mj {P:Program} {w:World} {k:Key} {v:Value} (h:(aR P w).is k v=true):RelV (kV k) v:=by
 rw[tG]at h
 cases k with
 |inl i=>
  cases v with
  |int j t=>exact⟨t,by simp[ij,Value.isInt]at h;rw[h]⟩
  |_=>simp[ij,Value.isInt]at h
 |inr x=>
  cases v with
  |str y t=>exact⟨t,by simp[ij,Value.isStrOf]at h;rw[h]⟩
  |_=>simp[ij,Value.isStrOf]at h
def j6 (kvs:List (Key×V)):List V:=kvs.map λp=>kV p.1
theorem sL {kvs:List (Key×V)} {vs:List (Key×Value)} {acc:List Value} {P:Program} {w:World} (rel:KV kvs vs) (hl:acc.length=vs.length)
  (hv:∀(j:Nat) (v:Value),acc[j]?=some v→∃k x,vs[j]?=some (k,x)∧(aR P w).is k v=true):Vals (j6 kvs) acc:=by
 induction rel generalizing acc with
 |nil=>cases acc with
  |nil=>exact .nil
  |cons a b=>simp at hl
 |cons r t ih=>
  rename_i p q ps qs
  cases acc with
  |nil=>simp at hl
  |cons a b=>
   refine .cons ?_ (ih (by simpa using hl) λj v e=>?_)
   ·obtain⟨k,x,e1,e2⟩:=hv 0 a rfl
    simp at e1
    subst e1
    show RelV (kV p.1) a
    rw[r.1]
    exact mj e2
   ·exact hv (j+1) v (by simpa using e)
theorem lC {pins:List (Addr×Obj)} {s:Shared} {σ:St} {H:Hp} {Q:VK} {T:String} {r d:Addr} {OK:Heap→Prop} {kvs:List (Key×V)} {vs:List (Key×Value)} {ns:List Int} (hh:X.A.handled=none) (I:Inv X pins σ H s) (rel:KV kvs vs) (z:kvs.length≤sizeLine) (h64:kvs.length<64)
  (src:PySem.W.KdlSrc X.prog X.w T r d vs.length (λi v=>∃k x,vs[i]?=some (k,x)∧(aR X.prog X.w).is k v=true) OK) (hok:OK s.heap) (hns:j6 kvs=ns.map V.int)
  (q:∀(l:Addr) (ms:List Int),H l=none→ms.Perm ns→ms.Pairwise (· ≤ ·)→Q (.ref l) (upd H l (.lst (ms.map V.int)))):wpAny (model X.prog X.w) X.A (call (.builtin "sorted") [.ref r]) (EP X pins σ Q) X.xe s:=by
 have hlen:kvs.length=vs.length:=rel.length
 have hlk:(j6 kvs).length=kvs.length:=Q2 _
 have allI:∀its:List Value,Vals (j6 kvs) its→∀v∈its,∃i t,v=Value.int i t:=λits rv v hv=>by
  obtain⟨x,hx,rx⟩:=rf rv hv
  rw[hns]at hx
  obtain⟨i,_,rfl⟩:=Qf.mp hx
  obtain⟨t,e⟩:=rx
  exact⟨i,t,e⟩
 have mem:∀(its:List Value) (z:Keyed),z∈pairsOf its→z.1=z.2∧z.1∈its:=λits z hz=>by
  have:z∈(pairsOf its).toList:=by simpa using hz
  rw[pairsOf_toList]at this
  exact mem_zip_self this
 refine Srt.sorted_src (G:=λits=>Vals (j6 kvs) its) (κ:=oneType') (blt:=λa b=>HT.lexLt (qG (unV a.1)) (qG (unV b.1))) (λR E' k=>?_) (λits rv=>by rw[←rv.length,hlk];exact h64) (Srt.cmp_of λa=>qG (unV a.1))
  (λits h' tk rv k h2 Q' hQ=>?_) (λits h' tk rv k=>Srt.runs_of λx y E' Q' hx hy hQ=>?_) (λits h1 h2 tk e out rv k1 k2 at_ pm pw=>?_)
 ·refine PySem.W.kdu_collect src hh hok (by omega) λh' tk acc hk hacc=>k h' tk acc.toList hk ?_
  exact sL rel (by rw[QR];exact hacc.1) λj v e=>hacc.2 j v (by rw[←ZS];exact e)
 ·refine PySem.W.kas_kind (T:= .type "int") h2 (λv hv=>?_) (by decide+kernel) (by decide+kernel) hQ
  obtain⟨i,t,rfl⟩:=allI its rv v hv
  exact PySem.W.Looks.of_pure rfl
 ·obtain⟨i,t,e1⟩:=allI its rv _ (mem its x hx).2
  obtain⟨j,t',e2⟩:=allI its rv _ (mem its y hy).2
  rw[e1,e2]at hQ⊢
  refine PySem.W.kat_lt_int ?_
  have e:HT.lexLt (qG (unV (.int i t))) (qG (unV (.int j t')))=decide (i<j):=by
   show HT.lexLt [i] [j]=_
   rw[HT.lexLt_cons]
   by_cases z:i=j
   ·rw[if_pos z,HT.lexLt_nil_nil,decide_eq_false (by omega)]
   ·rw[if_neg z]
  rw[e]at hQ
  exact hQ
 ·have pml:out.toList.Perm (its.zip its):=by
   have:=Xn.mp pm
   rwa [pairsOf_toList]at this
  have eqs:∀z∈out.toList,z.1=z.2∧z.1∈its:=λz hz=>mem_zip_self (pml.mem_iff.mp hz)
  have e2:(out.map (·.2)).toList=out.toList.map (·.2):=Array.toList_map
  have pv:((out.map (·.2)).toList).Perm its:=by
   rw[e2]
   refine(pml.map _).trans (List.Perm.of_eq ?_)
   exact List.map_snd_zip (Q5 _)
  have hu:∀u∈(out.map (·.2)).toList,RelV (unV u) u:=λu hu=>by
   obtain⟨x,_,r⟩:=rf rv (pv.mem_iff.mp hu)
   rw[wA r]
   exact r
  have vy:=t5 hu
  have I1:Inv X pins σ H {s with heap:=h1,toks:=tk}:=I.kept k1
  have py:((out.map (·.2)).toList.map unV).Perm (ns.map V.int):=by
   rw[←hns,←tZ rv]
   exact pv.map _
  have pw2:((out.map (·.2)).toList.map unV).Pairwise (λa b=>HT.lexLt (qG b) (qG a)=false):=by
   rw[e2,Qy]
   refine Za.mpr (pw.imp_of_mem λ{a b} ha hb h=>?_)
   show HT.lexLt (qG (unV b.2)) (qG (unV a.2))=false
   rw[←(eqs a ha).1,←(eqs b hb).1]
   exact h
  have lz:((out.map (·.2)).toList.map unV).length≤sizeLine:=by
   rw[py.length_eq,←hns,hlk];exact z
  obtain⟨ms,em,pm'⟩:=vh py
  rw[em]at vy pw2 lz
  refine⟨.ref h1.objs.size,upd H h1.objs.size (.lst (ms.map V.int)),I1.laid (t':=tk) k2 (Q5 _) ⟨lz,_,e,vy,?_⟩,rfl,q _ _ (I1.hok.fresh (Q5 _)) pm' ?_⟩
  ·rw[at_,ZV]
  ·refine(Za.mp pw2).imp λ{a b} h=>?_
   have h:HT.lexLt [b] [a]=false:=h
   rw[HT.lexLt_cons]at h
   by_cases z:b=a
   ·omega
   ·rw[if_neg z]at h
    have:=of_decide_eq_false h
    omega
theorem qQ (hh:X.A.handled=none):gf X (.builtin "sorted") (λxs H Q=>∃(a:Addr) (kvs:List (Key×V)) (ns:List Int),xs=[.ref a]∧Rd H a (.dK kvs)∧j6 kvs=ns.map V.int∧kvs.length<64∧
  ∀(l:Addr) (ms:List Int),H l=none→ms.Perm ns→ms.Pairwise (· ≤ ·)→Q (.ref l) (upd H l (.lst (ms.map V.int)))):=by
 intro pins s σ H xs us Q I r h
 obtain⟨a,kvs,ns,rfl,hd,hns,h64,q⟩:=h
 obtain⟨u,rfl,ru⟩:=mn r
 cases ru
 obtain⟨z,lo,vs,rel,dd⟩:=nY I.hok hd
 obtain⟨ep,hat⟩:=dd.dictAt
 exact lC hh I rel z h64 (PySem.W.kdl_dict (knd:=aR X.prog X.w) (kvs:=vs) (ep:=ep) lo) hat hns q
def BJ:V→List V→Hp→VK→Prop:=λx vs H Q=>∃a kvs k v,x= .ref a∧vs=[kV k]∧H a=some (.dK kvs)∧aF kvs k=some v∧Q v (upd H a (.dK (bf kvs k)))
theorem qy:MtR X "dict.pop" BJ:=by
 intro pins s σ H x vs v us Q I rx rv h
 obtain⟨a,kvs,k,y,rfl,rfl,hH,hl,q⟩:=h
 cases rx
 obtain⟨u,rfl,ru⟩:=rv.one
 exact Cg I hH ru hl (.inl rfl) λw' s' I' r'=>⟨y,_,I',r',q⟩
end
end L2
namespace L2
open PySem PySem.Spec PyProof.Rows
theorem jC {env:Env}:∀(l:List (Str×NameKind)) (cs:List (Str×Addr)),(∀p∈l,p.2= .free→∃c,env.cells.lookup p.1=some c)→
  ∃cl,(forIn l cs (λp cs=>if(p.2==NameKind.free)=true then cellOf env p.1>>=λa=>pure (ForInStep.yield ((p.1,a)::cs))else pure (ForInStep.yield cs)):Sem _)=pure cl∧
   (∀y c,cl.lookup y=some c→cs.lookup y=some c∨env.cells.lookup y=some c)∧(∀y c,cs.lookup y=some c→∃c',cl.lookup y=some c')∧(∀y,(y,NameKind.free)∈l→∃c,cl.lookup y=some c)
 | [],cs,_=>⟨cs,by rw[List.forIn_nil],λy c h=> .inl h,λy c h=>⟨c,h⟩,λy h=>nomatch h⟩
 |(n,k)::r,cs,h=>by
  rw[List.forIn_cons]
  by_cases hk:k= .free
  ·subst hk
   obtain⟨c,hc⟩:=h (n,.free) Q8 rfl
   have hc:env.cells.lookup n=some c:=hc
   have e:cellOf env n=pure c:=by unfold cellOf;rw[hc]
   obtain⟨cl,h1,h2,h3,h4⟩:=jC r ((n,c)::cs) λp hp=>h p (Q6 _ hp)
   refine⟨cl,?_,λy c' hy=>?_,λy c' hy=>?_,λy hy=>?_⟩
   ·simp only[beq_self_eq_true,if_true,e,pure_bind]
    exact h1
   ·rcases h2 y c' hy with q|q
    ·rw[Zl]at q
     split at q
     ·rename_i z
      cases q
      rw[beq_iff_eq]at z
      subst z
      exact .inr hc
     ·exact .inl q
    ·exact .inr q
   ·by_cases z:y=n
    ·exact h3 y c (by rw[Zl,z];simp)
    ·exact h3 y c' (by rw[Zl,beq_eq_false_iff_ne.mpr z];exact hy)
   ·rcases Qe.mp hy with q|q
    ·have e1:y=n:=(Prod.mk.inj q).1
     exact h3 y c (by rw[Zl,e1];simp)
    ·exact h4 y q
  ·have hb:(k==NameKind.free)=false:=by simpa using hk
   obtain⟨cl,h1,h2,h3,h4⟩:=jC r cs λp hp=>h p (Q6 _ hp)
   refine⟨cl,?_,h2,h3,λy hy=>?_⟩
   ·simp only[hb,QA,if_false,pure_bind]
    exact h1
   ·rcases Qe.mp hy with q|q
    ·exact absurd (Prod.mk.inj q).2.symm hk
    ·exact h4 y q
theorem n9 {env:Env} {scope:Scope} (h:∀p∈scope.names,p.2= .free→∃c,env.cells.lookup p.1=some c):
  ∃cl,closureFor scope env=pure cl∧(∀y c,cl.lookup y=some c→env.cells.lookup y=some c)∧(∀y,(y,NameKind.free)∈scope.names→∃c,cl.lookup y=some c):=by
 obtain⟨cl,h1,h2,_,h4⟩:=jC scope.names [] h
 refine⟨cl,?_,λy c hy=>(h2 y c hy).resolve_left λz=>by simp at z,h4⟩
 unfold closureFor
 simp only[bind_pure]
 exact h1
def cCx (X:Cx) (M N':List Str) (scope:Scope) (cl:List (Str×Addr)) (C:Addr) (s₂:Shared) (H₂:Hp) (fp:List Addr):Cx:=
 {X with N:=M++N',s₀:=s₂,H₀:=H₂,env:=compEnvC scope cl C X.env,outer:=X.stack,stack:=X.stack,ex:=fp,fn:=λ_=>false,pn:=[],xe:=λ_ _=>False}
structure CScope (X:Cx) (M N':List Str) (scope:Scope):Prop where
 kind:scope.kind= .function
 nd:(M++N').Nodup
 ln:N'.length=X.N.length
 own:∀x∈M,scope.names.lookup x=some .local
 nocell:∀y∈scope.names,y.2≠ .cell
 names:∀y∈scope.names,y.2= .local→scope.names.lookup y.1=some .local
 free:∀y∈scope.names,y.2= .free→X.env.kindOf y.1=some .cell
 vis:∀(j:Nat) (y:Str),N'[j]?=some y→Vis (relabel scope X.env) y→X.N[j]?=some y∧(y,NameKind.free)∈scope.names∧(relabel scope X.env).names.lookup y=some .cell
 cells:∀y,((relabel scope X.env).names.lookup y=some .cell∨(relabel scope X.env).names.lookup y=some .free)→(y,NameKind.free)∈scope.names
def sy (n:Nat) (g:TG) (tc:TT) (te:TE) (σ:St) (Q:VK) (J:It) (H1:Hp):Prop:=∀D,H1 D=none→∃W:Nat→Nat→St→List V→Hp→Prop,(∃m,W 0 m (List.replicate n none++σ) [] (upd H1 D (.lst [])))∧∀i m τ ys H2,W i m τ ys H2→H2 D=some (.lst ys)→
 (J.stop i H2∧Q (.ref D) H2)∨(J.go i H2∧∀x H3,J.yld i H2 x H3→∃G:St→Hp→Prop,(∀τ2 H4,G τ2 H4→∃(Ny:VK) (Ns:Hp→Prop),(∀y H6,Ny y H6→H6 D=some (.lst ys)∧ys.length<sizeLine∧∃m',m'<m∧W (i+1) m' τ2 (ys++ [y]) (upd H6 D (.lst (ys++ [y]))))∧
  (∀H5,Ns H5→H5 D=some (.lst ys)∧∃m',m'<m∧W (i+1) m' τ2 ys H5)∧tc τ2 H4 λb H5=>if b=true then te τ2 H5 Ny else Ns H5)∧g x τ H3 G)
def zN:TT:=λ_ H Q=>Q true H
def PTs (X:Cx) (ifs:List Expr) (tc:TT):Prop:=∀(pins:List (Addr×Obj)) (s:Shared) (σ:St) (H:Hp) (Q:Bool→Hp→Prop),Inv X pins σ H s→tc σ H Q→
 wpAny (model X.prog X.w) X.A (forIn ifs true λc r=>if r=true then do let ok←isTrue c X.env (eval c X.env);pure (ForInStep.yield ok)else pure (ForInStep.yield r)) (λb s'=>∃H',Inv X pins σ H' s'∧Q b H') X.xe s
section
variable {X:Cx}
theorem yW:PTs X [] zN:=λ_ _ _ H _ I h=>wpAny_tests_nil ⟨H,I,h⟩
theorem t9 {c:Expr} {tc:TT} (h:PT X c tc):PTs X [c] tc:=λpins s σ H Q I q=>wpAny_tests_one (h pins s σ H Q I q)
theorem CScope.pg {M N':List Str} {scope:Scope} {cl:List (Str×Addr)} {C:Addr} {s₂:Shared} {H₂:Hp} {fp:List Addr} {i:Nat} {x:Str} {px:Pos} (S:CScope X M N' scope) (h:M[i]?=some x):PG (cCx X M N' scope cl C s₂ H₂ fp) (.Name x px) (j9 i):=
 dh S.nd (by show(M++N')[i]?=_;rw[QS (Q3.mp h).1];exact h) (.inl (lookup_relabel_local (S.own x (Q0 h)))) (.inr (lookup_relabel_local (S.own x (Q0 h))))
structure An (X:Cx) (pins:List (Addr×Obj)) (H:Hp) (C:Addr):Prop where
 no:H C=none
 fr:C≠X.env.locals
 ab:X.s₀.heap.objs.size≤C
 ce:∀x c,X.env.cells.lookup x=some c→c≠C
 pi:∀p∈X.pn++pins,p.1≠C
theorem pV {elt iter tg:Expr} {ifs:List Expr} {M N':List Str} {pos:Pos} {scope:Scope} {wi:TI} {g:TG} {tc:TT} {te:TE} {cl:List (Str×Addr)} {pins:List (Addr×Obj)} {s:Shared} {σ:St} {H:Hp} {Q:VK} {RR:Value→Addr→Result→Shared→Prop} (hc:X.calm=true) (S:CScope X M N' scope) (hi:PI X tg iter wi)
  (hg:∀cl C s₂ H₂ fp,PG (cCx X M N' scope cl C s₂ H₂ fp) tg g) (hcn:∀cl C s₂ H₂ fp,PTs (cCx X M N' scope cl C s₂ H₂ fp) ifs tc) (he:∀cl C s₂ H₂ fp,PE (cCx X M N' scope cl C s₂ H₂ fp) elt te)
  (cl1:∀y c,cl.lookup y=some c→X.env.cells.lookup y=some c) (cl2:∀y,(y,NameKind.free)∈scope.names→∃c,cl.lookup y=some c) (I:Inv X pins σ H s) {R:It→Hp→Prop} (h:wi σ H R) (hB:∀J H,R J H→sy M.length g tc te σ Q J H)
  (hR:∀D C s4 H',Inv X pins σ H' s4→(∃m,s4.heap.Ns C m)→An X pins H' C→Q (.ref D) H'→RR (.ref D) C (.ok .next) s4):
  wpAny (model X.prog X.w) X.A (eval iter X.env) (λv s1=>wpAny (model X.prog X.w) X.A (pyIter v) (λitv s2=>wpAny (model X.prog X.w) X.A (newList []) (λacc s3=>
   wpAny (model X.prog X.w) X.A (newFunctionEnv scope X.env.globals cl [] X.env.qual none .none (some X.env)) (λcenv s4=>
    codeAny (model X.prog X.w) X.A (.compStart (.ListComp elt [⟨tg,iter,ifs,0⟩] scope pos) 0 itv acc {cenv with scope:=relabel scope X.env}) (RR acc cenv.locals) s4) X.xe s3) X.xe s2) X.xe s1) X.xe s:=by
 refine thn (hi pins s σ H _ I h) λv s1 h1=>thn h1 λitv s2 h2=>?_
 obtain⟨it,fp,tn,J,H2,e,I2,T,st2,f2,h⟩:=h2
 subst e
 refine wpAny_newObj_type (wpAny_newFunctionEnv S.nocell (by intro y hy;simp at hy) (λh₁ hns₁ hsb₁=>?_) S.kind)
 dsimp only at hns₁ hsb₁⊢
 generalize hD:s2.heap.objs.size=D at*
 generalize hH3:s2.heap.push {cls:= .type "list",dict:=none,data:= .seq ([]:List Value).toArray}=h3 at hns₁ hsb₁⊢
 have hCs:h3.objs.size=D+1:=by rw[←hH3,Heap.size_push,hD]
 have fD:H2 D=none:=I2.hok.fresh (Zp hD)
 obtain⟨W,⟨m0,w0⟩,turn⟩:=hB _ _ h D fD
 generalize hC:h3.objs.size=C at*
 have gD:s2.heap.get? D=none:=Heap.get?_none_of_le (Zp hD)
 have gC:s2.heap.get? C=none:=Heap.get?_none_of_le (by rw[hD,hCs];exact Z9 _)
 have DC:D≠C:=by rw[hCs];exact Qq (Xc _)
 have up3:∀b o,s2.heap.get? b=some o→h3.get? b=some o:=λb o e=>by rw[←hH3];exact Heap.get?_push_of_some _ e
 have hold:∀b o,h3.get? b=some o→h₁.get? b=some o:=λb o e=>hsb₁.extBut b o (by intro z;have:=Heap.lt_size e;rw[z,hC]at this;exact absurd this (Zc _)) (Heap.get?_push_of_some _ e)
 have up:∀b o,s2.heap.get? b=some o→h₁.get? b=some o:=λb o e=>hold b o (up3 b o e)
 have oD:h₁.get? D=some {cls:= .type "list",dict:=none,data:= .seq ([]:List Value).toArray}:=hold _ _ (by rw[←hH3,←hD];exact Heap.get?_push_size _ rfl)
 have fpo:∀b∈fp,b≠C∧b∉frs X.stack:=λb hb=>by
  obtain⟨o,e,_⟩:=T.obj _ _ st2 b hb
  refine⟨λz=>(by rw[z,gC]at e;cases e),λz=>?_⟩
  rcases Qe.mp (I2.stkSub b z)with q|q
  ·exact(f2 b hb).2.1 q
  ·exact(f2 b hb).2.2.1 q
 have fC:H2 C=none:=I2.hok.fresh (by rw[hD,hCs];exact Z9 _)
 have ok:(cCx X M N' scope cl C s2 H2 fp).Ok:=
  {mod:=I2.ok.mod,kind:=S.kind,glob:=I2.ok.glob,blt:=I2.ok.blt,above:=by show s2.heap.objs.size≤C;rw[hD,hCs];exact Z9 _
   inj:=λy z c h1 h2=>I2.ok.inj y z c (cl1 _ _ h1) (cl1 _ _ h2),has:=λy hy=>cl2 y (S.cells y hy),cab:=λy c z=>by cases z
   hd:=I2.ok.hd,frames:=I2.ok.frames,stk:= .inl rfl,exf:=λb hb=>⟨(fpo b hb).1,λy c e=>(f2 b hb).2.2.2.2.1 y c (cl1 y c e)⟩
   bs:=I2.bs,bsz:=Qv I2.ok.bsz I2.sz
   noex:=λb o e hb=>by
    rcases(f2 b hb).2.2.2.1 with q|q
    ·exact I2.ok.noex b o e q
    ·exact absurd (Qp (Heap.lt_size e) (Qv I2.ok.bsz q)) (Zc _)
   exfs:=λb hb=>(fpo b hb).2,funs:=I2.stack,frf:=I2.stkFree}
 have ne2:∀b u,H2 b=some u→b≠D:=λb u e=>aj e fD
 have I3:Inv (cCx X M N' scope cl C s2 H2 fp) [] (List.replicate M.length none++σ) (upd H2 D (.lst [])) {s2 with heap:=h₁,toks:=s2.toks+([]:List (Str×Value)).length}:=
  {ok:=ok,os:=rfl,bare:=I2.bare,base:=Un.laid up (Zp hD) fD
   loc:=⟨_,hns₁,λi y v e1 e2 e3=>by
    by_cases lt:i<M.length
    ·have e2:(List.replicate M.length none++σ)[i]?=some (some v):=e2
     rw[QS (by rw[Z4];exact lt),List.getElem?_replicate,if_pos lt]at e2
     cases e2
    ·have e1:(M++N')[i]?=some y:=e1
     have e2:(List.replicate M.length none++σ)[i]?=some (some v):=e2
     rw[QP (X3.mp lt)]at e1
     rw[QP (by rw[Z4];exact X3.mp lt),Z4]at e2
     generalize i-M.length=j at e1 e2
     obtain⟨e1,q1,q2⟩:=S.vis j y e1 e3
     have kc:=S.free _ q1 rfl
     obtain⟨m,hn,hl⟩:=I2.loc
     obtain⟨u,r,l⟩:=hl j y v e1 e2 (.inr (.inl kc))
     refine⟨u,r,?_⟩
     rcases l with⟨k,_⟩|⟨_,c,e,z⟩
     ·rw[kc]at k;cases k
     ·obtain⟨c',e'⟩:=cl2 y q1
      have ee:=cl1 _ _ e'
      rw[e]at ee
      cases ee
      obtain⟨o,ho,hd⟩:=z
      exact .inr ⟨.inl q2,c,e',o,up _ _ ho,hd⟩⟩
   cell:=λy c e=>by
    obtain⟨v,o,ho,hd⟩:=I2.cell y c (cl1 _ _ e)
    exact⟨v,o,up _ _ ho,hd⟩
   free:=by show upd H2 D (.lst []) C=none;rw[ac DC.symm];exact fC
   freeC:=λy c e=>by
    have q:=I2.freeC y c (cl1 _ _ e)
    obtain⟨v,o,ho,hd⟩:=I2.cell y c (cl1 _ _ e)
    rw[ac (λz=>by rw[z,gD]at ho;cases ho)]
    exact q
   pin:=λp hp=>absurd (show p∈([]:List (Addr×Obj)) from hp) (by simp)
   hok:=I2.hok.laid up (Zp hD) ⟨Qk _,[],0,.nil,oD⟩
   len:=by show(List.replicate M.length none++σ).length=(M++N').length;rw[Qa,Qa,Z4,I2.len,S.ln]}
 have stat:∀{H':Hp},(∀b∈fp,H' b=none)→∀b∈fp,iD (cCx X M N' scope cl C s2 H2 fp) [] H' b:=λhn b hb=>
  ⟨hn b hb,(fpo b hb).1,(fpo b hb).2,.inl hb,λy c e=>(f2 b hb).2.2.2.2.1 y c (cl1 _ _ e),λp hp=>absurd (show p∈([]:List (Addr×Obj)) from hp) (by simp)⟩
 have st3:tn 0 h₁:=T.keep _ _ _ st2 λb hb o e=>up b o e
 have loop:∀s3:Shared,s3={s2 with heap:=h₁,toks:=s2.toks+([]:List (Str×Value)).length}→
   codeAny (model X.prog X.w) X.A (.compLoop (.ListComp elt [⟨tg,iter,ifs,0⟩] scope pos) 0 (.ref it) (.ref D) (compEnvC scope cl C X.env)) (RR (.ref D) C) s3:=by
  rintro s3 rfl
  refine codeAny_loop rfl (λn s'=>∃i τ ys H',Inv (cCx X M N' scope cl C s2 H2 fp) [] τ H' s'∧tn i s'.heap∧(∀b∈fp,H' b=none)∧H' D=some (.lst ys)∧W i n τ ys H') ?_ m0
   ⟨0,_,[],_,I3,st3,λb hb=>by rw[ac (λz=>by obtain⟨o,e,_⟩:=T.obj _ _ st2 b hb;rw[z,gD]at e;cases e)];exact(f2 b hb).1,af,w0⟩
  rintro n s' ⟨i,τ,ys,H',I',st',fr',hD',w'⟩
  show wpAny _ X.A ((compTurn (.ListComp elt [⟨tg,iter,ifs,0⟩] scope pos) 0 (.ref it) (.ref D) (compEnvC scope cl C X.env)).onRaise (λx=>do noteFrame x (compEnvC scope cl C X.env);theTreesLotGoes x)) _ _ s'
  refine wpAny_noted ?_
  rw[compTurn_list]
  refine wpAny_bind (wpAny_standAt (wpAny_bind ?_))
  rcases turn i n τ ys H' w' hD' with⟨stop,qn⟩|⟨go,step⟩
  ·refine thn (T.done (cCx X M N' scope cl C s2 H2 fp) rfl rfl rfl hc i [] s' _ H' _ I' (stat fr') st' stop) λr s4 ⟨hr,I4⟩=>?_
   subst hr
   refine wpAny_pure ?_
   obtain⟨m,hn,_⟩:=I4.loc
   have IX:Inv X pins σ H' s4:=I2.call' (s':=s4) I4.os (show Un (frs X.stack) fp H2 H' s2.heap s4.heap from I4.base) I4.hok I4.bare λb hb=>⟨(f2 b hb).2.2.2.1,(f2 b hb).2.1,(f2 b hb).2.2.2.2.1,(f2 b hb).2.2.2.2.2⟩
   refine hR D C s4 H' IX ⟨m,hn⟩ ⟨I4.free,λz=>?_,?_,λy c e z=>?_,λp hp z=>?_⟩ qn
   ·have:=I2.lt
    rw[←z,hCs,hD]at this
    exact absurd this (X3.mpr (Z9 _))
   ·refine Qv I2.sz ?_
    rw[hD,hCs]
    exact Z9 _
   ·obtain⟨v,o,ho,_⟩:=I2.cell y c e
    rw[z,gC]at ho
    cases ho
   ·have ho:=(I2.pin p hp).1
    rw[z,gC]at ho
    cases ho
  ·refine thn (T.item (cCx X M N' scope cl C s2 H2 fp) rfl rfl rfl hc i [] s' _ H' _ I' (stat fr') st' go) λr s4 ⟨u,hr,h4⟩=>?_
   subst hr
   refine wpAny_bind (thn h4 λ_ s5 hzz=>?_)
   obtain⟨y,H5,I5,r5,y5,st5,fr5⟩:=hzz
   have I5':=I5.pinned (stat fr5) (T.obj _ _ st5)
   obtain⟨G,hG,gq⟩:=step y H5 y5
   refine wpAny_bind (wpAny_mono (hg cl C s2 H2 fp _ s5 _ H5 y _ _ I5' r5 gq) (λ_ s6 hzz=>?_) λ_ _ f=>f.elim)
   obtain⟨τ6,H6,I6,q6⟩:=hzz
   have fin:∀{τ7:St} {H7:Hp} {s7:Shared},Inv (cCx X M N' scope cl C s2 H2 fp) ([]++mZ fp s5.heap) τ7 H7 s7→tn (i+1) s7.heap∧∀b∈fp,H7 b=none:=λ{τ7 H7 s7} I7=>by
    refine⟨T.keep _ _ _ st5 λb hb o e=>(I7.pin (b,o) (Qn _ (Qn _ (gA hb e)))).1,λb hb=>?_⟩
    obtain⟨o,e,d⟩:=T.obj _ _ st5 b hb
    exact(I7.pin (b,o) (Qn _ (Qn _ (gA hb e)))).2.1
   obtain⟨Ny,Ns,hy,hn,q6⟩:=hG _ _ q6
   refine wpAny_bind (wpAny_mono (hcn cl C s2 H2 fp _ s6 _ H6 _ I6 q6) (λb s7 ⟨H7,I7,q7⟩=>?_) λ_ _ f=>f.elim)
   cases b with
   |false=>
    rw[if_neg Q7]at q7
    obtain⟨hD7,m',hm',w7⟩:=hn _ q7
    exact wpAny_pure (show _∧_ from⟨rfl,m',hm',i+1,τ6,ys,_,I7.unpinned,(fin I7).1,(fin I7).2,hD7,w7⟩)
   |true=>
    rw[if_pos rfl]at q7
    refine wpAny_bind (wpAny_bind (wpAny_mono (he cl C s2 H2 fp _ s7 _ H7 _ I7 q7) (λz s8 hzz=>?_) λ_ _ f=>f.elim))
    obtain⟨y',H8,I8,r8,q8⟩:=hzz
    obtain⟨hD8,hl8,m',hm',w8⟩:=hy _ _ q8
    refine wpAny_bind (wpAny_mono (cy (X:=cCx X M N' scope cl C s2 H2 fp) _ s8 _ H8 (.ref D) [y'] (.ref D) [z] (λ_ H9=>H9=upd H8 D (.lst (ys++ [y']))) I8 rfl (.cons r8 .nil) ⟨D,ys,y',rfl,rfl,hD8,hl8,rfl⟩) (λz9 s9 hzz=>?_) λ_ _ f=>f.elim)
    obtain⟨_,H9,I9,_,e9⟩:=hzz
    subst e9
    exact wpAny_pure (wpAny_pure ⟨rfl,m',hm',i+1,τ6,ys++ [y'],_,I9.unpinned,(fin I9).1,(fin I9).2,af,w8⟩)
 exact codeAny_compStart_list (loop _ rfl) (T.self _ 0 _ _ _ st3 (loop _ rfl))
theorem Inv.loose {pins:List (Addr×Obj)} {s:Shared} {σ:St} {H:Hp} {C:Addr} {h':Heap} (I:Inv X pins σ H s) (l:An X pins H C) (sb:Heap.SameBut C s.heap h'):Inv X pins σ H {s with heap:=h'}:=
 I.turned (t':=s.toks) (λb o hb e=>(sb.2 b hb).trans e) l.no l.fr (.inr l.ab) l.ce l.pi
section
variable {elt iter tg:Expr} {ifs:List Expr} {M N':List Str} {y:Str} {py pos spos:Pos} {scope:Scope} {wi:TI} {g:TG} {tc:TT} {te:TE} {i:Nat}
theorem rH {B:St→VK→It→Hp→Prop} (hB:∀σ Q J H,B σ Q J H→sy M.length g tc te σ Q J H) (hc:X.calm=true) (S:CScope X M N' scope) (hi:PI X tg iter wi) (hg:CScope X M N' scope→∀cl C s₂ H₂ fp,PG (cCx X M N' scope cl C s₂ H₂ fp) tg g) (hcn:∀cl C s₂ H₂ fp,PTs (cCx X M N' scope cl C s₂ H₂ fp) ifs tc) (he:∀cl C s₂ H₂ fp,PE (cCx X M N' scope cl C s₂ H₂ fp) elt te)
  (hs:∀x,foldedSetIterable iter X.env x=pure x:=by intro _;rfl):PE X (.ListComp elt [⟨tg,iter,ifs,0⟩] scope pos) (λσ H Q=>wi σ H (B σ Q)):=by
 intro pins s σ H Q I h
 obtain⟨cl,hclos,cl1,cl2⟩:=n9 (env:=X.env) (scope:=scope) λp hp hf=>I.ok.has p.1 (.inl (S.free p hp hf))
 rw[eval_ListComp]
 refine wpAny_comprehension_free (use:=none) rfl hs hclos S.kind S.names (pV hc S hi (hg S) hcn he cl1 cl2 I h (hB _ _) λD C s4 H' I4 hn l q=>?_)
 obtain⟨m,hn⟩:=hn
 exact⟨m,hn,λh' sb=>⟨.ref D,H',I4.loose l sb,rfl,q⟩⟩
theorem wR {B:St→VK→It→Hp→Prop} (hB:∀σ Q J H,B σ Q J H→sy M.length g tc te σ Q J H) (hc:X.calm=true) (S:CScope X M N' scope) (hi:PI X tg iter wi) (hg:CScope X M N' scope→∀cl C s₂ H₂ fp,PG (cCx X M N' scope cl C s₂ H₂ fp) tg g) (hcn:∀cl C s₂ H₂ fp,PTs (cCx X M N' scope cl C s₂ H₂ fp) ifs tc) (he:∀cl C s₂ H₂ fp,PE (cCx X M N' scope cl C s₂ H₂ fp) elt te)
  (hN:X.N.Nodup) (hy:X.N[i]?=some y) (hk:X.env.scope.names.lookup y=some .local) (hsw:swapsWith (.ListComp elt [⟨tg,iter,ifs,0⟩] scope pos) (some (.Name y py)) spos.line X.env=pure true:=by rfl)
  (hs:∀x,foldedSetIterable iter X.env x=pure x:=by intro _;rfl):PS X (.Assign [.Name y py] (.ListComp elt [⟨tg,iter,ifs,0⟩] scope pos) spos) (yG (λσ H Q=>wi σ H (B σ Q)) (j9 i)):=by
 intro pins s σ H D I h
 obtain⟨cl,hclos,cl1,cl2⟩:=n9 (env:=X.env) (scope:=scope) λp hp hf=>I.ok.has p.1 (.inl (S.free p hp hf))
 rw[exec_Assign_Name_used _ _ _ _ hsw]
 refine wpAny_bind (wpAny_standAt (wpAny_bind ?_))
 show wpAny _ X.A (do let _←comprehension (.ListComp elt [⟨tg,iter,ifs,0⟩] scope pos) scope X.env _ (newList []) false (eval iter X.env) (some (assign (.Name y py) X.env))) _ _ s
 refine wpAny_bind (thn (wpAny_comprehension_free (use:=some (assign (.Name y py) X.env)) (Q:=λ_ s'=>SP X pins D .next s') rfl hs hclos S.kind S.names
  (pV (Q:=λv H'=>D.nx (σ.set i (some v)) H') hc S hi (hg S) hcn he cl1 cl2 I h (hB _ _) λD' C s4 H' I4 hn l q=>?_)) λ_ s' hq=>wpAny_pure (wpAny_pure hq))
 obtain⟨m,hn⟩:=hn
 show wpAny _ X.A (assign (.Name y py) X.env (.ref D')) _ _ _
 refine wpAny_assign_Name (pf (v:= .ref D') I4 hN hy (.inl hk) rfl (λs5 I5 hzz=>?_) (.inr hk))
 obtain⟨a,sb,ha⟩:=hzz
 have ne:C≠a:=by
  rcases ha with z|z
  ·rw[z];exact l.fr
  ·exact Ne.symm (l.ce _ _ z)
 exact⟨m,hn.sameBut sb ne,λh' sb'=>⟨_,H',I5.loose l sb',q⟩⟩
end
def tR (te:TE) (σ:St) (Q:VK) (J:It) (H1:Hp):Prop:=∀D,H1 D=none→∃W:Nat→Nat→List V→Hp→Prop,(∃m,W 0 m [] (upd H1 D (.lst [])))∧∀i m ys H2,W i m ys H2→H2 D=some (.lst ys)→
 (J.stop i H2∧Q (.ref D) H2)∨(J.go i H2∧∀x H3,J.yld i H2 x H3→te (some x::σ) H3 λy H4=>H4 D=some (.lst ys)∧ys.length<sizeLine∧∃m',m'<m∧W (i+1) m' (ys++ [y]) (upd H4 D (.lst (ys++ [y]))))
def BA (wi:TI) (te:TE):TE:=λσ H Q=>wi σ H (tR te σ Q)
theorem Ch {te:TE} {σ:St} {Q:VK} {J:It} {H1:Hp} (h:tR te σ Q J H1):sy 1 (j9 0) zN te σ Q J H1:=λD hD=>by
 obtain⟨W,⟨m0,w0⟩,turn⟩:=h D hD
 refine⟨λi m τ ys H=>(∃v,τ=v::σ)∧W i m ys H,⟨m0,⟨none,rfl⟩,w0⟩,λi m τ ys H2 w e=>?_⟩
 obtain⟨⟨v,rfl⟩,w⟩:=w
 rcases turn i m ys H2 w e with z|⟨go,z⟩
 ·exact .inl z
 ·refine .inr ⟨go,λx H3 y=>⟨λτ2 H4=>τ2=some x::σ∧H4=H3,λτ2 H4 e=>?_,rfl,rfl⟩⟩
  obtain⟨rfl,rfl⟩:=e
  refine⟨λy H6=>H6 D=some (.lst ys)∧ys.length<sizeLine∧∃m',m'<m∧W (i+1) m' (ys++ [y]) (upd H6 D (.lst (ys++ [y]))),λ_=>False,λy H6 n=>?_,λ_ n=>n.elim,?_⟩
  ·obtain⟨n1,n2,m',n3,n4⟩:=n
   exact⟨n1,n2,m',n3,⟨_,rfl⟩,n4⟩
  ·exact cQ (B:=False) (z x _ y)
theorem ue {elt iter:Expr} {N':List Str} {x:Str} {px pos:Pos} {scope:Scope} {wi:TI} {te:TE} (hc:X.calm=true) (S:CScope X [x] N' scope) (hi:PI X (.Name x px) iter wi) (he:∀cl C s₂ H₂ fp,PE (cCx X [x] N' scope cl C s₂ H₂ fp) elt te)
  (hs:∀x,foldedSetIterable iter X.env x=pure x:=by intro _;rfl):PE X (.ListComp elt [⟨.Name x px,iter,[],0⟩] scope pos) (BA wi te):=
 rH (B:=tR te) (λ_ _ _ _=>Ch) hc S hi (λS _ _ _ _ _=>S.pg rfl) (λ_ _ _ _ _=>yW) he hs
end
def rD (scope dsc:Scope):List (Str×NameKind):=scope.names.map λp=>if(p.2==NameKind.free&&dsc.kind==ScopeKind.function&&dsc.names.lookup p.1==some NameKind.cell)=true then(p.1,NameKind.cell)else(p.1,p.2)
def Af (M N N':List Str) (dsc:Scope) (scope:Scope):Bool:=
 (scope.kind==ScopeKind.function)&&decide (M++N').Nodup&&(M.all λx=>scope.names.lookup x==some NameKind.local)&&(scope.names.all λy=>y.2 !=NameKind.cell)&&(scope.names.all λy=>y.2 !=NameKind.local||scope.names.lookup y.1==some NameKind.local)
 &&(scope.names.all λy=>y.2 !=NameKind.free||dsc.names.lookup y.1==some NameKind.cell)&&(N'.all λy=>(rD scope dsc).lookup y !=some NameKind.local&&(rD scope dsc).lookup y !=some NameKind.free)&&decide (N'.length=N.length)&&(N'.zip N).all λp=>p.1==p.2||(rD scope dsc).lookup p.1==none
theorem jR {dsc:Scope}:∀{l:List (Str×NameKind)} {y:Str} {k:NameKind},(∀p∈l,p.2≠NameKind.cell)→(l.map λp=>if(p.2==NameKind.free&&dsc.kind==ScopeKind.function&&dsc.names.lookup p.1==some NameKind.cell)=true then(p.1,NameKind.cell)else(p.1,p.2)).lookup y=some k→(k= .cell∨k= .free)→(y,NameKind.free)∈l
 | [],y,k,_,h,_=>by simp at h
 |(n,kk)::r,y,k,hn,h,hk=>by
  rw[Qo]at h
  by_cases c:(kk==NameKind.free&&dsc.kind==ScopeKind.function&&dsc.names.lookup n==some NameKind.cell)=true
  ·dsimp only at h
   rw[if_pos c,Zl]at h
   split at h
   ·rename_i z
    rw[beq_iff_eq]at z
    subst z
    have:kk= .free:=by
     rw[Zt,Zt]at c
     simpa using c.1.1
    rw[this]
    exact Q8
   ·exact Q6 _ (jR (λp hp=>hn p (Q6 _ hp)) h hk)
  ·dsimp only at h
   rw[if_neg c,Zl]at h
   split at h
   ·rename_i z
    rw[beq_iff_eq]at z
    subst z
    cases h
    rcases hk with e|e
    ·exact absurd e (hn _ Q8)
    ·rw[e];exact Q8
   ·exact Q6 _ (jR (λp hp=>hn p (Q6 _ hp)) h hk)
theorem CScope.of {X:Cx} {scope dsc:Scope} {M N N':List Str} (eN:X.N=N) (ed:X.env.scope=dsc) (h:Af M N N' dsc scope=true):CScope X M N' scope:=by
 unfold Af at h
 simp only[Zt]at h
 obtain⟨⟨⟨⟨⟨⟨⟨⟨h1,h2⟩,h3⟩,h4⟩,h5⟩,h6⟩,h7⟩,h8⟩,h9⟩:=h
 have hrel:(relabel scope X.env).names=rD scope dsc:=by rw[←ed];rfl
 have nocell:∀y∈scope.names,y.2≠NameKind.cell:=λy hy=>by have:=QG.mp h4 y hy;simpa using this
 refine⟨by simpa using h1,of_decide_eq_true h2,by rw[eN];exact of_decide_eq_true h8,λx hx=>by simpa using QG.mp h3 x hx,nocell,λy hy e=>?_,λy hy e=>?_,λj y hj v=>?_,λy e=>?_⟩
 ·have:=QG.mp h5 y hy
  rw[e]at this
  simpa using this
 ·have:=QG.mp h6 y hy
  rw[e]at this
  show X.env.scope.names.lookup y.1=_
  rw[ed]
  simpa using this
 ·have nl:=QG.mp h7 y (Q0 hj)
  have hz:∃z,N[j]?=some z∧(y,z)∈N'.zip N:=by
   have lj:=(Q3.mp hj).1
   have l8:N'.length=N.length:=of_decide_eq_true h8
   refine⟨N[j]'(by omega),Q4 _,?_⟩
   refine Q0 (i:=j) ?_
   rw[List.getElem?_zip_eq_some]
   exact⟨hj,Q4 _⟩
  obtain⟨z,hz,mz⟩:=hz
  have e9:=QG.mp h9 _ mz
  unfold Vis at v
  rw[hrel]at v⊢
  have nl:¬(rD scope dsc).lookup y=some NameKind.local∧¬(rD scope dsc).lookup y=some NameKind.free:=by simpa using nl
  rcases v with v|v|v
  ·exact absurd v nl.1
  ·refine⟨?_,jR nocell v (.inl rfl),v⟩
   rw[eN,hz]
   dsimp only at e9
   rw[v,Bool.or_eq_true]at e9
   rcases e9 with e9|e9
   ·rw[beq_iff_eq]at e9;rw[e9]
   ·cases e9
  ·exact absurd v nl.2
 ·have e:(rD scope dsc).lookup y=some .cell∨(rD scope dsc).lookup y=some .free:=by rw[←hrel];exact e
  rcases e with e|e
  ·exact jR nocell e (.inl rfl)
  ·exact jR nocell e (.inr rfl)
def CNext (n i:Nat) (ys:List V) (D:Addr) (Pv:Nat→List V→Hp→Prop):VK:=λy H4=>H4 D=some (.lst ys)∧ys.length<sizeLine∧∃m',m'<n-i∧m'=n-(i+1)∧i+1≤n∧Pv (i+1) (ys++ [y]) (upd H4 D (.lst (ys++ [y])))
theorem CNext.mk {n i:Nat} {ys:List V} {D:Addr} {Pv:Nat→List V→Hp→Prop} {y:V} {H4:Hp} (hi:i<n) (h1:H4 D=some (.lst ys)) (h2:ys.length<sizeLine) (h3:Pv (i+1) (ys++ [y]) (upd H4 D (.lst (ys++ [y])))):CNext n i ys D Pv y H4:=
 ⟨h1,h2,n-(i+1),by omega,rfl,hi,h3⟩
theorem vU {K:PySem.W.Frag} {a D:Addr} {xs:List V} {te:TE} {σ:St} {H1:Hp} {Fin:Hp→Prop} (Pv:Nat→List V→Hp→Prop) (h0:Pv 0 [] (upd H1 D (.lst []))) (hl:∀i ys H,i≤xs.length→Pv i ys H→SqL K H a xs)
  (hs:∀i x ys H2,xs[i]?=some x→Pv i ys H2→H2 D=some (.lst ys)→te (some x::σ) H2 (CNext xs.length i ys D Pv))
  (hd:∀ys H2,Pv xs.length ys H2→H2 D=some (.lst ys)→Fin H2):
  ∃W:Nat→Nat→List V→Hp→Prop,(∃m,W 0 m [] (upd H1 D (.lst [])))∧∀i m ys H2,W i m ys H2→H2 D=some (.lst ys)→
   ((Itl K a).stop i H2∧Fin H2)∨((Itl K a).go i H2∧∀x H3,(Itl K a).yld i H2 x H3→te (some x::σ) H3 λy H4=>H4 D=some (.lst ys)∧ys.length<sizeLine∧∃m',m'<m∧W (i+1) m' (ys++ [y]) (upd H4 D (.lst (ys++ [y])))):=by
 refine⟨λi m ys H=>m=xs.length-i∧i≤xs.length∧Pv i ys H,⟨xs.length,by simp,Qk _,h0⟩,?_⟩
 rintro i m ys H ⟨rfl,hi,p⟩ hD
 have q:=hl i ys H hi p
 by_cases lt:i<xs.length
 ·refine .inr ⟨⟨xs,xs[i],q,by simp[lt]⟩,λx H' y=>?_⟩
  obtain⟨e,y⟩:=y
  subst e
  exact hs i x ys _ (y xs q) p hD
 ·have e:i=xs.length:=by omega
  subst e
  exact .inl ⟨⟨xs,q,Q5 _⟩,hd ys H p hD⟩
theorem tO {lo:Int} {n:Nat} {D:Addr} {te:TE} {σ:St} {H1:Hp} {Fin:Hp→Prop} (Pv:Nat→List V→Hp→Prop) (h0:Pv 0 [] (upd H1 D (.lst [])))
  (hs:∀i ys H2,i<n→Pv i ys H2→H2 D=some (.lst ys)→te (some (.int (lo+i))::σ) H2 (CNext n i ys D Pv))
  (hd:∀ys H2,Pv n ys H2→H2 D=some (.lst ys)→Fin H2):
  ∃W:Nat→Nat→List V→Hp→Prop,(∃m,W 0 m [] (upd H1 D (.lst [])))∧∀i m ys H2,W i m ys H2→H2 D=some (.lst ys)→
   ((Itr lo n).stop i H2∧Fin H2)∨((Itr lo n).go i H2∧∀x H3,(Itr lo n).yld i H2 x H3→te (some x::σ) H3 λy H4=>H4 D=some (.lst ys)∧ys.length<sizeLine∧∃m',m'<m∧W (i+1) m' (ys++ [y]) (upd H4 D (.lst (ys++ [y])))):=by
 refine⟨λi m ys H=>m=n-i∧i≤n∧Pv i ys H,⟨n,by simp,Qk _,h0⟩,?_⟩
 rintro i m ys H ⟨rfl,hi,p⟩ hD
 by_cases lt:i<n
 ·refine .inr ⟨lt,λx H' y=>?_⟩
  obtain⟨e,y⟩:=y
  subst e y
  exact hs i ys _ lt p hD
 ·have e:i=n:=by omega
  subst e
  exact .inl ⟨Q5 _,hd ys H p hD⟩
end L2
namespace L2
open PySem PySem.Spec PyProof.Rows
def oa (tc:TT) (te:TE) (σ:St) (Q:VK) (J:It) (H1:Hp):Prop:=∀D,H1 D=none→∃W:Nat→Nat→List V→Hp→Prop,(∃m,W 0 m [] (upd H1 D (.lst [])))∧∀i m ys H2,W i m ys H2→H2 D=some (.lst ys)→
 (J.stop i H2∧Q (.ref D) H2)∨(J.go i H2∧∀x H3,J.yld i H2 x H3→tc (some x::σ) H3 λb H4=>if b=true then te (some x::σ) H4 λy H5=>H5 D=some (.lst ys)∧ys.length<sizeLine∧∃m',m'<m∧W (i+1) m' (ys++ [y]) (upd H5 D (.lst (ys++ [y])))else H4 D=some (.lst ys)∧∃m',m'<m∧W (i+1) m' ys H4)
def wH (wi:TI) (tc:TT) (te:TE):TE:=λσ H Q=>wi σ H (oa tc te σ Q)
theorem Ag {tc:TT} {te:TE} {σ:St} {Q:VK} {J:It} {H1:Hp} (h:oa tc te σ Q J H1):sy 1 (j9 0) tc te σ Q J H1:=λD hD=>by
 obtain⟨W,⟨m0,w0⟩,turn⟩:=h D hD
 refine⟨λi m τ ys H=>(∃v,τ=v::σ)∧W i m ys H,⟨m0,⟨none,rfl⟩,w0⟩,λi m τ ys H2 w e=>?_⟩
 obtain⟨⟨v,rfl⟩,w⟩:=w
 rcases turn i m ys H2 w e with z|⟨go,z⟩
 ·exact .inl z
 ·refine .inr ⟨go,λx H3 y=>⟨λτ2 H4=>τ2=some x::σ∧H4=H3,λτ2 H4 e=>?_,rfl,rfl⟩⟩
  obtain⟨rfl,rfl⟩:=e
  refine⟨_,_,λy H6 n=>?_,λH5 n=>?_,z x _ y⟩
  ·obtain⟨n1,n2,m',n3,n4⟩:=n
   exact⟨n1,n2,m',n3,⟨_,rfl⟩,n4⟩
  ·obtain⟨n1,m',n3,n4⟩:=n
   exact⟨n1,m',n3,⟨_,rfl⟩,n4⟩
section
variable {X:Cx}
theorem rJ {elt iter cnd:Expr} {N':List Str} {x:Str} {px pos:Pos} {scope:Scope} {wi:TI} {te:TE} {tc:TT} (hc:X.calm=true) (S:CScope X [x] N' scope) (hi:PI X (.Name x px) iter wi) (hcn:∀cl C s₂ H₂ fp,PT (cCx X [x] N' scope cl C s₂ H₂ fp) cnd tc) (he:∀cl C s₂ H₂ fp,PE (cCx X [x] N' scope cl C s₂ H₂ fp) elt te)
  (hs:∀x,foldedSetIterable iter X.env x=pure x:=by intro _;rfl):PE X (.ListComp elt [⟨.Name x px,iter,[cnd],0⟩] scope pos) (wH wi tc te):=
 rH (B:=oa tc te) (λ_ _ _ _=>Ag) hc S hi (λS _ _ _ _ _=>S.pg rfl) (λ_ _ _ _ _=>t9 (hcn _ _ _ _ _)) he hs
theorem mY {elt iter cnd:Expr} {N':List Str} {x y:Str} {px py pos spos:Pos} {scope:Scope} {wi:TI} {te:TE} {tc:TT} {i:Nat} (hc:X.calm=true) (S:CScope X [x] N' scope) (hi:PI X (.Name x px) iter wi) (hcn:∀cl C s₂ H₂ fp,PT (cCx X [x] N' scope cl C s₂ H₂ fp) cnd tc) (he:∀cl C s₂ H₂ fp,PE (cCx X [x] N' scope cl C s₂ H₂ fp) elt te)
  (hN:X.N.Nodup) (hy:X.N[i]?=some y) (hk:X.env.scope.names.lookup y=some .local) (hsw:swapsWith (.ListComp elt [⟨.Name x px,iter,[cnd],0⟩] scope pos) (some (.Name y py)) spos.line X.env=pure true:=by rfl)
  (hs:∀x,foldedSetIterable iter X.env x=pure x:=by intro _;rfl):PS X (.Assign [.Name y py] (.ListComp elt [⟨.Name x px,iter,[cnd],0⟩] scope pos) spos) (yG (wH wi tc te) (j9 i)):=
 wR (B:=oa tc te) (λ_ _ _ _=>Ag) hc S hi (λS _ _ _ _ _=>S.pg rfl) (λ_ _ _ _ _=>t9 (hcn _ _ _ _ _)) he hN hy hk hsw hs
end
def CSkip (n i:Nat) (ys:List V) (D:Addr) (Pv:Nat→List V→Hp→Prop) (H4:Hp):Prop:=H4 D=some (.lst ys)∧∃m',m'<n-i∧m'=n-(i+1)∧i+1≤n∧Pv (i+1) ys H4
theorem CSkip.mk {n i:Nat} {ys:List V} {D:Addr} {Pv:Nat→List V→Hp→Prop} {H4:Hp} (hi:i<n) (h1:H4 D=some (.lst ys)) (h3:Pv (i+1) ys H4):CSkip n i ys D Pv H4:=⟨h1,n-(i+1),by omega,rfl,hi,h3⟩
theorem gN {K:PySem.W.Frag} {a D:Addr} {xs:List V} {te:TE} {tc:TT} {σ:St} {H1:Hp} {Fin:Hp→Prop} (Pv:Nat→List V→Hp→Prop) (h0:Pv 0 [] (upd H1 D (.lst []))) (hl:∀i ys H,i≤xs.length→Pv i ys H→SqL K H a xs)
  (hs:∀i x ys H2,xs[i]?=some x→Pv i ys H2→H2 D=some (.lst ys)→tc (some x::σ) H2 λb H4=>if b=true then te (some x::σ) H4 (CNext xs.length i ys D Pv)else CSkip xs.length i ys D Pv H4)
  (hd:∀ys H2,Pv xs.length ys H2→H2 D=some (.lst ys)→Fin H2):
  ∃W:Nat→Nat→List V→Hp→Prop,(∃m,W 0 m [] (upd H1 D (.lst [])))∧∀i m ys H2,W i m ys H2→H2 D=some (.lst ys)→
   ((Itl K a).stop i H2∧Fin H2)∨((Itl K a).go i H2∧∀x H3,(Itl K a).yld i H2 x H3→tc (some x::σ) H3 λb H4=>if b=true then te (some x::σ) H4 λy H5=>H5 D=some (.lst ys)∧ys.length<sizeLine∧∃m',m'<m∧W (i+1) m' (ys++ [y]) (upd H5 D (.lst (ys++ [y])))else H4 D=some (.lst ys)∧∃m',m'<m∧W (i+1) m' ys H4):=by
 refine⟨λi m ys H=>m=xs.length-i∧i≤xs.length∧Pv i ys H,⟨xs.length,by simp,Qk _,h0⟩,?_⟩
 rintro i m ys H ⟨rfl,hi,p⟩ hD
 have q:=hl i ys H hi p
 by_cases lt:i<xs.length
 ·refine .inr ⟨⟨xs,xs[i],q,by simp[lt]⟩,λx H' y=>?_⟩
  obtain⟨e,y⟩:=y
  subst e
  exact hs i x ys _ (y xs q) p hD
 ·have e:i=xs.length:=by omega
  subst e
  exact .inl ⟨⟨xs,q,Q5 _⟩,hd ys H p hD⟩
end L2
namespace L2
open PySem PySem.Spec PyProof.Rows
end L2
namespace L2
open PySem PySem.Spec PyProof.Rows
def vwO (a d:Addr):HO:= .ext λh=>h.IsItemsView a d
def Itd (ob:Obj) (d:Addr) (kvs:List (Key×V)):It:=
 ⟨λi H=>H d=some (.frz ob (.dK kvs))∧i<kvs.length,λi H x H'=>∃p k v,x= .ref p∧H p=none∧kvs[i]?=some (k,v)∧H'=upd H p (.tup [kV k,v]),λi H=>H d=some (.frz ob (.dK kvs))∧kvs.length≤i⟩
def Bo (P:Program) (w:World) (ob:Obj) (d:Addr) (kvs:List (Key×V)) (vs:List (Key×Value)) (ep:Nat):Prop:=
 KV kvs vs∧∀h:Heap,h.get? d=some ob→h.DictAt (aR P w) d vs ep
theorem KV.getI {kvs:List (Key×V)} {vs:List (Key×Value)} (h:KV kvs vs):∀{i:Nat} {k:Key} {v:V},kvs[i]?=some (k,v)→∃u,vs[i]?=some (k,u)∧RelV v u:=by
 induction h with
 |nil=>intro i k v e;simp at e
 |cons r t ih=>
  rename_i p q ps qs
  intro i k v e
  cases i with
  |zero=>
   simp at e
   subst e
   exact⟨q.2,by simp[show k=q.1 from r.1],r.2⟩
  |succ j=>
   obtain⟨u,h1,h2⟩:=ih (i:=j) (by simpa using e)
   exact⟨u,by simpa using h1,h2⟩
theorem sO {P:Program} {w:World} {K:PySem.W.Frag} {elts:List Expr} {x1} {pos:Pos} {ob:Obj} {d:Addr} {kvs:List (Key×V)} {vs:List (Key×Value)} {ep:Nat} (it:Addr) (D:Bo P w ob d kvs vs ep):
  tS P w K (.Tuple elts x1 pos) (Itd ob d kvs) [it] it (λi h=>∃ok ov,IsItemIter h it d i vs.length ep ok ov) where
 mem:=by simp
 obj:=λi h st b hb=>by
  obtain⟨ok,ov,st⟩:=st
  have z:b=it:=by simpa using hb
  subst z
  exact⟨_,st,λv z=>by cases z⟩
 keep:=λi h h' st k=>by
  obtain⟨ok,ov,st⟩:=st
  exact⟨ok,ov,k it (by simp) _ st⟩
 item:=by
  intro X hP hw hK hc i pins s σ H E I hf st hg
  subst hP hw hK
  obtain⟨ok,ov,st⟩:=st
  obtain⟨hq,hi⟩:=hg
  have fi:=hf it (by simp)
  obtain⟨hob,_⟩:=I.hok d _ hq
  have hat:=D.2 s.heap hob
  obtain⟨⟨k,v⟩,hx⟩:∃kv,kvs[i]?=some kv:=⟨kvs[i],by simp[hi]⟩
  obtain⟨u,hu,ru⟩:=KV.getI D.1 hx
  refine wpAny_pyNext_items_item st hat hu λkey h' hkey g1 g3 gz g5=>⟨_,rfl,?_⟩
  refine wpAny_letOwnedTupleGo_items g1 λh2 k1 k2=>?_
  have rk:RelV (kV k) key:=mj hkey
  have np:H s.heap.objs.size=none:=I.hok.fresh (Q5 _)
  have nit:s.heap.objs.size≠it:=Nat.ne_of_gt (Heap.lt_size st)
  have keep:∀b o,b≠it→s.heap.get? b=some o→h2.get? b=some o:=λb o z q=>(k2.2 b z).trans (g5 b o z q)
  have tupAt:h2.get? s.heap.objs.size=some {cls:= .type "tuple",data:= .seq #[key,u]}:=(k2.2 _ nit).trans g3
  have trk:∀b v,H b=some v→b≠it:=λb v q z=>by rw[z,fi.1]at q;cases q
  have un:Un (frs X.stack) [it] H (upd H s.heap.objs.size (.tup [kV k,v])) s.heap h2:=by
   refine⟨λb o q n hb hx=>keep b o (λz=>hx (by simp[z])) q,λb o q n hb hx=>⟨o.slots,keep b o (λz=>hx (by simp[z])) q⟩,λb o q n hx=>?_,
    λb o q hx=>⟨o,keep b o (λz=>hx (by simp[z])) q⟩,λb ys q=>?_,λb o v q=>?_,λb ps q=>⟨#[],?_⟩⟩
   ·rw[ac (Qq (Heap.lt_size q))];exact n
   ·rw[ac (aj q np)];exact q
   ·rw[ac (aj q np)];exact q
   ·rw[ac (aj q np),q];simp
  have hok:HOk X.prog X.w (upd H s.heap.objs.size (.tup [kV k,v])) h2:=λb v' q=>by
   by_cases z:b=s.heap.objs.size
   ·subst z
    rw[af]at q
    cases q
    exact⟨by show 2≤sizeLine;decide,[key,u],.cons rk (.cons ru .nil),_,tupAt,rfl,_,rfl⟩
   ·rw[ac z]at q
    refine(I.hok b v' q).stay (λc o hc r=>?_) (λc r=>by rw[ac (aj r np)];exact r) λc ys r=>by rw[ac (aj r np)];exact r
    rcases hc with rfl|hc
    ·exact keep _ _ (trk _ _ q) r
    ·exact keep _ _ (trk _ _ hc) r
  have I2:Inv X pins σ (upd H s.heap.objs.size (.tup [kV k,v])) {s with heap:=h2}:=I.call' (s':={s with heap:=h2}) rfl un hok I.bare λb hb=>by
   have z:iD X pins H b:=hf b hb
   exact⟨z.2.2.2.1,z.2.1,z.2.2.2.2.1,z.2.2.2.2.2⟩
  refine⟨.ref s.heap.objs.size,_,I2,rfl,⟨_,k,v,rfl,np,hx,rfl⟩,⟨key,u,k1⟩,λb hb=>?_⟩
  have z:b=it:=by simpa using hb
  subst z
  rw[ac (Ne.symm nit)]
  exact fi.1
 done:=by
  intro X hP hw hK hc i pins s σ H E I hf st hg
  subst hP hw hK
  obtain⟨ok,ov,st⟩:=st
  obtain⟨hq,hi⟩:=hg
  obtain⟨hob,_⟩:=I.hok d _ hq
  have hat:=D.2 s.heap hob
  obtain⟨f0,f1,f2,f3,f4,f5⟩:=hf it (by simp)
  have hl:kvs.length=vs.length:=D.1.length
  exact wpAny_pyNext_items_end (I.ok.hd hc) st hat (by simp;omega) λh' eb=>⟨rfl,I.turned (t':=s.toks) (λb o hb e=>eb b o hb e) f0 f1 f3 f4 f5⟩
 self:=λ_ _ _ _ _ st h=>let⟨_,_,st⟩:=st;PySem.W.kcp_self st h
section
variable {X:Cx}
def AB:V→List V→Hp→VK→Prop:=λx vs H Q=>∃d kvs,x= .ref d∧vs=[]∧H d=some (.dK kvs)∧∀a,H a=none→Q (.ref a) (upd H a (vwO a d))
theorem rP:MtR X "dict.items" AB:=by
 intro pins s σ H x vs v us Q I rx rv h
 obtain⟨d,kvs,rfl,rfl,hd,q⟩:=h
 cases rx
 cases rv
 obtain⟨z,lo,ws,rel,dd⟩:=eS I.hok hd
 refine call_meetsIn ZJ dd.typeIs PySem.F.entry_dict_items (PySem.F.args_dict_items_1 _) (meets_dict_items (aR X.prog X.w) d lo) ⟨⟨ws,dd⟩,?_⟩
 have new:(s.heap.push {cls:= .type "dict_items",data:= .fields #[.ref d]}).get? s.heap.objs.size=some {cls:= .type "dict_items",data:= .fields #[.ref d]}:=Heap.get?_push_size _ rfl
 refine⟨.ref s.heap.objs.size,_,I.laid (t':=s.toks) (λb o e=>Heap.get?_push_of_some _ e) (Q5 _) (show ObjOk X.prog X.w _ _ _ (vwO s.heap.objs.size d) from⟨⟨_,new,rfl,rfl⟩,⟨_,new⟩,λh1 h2 p k=>?_⟩),rfl,q _ (I.hok.fresh (Q5 _))⟩
 obtain⟨o,e,c⟩:=p
 exact⟨o,k o e,c⟩
theorem Inv.freeze {pins:List (Addr×Obj)} {σ:St} {H:Hp} {s:Shared} {d:Addr} {kvs:List (Key×V)} {ob:Obj} (I:Inv X pins σ H s) (hd:H d=some (.dK kvs)) (ho:s.heap.get? d=some ob):Inv X pins σ (upd H d (.frz ob (.dK kvs))) s:=by
 have own:∀b y,H b=some (.own y)→upd H d (.frz ob (.dK kvs)) b=some (.own y):=λb y q=>by rw[ac (λz=>by rw[z,hd]at q;cases q)];exact q
 have tup:∀b xs,H b=some (.tup xs)→upd H d (.frz ob (.dK kvs)) b=some (.tup xs):=λb xs q=>by rw[ac (λz=>by rw[z,hd]at q;cases q)];exact q
 have non:∀b,H b=none→upd H d (.frz ob (.dK kvs)) b=none:=λb q=>by rw[ac (λz=>by rw[z,hd]at q;cases q)];exact q
 refine⟨I.ok,I.os,I.bare,⟨I.base.keep,I.base.slot,λb o e n hx=>non b (I.base.free b o e n hx),I.base.there,λb xs e=>tup b xs (I.base.tups b xs e),λb o u e=>?_,λb ps e=>?_⟩,I.loc,I.cell,non _ I.free,λx c e=>non c (I.freeC x c e),λp hp=>?_,λb o e=>?_,I.len⟩
 ·have:=I.base.frzs b o u e
  rw[ac (λz=>by rw[z,hd]at this;cases this)];exact this
 ·obtain⟨m,q⟩:=I.base.tbls b ps e
  exact⟨m,by rw[ac (λz=>by rw[z,hd]at q;cases q)];exact q⟩
 ·obtain⟨h1,h2,h3⟩:=I.pin p hp
  exact⟨h1,non _ h2,h3⟩
 ·by_cases z:b=d
  ·subst z
   rw[af]at e
   cases e
   exact⟨ho,(I.hok b _ hd).stay (λ_ _ _ q=>q) (λc q=>own c b q) tup⟩
  ·rw[ac z]at e
   exact(I.hok b o e).stay (λ_ _ _ q=>q) (λc q=>own c b q) tup
theorem Inv.thaw {pins:List (Addr×Obj)} {σ:St} {H:Hp} {s:Shared} {d:Addr} {kvs:List (Key×V)} {ob:Obj} (I:Inv X pins σ H s) (hd:H d=some (.frz ob (.dK kvs))) (h0:∀o u,X.H₀ d≠some (.frz o u)):Inv X pins σ (upd H d (.dK kvs)) s:=by
 have own:∀b y,H b=some (.own y)→upd H d (.dK kvs) b=some (.own y):=λb y q=>by rw[ac (λz=>by rw[z,hd]at q;cases q)];exact q
 have tup:∀b xs,H b=some (.tup xs)→upd H d (.dK kvs) b=some (.tup xs):=λb xs q=>by rw[ac (λz=>by rw[z,hd]at q;cases q)];exact q
 have non:∀b,H b=none→upd H d (.dK kvs) b=none:=λb q=>by rw[ac (λz=>by rw[z,hd]at q;cases q)];exact q
 refine⟨I.ok,I.os,I.bare,⟨I.base.keep,I.base.slot,λb o e n hx=>non b (I.base.free b o e n hx),I.base.there,λb xs e=>tup b xs (I.base.tups b xs e),λb o u e=>?_,λb ps e=>?_⟩,I.loc,I.cell,non _ I.free,λx c e=>non c (I.freeC x c e),λp hp=>?_,λb o e=>?_,I.len⟩
 ·have:=I.base.frzs b o u e
  rw[ac (λz=>by rw[z]at e;exact h0 _ _ e)];exact this
 ·obtain⟨m,q⟩:=I.base.tbls b ps e
  exact⟨m,by rw[ac (λz=>by rw[z,hd]at q;cases q)];exact q⟩
 ·obtain⟨h1,h2,h3⟩:=I.pin p hp
  exact⟨h1,non _ h2,h3⟩
 ·by_cases z:b=d
  ·subst z
   rw[af]at e
   cases e
   obtain⟨_,q⟩:=I.hok b _ hd
   exact ObjOk.stay (show ObjOk X.prog X.w H s.heap b (.dK kvs) from q) (λ_ _ _ q=>q) (λc q=>own c b q) tup
  ·rw[ac z]at e
   exact(I.hok b o e).stay (λ_ _ _ q=>q) (λc q=>own c b q) tup
theorem Inv.noFrz {pins:List (Addr×Obj)} {σ:St} {H:Hp} {s:Shared} {d:Addr} {kvs:List (Key×V)} (I:Inv X pins σ H s) (hd:H d=some (.dK kvs)):∀o u,X.H₀ d≠some (.frz o u):=λo u e=>by
 have:=I.base.frzs d o u e
 rw[hd]at this
 cases this
def AZ (te:TE):TI:=λσ H R=>te σ H λx H1=>∃a d kvs,x= .ref a∧H1 a=some (vwO a d)∧H1 d=some (.dK kvs)∧∀ob,R (Itd ob d kvs) (upd H1 d (.frz ob (.dK kvs)))
theorem wT {l:Expr} {te:TE} {elts:List Expr} {x1} {pos:Pos} (hl:PE X l te):PI X (.Tuple elts x1 pos) l (AZ te):=by
 intro pins s σ H R I h
 refine thn (hl pins s σ H _ I h) λv s1 hzz=>?_
 obtain⟨x,H1,I1,r1,q1⟩:=hzz
 obtain⟨a,d,kvs,e,ha,hd,q⟩:=q1
 subst e
 cases r1
 obtain⟨z,lo,vs,rel,dd⟩:=eS I1.hok hd
 obtain⟨ep,hat⟩:=dd.dictAt
 obtain⟨vw,_,_⟩:=(show ObjOk X.prog X.w H1 s1.heap a (vwO a d) from I1.hok a _ ha)
 obtain⟨ob,es,hob,rest⟩:=id hat
 refine wpAny_pyIter_items vw hat ?_
 have If:=I1.freeze hd hob
 refine⟨s1.heap.objs.size,[s1.heap.objs.size],_,_,_,rfl,If.kept (t':=s1.toks) λb o e=>Heap.get?_push_of_some _ e,sO _ ⟨rel,λh e=>⟨ob,es,e,rest⟩⟩,⟨_,_,Heap.get?_push_size _ rfl⟩,λb hb=>?_,q ob⟩
 have e:b=s1.heap.objs.size:=by simpa using hb
 subst e
 exact If.fpOk (Q5 _) (If.hok.fresh (Q5 _))
def zO (t:TS):TS:=λD σ H=>∃d kvs,H d=some (.dK kvs)∧t ⟨λσ' H'=>∃ob,H' d=some (.frz ob (.dK kvs))∧D.nx σ' (upd H' d (.dK kvs)),λv H'=>∃ob,H' d=some (.frz ob (.dK kvs))∧D.rt v (upd H' d (.dK kvs)),
 λσ' H'=>∃ob,H' d=some (.frz ob (.dK kvs))∧D.bk σ' (upd H' d (.dK kvs)),λσ' H'=>∃ob,H' d=some (.frz ob (.dK kvs))∧D.ct σ' (upd H' d (.dK kvs))⟩ σ H
theorem me {st:Stmt} {t:TS} (h:PS X st t):PS X st (zO t):=by
 intro pins s σ H D I ⟨d,kvs,hd,q⟩
 have h0:=I.noFrz hd
 refine thn (h pins s σ H _ I q) λf s1 q1=>?_
 cases f with
 |next=>obtain⟨σ7,H7,I7,ob,e,q7⟩:=q1;exact⟨σ7,_,I7.thaw e h0,q7⟩
 |cont=>obtain⟨σ7,H7,I7,ob,e,q7⟩:=q1;exact⟨σ7,_,I7.thaw e h0,q7⟩
 |brk=>obtain⟨σ7,H7,I7,ob,e,q7⟩:=q1;exact⟨σ7,_,I7.thaw e h0,q7⟩
 |ret v=>obtain⟨x7,σ7,H7,I7,r7,ob,e,q7⟩:=q1;exact⟨x7,σ7,_,I7.thaw e h0,r7,q7⟩
end
theorem tN {ob:Obj} {d:Addr} {kvs:List (Key×V)} {g:TG} {tb:TS} {nx:St→Hp→Prop} {rt:VK} {σ:St} {H:Hp} (Pv:Nat→St→Hp→Prop) (h0:Pv 0 σ H) (hl:∀i σ H,i≤kvs.length→Pv i σ H→H d=some (.frz ob (.dK kvs)))
  (hs:∀i k v p σ H,kvs[i]?=some (k,v)→Pv i σ H→H p=none→g (.ref p) σ (upd H p (.tup [kV k,v])) λσ2 H2=>tb ⟨Pv (i+1),rt,nx,Pv (i+1)⟩ σ2 H2) (hd:∀σ H,Pv kvs.length σ H→nx σ H):
  ∃W:Nat→Nat→St→Hp→Prop,(∃m,W 0 m σ H)∧∀i m σ H,W i m σ H→
   ((Itd ob d kvs).stop i H∧nx σ H)∨((Itd ob d kvs).go i H∧∃N:St→Hp→Prop,(∀σ' H',N σ' H'→∃m',m'<m∧W (i+1) m' σ' H')∧∀x H',(Itd ob d kvs).yld i H x H'→g x σ H' λσ2 H2=>tb ⟨N,rt,nx,N⟩ σ2 H2):=by
 refine⟨λi m σ H=>m=kvs.length-i∧i≤kvs.length∧Pv i σ H,⟨kvs.length,by simp,Qk _,h0⟩,?_⟩
 rintro i m σ H ⟨rfl,hi,p⟩
 have q:=hl i σ H hi p
 by_cases lt:i<kvs.length
 ·refine .inr ⟨⟨q,lt⟩,Pv (i+1),λσ' H' z=>⟨kvs.length-(i+1),by omega,rfl,lt,z⟩,λx H' y=>?_⟩
  obtain⟨pp,k,v,rfl,np,e,rfl⟩:=y
  exact hs i k v pp σ H e p np
 ·have e:i=kvs.length:=by omega
  subst e
  exact .inl ⟨⟨q,Q5 _⟩,hd σ H p⟩
end L2
namespace L2
open PySem PySem.Spec PyProof.Rows
section
variable {X:Cx} (K:PySem.W.Frag) (hK:X.K=K)
include hK
theorem ux:IxR X (rIxT K):=by subst hK;exact jv
end
end L2
namespace L2
open PySem PySem.Spec PyProof.Rows
theorem pC {y:Int}:∀{ns:List Int} {m:Nat},m<ns.idxOf y→(h:m<ns.length)→ns[m]≠y
 | [],m,_,h=>by simp at h
 |a::r,m,lt,h=>by
  rw[List.idxOf_cons]at lt
  by_cases c:a=y
  ·rw[c]at lt;simp at lt
  ·have:(a==y)=false:=beq_eq_false_iff_ne.mpr c
   rw[this]at lt
   cases m with
   |zero=>exact c
   |succ j=>exact pC (ns:=r) (m:=j) (by simpa using lt) (by simpa using h)
theorem pO:∀(ns:List Int) (i:Nat),(ns.eraseIdx i).map V.int=(ns.map V.int).eraseIdx i
 | [],_=>rfl
 |_::_,0=>rfl
 |a::r,i+1=>by
  show V.int a::(r.eraseIdx i).map V.int=V.int a::(r.map V.int).eraseIdx i
  rw[pO r i]
section
variable {X:Cx}
def yR:V→List V→Hp→VK→Prop:=λx vs H Q=>∃(l:Addr) (xs:List V) (k:Int) (y:V),x= .ref l∧vs=[.int k,y]∧H l=some (.lst xs)∧0≤k∧k≤(xs.length:Int)∧xs.length<sizeLine∧Q .non (upd H l (.lst (xs.take k.toNat++y::xs.drop k.toNat)))
theorem kQ:MtM X "list.insert" yR:=by
 intro pins s σ H x vs v us Q I rx rv h
 obtain⟨l,xs,k,y,rfl,rfl,hH,h0,hk,hz,q⟩:=h
 cases rx
 obtain⟨u1,u,rfl,⟨t,rfl⟩,ru⟩:=rv.two
 obtain⟨z,its,n,r,hl,e⟩:=I.lstM hH
 have fits:¬(!Builtin.List.listFitsIndex k)=true:=by
  have line:=nR
  rw[fitsIndex_both (by omega) (by omega)]
  exact Q7
 have hsz:its.toArray.size≤sizeLine:=by rw[Qd];omega
 refine call_meets F.slot_list_insert ⟨_,e,rfl⟩ F.entry_list_insert (F.args_list_insert_3 _ _ _) (AutoListH.list_insert_list_int_val_1 l its.toArray n k t u fits hsz) ⟨e,?_⟩
 refine⟨.non,_,I.lset (its':=its.take k.toNat++u::its.drop k.toNat) hH e ?_ ((r.take k.toNat).append (.cons ru (r.drop k.toNat))) ?_,rfl,q⟩
 ·have e0:(if k<0 then(k+((its.toArray.size:Nat):Int)).toNat else min k.toNat its.toArray.size)=k.toNat:=by
   rw[if_neg (by omega),Qd]
   omega
  show(its.toArray.extract 0 _).push u++its.toArray.extract _=_
  rw[e0]
  simp
  exact QQ (by rw[QV];omega)
 ·rw[Qa,Q9,Qj,QV]
  omega
def yQ:V→List V→Hp→VK→Prop:=λx vs H Q=>∃(l:Addr) (ns:List Int) (y:Int),x= .ref l∧vs=[.int y]∧H l=some (.lst (ns.map V.int))∧y∈ns∧Q .non (upd H l (.lst ((ns.erase y).map V.int)))
theorem vz:MtM X "list.remove" yQ:=by
 intro pins s σ H x vs v us Q I rx rv h
 obtain⟨l,ns,y,rfl,rfl,hH,hy,q⟩:=h
 cases rx
 obtain⟨u,rfl,ru⟩:=rv.one
 obtain⟨t,rfl⟩:=ru
 obtain⟨z,its,n,r,hl,e⟩:=I.lstM hH
 have hi:IntsAre its ns:=nV r
 have at_:∀(m:Nat) (hm:m<its.toArray.size),∃t',its.toArray[m]=Value.int (ns.getD m 0) t':=λm hm=>by
  have hm':m<ns.length:=by rw[Qd,←hl,Q2]at hm;exact hm
  obtain⟨w,hw,rw'⟩:=r.get (i:=m) (x:= .int (ns.getD m 0)) (by rw[Qc,Q4 hm',Qu,Q4 hm'];rfl)
  obtain⟨t',rfl⟩:=rw'
  refine⟨t',?_⟩
  have:=(Q3.mp hw).2
  simpa using this
 have hx:ns.idxOf y<ns.length:=List.idxOf_lt_length_of_mem hy
 have ga:∀m,m<ns.length→ns.getD m 0=ns[m]!:=λm hm=>by simp[hm]
 refine call_meets F.slot_list_remove ⟨_,e,rfl⟩ F.entry_list_remove (F.args_list_remove_2 _ _) (MeetsSeq.list_remove l its.toArray n (.int y t) (λv=>match v with| .int i _=>i==y|_=>false) (λv hv=>?_) (ns.idxOf y) (by rw[Qd,←hl,Q2];exact hx) ?_ (λm hm lt=>?_) (by rw[Qd];omega)) ⟨e,?_⟩
 ·obtain⟨m,hm,em⟩:=Array.getElem_of_mem hv
  obtain⟨t',et⟩:=at_ m hm
  rw[←em,et]
  exact MeetsSeq.EqGives.int _ _ _ _
 ·obtain⟨t',et⟩:=at_ (ns.idxOf y) (by rw[Qd,←hl,Q2];exact hx)
  rw[et]
  show(ns.getD (ns.idxOf y) 0==y)=true
  rw[Qu,Q4 hx,Option.getD_some,List.getElem_idxOf hx]
  exact beq_self_eq_true y
 ·obtain⟨t',et⟩:=at_ m hm
  rw[et]
  show(ns.getD m 0==y)=false
  have hm':m<ns.length:=by omega
  rw[Qu,Q4 hm',Option.getD_some]
  exact beq_eq_false_iff_ne.mpr (λw=>pC lt hm' w)
 ·have ee:ns.erase y=ns.eraseIdx (ns.idxOf y):=(List.erase_eq_eraseIdx_of_idxOf rfl)
  have em:(ns.eraseIdx (ns.idxOf y)).map V.int=(ns.map V.int).eraseIdx (ns.idxOf y):=pO _ _
  rw[ee,em]at q
  refine⟨.non,_,I.lset (its':=its.eraseIdx (ns.idxOf y)) hH e ?_ (r.eraseIdx (ns.idxOf y)) ?_,rfl,q⟩
  ·show its.toArray.eraseIdxIfInBounds (ns.idxOf y)=(its.eraseIdx (ns.idxOf y)).toArray
   rw[Xb]
  ·have:=kS (ns.map V.int) (ns.idxOf y)
   omega
end
end L2
namespace L2
open PySem PySem.Spec PyProof.Rows
def Itk (ob:Obj) (d:Addr) (kvs:List (Key×V)):It:=
 ⟨λi H=>H d=some (.frz ob (.dK kvs))∧i<kvs.length,λi H x H'=>H'=H∧∃k v,kvs[i]?=some (k,v)∧x=kV k,λi H=>H d=some (.frz ob (.dK kvs))∧kvs.length≤i⟩
theorem u8 {P:Program} {w:World} {K:PySem.W.Frag} {tg:Expr} {ob:Obj} {d:Addr} {kvs:List (Key×V)} {vs:List (Key×Value)} {ep:Nat} (it:Addr) (D:Bo P w ob d kvs vs ep):
  tS P w K tg (Itk ob d kvs) [it] it (λi h=>h.IsKeyIter it d i vs.length ep) where
 mem:=by simp
 obj:=λi h st b hb=>by
  have z:b=it:=by simpa using hb
  subst z
  obtain⟨o,e,c,dd⟩:=st
  exact⟨o,e,λv z=>by rw[dd]at z;cases z⟩
 keep:=λi h h' st k=>by
  obtain⟨o,e,r⟩:=st
  exact⟨o,k it (by simp) _ e,r⟩
 item:=by
  intro X hP hw hK hc i pins s σ H E I hf st hg
  subst hP hw hK
  obtain⟨hq,hi⟩:=hg
  obtain⟨f0,f1,f2,f3,f4,f5⟩:=hf it (by simp)
  obtain⟨hob,_⟩:=I.hok d _ hq
  have hat:=D.2 s.heap hob
  obtain⟨⟨k,v⟩,hx⟩:∃kv,kvs[i]?=some kv:=⟨kvs[i],by simp[hi]⟩
  obtain⟨u,hu,ru⟩:=KV.getI D.1 hx
  refine wpAny_pyNext_dict_item st hat hu λkey h' hkey st' sb=>?_
  have I1:Inv X pins σ H {s with heap:=h'}:=I.turned (t':=s.toks) (λb o hb e=>(sb.2 b hb).trans e) f0 f1 f3 f4 f5
  obtain⟨o,e,c,dd⟩:=id st'
  exact⟨key,rfl,se (s:={s with heap:=h'}) e c dd (by decide) ⟨kV k,H,I1,mj hkey,⟨rfl,k,v,hx,rfl⟩,st',λb hb=>(hf b hb).1⟩⟩
 done:=by
  intro X hP hw hK hc i pins s σ H E I hf st hg
  subst hP hw hK
  obtain⟨hq,hi⟩:=hg
  obtain⟨hob,_⟩:=I.hok d _ hq
  have hat:=D.2 s.heap hob
  obtain⟨f0,f1,f2,f3,f4,f5⟩:=hf it (by simp)
  have hl:kvs.length=vs.length:=D.1.length
  exact wpAny_pyNext_dict_end (I.ok.hd hc) st hat (by simp;omega) λh' eb=>⟨rfl,I.turned (t':=s.toks) (λb o hb e=>eb b o hb e) f0 f1 f3 f4 f5⟩
 self:=λ_ _ _ _ _ st h=>wpAny_pyIter_keyiter st h
section
variable {X:Cx} {tg:Expr}
def B9 (te:TE):TI:=λσ H R=>te σ H λx H1=>∃d kvs,x= .ref d∧H1 d=some (.dK kvs)∧∀ob,R (Itk ob d kvs) (upd H1 d (.frz ob (.dK kvs)))
theorem uc {l:Expr} {te:TE} (hl:PE X l te):PI X tg l (B9 te):=by
 intro pins s σ H R I h
 refine thn (hl pins s σ H _ I h) λv s1 hzz=>?_
 obtain⟨x,H1,I1,r1,q1⟩:=hzz
 obtain⟨d,kvs,e,hd,q⟩:=q1
 subst e
 cases r1
 obtain⟨z,lo,vs,rel,dd⟩:=eS I1.hok hd
 obtain⟨ep,hat⟩:=dd.dictAt
 obtain⟨ob,es,hob,rest⟩:=id hat
 refine wpAny_pyIter_dict lo hat ?_
 have If:=I1.freeze hd hob
 refine⟨s1.heap.objs.size,[s1.heap.objs.size],_,_,_,rfl,If.kept (t':=s1.toks) λb o e=>Heap.get?_push_of_some _ e,u8 _ ⟨rel,λh e=>⟨ob,es,e,rest⟩⟩,⟨_,Heap.get?_push_size _ rfl,rfl,rfl⟩,λb hb=>?_,q ob⟩
 have e:b=s1.heap.objs.size:=by simpa using hb
 subst e
 exact If.fpOk (Q5 _) (If.hok.fresh (Q5 _))
theorem tQ:gf X (.type "dict") (λxs H Q=>∃d kvs,xs=[.ref d]∧H d=some (.dK kvs)∧∀p,H p=none→Q (.ref p) (upd H p (.dK kvs))):=by
 intro pins s σ H xs us Q I r h
 obtain⟨d,kvs,rfl,hd,q⟩:=h
 obtain⟨u,rfl,ru⟩:=mn r
 cases ru
 obtain⟨z,lo,vs,rel,dd⟩:=eS I.hok hd
 refine kt_call_dict lo dd (by rw[←rel.length];exact z) λh' hm hs=>?_
 obtain⟨_,nm,_⟩:=sj (P:=X.prog) (w:=X.w) (H:=H) s.heap I.big
 refine⟨.ref s.heap.objs.size,_,I.laid (a:=s.heap.objs.size) (o:= .dK kvs) (t':=s.toks) (λb o e=>(hs.2 b (Qq (Heap.lt_size e))).trans (Heap.get?_push_of_some _ e)) (Q5 _) ⟨z,nm,vs,rel,hm⟩,rfl,q _ (I.hok.fresh (Q5 _))⟩
end
theorem pL {ob:Obj} {d:Addr} {kvs:List (Key×V)} {g:TG} {tb:TS} {nx:St→Hp→Prop} {rt:VK} {σ:St} {H:Hp} (Pv:Nat→St→Hp→Prop) (h0:Pv 0 σ H) (hl:∀i σ H,i≤kvs.length→Pv i σ H→H d=some (.frz ob (.dK kvs)))
  (hs:∀i k v σ H,kvs[i]?=some (k,v)→Pv i σ H→g (kV k) σ H λσ2 H2=>tb ⟨Pv (i+1),rt,nx,Pv (i+1)⟩ σ2 H2) (hd:∀σ H,Pv kvs.length σ H→nx σ H):
  ∃W:Nat→Nat→St→Hp→Prop,(∃m,W 0 m σ H)∧∀i m σ H,W i m σ H→
   ((Itk ob d kvs).stop i H∧nx σ H)∨((Itk ob d kvs).go i H∧∃N:St→Hp→Prop,(∀σ' H',N σ' H'→∃m',m'<m∧W (i+1) m' σ' H')∧∀x H',(Itk ob d kvs).yld i H x H'→g x σ H' λσ2 H2=>tb ⟨N,rt,nx,N⟩ σ2 H2):=by
 refine⟨λi m σ H=>m=kvs.length-i∧i≤kvs.length∧Pv i σ H,⟨kvs.length,by simp,Qk _,h0⟩,?_⟩
 rintro i m σ H ⟨rfl,hi,p⟩
 have q:=hl i σ H hi p
 by_cases lt:i<kvs.length
 ·refine .inr ⟨⟨q,lt⟩,Pv (i+1),λσ' H' z=>⟨kvs.length-(i+1),by omega,rfl,lt,z⟩,λx H' y=>?_⟩
  obtain⟨rfl,k,v,e,rfl⟩:=y
  exact hs i k v σ _ e p
 ·have e:i=kvs.length:=by omega
  subst e
  exact .inl ⟨⟨q,Q5 _⟩,hd σ H p⟩
end L2
namespace L2
open PySem PySem.Spec PyProof.Rows
section
variable {X:Cx}
theorem o9:∀as:List Addr,Vals (as.map V.ref) (as.map Value.ref)
 | []=> .nil
 |_::as=> .cons rfl (o9 as)
theorem qZ:∀{as:List Addr} {kvs:List (Key×V)} {j:Nat} {a:Addr} {kv:Key×V},as.Pairwise (· < ·)→as[j]?=some a→kvs[j]?=some kv→(as.zip kvs).find? (λp=>decide (p.1=a))=some (a,kv)
 | [],_,_,_,_,_,h,_=>by simp at h
 |_::_,[],_,_,_,_,_,h=>by simp at h
 |b::as,kv'::kvs,0,a,kv,_,h1,h2=>by
  simp at h1 h2
  subst h1 h2
  rw[List.zip_cons_cons,List.find?_cons_of_pos (by simp)]
 |b::as,kv'::kvs,j+1,a,kv,up,h1,h2=>by
  rw[QY]at h1 h2
  rw[Z1]at up
  have lt:b<a:=up.1 a (Q0 h1)
  rw[List.zip_cons_cons,List.find?_cons_of_neg (by simp;exact Qq lt)]
  exact qZ up.2 h1 h2
theorem mm {as:List Addr} {kvs:List (Key×V)} {a:Addr} (h:a∉as):(as.zip kvs).find? (λp=>decide (p.1=a))=none:=by
 refine List.find?_eq_none.mpr λp hp=>?_
 have:=(ZQ (a:=p.1) (b:=p.2) hp).1
 simp
 intro e
 exact h (e▸this)
theorem Un.many {fs ex:List Addr} {H H':Hp} {h h':Heap} (k:∀b u,h.get? b=some u→h'.get? b=some u) (hs:Same H H') (hn:∀b,b<h.objs.size→H' b=H b):Un fs ex H H' h h' where
 keep:=λb u q _ _ _=>k b u q
 slot:=λb u q _ _ _=>⟨u.slots,k b u q⟩
 free:=λb u q n _=>by rw[hn b (Heap.lt_size q)];exact n
 there:=λb u q _=>⟨u,k b u q⟩
 tups:=λb xs q=>hs _ _ q
 frzs:=λb u xs q=>hs _ _ q
 tbls:=λb ps q=>⟨#[],by rw[hs _ _ q];simp⟩
end
end L2
namespace Srt
open PySem PySem.Calls PySem.Spec PyProof.Rows
section
variable {prog:Program} {w:World} {A:Around} {E:Value→Shared→Prop} {s:Shared} {κ:SortKind} {blt:Heap→Keyed→Keyed→Bool}
theorem sorted_src2 {r:Value} {G:Heap→List Value→Prop} {Q:Value→Shared→Prop}
  (hc:∀(R:List Value→Shared→Prop) (E':Value→Shared→Prop),(∀(h1:Heap) (tk:Nat) (vs:List Value),(∀b o,s.heap.get? b=some o→h1.get? b=some o)→G h1 vs→R vs {s with heap:=h1,toks:=tk})→wpAny (model prog w) A.in1 (collect r) R E' s)
  (hz:∀h vs,G h vs→vs.length<64) (C:∀h,Cmp (blt h))
  (hkk:∀(vs:List Value) (h1 h':Heap) (tk:Nat),G h1 vs→(∀b o,h1.get? b=some o→h'.get? b=some o)→2≤vs.length→∀Q':SortKind→Shared→Prop,Q' κ {s with heap:=h',toks:=tk}→wpAny (model prog w) A.in1.in1 (keyKind' vs.toArray) Q' (λ_ _=>False) {s with heap:=h',toks:=tk})
  (L:∀(vs:List Value) (h1 h':Heap) (tk:Nat),G h1 vs→(∀b o,h1.get? b=some o→h'.get? b=some o)→wa prog w A.in1.in1 (λ_ _=>False) {s with heap:=h',toks:=tk} (pairsOf vs) κ (blt h1))
  (h:∀(vs:List Value) (h1 h2:Heap) (tk e:Nat) (out:Array Keyed),G h1 vs→(∀b o,s.heap.get? b=some o→h1.get? b=some o)→(∀b o,h1.get? b=some o→h2.get? b=some o)→h2.get? h1.objs.size=some (seqObj "list" (out.map (·.2)) e)→out.Perm (pairsOf vs)→PW (blt h1) out.toList→Q (.ref h1.objs.size) {s with heap:=h2,toks:=tk}):
  wpAny (model prog w) A (call (.builtin "sorted") [r]) Q E s:=by
 refine Calls.call_function_entry kind_sorted plain_sorted entry_sorted (args_sorted1 _) ?_
 unfold Builtin.«sorted»
 refine wpAny_bind (m:=checkCount "sorted" 1 1 _) (wpAny_pure (wpAny_bind (hc _ _ λh1 tk vs k1 g=>?_)))
 refine wpAny_bind (wpAny_newList ?_ (hsz:=Qv (QO (hz h1 vs g)) (by decide)))
 have new:(h1.push (seqObj "list" vs.toArray 0)).get? h1.objs.size=some (seqObj "list" vs.toArray 0):=Heap.get?_push_size _ rfl
 have keep:∀h':Heap,But h1.objs.size {s with heap:=h1.push (seqObj "list" vs.toArray 0),toks:=tk} {s with heap:=h',toks:=tk}→∀b o,h1.get? b=some o→h'.get? b=some o:=λh' k b o e=>
  k b o (Qq (Heap.lt_size e)) (Heap.get?_push_of_some _ e)
 show wpAny _ _ _ _ _ {s with heap:=h1.push (seqObj "list" vs.toArray 0),toks:=tk}
 refine wpAny_bind (wpAny_holding (wpAny_mono (wpAny_call_entry (E:=λ_ _=>False) slot_list_sort ⟨_,new,rfl⟩ entry_list_sort (pj (s:={s with heap:=h1.push (seqObj "list" vs.toArray 0),toks:=tk}) (κ:=κ) (blt:=blt h1) new (hz h1 vs g) (C h1) (λh' k=>hkk vs h1 h' tk g (keep h' k)) (λh' k=>L vs h1 h' tk g (keep h' k)) λout p q=>⟨_,rfl,?_⟩) (args_list_sort _)) (λ_ _ q=>q) λ_ _ f=>f.elim))
 refine wpAny_pure ⟨_,rfl,?_⟩
 obtain⟨e,at_⟩:=sortedHeap_at (out:=out.map (·.2)) new
 refine h vs h1 _ tk e out g k1 (λb o q=>?_) at_ p q
 have lt:=Heap.lt_size q
 rw[sortedHeap_old (Qq lt) (by rw[size_push'];exact Nat.lt_succ_of_lt lt)]
 exact Heap.get?_push_of_some _ q
end
end Srt
namespace L2
open PySem PySem.Spec PyProof.Rows Srt
section
variable {X:Cx}
def layT (H:Hp) (as:List Addr) (kvs:List (Key×V)):Hp:=λb=>match (as.zip kvs).find? (λp=>decide (p.1=b))with
 |some p=>some (.tup [kV p.2.1,p.2.2])
 |none=>H b
def ivs (ns:List (Int×Int)):List (Key×V):=ns.map λp=>(Sum.inl p.1,V.int p.2)
def kyP (h:Heap):Value→List Int
 | .ref b=>match h.get? b with
  |some o=>match o.data with
   | .seq xs _=>match xs.toList with
    | [.int i _,.int j _]=> [i,j]
    |_=> []
   |_=> []
  |none=> []
 |_=> []
theorem qF {h:Heap} {b:Addr} {i j:Int} {t t':Tok} (e:h.get? b=some {cls:= .type "tuple",data:= .seq #[Value.int i t,Value.int j t']}):kyP h (.ref b)=[i,j]:=by
 simp only[kyP,e]
theorem oV (hh:X.A.handled=none):gf X (.builtin "sorted") (λxs H Q=>∃(a d:Addr) (ns:List (Int×Int)),xs=[.ref a]∧H a=some (vwO a d)∧H d=some (.dK (ivs ns))∧ns.length<64∧
  ∀(H':Hp) (l:Addr) (es:List (Addr×Int×Int)),Same H H'→H l=none→H' l=some (.lst (es.map λe=>V.ref e.1))→(∀e∈es,H e.1=none∧H' e.1=some (.tup [.int e.2.1,.int e.2.2]))→(es.map (·.2)).Perm ns→(es.map (·.2)).Pairwise (λp q=>HT.lexLt [q.1,q.2] [p.1,p.2]=false)→Q (.ref l) H'):=by
 intro pins s σ H xs us Q I r h
 obtain⟨a,d,ns,rfl,ha,hd,h64,q⟩:=h
 obtain⟨u,rfl,ru⟩:=mn r
 cases ru
 obtain⟨z,lo,vs,rel,dd⟩:=eS I.hok hd
 obtain⟨ep,hat⟩:=dd.dictAt
 obtain⟨vw,_,_⟩:=(show ObjOk X.prog X.w H s.heap a (vwO a d) from I.hok a _ ha)
 have hlen:(ivs ns).length=vs.length:=rel.length
 have hln:(ivs ns).length=ns.length:=Q2 _
 have pr:∀{h1 h':Heap} {as:List Addr},PySem.W.KdxG (aR X.prog X.w) vs s.heap.objs.size h1 as→as.length=vs.length→(∀b o,h1.get? b=some o→h'.get? b=some o)→∀(j:Nat) (b:Addr),as[j]?=some b→∃(p:Int×Int) (t t':Tok),ns[j]?=some p∧h'.get? b=some {cls:= .type "tuple",data:= .seq #[Value.int p.1 t,Value.int p.2 t']}:=λ{h1 h' as} g gl k j b hb=>by
  obtain⟨key,k0,x,e1,e2,e3⟩:=g.pairs j b hb
  have jl:j<ns.length:=by
   have:=(Q3.mp hb).1
   omega
  have e4:(ivs ns)[j]?=some (Sum.inl ns[j].1,V.int ns[j].2):=by
   unfold ivs
   rw[Qc,Q4 jl]
   rfl
  obtain⟨u,e5,ru⟩:=KV.getI rel e4
  rw[e1]at e5
  cases e5
  obtain⟨t',rfl⟩:=ru
  obtain⟨t,rfl⟩:=(show RelV (.int ns[j].1) key from mj e2)
  exact⟨ns[j],t,t',Q4 jl,k _ _ e3⟩
 refine Srt.sorted_src2 (G:=λh its=>∃as:List Addr,its=as.map Value.ref∧as.length=vs.length∧PySem.W.KdxG (aR X.prog X.w) vs s.heap.objs.size h as) (κ:=tuples' (Value.type "int" !=Value.type "tuple")) (blt:=λh a b=>HT.lexLt (kyP h a.1) (kyP h b.1)) (λR E' k=>?_) (λh its g=>?_) (λh=>Srt.cmp_of λa=>kyP h a.1)
  (λits h1 h' tk g k h2 Q' hQ=>?_) (λits h1 h' tk g k=>Srt.runs_of λx y E' Q' hx hy hQ=>?_) (λits h1 h2 tk e out g k1 k2 at_ pm pw=>?_)
 ·exact PySem.W.kdx_collect (knd:=aR X.prog X.w) hh vw hat (by omega) λh' tk as hk hl G=>k h' tk _ hk ⟨as,rfl,hl,G⟩
 ·obtain⟨as,rfl,hl,_⟩:=g
  rw[Q2]
  omega
 ·obtain⟨as,rfl,hl,G⟩:=g
  have pr:=pr G hl k
  have tups:∀(bs:List Addr),(∀b∈bs,∃(p:Int×Int) (t t':Tok),h'.get? b=some {cls:= .type "tuple",data:= .seq #[Value.int p.1 t,Value.int p.2 t']})→∃fs:List Value,PySem.W.KatTups h' (bs.map Value.ref) fs∧(∀f∈fs,∃i t,f=Value.int i t)∧fs.length=bs.length:=by
   intro bs
   induction bs with
   |nil=>intro _;exact⟨[],.nil,λ_ h=>absurd h Xd,rfl⟩
   |cons b bs ih=>
    intro hb
    obtain⟨fs,t,hi,hl⟩:=ih λc hc=>hb c (Q6 _ hc)
    obtain⟨p,t1,t2,e⟩:=hb b Q8
    refine⟨Value.int p.1 t1::fs,.cons e rfl rfl rfl t,λf hf=>?_,by rw[Q9,Q9,hl]⟩
    rcases Qe.mp hf with z|z
    ·exact⟨p.1,t1,z⟩
    ·exact hi f z
  obtain⟨fs,t,hi,hl2⟩:=tups as λb hb=>by
   obtain⟨j,hj⟩:=QD.mp hb
   obtain⟨p,t,t',_,e⟩:=pr j b hj
   exact⟨p,t,t',e⟩
  refine PySem.W.kat_kind (T:= .type "int") t (by rw[Q2]at h2;omega) (λv hv=>?_) (by decide+kernel) hQ
  obtain⟨i,t,rfl⟩:=hi v hv
  exact PySem.W.Looks.of_pure rfl
 ·obtain⟨as,rfl,hl,G⟩:=g
  have mem:∀{z:Keyed},z∈pairsOf (as.map Value.ref)→∃b∈as,z.1=Value.ref b:=λ{z} hz=>by
   have:z∈(pairsOf (as.map Value.ref)).toList:=by simpa using hz
   rw[pairsOf_toList]at this
   obtain⟨b,hb,e⟩:=Qf.mp (mem_zip_self this).2
   exact⟨b,hb,e.symm⟩
  obtain⟨b,hb,eb⟩:=mem hx
  obtain⟨c,hc,ec⟩:=mem hy
  obtain⟨j,hj⟩:=QD.mp hb
  obtain⟨j',hj'⟩:=QD.mp hc
  obtain⟨p,t1,t2,_,e1⟩:=pr G hl (λ_ _ h=>h) j b hj
  obtain⟨p',t3,t4,_,e2⟩:=pr G hl (λ_ _ h=>h) j' c hj'
  have hQ:Q' (HT.lexLt (kyP h1 x.1) (kyP h1 y.1)) {s with heap:=h',toks:=tk}:=hQ
  rw[eb,ec,qF e1,qF e2,HT.lexLt_cons,HT.lexLt_cons,HT.lexLt_nil_nil]at hQ
  rw[eb,ec]
  refine PySem.W.kat_lt (k _ _ e1) rfl (k _ _ e2) rfl (PySem.W.kat_cons (SeqAt.EqAt.int_int _ _ _ _ _ _ _ _ (PySem.W.kat_go (λe=>PySem.W.kat_yes ?_) (λe=>PySem.W.kat_no ?_))))
  ·rw[if_pos (beq_iff_eq.mp e)]at hQ
   refine PySem.W.kat_cons (SeqAt.EqAt.int_int _ _ _ _ _ _ _ _ (PySem.W.kat_go (λe=>PySem.W.kat_yes ?_) (λe=>PySem.W.kat_no ?_)))
   ·rw[if_pos (beq_iff_eq.mp e)]at hQ
    exact PySem.W.kat_nil (by simpa using hQ)
   ·rw[if_neg (beq_eq_false_iff_ne.mp e)]at hQ
    exact PySem.W.kat_one _ _ (lt_int hQ)
  ·rw[if_neg (beq_eq_false_iff_ne.mp e)]at hQ
   exact oneLt_int hQ
 ·obtain⟨as,rfl,hl,G⟩:=g
  have na:∀b∈as,H b=none:=λb hb=>I.hok.fresh (QO (G.above b hb))
  have sm:Same H (layT H as (ivs ns)):=λb o e=>by
   unfold layT
   rw[mm λz=>aj e (na b z) rfl]
   exact e
  have lo':∀b,b<s.heap.objs.size→layT H as (ivs ns) b=H b:=λb hb=>by
   unfold layT
   rw[mm λz=>absurd (G.above b z) (X3.mpr (QO hb))]
  have at2:∀(j:Nat) (b:Addr) (p:Int×Int),as[j]?=some b→ns[j]?=some p→layT H as (ivs ns) b=some (.tup [.int p.1,.int p.2]):=λj b p h1 h2=>by
   unfold layT
   have e:(ivs ns)[j]?=some (Sum.inl p.1,V.int p.2):=by
    unfold ivs
    rw[Qc,h2]
    rfl
   rw[qZ G.rise h1 e]
   rfl
  have hok:HOk X.prog X.w (layT H as (ivs ns)) h1:=λb o e=>by
   by_cases c2:b∈as
   ·obtain⟨j,hj⟩:=QD.mp c2
    obtain⟨p,t,t',e1,e2⟩:=pr G hl (λ_ _ h=>h) j b hj
    rw[at2 j b p hj e1]at e
    cases e
    exact⟨by show 2≤sizeLine;decide,[Value.int p.1 t,Value.int p.2 t'],.cons ⟨t,rfl⟩ (.cons ⟨t',rfl⟩ .nil),_,e2,rfl,_,rfl⟩
   ·have:layT H as (ivs ns) b=H b:=by
     unfold layT
     rw[mm c2]
    rw[this]at e
    exact(I.hok b o e).stay (λc v _ q=>k1 c v q) (λc q=>sm _ _ q) λc xs q=>sm _ _ q
  have I1:Inv X pins σ (layT H as (ivs ns)) {s with heap:=h1,toks:=tk}:=I.un (t':=tk) (Un.many k1 sm lo') hok
  have pml:out.toList.Perm ((as.map Value.ref).zip (as.map Value.ref)):=by
   have:=Xn.mp pm
   rwa [pairsOf_toList]at this
  have eqs:∀z∈out.toList,z.1=z.2:=λz hz=>(mem_zip_self (pml.mem_iff.mp hz)).1
  have e2:(out.map (·.2)).toList=out.toList.map (·.2):=Array.toList_map
  have pv:((out.map (·.2)).toList).Perm (as.map Value.ref):=by
   rw[e2]
   exact(pml.map _).trans (List.Perm.of_eq (List.map_snd_zip (Q5 _)))
  obtain⟨bs,eb,pb⟩:∃bs:List Addr,(out.map (·.2)).toList=bs.map Value.ref∧bs.Perm as:=by
   refine⟨(out.map (·.2)).toList.map λv=>match v with| .ref b=>b|_=>0,?_,?_⟩
   ·rw[Qy]
    refine(List.map_id _).symm.trans (Ze λv hv=>?_)
    obtain⟨b,_,rfl⟩:=Qf.mp (pv.mem_iff.mp hv)
    rfl
   ·have:=pv.map λv:Value=>match v with| .ref b=>b|_=>0
    rw[Qy]at this
    exact this.trans (List.Perm.of_eq (List.map_id _))
  let gp:Addr→Int×Int:=λb=>((kyP h1 (.ref b)).getD 0 0,(kyP h1 (.ref b)).getD 1 0)
  have ga:∀(j:Nat) (b:Addr),as[j]?=some b→ns[j]?=some (gp b):=λj b hb=>by
   obtain⟨p,t,t',e1,e3⟩:=pr G hl (λ_ _ h=>h) j b hb
   show ns[j]?=some ((kyP h1 (.ref b)).getD 0 0,(kyP h1 (.ref b)).getD 1 0)
   rw[qF e3]
   exact e1
  have gk:∀b∈as,kyP h1 (.ref b)=[(gp b).1,(gp b).2]:=λb hb=>by
   obtain⟨j,hj⟩:=QD.mp hb
   obtain⟨p,t,t',e1,e3⟩:=pr G hl (λ_ _ h=>h) j b hj
   have:=ga j b hj
   rw[e1]at this
   rw[qF e3,←Option.some.inj this]
  have gn:as.map gp=ns:=by
   refine List.ext_getElem? λj=>?_
   rw[Qc]
   cases c:as[j]? with
   |none=>
    have:=QT.mp c
    rw[List.getElem?_eq_none (by omega)]
    rfl
   |some b=>exact(ga j b c).symm
  have lz:(bs.map V.ref).length≤sizeLine:=by
   rw[Q2,pb.length_eq]
   omega
  have fl:=I1.hok.fresh (Q5 h1.objs.size)
  have nl:H h1.objs.size=none:=by
   cases c:H h1.objs.size with
   |none=>rfl
   |some o=>rw[sm _ _ c]at fl;cases fl
  refine⟨.ref h1.objs.size,upd (layT H as (ivs ns)) h1.objs.size (.lst (bs.map V.ref)),I1.laid (t':=tk) k2 (Q5 _) ⟨lz,bs.map Value.ref,e,o9 bs,?_⟩,rfl,q _ _ (bs.map λb=>(b,gp b)) (sm.trans (λb o eb=>by rw[ac (aj eb fl)];exact eb)) nl ?_ (λx hx=>?_) ?_ ?_⟩
  ·rw[at_,←eb,ZV]
  ·rw[af,Qy]
   rfl
  ·obtain⟨b,hb,rfl⟩:=Qf.mp hx
   have hb:=pb.mem_iff.mp hb
   obtain⟨j,hj⟩:=QD.mp hb
   refine⟨na b hb,?_⟩
   have e5:=at2 j b (gp b) hj (ga j b hj)
   rw[ac (aj e5 fl)]
   exact e5
  ·rw[Qy]
   exact(pb.map gp).trans (List.Perm.of_eq gn)
  ·rw[Qy]
   refine Za.mpr ?_
   have pw2:(bs.map Value.ref).Pairwise (λa b=>HT.lexLt (kyP h1 b) (kyP h1 a)=false):=by
    rw[←eb,e2]
    refine Za.mpr (pw.imp_of_mem λ{a b} ha hb h=>?_)
    show HT.lexLt (kyP h1 b.2) (kyP h1 a.2)=false
    rw[←eqs a ha,←eqs b hb]
    exact h
   refine(Za.mp pw2).imp_of_mem λ{a b} ha hb h=>?_
   rw[gk a (pb.mem_iff.mp ha),gk b (pb.mem_iff.mp hb)]at h
   exact h
end
end L2
namespace L2
open PySem PySem.Spec PyProof.Rows
section
variable {X:Cx}
def yP:V→List V→Hp→VK→Prop:=λx vs H Q=>∃a kvs k y,x= .ref a∧vs=[kV k,y]∧H a=some (.dK kvs)∧kvs.length<sizeLine∧(∀v,aF kvs k=some v→Q v H)∧(aF kvs k=none→Q y (upd H a (.dK (aU kvs k y))))
theorem vx:MtR X "dict.setdefault" yP:=by
 intro pins s σ H x vs v us Q I rx rv h
 obtain⟨a,kvs,k,y,rfl,rfl,hH,hl,q1,q2⟩:=h
 cases rx
 obtain⟨u,r,rfl,ru,rr⟩:=lB rv
 obtain⟨z,hd,ws,rel,dd⟩:=eS I.hok hH
 have rk:=rel.val k
 refine call_meetsIn Xi dd.typeIs PySem.F.entry_dict_setdefault (PySem.F.args_dict_setdefault_3 _ _ _) (kt_meets_setdefault (aR X.prog X.w) a (lG ru) hd r) ⟨ws,dd,by rw[←rel.length];exact z,λv hv=>?_,λhn h' dd' hs=>?_⟩
 ·rw[hv]at rk
  cases e:aF kvs k with
  |none=>rw[e]at rk;exact rk.elim
  |some x=>
   rw[e]at rk
   exact⟨x,H,I.tok _,rk,q1 x e⟩
 ·rw[hn]at rk
  cases e:aF kvs k with
  |some x=>rw[e]at rk;exact rk.elim
  |none=>
   have he:∃q,h'.get? a=some q:=let⟨q,_,_,hq,_⟩:=dd';⟨q,hq⟩
   have lp:=bv kvs k y
   exact⟨y,_,kb I (by rw[hH];exact True.intro) hs he (qO (by omega) hd (rel.put k rr) dd'),rr,q2 e⟩
end
end L2
namespace L2
open PySem PySem.Spec PyProof.Rows
section
variable {X:Cx}
def vB (kvs more:List (Key×V)):List (Key×V):=more.foldl (λacc p=>aU acc p.1 p.2) kvs
theorem KV.mrg {more:List (Key×V)} {mws:List (Key×Value)} (h:KV more mws):∀{kvs:List (Key×V)} {ws:List (Key×Value)},KV kvs ws→KV (vB kvs more) (merged ws mws):=by
 induction h with
 |nil=>intro kvs ws r;exact r
 |cons r t ih=>
  rename_i p q ps qs
  intro kvs ws rw
  have e:p.1=q.1:=r.1
  have:=ih (rw.put p.1 r.2)
  rw[e]at this
  show KV (vB (aU kvs p.1 p.2) ps) _
  rw[e]
  exact this
theorem nJ:∀{more kvs:List (Key×V)},(vB kvs more).length≤kvs.length+more.length
 | [],_=>Q5 _
 |p::r,kvs=>by
  have h1:=nJ (more:=r) (kvs:=aU kvs p.1 p.2)
  have h2:=bv kvs p.1 p.2
  show(vB (aU kvs p.1 p.2) r).length≤_
  rw[Q9]
  omega
def rUpd:V→List V→Hp→VK→Prop:=λx vs H Q=>∃d o kvs more,x= .ref d∧vs=[.ref o]∧d≠o∧H d=some (.dK kvs)∧H o=some (.dK more)∧kvs.length+more.length≤sizeLine∧Q .non (upd H d (.dK (vB kvs more)))
theorem vv:MtR X "dict.update" rUpd:=by
 intro pins s σ H x vs v us Q I rx rv h
 obtain⟨d,o,kvs,more,rfl,rfl,ne,hd,ho,hl,q⟩:=h
 cases rx
 obtain⟨u,rfl,ru⟩:=mn rv
 cases ru
 obtain⟨z,lo,ws,rel,dd⟩:=eS I.hok hd
 obtain⟨z2,lo2,ws2,rel2,dd2⟩:=eS I.hok ho
 refine call_meetsIn PySem.F.slot_dict_update dd.typeIs PySem.F.entry_dict_update (PySem.F.args_dict_update_2 _ _) (meets_dict_update (aR X.prog X.w) d o ne lo2) ⟨ws,ws2,dd,dd2,by rw[←rel.length,←rel2.length];exact hl,λh' dd' _ hs=>?_⟩
 have he:∃q,h'.get? d=some q:=let⟨q,_,_,hq,_⟩:=dd';⟨q,hq⟩
 exact⟨.non,_,kb I (by rw[hd];exact True.intro) hs he (qO (Qv nJ hl) lo (rel2.mrg rel) dd'),rfl,q⟩
end
end L2
namespace L2
open PySem PySem.Spec PyProof.Rows
def vwV (a d:Addr):HO:= .ext λh=>h.IsValuesView a d
def Itw (ob:Obj) (d:Addr) (kvs:List (Key×V)):It:=
 ⟨λi H=>H d=some (.frz ob (.dK kvs))∧i<kvs.length,λi H x H'=>H'=H∧∃k,kvs[i]?=some (k,x),λi H=>H d=some (.frz ob (.dK kvs))∧kvs.length≤i⟩
theorem uZ {P:Program} {w:World} {K:PySem.W.Frag} {tg:Expr} {ob:Obj} {d:Addr} {kvs:List (Key×V)} {vs:List (Key×Value)} {ep:Nat} (it:Addr) (D:Bo P w ob d kvs vs ep):
  tS P w K tg (Itw ob d kvs) [it] it (λi h=>h.IsValIter it d i vs.length ep) where
 mem:=by simp
 obj:=λi h st b hb=>by
  have z:b=it:=by simpa using hb
  subst z
  obtain⟨o,e,c,dd⟩:=st
  exact⟨o,e,λv z=>by rw[dd]at z;cases z⟩
 keep:=λi h h' st k=>by
  obtain⟨o,e,r⟩:=st
  exact⟨o,k it (by simp) _ e,r⟩
 item:=by
  intro X hP hw hK hc i pins s σ H E I hf st hg
  subst hP hw hK
  obtain⟨hq,hi⟩:=hg
  obtain⟨f0,f1,f2,f3,f4,f5⟩:=hf it (by simp)
  obtain⟨hob,_⟩:=I.hok d _ hq
  have hat:=D.2 s.heap hob
  obtain⟨⟨k,v⟩,hx⟩:∃kv,kvs[i]?=some kv:=⟨kvs[i],by simp[hi]⟩
  obtain⟨u,hu,ru⟩:=KV.getI D.1 hx
  refine wpAny_pyNext_values_item st hat hu λh' st' sb=>?_
  have I1:Inv X pins σ H {s with heap:=h'}:=I.turned (t':=s.toks) (λb o hb e=>(sb.2 b hb).trans e) f0 f1 f3 f4 f5
  obtain⟨o,e,c,dd⟩:=id st'
  exact⟨u,rfl,se (s:={s with heap:=h'}) e c dd (by decide) ⟨v,H,I1,ru,⟨rfl,k,hx⟩,st',λb hb=>(hf b hb).1⟩⟩
 done:=by
  intro X hP hw hK hc i pins s σ H E I hf st hg
  subst hP hw hK
  obtain⟨hq,hi⟩:=hg
  obtain⟨hob,_⟩:=I.hok d _ hq
  have hat:=D.2 s.heap hob
  obtain⟨f0,f1,f2,f3,f4,f5⟩:=hf it (by simp)
  have hl:kvs.length=vs.length:=D.1.length
  exact wpAny_pyNext_values_end (I.ok.hd hc) st hat (by simp;omega) λh' eb=>⟨rfl,I.turned (t':=s.toks) (λb o hb e=>eb b o hb e) f0 f1 f3 f4 f5⟩
 self:=λ_ _ _ _ _ st h=>wpAny_pyIter_valiter st h
section
variable {X:Cx} {tg:Expr}
def BG:V→List V→Hp→VK→Prop:=λx vs H Q=>∃d kvs,x= .ref d∧vs=[]∧H d=some (.dK kvs)∧∀a,H a=none→Q (.ref a) (upd H a (vwV a d))
theorem vq:MtR X "dict.values" BG:=by
 intro pins s σ H x vs v us Q I rx rv h
 obtain⟨d,kvs,rfl,rfl,hd,q⟩:=h
 cases rx
 cases rv
 obtain⟨z,lo,ws,rel,dd⟩:=eS I.hok hd
 refine call_meetsIn PySem.F.slot_dict_values dd.typeIs PySem.F.entry_dict_values (PySem.F.args_dict_values_1 _) (meets_dict_values (aR X.prog X.w) d lo) ⟨⟨ws,dd⟩,?_⟩
 have new:(s.heap.push {cls:= .type "dict_values",data:= .fields #[.ref d]}).get? s.heap.objs.size=some {cls:= .type "dict_values",data:= .fields #[.ref d]}:=Heap.get?_push_size _ rfl
 refine⟨.ref s.heap.objs.size,_,I.laid (t':=s.toks) (λb o e=>Heap.get?_push_of_some _ e) (Q5 _) (show ObjOk X.prog X.w _ _ _ (vwV s.heap.objs.size d) from⟨⟨_,new,rfl,rfl⟩,⟨_,new⟩,λh1 h2 p k=>?_⟩),rfl,q _ (I.hok.fresh (Q5 _))⟩
 obtain⟨o,e,c⟩:=p
 exact⟨o,k o e,c⟩
def B6 (te:TE):TI:=λσ H R=>te σ H λx H1=>∃a d kvs,x= .ref a∧H1 a=some (vwV a d)∧H1 d=some (.dK kvs)∧∀ob,R (Itw ob d kvs) (upd H1 d (.frz ob (.dK kvs)))
theorem yY {l:Expr} {te:TE} (hl:PE X l te):PI X tg l (B6 te):=by
 intro pins s σ H R I h
 refine thn (hl pins s σ H _ I h) λv s1 hzz=>?_
 obtain⟨x,H1,I1,r1,q1⟩:=hzz
 obtain⟨a,d,kvs,e,ha,hd,q⟩:=q1
 subst e
 cases r1
 obtain⟨z,lo,vs,rel,dd⟩:=eS I1.hok hd
 obtain⟨ep,hat⟩:=dd.dictAt
 obtain⟨vw,_,_⟩:=(show ObjOk X.prog X.w H1 s1.heap a (vwV a d) from I1.hok a _ ha)
 obtain⟨ob,es,hob,rest⟩:=id hat
 refine wpAny_pyIter_values vw hat ?_
 have If:=I1.freeze hd hob
 refine⟨s1.heap.objs.size,[s1.heap.objs.size],_,_,_,rfl,If.kept (t':=s1.toks) λb o e=>Heap.get?_push_of_some _ e,uZ _ ⟨rel,λh e=>⟨ob,es,e,rest⟩⟩,⟨_,Heap.get?_push_size _ rfl,rfl,rfl⟩,λb hb=>?_,q ob⟩
 have e:b=s1.heap.objs.size:=by simpa using hb
 subst e
 exact If.fpOk (Q5 _) (If.hok.fresh (Q5 _))
theorem zg (hu:X.A.units+1<cLine):MtR X "dict.get" (λx vs H Q=>∃a y o z,x= .ref a∧vs=[y,z]∧DGet H a y o∧Q (o.getD z) H):=by
 intro pins s σ H x vs v us Q I rx rv h
 obtain⟨a,y,o,z,rfl,rfl,g,q⟩:=h
 cases rx
 obtain⟨u,r,rfl,ru,rr⟩:=lB rv
 exact Be hu I g ru rr λw' s' I' r'=>⟨_,H,I',r',q⟩
end
theorem xE {ob:Obj} {d:Addr} {kvs:List (Key×V)} {g:TG} {tb:TS} {nx:St→Hp→Prop} {rt:VK} {σ:St} {H:Hp} (Pv:Nat→St→Hp→Prop) (h0:Pv 0 σ H) (hl:∀i σ H,i≤kvs.length→Pv i σ H→H d=some (.frz ob (.dK kvs)))
  (hs:∀i k v σ H,kvs[i]?=some (k,v)→Pv i σ H→g v σ H λσ2 H2=>tb ⟨Pv (i+1),rt,nx,Pv (i+1)⟩ σ2 H2) (hd:∀σ H,Pv kvs.length σ H→nx σ H):
  ∃W:Nat→Nat→St→Hp→Prop,(∃m,W 0 m σ H)∧∀i m σ H,W i m σ H→
   ((Itw ob d kvs).stop i H∧nx σ H)∨((Itw ob d kvs).go i H∧∃N:St→Hp→Prop,(∀σ' H',N σ' H'→∃m',m'<m∧W (i+1) m' σ' H')∧∀x H',(Itw ob d kvs).yld i H x H'→g x σ H' λσ2 H2=>tb ⟨N,rt,nx,N⟩ σ2 H2):=by
 refine⟨λi m σ H=>m=kvs.length-i∧i≤kvs.length∧Pv i σ H,⟨kvs.length,by simp,Qk _,h0⟩,?_⟩
 rintro i m σ H ⟨rfl,hi,p⟩
 have q:=hl i σ H hi p
 by_cases lt:i<kvs.length
 ·refine .inr ⟨⟨q,lt⟩,Pv (i+1),λσ' H' z=>⟨kvs.length-(i+1),by omega,rfl,lt,z⟩,λx H' y=>?_⟩
  obtain⟨rfl,k,e⟩:=y
  exact hs i k x σ _ e p
 ·have e:i=kvs.length:=by omega
  subst e
  exact .inl ⟨⟨q,Q5 _⟩,hd σ H p⟩
end L2
namespace L2
open PySem PySem.Spec PyProof.Rows
section
variable {X:Cx}
def vwK (a d:Addr):HO:= .ext λh=>PySem.W.KdlKeysView h a d
def BI:V→List V→Hp→VK→Prop:=λx vs H Q=>∃d kvs,x= .ref d∧vs=[]∧H d=some (.dK kvs)∧∀a,H a=none→Q (.ref a) (upd H a (vwK a d))
theorem zf:MtR X "dict.keys" BI:=by
 intro pins s σ H x vs v us Q I rx rv h
 obtain⟨d,kvs,rfl,rfl,hd,q⟩:=h
 cases rx
 cases rv
 obtain⟨z,lo,ws,rel,dd⟩:=eS I.hok hd
 refine call_meetsIn PySem.F.slot_dict_keys dd.typeIs PySem.F.entry_dict_keys (PySem.F.args_dict_keys_1 _) (PySem.W.kdl_meets_keys (aR X.prog X.w) d lo) ⟨⟨ws,dd⟩,?_⟩
 have new:(s.heap.push {cls:= .type "dict_keys",data:= .fields #[.ref d]}).get? s.heap.objs.size=some {cls:= .type "dict_keys",data:= .fields #[.ref d]}:=Heap.get?_push_size _ rfl
 refine⟨.ref s.heap.objs.size,_,I.laid (t':=s.toks) (λb o e=>Heap.get?_push_of_some _ e) (Q5 _) (show ObjOk X.prog X.w _ _ _ (vwK s.heap.objs.size d) from⟨⟨_,new,rfl,rfl⟩,⟨_,new⟩,λh1 h2 p k=>?_⟩),rfl,q _ (I.hok.fresh (Q5 _))⟩
 obtain⟨o,e,c⟩:=p
 exact⟨o,k o e,c⟩
theorem qP (hh:X.A.handled=none):gf X (.builtin "sorted") (λxs H Q=>∃(a d:Addr) (kvs:List (Key×V)) (ns:List Int),xs=[.ref a]∧H a=some (vwK a d)∧H d=some (.dK kvs)∧j6 kvs=ns.map V.int∧kvs.length<64∧
  ∀(l:Addr) (ms:List Int),H l=none→ms.Perm ns→ms.Pairwise (· ≤ ·)→Q (.ref l) (upd H l (.lst (ms.map V.int)))):=by
 intro pins s σ H xs us Q I r h
 obtain⟨a,d,kvs,ns,rfl,ha,hd,hns,h64,q⟩:=h
 obtain⟨u,rfl,ru⟩:=mn r
 cases ru
 obtain⟨z,lo,vs,rel,dd⟩:=eS I.hok hd
 obtain⟨ep,hat⟩:=dd.dictAt
 obtain⟨vw,_,_⟩:=(show ObjOk X.prog X.w H s.heap a (vwK a d) from I.hok a _ ha)
 exact lC hh I rel z h64 (PySem.W.kdl_keys (knd:=aR X.prog X.w) (kvs:=vs) (ep:=ep)) ⟨vw,hat⟩ hns q
end
end L2
namespace L2
open PySem PySem.Spec PyProof.Rows
theorem v9 (a d:Value):argsOk "min" ⟨[a],[("default",d)]⟩:=by unfold argsOk;kernel_rfl
section
variable {prog:Program} {w:World} {A:Around}
theorem zh {R:Result→Shared→Prop} {I S:Addr} {fp wr:List Addr} {n:Nat} {P:Nat→Value→Prop} {St:Nat→Heap→Prop} {d:Value} {bt:Nat→Nat→Bool} (W:Walks prog w A.in1 I fp wr n P St) (hcmp:CmpOf prog w A.in1 .Lt P bt) (hSf:S∉fp):
  ∀(k j:Nat) (s:Shared) (old:List Value) (c:Nat),n-j=k→j≤n→St j s.heap→(j=0∧old=[]∨∃i vb,j=i+1∧old=[vb,vb]∧P (argBest bt i) vb)→
  s.heap.get? S=some {cls:= .type "list",dict:=none,data:= .seq old.toArray c,slots:= #[]}→
  (∀v h' tk,(n=0∧v=d∨0<n∧P (argBest bt (n-1)) v)→(∀b o,b∉wr→b≠S→s.heap.get? b=some o→h'.get? b=some o)→R (.ok (.ret v)) {s with heap:=h',toks:=tk})→
  codeAny (model prog w) A (.builtin "min.loop" ⟨[.ref I,.none,.ref S],[("default",d)]⟩) R s:=by
 have hSw:S∉wr:=λh=>hSf (W.sub _ h)
 have hname:(toString "min"++toString ".loop":String)="min.loop":=by decide
 intro k
 induction k with
 |zero=>
  intro j s old c hk hj hst ho hS hR
  have hin:j=n:=by omega
  refine codeAny_builtin F.entry_min_loop ?_
  rw[Around.under_plainId F.plain_min_loop _]
  show wpAny _ A.in1 (seqItems? (.ref S)>>=_) _ _ s
  refine wpAny_bind (wpAny_seqItems hS rfl ?_)
  show wpAny _ A.in1 (tryCatch (pyNext (.ref I)) _>>=_) _ _ s
  refine wpAny_bind (wpAny_tryCatch (W.done s _ _ (hin▸hst) λh' tk hk'=>?_))
  have hS':=hk' S _ hSw hS
  rcases ho with⟨h0,rfl⟩|⟨i,vb,h0,rfl,hP⟩
  ·refine wpAny_bind (wpAny_rule (wpAny_pure (hR d _ tk (.inl ⟨by omega,rfl⟩) λb o hbw _ e=>hk' b o hbw e)))
  ·show wpAny _ A.in1 (updateSeq S (λ_=> #[])>>=_) _ _ _
   refine wpAny_bind (wpAny_updateSeq hS' rfl (wpAny_bind (wpAny_letGo (wpAny_pure (hR vb _ tk (.inr ⟨by omega,?_⟩) λb o hbw hbS e=>(Heap.get?_update_other _ _ (Ne.symm hbS)).trans (hk' b o hbw e))))))
   have:n-1=i:=by omega
   rw[this]
   exact hP
 |succ k ih=>
  intro j s old c hk hj hst ho hS hR
  have hlt:j<n:=by omega
  refine codeAny_builtin F.entry_min_loop ?_
  rw[Around.under_plainId F.plain_min_loop _]
  show wpAny _ A.in1 (seqItems? (.ref S)>>=_) _ _ s
  refine wpAny_bind (wpAny_seqItems hS rfl ?_)
  show wpAny _ A.in1 (tryCatch (pyNext (.ref I)) _>>=_) _ _ s
  refine wpAny_bind (wpAny_tryCatch (W.item j s _ _ hlt hst λv h' tk hP hst' hk'=>?_))
  have hS':=hk' S _ hSw hS
  have up:∀{o:Obj→Obj},(∀v' h'' tk'',(n=0∧v'=d∨0<n∧P (argBest bt (n-1)) v')→(∀b o',b∉wr→b≠S→(h'.update S o).get? b=some o'→h''.get? b=some o')→R (.ok (.ret v')) {s with heap:=h'',toks:=tk''}):=λ{o} v' h'' tk'' hP' hk''=>
   hR v' h'' tk'' hP' λb o' hbw hbS e=>hk'' b o' hbw hbS ((Heap.get?_update_other _ _ (Ne.symm hbS)).trans (hk' b o' hbw e))
  have fr:∀{o:Obj→Obj},St (j+1) (h'.update S o):=λ{o}=>W.frame _ _ _ hst' λb hbf o e=>(Heap.get?_update_other _ _ (λh:S=b=>hSf (by rw[h];exact hbf))).trans e
  rcases ho with⟨rfl,rfl⟩|⟨i,vb,rfl,rfl,hPb⟩
  ·show wpAny _ A.in1 (updateSeq S (λ_=> #[v,v])>>=_) _ _ _
   refine wpAny_bind (wpAny_updateSeq hS' rfl ?_)
   rw[hname]
   exact wpAny_pure ⟨plainId_quiet F.plain_min_loop _,ih 1 _ [v,v] _ (by omega) hlt fr (.inr ⟨0,v,rfl,rfl,hP⟩) (Heap.get?_update_self _ hS' rfl) up⟩
  ·show wpAny _ A.in1 (tryCatch (holding [v,v] (richCompare .Lt v vb>>=_)) _>>=_) _ _ _
   refine wpAny_bind (wpAny_tryCatch (wpAny_holding (wpAny_bind (hcmp (i+1) (argBest bt i) v vb _ _ _ hP hPb ?_))))
   refine wpAny_bind (wpAny_holding (wpAny_truthy_bool ?_))
   refine wpAny_bind (wpAny_letGo (wpAny_pure ?_))
   cases hb:bt (i+1) (argBest bt i)with
   |true=>
    simp only[if_true]
    refine wpAny_bind (wpAny_updateSeq hS' rfl (wpAny_bind (wpAny_letGo ?_)))
    rw[hname]
    exact wpAny_pure ⟨plainId_quiet F.plain_min_loop _,ih (i+2) _ [v,v] _ (by omega) hlt fr (.inr ⟨i+1,v,rfl,rfl,by simp only[argBest,hb,if_true];exact hP⟩) (Heap.get?_update_self _ hS' rfl) up⟩
   |false=>
    simp only[QA,if_false]
    refine wpAny_bind (wpAny_letGo ?_)
    rw[hname]
    exact wpAny_pure ⟨plainId_quiet F.plain_min_loop _,ih (i+2) _ [vb,vb] c (by omega) hlt hst' (.inr ⟨i+1,vb,rfl,rfl,by simp only[argBest,hb,QA,if_false];exact hPb⟩) hS' λv' h'' tk'' hP' hk''=>hR v' h'' tk'' hP' λb o hbw hbS e=>hk'' b o hbw hbS (hk' b o hbw e)⟩
theorem vV {E:Value→Shared→Prop} {s:Shared} {l:Addr} {xs:Array (Int×Tok)} {d:Value} {Q:Value→Shared→Prop} (hh:A.handled=none) (hl:s.heap.IsList l (intItems xs))
  (h:∀v h' tk,(xs.size=0∧v=d∨0<xs.size∧(intItems xs)[argBest (λi j=>decide (numAt xs i<numAt xs j)) (xs.size-1)]?=some v)→(∀b o,s.heap.get? b=some o→h'.get? b=some o)→Q v {s with heap:=h',toks:=tk}):
  wpAny (model prog w) A (call (.builtin "min") [.ref l] [("default",d)]) Q E s:=by
 have hname:(toString "min"++toString ".loop":String)="min.loop":=by decide
 refine wpAny_call (codeAny_call_builtin F.plain_min F.entry_min ?_)
 simp only[checkBuiltinCall,F.kind_min]
 have hc:wpAny (model prog w) A.in1 (Builtin.«min» ⟨[.ref l],[("default",d)]⟩) (λfin s'=>match fin with
   | .done f=>(match (Except.ok f:Result)with| .ok (.ret v)=>Q v s'| .ok _=>False| .error e=>E e s')
   | .again c'=>c'.quiet=true∧codeAny (model prog w) A c' (λr s'=>match r with| .ok (.ret v)=>Q v s'| .ok _=>False| .error e=>E e s') s') E s:=by
  show wpAny _ A.in1 (Builtin.Builtins.bindParams "min" ["key","default"] 0 ⟨[],[("default",d)]⟩>>=_) _ _ s
  refine wpAny_bind (wpAny_of_eq (show Builtin.Builtins.bindParams "min" ["key","default"] 0 ⟨[],[("default",d)]⟩=pure [none,some d] from rfl) ?_)
  refine wpAny_bind (wpAny_pure (wpAny_bind (iter_intList hl λs₂ e st hfp hlI=>?_)))
  subst e
  refine wpAny_bind (wpAny_newObj_type ?_)
  rw[hname]
  have W:=Walks.list (prog:=prog) (w:=w) (A:=A.in1) hh _ l hlI (intItems xs)
  have hSf:=λhm=>Zc _ (hfp _ hm)
  refine wpAny_pure ⟨plainId_quiet F.plain_min_loop _,zh W (CmpOf.ints_lt (numAt xs) (λ_ _=>intItems_at)) hSf _ 0 _ [] 0 rfl (Qk _) (W.frame _ _ _ st λb _ o e=>Heap.get?_push_of_some _ e) (.inl ⟨rfl,rfl⟩) (Heap.get?_push_size _ rfl) λv h' tk hP hk=>?_⟩
  refine h v h' tk (by simpa[intItems]using hP) (old_kept λb o hbw e=>hk b o hbw (Qq (Heap.lt_size e)) (Heap.get?_push_of_some _ e))
 cases hsig:Manifest.signature? "min" with
 |none=>exact wpAny_pure hc
 |some sig=>
  have ha:=v9 (.ref l) d
  simp only[argsOk,hsig]at ha
  simp only[ha]
  exact wpAny_pure hc
end
section
variable {X:Cx} {e v:Expr} {te td:TE} {p kp pos:Pos}
def Bw (K:PySem.W.Frag) (te td:TE):TE:=λσ H Q=>te σ H λx H1=>td σ H1 λy H2=>∃(p:Addr) (ns:List Int),x= .ref p∧SqL K H2 p (ns.map V.int)∧(ns=[]→Q y H2)∧∀M,M∈ns→(∀a∈ns,M≤a)→Q (.int M) H2
theorem y6 (K:PySem.W.Frag) (hK:X.K=K) (hc:X.calm=true) (hg:Gl X "min") (hm:X.mg "min"=none) (he:PE X e te) (hd:PE X v td) (h1:starEach [e] X.env=(false,eval e X.env)::starEach [] X.env:=by rfl) (h2:backTo pos (starEach [e] X.env)=(false,eval e X.env)::backTo pos (starEach [] X.env):=by rfl) (h3:(backTo pos (starEach [e] X.env)).any (·.1)=false:=by rfl):
  PE X (.Call (.Name "min" p) [e] [⟨some "default",v,kp⟩] pos) (Bw K te td):=by
 subst hK
 intro pins s σ H Q I h
 refine wpAny_Call_Name_kw (kT I hg hm xK ?_ (by decide) (by decide))
 refine callWith_kw (thn (aa he ag h1 pos pins s σ H (λvs H1=>match vs with| [x]=>td σ H1 λy H2=>∃(p:Addr) (ns:List Int),x= .ref p∧SqL X.K H2 p (ns.map V.int)∧(ns=[]→Q y H2)∧∀M,M∈ns→(∀a∈ns,M≤a)→Q (.int M) H2|_=>False) I ?_) λus s1 ⟨vs,H1,I1,r1,q1⟩=>?_) h2 h3
 ·exact h
 ·match vs,r1,q1 with
  | [x],r1,q1=>
   obtain⟨u,rfl,ru⟩:=mn r1
   refine kws_cons (thn (hd pins s1 σ H1 _ I1 q1) λu2 s2 ⟨y,H2,I2,ry,q2⟩=>kws_nil ?_)
   obtain⟨l,ns,rfl,hq,q3,q4⟩:=q2
   cases ru
   obtain⟨its,rv,pl,hz⟩:=I2.list hq
   have hi:IntsAre its ns:=nV rv
   obtain⟨xs,e⟩:=hi.allInts.items
   have hns:ns=xs.toList.map (·.1):=by
    rw[←hi.numsOf,←nums_intItems,←e]
   have hl:=pl.isList
   rw[e]at hl
   have hsz:ns.length=xs.size:=by rw[hns,Q2,QR]
   refine vV (I2.ok.hd hc) hl λw h' tk hw hk=>?_
   rcases hw with⟨h0,rfl⟩|⟨h0,hw⟩
   ·exact⟨y,H2,I2.kept (t':=tk) hk,ry,q3 (Zo.mp (by omega))⟩
   ·obtain⟨t,rfl⟩:=intItems_at hw
    obtain⟨g1,g2⟩:=argBest_lt (numAt xs) (xs.size-1)
    refine⟨.int _,H2,I2.kept (t':=tk) hk,⟨t,rfl⟩,q4 _ ?_ λa ha=>?_⟩
    ·rw[hns,numAt_eq];exact getD_mem (by rw[Q2,QR];omega)
    ·rw[hns]at ha
     obtain⟨j,hj,rfl⟩:=mem_getD ha
     rw[Q2,QR]at hj
     rw[←numAt_eq];exact g2 j (by omega)
end
end L2
namespace L2
open PySem PySem.Spec PyProof.Rows
def Itv (K:PySem.W.Frag) (a:Addr) (n:Nat):It:=
 ⟨λi H=>i<n∧∃xs x,SqL K H a xs∧xs[n-1-i]?=some x,λi H x H'=>H'=H∧∀xs,SqL K H a xs→xs[n-1-i]?=some x,λi _=>n≤i⟩
theorem wC {P:Program} {w:World} {K:PySem.W.Frag} {tg:Expr} (a it:Addr) (n:Nat):tS P w K tg (Itv K a n) [it] it (λi h=>i≤n∧h.IsRevIter it a ((n:Int)-1-(i:Int))) where
 mem:=by simp
 obj:=λi h st b hb=>by
  have e:b=it:=by simpa using hb
  subst e
  obtain⟨_,o,e,c,d⟩:=st
  exact⟨o,e,λv z=>by rw[d]at z;cases z⟩
 keep:=λi h h' st k=>⟨st.1,st.2.at λo e=>k it (by simp) o e⟩
 item:=by
  intro X hP hw hK hc i pins s σ H E I hf st hg
  subst hP hw hK
  obtain⟨hi,xs,x,hq,hx⟩:=hg
  obtain⟨its,rv,p,hz⟩:=I.list hq
  obtain⟨u,hu,ru⟩:=rv.get hx
  obtain⟨f0,f1,f2,f3,f4,f5⟩:=hf it (by simp)
  have e1:(n:Int)-1-(i:Int)=((n-1-i:Nat):Int):=by omega
  have hit:=st.2
  rw[e1]at hit
  refine wpAny_pyNext_rev_item hit p.isList (x:=u) (by simpa using hu) λh' st' sb=>?_
  have e2:((n-1-i:Nat):Int)-1=(n:Int)-1-((i+1:Nat):Int):=by omega
  rw[e2]at st'
  have I1:Inv X pins σ H {s with heap:=h'}:=I.turned (t':=s.toks) (λb o hb e=>(sb.2 b hb).trans e) f0 f1 f3 f4 f5
  obtain⟨o,e,c,d⟩:=id st'
  exact⟨u,rfl,se (s:={s with heap:=h'}) e c d (by decide) ⟨x,H,I1,ru,⟨rfl,λys hy=>by rw[I.list_inj hy hq];exact hx⟩,⟨hi,st'⟩,λb hb=>(hf b hb).1⟩⟩
 done:=by
  intro X hP hw hK hc i pins s σ H E I hf st hg
  subst hP hw hK
  obtain⟨f0,f1,f2,f3,f4,f5⟩:=hf it (by simp)
  have hit:=st.2
  have hn:n≤i:=hg
  have e:(n:Int)-1-(i:Int)= -1:=by have:=st.1;omega
  rw[e]at hit
  exact wpAny_pyNext_rev_end (I.ok.hd hc) hit λh' eb=>⟨rfl,I.turned (t':=s.toks) (λb o hb e=>eb b o hb e) f0 f1 f3 f4 f5⟩
 self:=λ_ _ _ _ _ st h=>wpAny_pyIter_revIter st.2 h
section
variable {X:Cx} {tg:Expr}
def iRev (K:PySem.W.Frag) (ta:TA):TI:=λσ H R=>ta σ H λvs H1=>∃a xs,vs=[.ref a]∧SqL K H1 a xs∧R (Itv K a xs.length) H1
theorem AF {a:Expr} {ta:TA} {p pos:Pos} (hg:Gl X "reversed") (hm:X.mg "reversed"=none) (ha:PA X [a] ta) (hs:starEach [a] X.env=[(false,eval a X.env)]:=by rfl):PI X tg (.Call (.Name "reversed" p) [a] [] pos) (iRev X.K ta):=by
 intro pins s σ H R I h
 refine Call_ (kT I hg hm Boot.«reversed» (PyProof.Rows.callWith_type1 (thn (ha pos pins s σ H _ I h) λus s1 hzz=>?_) hs rfl))
 obtain⟨vs,H1,I1,r1,q1⟩:=hzz
 obtain⟨b,xs,e,hq,q⟩:=q1
 subst e
 cases r1 with
 |cons r rr=>
  cases rr
  cases r
  obtain⟨its,rv,p,hz⟩:=I1.list hq
  have hl:=rv.length
  refine call_reversed_list p.isList ?_
  refine wpAny_pyIter_revIter (l:=b) (i:=(its.toArray.size:Int)-1) ⟨_,Heap.get?_push_size _ rfl,rfl,rfl⟩ ?_
  refine⟨s1.heap.objs.size,[s1.heap.objs.size],_,_,H1,rfl,I1.kept (t':=s1.toks) λb o e=>Heap.get?_push_of_some _ e,wC b _ xs.length,⟨Qk _,?_⟩,λb hb=>?_,q⟩
  ·have e:(xs.length:Int)-1-((0:Nat):Int)=(its.toArray.size:Int)-1:=by simp;omega
   rw[e]
   exact⟨_,Heap.get?_push_size _ rfl,rfl,rfl⟩
  ·have e:b=s1.heap.objs.size:=by simpa using hb
   subst e
   exact I1.fpOk (Q5 _) (I1.hok.fresh (Q5 _))
end
theorem zr {K:PySem.W.Frag} {a:Addr} {xs:List V} {g:TG} {tb:TS} {nx:St→Hp→Prop} {rt:VK} {σ:St} {H:Hp} (Pv:Nat→St→Hp→Prop) (h0:Pv 0 σ H) (hl:∀i σ H,i≤xs.length→Pv i σ H→SqL K H a xs)
  (hs:∀i x σ H,xs.reverse[i]?=some x→Pv i σ H→g x σ H λσ2 H2=>tb ⟨Pv (i+1),rt,nx,Pv (i+1)⟩ σ2 H2) (hd:∀σ H,Pv xs.length σ H→nx σ H):
  ∃W:Nat→Nat→St→Hp→Prop,(∃m,W 0 m σ H)∧∀i m σ H,W i m σ H→
   ((Itv K a xs.length).stop i H∧nx σ H)∨((Itv K a xs.length).go i H∧∃N:St→Hp→Prop,(∀σ' H',N σ' H'→∃m',m'<m∧W (i+1) m' σ' H')∧∀x H',(Itv K a xs.length).yld i H x H'→g x σ H' λσ2 H2=>tb ⟨N,rt,nx,N⟩ σ2 H2):=by
 refine⟨λi m σ H=>m=xs.length-i∧i≤xs.length∧Pv i σ H,⟨xs.length,by simp,Qk _,h0⟩,?_⟩
 rintro i m σ H ⟨rfl,hi,p⟩
 have q:=hl i σ H hi p
 by_cases lt:i<xs.length
 ·refine .inr ⟨⟨lt,xs,xs[xs.length-1-i]'(by omega),q,Q4 _⟩,Pv (i+1),λσ' H' z=>⟨xs.length-(i+1),by omega,rfl,lt,z⟩,λx H' y=>?_⟩
  obtain⟨e,y⟩:=y
  subst e
  exact hs i x σ _ (by rw[List.getElem?_reverse lt];exact y xs q) p
 ·have e:i=xs.length:=by omega
  subst e
  exact .inl ⟨Q5 _,hd σ H p⟩
end L2
namespace SW
open PySem L2
set_option maxHeartbeats 0
structure Txt (K:PySem.W.Frag) (mg:Str→Option Value) (t:Adr):Prop where
 j4:mg "WalkError"=some (.ref t.a4)
 CH:mg "NoToken"=some (.ref t.vY)
 BX:mg "NoKey"=some (.ref t.kf)
 CG:mg "Twice"=some (.ref t.uI)
 pD:mg "TooOld"=some (.ref t.bq)
 ig:mg "NoMoment"=some (.ref t.aY)
 BV:mg "Token"=some (.ref t.eU)
 BU:mg "Up"=some (.ref t.gU)
 CI:mg "Down"=some (.ref t.lg)
 vD:mg "Leaves"=some (.ref t.bg)
 BY:mg "Makes"=some (.ref t.cn)
 BW:mg "Slots"=some (.ref t.aT)
 BZ:mg "House"=some (.ref t.av)
 C6:Fun K "__init__" "NoKey.__init__" iP t.yj t.iV
 CY:Binds K t.iV ["self","key"] []
 C4:Fun K "__init__" "Twice.__init__" iN t.yi t.iT
 CV:Binds K t.iT ["self","key"] []
 xU:Fun K "__init__" "TooOld.__init__" dS t.eI t.eD
 xN:Binds K t.eD ["self","moment"] []
 we:Fun K "__init__" "NoMoment.__init__" cZ t.db t.da
 lr:Binds K t.da ["self","moment"] []
 Bp:mg "mark_of"=some (.ref t.p8)
 wc:Fun K "mark_of" "mark_of" kF t.p8 t.kZ
 Bq:Binds K t.kZ ["key"] []
 pE:mg "slot_of"=some (.ref t.p5)
 lu:Fun K "slot_of" "slot_of" kE t.p5 t.kY
 p4:Binds K t.kY ["key","size"] []
 AR:mg "is_whole"=some (.ref t.oo)
 tT:Fun K "is_whole" "is_whole" jh t.oo t.jA
 Bi:Binds K t.jA ["thing"] []
 vF:mg "is_from"=some (.ref t.p9)
 qa:Fun K "is_from" "is_from" kG t.p9 t.k7
 vZ:Binds K t.k7 ["thing","low"] []
 o8:Fun K "__init__" "Token.__init__" fc t.fS t.fE
 ya:Binds K t.fE ["self","kind","at","end"] []
 Bn:FunD K "__init__" "Up.__init__" jj t.ot t.eC
 CU:Binds K t.eC ["self","at","end"] []
 C2:tW K t.eC ["self","at","end"] [.non]
 sA:tW K t.eC ["self","at","end"] [(.int (0)),.non]
 Ao:Fun K "holds" "Up.holds" g7 t.lL t.iu
 Aj:Binds K t.iu ["self","key"] []
 xj:mg "keys_of_page"=some (.ref t.iy)
 ox:Fun K "keys_of_page" "keys_of_page" cG t.iy t.d9
 xM:Binds K t.d9 ["leaves","token","many"] []
 Ac:mg "keys_near"=some (.ref t.lI)
 sC:Fun K "keys_near" "keys_near" gZ t.lI t.io
 Ah:Binds K t.io ["leaves","token","most"] []
 xW:Fun K "__init__" "Leaves.__init__" dU t.iB t.eF
 oj:Binds K t.eF ["self"] []
 yr:Fun K "add" "Leaves.add" de t.i5 t.fK
 oZ:Binds K t.fK ["self","key"] []
 uV:Fun K "discard" "Leaves.discard" cJ t.eY t.cV
 uM:Binds K t.cV ["self","key"] []
 yq:Fun K "has" "Leaves.has" fo t.i4 t.fJ
 oY:Binds K t.fJ ["self","key"] []
 C7:Fun K "many" "Leaves.many" g8 t.ou t.iw
 CZ:Binds K t.iw ["self"] []
 uU:Fun K "from_on" "Leaves.from_on" bL t.eX t.cU
 uL:Binds K t.cU ["self","key","most"] []
 uT:Fun K "leaf_of" "Leaves.leaf_of" cI t.eW t.cT
 cX:Binds K t.cT ["self","key"] []
 sJ:Fun K "part_leaf" "Leaves.part_leaf" bZ t.dH t.b6
 sI:Binds K t.b6 ["self","at"] []
 sE:Fun K "join_small" "Leaves.join_small" bO t.dw t.bR
 ix:Binds K t.bR ["self","at"] []
 yp:Fun K "__init__" "Makes.__init__" fm t.iZ t.fI
 ye:Binds K t.fI ["self"] []
 yo:Fun K "note" "Makes.note" fk t.iY t.fH
 yd:Binds K t.fH ["self","moment","value"] []
 uS:Fun K "value_at" "Makes.value_at" cH t.eV t.cR
 uK:Binds K t.cR ["self","moment"] []
 xV:Fun K "sweep" "Makes.sweep" bN t.iA t.eE
 xO:Binds K t.eE ["self","floor"] []
 lE:mg "empty_row"=some (.ref t.lJ)
 iE:Fun K "empty_row" "empty_row" eM t.lJ t.iq
 lH:Binds K t.iq ["size"] []
 yk:Fun K "__init__" "Slots.__init__" fg t.iW t.fF
 yb:Binds K t.fF ["self"] []
 zI:Fun K "put" "Slots.put" gs t.ko t.gJ
 zD:Binds K t.gJ ["self","key","value"] []
 ym:Fun K "drop" "Slots.drop" fj t.iX t.fG
 yc:Binds K t.fG ["self","key"] []
 zJ:Fun K "has" "Slots.has" gu t.kq t.gK
 qU:Binds K t.gK ["self","key"] []
 C5:Fun K "rows" "Slots.rows" iO t.o7 t.iU
 CW:Binds K t.iU ["self"] []
 wd:Fun K "cell_of" "Slots.cell_of" cY t.gc t.c8
 f9:Binds K t.c8 ["self","key"] []
 tU:Fun K "move_slot" "Slots.move_slot" cp t.eJ t.cr
 jD:Binds K t.cr ["self"] []
 tV:Fun K "begin_row" "Slots.begin_row" cq t.eK t.cu
 jE:Binds K t.cu ["self"] []
 yt:Fun K "__init__" "House.__init__" fq t.i6 t.fL
 yf:Binds K t.fL ["self"] []
 zL:Fun K "put" "House.put" gw t.kt t.gM
 zE:Binds K t.gM ["self","key","value"] []
 yx:Fun K "drop" "House.drop" fv t.i9 t.fP
 yh:Binds K t.fP ["self","key"] []
 yu:Fun K "hold" "House.hold" ft t.i7 t.fN
 yg:Binds K t.fN ["self"] []
 wn:Fun K "let_go" "House.let_go" dz t.gR t.dB
 wm:Binds K t.dB ["self","moment"] []
 yw:Fun K "held" "House.held" fu t.i8 t.fO
 fR:Binds K t.fO ["self"] []
 xX:Fun K "sweep" "House.sweep" dW t.iC t.eG
 xP:Binds K t.eG ["self"] []
 zK:Fun K "was" "House.was" gv t.kr t.gL
 qV:Binds K t.gL ["self","key","moment"] []
 wf:FunD K "page_at" "House.page_at" bU t.gd t.bX
 v8:Binds K t.bX ["self","moment","token","many"] []
 C3:tW K t.bX ["self","moment","token","many"] [(.int (10))]
 yy:Fun K "done" "House.done" fw t.ja t.fQ
 o3:Binds K t.fQ ["self","row","value"] []
 qb:Fun K "refuse_outside" "House.refuse_outside" bz t.cz t.bF
 gb:Binds K t.bF ["self","moment"] []
 sK:Fun K "value_then" "House.value_then" b3 t.dI t.b7
 dG:Binds K t.b7 ["self","key","moment"] []
 bu:mg "_law_drawn"=some (.ref t.km)
 bj:Fun K "_law_drawn" "_law_drawn" gr t.km t.gI
 bx:Binds K t.gI ["_law_cell","_law_k"] []
 nQ:mg "_law_key"=some (.ref t.oq)
 jF:Fun K "_law_key" "_law_key" ji t.oq t.jB
 oi:Binds K t.jB ["_law_cell","_law_k"] []
 qD:mg "_law_value"=some (.ref t.kh)
 ku:Fun K "_law_value" "_law_value" gh t.kh t.gG
 qS:Binds K t.gG ["_law_cell"] []
 Ad:mg "_law_deed"=some (.ref t.lK)
 sD:Fun K "_law_deed" "_law_deed" g6 t.lK t.ir
 Ai:Binds K t.ir ["_law_house","_law_was","_law_cell"] []
 nP:mg "_law_refused"=some (.ref t.iz)
 iF:Fun K "_law_refused" "_law_refused" dR t.iz t.eB
 oh:Binds K t.eB ["_law_house","_law_key_here","_law_moment"] []
 qE:mg "_law_right"=some (.ref t.ki)
 kx:Fun K "_law_right" "_law_right" gj t.ki t.gH
 qT:Binds K t.gH ["_law_house","_law_was","_law_key_here","_law_moment"] []
 Cm:mg "law"=some (.ref t.Ak)
 Ci:Fun K "law" "law" wJ t.Ak t.uH
 b_law:Binds K t.uH ["_law_script"] []
 yB:XCls K t.a4 (([]:List Addr).map Value.ref++vBase)
 Cu:XCls K t.vY (([t.a4]:List Addr).map Value.ref++vBase)
 CA:NoAttr K t.kf "key"
 wu:XCls K t.kf (([t.a4]:List Addr).map Value.ref++vBase)
 Cv:NoAttr K t.uI "key"
 Ct:XCls K t.uI (([t.a4]:List Addr).map Value.ref++vBase)
 kO:NoAttr K t.bq "moment"
 bh:XCls K t.bq (([t.a4]:List Addr).map Value.ref++vBase)
 kA:XIs K t.bq
 AX:PySem.W.findIn K (.ref t.bq) "__init__"=some (some (.ref t.eI))
 AY:PySem.W.isFn K (.ref t.eI)=true
 d7:NoAttr K t.aY "moment"
 aP:XCls K t.aY (([t.a4]:List Addr).map Value.ref++vBase)
 eL:XIs K t.aY
 qH:PySem.W.findIn K (.ref t.aY) "__init__"=some (some (.ref t.db))
 qI:PySem.W.isFn K (.ref t.db)=true
 Cw:NoAttr K t.eU "kind"
 Cz:NoAttr K t.eU "at"
 Cy:NoAttr K t.eU "end"
 CS:Cls K t.eU
 CF:Mk K t.eU t.fS
 Cn:XIs K t.eU
 CL:PySem.W.kitOne K (.ref t.eU) (.ref t.gU)=some false
 AQ:NoAttr K t.gU "kind"
 rN:NoAttr K t.gU "at"
 vp:NoAttr K t.gU "end"
 su:Cls K t.gU
 Cl:Mk K t.gU t.ot
 wt:XIs K t.gU
 B0:PySem.W.kitOne K (.ref t.gU) (.ref t.gU)=some true
 Ab:bS K t.gU "holds" t.lL
 CB:NoAttr K t.lg "kind"
 CD:NoAttr K t.lg "at"
 CC:NoAttr K t.lg "end"
 CT:Cls K t.lg
 Cs:XIs K t.lg
 CQ:PySem.W.kitOne K (.ref t.lg) (.ref t.gU)=some false
 ao:NoAttr K t.bg "leaves"
 aA:Cls K t.bg
 vC:Mk K t.bg t.iB
 Cq:XIs K t.bg
 CO:PySem.W.kitOne K (.ref t.bg) (.ref t.gU)=some false
 oR:bS K t.bg "add" t.i5
 ur:bS K t.bg "discard" t.eY
 oQ:bS K t.bg "has" t.i4
 CK:bS K t.bg "many" t.ou
 uq:bS K t.bg "from_on" t.eX
 cP:bS K t.bg "leaf_of" t.eW
 sG:bS K t.bg "part_leaf" t.dH
 ii:bS K t.bg "join_small" t.dw
 bK:NoAttr K t.cn "made"
 cW:Cls K t.cn
 BR:Mk K t.cn t.iZ
 Cp:XIs K t.cn
 CN:PySem.W.kitOne K (.ref t.cn) (.ref t.gU)=some false
 x5:bS K t.cn "note" t.iY
 uo:bS K t.cn "value_at" t.eV
 xg:bS K t.cn "sweep" t.iA
 aN:NoAttr K t.aT "table"
 bn:NoAttr K t.aT "shifted"
 bd:NoAttr K t.aT "kept"
 az:Cls K t.aT
 BQ:Mk K t.aT t.iW
 Co:XIs K t.aT
 CM:PySem.W.kitOne K (.ref t.aT) (.ref t.gU)=some false
 zj:bS K t.aT "put" t.ko
 xZ:bS K t.aT "drop" t.iX
 qA:bS K t.aT "has" t.kq
 CJ:bS K t.aT "rows" t.o7
 fX:bS K t.aT "cell_of" t.gc
 jq:bS K t.aT "move_slot" t.eJ
 jr:bS K t.aT "begin_row" t.eK
 bi:NoAttr K t.av "now"
 bE:NoAttr K t.av "floor"
 d8:NoAttr K t.av "slots"
 gQ:NoAttr K t.av "leaves"
 kP:NoAttr K t.av "written"
 xb:NoAttr K t.av "marks"
 cb:NoAttr K t.av "past"
 bb:NoAttr K t.av "holders"
 al:Cls K t.av
 BS:Mk K t.av t.i6
 Cr:XIs K t.av
 CP:PySem.W.kitOne K (.ref t.av) (.ref t.gU)=some false
 zl:bS K t.av "put" t.kt
 x9:bS K t.av "drop" t.i9
 x6:bS K t.av "hold" t.i7
 wj:bS K t.av "let_go" t.gR
 fB:bS K t.av "held" t.i8
 xh:bS K t.av "sweep" t.iC
 qB:bS K t.av "was" t.kr
 vE:bS K t.av "page_at" t.gd
 oS:bS K t.av "done" t.ja
 fY:bS K t.av "refuse_outside" t.cz
 dF:bS K t.av "value_then" t.dI
 xY:uQ K t.eU "__init__" (.ref t.fS)
 j0:uQ K t.a4 "__init__" (.builtin "ValueError.__init__")
 t7:PySem.W.subIn K (.ref t.aY) (.ref t.kf)=some false
 rl:PySem.W.subIn K (.ref t.aY) (.ref t.aY)=some true
 jc:PySem.W.subIn K (.ref t.aY) (.ref t.bq)=some false
 qY:PySem.W.subIn K (.ref t.aY) (.ref t.a4)=some true
 wg:PySem.W.subIn K (.ref t.bq) (.ref t.kf)=some false
 sP:PySem.W.subIn K (.ref t.bq) (.ref t.aY)=some false
 u9:PySem.W.subIn K (.ref t.bq) (.ref t.bq)=some true
 sF:PySem.W.subIn K (.ref t.bq) (.ref t.a4)=some true
 Cc:∃tk,mg "PLACES"=some (.int 65536 tk)
 xB:∃tk,mg "MOST_IN_LEAF"=some (.int 8 tk)
 xC:∃tk,mg "LEAST_IN_TWO"=some (.int 5 tk)
 qM:∃tk,mg "LEAST_SIZE"=some (.int 4 tk)
 wk:∃tk,mg "GREATEST_SIZE"=some (.int 256 tk)
 yA:mg "ValueError"=none
 Aq:mg "bool"=none
 Cj:mg "dict"=none
 Bs:mg "int"=none
 bc:mg "isinstance"=none
 br:mg "len"=none
 Ck:mg "max"=none
 Br:mg "min"=none
 yz:mg "range"=none
 Ap:mg "reversed"=none
 q9:mg "sorted"=none
 z_sum:mg "sum"=none
theorem lT:ax ["self","moment"] ["self","moment"] (ai dS):=⟨rfl,rfl,rfl,by decide+kernel,rfl,by decide+kernel,by decide+kernel⟩
theorem jQ:ax ["self","moment"] ["self","moment"] (ai cZ):=⟨rfl,rfl,rfl,by decide+kernel,rfl,by decide+kernel,by decide+kernel⟩
theorem sV:ax ["key"] ["key"] (ai kF):=⟨rfl,rfl,rfl,by decide+kernel,rfl,by decide+kernel,by decide+kernel⟩
theorem sU:ax ["key","size"] ["key","size"] (ai kE):=⟨rfl,rfl,rfl,by decide+kernel,rfl,by decide+kernel,by decide+kernel⟩
theorem rA:ax ["thing"] ["thing"] (ai jh):=⟨rfl,rfl,rfl,by decide+kernel,rfl,by decide+kernel,by decide+kernel⟩
theorem sW:ax ["thing","low"] ["thing","low"] (ai kG):=⟨rfl,rfl,rfl,by decide+kernel,rfl,by decide+kernel,by decide+kernel⟩
theorem mO:ax ["self","kind","at","end"] ["self","kind","at","end"] (ai fc):=⟨rfl,rfl,rfl,by decide+kernel,rfl,by decide+kernel,by decide+kernel⟩
theorem rB:ax ["self","at","end"] ["self","at","end"] (ai jj):=⟨rfl,rfl,rfl,by decide+kernel,rfl,by decide+kernel,by decide+kernel⟩
theorem qm:ax ["self","key"] ["self","key"] (ai g7):=⟨rfl,rfl,rfl,by decide+kernel,rfl,by decide+kernel,by decide+kernel⟩
theorem sc_keys_of_page:ax ["leaves","token","many","most","held","page"] ["leaves","token","many"] (ai cG):=⟨rfl,rfl,rfl,by decide+kernel,rfl,by decide+kernel,by decide+kernel⟩
theorem qk:ax ["leaves","token","most"] ["leaves","token","most"] (ai gZ):=⟨rfl,rfl,rfl,by decide+kernel,rfl,by decide+kernel,by decide+kernel⟩
theorem lU:ax ["self"] ["self"] (ai dU):=⟨rfl,rfl,rfl,by decide+kernel,rfl,by decide+kernel,by decide+kernel⟩
theorem sc_Leaves__add:ax ["self","key","at","leaf"] ["self","key"] (ai de):=⟨rfl,rfl,rfl,by decide+kernel,rfl,by decide+kernel,by decide+kernel⟩
theorem sc_Leaves__discard:ax ["self","key","at"] ["self","key"] (ai cJ):=⟨rfl,rfl,rfl,by decide+kernel,rfl,by decide+kernel,by decide+kernel⟩
theorem sc_Leaves__has:ax ["self","key","at"] ["self","key"] (ai fo):=⟨rfl,rfl,rfl,by decide+kernel,rfl,by decide+kernel,by decide+kernel⟩
theorem sc_Leaves__from_on:ax ["self","key","most","told","at"] ["self","key","most"] (ai bL):=⟨rfl,rfl,rfl,by decide+kernel,rfl,by decide+kernel,by decide+kernel⟩
theorem sc_Leaves__leaf_of:ax ["self","key","low","high","middle"] ["self","key"] (ai cI):=⟨rfl,rfl,rfl,by decide+kernel,rfl,by decide+kernel,by decide+kernel⟩
theorem sc_Leaves__part_leaf:ax ["self","at","leaf","middle"] ["self","at"] (ai bZ):=⟨rfl,rfl,rfl,by decide+kernel,rfl,by decide+kernel,by decide+kernel⟩
theorem sc_Leaves__join_small:ax ["self","at","both"] ["self","at"] (ai bO):=⟨rfl,rfl,rfl,by decide+kernel,rfl,by decide+kernel,by decide+kernel⟩
theorem mS:ax ["self"] ["self"] (ai fm):=⟨rfl,rfl,rfl,by decide+kernel,rfl,by decide+kernel,by decide+kernel⟩
theorem mR:ax ["self","moment","value"] ["self","moment","value"] (ai fk):=⟨rfl,rfl,rfl,by decide+kernel,rfl,by decide+kernel,by decide+kernel⟩
theorem sc_Makes__value_at:ax ["self","moment","make"] ["self","moment"] (ai cH):=⟨rfl,rfl,rfl,by decide+kernel,rfl,by decide+kernel,by decide+kernel⟩
theorem sc_Makes__sweep:ax ["self","floor","old","stay","thrown"] ["self","floor"] (ai bN):=⟨rfl,rfl,rfl,by decide+kernel,rfl,by decide+kernel,by decide+kernel⟩
theorem ql:ax ["size"] ["size"] (ai eM):=⟨rfl,rfl,rfl,by decide+kernel,rfl,by decide+kernel,by decide+kernel⟩
theorem mP:ax ["self"] ["self"] (ai fg):=⟨rfl,rfl,rfl,by decide+kernel,rfl,by decide+kernel,by decide+kernel⟩
theorem sc_Slots__put:ax ["self","key","value","cell"] ["self","key","value"] (ai gs):=⟨rfl,rfl,rfl,by decide+kernel,rfl,by decide+kernel,by decide+kernel⟩
theorem mQ:ax ["self","key"] ["self","key"] (ai fj):=⟨rfl,rfl,rfl,by decide+kernel,rfl,by decide+kernel,by decide+kernel⟩
theorem oI:ax ["self","key"] ["self","key"] (ai gu):=⟨rfl,rfl,rfl,by decide+kernel,rfl,by decide+kernel,by decide+kernel⟩
theorem sc_Slots__cell_of:ax ["self","key","old","slot","new"] ["self","key"] (ai cY):=⟨rfl,rfl,rfl,by decide+kernel,rfl,by decide+kernel,by decide+kernel⟩
theorem sc_Slots__move_slot:ax ["self","old","new","key","value"] ["self"] (ai cp):=⟨rfl,rfl,rfl,by decide+kernel,rfl,by decide+kernel,by decide+kernel⟩
theorem sc_Slots__begin_row:ax ["self","size"] ["self"] (ai cq):=⟨rfl,rfl,rfl,by decide+kernel,rfl,by decide+kernel,by decide+kernel⟩
theorem mT:ax ["self"] ["self"] (ai fq):=⟨rfl,rfl,rfl,by decide+kernel,rfl,by decide+kernel,by decide+kernel⟩
theorem oK:ax ["self","key","value"] ["self","key","value"] (ai gw):=⟨rfl,rfl,rfl,by decide+kernel,rfl,by decide+kernel,by decide+kernel⟩
theorem mW:ax ["self","key"] ["self","key"] (ai fv):=⟨rfl,rfl,rfl,by decide+kernel,rfl,by decide+kernel,by decide+kernel⟩
theorem mU:ax ["self"] ["self"] (ai ft):=⟨rfl,rfl,rfl,by decide+kernel,rfl,by decide+kernel,by decide+kernel⟩
theorem kD:ax ["self","moment"] ["self","moment"] (ai dz):=⟨rfl,rfl,rfl,by decide+kernel,rfl,by decide+kernel,by decide+kernel⟩
theorem mV:ax ["self"] ["self"] (ai fu):=⟨rfl,rfl,rfl,by decide+kernel,rfl,by decide+kernel,by decide+kernel⟩
theorem sc_House__sweep:ax ["self","thrown","of_key"] ["self"] (ai dW):=⟨rfl,rfl,rfl,by decide+kernel,rfl,by decide+kernel,by decide+kernel⟩
theorem oJ:ax ["self","key","moment"] ["self","key","moment"] (ai gv):=⟨rfl,rfl,rfl,by decide+kernel,rfl,by decide+kernel,by decide+kernel⟩
theorem sc_House__page_at:ax ["self","moment","token","many","then","key","page"] ["self","moment","token","many"] (ai bU):=⟨rfl,rfl,rfl,by decide+kernel,rfl,by decide+kernel,by decide+kernel⟩
theorem sc_House__done:ax ["self","row","value","key"] ["self","row","value"] (ai fw):=⟨rfl,rfl,rfl,by decide+kernel,rfl,by decide+kernel,by decide+kernel⟩
theorem e8:ax ["self","moment"] ["self","moment"] (ai bz):=⟨rfl,rfl,rfl,by decide+kernel,rfl,by decide+kernel,by decide+kernel⟩
theorem gY:ax ["self","key","moment"] ["self","key","moment"] (ai b3):=⟨rfl,rfl,rfl,by decide+kernel,rfl,by decide+kernel,by decide+kernel⟩
theorem sc__law_drawn:ax ["_law_cell","_law_k","_law_number"] ["_law_cell","_law_k"] (ai gr):=⟨rfl,rfl,rfl,by decide+kernel,rfl,by decide+kernel,by decide+kernel⟩
theorem sc__law_key:ax ["_law_cell","_law_k","_law_number"] ["_law_cell","_law_k"] (ai ji):=⟨rfl,rfl,rfl,by decide+kernel,rfl,by decide+kernel,by decide+kernel⟩
theorem oH:ax ["_law_cell"] ["_law_cell"] (ai gh):=⟨rfl,rfl,rfl,by decide+kernel,rfl,by decide+kernel,by decide+kernel⟩
theorem sc__law_deed:ax ["_law_house","_law_was","_law_cell","_law_way","_law_key_here","_law_plain","_law_some"] ["_law_house","_law_was","_law_cell"] (ai g6):=⟨rfl,rfl,rfl,by decide+kernel,rfl,by decide+kernel,by decide+kernel⟩
theorem sc__law_refused:ax ["_law_house","_law_key_here","_law_moment","e"] ["_law_house","_law_key_here","_law_moment"] (ai dR):=⟨rfl,rfl,rfl,by decide+kernel,rfl,by decide+kernel,by decide+kernel⟩
theorem sc__law_right:ax ["_law_house","_law_was","_law_key_here","_law_moment","_law_found"] ["_law_house","_law_was","_law_key_here","_law_moment"] (ai gj):=⟨rfl,rfl,rfl,by decide+kernel,rfl,by decide+kernel,by decide+kernel⟩
theorem sc_law:ax ["_law_script","_law_house","_law_was","_law_cell","_law_key_here","_law_keys","_law_plain","_law_moment"] ["_law_script"] (ai wJ):=⟨rfl,rfl,rfl,by decide+kernel,rfl,by decide+kernel,by decide+kernel⟩
def Fr (F F':Addr→Prop) (H H':Hp):Prop:=∀b o,¬F b→H b=some o→H' b=some o∧¬F' b
theorem Fr.refl {F:Addr→Prop} {H:Hp}:Fr F F H H:=λ_ _ n e=>⟨e,n⟩
theorem Fr.trans {F F' F'':Addr→Prop} {H H' H'':Hp} (x:Fr F F' H H') (y:Fr F' F'' H' H''):Fr F F'' H H'':=λb o n e=>y b o (x b o n e).2 (x b o n e).1
theorem Fr.of_same {F:Addr→Prop} {H H':Hp} (s:Same H H'):Fr F F H H':=λb o n e=>⟨s b o e,n⟩
def ay (kv:List (Int×V)):List (Key×V):=kv.map λp=>(Sum.inl p.1,p.2)
theorem liftK_val {kv:List (Int×V)} {k:Int}:aF (ay kv) (Sum.inl k:Key)=aF kv k:=by
 induction kv with
 |nil=>rfl
 |cons p r ih=>
  show aF ((Sum.inl p.1,p.2)::ay r) (Sum.inl k:Key)=_
  by_cases e:p.1=k
  ·rw[a5 e,a5 (by show(Sum.inl p.1:Key)=_;rw[e])]
  ·rw[aW e,aW (by show ¬(Sum.inl p.1:Key)=_;exact λz=>e (Sum.inl.inj z)),ih]
theorem vH {kv:List (Int×V)} {k:Int}:((ay kv).any λx=>decide (x.1=(Sum.inl k:Key)))=kv.any λx=>decide (x.1=k):=by
 rw[bM,bM,liftK_val]
theorem c6 {kv:List (Int×V)} {k:Int} {v:V}:aU (ay kv) (Sum.inl k:Key) v=ay (aU kv k v):=by
 unfold aU
 rw[vH]
 by_cases c:(kv.any λx=>decide (x.1=k))=true
 ·rw[if_pos c,if_pos c]
  unfold ay
  rw[Qy,Qy]
  refine Ze λp _=>?_
  show(if(Sum.inl p.1:Key)=Sum.inl k then _ else _)=_
  by_cases e:p.1=k
  ·rw[if_pos (by rw[e])];simp[e]
  ·rw[if_neg λz=>e (Sum.inl.inj z)];simp[e]
 ·rw[if_neg c,if_neg c]
  unfold ay
  rw[Qi]
  rfl
theorem jt {kv:List (Int×V)} {k:Int}:bf (ay kv) (Sum.inl k:Key)=ay (bf kv k):=by
 unfold bf ay
 rw[List.filter_map]
 congr 1
 refine List.filter_congr λp _=>?_
 show decide ((Sum.inl p.1:Key)≠Sum.inl k)=_
 by_cases e:p.1=k
 ·rw[e];simp
 ·have:¬(Sum.inl p.1:Key)=Sum.inl k:=λz=>e (Sum.inl.inj z)
  simp[e,this]
theorem bp {kv:List (Int×V)}:(ay kv).length=kv.length:=Q2 _
theorem g9 {f:Str} {v:V}:∀fs:List (Str×V),(aV f v fs).length≤fs.length+1
 | []=>Q5 _
 |(g,x)::r=>by
  rw[aV]
  split
  ·rw[Q9,Q9];omega
  ·have:=g9 (f:=f) (v:=v) r
   rw[Q9,Q9];omega
section
variable {κ:Type} [DecidableEq κ] {kv:List (κ×V)} {k j:κ} {v:V}
theorem cw:∀{kv:List (κ×V)},aF (bf kv k) j=if j=k then none else aF kv j
 | []=>by
  show aF ([]:List (κ×V)) j=_
  rw[gV]
  split<;>rfl
 |p::r=>by
  by_cases e:p.1=k
  ·rw[kX e,cw]
   by_cases z:j=k
   ·rw[if_pos z,if_pos z]
   ·rw[if_neg z,if_neg z,aW λy=>z (y.symm.trans e)]
  ·rw[iK e]
   by_cases y:p.1=j
   ·rw[a5 y,a5 y,if_neg λz=>e (y.trans z)]
   ·rw[aW y,aW y,cw]
theorem mem_keys:∀{kv:List (κ×V)},k∈kv.map (·.1)↔(aF kv k).isSome=true
 | []=>by simp[gV]
 |p::r=>by
  by_cases e:p.1=k
  ·rw[a5 e];simp[e]
  ·rw[aW e,←mem_keys]
   simp[Ne.symm e]
theorem j5:(aU kv k v).map (·.1)=if(aF kv k).isSome=true then kv.map (·.1)else kv.map (·.1)++ [k]:=by
 unfold aU
 rw[bM]
 by_cases c:(aF kv k).isSome=true
 ·rw[if_pos c,if_pos c,Qy]
  refine Ze λp _=>?_
  show(if p.1=k then(p.1,v)else p).1=p.1
  split<;>rfl
 ·rw[if_neg c,if_neg c,Qi]
  rfl
theorem jp (h:(kv.map (·.1)).Nodup):((aU kv k v).map (·.1)).Nodup:=by
 cases e:aF kv k with
 |none=>exact ze v h e
 |some x=>rw[j5,e];exact h
theorem ie:∀{l S:List κ},l.Nodup→(∀x∈l,x∈S)→l.length≤S.length
 | [],_,_,_=>Qk _
 |x::xs,S,hn,hs=>by
  obtain⟨h1,h2⟩:=Qs.mp hn
  have hx:x∈S:=hs x Q8
  have:=ie (S:=S.erase x) h2 λy hy=>(List.mem_erase_of_ne λz=>h1 (by rw[←z];exact hy)).mpr (hs y (Q6 _ hy))
  rw[List.length_erase_of_mem hx]at this
  have:=ZM hx
  rw[Q9]
  omega
end
def SqF (K:PySem.W.Frag) (F:Addr→Prop) (H:Hp) (a:Addr) (xs:List V):Prop:=(Rd H a (.lst xs)∧¬F a)∨∀H',SqL K H' a xs
theorem SqF.sq {K:PySem.W.Frag} {F:Addr→Prop} {H:Hp} {a:Addr} {xs:List V} (h:SqF K F H a xs):SqL K H a xs:=by
 rcases h with h|h
 ·exact .inl h.1
 ·exact h H
theorem SqF.of {K:PySem.W.Frag} {F:Addr→Prop} {H:Hp} {a:Addr} {xs:List V} (h:SqL K H a xs) (n:∀o,H a=some o→¬F a):SqF K F H a xs:=by
 rcases h with h|h
 ·rcases h with h|⟨o,h⟩
  ·exact .inl ⟨.inl h,n _ h⟩
  ·exact .inl ⟨.inr ⟨o,h⟩,n _ h⟩
 ·exact .inr λ_=> .inr h
theorem SqF.fr {K:PySem.W.Frag} {F F':Addr→Prop} {H H':Hp} {a:Addr} {xs:List V} (h:SqF K F H a xs) (f:Fr F F' H H'):SqF K F' H' a xs:=by
 rcases h with⟨h,n⟩|h
 ·rcases h with h|⟨o,h⟩
  ·exact .inl ⟨.inl (f _ _ n h).1,(f _ _ n h).2⟩
  ·exact .inl ⟨.inr ⟨o,(f _ _ n h).1⟩,(f _ _ n h).2⟩
 ·exact .inr h
theorem SqF.new {K:PySem.W.Frag} {F:Addr→Prop} {H:Hp} {a p:Addr} {o:HO} {xs:List V} (h:SqF K F H a xs) (n:H p=none):SqF K F (upd H p o) a xs:=h.fr (Fr.of_same (am n))
structure SSt where
 kv:List (Int×V)
 size:Int
 nxt:Option Int
 mv:Int
def SSt.new:SSt:=⟨[],4,none,0⟩
def SSt.one (s:SSt):SSt:=match s.nxt with
 |none=>s
 |some m=>if s.mv+1=s.size then{s with size:=m,nxt:=none,mv:=0}else{s with mv:=s.mv+1}
def SSt.three (s:SSt):SSt:=match s.nxt with
 |some _=>s
 |none=>if s.size<(s.kv.length:Int)∧s.size<256 then{s with nxt:=some (2*s.size),mv:=0}else if 4*(s.kv.length:Int)<s.size∧4<s.size then{s with nxt:=some (s.size/2),mv:=0}else s
def SSt.put (s:SSt) (k:Int) (v:V):SSt:=SSt.three {s.one with kv:=aU s.kv k v}
def SSt.drop (s:SSt) (k:Int):SSt:=SSt.three {s.one with kv:=bf s.kv k}
def SSt.moved (s:SSt):Int:=match s.nxt with
 |none=>0
 |some _=>s.mv
structure SlD where
 tb:Addr
 r0:Addr
 r1:Addr
 A0:List Addr
 A1:List Addr
 C0:List (List (Int×V))
 C1:List (List (Int×V))
 n:Int
def slF (tb:Addr) (sh n:Int):List (Str×V):=[("table",.ref tb),("shifted",.int sh),("kept",.int n)]
theorem dn {k:Str} {v:V} {r:List (Str×V)}:((k,v)::r).lookup k=some v:=by
 have hb:(k==k)=true:=beq_iff_eq.mpr rfl
 simp only[List.lookup,hb]
theorem a9 {k m:Str} {v:V} {r:List (Str×V)} (h:m≠k):((k,v)::r).lookup m=r.lookup m:=by
 have hb:(m==k)=false:=beq_eq_false_iff_ne.mpr h
 simp only[List.lookup,hb]
section
variable {tb tb':Addr} {sh sh' n n':Int} {m:Str}
theorem gO:(slF tb sh n).lookup ("table":Str)=some (.ref tb):=dn
theorem rs:(slF tb sh n).lookup ("shifted":Str)=some (.int sh):=by unfold slF;rw[a9 (by decide+kernel),dn]
theorem jO:(slF tb sh n).lookup ("kept":Str)=some (.int n):=by unfold slF;rw[a9 (by decide+kernel),a9 (by decide+kernel),dn]
def NoM (m:Str):Prop:=m≠("table":Str)∧m≠("shifted":Str)∧m≠("kept":Str)
instance:Decidable (NoM m):=by unfold NoM;infer_instance
theorem zV (h:NoM m):(slF tb sh n).lookup m=none:=by unfold slF;rw[a9 h.1,a9 h.2.1,a9 h.2.2];rfl
theorem BL:aV ("table":Str) (.ref tb') (slF tb sh n)=slF tb' sh n:=by unfold slF;rw[aV,if_pos rfl]
theorem zZ:aV ("shifted":Str) (.int sh') (slF tb sh n)=slF tb sh' n:=by unfold slF;rw[aV,if_neg (by decide+kernel),aV,if_pos rfl]
theorem z7:aV ("kept":Str) (.int n') (slF tb sh n)=slF tb sh n':=by unfold slF;rw[aV,if_neg (by decide+kernel),aV,if_neg (by decide+kernel),aV,if_pos rfl]
theorem jN:(slF tb sh n).length<1000:=by show 3<1000;decide
end
structure RowOk (H:Hp) (r:Addr) (A:List Addr) (C:List (List (Int×V))) (sz:Int):Prop where
 lst:H r=some (.lst (A.map V.ref))
 la:(A.length:Int)=sz
 lc:(C.length:Int)=sz
 cell:∀(j:Nat) (b:Addr) (kv:List (Int×V)),A[j]?=some b→C[j]?=some kv→H b=some (.dK (ay kv))
 ndk:∀(j:Nat) (kv:List (Int×V)),C[j]?=some kv→(kv.map (·.1)).Nodup
 inj:∀(i j:Nat) (b:Addr),A[i]?=some b→A[j]?=some b→i=j
 home:∀(j:Nat) (kv:List (Int×V)),C[j]?=some kv→∀p∈kv,p.1%65536%sz=(j:Int)
theorem RowOk.has {H:Hp} {r:Addr} {A:List Addr} {C:List (List (Int×V))} {sz:Int} (h:RowOk H r A C sz) {b:Addr} (hb:b∈A):∃(j:Nat) (kv:List (Int×V)),A[j]?=some b∧C[j]?=some kv∧H b=some (.dK (ay kv)):=by
 obtain⟨j,hj,e⟩:=QC hb
 have hc:j<C.length:=by have:=h.la;have:=h.lc;omega
 have e1:A[j]?=some b:=by rw[Q4 hj,e]
 have e2:C[j]?=some C[j]:=Q4 hc
 exact⟨j,C[j],e1,e2,h.cell j b _ e1 e2⟩
theorem RowOk.frame {H H':Hp} {r:Addr} {A:List Addr} {C:List (List (Int×V))} {sz:Int} (h:RowOk H r A C sz) (f:∀b,b=r∨b∈A→H' b=H b):RowOk H' r A C sz:=
 ⟨by rw[f r (.inl rfl)];exact h.lst,h.la,h.lc,λj b kv e1 e2=>by rw[f b (.inr (Q0 e1))];exact h.cell j b kv e1 e2,h.ndk,h.inj,h.home⟩
theorem RowOk.notr {H:Hp} {r:Addr} {A:List Addr} {C:List (List (Int×V))} {sz:Int} (h:RowOk H r A C sz) {b:Addr} (hb:b∈A) {o:HO} {x:Addr} (e:H x=some o) (ne:∀kvs,o≠ .dK kvs):b≠x:=λz=>by
 obtain⟨j,kv,_,_,q⟩:=h.has hb
 rw[z,e]at q
 cases q
 exact ne _ rfl
theorem RowOk.set {H:Hp} {r c:Addr} {A:List Addr} {C:List (List (Int×V))} {sz:Int} {j:Nat} {kv':List (Int×V)} (h:RowOk H r A C sz) (ea:A[j]?=some c) (nd:(kv'.map (·.1)).Nodup) (hm:∀p∈kv',p.1%65536%sz=(j:Int)):
  RowOk (upd H c (.dK (ay kv'))) r A (C.set j kv') sz:=by
 have hc:r≠c:=(h.notr (Q0 ea) h.lst (λ_ z=>by cases z)).symm
 refine⟨by rw[ac hc];exact h.lst,h.la,by rw[Qt];exact h.lc,λi b kv e1 e2=>?_,λi kv e=>?_,h.inj,λi kv e=>?_⟩
 ·rw[Qm]at e2
  by_cases z:j=i
  ·subst z
   rw[ea]at e1
   cases e1
   rw[if_pos rfl]at e2
   split at e2
   ·cases e2;exact af
   ·cases e2
  ·rw[if_neg z]at e2
   rw[ac λy=>z (h.inj j i c ea (by rw[←y];exact e1))]
   exact h.cell i b kv e1 e2
 ·rw[Qm]at e
  by_cases z:j=i
  ·rw[if_pos z]at e
   split at e
   ·cases e;exact nd
   ·cases e
  ·rw[if_neg z]at e
   exact h.ndk i kv e
 ·rw[Qm]at e
  by_cases z:j=i
  ·subst z
   rw[if_pos rfl]at e
   split at e
   ·cases e;exact hm
   ·cases e
  ·rw[if_neg z]at e
   exact h.home i kv e
def SlF (a:Addr) (st:SSt) (d:SlD):Addr→Prop:=λb=>b=a∨b=d.tb∨b=d.r0∨b∈d.A0∨(st.nxt.isSome=true∧b=d.r1)∨b∈d.A1
def IsCell (d:SlD) (st:SSt) (k:Int) (c:Addr) (kv:List (Int×V)):Prop:=
 (st.moved≤k%65536%st.size∧d.A0[(k%65536%st.size).toNat]?=some c∧d.C0[(k%65536%st.size).toNat]?=some kv)∨
 (∃m,st.nxt=some m∧k%65536%st.size<st.moved∧d.A1[(k%65536%m).toNat]?=some c∧d.C1[(k%65536%m).toNat]?=some kv)
structure SzOk (st:SSt):Prop where
 pw:st.size∈([4,8,16,32,64,128,256]:List Int)
 nx:∀m,st.nxt=some m→m∈([4,8,16,32,64,128,256]:List Int)∧0≤st.mv∧st.mv<st.size∧(m=2*st.size∨2*m=st.size)
theorem jS {x:Int} (h:x∈([4,8,16,32,64,128,256]:List Int)):x=4∨x=8∨x=16∨x=32∨x=64∨x=128∨x=256:=by simpa using h
theorem cK {x:Int} (h:x∈([4,8,16,32,64,128,256]:List Int)):4≤x∧x≤256:=by
 rcases jS h with h|h|h|h|h|h|h<;>omega
structure SlB (t:Adr) (H:Hp) (a:Addr) (st:SSt) (d:SlD):Prop where
 obj:∃dx,H a=some (.ins t.aT dx (slF d.tb st.moved d.n))
 tbl:H d.tb=some (.lst (match st.nxt with|none=> [.ref d.r0]|some _=> [.ref d.r0,.ref d.r1]))
 row0:RowOk H d.r0 d.A0 d.C0 st.size
 row1:match st.nxt with|none=>d.A1=[]∧d.C1=[]|some m=>RowOk H d.r1 d.A1 d.C1 m
 dis:∀b,b∈d.A0→b∉d.A1
 tr:d.tb≠d.r0
 tr1:st.nxt.isSome=true→d.tb≠d.r1∧d.r0≠d.r1
 old:∀(j:Nat) (kv:List (Int×V)),d.C0[j]?=some kv→(j:Int)<st.moved→kv=[]
 new:∀(j:Nat) (kv:List (Int×V)),d.C1[j]?=some kv→∀p∈kv,p.1%65536%st.size<st.moved
 val:∀(k:Int) (c:Addr) (kv:List (Int×V)),IsCell d st k c kv→aF kv k=aF st.kv k
section
variable {t:Adr} {H H':Hp} {a b:Addr} {st:SSt} {d:SlD}
theorem SlB.frame (h:SlB t H a st d) (f:∀b,SlF a st d b→H' b=H b):SlB t H' a st d:=by
 obtain⟨dx,ho⟩:=h.obj
 refine⟨⟨dx,by rw[f a (.inl rfl)];exact ho⟩,by rw[f d.tb (.inr (.inl rfl))];exact h.tbl,h.row0.frame λb hb=>f b ?_,?_,h.dis,h.tr,h.tr1,h.old,h.new,h.val⟩
 ·rcases hb with hb|hb
  ·exact .inr (.inr (.inl hb))
  ·exact .inr (.inr (.inr (.inl hb)))
 ·have r1:=h.row1
  have ff:=f
  unfold SlF at ff
  cases e:st.nxt with
  |none=>rw[e]at r1;exact r1
  |some m=>
   rw[e]at r1
   refine RowOk.frame (H:=H) r1 λb hb=>f b ?_
   unfold SlF
   rw[e]
   rcases hb with hb|hb
   ·exact .inr (.inr (.inr (.inr (.inl ⟨rfl,hb⟩))))
   ·exact .inr (.inr (.inr (.inr (.inr hb))))
theorem SlB.dom (h:SlB t H a st d) (hb:SlF a st d b):∃o,H b=some o:=by
 obtain⟨dx,ho⟩:=h.obj
 rcases hb with rfl|rfl|rfl|hb|⟨hs,rfl⟩|hb
 ·exact⟨_,ho⟩
 ·exact⟨_,h.tbl⟩
 ·exact⟨_,h.row0.lst⟩
 ·obtain⟨_,_,_,_,q⟩:=h.row0.has hb;exact⟨_,q⟩
 ·have r1:=h.row1
  cases e:st.nxt with
  |none=>rw[e]at hs;cases hs
  |some m=>rw[e]at r1;exact⟨_,r1.lst⟩
 ·have r1:=h.row1
  cases e:st.nxt with
  |none=>rw[e]at r1;rw[r1.1]at hb;cases hb
  |some m=>rw[e]at r1;obtain⟨_,_,_,_,q⟩:=r1.has hb;exact⟨_,q⟩
theorem SlB.at (h:SlB t H a st d) {k:Int} {c:Addr} {kv:List (Int×V)} (ic:IsCell d st k c kv):H c=some (.dK (ay kv))∧SlF a st d c∧(kv.map (·.1)).Nodup:=by
 rcases ic with⟨_,e1,e2⟩|⟨m,em,_,e1,e2⟩
 ·exact⟨h.row0.cell _ _ _ e1 e2,.inr (.inr (.inr (.inl (Q0 e1)))),h.row0.ndk _ _ e2⟩
 ·have r1:=h.row1
  rw[em]at r1
  exact⟨r1.cell _ _ _ e1 e2,.inr (.inr (.inr (.inr (.inr (Q0 e1))))),r1.ndk _ _ e2⟩
theorem kR {k m:Int} (hm:4≤m):0≤k%65536%m∧k%65536%m<m∧((k%65536%m).toNat:Int)=k%65536%m:=by
 have h1:=QF (k%65536) (show m≠0 by omega)
 have h2:=Zn (k%65536) (show 0<m by omega)
 exact⟨h1,h2,Int.toNat_of_nonneg h1⟩
theorem b5 {α:Type} {l:List α} {z:Int} (h0:0≤z) (h1:z<(l.length:Int)):∃x,l[z.toNat]?=some x:=⟨l[z.toNat]'(by omega),Q4 (by omega)⟩
theorem SlB.cell (h:SlB t H a st d) (z:SzOk st) (k:Int):∃c kv,IsCell d st k c kv:=by
 obtain⟨s4,_⟩:=cK z.pw
 obtain⟨m0,m1,m2⟩:=kR (k:=k) s4
 by_cases c:st.moved≤k%65536%st.size
 ·obtain⟨x,e1⟩:=b5 (l:=d.A0) m0 (by rw[h.row0.la];exact m1)
  obtain⟨y,e2⟩:=b5 (l:=d.C0) m0 (by rw[h.row0.lc];exact m1)
  exact⟨x,y,.inl ⟨c,e1,e2⟩⟩
 ·cases e:st.nxt with
  |none=>
   exfalso
   have:st.moved=0:=by unfold SSt.moved;rw[e]
   omega
  |some m=>
   obtain⟨pm,_⟩:=z.nx m e
   obtain⟨s5,_⟩:=cK pm
   obtain⟨n0,n1,n2⟩:=kR (k:=k) s5
   have r1:=h.row1
   rw[e]at r1
   obtain⟨x,e1⟩:=b5 (l:=d.A1) n0 (by rw[r1.la];exact n1)
   obtain⟨y,e2⟩:=b5 (l:=d.C1) n0 (by rw[r1.lc];exact n1)
   exact⟨x,y,.inr ⟨m,e,by omega,e1,e2⟩⟩
theorem IsCell.uniq {k:Int} {c c':Addr} {kv kv':List (Int×V)} (x:IsCell d st k c kv) (y:IsCell d st k c' kv'):c=c'∧kv=kv':=by
 rcases x with⟨h0,e1,e2⟩|⟨m,em,h0,e1,e2⟩<;>rcases y with⟨g0,f1,f2⟩|⟨m',em',g0,f1,f2⟩
 ·rw[e1]at f1;rw[e2]at f2;cases f1;cases f2;exact⟨rfl,rfl⟩
 ·omega
 ·omega
 ·rw[em]at em';cases em';rw[e1]at f1;rw[e2]at f2;cases f1;cases f2;exact⟨rfl,rfl⟩
theorem SlB.setN (h:SlB t H a st d) {dx:Addr} {n:Int}:SlB t (upd H a (.ins t.aT dx (slF d.tb st.moved n))) a st {d with n:=n}:=by
 obtain⟨dy,ho⟩:=h.obj
 have n1:d.tb≠a:=bJ h.tbl ho (by intro z;cases z)
 refine⟨⟨dx,af⟩,by show upd H a _ d.tb=_;rw[ac n1];exact h.tbl,h.row0.frame λb hb=>ac ?_,?_,h.dis,h.tr,h.tr1,h.old,h.new,h.val⟩
 ·rcases hb with rfl|hb
  ·exact bJ h.row0.lst ho (by intro z;cases z)
  ·exact h.row0.notr hb ho (λ_ z=>by cases z)
 ·have r1:=h.row1
  cases e:st.nxt with
  |none=>rw[e]at r1;exact r1
  |some m=>
   rw[e]at r1
   refine RowOk.frame (H:=H) r1 λb hb=>ac ?_
   rcases hb with rfl|hb
   ·exact bJ r1.lst ho (by intro z;cases z)
   ·exact r1.notr hb ho (λ_ z=>by cases z)
theorem SlB.setCell (h:SlB t H a st d) (z:SzOk st) {k:Int} {c:Addr} {kv kv' kvs:List (Int×V)} (ic:IsCell d st k c kv) (nd:(kv'.map (·.1)).Nodup) (hm:∀p∈kv',p∈kv∨p.1=k)
  (hk:aF kv' k=aF kvs k) (ho:∀j,j≠k→aF kv' j=aF kv j∧aF kvs j=aF st.kv j):
  ∃d',SlB t (upd H c (.dK (ay kv'))) a {st with kv:=kvs} d'∧d'.n=d.n∧∀b,SlF a {st with kv:=kvs} d' b↔SlF a st d b:=by
 obtain⟨hc,hf,_⟩:=h.at ic
 obtain⟨dx,hob⟩:=h.obj
 obtain⟨s4,_⟩:=cK z.pw
 obtain⟨m0,m1,m2⟩:=kR (k:=k) s4
 have na:a≠c:=bJ hob hc (by intro z;cases z)
 have nt:d.tb≠c:=bJ h.tbl hc (by intro z;cases z)
 have nr:d.r0≠c:=bJ h.row0.lst hc (by intro z;cases z)
 have vals:∀(d':SlD) (j:Int) (b:Addr) (x:List (Int×V)),IsCell d' {st with kv:=kvs} j b x→(∀y,IsCell d st j b y→(x=y∧b≠c)∨(x=kv'∧y=kv))→(∃y,IsCell d st j b y)→aF x j=aF kvs j:=λd' j b x hx f ⟨y,hy⟩=>by
  by_cases e:j=k
  ·subst e
   obtain⟨rfl,rfl⟩:=IsCell.uniq hy ic
   rcases f y hy with⟨_,z⟩|⟨rfl,_⟩
   ·exact absurd rfl z
   ·exact hk
  ·rw[(ho j e).2]
   rcases f y hy with⟨rfl,_⟩|⟨rfl,rfl⟩
   ·exact h.val j b x hy
   ·rw[(ho j e).1];exact h.val j b y hy
 rcases ic with⟨h0,e1,e2⟩|⟨m,em,h0,e1,e2⟩
 ·have hin:c∈d.A0:=Q0 e1
  have hmem:∀p∈kv',p.1%65536%st.size=((k%65536%st.size).toNat:Int):=λp hp=>by
   rcases hm p hp with q|q
   ·exact h.row0.home _ _ e2 p q
   ·rw[q,m2]
  refine⟨{d with C0:=d.C0.set (k%65536%st.size).toNat kv'},⟨⟨dx,by rw[ac na];exact hob⟩,by show upd H c _ d.tb=_;rw[ac nt];exact h.tbl,h.row0.set e1 nd hmem,?_,h.dis,h.tr,h.tr1,λj x e lt=>?_,h.new,λj b x hx=>?_⟩,rfl,λb=>Iff.rfl⟩
  ·have r1:=h.row1
   show match st.nxt with|none=>_|some m=>_
   cases e:st.nxt with
   |none=>rw[e]at r1;exact r1
   |some m=>
    rw[e]at r1
    refine RowOk.frame (H:=H) r1 λb hb=>ac ?_
    rcases hb with rfl|hb
    ·exact bJ r1.lst hc (by intro z;cases z)
    ·exact λy=>h.dis c hin (y▸hb)
  ·have e:(d.C0.set (k%65536%st.size).toNat kv')[j]?=some x:=e
   have lt:(j:Int)<st.moved:=lt
   rw[Qm]at e
   by_cases q:(k%65536%st.size).toNat=j
   ·exfalso;omega
   ·rw[if_neg q]at e;exact h.old j x e lt
  ·refine vals _ j b x hx (λy hy=>?_) ?_
   ·rcases hx with⟨g0,f1,f2⟩|⟨m',em',g0,f1,f2⟩
    ·have f2:(d.C0.set (k%65536%st.size).toNat kv')[(j%65536%st.size).toNat]?=some x:=f2
     have f1:d.A0[(j%65536%st.size).toNat]?=some b:=f1
     have g0:st.moved≤j%65536%st.size:=g0
     rcases hy with⟨_,y1,y2⟩|⟨_,_,y0,_,_⟩
     ·rw[Qm]at f2
      by_cases q:(k%65536%st.size).toNat=(j%65536%st.size).toNat
      ·rw[if_pos q]at f2
       split at f2
       ·cases f2
        rw[←q,e2]at y2
        cases y2
        exact .inr ⟨rfl,rfl⟩
       ·cases f2
      ·rw[if_neg q,y2]at f2
       cases f2
       exact .inl ⟨rfl,λw=>q (h.row0.inj _ _ c e1 (by rw[←w];exact f1))⟩
     ·omega
    ·have f1:d.A1[(j%65536%m').toNat]?=some b:=f1
     have f2:d.C1[(j%65536%m').toNat]?=some x:=f2
     have g0:j%65536%st.size<st.moved:=g0
     have em':st.nxt=some m':=em'
     rcases hy with⟨y0,_,_⟩|⟨m2,e3,y0,y1,y2⟩
     ·omega
     ·rw[em']at e3;cases e3
      rw[f2]at y2;cases y2
      exact .inl ⟨rfl,λw=>h.dis c hin (w▸Q0 f1)⟩
   ·obtain⟨b',y,hy⟩:=h.cell z j
    have:b'=b:=by
     rcases hx with⟨g0,f1,f2⟩|⟨m',em',g0,f1,f2⟩<;>rcases hy with⟨y0,y1,y2⟩|⟨m3,e3,y0,y1,y2⟩
     ·have f1:d.A0[(j%65536%st.size).toNat]?=some b:=f1
      rw[y1]at f1;exact Option.some.inj f1
     ·have g0:st.moved≤j%65536%st.size:=g0
      omega
     ·have g0:j%65536%st.size<st.moved:=g0
      omega
     ·have em':st.nxt=some m':=em'
      rw[em']at e3;cases e3
      have f1:d.A1[(j%65536%m').toNat]?=some b:=f1
      rw[y1]at f1;exact Option.some.inj f1
    subst this
    exact⟨y,hy⟩
 ·have r1:=h.row1
  rw[em]at r1
  have hin:c∈d.A1:=Q0 e1
  obtain⟨pm,_⟩:=z.nx m em
  obtain⟨s5,_⟩:=cK pm
  obtain⟨n0,n1,n2⟩:=kR (k:=k) s5
  have hmem:∀p∈kv',p.1%65536%m=((k%65536%m).toNat:Int):=λp hp=>by
   rcases hm p hp with q|q
   ·exact r1.home _ _ e2 p q
   ·rw[q,n2]
  refine⟨{d with C1:=d.C1.set (k%65536%m).toNat kv'},⟨⟨dx,by rw[ac na];exact hob⟩,by show upd H c _ d.tb=_;rw[ac nt];exact h.tbl,h.row0.frame λb hb=>ac ?_,?_,h.dis,h.tr,h.tr1,h.old,λj x e p hp=>?_,λj b x hx=>?_⟩,rfl,λb=>Iff.rfl⟩
  ·rcases hb with rfl|hb
   ·exact nr
   ·exact λy=>h.dis b hb (y▸hin)
  ·show match st.nxt with|none=>_|some m=>_
   rw[em]
   exact r1.set e1 nd hmem
  ·have e:(d.C1.set (k%65536%m).toNat kv')[j]?=some x:=e
   show p.1%65536%st.size<st.moved
   rw[Qm]at e
   by_cases q:(k%65536%m).toNat=j
   ·rw[if_pos q]at e
    split at e
    ·cases e
     rcases hm p hp with q|q
     ·exact h.new _ _ e2 p q
     ·rw[q];exact h0
    ·cases e
   ·rw[if_neg q]at e;exact h.new j x e p hp
  ·refine vals _ j b x hx (λy hy=>?_) ?_
   ·rcases hx with⟨g0,f1,f2⟩|⟨m',em',g0,f1,f2⟩
    ·have f1:d.A0[(j%65536%st.size).toNat]?=some b:=f1
     have f2:d.C0[(j%65536%st.size).toNat]?=some x:=f2
     have g0:st.moved≤j%65536%st.size:=g0
     rcases hy with⟨_,y1,y2⟩|⟨_,_,y0,_,_⟩
     ·rw[f2]at y2;cases y2
      exact .inl ⟨rfl,λw=>h.dis b (Q0 f1) (w▸hin)⟩
     ·omega
    ·have em':st.nxt=some m':=em'
     rw[em]at em'
     cases em'
     have f2:(d.C1.set (k%65536%m).toNat kv')[(j%65536%m).toNat]?=some x:=f2
     have f1:d.A1[(j%65536%m).toNat]?=some b:=f1
     have g0:j%65536%st.size<st.moved:=g0
     rcases hy with⟨y0,_,_⟩|⟨m2,e3,y0,y1,y2⟩
     ·omega
     ·rw[em]at e3;cases e3
      rw[Qm]at f2
      by_cases q:(k%65536%m).toNat=(j%65536%m).toNat
      ·rw[if_pos q]at f2
       split at f2
       ·cases f2
        rw[←q,e2]at y2
        cases y2
        exact .inr ⟨rfl,rfl⟩
       ·cases f2
      ·rw[if_neg q,y2]at f2
       cases f2
       exact .inl ⟨rfl,λw=>q (r1.inj _ _ c e1 (by rw[←w];exact f1))⟩
   ·obtain⟨b',y,hy⟩:=h.cell z j
    have:b'=b:=by
     rcases hx with⟨g0,f1,f2⟩|⟨m',em',g0,f1,f2⟩<;>rcases hy with⟨y0,y1,y2⟩|⟨m3,e3,y0,y1,y2⟩
     ·have f1:d.A0[(j%65536%st.size).toNat]?=some b:=f1
      rw[y1]at f1;exact Option.some.inj f1
     ·have g0:st.moved≤j%65536%st.size:=g0
      omega
     ·have g0:j%65536%st.size<st.moved:=g0
      omega
     ·have em':st.nxt=some m':=em'
      rw[em']at e3;cases e3
      have f1:d.A1[(j%65536%m').toNat]?=some b:=f1
      rw[y1]at f1;exact Option.some.inj f1
    subst this
    exact⟨y,hy⟩
end
theorem nN {kv:List (Int×V)} {k:Int} {v:V} {p:Int×V} (h:p∈aU kv k v):p∈kv∨p.1=k:=by
 unfold aU at h
 split at h
 ·obtain⟨q,hq,e⟩:=Qf.mp h
  by_cases z:q.1=k
  ·rw[if_pos z]at e;rw[←e];exact .inr z
  ·rw[if_neg z]at e;rw[←e];exact .inl hq
 ·rcases Qb.mp h with h|h
  ·exact .inl h
  ·rw[Qg.mp h];exact .inr rfl
theorem zi {kv:List (Int×V)} {p:Int×V} (h:p∈kv):(aF kv p.1).isSome=true:=mem_keys.mp (Qf.mpr ⟨p,h,rfl⟩)
def dA (m:Int) (C:List (List (Int×V))) (p:Int×V):List (List (Int×V)):=C.set (p.1%65536%m).toNat (aU (C.getD (p.1%65536%m).toNat []) p.1 p.2)
theorem xc {m:Int} {C:List (List (Int×V))} {p:Int×V}:(dA m C p).length=C.length:=Qt
theorem um {m:Int}:∀{kv:List (Int×V)} {C:List (List (Int×V))},(kv.foldl (dA m) C).length=C.length
 | [],_=>rfl
 |p::r,C=>by rw[List.foldl_cons,um,xc]
theorem rR {m:Int} {C:List (List (Int×V))} {p:Int×V} {j:Nat} {y:List (Int×V)} (e:C[j]?=some y):(dA m C p)[j]?=some (if(p.1%65536%m).toNat=j then aU y p.1 p.2 else y):=by
 unfold dA
 rw[Qm]
 by_cases z:(p.1%65536%m).toNat=j
 ·have hj:j<C.length:=(Q3.mp e).1
  rw[if_pos z,if_pos z,if_pos (by rw[z];exact hj),Qu,z,e]
  rfl
 ·rw[if_neg z,if_neg z,e]
theorem qz {m:Int}:∀{kv:List (Int×V)} {C:List (List (Int×V))} {j:Nat} {y:List (Int×V)},(kv.map (·.1)).Nodup→C[j]?=some y→∃x,(kv.foldl (dA m) C)[j]?=some x∧
  (∀p∈x,p∈y∨p.1∈kv.map (·.1))∧∀k,aF x k=if(k%65536%m).toNat=j then(aF kv k).or (aF y k)else aF y k
 | [],C,j,y,_,e=>⟨y,e,λp hp=> .inl hp,λk=>by rw[gV];simp⟩
 |p::r,C,j,y,nd,e=>by
  obtain⟨n1,n2⟩:=Qs.mp (show(p.1::r.map (·.1)).Nodup from nd)
  obtain⟨x,h1,h2,h3⟩:=qz (m:=m) n2 (rR (m:=m) (p:=p) e)
  refine⟨x,h1,λq hq=>?_,λk=>?_⟩
  ·rcases h2 q hq with z|z
   ·split at z
    ·rcases nN z with z|z
     ·exact .inl z
     ·exact .inr (Qf.mpr ⟨p,Q8,z.symm⟩)
    ·exact .inl z
   ·exact .inr (Q6 _ z)
  ·rw[h3 k]
   by_cases z:(k%65536%m).toNat=j
   ·rw[if_pos z,if_pos z]
    by_cases w:p.1=k
    ·subst w
     have:aF r p.1=none:=by
      cases q:aF r p.1 with
      |none=>rfl
      |some v=>exact absurd (valV_in q) n1
     rw[this,a5 rfl,if_pos z,cE,if_pos rfl]
     rfl
    ·rw[aW w]
     congr 1
     split
     ·rw[cE,if_neg (Ne.symm w)]
     ·rfl
   ·rw[if_neg z,if_neg z]
    split
    ·rename_i w
     rw[cE,if_neg (λy=>z (by rw[y];exact w))]
    ·rfl
theorem RowOk.mov {H:Hp} {r c:Addr} {A:List Addr} {C:List (List (Int×V))} {sz k:Int} {v:V} {y:List (Int×V)} (h:RowOk H r A C sz) (s4:4≤sz) (ea:A[(k%65536%sz).toNat]?=some c) (ey:C[(k%65536%sz).toNat]?=some y):
  RowOk (upd H c (.dK (ay (aU y k v)))) r A (dA sz C (k,v)) sz:=by
 have e:dA sz C (k,v)=C.set (k%65536%sz).toNat (aU y k v):=by
  unfold dA
  rw[Qu]
  show C.set (k%65536%sz).toNat (aU (C[(k%65536%sz).toNat]?.getD []) k v)=_
  rw[ey]
  rfl
 rw[e]
 obtain⟨m0,m1,m2⟩:=kR (k:=k) s4
 refine h.set ea (jp (h.ndk _ _ ey)) λp hp=>?_
 rcases nN hp with z|z
 ·exact h.home _ _ ey p z
 ·rw[z,m2]
section
variable {t:Adr} {H H':Hp} {a:Addr} {st:SSt} {d:SlD}
theorem SSt.moved_some {st:SSt} {m:Int} (e:st.nxt=some m):st.moved=st.mv:=by unfold SSt.moved;rw[e]
theorem SSt.moved_none {st:SSt} (e:st.nxt=none):st.moved=0:=by unfold SSt.moved;rw[e]
theorem SlB.movVal (h:SlB t H a st d) (z:SzOk st) {m:Int} (em:st.nxt=some m) {kv:List (Int×V)} (ek:d.C0[st.mv.toNat]?=some kv) {k:Int} (hk:k%65536%st.size≤st.mv) {x:List (Int×V)}
  (ex:(kv.foldl (dA m) d.C1)[(k%65536%m).toNat]?=some x):aF x k=aF st.kv k:=by
 obtain⟨pm,v0,v1,_⟩:=z.nx m em
 obtain⟨s4,_⟩:=cK z.pw
 obtain⟨s5,_⟩:=cK pm
 have r1:=h.row1
 rw[em]at r1
 obtain⟨n0,n1,n2⟩:=kR (k:=k) s5
 obtain⟨m0,m1,m2⟩:=kR (k:=k) s4
 obtain⟨y,ey⟩:=b5 (l:=d.C1) n0 (by rw[r1.lc];exact n1)
 obtain⟨c1,ec1⟩:=b5 (l:=d.A1) n0 (by rw[r1.la];exact n1)
 obtain⟨x',e',_,hv⟩:=qz (m:=m) (h.row0.ndk _ _ ek) ey
 rw[ex]at e'
 cases e'
 rw[hv k,if_pos rfl]
 have hm:=SSt.moved_some em
 by_cases c:k%65536%st.size=st.mv
 ·obtain⟨b0,eb0⟩:=b5 (l:=d.A0) m0 (by rw[h.row0.la];exact m1)
  have ic:IsCell d st k b0 kv:= .inl ⟨by omega,eb0,by rw[c];exact ek⟩
  have yn:aF y k=none:=by
   cases q:aF y k with
   |none=>rfl
   |some v=>
    obtain⟨p,hp,e⟩:=Qf.mp (valV_in q)
    have:=h.new _ _ ey p hp
    rw[e]at this
    omega
  rw[h.val k b0 kv ic,yn]
  simp
 ·have ic:IsCell d st k c1 y:= .inr ⟨m,em,by omega,ec1,ey⟩
  have kn:aF kv k=none:=by
   cases q:aF kv k with
   |none=>rfl
   |some v=>
    obtain⟨p,hp,e⟩:=Qf.mp (valV_in q)
    have:=h.row0.home _ _ ek p hp
    rw[e]at this
    omega
  rw[kn,h.val k c1 y ic]
  rfl
theorem cj {α:Type} {l:List α} {i j:Nat} {x y:α} (e:(l.set i x)[j]?=some y):(i=j∧y=x)∨(i≠j∧l[j]?=some y):=by
 rw[Qm]at e
 by_cases z:i=j
 ·rw[if_pos z]at e
  split at e
  ·cases e;exact .inl ⟨z,rfl⟩
  ·cases e
 ·rw[if_neg z]at e
  exact .inr ⟨z,e⟩
theorem SlB.one (h:SlB t H a st d) (z:SzOk st) {m:Int} (em:st.nxt=some m) {kv:List (Int×V)} (ek:d.C0[st.mv.toNat]?=some kv) {b' dx:Addr} (nl:st.mv+1≠st.size)
  (ha:H' a=some (.ins t.aT dx (slF d.tb (st.mv+1) d.n))) (ht:H' d.tb=H d.tb) (h0:H' d.r0=some (.lst ((d.A0.set st.mv.toNat b').map V.ref))) (hb:H' b'=some (.dK [])) (hF:¬SlF a st d b')
  (hA:∀(j:Nat) b,d.A0[j]?=some b→j≠st.mv.toNat→H' b=H b) (hr:RowOk H' d.r1 d.A1 (kv.foldl (dA m) d.C1) m):
  SlB t H' a st.one {d with A0:=d.A0.set st.mv.toNat b',C0:=d.C0.set st.mv.toNat [],C1:=kv.foldl (dA m) d.C1}:=by
 obtain⟨pm,v0,v1,_⟩:=z.nx m em
 have hone:st.one={st with mv:=st.mv+1}:=by unfold SSt.one;rw[em];exact if_neg nl
 have hmv:({st with mv:=st.mv+1}:SSt).moved=st.mv+1:=SSt.moved_some (st:={st with mv:=st.mv+1}) em
 have hm:=SSt.moved_some em
 have nA0:b'∉d.A0:=λq=>hF (.inr (.inr (.inr (.inl q))))
 have nA1:b'∉d.A1:=λq=>hF (.inr (.inr (.inr (.inr (.inr q)))))
 rw[hone]
 have r1:=h.row1
 rw[em]at r1
 refine⟨⟨dx,by rw[hmv];exact ha⟩,by rw[ht];exact h.tbl,⟨h0,by rw[Qt];exact h.row0.la,by rw[Qt];exact h.row0.lc,λj b x e1 e2=>?_,λj x e=>?_,λi j b e1 e2=>?_,λj x e p hp=>?_⟩,?_,λb hb0 hb1=>?_,h.tr,h.tr1,λj x e lt=>?_,λj x e p hp=>?_,λk c x ic=>?_⟩
 ·rcases cj e1 with⟨q,rfl⟩|⟨q,e1⟩
  ·rcases cj e2 with⟨_,rfl⟩|⟨q2,_⟩
   ·exact hb
   ·exact absurd q q2
  ·rcases cj e2 with⟨q2,_⟩|⟨_,e2⟩
   ·exact absurd q2 q
   ·rw[hA j b e1 (Ne.symm q)];exact h.row0.cell j b x e1 e2
 ·rcases cj e with⟨_,rfl⟩|⟨_,e⟩
  ·exact Z0
  ·exact h.row0.ndk j x e
 ·have e1:(d.A0.set st.mv.toNat b')[i]?=some b:=e1
  have e2:(d.A0.set st.mv.toNat b')[j]?=some b:=e2
  rcases cj e1 with⟨q,y1⟩|⟨q,f1⟩<;>rcases cj e2 with⟨q2,y2⟩|⟨q2,f2⟩
  ·exact q.symm.trans q2
  ·rw[y1]at f2;exact absurd (Q0 f2) nA0
  ·rw[y2]at f1;exact absurd (Q0 f1) nA0
  ·exact h.row0.inj i j b f1 f2
 ·rcases cj e with⟨_,rfl⟩|⟨_,e⟩
  ·cases hp
  ·exact h.row0.home j x e p hp
 ·show match st.nxt with|none=>_|some m=>_
  rw[em]
  exact hr
 ·obtain⟨j,hj,e⟩:=QC (show b∈d.A0.set st.mv.toNat b' from hb0)
  rcases cj (Q3.mpr ⟨hj,e⟩)with⟨_,rfl⟩|⟨_,e⟩
  ·exact nA1 hb1
  ·exact h.dis b (Q0 e) hb1
 ·rw[hmv]at lt
  rcases cj e with⟨_,rfl⟩|⟨q,e⟩
  ·rfl
  ·exact h.old j x e (by omega)
 ·rw[hmv]
  show p.1%65536%st.size<st.mv+1
  obtain⟨y,ey⟩:∃y,d.C1[j]?=some y:=by
   have hj:j<(kv.foldl (dA m) d.C1).length:=(Q3.mp e).1
   rw[um]at hj
   exact⟨_,Q4 hj⟩
  obtain⟨x',e',hp',_⟩:=qz (m:=m) (h.row0.ndk _ _ ek) ey
  have e:(kv.foldl (dA m) d.C1)[j]?=some x:=e
  rw[e]at e'
  cases e'
  rcases hp' p hp with q|q
  ·have:=h.new j y ey p q
   omega
  ·obtain⟨p',hp',e3⟩:=Qf.mp q
   have:=h.row0.home _ _ ek p' hp'
   rw[e3]at this
   omega
 ·show aF x k=aF st.kv k
  rcases ic with⟨g0,f1,f2⟩|⟨m',em',g0,f1,f2⟩
  ·rw[hmv]at g0
   have g0:st.mv+1≤k%65536%st.size:=g0
   have f1:(d.A0.set st.mv.toNat b')[(k%65536%st.size).toNat]?=some c:=f1
   have f2:(d.C0.set st.mv.toNat [])[(k%65536%st.size).toNat]?=some x:=f2
   rcases cj f1 with⟨q,_⟩|⟨_,f1⟩
   ·omega
   ·rcases cj f2 with⟨q,_⟩|⟨_,f2⟩
    ·omega
    ·exact h.val k c x (.inl ⟨by omega,f1,f2⟩)
  ·rw[hmv]at g0
   have em':st.nxt=some m':=em'
   rw[em]at em'
   cases em'
   have g0:k%65536%st.size<st.mv+1:=g0
   exact h.movVal z em ek (by omega) f2
theorem SlB.last (h:SlB t H a st d) (z:SzOk st) {m:Int} (em:st.nxt=some m) {kv:List (Int×V)} (ek:d.C0[st.mv.toNat]?=some kv) {tb' dx:Addr} (l:st.mv+1=st.size)
  (ha:H' a=some (.ins t.aT dx (slF tb' 0 d.n))) (ht:H' tb'=some (.lst [.ref d.r1])) (hn:tb'≠d.r1) (hr:RowOk H' d.r1 d.A1 (kv.foldl (dA m) d.C1) m):
  SlB t H' a st.one ⟨tb',d.r1,d.r1,d.A1,[],kv.foldl (dA m) d.C1,[],d.n⟩:=by
 have hone:st.one={st with size:=m,nxt:=none,mv:=0}:=by unfold SSt.one;rw[em];exact if_pos l
 obtain⟨s4,_⟩:=cK z.pw
 rw[hone]
 refine⟨⟨dx,ha⟩,ht,hr,⟨rfl,rfl⟩,(λb _ q=>by cases q),hn,(λq=>by cases q),λj x e lt=>?_,(λj x e=>by simp at e),λk c x ic=>?_⟩
 ·have lt:(j:Int)<0:=lt
  omega
 ·rcases ic with⟨g0,f1,f2⟩|⟨m',em',_⟩
  ·have f2:(kv.foldl (dA m) d.C1)[(k%65536%m).toNat]?=some x:=f2
   obtain⟨m0,m1,m2⟩:=kR (k:=k) s4
   exact h.movVal z em ek (by omega) f2
  ·cases em'
theorem SlB.begin (h:SlB t H a st d) (en:st.nxt=none) {m:Int} {r:Addr} {A:List Addr} (ha:H' a=H a) (ht:H' d.tb=some (.lst [.ref d.r0,.ref r])) (h0:∀b,b=d.r0∨b∈d.A0→H' b=H b)
  (hr:RowOk H' r A (List.replicate m.toNat []) m) (nr:¬SlF a st d r) (nA:∀b∈A,¬SlF a st d b):SlB t H' a {st with nxt:=some m,mv:=0} {d with r1:=r,A1:=A,C1:=List.replicate m.toNat []}:=by
 obtain⟨dx,ho⟩:=h.obj
 have hm:=SSt.moved_none en
 refine⟨⟨dx,by rw[ha];rw[hm]at ho;exact ho⟩,ht,h.row0.frame h0,hr,λb q q2=>nA b q2 (.inr (.inr (.inr (.inl q)))),h.tr,λ_=>⟨λq=>nr (.inr (.inl q.symm)),λq=>nr (.inr (.inr (.inl q.symm)))⟩,λj x e lt=>?_,λj x e p hp=>?_,λk c x ic=>?_⟩
 ·have lt:(j:Int)<0:=lt
  omega
 ·have:=Zd (Q0 e)
  subst this
  cases hp
 ·rcases ic with⟨g0,f1,f2⟩|⟨m',em',g0,f1,f2⟩
  ·refine h.val k c x (.inl ⟨?_,f1,f2⟩)
   rw[hm]
   exact g0
  ·have g0:k%65536%st.size<0:=g0
   have f2:(List.replicate m.toNat ([]:List (Int×V)))[(k%65536%m').toNat]?=some x:=f2
   have:0≤k%65536%st.size:=by
    have hpos:(0:Int)≤st.size:=by rw[←h.row0.la];omega
    rcases Int.lt_or_eq_of_le hpos with q|q
    ·exact QF _ (by omega)
    ·rw[←q,Int.emod_zero];exact QF _ (by decide)
   omega
theorem SlB.fresh {dx tb r:Addr} {A:List Addr} (ha:H a=some (.ins t.aT dx (slF tb 0 0))) (ht:H tb=some (.lst [.ref r])) (hr:RowOk H r A (List.replicate 4 []) 4) (n:tb≠r):SlB t H a SSt.new ⟨tb,r,r,A,[],List.replicate 4 [],[],0⟩:=by
 refine⟨⟨dx,ha⟩,ht,hr,⟨rfl,rfl⟩,(λb _ q=>by cases q),n,(λq=>by cases q),λj x e lt=>?_,(λj x e=>by simp at e),λk c x ic=>?_⟩
 ·have lt:(j:Int)<0:=lt
  omega
 ·rcases ic with⟨g0,f1,f2⟩|⟨m',em',_⟩
  ·have f2:(List.replicate 4 ([]:List (Int×V)))[(k%65536%4).toNat]?=some x:=f2
   have:=Zd (Q0 f2)
   subst this
   rfl
  ·cases em'
theorem SlB.short (h:SlB t H a st d) (z:SzOk st) {k:Int} {c:Addr} {kv:List (Int×V)} (ic:IsCell d st k c kv):kv.length≤st.kv.length:=by
 obtain⟨_,_,nd⟩:=h.at ic
 have sub:∀x∈kv.map (·.1),x∈st.kv.map (·.1):=λx hx=>by
  obtain⟨p,hp,e⟩:=Qf.mp hx
  subst e
  refine mem_keys.mpr ?_
  have hs:=zi hp
  have:∃c',IsCell d st p.1 c' kv:=by
   rcases ic with⟨g0,f1,f2⟩|⟨m,em,g0,f1,f2⟩
   ·obtain⟨s4,_⟩:=cK z.pw
    obtain⟨m0,m1,m2⟩:=kR (k:=k) s4
    have e:=h.row0.home _ _ f2 p hp
    rw[m2]at e
    exact⟨c,.inl ⟨by rw[e];exact g0,by rw[e];exact f1,by rw[e];exact f2⟩⟩
   ·obtain⟨pm,_⟩:=z.nx m em
    obtain⟨s5,_⟩:=cK pm
    obtain⟨n0,n1,n2⟩:=kR (k:=k) s5
    have r1:=h.row1
    rw[em]at r1
    have e:=r1.home _ _ f2 p hp
    rw[n2]at e
    exact⟨c,.inr ⟨m,em,h.new _ _ f2 p hp,by rw[e];exact f1,by rw[e];exact f2⟩⟩
  obtain⟨c',ic'⟩:=this
  rw[←h.val p.1 c' kv ic']
  exact hs
 have:=ie nd sub
 rw[Q2,Q2]at this
 exact this
end
theorem rQ {m:Int}:∀{kv:List (Int×V)} {C:List (List (Int×V))} {j:Nat} {x y:List (Int×V)},C[j]?=some y→(kv.foldl (dA m) C)[j]?=some x→x.length≤y.length+kv.length
 | [],C,j,x,y,e,f=>by
  have f:C[j]?=some x:=f
  rw[e]at f
  cases f
  exact Q5 _
 |p::r,C,j,x,y,e,f=>by
  have h:=rQ (m:=m) (rR (m:=m) (p:=p) e) f
  have l:=bv y p.1 p.2
  rw[Q9]
  split at h<;>omega
section
variable {t:Adr} {H H':Hp} {a:Addr} {st:SSt} {d:SlD}
theorem SlB.short0 (h:SlB t H a st d) (z:SzOk st) {j:Nat} {kv:List (Int×V)} (e:d.C0[j]?=some kv):kv.length≤st.kv.length:=by
 cases kv with
 |nil=>exact Qk _
 |cons p r=>
  have hp:=h.row0.home j _ e p Q8
  have nj:¬(j:Int)<st.moved:=λq=>by have:=h.old j _ e q;cases this
  have ej:(p.1%65536%st.size).toNat=j:=by omega
  have hj:j<d.A0.length:=by
   have:=h.row0.la
   have:=h.row0.lc
   have:=(Q3.mp e).1
   omega
  exact h.short z (k:=p.1) (c:=d.A0[j]) (.inl ⟨by omega,by rw[ej];exact Q4 hj,by rw[ej];exact e⟩)
theorem SlB.short1 (h:SlB t H a st d) (z:SzOk st) {m:Int} (em:st.nxt=some m) {j:Nat} {kv:List (Int×V)} (e:d.C1[j]?=some kv):kv.length≤st.kv.length:=by
 have r1:=h.row1
 rw[em]at r1
 cases kv with
 |nil=>exact Qk _
 |cons p r=>
  have hp:=r1.home j _ e p Q8
  have nj:=h.new j _ e p Q8
  have ej:(p.1%65536%m).toNat=j:=by omega
  have hj:j<d.A1.length:=by
   have:=r1.la
   have:=r1.lc
   have:=(Q3.mp e).1
   omega
  exact h.short z (k:=p.1) (c:=d.A1[j]) (.inr ⟨m,em,nj,by rw[ej];exact Q4 hj,by rw[ej];exact e⟩)
end
theorem SzOk.new:SzOk SSt.new:=⟨by decide,λm e=>by cases e⟩
theorem SzOk.kv {st:SSt} {kvs:List (Int×V)} (z:SzOk st):SzOk {st with kv:=kvs}:=⟨z.pw,z.nx⟩
theorem SzOk.one {st:SSt} (z:SzOk st):SzOk st.one:=by
 unfold SSt.one
 cases e:st.nxt with
 |none=>exact z
 |some m=>
  obtain⟨pm,v0,v1,hh⟩:=z.nx m e
  show SzOk (if _ then _ else _)
  split
  ·exact⟨pm,λm' q=>by cases q⟩
  ·rename_i c
   refine⟨z.pw,λm' q=>?_⟩
   have q:some m=some m':=q
   cases q
   exact⟨pm,by show 0≤st.mv+1;omega,by show st.mv+1<st.size;omega,hh⟩
theorem BK {x:Int} (h:x∈([4,8,16,32,64,128,256]:List Int)) (c:x<256):2*x∈([4,8,16,32,64,128,256]:List Int):=by
 rcases jS h with rfl|rfl|rfl|rfl|rfl|rfl|rfl<;>first|decide|exact absurd c (by decide)
theorem zY {x:Int} (h:x∈([4,8,16,32,64,128,256]:List Int)) (c:4<x):x/2∈([4,8,16,32,64,128,256]:List Int)∧2*(x/2)=x:=by
 rcases jS h with rfl|rfl|rfl|rfl|rfl|rfl|rfl<;>first|decide|exact absurd c (by decide)
theorem zX {x:Int} (h:x∈([4,8,16,32,64,128,256]:List Int)):0<x:=by
 rcases jS h with rfl|rfl|rfl|rfl|rfl|rfl|rfl<;>decide
theorem SzOk.three {st:SSt} (z:SzOk st):SzOk st.three:=by
 unfold SSt.three
 cases e:st.nxt with
 |some m=>exact z
 |none=>
  show SzOk (if _ then _ else _)
  split
  ·rename_i c
   refine⟨z.pw,λm' q=>?_⟩
   cases q
   exact⟨BK z.pw c.2,Zi _,zX z.pw,.inl rfl⟩
  ·split
   ·rename_i c
    refine⟨z.pw,λm' q=>?_⟩
    cases q
    exact⟨(zY z.pw c.2).1,Zi _,zX z.pw,.inr (zY z.pw c.2).2⟩
   ·exact z
def SlA (_K:PySem.W.Frag) (t:Adr) (H:Hp) (a:Addr) (F:Addr→Prop) (st:SSt):Prop:=
 ∃d,SlB t H a st d∧(∀b,F b↔SlF a st d b)∧d.n=(st.kv.length:Int)∧(st.kv.map (·.1)).Nodup∧SzOk st
section
variable {K:PySem.W.Frag} {t:Adr} {H H':Hp} {a b:Addr} {F:Addr→Prop} {st:SSt}
theorem SlA.ins (h:SlA K t H a F st):∃dx fs,H a=some (.ins t.aT dx fs)∧∀m,NoM m→fs.lookup m=none:=by
 obtain⟨d,hb,_⟩:=h
 obtain⟨dx,ho⟩:=hb.obj
 exact⟨dx,_,ho,λm hm=>zV hm⟩
theorem SlA.dom (h:SlA K t H a F st) (hb:F b):∃o,H b=some o:=by
 obtain⟨d,h1,h2,_⟩:=h
 exact h1.dom ((h2 b).mp hb)
theorem SlA.frame (h:SlA K t H a F st) (f:∀b,F b→H' b=H b):SlA K t H' a F st:=by
 obtain⟨d,h1,h2,h3⟩:=h
 exact⟨d,h1.frame λb hb=>f b ((h2 b).mpr hb),h2,h3⟩
end
section
variable {K:PySem.W.Frag} {t:Adr} {H H':Hp} {a b p:Addr} {F:Addr→Prop} {st:SSt} {o:HO}
theorem SlA.same (h:SlA K t H a F st) (s:Same H H'):SlA K t H' a F st:=h.frame λb hb=>by
 obtain⟨o,e⟩:=h.dom hb
 rw[e]
 exact s b o e
theorem SlA.out (h:SlA K t H a F st) (e:H p=none):¬F p:=λz=>by
 obtain⟨o,q⟩:=h.dom z
 rw[q]at e
 cases e
theorem SlA.upd (h:SlA K t H a F st) (e:¬F p):SlA K t (L2.upd H p o) a F st:=h.frame λb hb=>ac λz=>e (z▸hb)
end
def mB (K:PySem.W.Frag) (t:Adr):Sp:=λvs H Q _=>∃(a dx:Addr),vs=[.ref a]∧H a=some (.ins t.aT dx [])∧H dx=some (.own a)∧∀H' F,SlA K t H' a F SSt.new→Fr (λb=>b=a∨b=dx) F H H'→Q .non H'
def oB (K:PySem.W.Frag) (t:Adr):Sp:=λvs H Q _=>∃(a:Addr) (k i:Int) (F:Addr→Prop) (st:SSt),vs=[.ref a,.int k,.int i]∧SlA K t H a F st∧0≤k∧st.kv.length<4096∧
 ∀H' F',SlA K t H' a F' (st.put k (.int i))→Fr F F' H H'→Q .non H'
def mC (K:PySem.W.Frag) (t:Adr):Sp:=λvs H Q E=>∃(a:Addr) (k:Int) (F:Addr→Prop) (st:SSt),vs=[.ref a,.int k]∧SlA K t H a F st∧0≤k∧
 ((aF st.kv k).isSome=true→st.kv.length<4096∧∀H' F',SlA K t H' a F' (st.drop k)→Fr F F' H H'→Q .non H')∧(aF st.kv k=none→False)
def oC (K:PySem.W.Frag) (t:Adr):Sp:=λvs H Q _=>∃(a:Addr) (k:Int) (F:Addr→Prop) (st:SSt),vs=[.ref a,.int k]∧SlA K t H a F st∧0≤k∧
 ∀H' F',SlA K t H' a F' st→Fr F F' H H'→Q (.bl (aF st.kv k).isSome) H'
def cv (l:List Int):Prop:=l.Pairwise (· < ·)
structure LvOk (ls:List (List Int)):Prop where
 ne:∀l∈ls,l≠[]
 le:∀l∈ls,l.length≤8
 nb:∀(i:Nat) (x y:List Int),ls[i]?=some x→ls[i+1]?=some y→5≤x.length+y.length
 up:cv ls.flatten
theorem LvOk.nil:LvOk []:=⟨(λ_ h=>by cases h),(λ_ h=>by cases h),(λi x y e=>by simp at e),List.Pairwise.nil⟩
theorem Bf {ls:List (List Int)} {i:Nat} {x:List Int} (e:ls[i]?=some x):ls=ls.take i++x::ls.drop (i+1):=by
 obtain⟨h,e⟩:=Q3.mp e
 rw[←e,←ZA h,QU]
theorem dM {ls:List (List Int)} {i:Nat} {x:List Int} (e:ls[i]?=some x):ls.flatten=(ls.take i).flatten++(x++(ls.drop (i+1)).flatten):=by
 conv=>lhs;rw[Bf e]
 rw[QZ,Zb]
theorem rise3 {a b c:List Int}:cv (a++(b++c))↔cv a∧cv b∧cv c∧(∀x∈a,∀y∈b,x<y)∧(∀x∈a,∀y∈c,x<y)∧∀x∈b,∀y∈c,x<y:=by
 unfold cv
 rw[Zj,Zj]
 constructor
 ·rintro ⟨h1,⟨h2,h3,h4⟩,h5⟩
  exact⟨h1,h2,h3,λx hx y hy=>h5 x hx y (QX _ hy),λx hx y hy=>h5 x hx y (Qn _ hy),h4⟩
 ·rintro ⟨h1,h2,h3,h4,h5,h6⟩
  refine⟨h1,⟨h2,h3,h6⟩,λx hx y hy=>?_⟩
  rcases Qb.mp hy with z|z
  ·exact h4 x hx y z
  ·exact h5 x hx y z
structure LeafOf (ls:List (List Int)) (k:Int) (i:Nat):Prop where
 le:i≤ls.length
 lo:∀(j:Nat) (x:List Int),j<i→ls[j]?=some x→∀y∈x,y<k
 hi:∀x,ls[i]?=some x→∃y∈x,k≤y
theorem rj {ls:List (List Int)} {i:Nat} {y:Int} (h:y∈(ls.take i).flatten):∃(j:Nat) (x:List Int),j<i∧ls[j]?=some x∧y∈x:=by
 obtain⟨x,hx,hy⟩:=Xe.mp h
 obtain⟨j,hj,e⟩:=QC hx
 rw[Qj]at hj
 rw[List.getElem_take]at e
 exact⟨j,x,by omega,Q3.mpr ⟨by omega,e⟩,hy⟩
theorem LeafOf.ahead {ls:List (List Int)} {k:Int} {i:Nat} (h:LeafOf ls k i):∀y∈(ls.take i).flatten,y<k:=λy hy=>by
 obtain⟨j,x,hj,e,hx⟩:=rj hy
 exact h.lo j x hj e y hx
theorem LeafOf.behind {ls:List (List Int)} {k:Int} {i:Nat} (o:LvOk ls) (h:LeafOf ls k i):∀y∈(ls.drop (i+1)).flatten,k<y:=λy hy=>by
 cases e:ls[i]? with
 |none=>
  have:ls.length≤i:=QT.mp e
  rw[ZN (by omega)]at hy
  cases hy
 |some x=>
  obtain⟨z,hz,le⟩:=h.hi x e
  have up:=o.up
  rw[dM e]at up
  have:=(rise3.mp up).2.2.2.2.2 z hz y hy
  omega
theorem LeafOf.mem {ls:List (List Int)} {k:Int} {i:Nat} (o:LvOk ls) (h:LeafOf ls k i):k∈ls.flatten↔∃x,ls[i]?=some x∧k∈x:=by
 constructor
 ·intro hk
  cases e:ls[i]? with
  |none=>
   have l:ls.length≤i:=QT.mp e
   have:ls.take i=ls:=QQ l
   have:=h.ahead k (by rw[this];exact hk)
   omega
  |some x=>
   rw[dM e]at hk
   rcases Qb.mp hk with z|z
   ·have:=h.ahead k z;omega
   ·rcases Qb.mp z with z|z
    ·exact⟨x,rfl,z⟩
    ·have:=h.behind o k z;omega
 ·rintro ⟨x,e,hk⟩
  exact Xe.mpr ⟨x,Q0 e,hk⟩
theorem sr:∀{l:List Int} {k:Int},cv l→k∉l→(∀x∈l.take (l.filter (λz=>decide (z<k))).length,x<k)∧∀x∈l.drop (l.filter (λz=>decide (z<k))).length,k<x
 | [],k,_,_=>⟨λx h=>by simp at h,λx h=>by simp at h⟩
 |a::r,k,up,nk=>by
  obtain⟨h1,h2⟩:=Z1.mp up
  have nr:k∉r:=λz=>nk (Q6 _ z)
  have na:a≠k:=λz=>nk (by rw[z];exact Q8)
  by_cases c:a<k
  ·obtain⟨i1,i2⟩:=sr h2 nr
   rw[QB,if_pos (by simpa using c),Q9,List.take_succ_cons,List.drop_succ_cons]
   refine⟨λx hx=>?_,i2⟩
   rcases Qe.mp hx with rfl|hx
   ·exact c
   ·exact i1 x hx
  ·have:(a::r).filter (λz=>decide (z<k))=[]:=by
    rw[ZO]
    intro x hx
    rcases Qe.mp hx with rfl|hx
    ·simpa using c
    ·have:=h1 x hx
     simp
     omega
   rw[this]
   refine⟨λx hx=>by simp at hx,λx hx=>?_⟩
   have hx:x∈a::r:=by simpa using hx
   rcases Qe.mp hx with rfl|hx
   ·omega
   ·have:=h1 x hx;omega
def dv (l:List Int) (k:Int):List Int:=l.take (l.filter (λz=>decide (z<k))).length++k::l.drop (l.filter (λz=>decide (z<k))).length
theorem xq {l:List Int} {k:Int}:(dv l k).length=l.length+1:=by
 have h:=Qr (λz=>decide (z<k)) l
 unfold dv
 rw[Qa,Q9,Qj,QV]
 omega
theorem insL_mem {l:List Int} {k x:Int}:x∈dv l k↔x=k∨x∈l:=by
 unfold dv
 rw[Qb,Qe]
 have:x∈l↔x∈l.take (l.filter (λz=>decide (z<k))).length∨x∈l.drop (l.filter (λz=>decide (z<k))).length:=by
  rw[←Qb,QU]
 rw[this]
 constructor
 ·rintro (h|h|h)
  ·exact .inr (.inl h)
  ·exact .inl h
  ·exact .inr (.inr h)
 ·rintro (h|h|h)
  ·exact .inr (.inl h)
  ·exact .inl h
  ·exact .inr (.inr h)
theorem vN {l:List Int} {k:Int} (up:cv l) (nk:k∉l):cv (dv l k):=by
 obtain⟨h1,h2⟩:=sr up nk
 have up':cv (l.take (l.filter (λz=>decide (z<k))).length++l.drop (l.filter (λz=>decide (z<k))).length):=by rw[QU];exact up
 obtain⟨u1,u2,u3⟩:=Zj.mp up'
 unfold dv
 refine Zj.mpr ⟨u1,Z1.mpr ⟨h2,u2⟩,λx hx y hy=>?_⟩
 rcases Qe.mp hy with rfl|hy
 ·exact h1 x hx
 ·exact u3 x hx y hy
structure AddAt (ls:List (List Int)) (k:Int) (i:Nat) (x:List Int):Prop where
 at_:ls[i]?=some x
 lo:∀y∈(ls.take i).flatten,y<k
 hi:∀y∈(ls.drop (i+1)).flatten,k<y
theorem LeafOf.add {ls:List (List Int)} {k:Int} {i:Nat} (o:LvOk ls) (h:LeafOf ls k i) (ne:ls≠[]):∃x,AddAt ls k (min i (ls.length-1)) x:=by
 have hl:0<ls.length:=QI.mpr ne
 by_cases c:i<ls.length
 ·have:min i (ls.length-1)=i:=by omega
  rw[this]
  exact⟨ls[i],Q4 c,h.ahead,h.behind o⟩
 ·have le:=h.le
  have:min i (ls.length-1)=ls.length-1:=by omega
  rw[this]
  have hlt:ls.length-1<ls.length:=by omega
  refine⟨ls[ls.length-1],Q4 hlt,λy hy=>?_,λy hy=>?_⟩
  ·obtain⟨j,x,hj,e,hx⟩:=rj hy
   exact h.lo j x (by omega) e y hx
  ·rw[ZN (by omega)]at hy
   cases hy
theorem qj {ls:List (List Int)} {i:Nat} {x y:List Int} (e:ls[i]?=some x):ls.set i y=ls.take i++y::ls.drop (i+1):=by
 have hi:=(Q3.mp e).1
 rw[List.set_eq_take_append_cons_drop,if_pos hi]
theorem jP {ls:List (List Int)} {i:Nat} {x y:List Int} (e:ls[i]?=some x):(ls.set i y).flatten=(ls.take i).flatten++(y++(ls.drop (i+1)).flatten):=by
 rw[qj e,QZ,Zb]
theorem AddAt.set {ls:List (List Int)} {k:Int} {i:Nat} {x:List Int} (o:LvOk ls) (h:AddAt ls k i x) (nk:k∉ls.flatten):cv (ls.set i (dv x k)).flatten∧∀z,z∈(ls.set i (dv x k)).flatten↔z=k∨z∈ls.flatten:=by
 have up:=o.up
 rw[dM h.at_]at up nk
 obtain⟨u1,u2,u3,u4,u5,u6⟩:=rise3.mp up
 have nx:k∉x:=λz=>nk (Qn _ (QX _ z))
 rw[jP h.at_,dM h.at_]
 refine⟨rise3.mpr ⟨u1,vN u2 nx,u3,λa ha b hb=>?_,u5,λa ha b hb=>?_⟩,λz=>?_⟩
 ·rcases insL_mem.mp hb with rfl|hb
  ·exact h.lo a ha
  ·exact u4 a ha b hb
 ·rcases insL_mem.mp ha with rfl|ha
  ·exact h.hi b hb
  ·exact u6 a ha b hb
 ·rw[Qb,Qb,Qb,Qb,insL_mem]
  constructor
  ·rintro (h|(h|h)|h)
   ·exact .inr (.inl h)
   ·exact .inl h
   ·exact .inr (.inr (.inl h))
   ·exact .inr (.inr (.inr h))
  ·rintro (h|h|h|h)
   ·exact .inr (.inl (.inl h))
   ·exact .inl h
   ·exact .inr (.inl (.inr h))
   ·exact .inr (.inr h)
theorem j7 {ls:List (List Int)} {i j:Nat} {x y z:List Int} (e:ls[i]?=some x) (f:(ls.set i y)[j]?=some z):(i=j∧z=y)∨(i≠j∧ls[j]?=some z):=by
 rw[Qm]at f
 by_cases c:i=j
 ·rw[if_pos c]at f
  split at f
  ·cases f;exact .inl ⟨c,rfl⟩
  ·cases f
 ·rw[if_neg c]at f
  exact .inr ⟨c,f⟩
theorem mi {ls:List (List Int)} {i:Nat} {x y z:List Int} (e:ls[i]?=some x) (h:z∈ls.set i y):z=y∨z∈ls:=by
 obtain⟨j,hj,ez⟩:=QC h
 rcases j7 e (Q3.mpr ⟨hj,ez⟩)with⟨_,q⟩|⟨_,q⟩
 ·exact .inl q
 ·exact .inr (Q0 q)
theorem LvOk.grown {ls:List (List Int)} {i:Nat} {x y:List Int} (o:LvOk ls) (e:ls[i]?=some x) (l1:x.length≤y.length) (l2:y.length≤8) (up:cv (ls.set i y).flatten):LvOk (ls.set i y):=by
 have hx:=o.ne x (Q0 e)
 have px:0<x.length:=QI.mpr hx
 refine⟨λl hl=>?_,λl hl=>?_,λj a b f g=>?_,up⟩
 ·rcases mi e hl with rfl|hl
  ·exact Z6 (by omega)
  ·exact o.ne l hl
 ·rcases mi e hl with rfl|hl
  ·exact l2
  ·exact o.le l hl
 ·rcases j7 e f with⟨c,h1⟩|⟨c,f1⟩<;>rcases j7 e g with⟨c',h2⟩|⟨c',g1⟩
  ·omega
  ·subst c
   have:=o.nb i x b e g1
   rw[h1]
   omega
  ·rw[c']at e
   have:=o.nb j a x f1 e
   rw[h2]
   omega
  ·exact o.nb j a b f1 g1
theorem LvOk.parted {ls:List (List Int)} {i:Nat} {x a b:List Int} (o:LvOk ls) (e:ls[i]?=some x) (la:a.length=4) (lb:b.length=5) (up:cv (ls.set i (a++b)).flatten):
  LvOk ((ls.set i a).take (i+1)++b::(ls.set i a).drop (i+1))∧((ls.set i a).take (i+1)++b::(ls.set i a).drop (i+1)).flatten=(ls.set i (a++b)).flatten:=by
 have hi:=(Q3.mp e).1
 have lt:(ls.take i).length=i:=by rw[Qj];omega
 have e1:(ls.set i a).take (i+1)++b::(ls.set i a).drop (i+1)=ls.take i++a::b::ls.drop (i+1):=by
  rw[qj (y:=a) e]
  have h1:(ls.take i++a::ls.drop (i+1)).take (i+1)=ls.take i++ [a]:=by
   rw[List.take_append,lt,QQ (by omega)]
   have:i+1-i=1:=by omega
   rw[this]
   rfl
  have h2:(ls.take i++a::ls.drop (i+1)).drop (i+1)=ls.drop (i+1):=by
   rw[List.drop_append,lt,ZN (by omega)]
   have:i+1-i=1:=by omega
   rw[this]
   rfl
  rw[h1,h2,X8]
  rfl
 have e2:(ls.take i++a::b::ls.drop (i+1)).flatten=(ls.set i (a++b)).flatten:=by
  rw[jP e,QZ,Zb,Zb,X8]
 rw[e1]
 refine⟨⟨λl hl=>?_,λl hl=>?_,λj p q f g=>?_,by rw[e2];exact up⟩,e2⟩
 ·rcases Qb.mp hl with h|h
  ·exact o.ne l (Zk h)
  ·rcases Qe.mp h with rfl|h
   ·exact Z6 (by omega)
   ·rcases Qe.mp h with rfl|h
    ·exact Z6 (by omega)
    ·exact o.ne l (Zw h)
 ·rcases Qb.mp hl with h|h
  ·exact o.le l (Zk h)
  ·rcases Qe.mp h with rfl|h
   ·omega
   ·rcases Qe.mp h with rfl|h
    ·omega
    ·exact o.le l (Zw h)
 ·have look:∀(j:Nat) (p:List Int),(ls.take i++a::b::ls.drop (i+1))[j]?=some p→(j<i∧ls[j]?=some p)∨(j=i∧p=a)∨(j=i+1∧p=b)∨(i+2≤j∧ls[j-1]?=some p):=λj p f=>by
   rw[ZX,lt]at f
   split at f
   ·rename_i c
    rw[List.getElem?_take,if_pos c]at f
    exact .inl ⟨c,f⟩
   ·rename_i c
    rcases(show j=i∨j=i+1∨i+2≤j by omega)with rfl|rfl|h
    ·have:j-j=0:=by omega
     rw[this]at f
     cases f
     exact .inr (.inl ⟨rfl,rfl⟩)
    ·have:i+1-i=1:=by omega
     rw[this]at f
     cases f
     exact .inr (.inr (.inl ⟨rfl,rfl⟩))
    ·obtain⟨n,rfl⟩:∃n,j=i+2+n:=⟨j-(i+2),by omega⟩
     have:i+2+n-i=n+1+1:=by omega
     rw[this,QY,QY,X4]at f
     refine .inr (.inr (.inr ⟨h,?_⟩))
     have:i+2+n-1=i+1+n:=by omega
     rw[this]
     exact f
  have pos:∀(j:Nat) (p:List Int),ls[j]?=some p→1≤p.length:=λj p f=>QI.mpr (o.ne p (Q0 f))
  rcases look j p f with⟨c,f1⟩|⟨c,h1⟩|⟨c,h1⟩|⟨c,f1⟩<;>rcases look (j+1) q g with⟨c',g1⟩|⟨c',h2⟩|⟨c',h2⟩|⟨c',g1⟩<;>(try rw[h1])<;>(try rw[h2])<;>(try omega)
  ·exact o.nb j p q f1 g1
  ·have:=pos j p f1;omega
  ·have:j+1-1=j-1+1:=by omega
   rw[this]at g1
   exact o.nb (j-1) p q f1 g1
def lvF (L:Addr):List (Str×V):=[("leaves",.ref L)]
theorem bY {L:Addr}:(lvF L).lookup ("leaves":Str)=some (.ref L):=by
 have hb:(("leaves":Str)==("leaves":Str))=true:=beq_iff_eq.mpr rfl
 unfold lvF
 simp only[List.lookup,hb]
theorem Ae {L:Addr} {m:Str} (h:m≠("leaves":Str)):(lvF L).lookup m=none:=by
 have hb:(m==("leaves":Str))=false:=beq_eq_false_iff_ne.mpr h
 unfold lvF
 simp only[List.lookup,hb]
structure LvB (t:Adr) (H:Hp) (a L:Addr) (A:List Addr) (ls:List (List Int)):Prop where
 obj:∃dx,H a=some (.ins t.bg dx (lvF L))
 lst:H L=some (.lst (A.map V.ref))
 len:A.length=ls.length
 leaf:∀(j:Nat) (b:Addr) (l:List Int),A[j]?=some b→ls[j]?=some l→H b=some (.lst (l.map V.int))
 inj:∀(i j:Nat) (b:Addr),A[i]?=some b→A[j]?=some b→i=j
 nL:L∉A
def LvF (a L:Addr) (A:List Addr):Addr→Prop:=λb=>b=a∨b=L∨b∈A
section
variable {t:Adr} {H H':Hp} {a L b:Addr} {A:List Addr} {ls:List (List Int)}
theorem LvB.at (h:LvB t H a L A ls) {i:Nat} {x:List Int} (e:ls[i]?=some x):∃c,A[i]?=some c∧H c=some (.lst (x.map V.int)):=by
 have hi:i<A.length:=by rw[h.len];exact(Q3.mp e).1
 exact⟨A[i],Q4 hi,h.leaf i _ x (Q4 hi) e⟩
theorem LvB.has (h:LvB t H a L A ls) (hb:b∈A):∃(j:Nat) (l:List Int),A[j]?=some b∧ls[j]?=some l∧H b=some (.lst (l.map V.int)):=by
 obtain⟨j,hj,e⟩:=QC hb
 have hc:j<ls.length:=by rw[←h.len];exact hj
 have e1:A[j]?=some b:=by rw[Q4 hj,e]
 exact⟨j,ls[j],e1,Q4 hc,h.leaf j b _ e1 (Q4 hc)⟩
theorem LvB.frame (h:LvB t H a L A ls) (f:∀b,LvF a L A b→H' b=H b):LvB t H' a L A ls:=by
 obtain⟨dx,ho⟩:=h.obj
 exact⟨⟨dx,by rw[f a (.inl rfl)];exact ho⟩,by rw[f L (.inr (.inl rfl))];exact h.lst,h.len,λj b l e1 e2=>by rw[f b (.inr (.inr (Q0 e1)))];exact h.leaf j b l e1 e2,h.inj,h.nL⟩
theorem LvB.dom (h:LvB t H a L A ls) (hb:LvF a L A b):∃o,H b=some o:=by
 obtain⟨dx,ho⟩:=h.obj
 rcases hb with rfl|rfl|hb
 ·exact⟨_,ho⟩
 ·exact⟨_,h.lst⟩
 ·obtain⟨_,_,_,_,q⟩:=h.has hb
  exact⟨_,q⟩
theorem LvB.same (h:LvB t H a L A ls) (s:Same H H'):LvB t H' a L A ls:=h.frame λb hb=>by
 obtain⟨o,e⟩:=h.dom hb
 rw[e,s b o e]
theorem LvB.out (h:LvB t H a L A ls) {p:Addr} (n:H p=none):¬LvF a L A p:=λz=>by
 obtain⟨o,e⟩:=h.dom z
 rw[n]at e
 cases e
theorem LvB.write (h:LvB t H a L A ls) {i:Nat} {c:Addr} {x y:List Int} (ec:A[i]?=some c) (ex:ls[i]?=some x):LvB t (upd H c (.lst (y.map V.int))) a L A (ls.set i y):=by
 obtain⟨dx,ho⟩:=h.obj
 have hc:=h.leaf i c x ec ex
 have cA:=Q0 ec
 refine⟨⟨dx,by rw[ac (bJ ho hc (by intro z;cases z))];exact ho⟩,by rw[ac (λz=>h.nL (by rw[z];exact cA))];exact h.lst,by rw[Qt];exact h.len,λj b l e1 e2=>?_,h.inj,h.nL⟩
 rw[Qm]at e2
 by_cases z:i=j
 ·subst z
  rw[ec]at e1
  cases e1
  rw[if_pos rfl]at e2
  split at e2
  ·cases e2;exact af
  ·cases e2
 ·rw[if_neg z]at e2
  rw[ac (λy=>z (h.inj i j c ec (by rw[←y];exact e1)))]
  exact h.leaf j b l e1 e2
theorem LvB.swap (h:LvB t H a L A ls) {i:Nat} {c n:Addr} {x y:List Int} (ec:A[i]?=some c) (ex:ls[i]?=some x) (hn:H n=some (.lst (y.map V.int))) (nF:¬LvF a L A n):LvB t (upd H L (.lst ((A.set i n).map V.ref))) a L (A.set i n) (ls.set i y):=by
 obtain⟨dx,ho⟩:=h.obj
 have nA:n∉A:=λz=>nF (.inr (.inr z))
 have nL:n≠L:=λz=>nF (.inr (.inl z))
 refine⟨⟨dx,by rw[ac (bJ ho h.lst (by intro z;cases z))];exact ho⟩,af,by rw[Qt,Qt];exact h.len,λj b l e1 e2=>?_,λj k b e1 e2=>?_,λz=>?_⟩
 ·rw[Qm]at e1 e2
  by_cases z:i=j
  ·rw[if_pos z]at e1 e2
   split at e1
   ·cases e1
    split at e2
    ·cases e2
     rw[ac nL];exact hn
    ·cases e2
   ·cases e1
  ·rw[if_neg z]at e1 e2
   rw[ac (λy=>h.nL (by rw[←y];exact Q0 e1))]
   exact h.leaf j b l e1 e2
 ·rw[Qm]at e1 e2
  by_cases z:i=j
  ·rw[if_pos z]at e1
   split at e1
   ·cases e1
    by_cases w:i=k
    ·exact z.symm.trans w
    ·rw[if_neg w]at e2
     exact absurd (Q0 e2) nA
   ·cases e1
  ·rw[if_neg z]at e1
   by_cases w:i=k
   ·rw[if_pos w]at e2
    split at e2
    ·cases e2
     exact absurd (Q0 e1) nA
    ·cases e2
   ·rw[if_neg w]at e2
    exact h.inj j k b e1 e2
 ·obtain⟨j,hj,e⟩:=QC z
  have e1:=Q3.mpr ⟨hj,e⟩
  rw[Qm]at e1
  by_cases w:i=j
  ·rw[if_pos w]at e1
   split at e1
   ·cases e1;exact nL rfl
   ·cases e1
  ·rw[if_neg w]at e1
   exact h.nL (Q0 e1)
theorem ins_get {α:Type} {l:List α} {i j:Nat} {x y:α} (hi:i≤l.length) (e:(l.take i++x::l.drop i)[j]?=some y):(j<i∧l[j]?=some y)∨(j=i∧y=x)∨(i<j∧l[j-1]?=some y):=by
 have lt:(l.take i).length=i:=by rw[Qj];omega
 rw[ZX,lt]at e
 split at e
 ·rename_i c
  rw[List.getElem?_take,if_pos c]at e
  exact .inl ⟨c,e⟩
 ·rename_i c
  rcases(show j=i∨i<j by omega)with rfl|h
  ·have:j-j=0:=by omega
   rw[this]at e
   cases e
   exact .inr (.inl ⟨rfl,rfl⟩)
  ·obtain⟨n,rfl⟩:∃n,j=i+1+n:=⟨j-(i+1),by omega⟩
   have:i+1+n-i=n+1:=by omega
   rw[this,QY,X4]at e
   have:i+1+n-1=i+n:=by omega
   exact .inr (.inr ⟨h,by rw[this];exact e⟩)
theorem LvB.insert (h:LvB t H a L A ls) {i:Nat} {n:Addr} {y:List Int} (hi:i≤A.length) (hn:H n=some (.lst (y.map V.int))) (nF:¬LvF a L A n):
  LvB t (upd H L (.lst ((A.take i++n::A.drop i).map V.ref))) a L (A.take i++n::A.drop i) (ls.take i++y::ls.drop i):=by
 obtain⟨dx,ho⟩:=h.obj
 have nA:n∉A:=λz=>nF (.inr (.inr z))
 have nL:n≠L:=λz=>nF (.inr (.inl z))
 have hi2:i≤ls.length:=by rw[←h.len];exact hi
 refine⟨⟨dx,by rw[ac (bJ ho h.lst (by intro z;cases z))];exact ho⟩,af,?_,λj b l e1 e2=>?_,λj k b e1 e2=>?_,λz=>?_⟩
 ·have:=h.len
  rw[Qa,Qa,Q9,Q9,Qj,Qj,QV,QV]
  omega
 ·rcases ins_get hi e1 with⟨c1,f1⟩|⟨c1,f1⟩|⟨c1,f1⟩<;>rcases ins_get hi2 e2 with⟨c2,f2⟩|⟨c2,f2⟩|⟨c2,f2⟩<;>(try omega)
  ·rw[ac (λy=>h.nL (by rw[←y];exact Q0 f1))]
   exact h.leaf j b l f1 f2
  ·rw[f1,f2,ac nL];exact hn
  ·rw[ac (λy=>h.nL (by rw[←y];exact Q0 f1))]
   exact h.leaf (j-1) b l f1 f2
 ·rcases ins_get hi e1 with⟨c1,f1⟩|⟨c1,f1⟩|⟨c1,f1⟩<;>rcases ins_get hi e2 with⟨c2,f2⟩|⟨c2,f2⟩|⟨c2,f2⟩
  ·exact h.inj j k b f1 f2
  ·rw[f2]at f1;exact absurd (Q0 f1) nA
  ·have:=h.inj _ _ b f1 f2;omega
  ·rw[f1]at f2;exact absurd (Q0 f2) nA
  ·omega
  ·rw[f1]at f2;exact absurd (Q0 f2) nA
  ·have:=h.inj _ _ b f1 f2;omega
  ·rw[f2]at f1;exact absurd (Q0 f1) nA
  ·have:=h.inj _ _ b f1 f2;omega
 ·rcases Qb.mp z with z|z
  ·exact h.nL (Zk z)
  ·rcases Qe.mp z with z|z
   ·exact nL z.symm
   ·exact h.nL (Zw z)
theorem iJ {α:Type} {l:List α} {i j:Nat} {y:α} (e:(l.eraseIdx i)[j]?=some y):(j<i∧l[j]?=some y)∨(i≤j∧l[j+1]?=some y):=by
 rw[List.getElem?_eraseIdx]at e
 split at e
 ·rename_i c;exact .inl ⟨c,e⟩
 ·rename_i c;exact .inr ⟨by omega,e⟩
theorem LvB.erase (h:LvB t H a L A ls) {i:Nat}:LvB t (upd H L (.lst ((A.eraseIdx i).map V.ref))) a L (A.eraseIdx i) (ls.eraseIdx i):=by
 obtain⟨dx,ho⟩:=h.obj
 refine⟨⟨dx,by rw[ac (bJ ho h.lst (by intro z;cases z))];exact ho⟩,af,?_,λj b l e1 e2=>?_,λj k b e1 e2=>?_,λz=>h.nL (QW z)⟩
 ·rw[ZY,ZY,h.len]
 ·have bA:b∈A:=QW (Q0 e1)
  rw[ac (λy=>h.nL (by rw[←y];exact bA))]
  rcases iJ e1 with⟨c1,f1⟩|⟨c1,f1⟩<;>rcases iJ e2 with⟨c2,f2⟩|⟨c2,f2⟩<;>(try omega)
  ·exact h.leaf j b l f1 f2
  ·exact h.leaf (j+1) b l f1 f2
 ·rcases iJ e1 with⟨c1,f1⟩|⟨c1,f1⟩<;>rcases iJ e2 with⟨c2,f2⟩|⟨c2,f2⟩
  ·exact h.inj j k b f1 f2
  ·have:=h.inj _ _ b f1 f2;omega
  ·have:=h.inj _ _ b f1 f2;omega
  ·have:=h.inj _ _ b f1 f2;omega
end
theorem pq {ls:List (List Int)} (up:cv ls.flatten) {i j:Nat} {x y:List Int} (ex:ls[i]?=some x) (ey:ls[j]?=some y) (h:i<j):∀p∈x,∀q∈y,p<q:=λp hp q hq=>by
 rw[dM ex]at up
 refine(rise3.mp up).2.2.2.2.2 p hp q (Xe.mpr ⟨y,?_,hq⟩)
 refine Q0 (i:=j-(i+1)) ?_
 rw[X4]
 have:i+1+(j-(i+1))=j:=by omega
 rw[this]
 exact ey
theorem yO {ls:List (List Int)} (up:cv ls.flatten) {i:Nat} {x:List Int} (ex:ls[i]?=some x):cv x:=by
 rw[dM ex]at up
 exact(rise3.mp up).2.1
theorem xm {x:List Int} (up:cv x) (ne:x≠[]):∃m,x[x.length-1]?=some m∧m∈x∧∀y∈x,y≤m:=by
 have hl:=QI.mpr ne
 have hlt:x.length-1<x.length:=by omega
 refine⟨x[x.length-1],Q4 hlt,Zg hlt,λy hy=>?_⟩
 obtain⟨j,hj,e⟩:=QC hy
 rcases(show j=x.length-1∨j<x.length-1 by omega)with h|h
 ·subst h;rw[e];exact Zi _
 ·have:=Z5.mp up j (x.length-1) hj hlt h
  rw[e]at this
  omega
structure LvN (ls:List (List Int)) (E:Nat→Prop):Prop where
 ne:∀l∈ls,l≠[]
 le:∀l∈ls,l.length≤8
 nb:∀(i:Nat) (x y:List Int),ls[i]?=some x→ls[i+1]?=some y→E i∨5≤x.length+y.length
 up:cv ls.flatten
theorem LvN.ok {ls:List (List Int)} {E:Nat→Prop} (h:LvN ls E) (no:∀i,¬E i):LvOk ls:=⟨h.ne,h.le,λi x y e1 e2=>(h.nb i x y e1 e2).resolve_left (no i),h.up⟩
def iS (ls:List (List Int)) (i:Nat):List (List Int):=match ls[i]?,ls[i+1]? with
 |some x,some y=>if x.length+y.length<5 then(ls.set i (x++y)).eraseIdx (i+1)else ls
 |_,_=>ls
theorem nU {ls:List (List Int)} {i:Nat} (h:ls.length≤i+1):iS ls i=ls:=by
 unfold iS
 have:ls[i+1]?=none:=QT.mpr h
 rw[this]
 split
 ·rename_i h2;cases h2
 ·rfl
theorem rY {ls:List (List Int)} {i:Nat} {x y:List Int} (ex:ls[i]?=some x) (ey:ls[i+1]?=some y):iS ls i=if x.length+y.length<5 then(ls.set i (x++y)).eraseIdx (i+1)else ls:=by
 unfold iS
 rw[ex,ey]
theorem vL {ls:List (List Int)} {i:Nat}:(iS ls i).length≤ls.length∧ls.length≤(iS ls i).length+1:=by
 unfold iS
 split
 ·split
  ·rw[ZY,Qt]
   split<;>omega
  ·omega
 ·omega
theorem nS {ls:List (List Int)} {i j:Nat} {z v:List Int} (e:((ls.set i z).eraseIdx (i+1))[j]?=some v):(j<i∧ls[j]?=some v)∨(j=i∧v=z)∨(i<j∧ls[j+1]?=some v):=by
 rw[List.getElem?_eraseIdx]at e
 split at e
 ·rename_i c
  rw[Qm]at e
  by_cases h:i=j
  ·rw[if_pos h]at e
   split at e
   ·cases e;exact .inr (.inl ⟨h.symm,rfl⟩)
   ·cases e
  ·rw[if_neg h]at e
   exact .inl ⟨by omega,e⟩
 ·rename_i c
  rw[Qm,if_neg (by omega)]at e
  exact .inr (.inr ⟨by omega,e⟩)
theorem vK {ls:List (List Int)} {i:Nat} {x y:List Int} (ex:ls[i]?=some x) (ey:ls[i+1]?=some y):((ls.set i (x++y)).eraseIdx (i+1)).flatten=ls.flatten:=by
 have hi:=(Q3.mp ex).1
 have lt:(ls.take i).length=i:=by rw[Qj];omega
 have hy:ls.drop (i+1)=y::ls.drop (i+2):=by
  obtain⟨h,e⟩:=Q3.mp ey
  rw[←e,←ZA h]
 have e1:(ls.set i (x++y)).eraseIdx (i+1)=ls.take i++(x++y)::ls.drop (i+2):=by
  rw[qj ex,hy,List.eraseIdx_append_of_length_le (by omega),lt]
  have:i+1-i=1:=by omega
  rw[this]
  rfl
 rw[e1,dM ex,hy,QZ,Zb,Zb,X8]
theorem LvN.join {ls:List (List Int)} {E:Nat→Prop} {i:Nat} (h:LvN ls E) (hE:∀j,E j→j=i∨j+1=i):LvN (iS ls i) (λj=>j+1=i∧E j)∧(iS ls i).flatten=ls.flatten:=by
 cases ex:ls[i]? with
 |none=>
  have hl:ls.length≤i:=QT.mp ex
  rw[nU (by omega)]
  refine⟨⟨h.ne,h.le,λj x y e1 e2=>?_,h.up⟩,rfl⟩
  rcases h.nb j x y e1 e2 with z|z
  ·rcases hE j z with rfl|w
   ·rw[ex]at e1;cases e1
   ·exact .inl ⟨w,z⟩
  ·exact .inr z
 |some x=>
  cases ey:ls[i+1]? with
  |none=>
   have hl:ls.length≤i+1:=QT.mp ey
   rw[nU hl]
   refine⟨⟨h.ne,h.le,λj x' y e1 e2=>?_,h.up⟩,rfl⟩
   rcases h.nb j x' y e1 e2 with z|z
   ·rcases hE j z with rfl|w
    ·rw[ey]at e2;cases e2
    ·exact .inl ⟨w,z⟩
   ·exact .inr z
  |some y=>
   rw[rY ex ey]
   by_cases c:x.length+y.length<5
   ·rw[if_pos c]
    have fl:=vK ex ey
    have mem:∀v∈(ls.set i (x++y)).eraseIdx (i+1),v=x++y∨v∈ls:=λv hv=>by
     obtain⟨j,hj,e⟩:=QC hv
     rcases nS (Q3.mpr ⟨hj,e⟩)with⟨_,q⟩|⟨_,q⟩|⟨_,q⟩
     ·exact .inr (Q0 q)
     ·exact .inl q
     ·exact .inr (Q0 q)
    have px:=QI.mpr (h.ne x (Q0 ex))
    have lxy:(x++y).length=x.length+y.length:=Qa
    refine⟨⟨λv hv=>?_,λv hv=>?_,λj u v e1 e2=>?_,by rw[fl];exact h.up⟩,fl⟩
    ·rcases mem v hv with rfl|q
     ·exact Z6 (by omega)
     ·exact h.ne v q
    ·rcases mem v hv with rfl|q
     ·omega
     ·exact h.le v q
    ·rcases nS e1 with⟨c1,f1⟩|⟨c1,f1⟩|⟨c1,f1⟩<;>rcases nS e2 with⟨c2,f2⟩|⟨c2,f2⟩|⟨c2,f2⟩<;>(try omega)
     ·rcases h.nb j u v f1 f2 with z|z
      ·rcases hE j z with w|w
       ·omega
       ·omega
      ·exact .inr z
     ·rcases h.nb j u x f1 (by rw[c2];exact ex)with z|z
      ·exact .inl ⟨c2,z⟩
      ·rw[f2];exact .inr (by omega)
     ·have e3:ls[i+1+1]?=some v:=by rw[←c1];exact f2
      rcases h.nb (i+1) y v ey e3 with z|z
      ·rcases hE (i+1) z with w|w<;>omega
      ·rw[f1];exact .inr (by omega)
     ·rcases h.nb (j+1) u v f1 f2 with z|z
      ·rcases hE (j+1) z with w|w<;>omega
      ·exact .inr z
   ·rw[if_neg c]
    refine⟨⟨h.ne,h.le,λj u v e1 e2=>?_,h.up⟩,rfl⟩
    rcases h.nb j u v e1 e2 with z|z
    ·rcases hE j z with w|w
     ·subst w
      rw[ex]at e1
      rw[ey]at e2
      cases e1;cases e2
      exact .inr (by omega)
     ·exact .inl ⟨w,z⟩
    ·exact .inr z
theorem tE {l:List Int} (h:cv l):l.Nodup:=h.imp λh=>Int.ne_of_lt h
theorem LvOk.gone {ls:List (List Int)} {i:Nat} {x:List Int} {k:Int} (o:LvOk ls) (ex:ls[i]?=some x) (hk:k∈x):cv (ls.set i (x.erase k)).flatten∧∀z,z∈(ls.set i (x.erase k)).flatten↔z≠k∧z∈ls.flatten:=by
 have up:=o.up
 rw[dM ex]at up
 obtain⟨u1,u2,u3,u4,u5,u6⟩:=rise3.mp up
 have sub:(x.erase k).Sublist x:=List.erase_sublist
 have nx:=tE u2
 rw[jP ex,dM ex]
 refine⟨rise3.mpr ⟨u1,u2.sublist sub,u3,λa ha b hb=>u4 a ha b (sub.subset hb),u5,λa ha b hb=>u6 a (sub.subset ha) b hb⟩,λz=>?_⟩
 rw[Qb,Qb,Qb,Qb,nx.mem_erase_iff]
 constructor
 ·rintro (h|⟨h1,h2⟩|h)
  ·have:=u4 z h k hk
   exact⟨by omega,.inl h⟩
  ·exact⟨h1,.inr (.inl h2)⟩
  ·have:=u6 k hk z h
   exact⟨by omega,.inr (.inr h)⟩
 ·rintro ⟨h0,h|h|h⟩
  ·exact .inl h
  ·exact .inr (.inl ⟨h0,h⟩)
  ·exact .inr (.inr h)
theorem LvOk.shrunk {ls:List (List Int)} {i:Nat} {x y:List Int} (o:LvOk ls) (ex:ls[i]?=some x) (ny:y≠[]) (ly:y.length≤x.length) (up:cv (ls.set i y).flatten):LvN (ls.set i y) (λj=>j=i∨j+1=i):=by
 have hx:=o.le x (Q0 ex)
 refine⟨λl hl=>?_,λl hl=>?_,λj a b f g=>?_,up⟩
 ·rcases mi ex hl with rfl|hl
  ·exact ny
  ·exact o.ne l hl
 ·rcases mi ex hl with rfl|hl
  ·omega
  ·exact o.le l hl
 ·rcases j7 ex f with⟨c,_⟩|⟨c,f1⟩
  ·exact .inl (.inl c.symm)
  ·rcases j7 ex g with⟨c',_⟩|⟨c',g1⟩
   ·exact .inl (.inr c'.symm)
   ·exact .inr (o.nb j a b f1 g1)
theorem LvOk.out {ls:List (List Int)} {i:Nat} {x:List Int} (o:LvOk ls) (ex:ls[i]?=some x) (lx:x.length=1) (up:cv (ls.set i []).flatten):LvOk (ls.eraseIdx i)∧(ls.eraseIdx i).flatten=(ls.set i []).flatten:=by
 have hi:=(Q3.mp ex).1
 have lt:(ls.take i).length=i:=by rw[Qj];omega
 have e1:ls.eraseIdx i=ls.take i++ls.drop (i+1):=List.eraseIdx_eq_take_drop_succ _ _
 have fl:(ls.eraseIdx i).flatten=(ls.set i []).flatten:=by
  rw[e1,jP ex,QZ]
  rfl
 refine⟨⟨λl hl=>o.ne l (QW hl),λl hl=>o.le l (QW hl),λj a b f g=>?_,by rw[fl];exact up⟩,fl⟩
 rcases iJ f with⟨c1,f1⟩|⟨c1,f1⟩<;>rcases iJ g with⟨c2,g1⟩|⟨c2,g1⟩
 ·exact o.nb j a b f1 g1
 ·have e2:j+1=i:=by omega
  subst e2
  have h1:=o.nb j a x f1 ex
  have h2:=o.nb (j+1) x b ex g1
  omega
 ·omega
 ·exact o.nb (j+1) a b f1 g1
def LvA (_K:PySem.W.Frag) (t:Adr) (H:Hp) (a:Addr) (F:Addr→Prop) (ks:List Int):Prop:=∃L A ls,LvB t H a L A ls∧LvOk ls∧ls.flatten=ks∧∀b,F b↔LvF a L A b
section
variable {K:PySem.W.Frag} {t:Adr} {H H':Hp} {a b p:Addr} {F:Addr→Prop} {ks:List Int} {o:HO}
theorem LvA.ins (h:LvA K t H a F ks):∃dx fs,H a=some (.ins t.bg dx fs)∧∀m,m≠("leaves":Str)→fs.lookup m=none:=by
 obtain⟨L,A,ls,hb,_⟩:=h
 obtain⟨dx,ho⟩:=hb.obj
 exact⟨dx,_,ho,λm hm=>Ae hm⟩
theorem LvA.dom (h:LvA K t H a F ks) (hb:F b):∃o,H b=some o:=by
 obtain⟨L,A,ls,h1,_,_,h2⟩:=h
 exact h1.dom ((h2 b).mp hb)
theorem LvA.frame (h:LvA K t H a F ks) (f:∀b,F b→H' b=H b):LvA K t H' a F ks:=by
 obtain⟨L,A,ls,h1,h3,h4,h2⟩:=h
 exact⟨L,A,ls,h1.frame λb hb=>f b ((h2 b).mpr hb),h3,h4,h2⟩
theorem LvA.out (h:LvA K t H a F ks) (e:H p=none):¬F p:=λz=>by
 obtain⟨o,q⟩:=h.dom z
 rw[q]at e
 cases e
theorem LvA.upd (h:LvA K t H a F ks) (e:¬F p):LvA K t (L2.upd H p o) a F ks:=h.frame λb hb=>ac λz=>e (z▸hb)
end
def lQ (K:PySem.W.Frag) (t:Adr):Sp:=λvs H Q _=>∃(a dx:Addr),vs=[.ref a]∧H a=some (.ins t.bg dx [])∧H dx=some (.own a)∧∀H' F,LvA K t H' a F []→Fr (λb=>b=a∨b=dx) F H H'→Q .non H'
def mF (K:PySem.W.Frag) (t:Adr):Sp:=λvs H Q _=>∃(a:Addr) (k:Int) (F:Addr→Prop) (ks:List Int),vs=[.ref a,.int k]∧LvA K t H a F ks∧∀H' F',LvA K t H' a F' ks→Fr F F' H H'→Q (.bl (decide (k∈ks))) H'
def mG (K:PySem.W.Frag) (t:Adr):Sp:=λvs H Q E=>∃(a:Addr) (k:Int) (F:Addr→Prop) (ks:List Int),vs=[.ref a,.int k]∧LvA K t H a F ks∧ks.length<4096∧
 (k∉ks→∀H' F' ks',LvA K t H' a F' ks'→(∀z,z∈ks'↔z=k∨z∈ks)→Fr F F' H H'→Q .non H')∧(k∈ks→False)
def jg (K:PySem.W.Frag) (t:Adr):Sp:=λvs H Q E=>∃(a:Addr) (k:Int) (F:Addr→Prop) (ks:List Int),vs=[.ref a,.int k]∧LvA K t H a F ks∧ks.length<4096∧
 (k∈ks→∀H' F' ks',LvA K t H' a F' ks'→(∀z,z∈ks'↔z≠k∧z∈ks)→Fr F F' H H'→Q .non H')∧(k∉ks→False)
theorem LvOk.short {ls:List (List Int)} (o:LvOk ls):ls.length≤ls.flatten.length:=by
 have h:=o.ne
 clear o
 induction ls with
 |nil=>exact Q5 _
 |cons x r ih=>
  have:=QI.mpr (h x Q8)
  have:=ih λl hl=>h l (Q6 _ hl)
  rw[Zb,Qa,Q9]
  omega
def jf (K:PySem.W.Frag) (t:Adr):Sp:=λvs H Q _=>∃(a:Addr) (k n:Int) (F:Addr→Prop) (ks:List Int),vs=[.ref a,.int k,.int n]∧LvA K t H a F ks∧ks.length<4096∧0≤n∧
 ∀(H':Hp) (l:Addr),Same H H'→H l=none→H' l=some (.lst (((ks.filter λz=>decide (k≤z)).take n.toNat).map V.int))→Q (.ref l) H'
theorem nZ {xs:List V} {n:Int} (h:0≤n):n8 xs none (some n)=xs.take n.toNat:=by
 unfold n8 HT.sIx
 simp only[Xm,Nat.sub_zero]
 rw[if_neg (by omega)]
 rcases Nat.le_total n.toNat xs.length with c|c
 ·rw[Nat.min_eq_left c]
 ·rw[Nat.min_eq_right c,QH,QQ c]
theorem vP {ls:List (List Int)} {k:Int} {i0:Nat} (o:LvOk ls) (h:LeafOf ls k i0):∀z∈(ls.take i0).flatten,¬k≤z:=λz hz=>by
 have:=h.ahead z hz
 omega
section
variable {P:Program} {w:World} {K:PySem.W.Frag} {mg:Str→Option Value} {base:Heap} {t:Adr}
def sR:Sp:=λvs H Q _=>∃k:Int,vs=[.int k]∧Q (.int (k%65536)) H
def sQ:Sp:=λvs H Q _=>∃k n:Int,vs=[.int k,.int n]∧0<n∧Q (.int (k%65536%n)) H
theorem tw (T:Txt K mg t):aX P w K mg base CX0 1 t.p8 t.kZ ["key"] sR:=by
 obtain⟨tk_PLACES,hPLACES⟩:=T.Cc
 refine T.wc.ok sV (λvs H Q E h=>?_) (λcdv A outer s H vs Q E hr h=>?_)
 ·obtain⟨n,rfl,_⟩:=h
  rfl
 ·obtain⟨n,rfl,k⟩:=h
  refine⟨_,(ah (aL (aH bC (pv 0) (cm (v:= .int 65536) (by rfl) hPLACES ⟨_,rfl⟩))))
   ,?_⟩
  exact⟨_,rfl,_,_,rfl,rfl,(by show(0:Int)<65536;decide),k⟩
theorem m7 (T:Txt K mg t):aX P w K mg base CX0 2 t.p5 t.kY ["key","size"] sQ:=by
 have G_mark_of:= @tw P w K mg base t T
 refine T.lu.ok sU (λvs H Q E h=>?_) (λcdv A outer s H vs Q E hr h=>?_)
 ·obtain⟨n,m,rfl,_⟩:=h
  rfl
 ·obtain⟨n,m,rfl,hm,k⟩:=h
  refine⟨_,(ah (aL (aH bC (aQ G_mark_of (hr.mono (by decide)) (by rfl) T.Bp T.wc.kp T.Bq .nil aB (aa (pv 0) ag)) (pv 1))))
   ,?_⟩
  exact⟨_,rfl,_,rfl,_,rfl,_,_,rfl,rfl,hm,k⟩
theorem vc {n:Nat} (h:n≤4096):n<sizeLine:=Zz h (by decide)
def qf:Sp:=λvs H Q _=>∃n:Int,vs=[.int n]∧0≤n∧n≤1000∧∀H' r A,Same H H'→H r=none→(∀b∈A,H b=none)→RowOk H' r A (List.replicate n.toNat []) n→Q (.ref r) H'
theorem jY (T:Txt K mg t):aX P w K mg base CX0 1 t.lJ t.iq ["size"] qf:=by
 refine T.iE.ok ql (λvs H Q E h=>?_) (λcdv A outer s H vs Q E hr h=>?_)
 ·obtain⟨n,rfl,_⟩:=h
  rfl
 ·obtain⟨n,rfl,n0,n1,q⟩:=h
  refine⟨_,(ah (aL (ue rfl (CScope.of (M:=["slot"]) (N:=["size"]) (N':=["size"]) (dsc:=ai eM) rfl rfl (by decide+kernel)) (pz (by rfl) T.yz (aa (pv 0) ag)) (λ_ _ _ _ _=>fW))))
   ,?_⟩
  refine⟨_,rfl,n,rfl,by omega,by omega,λD hD=>?_⟩
  refine tO (n:=n.toNat) (lo:=0) (λi ys H3=>Same H H3∧∃as:List Addr,ys=as.map V.ref∧as.length=i∧(∀b∈as,H b=none∧b≠D∧H3 b=some (.dK []))∧∀(x y:Nat) (b:Addr),as[x]?=some b→as[y]?=some b→x=y)
   ⟨am hD,[],rfl,rfl,(λb hb=>by cases hb),λx y b e=>by simp at e⟩ (λi ys H3 hi ⟨s3,as,ey,el,hb,inj⟩ hDD=>?_) (λys H3 ⟨s3,as,ey,el,hb,inj⟩ hDD=>?_)
  ·intro c nc
   have cD:c≠D:=(aj hDD nc).symm
   have nca:c∉as:=λz=>by
    have:=(hb c z).2.2
    rw[nc]at this
    cases this
   have nH:H c=none:=by
    cases e:H c with
    |none=>rfl
    |some o=>rw[s3 c o e]at nc;cases nc
   refine CNext.mk hi (by rw[ac cD.symm];exact hDD) (by rw[ey,Q2];exact bT (by omega)) ⟨dQ (s3.trans (am nc)) hD,as++ [c],by rw[ey,Qi];rfl,by rw[Qa,el];rfl,λb hb'=>?_,λx y b e1 e2=>?_⟩
   ·rcases Qb.mp hb' with z|z
    ·obtain⟨h1,h2,h3⟩:=hb b z
     exact⟨h1,h2,by rw[ac h2,ac (λw=>nca (by rw[←w];exact z))];exact h3⟩
    ·rw[Qg.mp z]
     exact⟨nH,cD,by rw[ac cD,af]⟩
   ·have lem:∀x:Nat,(as++ [c])[x]?=some b→as[x]?=some b∨(x=as.length∧b=c):=λx e=>by
     rw[ZX]at e
     split at e
     ·exact .inl e
     ·rename_i w
      have:x-as.length=0:=by
       rcases Nat.eq_zero_or_pos (x-as.length)with z|z
       ·exact z
       ·rw[List.getElem?_eq_none (by simp;omega)]at e;cases e
      rw[this]at e
      cases e
      exact .inr ⟨by omega,rfl⟩
    rcases lem x e1 with f1|⟨f1,g1⟩<;>rcases lem y e2 with f2|⟨f2,g2⟩
    ·exact inj x y b f1 f2
    ·subst g2;exact absurd (Q0 f1) nca
    ·subst g1;exact absurd (Q0 f2) nca
    ·omega
  ·refine q H3 D as s3 hD (λb z=>(hb b z).1) ⟨by rw[hDD,ey],by rw[el];omega,by rw[Z4];omega,λj b kv e1 e2=>?_,λj kv e=>?_,inj,λj kv e p hp=>?_⟩
   ·rw[Zd (Q0 e2)]
    exact(hb b (Q0 e1)).2.2
   ·rw[Zd (Q0 e)]
    exact Z0
   ·rw[Zd (Q0 e)]at hp
    cases hp
def jJ (t:Adr):Sp:=λvs H Q _=>∃(a:Addr) (k:Int) (st:SSt) (d:SlD),vs=[.ref a,.int k]∧SlB t H a st d∧SzOk st∧∀c kv,IsCell d st k c kv→Q (.ref c) H
def iL (t:Adr):Sp:=λvs H Q _=>∃(a:Addr) (st:SSt) (d:SlD),vs=[.ref a]∧SlB t H a st d∧SzOk st∧st.kv.length<4096∧∀H' d',SlB t H' a st.one d'→d'.n=d.n→Fr (SlF a st d) (SlF a st.one d') H H'→Q .non H'
def iM (t:Adr):Sp:=λvs H Q _=>∃(a:Addr) (st:SSt) (d:SlD),vs=[.ref a]∧SlB t H a st d∧SzOk st∧d.n=(st.kv.length:Int)∧∀H' d',SlB t H' a st.three d'→d'.n=d.n→Fr (SlF a st d) (SlF a st.three d') H H'→Q .non H'
theorem qC {A:List Addr} {z:Int} {c:Addr} (h0:0≤z) (e:A[z.toNat]?=some c):atI (A.map V.ref) z=some (.ref c):=by
 obtain⟨j,rfl⟩:=ZH h0
 refine kg ?_
 rw[Qc]
 have e:A[j]?=some c:=e
 rw[e]
 rfl
theorem cO (T:Txt K mg t):aX P w K mg base CX0 3 t.gc t.c8 ["self","key"] (jJ t):=by
 have G_slot_of:= @m7 P w K mg base t T
 refine T.wd.ok sc_Slots__cell_of (λvs H Q E h=>?_) (λcdv A outer s H vs Q E hr h=>?_)
 ·obtain⟨a,k,st,d,rfl,_⟩:=h
  rfl
 ·obtain⟨a,k,st,d,rfl,hb,z,q⟩:=h
  refine⟨_,(ae (aM (i:=2) sc_Slots__cell_of.nd rfl (Or.inl rfl) (ba aS (ar (pv 0) rfl) ak (λ_ _=>rfl)))
   (ae (aM (i:=3) sc_Slots__cell_of.nd rfl (Or.inl rfl) (aQ G_slot_of (hr.mono (by decide)) (by rfl) T.pE T.lu.kp T.p4 .nil aB (aa (pv 1) (aa (au aq (by rfl) T.br a7 (aa (pv 2) ag)) ag))))
   (ae (aZ (aC ui (pv 3) (ar (pv 0) rfl) (aD _))
   (ah (aL (ba aS (pv 2) (pv 3) (λ_ _=>rfl))))
   aJ)
   (ae (aM (i:=4) sc_Slots__cell_of.nd rfl (Or.inl rfl) (ba aS (ar (pv 0) rfl) ak (λ_ _=>rfl)))
   (ah (aL (ba aS (pv 4) (aQ G_slot_of (hr.mono (by decide)) (by rfl) T.pE T.lu.kp T.p4 .nil aB (aa (pv 1) (aa (au aq (by rfl) T.br a7 (aa (pv 4) ag)) ag))) (λ_ _=>rfl))))))))
   ,?_⟩
  obtain⟨dx,ho⟩:=hb.obj
  obtain⟨s4,s5⟩:=cK z.pw
  obtain⟨m0,m1,m2⟩:=kR (k:=k) s4
  have t0:∃xs,H d.tb=some (.lst xs)∧atI xs 0=some (.ref d.r0):=by
   refine⟨_,hb.tbl,?_⟩
   cases st.nxt<;>rfl
  obtain⟨xs,hx,x0⟩:=t0
  have fld:∀{Q':VK},Q' (.ref d.tb) H→tFld K (wF 0) "table" [some (.ref a),some (.int k),none,none,none] H Q':=λ{Q'} q=>⟨_,rfl,a,_,dx,_,_,rfl,ho,T.az,T.aN,gO,q⟩
  have la:((d.A0.map V.ref).length:Int)=st.size:=by rw[Q2];exact hb.row0.la
  refine⟨_,rfl,a,_,dx,_,_,rfl,ho,T.az,T.aN,gO,d.tb,_,_,_,rfl,rfl,SqL.of hx,x0,?_⟩
  refine⟨_,rfl,_,rfl,d.r0,_,rfl,.inl (SqL.of hb.row0.lst),k,_,rfl,by rw[la];omega,?_⟩
  dsimp only
  rw[la]
  refine⟨_,rfl,_,rfl,a,_,dx,_,_,rfl,ho,T.az,T.bn,rs,_,_,rfl,rfl,_,rfl,im (λc=>?_) (λc=>?_)⟩
  ·have c:=of_decide_eq_true c
   obtain⟨x,e1⟩:=b5 (l:=d.A0) m0 (by rw[hb.row0.la];exact m1)
   obtain⟨y,e2⟩:=b5 (l:=d.C0) m0 (by rw[hb.row0.lc];exact m1)
   exact⟨_,rfl,_,rfl,d.r0,_,_,_,rfl,rfl,SqL.of hb.row0.lst,qC m0 e1,q x y (.inl ⟨c,e1,e2⟩)⟩
  ·have c:¬st.moved≤k%65536%st.size:=λz=>c (decide_eq_true z)
   cases e:st.nxt with
   |none=>rw[SSt.moved_none e]at c;exact absurd m0 c
   |some m=>
    have hm:=SSt.moved_some e
    obtain⟨pm,_⟩:=z.nx m e
    obtain⟨s6,_⟩:=cK pm
    obtain⟨n0,n1,n2⟩:=kR (k:=k) s6
    have r1:=hb.row1
    rw[e]at r1
    have ht:=hb.tbl
    rw[e]at ht
    have lb:((d.A1.map V.ref).length:Int)=m:=by rw[Q2];exact r1.la
    obtain⟨x,e1⟩:=b5 (l:=d.A1) n0 (by rw[r1.la];exact n1)
    obtain⟨y,e2⟩:=b5 (l:=d.C1) n0 (by rw[r1.lc];exact n1)
    refine⟨_,rfl,a,_,dx,_,_,rfl,ho,T.az,T.aN,gO,d.tb,_,_,_,rfl,rfl,SqL.of ht,rfl,?_⟩
    refine⟨_,rfl,_,rfl,_,rfl,d.r1,_,rfl,.inl (SqL.of r1.lst),k,_,rfl,by rw[lb];omega,?_⟩
    dsimp only
    rw[lb]
    exact⟨d.r1,_,_,_,rfl,rfl,SqL.of r1.lst,qC n0 e1,q x y (.inr ⟨m,e,by omega,e1,e2⟩)⟩
theorem be {n:Nat} (h:n≤100000):n<sizeLine:=Zz h (by decide)
theorem AW {n:Nat} {z:Int} (h0:0≤z) (h1:z<n):ixN n z=some z.toNat:=by unfold ixN;rw[if_pos h0,if_pos h1]
theorem vG {kv:List (Int×V)} {i:Nat} {k:Key} {v:V} (e:(ay kv)[i]?=some (k,v)):∃n:Int,k=Sum.inl n∧kv[i]?=some (n,v):=by
 unfold ay at e
 rw[Qc]at e
 cases q:kv[i]? with
 |none=>rw[q]at e;cases e
 |some p=>rw[q]at e;cases e;exact⟨p.1,rfl,rfl⟩
theorem wE {m:Int} {kv:List (Int×V)} {C:List (List (Int×V))} {i:Nat} {p:Int×V} (e:kv[i]?=some p):(kv.take (i+1)).foldl (dA m) C=dA m ((kv.take i).foldl (dA m) C) p:=by
 rw[Qz,e,List.foldl_append]
 rfl
theorem dD (T:Txt K mg t):aX P w K mg base CX0 3 t.eJ t.cr ["self"] (iL t):=by
 have G_slot_of:= @m7 P w K mg base t T
 refine T.tU.ok sc_Slots__move_slot (λvs H Q E h=>?_) (λcdv A outer s H vs Q E hr h=>?_)
 ·obtain⟨a,st,d,rfl,_⟩:=h
  rfl
 ·obtain⟨a,st,d,rfl,hb,z,hl,q⟩:=h
  refine⟨_,(ae (aZ (aC dt (au aq (by rfl) T.br a7 (aa (ar (pv 0) rfl) ag)) ak (aD _))
   (ah jT)
   aJ)
   (ae (aM (i:=1) sc_Slots__move_slot.nd rfl (Or.inl rfl) (ba aS (ar (pv 0) rfl) ak (λ_ _=>rfl)))
   (ae (aM (i:=2) sc_Slots__move_slot.nd rfl (Or.inl rfl) (ba aS (ar (pv 0) rfl) ak (λ_ _=>rfl)))
   (ae (me (hJ PassesOwn.never rfl (wT (qr Qw ZJ PySem.F.type_dict_items rP (ba aS (pv 1) (ar (pv 0) rfl) (λ_ _=>rfl)))) (AG rfl (rF (dh (i:=3) sc_Slots__move_slot.nd rfl (Or.inl rfl)) (rF (dh (i:=4) sc_Slots__move_slot.nd rfl (Or.inl rfl)) y4)))
   (ah (mf (eQ hr) (ba aS (pv 2) (aQ G_slot_of (hr.mono (by decide)) (by rfl) T.pE T.lu.kp T.p4 .nil aB (aa (pv 3) (aa (au aq (by rfl) T.br a7 (aa (pv 2) ag)) ag))) (λ_ _=>rfl)) (pv 3) (pv 4) rfl))))
   (ae (sY fW (sZ (pv 1) (ar (pv 0) rfl) mN))
   (ae (iH (pv 0) ak tK)
   (ah (aZ (aC dt (ar (pv 0) rfl) (au aq (by rfl) T.br a7 (aa (pv 1) ag)) (aD _))
   (ae (bB (pv 0) (dZ (aa (pv 2) ag)) rfl)
   (ah (bB (pv 0) ak rfl)))
   aJ))))))))
   ,?_⟩
  obtain⟨dx,ho⟩:=hb.obj
  have ht:=hb.tbl
  cases e:st.nxt with
  |none=>
   rw[e]at ht
   refine⟨_,rfl,a,_,dx,_,_,rfl,ho,T.az,T.aN,gO,d.tb,_,rfl,.inl (SqL.of ht),rfl,_,rfl,oU rfl ?_⟩
   have e1:st.one=st:=by unfold SSt.one;rw[e]
   rw[e1]at q
   exact q H d hb rfl Fr.refl
  |some m=>
   rw[e]at ht
   refine⟨_,rfl,a,_,dx,_,_,rfl,ho,T.az,T.aN,gO,d.tb,_,rfl,.inl (SqL.of ht),rfl,_,rfl,bP (λz=>by cases z) ?_⟩
   refine⟨_,rfl,a,_,dx,_,_,rfl,ho,T.az,T.aN,gO,d.tb,_,_,_,rfl,rfl,SqL.of ht,rfl,?_⟩
   refine⟨_,rfl,a,_,dx,_,_,rfl,ho,T.az,T.aN,gO,d.tb,_,_,_,rfl,rfl,SqL.of ht,rfl,?_⟩
   obtain⟨pm,v0,v1,_⟩:=z.nx m e
   obtain⟨s4,s5⟩:=cK z.pw
   obtain⟨s6,s7⟩:=cK pm
   have hm:=SSt.moved_some e
   rw[hm]at ho
   have r1:=hb.row1
   rw[e]at r1
   obtain⟨c0,ec⟩:=b5 (l:=d.A0) v0 (by rw[hb.row0.la];exact v1)
   obtain⟨kv,ek⟩:=b5 (l:=d.C0) v0 (by rw[hb.row0.lc];exact v1)
   have hc0:=hb.row0.cell _ _ _ ec ek
   have lb:((d.A1.map V.ref).length:Int)=m:=by rw[Q2];exact r1.la
   have c0A:c0∉d.A1:=hb.dis c0 (Q0 ec)
   have r1c:d.r1≠c0:=bJ r1.lst hc0 (by intro z;cases z)
   have kvl:=hb.short0 z ek
   have keepA:∀b,b=d.r1∨b∈d.A1→∃o,H b=some o:=λb hb1=>by
    rcases hb1 with rfl|hb1
    ·exact⟨_,r1.lst⟩
    ·obtain⟨_,_,_,_,w⟩:=r1.has hb1
     exact⟨_,w⟩
   refine⟨c0,ay kv,hc0,_,rfl,_,rfl,a,_,dx,_,_,rfl,ho,T.az,T.bn,rs,d.r0,_,_,_,rfl,rfl,SqL.of hb.row0.lst,qC v0 ec,.inr (.inr (.inl ⟨rfl,.inl ⟨_,hc0⟩⟩)),c0,ay kv,rfl,rfl,hc0,λvw nv=>?_⟩
   have hc1:upd H vw (vwO vw c0) c0=some (.dK (ay kv)):=by rw[ac (aj hc0 nv)];exact hc0
   refine⟨vw,c0,ay kv,rfl,af,hc1,λob=>?_⟩
   refine tN (λi σ H'=>∃v3 v4,σ=[some (.ref a),some (.ref d.r0),some (.ref d.r1),v3,v4]∧RowOk H' d.r1 d.A1 ((kv.take i).foldl (dA m) d.C1) m∧H' c0=some (.frz ob (.dK (ay kv)))∧∀b o,b∉d.A1→b≠c0→H b=some o→H' b=some o)
    ⟨_,_,rfl,?_,af,λb o _ n2 e=>?_⟩ (λi σ H' _ ⟨_,_,_,_,hf,_⟩=>hf) (λi k v p σ H' ei ⟨v3,v4,eσ,hr,hf,hk⟩ np=>?_) (λσ H' ⟨v3,v4,eσ,hr,hf,hk⟩=>?_)
   ·refine RowOk.frame (H:=H) r1 λb hb1=>?_
    obtain⟨o,w⟩:=keepA b hb1
    have n2:b≠c0:=by
     rcases hb1 with rfl|hb1
     ·exact r1c
     ·exact λz=>c0A (z▸hb1)
    rw[ac n2,ac (aj w nv)]
   ·rw[ac n2,ac (aj e nv)]
    exact e
   ·subst eσ
    obtain⟨n,rfl,en⟩:=vG ei
    have hr2:RowOk (upd H' p (.tup [kV (Sum.inl n),v])) d.r1 d.A1 ((kv.take i).foldl (dA m) d.C1) m:=hr.frame λb hb1=>ac λw=>by
     have:∃o,H' b=some o:=by
      rcases hb1 with rfl|hb1
      ·exact⟨_,hr.lst⟩
      ·obtain⟨_,_,_,_,w⟩:=hr.has hb1
       exact⟨_,w⟩
     obtain⟨o,q⟩:=this
     rw[w,np]at q
     cases q
    obtain⟨n0,n1,n2⟩:=kR (k:=n) s6
    obtain⟨c,e1⟩:=b5 (l:=d.A1) n0 (by rw[hr2.la];exact n1)
    obtain⟨y,e2⟩:=b5 (l:=(kv.take i).foldl (dA m) d.C1) n0 (by rw[hr2.lc];exact n1)
    obtain⟨y0,e3⟩:=b5 (l:=d.C1) n0 (by rw[r1.lc];exact n1)
    have yl:=rQ e3 e2
    have y0l:=hb.short1 z e e3
    have tl:(kv.take i).length≤kv.length:=by rw[Qj];omega
    have hc:=hr2.cell _ _ _ e1 e2
    have cA:c∈d.A1:=Q0 e1
    refine⟨p,_,rfl,SqT.of af,rfl,_,_,rfl,_,_,rfl,rfl,?_⟩
    refine⟨_,rfl,_,rfl,_,rfl,_,rfl,d.r1,_,rfl,.inl (SqL.of hr2.lst),n,_,rfl,by rw[lb];omega,?_⟩
    dsimp only
    rw[lb]
    refine⟨d.r1,_,_,_,rfl,rfl,SqL.of hr2.lst,qC n0 e1,_,rfl,c,_,rfl,DPut.k (k:=Sum.inl n) hc (by rw[bp];exact be (by omega)),?_⟩
    rw[c6]
    have pn:∀b o,H' b=some o→b≠p:=λb o q=>aj q np
    refine⟨_,_,rfl,?_,?_,λb o nA nc q=>?_⟩
    ·rw[wE en]
     exact hr2.mov s6 e1 e2
    ·rw[ac (λw=>c0A (by rw[w];exact cA)),ac (pn _ _ hf)]
     exact hf
    ·have q:=hk b o nA nc q
     rw[ac (λw=>nA (by rw[w];exact cA)),ac (pn _ _ q)]
     exact q
   ·subst eσ
    rw[bp,QH]at hr
    refine⟨ob,hf,λb' nb=>?_⟩
    have hF:∀b,¬SlF a st d b→b∉d.A1∧b≠c0∧b≠a∧b≠d.r0∧b≠d.tb∧b≠d.r1:=λb n=>
     ⟨λq=>n (.inr (.inr (.inr (.inr (.inr q))))),λq=>n (.inr (.inr (.inr (.inl (q▸Q0 ec))))),λq=>n (.inl q),λq=>n (.inr (.inr (.inl q))),λq=>n (.inr (.inl q)),λq=>n (.inr (.inr (.inr (.inr (.inl ⟨by rw[e];rfl,q⟩)))))⟩
    have inA1:∀b o,H b=some o→(∀kvs,o≠ .dK kvs)→b∉d.A1:=λb o q ne w=>(r1.notr w q ne) rfl
    have K1:∀b o,b∉d.A1→b≠c0→H b=some o→upd H' c0 (.dK (ay kv)) b=some o:=λb o n1 n2 q=>by rw[ac n2];exact hk b o n1 n2 q
    have hr3:RowOk (upd H' c0 (.dK (ay kv))) d.r1 d.A1 (kv.foldl (dA m) d.C1) m:=hr.frame λb hb1=>ac (by
     rcases hb1 with rfl|hb1
     ·exact r1c
     ·exact λw=>c0A (w▸hb1))
    have hc3:upd H' c0 (.dK (ay kv)) c0=some (.dK (ay kv)):=af
    generalize upd H' c0 (.dK (ay kv))=H3 at nb K1 hr3 hc3⊢
    have ho3:=K1 a _ (inA1 _ _ ho (λ_ w=>by cases w)) (bJ ho hc0 (by intro w;cases w)) ho
    have hr0:=hb.row0.lst
    have hr03:=K1 d.r0 _ (inA1 _ _ hr0 (λ_ w=>by cases w)) (bJ hr0 hc0 (by intro w;cases w)) hr0
    have ht3:=K1 d.tb _ (inA1 _ _ ht (λ_ w=>by cases w)) (bJ ht hc0 (by intro w;cases w)) ht
    have nbF:¬SlF a st d b':=λw=>by
     rcases w with w|w|w|w|⟨_,w⟩|w
     ·rw[w,ho3]at nb;cases nb
     ·rw[w,ht3]at nb;cases nb
     ·rw[w,hr03]at nb;cases nb
     ·obtain⟨j,kv1,f1,f2,f3⟩:=hb.row0.has w
      by_cases y:b'=c0
      ·rw[y,hc3]at nb;cases nb
      ·rw[K1 b' _ (hb.dis b' w) y f3]at nb;cases nb
     ·rw[w,hr3.lst]at nb;cases nb
     ·obtain⟨_,_,_,_,w'⟩:=hr3.has w
      rw[w']at nb;cases nb
    have lA:((d.A0.map V.ref).length:Int)=st.size:=by rw[Q2];exact hb.row0.la
    have bo:∀{x:Addr} {o:HO},H3 x=some o→x≠b':=λq=>aj q nb
    refine⟨_,rfl,_,rfl,a,_,dx,_,_,rfl,(by rw[ac (bo ho3)];exact ho3),T.az,T.bn,rs,d.r0,_,_,_,rfl,rfl,(by rw[ac (bo hr03)];exact hr03),AW v0 (by rw[lA];exact v1),?_⟩
    have g0:H3 d.r1=some (.lst (d.A1.map V.ref)):=hr3.lst
    have ra:d.r0≠a:=bJ hr0 ho (by intro w;cases w)
    have r01:d.r0≠d.r1:=(hb.tr1 (by rw[e];rfl)).2
    have t1:d.tb≠d.r1:=(hb.tr1 (by rw[e];rfl)).1
    have ta:d.tb≠a:=bJ ht ho (by intro w;cases w)
    have r1a:d.r1≠a:=bJ r1.lst ho (by intro w;cases w)
    have cellsA:∀b∈d.A1,b≠b'∧b≠d.r0∧b≠a:=λb w=>by
     obtain⟨_,_,_,_,f⟩:=hr3.has w
     exact⟨bo f,bJ f hr03 (by intro w;cases w),bJ f ho3 (by intro w;cases w)⟩
    have es:(d.A0.map V.ref).set st.mv.toNat (V.ref b')=(d.A0.set st.mv.toNat b').map V.ref:=by rw[X9]
    rw[es]
    have ho5:upd (upd H3 b' (.dK [])) d.r0 (.lst ((d.A0.set st.mv.toNat b').map V.ref)) a=some (.ins t.aT dx (slF d.tb st.mv d.n)):=by rw[ac ra.symm,ac (bo ho3)];exact ho3
    refine⟨_,rfl,a,_,dx,_,_,rfl,ho5,T.az,T.bn,rs,_,_,rfl,rfl,dx,_,ho5,jN,?_⟩
    rw[zZ]
    have H6r0:∀{o:HO},upd (upd (upd H3 b' (.dK [])) d.r0 (.lst ((d.A0.set st.mv.toNat b').map V.ref))) a o d.r0=some (.lst ((d.A0.set st.mv.toNat b').map V.ref)):=by
     intro o
     rw[ac ra,af]
    have lS:(((d.A0.set st.mv.toNat b').map V.ref).length:Int)=st.size:=by rw[Q2,Qt];exact hb.row0.la
    refine⟨_,rfl,a,_,dx,_,_,rfl,af,T.az,T.bn,rs,_,rfl,d.r0,_,rfl,.inl (SqL.of H6r0),rfl,_,rfl,?_⟩
    rw[lS]
    have row6:∀{o:HO},RowOk (upd (upd (upd H3 b' (.dK [])) d.r0 (.lst ((d.A0.set st.mv.toNat b').map V.ref))) a o) d.r1 d.A1 (kv.foldl (dA m) d.C1) m:=λ{o}=>hr3.frame λb hb1=>by
     have:b≠b'∧b≠d.r0∧b≠a:=by
      rcases hb1 with rfl|hb1
      ·exact⟨bo g0,r01.symm,r1a⟩
      ·exact cellsA b hb1
     rw[ac this.2.2,ac this.2.1,ac this.1]
    have K6:∀{o':HO} (b:Addr) (o:HO),¬SlF a st d b→H b=some o→upd (upd (upd H3 b' (.dK [])) d.r0 (.lst ((d.A0.set st.mv.toNat b').map V.ref))) a o' b=some o:=λ{o'} b o n q=>by
     obtain⟨f1,f2,f3,f4,_⟩:=hF b n
     have q3:=K1 b o f1 f2 q
     rw[ac f3,ac f4,ac (bo q3)]
     exact q3
    refine im (λc=>?_) (λc=>?_)
    ·have c:st.mv+1=st.size:=V.int.inj (of_decide_eq_true c)
     refine⟨_,rfl,(by show 1≤sizeLine;decide),λtb' nt=>⟨_,rfl,a,_,dx,_,rfl,(by rw[ac (aj af nt)];exact af),T.az,T.aN,jN,?_⟩⟩
     rw[BL]
     refine⟨_,rfl,a,_,dx,_,rfl,af,T.az,T.bn,jN,?_⟩
     rw[zZ,cf]
     have nta:tb'≠a:=(aj af nt).symm
     have nt1:tb'≠d.r1:=(aj (row6 (o:= .ins t.aT dx (slF d.tb (st.mv+1) d.n))).lst nt).symm
     refine q _ _ (hb.last z e ek (tb':=tb') (dx:=dx) c af (by rw[ac nta];exact af) nt1 ?_) rfl (λb o n w=>?_)
     ·refine(row6 (o:= .ins t.aT dx (slF d.tb (st.mv+1) d.n))).frame λb hb1=>?_
      have:b≠a:=by
       rcases hb1 with rfl|hb1
       ·exact r1a
       ·exact(cellsA b hb1).2.2
      rw[ac this,ac (λw=>?_)]
      obtain⟨o,f⟩:∃o,upd (upd (upd H3 b' (.dK [])) d.r0 (.lst ((d.A0.set st.mv.toNat b').map V.ref))) a (.ins t.aT dx (slF d.tb (st.mv+1) d.n)) b=some o:=by
       rcases hb1 with rfl|hb1
       ·exact⟨_,row6.lst⟩
       ·obtain⟨_,_,_,_,f⟩:=row6.has hb1
        exact⟨_,f⟩
      rw[w,nt]at f
      cases f
     ·obtain⟨f1,f2,f3,f4,f5,f6⟩:=hF b n
      have k6:=K6 (o':= .ins t.aT dx (slF d.tb (st.mv+1) d.n)) b o n w
      have bt:b≠tb':=aj k6 nt
      refine⟨by rw[ac f3,ac bt];exact k6,λy=>?_⟩
      rcases y with y|y|y|y|⟨_,y⟩|y
      ·exact f3 y
      ·exact bt y
      ·exact f6 y
      ·exact f1 y
      ·exact f6 y
      ·cases y
    ·have c:st.mv+1≠st.size:=λw=>c (decide_eq_true (by rw[w]))
     refine q _ _ (hb.one z e ek (b':=b') (dx:=dx) c af (by rw[ac ta,ac hb.tr,ac (bo ht3),ht3,hb.tbl,e]) H6r0 ?_ nbF (λj b f1 f2=>?_) row6) rfl (λb o n w=>⟨K6 b o n w,λy=>?_⟩)
     ·have n1:b'≠a:=(bo ho3).symm
      have n2:b'≠d.r0:=(bo hr03).symm
      rw[ac n1,ac n2]
      exact af
     ·have bA:=Q0 f1
      obtain⟨_,kv1,_,_,f⟩:=hb.row0.has bA
      have nc:b≠c0:=λw=>f2 (hb.row0.inj j _ c0 (w▸f1) ec)
      have f3:=K1 b _ (hb.dis b bA) nc f
      rw[ac (bJ f3 ho3 (by intro w;cases w)),ac (bJ f3 hr03 (by intro w;cases w)),ac (bo f3),f3,f]
     ·obtain⟨f1,f2,f3,f4,f5,f6⟩:=hF b n
      rcases y with y|y|y|y|⟨_,y⟩|y
      ·exact f3 y
      ·exact f5 y
      ·exact f4 y
      ·obtain⟨j,hj,ej⟩:=QC (show b∈d.A0.set st.mv.toNat b' from y)
       rcases cj (Q3.mpr ⟨hj,ej⟩)with⟨_,g⟩|⟨_,g⟩
       ·have:=K1 b o f1 f2 w
        rw[g,nb]at this
        cases this
       ·exact n (.inr (.inr (.inr (.inl (Q0 g)))))
      ·exact f6 y
      ·exact f1 y
theorem dE (T:Txt K mg t):aX P w K mg base CX0 2 t.eK t.cu ["self"] (iM t):=by
 obtain⟨tk_GREATEST_SIZE,hGREATEST_SIZE⟩:=T.wk
 obtain⟨tk_LEAST_SIZE,hLEAST_SIZE⟩:=T.qM
 have G_empty_row:= @jY P w K mg base t T
 refine T.tV.ok sc_Slots__begin_row (λvs H Q E h=>?_) (λcdv A outer s H vs Q E hr h=>?_)
 ·obtain⟨a,st,d,rfl,_⟩:=h
  rfl
 ·obtain⟨a,st,d,rfl,hb,z,hn,q⟩:=h
  refine⟨_,(ae (aZ (aC dt (au aq (by rfl) T.br a7 (aa (ar (pv 0) rfl) ag)) ak (aD _))
   (ah jT)
   aJ)
   (ae (aM (i:=1) sc_Slots__begin_row.nd rfl (Or.inl rfl) (au aq (by rfl) T.br a7 (aa (ba aS (ar (pv 0) rfl) ak (λ_ _=>rfl)) ag)))
   (ah (aZ (PW.pt (dX (aC m6 (ar (pv 0) rfl) (pv 1) (aD _)) (dJ (aC dq (pv 1) (cm (v:= .int 256) (by rfl) hGREATEST_SIZE ⟨_,rfl⟩) (aD _)))))
   (ah (aE (cx Ql QK QL cy (ar (pv 0) rfl) (aa (aQ G_empty_row (hr.mono (by decide)) (by rfl) T.lE T.iE.kp T.lH .nil aB (aa (aH fA (pv 1) ak) ag)) ag))))
   (ah (aZ (PW.pt (dX (aC dq (aH fA ak (ar (pv 0) rfl)) (pv 1) (aD _)) (dJ (aC m6 (pv 1) (cm (v:= .int 4) (by rfl) hLEAST_SIZE ⟨_,rfl⟩) (aD _)))))
   (ah (aE (cx Ql QK QL cy (ar (pv 0) rfl) (aa (aQ G_empty_row (hr.mono (by decide)) (by rfl) T.lE T.iE.kp T.lH .nil aB (aa (aH jX (pv 1) ak) ag)) ag))))
   aJ))))))
   ,?_⟩
  obtain⟨dx,ho⟩:=hb.obj
  have ht:=hb.tbl
  cases e:st.nxt with
  |some m=>
   rw[e]at ht
   refine⟨_,rfl,a,_,dx,_,_,rfl,ho,T.az,T.aN,gO,d.tb,_,rfl,.inl (SqL.of ht),rfl,_,rfl,oU rfl ?_⟩
   have e1:st.three=st:=by unfold SSt.three;rw[e]
   rw[e1]at q
   exact q H d hb rfl Fr.refl
  |none=>
   rw[e]at ht
   refine⟨_,rfl,a,_,dx,_,_,rfl,ho,T.az,T.aN,gO,d.tb,_,rfl,.inl (SqL.of ht),rfl,_,rfl,bP (λz=>by cases z) ?_⟩
   have la:((d.A0.map V.ref).length:Int)=st.size:=by rw[Q2];exact hb.row0.la
   obtain⟨pw4,pw5⟩:=cK z.pw
   refine⟨_,rfl,a,_,dx,_,_,rfl,ho,T.az,T.aN,gO,d.tb,_,_,_,rfl,rfl,SqL.of ht,rfl,d.r0,_,rfl,.inl (SqL.of hb.row0.lst),?_⟩
   dsimp only
   rw[la]
   have fin:∀{m:Int} {H':Hp} {r:Addr} {A:List Addr},st.three={st with nxt:=some m,mv:=0}→Same H H'→H r=none→(∀b∈A,H b=none)→RowOk H' r A (List.replicate m.toNat []) m→H' d.tb=some (.lst [.ref d.r0])∧Q .non (upd H' d.tb (.lst ([.ref d.r0]++ [.ref r]))):=λ{m H' r A} e3 s nr nA hr=>by
    have ht':=s _ _ ht
    have notF:∀b,SlF a st d b→∃o,H b=some o:=λb w=>hb.dom w
    have nrF:¬SlF a st d r:=λw=>by obtain⟨o,q⟩:=notF r w;rw[nr]at q;cases q
    have nAF:∀b∈A,¬SlF a st d b:=λb hA w=>by obtain⟨o,q⟩:=notF b w;rw[nA b hA]at q;cases q
    refine⟨ht',?_⟩
    have sb:=hb.begin (H':=upd H' d.tb (.lst [.ref d.r0,.ref r])) e (m:=m) (r:=r) (A:=A) (by rw[ac (bJ ho ht (by intro w;cases w)),s _ _ ho,ho]) af (λb hb1=>?_) (hr.frame λb hb1=>ac ?_) nrF nAF
    ·rw[←e3]at sb
     refine q _ _ sb rfl λb o n w=>⟨?_,λy=>?_⟩
     ·rw[ac (λv=>n (.inr (.inl v)))];exact s _ _ w
     ·rw[e3]at y
      rcases y with y|y|y|y|⟨_,y⟩|y
      ·exact n (.inl y)
      ·exact n (.inr (.inl y))
      ·exact n (.inr (.inr (.inl y)))
      ·exact n (.inr (.inr (.inr (.inl y))))
      ·have y:b=r:=y
       rw[y,nr]at w;cases w
      ·rw[nA b y]at w;cases w
    ·obtain⟨o,q⟩:=notF b (by
      rcases hb1 with w|w
      ·exact .inr (.inr (.inl w))
      ·exact .inr (.inr (.inr (.inl w))))
     have:b≠d.tb:=by
      rcases hb1 with w|w
      ·rw[w];exact hb.tr.symm
      ·exact hb.row0.notr w ht (λ_ z=>by cases z)
     rw[ac this,s _ _ q,q]
    ·rcases hb1 with w|w
     ·rw[w];exact λv=>by rw[v,ht]at nr;cases nr
     ·exact λv=>by have:=nA b w;rw[v,ht]at this;cases this
   by_cases cA:st.size<d.n∧st.size<256
   ·have e3:st.three={st with nxt:=some (2*st.size),mv:=0}:=by
     unfold SSt.three
     rw[e]
     exact if_pos (by rw[←hn];exact cA)
    refine⟨_,rfl,a,_,dx,_,_,rfl,ho,T.az,T.bd,jO,_,rfl,_,_,rfl,rfl,_,rfl,fZ cA.1 ⟨_,rfl,_,_,rfl,rfl,_,rfl,fZ cA.2 ?_⟩⟩
    refine⟨_,rfl,a,_,dx,_,_,rfl,ho,T.az,T.aN,gO,.inl ⟨rfl,_,SqL.of ht⟩,_,rfl,_,_,rfl,rfl,.inr ⟨by decide,by decide⟩,_,rfl,by omega,by omega,λH' r A s nr nA hr=>?_⟩
    obtain⟨f1,f2⟩:=fin (m:=st.size*2) (by rw[e3,Int.mul_comm]) s nr nA hr
    exact⟨d.tb,_,_,rfl,rfl,f1,bT (by show 1≤1000;decide),f2⟩
   ·by_cases cB:4*d.n<st.size∧4<st.size
    ·have e3:st.three={st with nxt:=some (st.size/2),mv:=0}:=by
      unfold SSt.three
      rw[e]
      exact(if_neg (by rw[←hn];exact cA)).trans (if_pos (by rw[←hn];exact cB))
     have c1:¬st.size<d.n:=by omega
     refine⟨_,rfl,a,_,dx,_,_,rfl,ho,T.az,T.bd,jO,_,rfl,_,_,rfl,rfl,_,rfl,bP c1 ?_⟩
     refine⟨_,rfl,a,_,dx,_,_,rfl,ho,T.az,T.bd,jO,_,_,rfl,rfl,.inl ⟨by decide,by decide⟩,_,rfl,_,_,rfl,rfl,_,rfl,fZ cB.1 ⟨_,rfl,_,_,rfl,rfl,_,rfl,fZ cB.2 ?_⟩⟩
     refine⟨_,rfl,a,_,dx,_,_,rfl,ho,T.az,T.aN,gO,.inl ⟨rfl,_,SqL.of ht⟩,_,rfl,_,_,rfl,rfl,⟨by decide,by decide⟩,_,rfl,by omega,by omega,λH' r A s nr nA hr=>?_⟩
     obtain⟨f1,f2⟩:=fin (m:=st.size/2) e3 s nr nA hr
     exact⟨d.tb,_,_,rfl,rfl,f1,bT (by show 1≤1000;decide),f2⟩
    ·have e3:st.three=st:=by
      unfold SSt.three
      rw[e]
      exact(if_neg (by rw[←hn];exact cA)).trans (if_neg (by rw[←hn];exact cB))
     rw[e3]at q
     have q0:=q H d hb rfl Fr.refl
     by_cases c1:st.size<d.n
     ·have c2:¬st.size<256:=λw=>cA ⟨c1,w⟩
      have c3:¬4*d.n<st.size:=by omega
      refine⟨_,rfl,a,_,dx,_,_,rfl,ho,T.az,T.bd,jO,_,rfl,_,_,rfl,rfl,_,rfl,fZ c1 ⟨_,rfl,_,_,rfl,rfl,_,rfl,bP c2 ?_⟩⟩
      exact⟨_,rfl,a,_,dx,_,_,rfl,ho,T.az,T.bd,jO,_,_,rfl,rfl,.inl ⟨by decide,by decide⟩,_,rfl,_,_,rfl,rfl,_,rfl,bP c3 q0⟩
     ·refine⟨_,rfl,a,_,dx,_,_,rfl,ho,T.az,T.bd,jO,_,rfl,_,_,rfl,rfl,_,rfl,bP c1 ?_⟩
      refine⟨_,rfl,a,_,dx,_,_,rfl,ho,T.az,T.bd,jO,_,_,rfl,rfl,.inl ⟨by decide,by decide⟩,_,rfl,_,_,rfl,rfl,_,rfl,?_⟩
      by_cases c3:4*d.n<st.size
      ·exact fZ c3 ⟨_,rfl,_,_,rfl,rfl,_,rfl,bP (λw=>cB ⟨c3,w⟩) q0⟩
      ·exact bP c3 q0
section
variable {H H':Hp} {a c:Addr} {st:SSt} {d:SlD}
theorem SlB.put (h:SlB t H a st d) (z:SzOk st) {k:Int} {kv:List (Int×V)} (ic:IsCell d st k c kv) (v:V):
  ∃d',SlB t (upd H c (.dK (ay (aU kv k v)))) a {st with kv:=aU st.kv k v} d'∧d'.n=d.n∧∀b,SlF a {st with kv:=aU st.kv k v} d' b↔SlF a st d b:=
 h.setCell z ic (jp (h.at ic).2.2) (λ_ hp=>nN hp) (by rw[cE,cE,if_pos rfl,if_pos rfl]) λj hj=>⟨by rw[cE,if_neg hj],by rw[cE,if_neg hj]⟩
theorem SlB.drop (h:SlB t H a st d) (z:SzOk st) {k:Int} {kv:List (Int×V)} (ic:IsCell d st k c kv):
  ∃d',SlB t (upd H c (.dK (ay (bf kv k)))) a {st with kv:=bf st.kv k} d'∧d'.n=d.n∧∀b,SlF a {st with kv:=bf st.kv k} d' b↔SlF a st d b:=
 h.setCell z ic (j2 (h.at ic).2.2) (λ_ hp=> .inl (pQ hp)) (by rw[cw,cw,if_pos rfl,if_pos rfl]) λj hj=>⟨by rw[cw,if_neg hj],by rw[cw,if_neg hj]⟩
theorem SlB.insM (h:SlB t H a st d):∃dx fs,H a=some (.ins t.aT dx fs)∧∀m,NoM m→fs.lookup m=none:=by
 obtain⟨dx,ho⟩:=h.obj
 exact⟨dx,_,ho,λm hm=>zV hm⟩
theorem SSt.one_kv:st.one.kv=st.kv:=by
 unfold SSt.one
 cases st.nxt with
 |none=>rfl
 |some m=>show(if _ then _ else _:SSt).kv=_;split<;>rfl
theorem SSt.three_kv:st.three.kv=st.kv:=by
 unfold SSt.three
 cases st.nxt with
 |some m=>rfl
 |none=>show(if _ then _ else _:SSt).kv=_;split;rfl;split<;>rfl
theorem uu {kv:List (Int×V)} {k:Int} {v:V}:((aU kv k v).length:Int)=if(aF kv k).isSome=true then(kv.length:Int)else kv.length+1:=by
 have:=congrArg List.length (j5 (kv:=kv) (k:=k) (v:=v))
 rw[Q2]at this
 split
 ·rename_i c;rw[if_pos c,Q2]at this;omega
 ·rename_i c;rw[if_neg c,Qa,Q2]at this;simp at this;omega
end
theorem iQ (T:Txt K mg t):aX P w K mg base CX0 4 t.kq t.gK ["self","key"] (oC K t):=by
 have G_Slots__cell_of:= @cO P w K mg base t T
 refine T.zJ.ok oI (λvs H Q E h=>?_) (λcdv A outer s H vs Q E hr h=>?_)
 ·obtain⟨a,k,F,st,rfl,_⟩:=h
  rfl
 ·obtain⟨a,k,F,st,rfl,⟨d,hb,hF,hn,nd,z⟩,h0,q⟩:=h
  refine⟨_,(ah (aL (AI (wY (eQ hr) (pv 1) (aK (pv 0) T.az T.fX G_Slots__cell_of (hr.mono (by decide)) T.f9 .nil aB (aa (pv 1) ag))))))
   ,?_⟩
  obtain⟨dx,fs,hi,hm⟩:=hb.insM
  refine⟨_,rfl,_,rfl,a,dx,fs,rfl,hi,hm _ (by decide+kernel),_,rfl,a,k,st,d,rfl,hb,z,λc kv ic=>?_⟩
  obtain⟨hc,_,_⟩:=hb.at ic
  refine⟨c,_,rfl,DGet.k (k:=Sum.inl k) hc,?_⟩
  rw[liftK_val,hb.val k c kv ic]
  exact q H F ⟨d,hb,hF,hn,nd,z⟩ Fr.refl
theorem oO (T:Txt K mg t):aX P w K mg base CX0 4 t.ko t.gJ ["self","key","value"] (oB K t):=by
 have G_Slots__begin_row:= @dE P w K mg base t T
 have G_Slots__cell_of:= @cO P w K mg base t T
 have G_Slots__move_slot:= @dD P w K mg base t T
 refine T.zI.ok sc_Slots__put (λvs H Q E h=>?_) (λcdv A outer s H vs Q E hr h=>?_)
 ·obtain⟨a,k,i,F,st,rfl,_⟩:=h
  rfl
 ·obtain⟨a,k,i,F,st,rfl,⟨d,hb,hF,hn,nd,z⟩,h0,hl,q⟩:=h
  refine⟨_,(ae (aE (b8 (pv 0) T.az T.jq G_Slots__move_slot (hr.mono (by decide)) T.jD .nil aB))
   (ae (aM (i:=3) sc_Slots__put.nd rfl (Or.inl rfl) (aK (pv 0) T.az T.fX G_Slots__cell_of (hr.mono (by decide)) T.f9 .nil aB (aa (pv 1) ag)))
   (ae (aZ (qp (kK (eQ hr) (pv 1) (pv 3)))
   (ah (iH (pv 0) ak tK))
   aJ)
   (ae (mf (eQ hr) (pv 3) (pv 1) (pv 2) rfl)
   (ah (aE (b8 (pv 0) T.az T.jr G_Slots__begin_row (hr.mono (by decide)) T.jE .nil aB)))))))
   ,?_⟩
  obtain⟨dx,fs,hi,hm⟩:=hb.insM
  refine⟨_,rfl,a,dx,fs,rfl,hi,hm _ (by decide+kernel),a,st,d,rfl,hb,z,hl,λH1 d1 hb1 e1 fr1=>?_⟩
  obtain⟨dx1,fs1,hi1,hm1⟩:=hb1.insM
  have z1:=z.one
  refine⟨_,rfl,a,dx1,fs1,rfl,hi1,hm1 _ (by decide+kernel),_,rfl,a,k,st.one,d1,rfl,hb1,z1,λc kv ic=>?_⟩
  obtain⟨hc,cF,_⟩:=hb1.at ic
  have hv:=hb1.val k c kv ic
  have sh:=hb1.short z1 ic
  rw[SSt.one_kv]at hv sh
  obtain⟨dx2,ho1⟩:=hb1.obj
  have na:a≠c:=bJ ho1 hc (by intro w;cases w)
  have key:∀(H2:Hp) (n2:Int),SlB t H2 a st.one {d1 with n:=n2}→Fr (SlF a st d) (SlF a st.one d1) H H2→n2=((aU st.kv k (.int i)).length:Int)→∃d3,SlB t (upd H2 c (.dK (ay (aU kv k (.int i))))) a {st.one with kv:=aU st.one.kv k (.int i)} d3∧d3.n=((aU st.one.kv k (.int i)).length:Int)∧
    ∀H4 d4,SlB t H4 a (SSt.three {st.one with kv:=aU st.one.kv k (.int i)}) d4→d4.n=d3.n→Fr (SlF a {st.one with kv:=aU st.one.kv k (.int i)} d3) (SlF a (SSt.three {st.one with kv:=aU st.one.kv k (.int i)}) d4) (upd H2 c (.dK (ay (aU kv k (.int i))))) H4→Q .non H4:=λH2 n2 hb2 fr2 hn2=>by
   obtain⟨d3,hb3,e3,f3⟩:=hb2.put z1 (kv:=kv) ic (.int i)
   have e3':d3.n=((aU st.one.kv k (.int i)).length:Int):=by rw[e3,SSt.one_kv];exact hn2
   refine⟨d3,hb3,e3',λH4 d4 hb4 e4 fr4=>?_⟩
   rw[SSt.one_kv]at hb4 fr4 f3 e3'
   refine q H4 _ ⟨d4,hb4,λb=>Iff.rfl,?_,?_,?_⟩ ?_
   ·show d4.n=((SSt.three _).kv.length:Int)
    rw[SSt.three_kv,e4,e3']
   ·show((SSt.three _).kv.map (·.1)).Nodup
    rw[SSt.three_kv]
    exact jp nd
   ·exact(z1.kv).three
   ·have step:Fr (SlF a st.one d1) (SlF a {st.one with kv:=aU st.kv k (.int i)} d3) H2 (upd H2 c (.dK (ay (aU kv k (.int i))))):=λb o n w=>⟨by rw[ac (λy=>n (by rw[y];exact cF))];exact w,λy=>n ((f3 b).mp y)⟩
    exact Fr.trans (λb o n w=>fr2 b o (λy=>n ((hF b).mpr y)) w) (Fr.trans step fr4)
  refine⟨_,rfl,_,rfl,c,_,rfl,DGet.k (k:=Sum.inl k) hc,?_⟩
  rw[liftK_val,hv]
  have kl:(ay kv).length<sizeLine:=by rw[bp];exact vc (by omega)
  cases e:aF st.kv k with
  |none=>
   refine⟨_,rfl,cQ ?_⟩
   refine⟨_,rfl,a,_,dx2,_,_,rfl,ho1,T.az,T.bd,jO,_,_,rfl,rfl,dx2,_,ho1,jN,?_⟩
   rw[z7]
   have hb2:=hb1.setN (dx:=dx2) (n:=d1.n+1)
   have hc2:upd H1 a (.ins t.aT dx2 (slF d1.tb st.one.moved (d1.n+1))) c=some (.dK (ay kv)):=by rw[ac na.symm];exact hc
   obtain⟨d3,hb3,n3,fin⟩:=key _ _ hb2 (λb o n w=>⟨by rw[ac (λy=>(fr1 b o n w).2 (.inl y))];exact(fr1 b o n w).1,(fr1 b o n w).2⟩) (by rw[uu,e,e1,hn];rfl)
   refine⟨_,rfl,_,rfl,_,rfl,c,_,rfl,DPut.k (k:=Sum.inl k) hc2 kl,?_⟩
   rw[c6]
   obtain⟨dx3,fs3,hi3,hm3⟩:=hb3.insM
   exact⟨_,rfl,a,dx3,fs3,rfl,hi3,hm3 _ (by decide+kernel),a,_,d3,rfl,hb3,z1.kv,n3,fin⟩
  |some v=>
   refine⟨_,rfl,c7 ?_⟩
   obtain⟨d3,hb3,n3,fin⟩:=key H1 d1.n hb1 fr1 (by rw[uu,e,e1,hn];rfl)
   refine⟨_,rfl,_,rfl,_,rfl,c,_,rfl,DPut.k (k:=Sum.inl k) hc kl,?_⟩
   rw[c6]
   obtain⟨dx3,fs3,hi3,hm3⟩:=hb3.insM
   exact⟨_,rfl,a,dx3,fs3,rfl,hi3,hm3 _ (by decide+kernel),a,_,d3,rfl,hb3,z1.kv,n3,fin⟩
theorem ni (T:Txt K mg t):aX P w K mg base CX0 5 t.iX t.fG ["self","key"] (mC K t):=by
 have G_Slots__begin_row:= @dE P w K mg base t T
 have G_Slots__cell_of:= @cO P w K mg base t T
 have G_Slots__has:= @iQ P w K mg base t T
 have G_Slots__move_slot:= @dD P w K mg base t T
 refine T.ym.ok mQ (λvs H Q E h=>?_) (λcdv A outer s H vs Q E hr h=>?_)
 ·obtain⟨a,k,F,st,rfl,_⟩:=h
  rfl
 ·obtain⟨a,k,F,st,rfl,hA,h0,q1,q2⟩:=h
  refine⟨_,(ae (aZ (gx (b4 (aK (pv 0) T.az T.qA G_Slots__has (hr.mono (by decide)) T.qU .nil aB (aa (pv 1) ag))))
   (ah gy)
   aJ)
   (ae (aE (b8 (pv 0) T.az T.jq G_Slots__move_slot (hr.mono (by decide)) T.jD .nil aB))
   (ae (aE (cx Qw Zr ZU qy (aK (pv 0) T.az T.fX G_Slots__cell_of (hr.mono (by decide)) T.f9 .nil aB (aa (pv 1) ag)) (aa (pv 1) ag)))
   (ae (iH (pv 0) ak xr)
   (ah (aE (b8 (pv 0) T.az T.jr G_Slots__begin_row (hr.mono (by decide)) T.jE .nil aB)))))))
   ,?_⟩
  obtain⟨dx,fs,hi,hm⟩:=hA.ins
  refine⟨_,rfl,a,dx,fs,rfl,hi,hm _ (by decide+kernel),_,rfl,a,k,F,st,rfl,hA,h0,λH0 F0 hA0 fr0=>?_⟩
  cases e:aF st.kv k with
  |none=>
   refine⟨_,rfl,cQ ?_⟩
   exact(q2 e).elim
  |some v=>
   refine⟨_,rfl,c7 ?_⟩
   obtain⟨d,hb,hF,hn,nd,z⟩:=hA0
   obtain⟨dx,fs,hi,hm⟩:=hb.insM
   obtain⟨hl,q1⟩:=q1 (by rw[e];rfl)
   refine⟨_,rfl,a,dx,fs,rfl,hi,hm _ (by decide+kernel),a,st,d,rfl,hb,z,hl,λH1 d1 hb1 e1 fr1=>?_⟩
   obtain⟨dx1,fs1,hi1,hm1⟩:=hb1.insM
   have z1:=z.one
   refine⟨_,rfl,a,dx1,fs1,rfl,hi1,hm1 _ (by decide+kernel),_,rfl,a,k,st.one,d1,rfl,hb1,z1,λc kv ic=>?_⟩
   obtain⟨hc,cF,_⟩:=hb1.at ic
   have hv:=hb1.val k c kv ic
   rw[SSt.one_kv,e]at hv
   obtain⟨d3,hb3,e3,f3⟩:=hb1.drop z1 ic
   rw[SSt.one_kv]at hb3 f3
   refine⟨.inr (.inr (.inl ⟨rfl,.inl ⟨_,hc⟩⟩)),_,rfl,c,_,Sum.inl k,v,rfl,rfl,hc,liftK_val.trans hv,?_⟩
   rw[jt]
   obtain⟨dx3,ho3⟩:=hb3.obj
   refine⟨_,rfl,a,_,dx3,_,_,rfl,ho3,T.az,T.bd,jO,_,_,rfl,rfl,dx3,_,ho3,jN,?_⟩
   rw[z7]
   have hb4:=hb3.setN (dx:=dx3) (n:=d3.n-1)
   obtain⟨dx4,fs4,hi4,hm4⟩:=hb4.insM
   have dl:=pR nd (valV_in e)
   have n4:d3.n-1=((bf st.kv k).length:Int):=by rw[e3,e1,hn];omega
   refine⟨_,rfl,a,dx4,fs4,rfl,hi4,hm4 _ (by decide+kernel),a,_,_,rfl,hb4,z1.kv,n4,λH5 d5 hb5 e5 fr5=>?_⟩
   refine q1 H5 _ ⟨d5,hb5,λb=>Iff.rfl,?_,?_,z1.kv.three⟩ ?_
   ·show d5.n=((SSt.three _).kv.length:Int)
    rw[SSt.three_kv,e5]
    exact n4
   ·show((SSt.three _).kv.map (·.1)).Nodup
    rw[SSt.three_kv]
    exact j2 nd
   ·refine fr0.trans (Fr.trans (λb o n w=>fr1 b o (λy=>n ((hF b).mpr y)) w) (Fr.trans (λb o n w=>?_) fr5))
    exact⟨by rw[ac (λy=>n (.inl y)),ac (λy=>n (by rw[y];exact cF))];exact w,λy=>n ((f3 b).mp y)⟩
theorem Ay {tb:Addr} {sh n:Int}:aV ("kept":Str) (.int n) (aV ("shifted":Str) (.int sh) (aV ("table":Str) (.ref tb) []))=slF tb sh n:=by
 have e1:aV ("table":Str) (.ref tb) []=[(("table":Str),V.ref tb)]:=rfl
 rw[e1,aV,if_neg (by decide+kernel),aV,aV,if_neg (by decide+kernel),aV,if_neg (by decide+kernel),aV]
 rfl
theorem m9 (T:Txt K mg t):aX P w K mg base CX0 2 t.iW t.fF ["self"] (mB K t):=by
 obtain⟨tk_LEAST_SIZE,hLEAST_SIZE⟩:=T.qM
 have G_empty_row:= @jY P w K mg base t T
 refine T.yk.ok mP (λvs H Q E h=>?_) (λcdv A outer s H vs Q E hr h=>?_)
 ·obtain⟨a,dx,rfl,_⟩:=h
  rfl
 ·obtain⟨a,dx,rfl,ha,hd,q⟩:=h
  refine⟨_,(ae (bB (pv 0) (dZ (aa (aQ G_empty_row (hr.mono (by decide)) (by rfl) T.lE T.iE.kp T.lH .nil aB (aa (cm (v:= .int 4) (by rfl) hLEAST_SIZE ⟨_,rfl⟩) ag)) ag)) rfl)
   (ae (bB (pv 0) ak rfl)
   (ah (bB (pv 0) ak rfl))))
   ,?_⟩
  refine⟨4,rfl,by decide,by decide,λH' r A s nr nA hr=>⟨(by show 1≤sizeLine;decide),λtb nt=>?_⟩⟩
  have ha1:=s _ _ ha
  have nta:a≠tb:=aj ha1 nt
  refine⟨_,rfl,a,_,dx,[],rfl,(by rw[ac nta];exact ha1),T.az,T.aN,(by show 0<1000;decide),?_⟩
  refine⟨_,rfl,a,_,dx,_,rfl,af,T.az,T.bn,?_,?_⟩
  ·show 1<1000
   decide
  refine⟨_,rfl,a,_,dx,_,rfl,af,T.az,T.bd,?_,?_⟩
  ·have h1:=g9 (f:="shifted") (v:= .int 0) (aV "table" (.ref tb) [])
   have h2:=g9 (f:="table") (v:= .ref tb) []
   have h3:([]:List (Str×V)).length=0:=rfl
   omega
  rw[Ay,cf,cf]
  have ntr:tb≠r:=(aj hr.lst nt).symm
  have sb:=SlB.fresh (t:=t) (H:=upd (upd H' tb (.lst [.ref r])) a (.ins t.aT dx (slF tb 0 0))) (a:=a) (tb:=tb) (r:=r) (A:=A) (dx:=dx) af (by rw[ac nta.symm];exact af) (hr.frame λb hb1=>?_) ntr
  ·refine q _ _ ⟨_,sb,λb=>Iff.rfl,rfl,Z0,SzOk.new⟩ λb o n w=>?_
   have n1:b≠a:=λy=>n (.inl y)
   have w1:=s _ _ w
   have n2:b≠tb:=aj w1 nt
   refine⟨by rw[ac n1,ac n2];exact w1,λy=>?_⟩
   rcases y with y|y|y|y|⟨y,_⟩|y
   ·exact n1 y
   ·exact n2 y
   ·have y:b=r:=y
    rw[y,nr]at w;cases w
   ·rw[nA b y]at w;cases w
   ·cases y
   ·cases y
  ·have:∃o,H' b=some o:=by
    rcases hb1 with rfl|hb1
    ·exact⟨_,hr.lst⟩
    ·obtain⟨_,_,_,_,w⟩:=hr.has hb1
     exact⟨_,w⟩
   obtain⟨o,w⟩:=this
   have n2:b≠tb:=aj w nt
   have n1:b≠a:=λy=>by
    rcases hb1 with y2|y2
    ·rw[←y2,y,ha]at nr;cases nr
    ·have:=nA b y2;rw[y,ha]at this;cases this
   rw[ac n1,ac n2]
theorem dL {A:List Addr} {j:Nat} {c:Addr} (e:A[j]?=some c):atI (A.map V.ref) (j:Int)=some (.ref c):=by
 refine kg ?_
 rw[Qc,e]
 rfl
theorem zF {x:List Int} {m:Int} (ne:x≠[]) (e:x[x.length-1]?=some m):atI (x.map V.int) (-1)=some (.int m):=by
 have hl:=QI.mpr ne
 unfold atI ixN
 rw[Q2,if_neg (by decide),if_pos (by omega)]
 show(x.map V.int)[((-1:Int)+(x.length:Int)).toNat]?=_
 have:((-1:Int)+(x.length:Int)).toNat=x.length-1:=by omega
 rw[this,Qc,e]
 rfl
theorem uy {A:List Addr} {i:Nat} (h:i<A.length):ixN (A.map V.ref).length (i:Int)=some i:=by
 unfold ixN
 rw[if_pos (by omega),if_pos (by rw[Q2];omega)]
 rfl
theorem jz:∀(A:List Addr) (i:Nat),(A.map V.ref).eraseIdx i=(A.eraseIdx i).map V.ref
 | [],_=>rfl
 |_::_,0=>rfl
 |a::r,i+1=>by
  show V.ref a::(r.map V.ref).eraseIdx i=V.ref a::(r.eraseIdx i).map V.ref
  rw[jz r i]
theorem pN:∀(ls:List (List Int)) (i:Nat) (y:List Int),(ls.set i y).eraseIdx i=ls.eraseIdx i
 | [],_,_=>rfl
 |_::_,0,_=>rfl
 |x::r,i+1,y=>by
  show x::(r.set i y).eraseIdx i=x::r.eraseIdx i
  rw[pN r i y]
def Al (a:Addr) (k:Int) (ls:List (List Int)) (H:Hp):Nat→St→Hp→Prop:=λm σ H'=>∃(lo hi:Nat) (v4:Option V),m=hi-lo∧H'=H∧σ=[some (.ref a),some (.int k),some (.int (lo:Int)),some (.int (hi:Int)),v4]∧lo≤hi∧hi≤ls.length∧
 (∀(j:Nat) (x:List Int),j<lo→ls[j]?=some x→∀y∈x,y<k)∧∀(j:Nat) (x:List Int),hi≤j→ls[j]?=some x→∃y∈x,k≤y
def je (t:Adr):Sp:=λvs H Q _=>∃(a:Addr) (k:Int) (L:Addr) (A:List Addr) (ls:List (List Int)),vs=[.ref a,.int k]∧LvB t H a L A ls∧(∀l∈ls,l≠[])∧cv ls.flatten∧∀i:Nat,LeafOf ls k i→Q (.int (i:Int)) H
theorem bI (T:Txt K mg t):aX P w K mg base CX0 1 t.eW t.cT ["self","key"] (je t):=by
 refine T.uT.ok sc_Leaves__leaf_of (λvs H Q E h=>?_) (λcdv A outer s H vs Q E hr h=>?_)
 ·obtain⟨a,k,L,A,ls,rfl,_⟩:=h
  rfl
 ·obtain⟨a,k,L,A,ls,rfl,hb,ne,up,q⟩:=h
  refine⟨_,(ae (aM (i:=2) sc_Leaves__leaf_of.nd rfl (Or.inl rfl) ak)
   (ae (aM (i:=3) sc_Leaves__leaf_of.nd rfl (Or.inl rfl) (au aq (by rfl) T.br a7 (aa (ar (pv 0) rfl) ag)))
   (ae (rE PassesOwn.never (aC dq (pv 2) (pv 3) (aD _))
   (ae (aM (i:=4) sc_Leaves__leaf_of.nd rfl (Or.inl rfl) (aH jX (aH bH (pv 2) (pv 3)) ak))
   (ah (aZ (aC dq (ba aS (ba aS (ar (pv 0) rfl) (pv 4) (λ_ _=>rfl)) (ud qc ak) (λ_ _=>rfl)) (pv 1) (aD _))
   (ah (aM (i:=2) sc_Leaves__leaf_of.nd rfl (Or.inl rfl) (aH bH (pv 4) ak)))
   (ah (aM (i:=3) sc_Leaves__leaf_of.nd rfl (Or.inl rfl) (pv 4)))))))
   (ah (aL (pv 2))))))
   ,?_⟩
  obtain⟨dx,ho⟩:=hb.obj
  have lA:((A.map V.ref).length:Int)=(ls.length:Int):=by rw[Q2,hb.len]
  refine⟨_,rfl,a,_,dx,_,_,rfl,ho,T.aA,T.ao,bY,L,_,rfl,.inl (SqL.of hb.lst),?_⟩
  dsimp only
  rw[lA]
  refine⟨Al a k ls H,⟨_,0,ls.length,none,rfl,rfl,rfl,Qk _,Q5 _,λj x h=>absurd h (by omega),λj x h e=>?_⟩,?_⟩
  ·have:=(Q3.mp e).1
   omega
  rintro m σ H' ⟨lo,hi,v4,rfl,rfl,rfl,h1,h2,h3,h4⟩
  refine⟨_,rfl,_,rfl,_,_,rfl,rfl,_,rfl,im (λc=>?_) (λc=>?_)⟩
  ·have c:lo<hi:=by have:=of_decide_eq_true c;omega
   refine⟨λσ' H''=>∃m',m'<hi-lo∧Al a k ls H' m' σ' H'',λ_ _ h=>h,?_⟩
   refine⟨_,rfl,_,rfl,_,_,rfl,rfl,_,_,rfl,rfl,⟨by decide,by decide⟩,?_⟩
   obtain⟨mid,em,m1,m2⟩:∃mid:Nat,((lo:Int)+(hi:Int))/2=(mid:Int)∧lo≤mid∧mid<hi:=⟨(lo+hi)/2,by omega,by omega,by omega⟩
   dsimp only
   rw[em]
   have hm:mid<ls.length:=by omega
   have ex:ls[mid]?=some ls[mid]:=Q4 hm
   obtain⟨b,eb,hbb⟩:=hb.at ex
   have nex:=ne _ (Zg hm)
   obtain⟨g,eg,gm,gmax⟩:=xm (yO up ex) nex
   refine⟨_,rfl,a,_,dx,_,_,rfl,ho,T.aA,T.ao,bY,_,rfl,L,_,_,_,rfl,rfl,SqL.of hb.lst,dL eb,_,rfl,b,_,_,_,rfl,rfl,SqL.of hbb,zF nex eg,_,rfl,_,_,rfl,rfl,_,rfl,im (λc2=>?_) (λc2=>?_)⟩
   ·have c2:=of_decide_eq_true c2
    refine⟨_,rfl,_,_,rfl,rfl,hi-(mid+1),by omega,mid+1,hi,_,rfl,rfl,rfl,by omega,h2,λj x hj e y hy=>?_,h4⟩
    rcases(show j<mid∨j=mid by omega)with h|h
    ·have:=pq up e ex h y hy g gm
     omega
    ·subst h
     rw[ex]at e
     cases e
     have:=gmax y hy
     omega
   ·have c2:¬g<k:=λz=>c2 (decide_eq_true z)
    refine⟨_,rfl,mid-lo,by omega,lo,mid,_,rfl,rfl,rfl,by omega,by omega,h3,λj x hj e=>?_⟩
    rcases(show j=mid∨mid<j by omega)with h|h
    ·subst h
     rw[ex]at e
     cases e
     exact⟨g,gm,by omega⟩
    ·obtain⟨y,hy⟩:=List.exists_mem_of_ne_nil x (ne x (Q0 e))
     have:=pq up ex e h g gm y hy
     exact⟨y,hy,by omega⟩
  ·have c:¬lo<hi:=λz=>c (decide_eq_true (by omega))
   have:lo=hi:=by omega
   subst this
   exact⟨_,rfl,q lo ⟨h2,h3,λx e=>h4 lo x (Q5 _) e⟩⟩
theorem rZ {k:Int}:∀{x:List Int},inV (.int k) (x.map V.int)=decide (k∈x)
 | []=>rfl
 |a::r=>by
  have ih:=rZ (k:=k) (x:=r)
  unfold inV at ih⊢
  rw[Qo,Zv,ih]
  have:eqV (.int a) (.int k)=decide (k=a):=by
   show(_:Bool)=_
   by_cases c:a=k
   ·subst c;simp[eqV]
   ·have c':¬k=a:=λz=>c z.symm
    simp[eqV,c,c']
  rw[this]
  by_cases c:k=a
  ·simp[c]
  ·simp[c]
theorem vR {x:List Int}:(x.map V.int).all ka=true:=by
 rw[List.all_map]
 exact QG.mpr λ_ _=>rfl
theorem hW (T:Txt K mg t):aX P w K mg base CX0 2 t.i4 t.fJ ["self","key"] (mF K t):=by
 have G_Leaves__leaf_of:= @bI P w K mg base t T
 refine T.yq.ok sc_Leaves__has (λvs H Q E h=>?_) (λcdv A outer s H vs Q E hr h=>?_)
 ·obtain⟨a,k,F,ks,rfl,_⟩:=h
  rfl
 ·obtain⟨a,k,F,ks,rfl,hA,q⟩:=h
  refine⟨_,(ae (aM (i:=2) sc_Leaves__has.nd rfl (Or.inl rfl) (aK (pv 0) T.aA T.cP G_Leaves__leaf_of (hr.mono (by decide)) T.cX .nil aB (aa (pv 1) ag)))
   (ah (aL (kJ (cN dq (pv 2) (au aq (by rfl) T.br a7 (aa (ar (pv 0) rfl) ag)) (aD _)) (kI (cN vj (pv 1) (ba aS (ar (pv 0) rfl) (pv 2) (λ_ _=>rfl)) rfl))))))
   ,?_⟩
  obtain⟨dx,fs,hi,hm⟩:=hA.ins
  have q:=q H F hA Fr.refl
  obtain⟨L,A,ls,hb,ok,ef,hF⟩:=hA
  obtain⟨dx',ho⟩:=hb.obj
  have lA:((A.map V.ref).length:Int)=(ls.length:Int):=by rw[Q2,hb.len]
  refine⟨_,rfl,a,dx,fs,rfl,hi,hm _ (by decide+kernel),_,rfl,a,k,L,A,ls,rfl,hb,ok.ne,ok.up,λi li=>?_⟩
  refine⟨_,rfl,_,rfl,a,_,dx',_,_,rfl,ho,T.aA,T.ao,bY,L,_,rfl,.inl (SqL.of hb.lst),_,_,rfl,rfl,_,rfl,im (λc=>?_) (λc=>?_)⟩
  ·have c:=of_decide_eq_true c
   have hi:i<ls.length:=by omega
   have ex:ls[i]?=some ls[i]:=Q4 hi
   obtain⟨b,eb,hbb⟩:=hb.at ex
   refine⟨_,rfl,_,rfl,a,_,dx',_,_,rfl,ho,T.aA,T.ao,bY,_,rfl,L,_,_,_,rfl,rfl,SqL.of hb.lst,dL eb,b,_,rfl,.inl (SqL.of hbb),rfl,vR,?_⟩
   show Q (.bl (inV (.int k) (ls[i].map V.int))) H
   rw[rZ]
   have:k∈ls[i]↔k∈ks:=by
    rw[←ef,li.mem ok]
    constructor
    ·exact λz=>⟨_,ex,z⟩
    ·rintro ⟨x,e,z⟩
     rw[ex]at e
     cases e
     exact z
   rw[decide_eq_decide.mpr this]
   exact q
  ·have c:¬(i:Int)<((A.map V.ref).length:Int):=λz=>c (decide_eq_true z)
   have:k∉ks:=λz=>by
    rw[←ef,li.mem ok]at z
    obtain⟨x,e,_⟩:=z
    have:=(Q3.mp e).1
    omega
   rw[decide_eq_false this]at q
   exact q
theorem gP (T:Txt K mg t):aX P w K mg base CX0 1 t.iB t.eF ["self"] (lQ K t):=by
 refine T.xW.ok lU (λvs H Q E h=>?_) (λcdv A outer s H vs Q E hr h=>?_)
 ·obtain⟨a,dx,rfl,_⟩:=h
  rfl
 ·obtain⟨a,dx,rfl,ha,hd,q⟩:=h
  refine⟨_,(ah (bB (pv 0) (dZ ag) rfl))
   ,?_⟩
  refine⟨Qk _,λL nL=>⟨_,rfl,a,_,dx,[],rfl,(by rw[ac (aj ha nL)];exact ha),T.aA,T.ao,(by show 0<1000;decide),?_⟩⟩
  have na:=aj ha nL
  refine q _ (LvF a L []) ⟨L,[],[],⟨⟨dx,af⟩,by rw[ac na.symm];exact af,rfl,(λj b l e=>by simp at e),(λi j b e=>by simp at e),(λz=>by cases z)⟩,LvOk.nil,rfl,λb=>Iff.rfl⟩ λb o n w=>?_
  have n1:b≠a:=λy=>n (.inl y)
  have n2:b≠L:=aj w nL
  refine⟨by rw[ac n1,ac n2];exact w,λy=>?_⟩
  rcases y with y|y|y
  ·exact n1 y
  ·exact n2 y
  ·cases y
def gW (t:Adr):Sp:=λvs H Q _=>∃(a L:Addr) (A:List Addr) (ls:List (List Int)) (i:Nat) (x:List Int),vs=[.ref a,.int (i:Int)]∧LvB t H a L A ls∧ls[i]?=some x∧x.length=9∧ls.length<5000∧
 ∀H' A',LvB t H' a L A' ((ls.set i (x.take 4)).take (i+1)++x.drop 4::(ls.set i (x.take 4)).drop (i+1))→Fr (LvF a L A) (LvF a L A') H H'→Q .non H'
theorem hV (T:Txt K mg t):aX P w K mg base CX0 1 t.dH t.b6 ["self","at"] (gW t):=by
 refine T.sJ.ok sc_Leaves__part_leaf (λvs H Q E h=>?_) (λcdv A outer s H vs Q E hr h=>?_)
 ·obtain⟨a,L,A,ls,i,x,rfl,_⟩:=h
  rfl
 ·obtain⟨a,L,A,ls,i,x,rfl,hb,ex,lx,ll,q⟩:=h
  refine⟨_,(ae (aM (i:=2) sc_Leaves__part_leaf.nd rfl (Or.inl rfl) (ba aS (ar (pv 0) rfl) (pv 1) (λ_ _=>rfl)))
   (ae (aM (i:=3) sc_Leaves__part_leaf.nd rfl (Or.inl rfl) (aH jX (au aq (by rfl) T.br a7 (aa (pv 2) ag)) ak))
   (ae (sY (hU jM (pv 2) jV (jU (pv 3))) (sZ (ar (pv 0) rfl) (pv 1) mN))
   (ah (aE (cx Ql ZD ZE kQ (ar (pv 0) rfl) (aa (aH bH (pv 1) ak) (aa (hU jM (pv 2) (jU (pv 3)) jV) ag))))))))
   ,?_⟩
  obtain⟨dx,ho⟩:=hb.obj
  obtain⟨c,ec,hc⟩:=hb.at ex
  have hil:i<A.length:=(Q3.mp ec).1
  have len9:((x.map V.int).length:Int)=9:=by rw[Q2,lx];rfl
  refine⟨_,rfl,a,_,dx,_,_,rfl,ho,T.aA,T.ao,bY,_,rfl,L,_,_,_,rfl,rfl,SqL.of hb.lst,dL ec,?_⟩
  refine⟨_,rfl,c,_,rfl,.inl (SqL.of hc),_,_,rfl,rfl,⟨by decide,by decide⟩,?_⟩
  dsimp only
  rw[len9]
  have cut1:n8 (x.map V.int) none (some (9/2))=(x.take 4).map V.int:=by
   unfold n8
   rw[Q2,lx]
   show((x.map V.int).drop 0).take (4-0)=_
   rw[Xm,ZF]
  have cut2:n8 (x.map V.int) (some (9/2)) none=(x.drop 4).map V.int:=by
   unfold n8
   rw[Q2,lx]
   show((x.map V.int).drop 4).take (9-4)=_
   rw[List.map_drop,QQ (by rw[QV,Q2,lx];exact Q5 _)]
  refine⟨_,rfl,_,rfl,_,rfl,c,_,rfl,SqL.of hc,λn1 nn1=>?_⟩
  rw[cut1]
  have s1:Same H (upd H n1 (.lst ((x.take 4).map V.int))):=am nn1
  have hb1:=hb.same s1
  have hn1:upd H n1 (.lst ((x.take 4).map V.int)) n1=some (.lst ((x.take 4).map V.int)):=af
  have nF1:=hb.out nn1
  have ho1:=s1 _ _ ho
  have hc1:=s1 _ _ hc
  have hL1:=s1 _ _ hb.lst
  generalize upd H n1 (.lst ((x.take 4).map V.int))=H1 at s1 hb1 hn1 ho1 hc1 hL1⊢
  refine⟨_,rfl,a,_,dx,_,_,rfl,ho1,T.aA,T.ao,bY,_,rfl,L,_,_,_,rfl,rfl,hL1,uy hil,?_⟩
  have es:(A.map V.ref).set i (V.ref n1)=(A.set i n1).map V.ref:=by rw[X9]
  rw[es]
  have hb2:=hb1.swap ec ex hn1 nF1
  have cL:c≠L:=λz=>hb.nL (z▸Q0 ec)
  have hc2:upd H1 L (.lst ((A.set i n1).map V.ref)) c=some (.lst (x.map V.int)):=by rw[ac cL];exact hc1
  obtain⟨dx2,ho2⟩:=hb2.obj
  have hL2:=hb2.lst
  have f2:Fr (LvF a L A) (LvF a L (A.set i n1)) H (upd H1 L (.lst ((A.set i n1).map V.ref))):=λb o n w=>by
   have w1:=s1 _ _ w
   refine⟨by rw[ac (λy=>n (.inr (.inl y)))];exact w1,λy=>?_⟩
   rcases y with y|y|y
   ·exact n (.inl y)
   ·exact n (.inr (.inl y))
   ·rcases Z7 y with y|y
    ·exact n (.inr (.inr y))
    ·rw[y,nn1]at w;cases w
  generalize upd H1 L (.lst ((A.set i n1).map V.ref))=H2 at hb2 hc2 ho2 hL2 f2⊢
  refine⟨_,rfl,a,_,dx2,_,_,rfl,ho2,T.aA,T.ao,bY,.inl ⟨rfl,_,SqL.of hL2⟩,_,rfl,_,_,rfl,rfl,_,rfl,_,rfl,_,rfl,c,_,rfl,SqL.of hc2,λn2 nn2=>?_⟩
  rw[cut2]
  have s3:Same H2 (upd H2 n2 (.lst ((x.drop 4).map V.int))):=am nn2
  have hb3:=hb2.same s3
  have hn3:upd H2 n2 (.lst ((x.drop 4).map V.int)) n2=some (.lst ((x.drop 4).map V.int)):=af
  have nF3:=hb2.out nn2
  have hL3:=s3 _ _ hL2
  generalize upd H2 n2 (.lst ((x.drop 4).map V.int))=H3 at s3 hb3 hn3 hL3⊢
  have lS:(A.set i n1).length=A.length:=Qt
  refine⟨L,_,_,_,rfl,rfl,hL3,(by omega),(by rw[Q2,lS];omega),(by rw[Q2,lS,hb.len];exact be (by omega)),?_⟩
  have ei:((i:Int)+1).toNat=i+1:=by omega
  have hb4:=hb3.insert (i:=i+1) (by rw[lS];omega) hn3 nF3
  rw[ei]
  have em:((A.set i n1).map V.ref).take (i+1)++V.ref n2::((A.set i n1).map V.ref).drop (i+1)=((A.set i n1).take (i+1)++n2::(A.set i n1).drop (i+1)).map V.ref:=by
   rw[Qi,Qo,ZF,List.map_drop]
  rw[em]
  refine q _ _ hb4 (f2.trans (λb o n w=>?_))
  have w3:=s3 _ _ w
  refine⟨by rw[ac (λy=>n (.inr (.inl y)))];exact w3,λy=>?_⟩
  rcases y with y|y|y
  ·exact n (.inl y)
  ·exact n (.inr (.inl y))
  ·rcases Qb.mp y with y|y
   ·exact n (.inr (.inr (Zk y)))
   ·rcases Qe.mp y with y|y
    ·rw[y,nn2]at w;cases w
    ·exact n (.inr (.inr (Zw y)))
theorem LvB.insM {H:Hp} {a L:Addr} {A:List Addr} {ls:List (List Int)} (h:LvB t H a L A ls):∃dx fs,H a=some (.ins t.bg dx fs)∧∀m,m≠("leaves":Str)→fs.lookup m=none:=by
 obtain⟨dx,ho⟩:=h.obj
 exact⟨dx,_,ho,λm hm=>Ae hm⟩
theorem hX (T:Txt K mg t):aX P w K mg base CX0 3 t.i5 t.fK ["self","key"] (mG K t):=by
 obtain⟨tk_MOST_IN_LEAF,hMOST_IN_LEAF⟩:=T.xB
 have G_Leaves__has:= @hW P w K mg base t T
 have G_Leaves__leaf_of:= @bI P w K mg base t T
 have G_Leaves__part_leaf:= @hV P w K mg base t T
 refine T.yr.ok sc_Leaves__add (λvs H Q E h=>?_) (λcdv A outer s H vs Q E hr h=>?_)
 ·obtain⟨a,k,F,ks,rfl,_⟩:=h
  rfl
 ·obtain⟨a,k,F,ks,rfl,hA,hl,q1,q2⟩:=h
  refine⟨_,(ae (aZ (b4 (aK (pv 0) T.aA T.oQ G_Leaves__has (hr.mono (by decide)) T.oY .nil aB (aa (pv 1) ag)))
   (ah gy)
   aJ)
   (ae (aZ (aC dt (au aq (by rfl) T.br a7 (aa (ar (pv 0) rfl) ag)) ak (aD _))
   (ae (aE (cx Ql QK QL cy (ar (pv 0) rfl) (aa (dZ (aa (pv 1) ag)) ag)))
   (ah jT))
   aJ)
   (ae (aM (i:=2) sc_Leaves__add.nd rfl (Or.inl rfl) (au (vW rfl) (by rfl) T.Br xK (aa (aK (pv 0) T.aA T.cP G_Leaves__leaf_of (hr.mono (by decide)) T.cX .nil aB (aa (pv 1) ag)) (aa (aH kL (au aq (by rfl) T.br a7 (aa (ar (pv 0) rfl) ag)) ak) ag))))
   (ae (aM (i:=3) sc_Leaves__add.nd rfl (Or.inl rfl) (ba aS (ar (pv 0) rfl) (pv 2) (λ_ _=>rfl)))
   (ae (aE (cx Ql ZD ZE kQ (pv 3) (aa (au aq (by rfl) T.br a7 (aa (rJ rfl (CScope.of (M:=["one"]) (N:=["self","key","at","leaf"]) (N':=["self","key","at","leaf"]) (dsc:=ai de) rfl rfl (by decide+kernel)) (eO (pv 3)) (λ_ _ _ _ _=>(aC dq (pv 0) (pv 2) (aD _))) (λ_ _ _ _ _=>(pv 0))) ag)) (aa (pv 1) ag))))
   (ah (aZ (aC m6 (au aq (by rfl) T.br a7 (aa (pv 3) ag)) (cm (v:= .int 8) (by rfl) hMOST_IN_LEAF ⟨_,rfl⟩) (aD _))
   (ah (aE (aK (pv 0) T.aA T.sG G_Leaves__part_leaf (hr.mono (by decide)) T.sI .nil aB (aa (pv 2) ag))))
   aJ)))))))
   ,?_⟩
  obtain⟨dx,fs,hi,hm⟩:=hA.ins
  refine⟨_,rfl,a,dx,fs,rfl,hi,hm _ (by decide+kernel),_,rfl,a,k,F,ks,rfl,hA,λH0 F0 hA0 fr0=>?_⟩
  by_cases ck:k∈ks
  ·rw[decide_eq_true ck]
   refine⟨_,rfl,cQ ?_⟩
   exact(q2 ck).elim
  rw[decide_eq_false ck]
  refine⟨_,rfl,c7 ?_⟩
  have q:=q1 ck
  obtain⟨L,A,ls,hb,ok,ef,hF⟩:=hA0
  obtain⟨dx',ho⟩:=hb.obj
  have lA:((A.map V.ref).length:Int)=(ls.length:Int):=by rw[Q2,hb.len]
  have sh:=ok.short
  rw[ef]at sh
  have fr:Fr F (LvF a L A) H H0:=λb o n e=>⟨(fr0 b o n e).1,λy=>(fr0 b o n e).2 ((hF b).mpr y)⟩
  have nk:k∉ls.flatten:=by rw[ef];exact ck
  by_cases ce:ls=[]
  ·subst ce
   have eA:A=[]:=Zo.mp hb.len
   subst eA
   refine⟨_,rfl,a,_,dx',_,_,rfl,ho,T.aA,T.ao,bY,L,_,rfl,.inl (SqL.of hb.lst),rfl,_,rfl,oU rfl ?_⟩
   refine⟨_,rfl,a,_,dx',_,_,rfl,ho,T.aA,T.ao,bY,.inl ⟨rfl,_,SqL.of hb.lst⟩,_,rfl,(by show 1≤sizeLine;decide),λn nn=>?_⟩
   have s1:Same H0 (upd H0 n (.lst [.int k])):=am nn
   have hb1:=hb.same s1
   have hn1:upd H0 n (.lst [.int k]) n=some (.lst (([k]:List Int).map V.int)):=af
   have nF:=hb.out nn
   have hL1:=s1 _ _ hb.lst
   refine⟨L,_,_,rfl,rfl,hL1,bT (by show 0≤1000;decide),?_⟩
   have hb2:=hb1.insert (i:=0) (Qk _) hn1 nF
   have ok1:LvOk [[k]]:=⟨(λl hl=>by rw[Qg.mp hl];simp),(λl hl=>by rw[Qg.mp hl];simp),(λi x y e1 e2=>by simp at e2),by show cv [k];exact ZI _ _⟩
   refine q _ (LvF a L [n]) [k] ⟨L,[n],[[k]],hb2,ok1,rfl,λb=>Iff.rfl⟩ (λz=>?_) (fr.trans λb o n' w=>?_)
   ·rw[←ef]
    simp
   ·have w1:=s1 _ _ w
    refine⟨by rw[ac (λy=>n' (.inr (.inl y)))];exact w1,λy=>?_⟩
    rcases y with y|y|y
    ·exact n' (.inl y)
    ·exact n' (.inr (.inl y))
    ·rw[Qg.mp y,nn]at w;cases w
  ·have hpos:=QI.mpr ce
   refine⟨_,rfl,a,_,dx',_,_,rfl,ho,T.aA,T.ao,bY,L,_,rfl,.inl (SqL.of hb.lst),rfl,_,rfl,bP (λw=>?_) ?_⟩
   ·have:=V.int.inj w
    omega
   obtain⟨dx2,fs2,hi2,hm2⟩:=hb.insM
   refine⟨_,rfl,a,dx2,fs2,rfl,hi2,hm2 _ (by decide+kernel),_,rfl,a,k,L,A,ls,rfl,hb,ok.ne,ok.up,λi li=>?_⟩
   refine⟨_,rfl,a,_,dx',_,_,rfl,ho,T.aA,T.ao,bY,L,_,rfl,.inl (SqL.of hb.lst),_,_,rfl,rfl,_,_,rfl,?_⟩
   obtain⟨x,ad⟩:=li.add ok ce
   have em:(if((A.map V.ref).length:Int)-1<(i:Int)then((A.map V.ref).length:Int)-1 else(i:Int))=((min i (ls.length-1):Nat):Int):=by
    rw[lA]
    split<;>omega
   dsimp only
   rw[em]
   generalize min i (ls.length-1)=j at ad⊢
   obtain⟨c,ec,hc⟩:=hb.at ad.at_
   have jl:j<ls.length:=(Q3.mp ad.at_).1
   have x8:=ok.le x (Q0 ad.at_)
   refine⟨_,rfl,a,_,dx',_,_,rfl,ho,T.aA,T.ao,bY,_,rfl,L,_,_,_,rfl,rfl,SqL.of hb.lst,dL ec,?_⟩
   refine⟨_,rfl,.inl ⟨rfl,_,SqL.of hc⟩,_,rfl,c,rfl,⟨_,SqL.of hc⟩,λD hD=>?_⟩
   refine gN (K:=K) (a:=c) (xs:=x.map V.int) (λn ys H3=>H3=upd H0 D (.lst ys)∧ys=((x.take n).filter (λz=>decide (z<k))).map V.int) ⟨rfl,rfl⟩ (λn ys H3 _ w=>SqL.of (by rw[w.1,ac (aj hc hD)];exact hc)) (λn v ys H3 hv w hDD=>?_) (λys H3 w hDD=>?_)
   ·obtain⟨e1,e2⟩:=w
    obtain⟨g,rfl,eg⟩:∃g:Int,v= .int g∧x[n]?=some g:=by
     rw[Qc]at hv
     cases e:x[n]? with
     |none=>rw[e]at hv;cases hv
     |some g=>rw[e]at hv;cases hv;exact⟨g,rfl,rfl⟩
    have hn:n<(x.map V.int).length:=(Q3.mp hv).1
    refine⟨_,rfl,_,rfl,_,_,rfl,rfl,_,rfl,?_⟩
    have fl:ys.length≤8:=by
     rw[e2,Q2]
     have h1:=Qr (λz=>decide (z<k)) (x.take n)
     have h2:(x.take n).length≤x.length:=by rw[Qj];omega
     omega
    by_cases cg:g<k
    ·refine fZ cg ⟨_,rfl,CNext.mk hn hDD (bT (by omega)) ⟨by rw[e1,cf],?_⟩⟩
     rw[e2,Qz,eg,Z2,Qi]
     simp[cg]
    ·refine bP cg (CSkip.mk hn hDD ⟨e1,?_⟩)
     rw[e2,Qz,eg,Z2]
     simp[cg]
   ·obtain⟨e1,e2⟩:=w
    rw[Q2,QH]at e2
    have s3:Same H0 H3:=by rw[e1];exact am hD
    have hb3:=hb.same s3
    have hc3:=s3 _ _ hc
    have yl:(ys.length:Int)=((x.filter (λz=>decide (z<k))).length:Int):=by rw[e2,Q2]
    have fle:=Qr (λz=>decide (z<k)) x
    refine⟨D,_,rfl,.inl (SqL.of hDD),_,rfl,c,_,_,_,rfl,rfl,hc3,(by omega),(by rw[Q2];omega),(by rw[Q2];exact bT (by omega)),?_⟩
    have ei:(x.map V.int).take (ys.length:Int).toNat++V.int k::(x.map V.int).drop (ys.length:Int).toNat=(dv x k).map V.int:=by
     rw[yl,Zq]
     unfold dv
     rw[Qi,Qo,ZF,List.map_drop]
    dsimp only
    rw[ei]
    have hb4:=hb3.write (y:=dv x k) ec ad.at_
    have il:=xq (l:=x) (k:=k)
    obtain⟨up4,mem4⟩:=ad.set ok nk
    have cF:LvF a L A c:= .inr (.inr (Q0 ec))
    have f4:Fr (LvF a L A) (LvF a L A) H0 (upd H3 c (.lst ((dv x k).map V.int))):=λb o n w=>⟨by rw[ac (λy=>n (by rw[y];exact cF))];exact s3 _ _ w,n⟩
    have hc4:upd H3 c (.lst ((dv x k).map V.int)) c=some (.lst ((dv x k).map V.int)):=af
    generalize upd H3 c (.lst ((dv x k).map V.int))=H4 at hb4 f4 hc4⊢
    refine⟨_,rfl,c,_,rfl,.inl (SqL.of hc4),_,_,rfl,rfl,_,rfl,?_⟩
    have ll:((dv x k).map V.int).length=x.length+1:=by rw[Q2,il]
    by_cases c9:x.length=8
    ·refine fZ (by rw[ll];omega) ?_
     obtain⟨dx5,fs5,hi5,hm5⟩:=hb4.insM
     have e5:(ls.set j (dv x k))[j]?=some (dv x k):=by rw[Qm,if_pos rfl,if_pos jl]
     refine⟨_,rfl,a,dx5,fs5,rfl,hi5,hm5 _ (by decide+kernel),_,rfl,a,L,A,_,j,_,rfl,hb4,e5,by omega,by rw[Qt];omega,λH6 A6 hb6 f6=>?_⟩
     have er:(ls.set j (dv x k)).set j ((dv x k).take 4)=ls.set j ((dv x k).take 4):=List.set_set _
     rw[er]at hb6
     have up5:cv (ls.set j ((dv x k).take 4++(dv x k).drop 4)).flatten:=by rw[QU];exact up4
     obtain⟨ok6,ef6⟩:=ok.parted ad.at_ (a:=(dv x k).take 4) (b:=(dv x k).drop 4) (by rw[Qj];omega) (by rw[QV];omega) up5
     rw[QU]at ef6
     refine q H6 _ _ ⟨L,A6,_,hb6,ok6,rfl,λb=>Iff.rfl⟩ (λz=>?_) (fr.trans (f4.trans f6))
     rw[ef6,mem4,ef]
    ·refine bP (by rw[ll];omega) ?_
     have ok4:=ok.grown ad.at_ (y:=dv x k) (by omega) (by omega) up4
     exact q H4 _ _ ⟨L,A,_,hb4,ok4,rfl,λb=>Iff.rfl⟩ (λz=>by rw[mem4,ef]) (fr.trans f4)
def gS (t:Adr):Sp:=λvs H Q _=>∃(a L:Addr) (A:List Addr) (ls:List (List Int)) (i:Int),vs=[.ref a,.int i]∧LvB t H a L A ls∧-1≤i∧i<(ls.length:Int)∧(∀l∈ls,l.length≤8)∧ls.length<5000∧
 ∀H' A' ls',LvB t H' a L A' ls'→ls'=(if 0≤i then iS ls i.toNat else ls)→Fr (LvF a L A) (LvF a L A') H H'→Q .non H'
theorem xf {A:List Addr} {i:Nat} {n b:Addr} (h:b∈A.set i n):b∈A∨b=n:=Z7 h
theorem gT (T:Txt K mg t):aX P w K mg base CX0 1 t.dw t.bR ["self","at"] (gS t):=by
 obtain⟨tk_LEAST_IN_TWO,hLEAST_IN_TWO⟩:=T.xC
 refine T.sE.ok sc_Leaves__join_small (λvs H Q E h=>?_) (λcdv A outer s H vs Q E hr h=>?_)
 ·obtain⟨a,L,A,ls,i,rfl,_⟩:=h
  rfl
 ·obtain⟨a,L,A,ls,i,rfl,hb,i0,i1,l8,ll,q⟩:=h
  refine⟨_,(ae (aZ (PW.pt (wN (aC dq (pv 1) ak (aD _)) (sX (aC dt (aH bH (pv 1) ak) (au aq (by rfl) T.br a7 (aa (ar (pv 0) rfl) ag)) (aD _)))))
   (ah jT)
   aJ)
   (ae (aM (i:=2) sc_Leaves__join_small.nd rfl (Or.inl rfl) (aH AM (ba aS (ar (pv 0) rfl) (pv 1) (λ_ _=>rfl)) (ba aS (ar (pv 0) rfl) (aH bH (pv 1) ak) (λ_ _=>rfl))))
   (ah (aZ (aC dq (au aq (by rfl) T.br a7 (aa (pv 2) ag)) (cm (v:= .int 5) (by rfl) hLEAST_IN_TWO ⟨_,rfl⟩) (aD _))
   (ae (sY (pv 2) (sZ (ar (pv 0) rfl) (pv 1) mN))
   (ah (aE (cx Ql PySem.F.slot_list_pop PySem.F.type_list_pop rO (ar (pv 0) rfl) (aa (aH bH (pv 1) ak) ag)))))
   aJ))))
   ,?_⟩
  obtain⟨dx,ho⟩:=hb.obj
  have lA:((A.map V.ref).length:Int)=(ls.length:Int):=by rw[Q2,hb.len]
  by_cases c0:i<0
  ·refine⟨_,rfl,_,_,rfl,rfl,_,rfl,fZ c0 ?_⟩
   exact cQ (q H A ls hb (by rw[if_neg (by omega)]) Fr.refl)
  refine⟨_,rfl,_,_,rfl,rfl,_,rfl,bP c0 ?_⟩
  obtain⟨n,rfl⟩:=ZH (show 0≤i by omega)
  have en:((n:Int)).toNat=n:=Zq n
  rw[if_pos (by omega),en]at q
  refine⟨_,rfl,_,_,rfl,rfl,_,rfl,a,_,dx,_,_,rfl,ho,T.aA,T.ao,bY,L,_,rfl,.inl (SqL.of hb.lst),rfl,_,rfl,?_⟩
  by_cases c1:n+1=ls.length
  ·refine oU (congrArg V.int (by rw[lA];omega)) ?_
   exact q H A ls hb (nU (by omega)).symm Fr.refl
  refine bP (λw=>c1 (by have:=V.int.inj w;rw[lA]at this;omega)) ?_
  have hn:n<ls.length:=by omega
  have hn1:n+1<ls.length:=by omega
  have ex:ls[n]?=some ls[n]:=Q4 hn
  have ey:ls[n+1]?=some ls[n+1]:=Q4 hn1
  have x8:=l8 _ (Zg hn)
  have y8:=l8 _ (Zg hn1)
  generalize ls[n]=x at ex x8
  generalize ls[n+1]=y at ey y8
  obtain⟨c,ec,hc⟩:=hb.at ex
  obtain⟨d,ed,hd⟩:=hb.at ey
  have ec1:(n:Int)+1=((n+1:Nat):Int):=rfl
  refine⟨_,rfl,a,_,dx,_,_,rfl,ho,T.aA,T.ao,bY,_,rfl,L,_,_,_,rfl,rfl,SqL.of hb.lst,dL ec,_,rfl,a,_,dx,_,_,rfl,ho,T.aA,T.ao,bY,_,rfl,_,_,rfl,rfl,L,_,_,_,rfl,rfl,SqL.of hb.lst,dL ed,c,d,_,_,rfl,rfl,hc,hd,QO (bT (by rw[Q2,Q2];omega)),λbo nbo=>?_⟩
  rw[←Qi]
  have s1:Same H (upd H bo (.lst ((x++y).map V.int))):=am nbo
  have hb1:=hb.same s1
  have hbo:upd H bo (.lst ((x++y).map V.int)) bo=some (.lst ((x++y).map V.int)):=af
  have nF:=hb.out nbo
  have ho1:=s1 _ _ ho
  have hL1:=s1 _ _ hb.lst
  generalize upd H bo (.lst ((x++y).map V.int))=H1 at s1 hb1 hbo ho1 hL1⊢
  refine⟨_,rfl,bo,_,rfl,.inl (SqL.of hbo),_,_,rfl,rfl,_,rfl,?_⟩
  have lxy:(((x++y).map V.int).length:Int)=(x.length:Int)+(y.length:Int):=by rw[Q2,Qa];rfl
  rw[rY ex ey]at q
  by_cases c5:x.length+y.length<5
  ·refine fZ (by rw[lxy];omega) ?_
   rw[if_pos c5]at q
   have nA:n<A.length:=by rw[hb.len];exact hn
   refine⟨_,rfl,_,rfl,a,_,dx,_,_,rfl,ho1,T.aA,T.ao,bY,_,rfl,L,_,_,_,rfl,rfl,hL1,uy nA,?_⟩
   have es:(A.map V.ref).set n (V.ref bo)=(A.set n bo).map V.ref:=by rw[X9]
   rw[es]
   have hb2:=hb1.swap ec ex hbo nF
   obtain⟨dx2,ho2⟩:=hb2.obj
   have hL2:=hb2.lst
   have f2:Fr (LvF a L A) (LvF a L (A.set n bo)) H (upd H1 L (.lst ((A.set n bo).map V.ref))):=λb o n' w=>by
    have w1:=s1 _ _ w
    refine⟨by rw[ac (λy=>n' (.inr (.inl y)))];exact w1,λy=>?_⟩
    rcases y with y|y|y
    ·exact n' (.inl y)
    ·exact n' (.inr (.inl y))
    ·rcases xf y with y|y
     ·exact n' (.inr (.inr y))
     ·rw[y,nbo]at w;cases w
   generalize upd H1 L (.lst ((A.set n bo).map V.ref))=H2 at hb2 ho2 hL2 f2⊢
   have lS:((A.set n bo).map V.ref).length=ls.length:=by rw[Q2,Qt,hb.len]
   have hn2:n+1<(A.set n bo).length:=by rw[Qt,hb.len];exact hn1
   have sx:seqIndex? ((n:Int)+1) ((A.set n bo).map V.ref).length=some (n+1):=by
    have:=seqIndex_of (k:=(n:Int)+1) (n:=((A.set n bo).map V.ref).length) (by omega) (by rw[lS];omega)
    rw[this]
    congr 1
   refine⟨_,rfl,a,_,dx2,_,_,rfl,ho2,T.aA,T.ao,bY,.inl ⟨rfl,_,SqL.of hL2⟩,_,rfl,_,_,rfl,rfl,L,_,_,n+1,_,rfl,rfl,hL2,(by omega),(by omega),sx,(by rw[Qc,Q4 hn2];rfl),?_⟩
   have hb3:=hb2.erase (i:=n+1)
   have em:((A.set n bo).map V.ref).eraseIdx (n+1)=((A.set n bo).eraseIdx (n+1)).map V.ref:=jz _ _
   rw[em]
   refine q _ _ _ hb3 rfl (f2.trans λb o n' w=>?_)
   refine⟨by rw[ac (λy=>n' (.inr (.inl y)))];exact w,λy=>?_⟩
   rcases y with y|y|y
   ·exact n' (.inl y)
   ·exact n' (.inr (.inl y))
   ·exact n' (.inr (.inr (QW y)))
  ·refine bP (by rw[lxy];omega) ?_
   rw[if_neg c5]at q
   exact q H1 A ls hb1 rfl (Fr.of_same s1)
theorem jo (T:Txt K mg t):aX P w K mg base CX0 3 t.eY t.cV ["self","key"] (jg K t):=by
 have G_Leaves__has:= @hW P w K mg base t T
 have G_Leaves__join_small:= @gT P w K mg base t T
 have G_Leaves__leaf_of:= @bI P w K mg base t T
 refine T.uV.ok sc_Leaves__discard (λvs H Q E h=>?_) (λcdv A outer s H vs Q E hr h=>?_)
 ·obtain⟨a,k,F,ks,rfl,_⟩:=h
  rfl
 ·obtain⟨a,k,F,ks,rfl,hA,hl,q1,q2⟩:=h
  refine⟨_,(ae (aZ (gx (b4 (aK (pv 0) T.aA T.oQ G_Leaves__has (hr.mono (by decide)) T.oY .nil aB (aa (pv 1) ag))))
   (ah gy)
   aJ)
   (ae (aM (i:=2) sc_Leaves__discard.nd rfl (Or.inl rfl) (aK (pv 0) T.aA T.cP G_Leaves__leaf_of (hr.mono (by decide)) T.cX .nil aB (aa (pv 1) ag)))
   (ae (aE (cx Ql PySem.F.slot_list_remove PySem.F.type_list_remove vz (ba aS (ar (pv 0) rfl) (pv 2) (λ_ _=>rfl)) (aa (pv 1) ag)))
   (ae (aZ (aC dt (au aq (by rfl) T.br a7 (aa (ba aS (ar (pv 0) rfl) (pv 2) (λ_ _=>rfl)) ag)) ak (aD _))
   (ae (aE (cx Ql PySem.F.slot_list_pop PySem.F.type_list_pop rO (ar (pv 0) rfl) (aa (pv 2) ag)))
   (ah jT))
   aJ)
   (ae (aE (aK (pv 0) T.aA T.ii G_Leaves__join_small (hr.mono (by decide)) T.ix .nil aB (aa (pv 2) ag)))
   (ah (aE (aK (pv 0) T.aA T.ii G_Leaves__join_small (hr.mono (by decide)) T.ix .nil aB (aa (aH kL (pv 2) ak) ag)))))))))
   ,?_⟩
  obtain⟨dx,fs,hi,hm⟩:=hA.ins
  refine⟨_,rfl,a,dx,fs,rfl,hi,hm _ (by decide+kernel),_,rfl,a,k,F,ks,rfl,hA,λH0 F0 hA0 fr0=>?_⟩
  by_cases ck:k∈ks
  case neg=>
   rw[decide_eq_false ck]
   refine⟨_,rfl,cQ ?_⟩
   exact(q2 ck).elim
  rw[decide_eq_true ck]
  refine⟨_,rfl,c7 ?_⟩
  have q:=q1 ck
  obtain⟨L,A,ls,hb,ok,ef,hF⟩:=hA0
  obtain⟨dx',ho⟩:=hb.obj
  have sh:=ok.short
  rw[ef]at sh
  have fr:Fr F (LvF a L A) H H0:=λb o n e=>⟨(fr0 b o n e).1,λy=>(fr0 b o n e).2 ((hF b).mpr y)⟩
  obtain⟨dx2,fs2,hi2,hm2⟩:=hb.insM
  refine⟨_,rfl,a,dx2,fs2,rfl,hi2,hm2 _ (by decide+kernel),_,rfl,a,k,L,A,ls,rfl,hb,ok.ne,ok.up,λi li=>?_⟩
  obtain⟨x,ex,hx⟩:=(li.mem ok).mp (by rw[ef];exact ck)
  obtain⟨c,ec,hc⟩:=hb.at ex
  have il:i<ls.length:=(Q3.mp ex).1
  have ilA:i<A.length:=by rw[hb.len];exact il
  refine⟨_,rfl,a,_,dx',_,_,rfl,ho,T.aA,T.ao,bY,_,rfl,L,_,_,_,rfl,rfl,SqL.of hb.lst,dL ec,.inl ⟨rfl,_,SqL.of hc⟩,_,rfl,c,x,k,rfl,rfl,hc,hx,?_⟩
  have hb1:=hb.write (y:=x.erase k) ec ex
  obtain⟨up1,mem1⟩:=ok.gone ex hx
  have cF:LvF a L A c:= .inr (.inr (Q0 ec))
  have f1:Fr (LvF a L A) (LvF a L A) H0 (upd H0 c (.lst ((x.erase k).map V.int))):=λb o n w=>⟨by rw[ac (λy=>n (by rw[y];exact cF))];exact w,n⟩
  have hc1:upd H0 c (.lst ((x.erase k).map V.int)) c=some (.lst ((x.erase k).map V.int)):=af
  obtain⟨dx1,ho1⟩:=hb1.obj
  have hL1:=hb1.lst
  generalize upd H0 c (.lst ((x.erase k).map V.int))=H1 at hb1 f1 hc1 ho1 hL1⊢
  have le:=List.length_erase_of_mem hx
  refine⟨_,rfl,a,_,dx1,_,_,rfl,ho1,T.aA,T.ao,bY,_,rfl,L,_,_,_,rfl,rfl,SqL.of hL1,dL ec,c,_,rfl,.inl (SqL.of hc1),rfl,_,rfl,?_⟩
  have px:=ZM hx
  by_cases c0:x.length=1
  ·refine oU (congrArg V.int (by rw[Q2,le,c0];rfl)) ?_
   have en:x.erase k=[]:=Zo.mp (by omega)
   rw[en]at up1 mem1 hb1
   have sx:seqIndex? (i:Int) (A.map V.ref).length=some i:=by
    have:=seqIndex_of (k:=(i:Int)) (n:=(A.map V.ref).length) (by omega) (by rw[Q2];omega)
    rw[this,Zq]
   refine⟨_,rfl,a,_,dx1,_,_,rfl,ho1,T.aA,T.ao,bY,.inl ⟨rfl,_,SqL.of hL1⟩,_,rfl,L,_,_,i,_,rfl,rfl,hL1,(by omega),(by omega),sx,(by rw[Qc,ec];rfl),?_⟩
   have hb2:=hb1.erase (i:=i)
   have e2:(ls.set i ([]:List Int)).eraseIdx i=ls.eraseIdx i:=pN _ _ _
   rw[e2]at hb2
   rw[jz]
   obtain⟨ok2,ef2⟩:=ok.out ex c0 up1
   refine q _ _ _ ⟨L,_,_,hb2,ok2,rfl,λb=>Iff.rfl⟩ (λz=>by rw[ef2,mem1,ef]) ((fr.trans f1).trans λb o n w=>?_)
   refine⟨by rw[ac (λy=>n (.inr (.inl y)))];exact w,λy=>?_⟩
   rcases y with y|y|y
   ·exact n (.inl y)
   ·exact n (.inr (.inl y))
   ·exact n (.inr (.inr (QW y)))
  ·refine bP (λw=>c0 (by have:=V.int.inj w;rw[Q2,le]at this;omega)) ?_
   have ny:x.erase k≠[]:=Z6 (by omega)
   have w1:=ok.shrunk ex ny (by omega) up1
   obtain⟨dx3,fs3,hi3,hm3⟩:=hb1.insM
   have ls1:(ls.set i (x.erase k)).length=ls.length:=Qt
   refine⟨_,rfl,a,dx3,fs3,rfl,hi3,hm3 _ (by decide+kernel),_,rfl,a,L,A,_,(i:Int),rfl,hb1,by omega,by rw[ls1];omega,w1.le,by rw[ls1];omega,λH2 A2 ls2 hb2 e2 f2=>?_⟩
   rw[if_pos (by omega),Zq]at e2
   obtain⟨w2,fl2⟩:=w1.join (i:=i) (λj h=>h)
   rw[←e2]at w2 fl2
   have l2:i≤ls2.length∧ls2.length≤ls.length:=by
    have:=vL (ls:=ls.set i (x.erase k)) (i:=i)
    rw[←e2,ls1]at this
    omega
   obtain⟨dx4,fs4,hi4,hm4⟩:=hb2.insM
   refine⟨_,rfl,a,dx4,fs4,rfl,hi4,hm4 _ (by decide+kernel),_,rfl,_,_,rfl,rfl,a,L,A2,ls2,(i:Int)-1,rfl,hb2,by omega,by omega,w2.le,by omega,λH3 A3 ls3 hb3 e3 f3=>?_⟩
   have fin:LvOk ls3∧ls3.flatten=ls2.flatten:=by
    by_cases ci:i=0
    ·subst ci
     rw[if_neg (by omega)]at e3
     subst e3
     exact⟨w2.ok λj h=>by omega,rfl⟩
    ·have ei:((i:Int)-1).toNat=i-1:=by omega
     rw[if_pos (by omega),ei]at e3
     obtain⟨w3,fl3⟩:=w2.join (i:=i-1) (λj h=>by omega)
     rw[←e3]at w3 fl3
     exact⟨w3.ok λj h=>by omega,fl3⟩
   obtain⟨ok3,ef3⟩:=fin
   refine q H3 _ _ ⟨L,A3,ls3,hb3,ok3,rfl,λb=>Iff.rfl⟩ (λz=>by rw[ef3,fl2,mem1,ef]) (((fr.trans f1).trans f2).trans f3)
def Am (a l:Addr) (k n:Int) (ls:List (List Int)) (H:Hp):Nat→St→Hp→Prop:=λm σ H'=>∃(i:Nat),m=ls.length-i∧Same H H'∧H l=none∧σ=[some (.ref a),some (.int k),some (.int n),some (.ref l),some (.int (i:Int))]∧i≤ls.length∧H' l=some (.lst ((((ls.take i).flatten).filter λz=>decide (k≤z)).map V.int))
theorem pM {ls:List (List Int)} {i:Nat} {x:List Int} (e:ls[i]?=some x):(ls.take (i+1)).flatten=(ls.take i).flatten++x:=by
 rw[Qz,e,QZ]
 simp
theorem sf (ls:List (List Int)) (i:Nat):ls.flatten=(ls.take i).flatten++(ls.drop i).flatten:=by rw[←QZ,QU]
theorem jn (T:Txt K mg t):aX P w K mg base CX0 2 t.eX t.cU ["self","key","most"] (jf K t):=by
 have G_Leaves__leaf_of:= @bI P w K mg base t T
 refine T.uU.ok sc_Leaves__from_on (λvs H Q E h=>?_) (λcdv A outer s H vs Q E hr h=>?_)
 ·obtain⟨a,k,n,F,ks,rfl,_⟩:=h
  rfl
 ·obtain⟨a,k,n,F,ks,rfl,hA,hl,n0,q⟩:=h
  refine⟨_,(ae (aM (i:=3) sc_Leaves__from_on.nd rfl (Or.inl rfl) (dZ ag))
   (ae (aM (i:=4) sc_Leaves__from_on.nd rfl (Or.inl rfl) (aK (pv 0) T.aA T.cP G_Leaves__leaf_of (hr.mono (by decide)) T.cX .nil aB (aa (pv 1) ag)))
   (ae (rE PassesOwn.never (PW.pt (dX (aC dq (pv 4) (au aq (by rfl) T.br a7 (aa (ar (pv 0) rfl) ag)) (aD _)) (dJ (aC dq (au aq (by rfl) T.br a7 (aa (pv 3) ag)) (pv 2) (aD _)))))
   (ae (aE (cx Ql PySem.F.slot_list_extend PySem.F.type_list_extend vA (pv 3) (aa (rJ rfl (CScope.of (M:=["one"]) (N:=["self","key","most","told","at"]) (N':=["self","key","most","told","at"]) (dsc:=ai bL) rfl rfl (by decide+kernel)) (eO (ba aS (ar (pv 0) rfl) (pv 4) (λ_ _=>rfl))) (λ_ _ _ _ _=>(aC ui (pv 0) (pv 2) (aD _))) (λ_ _ _ _ _=>(pv 0))) ag)))
   (ah (wS (i:=4) sc_Leaves__from_on.nd rfl (Or.inl rfl) ak xp))))
   (ah (aL (hU jM (pv 3) jV (jU (pv 2))))))))
   ,?_⟩
  obtain⟨L,A,ls,hb,ok,ef,hF⟩:=hA
  refine⟨Qk _,λl nl=>?_⟩
  have s0:Same H (upd H l (.lst [])):=am nl
  have e0:upd H l (.lst []) l=some (.lst (([]:List Int).map V.int)):=af
  have hb0:=hb.same s0
  generalize upd H l (.lst [])=H0 at s0 e0 hb0⊢
  obtain⟨dx2,fs2,hi2,hm2⟩:=hb0.insM
  refine⟨_,rfl,a,dx2,fs2,rfl,hi2,hm2 _ (by decide+kernel),_,rfl,a,k,L,A,ls,rfl,hb0,ok.ne,ok.up,λi0 li=>?_⟩
  have f0:((ls.take i0).flatten).filter (λz=>decide (k≤z))=[]:=ZO.mpr λz hz=>by
   have:=vP ok li z hz
   simpa using this
  have lA:((A.map V.ref).length:Int)=(ls.length:Int):=by rw[Q2,hb.len]
  refine⟨Am a l k n ls H,⟨_,i0,rfl,s0,nl,rfl,li.le,by rw[f0];exact e0⟩,?_⟩
  rintro m σ H' ⟨i,rfl,s1,_,rfl,il,e1⟩
  have hb1:=hb.same s1
  obtain⟨dx1,ho1⟩:=hb1.obj
  have fin:∀(done:((((ls.take i).flatten).filter λz=>decide (k≤z)).take n.toNat)=(ks.filter λz=>decide (k≤z)).take n.toNat),∀p,H' p=none→Q (.ref p) (upd H' p (.lst (n8 ((((ls.take i).flatten).filter λz=>decide (k≤z)).map V.int) none (some n)))):=λdone p np=>by
   refine q _ p (s1.trans (am np)) ?_ ?_
   ·cases e:H p with
    |none=>rfl
    |some o=>rw[s1 _ _ e]at np;cases np
   ·rw[af,nZ n0,←ZF,done]
  refine⟨_,rfl,_,rfl,a,_,dx1,_,_,rfl,ho1,T.aA,T.ao,bY,L,_,rfl,.inl (SqL.of hb1.lst),_,_,rfl,rfl,_,rfl,?_⟩
  by_cases c:i<ls.length
  ·refine fZ (by rw[lA];omega) ?_
   refine⟨_,rfl,l,_,rfl,.inl (SqL.of e1),_,rfl,_,_,rfl,rfl,_,rfl,?_⟩
   by_cases c2:((((((ls.take i).flatten).filter λz=>decide (k≤z)).map V.int).length:Nat):Int)<n
   ·refine fZ c2 ?_
    refine⟨λσ' H''=>∃m',m'<ls.length-i∧Am a l k n ls H m' σ' H'',λ_ _ h=>h,?_⟩
    have ex:ls[i]?=some ls[i]:=Q4 c
    obtain⟨b,eb,hbb⟩:=hb1.at ex
    have lb:l≠b:=λz=>by
     obtain⟨b',eb',h'⟩:=hb.at ex
     rw[eb]at eb'
     cases eb'
     rw[←z,nl]at h'
     cases h'
    have fl1:=Qr (λz=>decide (k≤z)) (ls.take i).flatten
    have fl2:(ls.take i).flatten.length+ls[i].length≤ks.length:=by
     rw[←ef,sf ls (i+1),pM ex,Qa,Qa]
     omega
    refine⟨_,rfl,.inl ⟨rfl,_,SqL.of e1⟩,_,rfl,a,_,dx1,_,_,rfl,ho1,T.aA,T.ao,bY,_,rfl,L,_,_,_,rfl,rfl,SqL.of hb1.lst,dL eb,b,rfl,⟨_,SqL.of hbb⟩,λD hD=>?_⟩
    generalize ls[i]=x at ex hbb fl2⊢
    refine gN (K:=K) (a:=b) (xs:=x.map V.int) (λm ys H3=>H3=upd H' D (.lst ys)∧ys=((x.take m).filter (λz=>decide (k≤z))).map V.int) ⟨rfl,rfl⟩ (λm ys H3 _ w=>SqL.of (by rw[w.1,ac (aj hbb hD)];exact hbb)) (λm v ys H3 hv w hDD=>?_) (λys H3 w hDD=>?_)
    ·obtain⟨w1,w2⟩:=w
     obtain⟨g,rfl,eg⟩:∃g:Int,v= .int g∧x[m]?=some g:=by
      rw[Qc]at hv
      cases e:x[m]? with
      |none=>rw[e]at hv;cases hv
      |some g=>rw[e]at hv;cases hv;exact⟨g,rfl,rfl⟩
     have hn:m<(x.map V.int).length:=(Q3.mp hv).1
     refine⟨_,rfl,_,rfl,_,_,rfl,rfl,_,rfl,?_⟩
     have fl:ys.length≤100000:=by
      rw[w2,Q2]
      have h1:=Qr (λz=>decide (k≤z)) (x.take m)
      have h2:(x.take m).length≤x.length:=by rw[Qj];omega
      omega
     by_cases cg:k≤g
     ·refine fZ cg ⟨_,rfl,CNext.mk hn hDD (be fl) ⟨by rw[w1,cf],?_⟩⟩
      rw[w2,Qz,eg,Z2,Qi]
      simp[cg]
     ·refine bP cg (CSkip.mk hn hDD ⟨w1,?_⟩)
      rw[w2,Qz,eg,Z2]
      simp[cg]
    ·obtain⟨w1,w2⟩:=w
     rw[Q2,QH]at w2
     have s3:Same H' H3:=by rw[w1];exact am hD
     have e3:=s3 _ _ e1
     have fle:=Qr (λz=>decide (k≤z)) x
     have hsz:((((ls.take i).flatten).filter λz=>decide (k≤z)).map V.int).length+ys.length≤sizeLine:=by
      rw[w2,Q2,Q2]
      exact QO (be (by omega))
     refine⟨l,D,_,_,rfl,rfl,e3,hDD,hsz,?_⟩
     have hE:(((ls.take i).flatten).filter λz=>decide (k≤z)).map V.int++ys=(((ls.take (i+1)).flatten).filter λz=>decide (k≤z)).map V.int:=by
      rw[w2,pM ex,Z2,Qi]
     rw[hE]
     refine⟨_,rfl,_,_,rfl,rfl,_,?_,i+1,rfl,?_,nl,rfl,c,af⟩
     ·omega
     ·exact dQ (s1.trans s3) nl
   ·refine bP c2 ?_
    refine⟨_,rfl,_,rfl,_,rfl,l,_,rfl,SqL.of e1,fin ?_⟩
    have:ks.filter (λz=>decide (k≤z))=((ls.take i).flatten).filter (λz=>decide (k≤z))++((ls.drop i).flatten).filter (λz=>decide (k≤z)):=by rw[←ef,sf ls i,Z2]
    rw[this,List.take_append_of_le_length]
    rw[Q2]at c2
    omega
  ·refine bP (by rw[lA];omega) ?_
   have ei:i=ls.length:=by omega
   subst ei
   refine⟨_,rfl,_,rfl,_,rfl,l,_,rfl,SqL.of e1,fin ?_⟩
   rw[QH,ef]
theorem rC:∀{a b:List Int},cv a→cv b→(∀z,z∈a↔z∈b)→a=b
 | [],[],_,_,_=>rfl
 | [],y::r,_,_,h=>by have:=(h y).mpr Q8;cases this
 |x::r,[],_,_,h=>by have:=(h x).mp Q8;cases this
 |x::r,y::r',ha,hb,h=>by
  obtain⟨a1,a2⟩:=Z1.mp ha
  obtain⟨b1,b2⟩:=Z1.mp hb
  have exy:x=y:=by
   rcases Qe.mp ((h x).mp Q8)with e|e
   ·exact e
   ·rcases Qe.mp ((h y).mpr Q8)with e2|e2
    ·exact e2.symm
    ·have h1:=b1 x e
     have h2:=a1 y e2
     omega
  subst exy
  rw[rC a2 b2 λz=>?_]
  constructor
  ·intro hz
   rcases Qe.mp ((h z).mp (Q6 _ hz))with e|e
   ·have:=a1 z hz;omega
   ·exact e
  ·intro hz
   rcases Qe.mp ((h z).mpr (Q6 _ hz))with e|e
   ·have:=b1 z hz;omega
   ·exact e
theorem LvA.rise {H:Hp} {a:Addr} {F:Addr→Prop} {ks:List Int} (h:LvA K t H a F ks):cv ks:=by
 obtain⟨_,_,ls,_,ok,ef,_⟩:=h
 rw[←ef]
 exact ok.up
theorem SqF.wide {F:Addr→Prop} {H:Hp} {a l:Addr} {xs:List V} (h:SqF K F H a xs) (n:H l=none):SqF K (λb=>F b∨b=l) H a xs:=by
 rcases h with⟨h,nF⟩|h
 ·refine .inl ⟨h,λy=>?_⟩
  rcases y with y|y
  ·exact nF y
  ·rcases h with h|⟨_,h⟩
   ·rw[y,n]at h;cases h
   ·rw[y,n]at h;cases h
 ·exact .inr h
theorem SqF.updG {F:Addr→Prop} {H:Hp} {a l:Addr} {o:HO} {xs:List V} (h:SqF K (λb=>F b∨b=l) H a xs):SqF K (λb=>F b∨b=l) (upd H l o) a xs:=h.fr λb u n e=>⟨by rw[ac (λy=>n (.inr y))];exact e,n⟩
def rm:Sp:=λvs H Q _=>∃i:Int,vs=[.int i]∧Q (.bl true) H
theorem rK (T:Txt K mg t):aX P w K mg base CX0 1 t.oo t.jA ["thing"] rm:=by
 refine T.tT.ok rA (λvs H Q E h=>?_) (λcdv A outer s H vs Q E hr h=>?_)
 ·obtain⟨x,rfl,_⟩:=h
  rfl
 ·obtain⟨x,rfl,k⟩:=h
  refine⟨_,(ah (aL (kJ (au eT (by rfl) T.bc a6 (aa (pv 0) (aa (jW (v:= .ty "int") (by rfl) T.Bs xL rfl) ag))) (kI (wU (au eT (by rfl) T.bc a6 (aa (pv 0) (aa (jW (v:= .ty "bool") (by rfl) T.Aq uJ rfl) ag))))))))
   ,?_⟩
  exact⟨_,rfl,_,_,_,_,rfl,TyOf.int _,xn,true,rfl,cQ ⟨_,rfl,_,_,_,_,rfl,TyOf.int _,xo,_,rfl,k⟩⟩
def sS:Sp:=λvs H Q _=>∃i lo:Int,vs=[.int i,.int lo]∧lo≤i∧Q (.bl true) H
theorem tx (T:Txt K mg t):aX P w K mg base CX0 2 t.p9 t.k7 ["thing","low"] sS:=by
 have G_is_whole:= @rK P w K mg base t T
 refine T.qa.ok sW (λvs H Q E h=>?_) (λcdv A outer s H vs Q E hr h=>?_)
 ·obtain⟨x,lo,rfl,_⟩:=h
  rfl
 ·obtain⟨x,lo,rfl,hx,k⟩:=h
  refine⟨_,(ah (aL (kJ (aQ G_is_whole (hr.mono (by decide)) (by rfl) T.AR T.tT.kp T.Bi .nil aB (aa (pv 0) ag)) (kI (cN ui (pv 0) (pv 1) (aD _))))))
   ,?_⟩
  refine⟨_,rfl,x,rfl,true,rfl,cQ ⟨_,rfl,_,rfl,_,_,rfl,rfl,?_⟩⟩
  show Q (.bl (decide (lo≤x))) _
  rw[decide_eq_true hx]
  exact k
def my (K:PySem.W.Frag):Sp:=λvs H Q _=>∃(p C dx:Addr) (kd:Str) (a e:V),vs=[.ref p,.str kd,a,e]∧H p=some (.ins C dx [])∧Cls K C∧NoAttr K C "kind"∧NoAttr K C "at"∧NoAttr K C "end"∧Q .non (upd H p (.ins C dx (aV "end" e (aV "at" a (aV "kind" (.str kd) [])))))
theorem m8 (T:Txt K mg t):aX P w K mg base CX0 1 t.fS t.fE ["self","kind","at","end"] (my K):=by
 refine T.o8.ok mO (λvs H Q E h=>?_) (λcdv A outer s H vs Q E hr h=>?_)
 ·obtain⟨p,C,dx,kd,a,e,rfl,_⟩:=h
  rfl
 ·obtain⟨p,C,dx,kd,a,e,rfl,hp,cl,n0,n1,n2,k⟩:=h
  refine⟨_,(ae (bB (pv 0) (pv 1) rfl)
   (ae (bB (pv 0) (pv 2) rfl)
   (ah (bB (pv 0) (pv 3) rfl))))
   ,?_⟩
  refine⟨_,rfl,_,rfl,p,C,dx,[],rfl,hp,cl,n0,(by show 0<1000;decide),_,rfl,_,rfl,p,C,dx,_,rfl,af,cl,n1,(by show 1<1000;decide),_,rfl,_,rfl,p,C,dx,_,rfl,af,cl,n2,?_,?_⟩
  ·have h1:=g9 (f:="at") (v:=a) (aV "kind" (.str kd) [])
   have h2:=g9 (f:="kind") (v:= .str kd) []
   have h3:([]:List (Str×V)).length=0:=rfl
   omega
  rw[cf,cf]
  exact k
def TkU (t:Adr) (H:Hp) (p:Addr):Prop:=∃(dx:Addr) (fs:List (Str×V)),H p=some (.ins t.gU dx fs)∧fs.lookup ("at":Str)=some (.int 0)∧fs.lookup ("end":Str)=some .non∧fs.lookup ("holds":Str)=none
def rq (t:Adr):Sp:=λvs H Q _=>∃p dx:Addr,vs=[.ref p,.int 0,.non]∧H p=some (.ins t.gU dx [])∧∀H',(∀b o,b≠p→H b=some o→H' b=some o)→TkU t H' p→Q .non H'
theorem rL (T:Txt K mg t):aX P w K mg base CX0 3 t.ot t.eC ["self","at","end"] (rq t):=by
 have G_Token__init:= @m8 P w K mg base t T
 have G_is_from:= @tx P w K mg base t T
 refine T.Bn.ok rB (λvs H Q E h=>?_) (λcdv A outer s H vs Q E hr h=>?_)
 ·obtain⟨p,dx,rfl,_⟩:=h
  rfl
 ·obtain⟨p,dx,rfl,hp,k⟩:=h
  refine⟨_,(ae (aZ (gx (PW.pt (dX (b4 (aQ G_is_from (hr.mono (by decide)) (by rfl) T.vF T.qa.kp T.vZ .nil aB (aa (pv 1) (aa ak ag)))) (dJ (PW.pt (wN (aC tm (pv 2) fz (aD _)) (sX (b4 (aQ G_is_from (hr.mono (by decide)) (by rfl) T.vF T.qa.kp T.vZ .nil aB (aa (pv 2) (aa (pv 1) ag)))))))))))
   (ah gy)
   aJ)
   (ah (aE (y9 (by rfl) T.BV T.xY T.o8.kp G_Token__init (hr.mono (by decide)) T.ya .nil aB (aa (pv 0) (aa dY (aa (pv 1) (aa (pv 2) ag))))))))
   ,?_⟩
  refine⟨_,rfl,0,0,rfl,Zi _,true,rfl,cQ ⟨_,rfl,rfl,_,rfl,oU rfl (c7 ⟨_,rfl,_,rfl,_,rfl,p,_,dx,_,.int 0,.non,rfl,hp,T.su,T.AQ,T.rN,T.vp,?_⟩)⟩⟩
  refine k _ (λb o n e=>by rw[ac n];exact e) ⟨dx,_,af,?_,?_,?_⟩
  ·rw[bG,if_neg (by decide+kernel),bG,if_pos rfl]
  ·rw[bG,if_pos rfl]
  ·rw[bG,if_neg (by decide+kernel),bG,if_neg (by decide+kernel),bG,if_neg (by decide+kernel)];rfl
def qh (t:Adr):Sp:=λvs H Q _=>∃(p:Addr) (k:Int),vs=[.ref p,.int k]∧TkU t H p∧0≤k∧Q (.bl true) H
theorem qw (T:Txt K mg t):aX P w K mg base CX0 1 t.lL t.iu ["self","key"] (qh t):=by
 refine T.Ao.ok qm (λvs H Q E h=>?_) (λcdv A outer s H vs Q E hr h=>?_)
 ·obtain⟨p,k,rfl,_⟩:=h
  rfl
 ·obtain⟨p,k,rfl,⟨dx,fs,hp,fa,fe,_⟩,k0,q⟩:=h
  refine⟨_,(ah (aL (kJ (cN uh (ar (pv 0) rfl) (pv 1) (aD _)) (kI (BO (cN tm (ar (pv 0) rfl) fz (aD _)) (kI (cN dq (pv 1) (ar (pv 0) rfl) (aD _))))))))
   ,?_⟩
  exact⟨_,rfl,p,_,dx,fs,_,rfl,hp,T.su,T.rN,fa,_,rfl,_,_,rfl,rfl,_,rfl,fZ k0 ⟨_,rfl,p,_,dx,fs,_,rfl,hp,T.su,T.vp,fe,rfl,_,rfl,oU rfl q⟩⟩
structure Mk1 where
 p:Addr
 mo:Int
 v:V
structure MkA (t:Adr) (H:Hp) (m l:Addr) (es:List Mk1):Prop where
 ob:∃dx,H m=some (.ins t.cn dx [("made",.ref l)])
 li:H l=some (.lst (es.map λe=>V.ref e.p))
 tu:∀e∈es,H e.p=some (.tup [.int e.mo,e.v])
theorem MkA.same {t:Adr} {H H':Hp} {m l:Addr} {es:List Mk1} (h:MkA t H m l es) (s:Same H H'):MkA t H' m l es:=⟨h.ob.imp λ_ e=>s _ _ e,s _ _ h.li,λe he=>s _ _ (h.tu e he)⟩
theorem MkA.keep {t:Adr} {H H':Hp} {m l:Addr} {es:List Mk1} (h:MkA t H m l es) (e1:H' m=H m) (e2:H' l=H l) (tp:∀b xs,H b=some (.tup xs)→H' b=some (.tup xs)):MkA t H' m l es:=⟨h.ob.imp λ_ e=>e1.trans e,e2.trans h.li,λe he=>tp _ _ (h.tu e he)⟩
def mE (t:Adr):Sp:=λvs H Q _=>∃(a dx:Addr),vs=[.ref a]∧H a=some (.ins t.cn dx [])∧∀(H':Hp) (l:Addr),MkA t H' a l []→H l=none→(∀b o,b≠a→H b=some o→H' b=some o)→Q .non H'
theorem nB (T:Txt K mg t):aX P w K mg base CX0 1 t.iZ t.fI ["self"] (mE t):=by
 refine T.yp.ok mS (λvs H Q E h=>?_) (λcdv A outer s H vs Q E hr h=>?_)
 ·obtain⟨a,dx,rfl,_⟩:=h
  rfl
 ·obtain⟨a,dx,rfl,ha,q⟩:=h
  refine⟨_,(ah (bB (pv 0) (dZ ag) rfl))
   ,?_⟩
  refine⟨Qk _,λl nl=>⟨_,rfl,a,_,dx,[],rfl,(by rw[ac (aj ha nl)];exact ha),T.cW,T.bK,(by show 0<1000;decide),?_⟩⟩
  have na:a≠l:=aj ha nl
  exact q _ l ⟨⟨dx,af⟩,by rw[ac na.symm];exact af,λe he=>by cases he⟩ nl λb o n e=>by rw[ac n,ac (aj e nl)];exact e
def mD (t:Adr):Sp:=λvs H Q _=>∃(m l:Addr) (es:List Mk1) (mo:Int) (v:V),vs=[.ref m,.int mo,v]∧MkA t H m l es∧es.length<100000∧
 ∀(H':Hp) (p:Addr),MkA t H' m l (es++ [⟨p,mo,v⟩])→H p=none→(∀b o,b≠l→H b=some o→H' b=some o)→Q .non H'
theorem nu (T:Txt K mg t):aX P w K mg base CX0 1 t.iY t.fH ["self","moment","value"] (mD t):=by
 refine T.yo.ok mR (λvs H Q E h=>?_) (λcdv A outer s H vs Q E hr h=>?_)
 ·obtain⟨m,l,es,mo,v,rfl,_⟩:=h
  rfl
 ·obtain⟨m,l,es,mo,v,rfl,M,le,q⟩:=h
  refine⟨_,(ah (aE (cx Ql QK QL cy (ar (pv 0) rfl) (aa (jk (aa (pv 1) (aa (pv 2) ag))) ag))))
   ,?_⟩
  obtain⟨dx,ho⟩:=M.ob
  refine⟨_,rfl,m,_,dx,_,_,rfl,ho,T.cW,T.bK,rfl,.inl ⟨rfl,_,SqL.of M.li⟩,_,rfl,_,rfl,(by show 2≤sizeLine;decide),λp np=>?_⟩
  have s1:=am (o:= .tup [.int mo,v]) np
  have pl:p≠l:=λz=>by rw[z,M.li]at np;cases np
  have lm:m≠l:=λz=>by have:=M.li;rw[←z,ho]at this;cases this
  refine⟨l,_,_,rfl,rfl,s1 _ _ M.li,be (by rw[Q2];omega),?_⟩
  refine q _ p ⟨⟨dx,by rw[ac lm];exact s1 _ _ ho⟩,by rw[af,Qi];rfl,λe he=>?_⟩ np λb o n e=>by rw[ac n];exact s1 _ _ e
  rcases Qb.mp he with he|he
  ·have te:=s1 _ _ (M.tu e he)
   rw[ac (λz=>by rw[z,s1 _ _ M.li]at te;cases te)]
   exact te
  ·rw[Qg.mp he]
   rw[ac pl]
   exact af
theorem qN {H H2:Hp} {p:Addr} (s:Same H H2) (n:H2 p=none):H p=none:=by
 cases e:H p with
 |none=>rfl
 |some o=>rw[s _ _ e]at n;cases n
theorem Az {t u:TS} {D:Ends} {σ:St} {H:Hp} (M:St→Hp→Prop) (h1:∀nx,(∀σ' H',M σ' H'→nx σ' H')→t {D with nx:=nx} σ H) (h2:∀σ' H',M σ' H'→u D σ' H'):yC t u D σ H:=h1 (u D) h2
def swE (fl:Int) (es:List Mk1):List Mk1:=match (es.filter λy=>decide (y.mo≤fl)).getLast? with
 |none=>es.filter λy=>decide (fl<y.mo)
 |some y=>if y.v= .non then es.filter λy=>decide (fl<y.mo)else y::es.filter λy=>decide (fl<y.mo)
theorem yH {fl:Int} {es:List Mk1}:(swE fl es).length≤es.length:=by
 have h:(es.filter λy=>decide (y.mo≤fl)).length+(es.filter λy=>decide (fl<y.mo)).length=es.length:=by
  induction es with
  |nil=>rfl
  |cons y r ih=>
   rw[QB,QB,Q9]
   by_cases c:y.mo≤fl
   ·rw[if_pos (decide_eq_true c),if_neg (by rw[decide_eq_false (by omega)];exact Q7),Q9]
    omega
   ·rw[if_neg (by rw[decide_eq_false c];exact Q7),if_pos (decide_eq_true (by omega)),Q9]
    omega
 unfold swE
 cases e:(es.filter λy=>decide (y.mo≤fl)).getLast? with
 |none=>dsimp only;omega
 |some y=>
  have:(es.filter λy=>decide (y.mo≤fl))≠[]:=λz=>by rw[z]at e;cases e
  have:=QI.mpr this
  dsimp only
  split
  ·omega
  ·rw[Q9]
   omega
theorem t6 {fl:Int} {es:List Mk1} {y:Mk1} (h:y∈swE fl es):y∈es:=by
 have f:∀{p:Mk1→Bool},y∈es.filter p→y∈es:=λh=>(QM.mp h).1
 unfold swE at h
 cases e:(es.filter λy=>decide (y.mo≤fl)).getLast? with
 |none=>rw[e]at h;exact f h
 |some z=>
  rw[e]at h
  dsimp only at h
  split at h
  ·exact f h
  ·rcases Qe.mp h with rfl|h
   ·exact f (ZZ e)
   ·exact f h
theorem Ax {fl:Int} {es:List Mk1} (h:es.Pairwise λa b=>a.mo<b.mo):(swE fl es).Pairwise λa b=>a.mo<b.mo:=by
 have f:(es.filter λy=>decide (fl<y.mo)).Pairwise λa b=>a.mo<b.mo:=h.sublist X2
 unfold swE
 cases e:(es.filter λy=>decide (y.mo≤fl)).getLast? with
 |none=>exact f
 |some z=>
  dsimp only
  split
  ·exact f
  ·refine Z1.mpr ⟨λb hb=>?_,f⟩
   have h1:=of_decide_eq_true (QM.mp (ZZ e)).2
   have h2:=of_decide_eq_true (QM.mp hb).2
   omega
theorem uF {p:Mk1→Bool} {es:List Mk1} {i:Nat} {y:Mk1} (e:es[i]?=some y):(es.take (i+1)).filter p=(es.take i).filter p++(if p y=true then[y]else[]):=by
 rw[Qz,e,Z2]
 congr 1
 show List.filter p [y]=_
 rw[QB]
 rfl
theorem sift {H1:Hp} {σ:St} {tc:TT} {Q1:VK} {m l:Addr} {es:List Mk1} (p:Mk1→Bool) (M:MkA t H1 m l es) (le:es.length<50000) (hc:∀y∈es,∀(H2:Hp) (R:Bool→Hp→Prop),H2 y.p=some (.tup [.int y.mo,y.v])→R (p y) H2→tc (some (.ref y.p)::σ) H2 R)
  (q:∀D,H1 D=none→Q1 (.ref D) (upd H1 D (.lst ((es.filter p).map λy=>V.ref y.p)))):oa tc (wF 0) σ Q1 (Itl K l) H1:=by
 intro D hD
 refine gN (K:=K) (a:=l) (xs:=es.map λy=>V.ref y.p) (λi ys H2=>H2=upd H1 D (.lst ys)∧ys=((es.take i).filter p).map λy=>V.ref y.p) ⟨rfl,rfl⟩ (λi ys H2 _ w=>SqL.of (by rw[w.1,ac (aj M.li hD)];exact M.li)) (λi x ys H2 hx w hDD=>?_) (λys H2 w hDD=>?_)
 ·have hi:=(Q3.mp hx).1
  obtain⟨y,ey,rfl⟩:∃y,es[i]?=some y∧x= .ref y.p:=by
   rw[Qc]at hx
   cases e:es[i]? with
   |none=>rw[e]at hx;cases hx
   |some y=>rw[e]at hx;cases hx;exact⟨y,rfl,rfl⟩
  have hy:=Q0 ey
  have ty:H2 y.p=some (.tup [.int y.mo,y.v]):=by
   rw[w.1,ac (aj (M.tu y hy) hD)]
   exact M.tu y hy
  refine hc y hy H2 _ ty ?_
  cases c:p y with
  |true=>
   refine cQ ⟨_,rfl,CNext.mk hi hDD (be ?_) ⟨by rw[w.1,cf],?_⟩⟩
   ·rw[w.2,Q2]
    have:=Qr p (es.take i)
    rw[Qj]at this
    omega
   ·rw[w.2,uF ey,if_pos c,Qi]
    rfl
  |false=>
   refine c7 (CSkip.mk hi hDD ⟨w.1,?_⟩)
   rw[w.2,uF ey,if_neg (by rw[c];exact Q7),List.append_nil]
 ·rw[w.1,w.2,Q2,QH]
  exact q D hD
def lP (t:Adr):Sp:=λvs H Q _=>∃(m l:Addr) (es:List Mk1) (fl:Int),vs=[.ref m,.int fl]∧MkA t H m l es∧es.length<50000∧
 ∀(H':Hp) (l':Addr),MkA t H' m l' (swE fl es)→H l'=none→(∀b o,b≠m→H b=some o→H' b=some o)→Q (.int ((es.length:Int)-((swE fl es).length:Int))) H'
theorem lY (T:Txt K mg t):aX P w K mg base CX0 1 t.iA t.eE ["self","floor"] (lP t):=by
 refine T.xV.ok sc_Makes__sweep (λvs H Q E h=>?_) (λcdv A outer s H vs Q E hr h=>?_)
 ·obtain⟨m,l,es,fl,rfl,_⟩:=h
  rfl
 ·obtain⟨m,l,es,fl,rfl,M,le,q⟩:=h
  refine⟨_,(ae (mY (i:=2) rfl (CScope.of (M:=["make"]) (N:=["self","floor","old","stay","thrown"]) (N':=["self","floor","old","stay","thrown"]) (dsc:=ai bN) rfl rfl (by decide+kernel)) (eO (ar (pv 0) rfl)) (λ_ _ _ _ _=>(aC uh (ba (ux K rfl) (pv 0) ak (λ_ _=>rfl)) (pv 2) (aD _))) (λ_ _ _ _ _=>(pv 0)) sc_Makes__sweep.nd rfl rfl)
   (ae (mY (i:=3) rfl (CScope.of (M:=["make"]) (N:=["self","floor","old","stay","thrown"]) (N':=["self","floor","old","stay","thrown"]) (dsc:=ai bN) rfl rfl (by decide+kernel)) (eO (ar (pv 0) rfl)) (λ_ _ _ _ _=>(aC m6 (ba (ux K rfl) (pv 0) ak (λ_ _=>rfl)) (pv 2) (aD _))) (λ_ _ _ _ _=>(pv 0)) sc_Makes__sweep.nd rfl rfl)
   (ae (aZ (PW.pt (dX (aC m6 (au aq (by rfl) T.br a7 (aa (pv 2) ag)) ak (aD _)) (dJ (aC ug (ba jv (ba aS (pv 2) (ud qc ak) (λ_ _=>rfl)) ak (λ_ _=>rfl)) fz (aD _)))))
   (ah (aE (cx Ql ZD ZE kQ (pv 3) (aa ak (aa (ba aS (pv 2) (ud qc ak) (λ_ _=>rfl)) ag)))))
   aJ)
   (ae (aM (i:=4) sc_Makes__sweep.nd rfl (Or.inl rfl) (aH kL (au aq (by rfl) T.br a7 (aa (ar (pv 0) rfl) ag)) (au aq (by rfl) T.br a7 (aa (pv 3) ag))))
   (ae (bB (pv 0) (pv 3) rfl)
   (ah (aL (pv 4))))))))
   ,?_⟩
  obtain⟨dx,ho⟩:=M.ob
  refine⟨_,rfl,m,_,dx,_,_,rfl,ho,T.cW,T.bK,rfl,l,rfl,⟨_,SqL.of M.li⟩,sift (λy=>decide (y.mo≤fl)) M le (λy hy H2 R ty hR=>⟨_,rfl,y.p,_,_,_,rfl,rfl,SqT.of ty,rfl,_,rfl,_,_,rfl,rfl,_,rfl,hR⟩) λlo no=>?_⟩
  have s1:=am (o:= .lst ((es.filter λy=>decide (y.mo≤fl)).map λy=>V.ref y.p)) no
  have hlo:upd H lo (.lst ((es.filter λy=>decide (y.mo≤fl)).map λy=>V.ref y.p)) lo=some (.lst ((es.filter λy=>decide (y.mo≤fl)).map λy=>V.ref y.p)):=af
  generalize upd H lo (.lst ((es.filter λy=>decide (y.mo≤fl)).map λy=>V.ref y.p))=H1 at s1 hlo⊢
  have M1:=M.same s1
  obtain⟨dx1,ho1⟩:=M1.ob
  refine⟨_,rfl,m,_,dx1,_,_,rfl,ho1,T.cW,T.bK,rfl,l,rfl,⟨_,SqL.of M1.li⟩,sift (λy=>decide (fl<y.mo)) M1 le (λy hy H2 R ty hR=>⟨_,rfl,y.p,_,_,_,rfl,rfl,SqT.of ty,rfl,_,rfl,_,_,rfl,rfl,_,rfl,hR⟩) λls ns=>?_⟩
  have s2:=am (o:= .lst ((es.filter λy=>decide (fl<y.mo)).map λy=>V.ref y.p)) ns
  have hls:upd H1 ls (.lst ((es.filter λy=>decide (fl<y.mo)).map λy=>V.ref y.p)) ls=some (.lst ((es.filter λy=>decide (fl<y.mo)).map λy=>V.ref y.p)):=af
  have nls:=qN s1 ns
  generalize upd H1 ls (.lst ((es.filter λy=>decide (fl<y.mo)).map λy=>V.ref y.p))=H2 at s2 hls⊢
  have hlo2:=s2 _ _ hlo
  have s2:=s1.trans s2
  clear s1 hlo ns no ho1 M1
  have M2:=M.same s2
  have lf:=Qr (λy=>decide (fl<y.mo)) es
  unfold j9
  (try dsimp only)
  refine Az (λσ H3=>σ=[some (.ref m),some (.int fl),some (.ref lo),some (.ref ls),none]∧H3 ls=some (.lst ((swE fl es).map λy=>V.ref y.p))∧∀b o,b≠ls→H2 b=some o→H3 b=some o) (λnx go=>?_) (λσ H3 w=>?_)
  ·refine⟨_,rfl,lo,_,rfl,.inl (SqL.of hlo2),_,_,rfl,rfl,_,rfl,?_⟩
   rw[Q2]
   rcases List.eq_nil_or_concat (es.filter λy=>decide (y.mo≤fl))with ee|⟨r,y,ee⟩
   ·have es0:swE fl es=es.filter λy=>decide (fl<y.mo):=by unfold swE;rw[ee];rfl
    rw[ee]
    refine c7 (c7 (go _ _ ⟨rfl,by rw[es0];exact hls,λb o _ e=>e⟩))
   ·have at1:atI ((es.filter λy=>decide (y.mo≤fl)).map λy=>V.ref y.p) (-1)=some (.ref y.p):=by
     rw[ee,Zs,Qi]
     exact sB _ _
    have hy:y∈es:=(QM.mp (show y∈es.filter λy=>decide (y.mo≤fl) by rw[ee,Zs];exact Qn _ Q8)).1
    have ty:=M2.tu y hy
    have gl:(es.filter λy=>decide (y.mo≤fl)).getLast?=some y:=by rw[ee,Zs,List.getLast?_concat]
    refine fZ (by rw[ee,Zs,Qa,QJ];omega) ⟨_,rfl,_,rfl,lo,_,_,_,rfl,rfl,SqL.of hlo2,at1,y.p,_,_,_,rfl,rfl,SqT.of ty,rfl,rfl,_,rfl,?_⟩
    by_cases c:y.v= .non
    ·have es0:swE fl es=es.filter λy=>decide (fl<y.mo):=by unfold swE;rw[gl];exact if_pos c
     rw[decide_eq_true c]
     exact c7 (go _ _ ⟨rfl,by rw[es0];exact hls,λb o _ e=>e⟩)
    ·have es0:swE fl es=y::es.filter λy=>decide (fl<y.mo):=by unfold swE;rw[gl];exact if_neg c
     rw[decide_eq_false c]
     refine cQ ⟨_,rfl,.inl ⟨rfl,_,SqL.of hls⟩,_,rfl,_,rfl,lo,_,_,_,rfl,rfl,SqL.of hlo2,at1,ls,_,0,_,rfl,rfl,hls,by decide,by omega,be (by rw[Q2];omega),?_⟩
     exact go _ _ ⟨rfl,by rw[af,es0];rfl,λb o n e=>by rw[ac n];exact e⟩
  ·obtain⟨rfl,hls3,k3⟩:=w
   have ml:m≠ls:=λz=>by rw[z,nls]at ho;cases ho
   have ll:l≠ls:=λz=>by have:=M.li;rw[z,nls]at this;cases this
   have ho3:=k3 _ _ ml (s2 _ _ ho)
   have li3:=k3 _ _ ll (s2 _ _ M.li)
   refine⟨_,rfl,m,_,dx,_,_,rfl,ho3,T.cW,T.bK,rfl,l,_,rfl,.inl (SqL.of li3),_,rfl,ls,_,rfl,.inl (SqL.of hls3),_,_,rfl,rfl,?_⟩
   rw[Q2,Q2]
   refine⟨_,rfl,_,rfl,m,_,dx,_,rfl,ho3,T.cW,T.bK,(by show 1<1000;decide),?_⟩
   have nb:∀b o,b≠m→H b=some o→upd H3 m (.ins t.cn dx (aV ("made":Str) (.ref ls) [("made",.ref l)])) b=some o:=λb o n e=>by rw[ac n];exact k3 _ _ (λz=>by rw[z,nls]at e;cases e) (s2 _ _ e)
   refine⟨_,rfl,q _ ls ⟨⟨dx,by rw[af];rfl⟩,by rw[ac ml.symm];exact hls3,λy hy=>?_⟩ nls nb⟩
   have:=M.tu y (t6 hy)
   exact nb _ _ (λz=>by rw[z,ho]at this;cases this) this
def a8 (es:List Mk1) (mo:Int):V:=match es.reverse.find? (λy=>decide (y.mo≤mo))with
 |none=> .non
 |some y=>y.v
def jd (t:Adr):Sp:=λvs H Q _=>∃(m l:Addr) (es:List Mk1) (mo:Int),vs=[.ref m,.int mo]∧MkA t H m l es∧Q (a8 es mo) H
theorem jm (T:Txt K mg t):aX P w K mg base CX0 1 t.eV t.cR ["self","moment"] (jd t):=by
 refine T.uS.ok sc_Makes__value_at (λvs H Q E h=>?_) (λcdv A outer s H vs Q E hr h=>?_)
 ·obtain⟨m,l,es,mo,rfl,_⟩:=h
  rfl
 ·obtain⟨m,l,es,mo,rfl,M,q⟩:=h
  refine⟨_,(ae (hJ PassesOwn.never rfl (AF (by rfl) T.Ap (aa (ar (pv 0) rfl) ag)) (dh (i:=2) sc_Makes__value_at.nd rfl (Or.inl rfl))
   (ah (aZ (aC uh (ba jv (pv 2) ak (λ_ _=>rfl)) (pv 1) (aD _))
   (ah (aL (ba jv (pv 2) ak (λ_ _=>rfl))))
   aJ)))
   (ah (aL fz)))
   ,?_⟩
  obtain⟨dx,ho⟩:=M.ob
  refine⟨_,rfl,m,_,dx,_,_,rfl,ho,T.cW,T.bK,rfl,l,_,rfl,SqL.of M.li,zr (K:=K) (a:=l) (xs:=es.map λy:Mk1=>V.ref y.p) (λi σ H'=>∃v2:Option V,σ=[some (.ref m),some (.int mo),v2]∧H'=H∧(es.reverse.take i).find? (λy=>decide (y.mo≤mo))=none) ⟨_,rfl,rfl,rfl⟩ (λi σ H' _ w=>by obtain⟨_,_,rfl,_⟩:=w;exact SqL.of M.li) (λi x σ H' hx w=>?_) (λσ H' w=>?_)⟩
  ·obtain⟨v2,rfl,rfl,fn⟩:=w
   obtain⟨y,ey,rfl⟩:∃y,es.reverse[i]?=some y∧x= .ref y.p:=by
    rw[←List.map_reverse,Qc]at hx
    cases e:es.reverse[i]? with
    |none=>rw[e]at hx;cases hx
    |some y=>rw[e]at hx;cases hx;exact⟨y,rfl,rfl⟩
   have ty:=M.tu y (Xf.mp (Q0 ey))
   have cut:es.reverse=es.reverse.take i++y::es.reverse.drop (i+1):=by
    obtain⟨h,e⟩:=Q3.mp ey
    rw[←e,←ZA h,QU]
   refine⟨_,rfl,y.p,_,_,_,rfl,rfl,SqT.of ty,rfl,_,rfl,_,_,rfl,rfl,_,rfl,?_⟩
   by_cases c:y.mo≤mo
   ·refine fZ c ⟨_,rfl,y.p,_,_,_,rfl,rfl,SqT.of ty,rfl,?_⟩
    have e:a8 es mo=y.v:=by
     unfold a8
     rw[cut,Xa,fn,Option.none_or]
     rw[List.find?_cons_of_pos (by rw[decide_eq_true c])]
    rw[e]at q
    exact q
   ·refine bP c ⟨_,rfl,rfl,?_⟩
    rw[Qz,ey,Xa,fn,Option.none_or]
    show List.find? _ [y]=none
    rw[List.find?_cons_of_neg (by rw[decide_eq_false c];exact Q7)]
    rfl
  ·obtain⟨v2,rfl,rfl,fn⟩:=w
   rw[Q2,←List.length_reverse,QH]at fn
   have e:a8 es mo= .non:=by unfold a8;rw[fn]
   rw[e]at q
   exact q
section
variable {K:PySem.W.Frag} {t:Adr} {H:Hp} {a b:Addr} {F:Addr→Prop} {st:SSt} {ks:List Int} {xs:List V}
theorem SlA.notup (h:SlA K t H a F st) (e:H b=some (.tup xs)):¬F b:=λhb=>by
 obtain⟨d,h1,h2,_⟩:=h
 obtain⟨dx,ho⟩:=h1.obj
 have no:∀o,H b=some o→(∀ys,o≠ .tup ys)→False:=λo q n=>by rw[e]at q;exact n _ (Option.some.inj q).symm
 rcases(h2 b).mp hb with rfl|rfl|rfl|hb|⟨hs,rfl⟩|hb
 ·exact no _ ho (λ_ z=>by cases z)
 ·exact no _ h1.tbl (λ_ z=>by cases z)
 ·exact no _ h1.row0.lst (λ_ z=>by cases z)
 ·obtain⟨_,_,_,_,q⟩:=h1.row0.has hb
  exact no _ q (λ_ z=>by cases z)
 ·have r1:=h1.row1
  cases en:st.nxt with
  |none=>rw[en]at hs;cases hs
  |some m=>rw[en]at r1;exact no _ r1.lst (λ_ z=>by cases z)
 ·have r1:=h1.row1
  cases en:st.nxt with
  |none=>rw[en]at r1;rw[r1.1]at hb;cases hb
  |some m=>
   rw[en]at r1
   obtain⟨_,_,_,_,q⟩:=r1.has hb
   exact no _ q (λ_ z=>by cases z)
theorem LvA.notup (h:LvA K t H a F ks) (e:H b=some (.tup xs)):¬F b:=λhb=>by
 obtain⟨L,A,ls,h1,_,_,h2⟩:=h
 obtain⟨dx,ho⟩:=h1.obj
 have no:∀o,H b=some o→(∀ys,o≠ .tup ys)→False:=λo q n=>by rw[e]at q;exact n _ (Option.some.inj q).symm
 rcases(h2 b).mp hb with rfl|rfl|hb
 ·exact no _ ho (λ_ z=>by cases z)
 ·exact no _ h1.lst (λ_ z=>by cases z)
 ·obtain⟨_,_,_,_,q⟩:=h1.has hb
  exact no _ q (λ_ z=>by cases z)
end
structure Pk where
 k:Int
 m:Addr
 l:Addr
 es:List Mk1
structure HSt where
 now:Int
 fl:Int
 ma:Int
 st:SSt
 ks:List Int
 di:List (Addr×List V)
 pa:List Pk
 ho:List (Int×V)
def mkOf:List Pk→Int→List Mk1
 | [],_=> []
 |e::r,k=>if e.k=k then e.es else mkOf r k
def paD (pa:List Pk):List (Int×V):=pa.map λe=>(e.k,V.ref e.m)
def hoF (now fl:Int) (s l w:Addr) (mk:Int) (p h:Addr):List (Str×V):=[("now",.int now),("floor",.int fl),("slots",.ref s),("leaves",.ref l),("written",.ref w),("marks",.int mk),("past",.ref p),("holders",.ref h)]
def NoH (m:Str):Prop:=m≠("now":Str)∧m≠("floor":Str)∧m≠("slots":Str)∧m≠("leaves":Str)∧m≠("written":Str)∧m≠("marks":Str)∧m≠("past":Str)∧m≠("holders":Str)
instance {m:Str}:Decidable (NoH m):=by unfold NoH;infer_instance
section
variable {now now' fl mk mk':Int} {s l w p h:Addr} {m:Str}
theorem eR:(hoF now fl s l w mk p h).lookup ("now":Str)=some (.int now):=dn
theorem xw:(hoF now fl s l w mk p h).lookup ("floor":Str)=some (.int fl):=by unfold hoF;rw[a9 (by decide+kernel),dn]
theorem tL:(hoF now fl s l w mk p h).lookup ("slots":Str)=some (.ref s):=by unfold hoF;rw[a9 (by decide+kernel),a9 (by decide+kernel),dn]
theorem xv:(hoF now fl s l w mk p h).lookup ("leaves":Str)=some (.ref l):=by unfold hoF;rw[a9 (by decide+kernel),a9 (by decide+kernel),a9 (by decide+kernel),dn]
theorem A7:(hoF now fl s l w mk p h).lookup ("written":Str)=some (.ref w):=by unfold hoF;rw[a9 (by decide+kernel),a9 (by decide+kernel),a9 (by decide+kernel),a9 (by decide+kernel),dn]
theorem qJ:(hoF now fl s l w mk p h).lookup ("past":Str)=some (.ref p):=by unfold hoF;rw[a9 (by decide+kernel),a9 (by decide+kernel),a9 (by decide+kernel),a9 (by decide+kernel),a9 (by decide+kernel),a9 (by decide+kernel),dn]
theorem jw:(hoF now fl s l w mk p h).lookup ("holders":Str)=some (.ref h):=by unfold hoF;rw[a9 (by decide+kernel),a9 (by decide+kernel),a9 (by decide+kernel),a9 (by decide+kernel),a9 (by decide+kernel),a9 (by decide+kernel),a9 (by decide+kernel),dn]
theorem r9 (n:NoH m):(hoF now fl s l w mk p h).lookup m=none:=by
 obtain⟨h1,h2,h3,h4,h5,h6,h7,h8⟩:=n
 unfold hoF
 rw[a9 h1,a9 h2,a9 h3,a9 h4,a9 h5,a9 h6,a9 h7,a9 h8]
 rfl
theorem yU:aV ("now":Str) (.int now') (hoF now fl s l w mk p h)=hoF now' fl s l w mk p h:=by unfold hoF;rw[aV,if_pos rfl]
theorem AD {fl':Int}:aV ("floor":Str) (.int fl') (hoF now fl s l w mk p h)=hoF now fl' s l w mk p h:=by unfold hoF;rw[aV,if_neg (by decide+kernel),aV,if_pos rfl]
theorem qK:(hoF now fl s l w mk p h).length<1000:=by show 8<1000;decide
end
def Ow (a w p h:Addr) (pa:List Pk):Addr→Prop:=λb=>b=a∨b=w∨b=p∨b=h∨∃e∈pa,b=e.m∨b=e.l
structure HoO (t:Adr) (H:Hp) (a s l w p h:Addr) (x:HSt):Prop where
 ob:∃dx,H a=some (.ins t.av dx (hoF x.now x.fl s l w x.ma p h))
 wr:H w=some (.lst (x.di.map λe=>V.ref e.1))
 dr:∀e∈x.di,H e.1=some (.tup e.2)
 pa:H p=some (.dK (ay (paD x.pa)))
 ho:H h=some (.dK (ay x.ho))
 mx:∀e∈x.pa,MkA t H e.m e.l e.es
 ph:p≠h
 wl:∀e∈x.pa,e.l≠w
 kd:(x.pa.map (·.k)).Nodup
 md:(x.pa.map (·.m)).Nodup
 ld:(x.pa.map (·.l)).Nodup
theorem l9 {t u:TS} {D:Ends} {σ:St} {H:Hp} (M:St→Hp→Prop) (h1:∀nx,(∀σ' H',M σ' H'→nx σ' H')→t {D with nx:=nx} σ H) (h2:∀σ' H',M σ' H'→u D σ' H'):yC t u D σ H:=h1 (u D) h2
theorem pG {kvs:List (Int×V)}:j6 (ay kvs)=(kvs.map (·.1)).map V.int:=by
 unfold j6 ay
 rw[Qy,Qy]
 rfl
theorem cM {f:Str} {v:V}:aV f v []=[(f,v)]:=rfl
theorem aO {f g:Str} {v x:V} {r:List (Str×V)} (n:g≠f):aV f v ((g,x)::r)=(g,x)::aV f v r:=by rw[aV,if_neg n]
theorem zq {H H2:Hp} {p:Addr} (s:Same H H2) (n:H2 p=none):H p=none:=by
 cases e:H p with
 |none=>rfl
 |some o=>rw[s _ _ e]at n;cases n
theorem tF {α β:Type} {f:α→β} {l:List α} (n:(l.map f).Nodup) {x y:α} (hx:x∈l) (hy:y∈l) (e:f x=f y):x=y:=by
 induction l with
 |nil=>cases hx
 |cons z r ih=>
  obtain⟨n1,n2⟩:=Qs.mp n
  rcases Qe.mp hx with rfl|hx'<;>rcases Qe.mp hy with rfl|hy'
  ·rfl
  ·exact absurd (Qf.mpr ⟨y,hy',e.symm⟩) n1
  ·exact absurd (Qf.mpr ⟨x,hx',e⟩) n1
  ·exact ih n2 hx' hy'
section
variable {t:Adr} {H H':Hp} {a s l w p h b q:Addr} {x:HSt} {pa:List Pk} {k:Int} {y:Mk1} {o:HO}
theorem HoO.dom (A:HoO t H a s l w p h x) (hb:Ow a w p h x.pa b):∃o,H b=some o∧∀ys,o≠ .tup ys:=by
 obtain⟨dx,ho⟩:=A.ob
 rcases hb with rfl|rfl|rfl|rfl|⟨e,he,rfl|rfl⟩
 ·exact⟨_,ho,λ_ z=>by cases z⟩
 ·exact⟨_,A.wr,λ_ z=>by cases z⟩
 ·exact⟨_,A.pa,λ_ z=>by cases z⟩
 ·exact⟨_,A.ho,λ_ z=>by cases z⟩
 ·obtain⟨dy,hm⟩:=(A.mx e he).ob
  exact⟨_,hm,λ_ z=>by cases z⟩
 ·exact⟨_,(A.mx e he).li,λ_ z=>by cases z⟩
theorem HoO.keep (A:HoO t H a s l w p h x) (g:∀b,Ow a w p h x.pa b→H' b=H b) (tp:∀b xs,H b=some (.tup xs)→H' b=some (.tup xs)):HoO t H' a s l w p h x:=
 ⟨A.ob.imp λ_ e=>(g a (.inl rfl)).trans e,(g w (.inr (.inl rfl))).trans A.wr,λe he=>tp _ _ (A.dr e he),(g p (.inr (.inr (.inl rfl)))).trans A.pa,(g h (.inr (.inr (.inr (.inl rfl))))).trans A.ho,
  λe he=>(A.mx e he).keep (g _ (.inr (.inr (.inr (.inr ⟨e,he,.inl rfl⟩))))) (g _ (.inr (.inr (.inr (.inr ⟨e,he,.inr rfl⟩))))) tp,A.ph,A.wl,A.kd,A.md,A.ld⟩
theorem HoO.same (A:HoO t H a s l w p h x) (m:Same H H'):HoO t H' a s l w p h x:=A.keep (λb hb=>by
 obtain⟨o,e,_⟩:=A.dom hb
 rw[e]
 exact m _ _ e) λb xs e=>m _ _ e
theorem HoO.set (A:HoO t H a s l w p h x) {now mk:Int} {dx:Addr} {fl:Int}:HoO t (upd H a (.ins t.av dx (hoF now fl s l w mk p h))) a s l w p h {x with now:=now,fl:=fl,ma:=mk}:=by
 obtain⟨dy,ho⟩:=A.ob
 have n:∀{b:Addr} {o:HO},H b=some o→(∀c d fs,o= .ins c d fs→fs.length=1)→b≠a:=λe i z=>by
  rw[z,ho]at e
  have:=i _ _ _ (Option.some.inj e).symm
  cases this
 have nt:∀{b:Addr} {o:HO},H b=some o→(∀c d fs,o≠ .ins c d fs)→b≠a:=λe i=>n e λc d fs z=>absurd z (i c d fs)
 refine⟨⟨dx,af⟩,by rw[ac (nt A.wr λ_ _ _ z=>by cases z)];exact A.wr,λe he=>by rw[ac (nt (A.dr e he) λ_ _ _ z=>by cases z)];exact A.dr e he,by rw[ac (nt A.pa λ_ _ _ z=>by cases z)];exact A.pa,
  by rw[ac (nt A.ho λ_ _ _ z=>by cases z)];exact A.ho,λe he=>?_,A.ph,A.wl,A.kd,A.md,A.ld⟩
 have M:=A.mx e he
 obtain⟨dm,hm⟩:=M.ob
 exact M.keep (ac (n hm λ_ _ _ z=>by cases z;rfl)) (ac (nt M.li λ_ _ _ z=>by cases z)) λb xs e=>by rw[ac (nt e λ_ _ _ z=>by cases z)];exact e
theorem HoO.row (A:HoO t H a s l w p h x) {r:Addr} {xs:List V} (hr:H r=some (.tup xs)):HoO t (upd H w (.lst (x.di.map (λe=>V.ref e.1)++ [.ref r]))) a s l w p h {x with di:=x.di++ [(r,xs)]}:=by
 obtain⟨dy,ho⟩:=A.ob
 have nt:∀{b:Addr} {o:HO},H b=some o→(∀ys,o≠ .lst ys)→b≠w:=λe i z=>by
  rw[z,A.wr]at e
  exact i _ (Option.some.inj e).symm
 refine⟨⟨dy,by rw[ac (nt ho λ_ z=>by cases z)];exact ho⟩,by rw[af,Qi];rfl,λe he=>?_,by rw[ac (nt A.pa λ_ z=>by cases z)];exact A.pa,by rw[ac (nt A.ho λ_ z=>by cases z)];exact A.ho,λe he=>?_,A.ph,A.wl,A.kd,A.md,A.ld⟩
 ·rcases Qb.mp he with he|he
  ·rw[ac (nt (A.dr e he) λ_ z=>by cases z)]
   exact A.dr e he
  ·rw[Qg.mp he,ac (nt hr λ_ z=>by cases z)]
   exact hr
 ·have M:=A.mx e he
  obtain⟨dm,hm⟩:=M.ob
  exact M.keep (ac (nt hm λ_ z=>by cases z)) (ac (A.wl e he)) λb xs e=>by rw[ac (nt e λ_ z=>by cases z)];exact e
def paN (pa:List Pk) (k:Int) (y:Mk1):List Pk:=pa.map λe=>if e.k=k then{e with es:=e.es++ [y]}else e
theorem pA {β:Type} {f:Pk→β} (hf:∀e es,f {e with es:=es}=f e):(paN pa k y).map f=pa.map f:=by
 unfold paN
 rw[Qy]
 refine Ze λe _=>?_
 show f (if e.k=k then _ else e)=_
 split
 ·exact hf _ _
 ·rfl
theorem qt {e:Pk} (h:e∈paN pa k y):∃g∈pa,e.k=g.k∧e.m=g.m∧e.l=g.l∧((g.k=k∧e.es=g.es++ [y])∨(g.k≠k∧e.es=g.es)):=by
 obtain⟨g,hg,rfl⟩:=Qf.mp h
 refine⟨g,hg,?_⟩
 split
 ·rename_i c;exact⟨rfl,rfl,rfl,.inl ⟨c,rfl⟩⟩
 ·rename_i c;exact⟨rfl,rfl,rfl,.inr ⟨c,rfl⟩⟩
theorem AJ (hb:Ow a w p h (paN pa k y) b):Ow a w p h pa b:=by
 rcases hb with z|z|z|z|⟨e,he,z⟩
 ·exact .inl z
 ·exact .inr (.inl z)
 ·exact .inr (.inr (.inl z))
 ·exact .inr (.inr (.inr (.inl z)))
 ·obtain⟨g,hg,_,e2,e3,_⟩:=qt he
  rw[e2,e3]at z
  exact .inr (.inr (.inr (.inr ⟨g,hg,z⟩)))
theorem HoO.noted (A:HoO t H a s l w p h x) {e:Pk} (he:e∈x.pa) (ek:e.k=k) (M:MkA t H' e.m e.l (e.es++ [y])) (kp:∀b o,b≠e.l→H b=some o→H' b=some o):HoO t H' a s l w p h {x with pa:=paN x.pa k y}:=by
 obtain⟨dy,ho⟩:=A.ob
 have hl:=(A.mx e he).li
 have nt:∀{b:Addr} {o:HO},H b=some o→(∀ys,o≠ .lst ys)→H' b=some o:=λe i=>kp _ _ (λz=>by
  rw[z,hl]at e
  exact i _ (Option.some.inj e).symm) e
 refine⟨⟨dy,nt ho (λ_ z=>by cases z)⟩,kp _ _ (A.wl e he).symm A.wr,λe he=>nt (A.dr e he) (λ_ z=>by cases z),?_,nt A.ho (λ_ z=>by cases z),λf hf=>?_,A.ph,λf hf=>?_,?_,?_,?_⟩
 ·show H' p=some (.dK (ay (paD (paN x.pa k y))))
  unfold paD
  rw[pA λ_ _=>rfl]
  exact nt A.pa λ_ z=>by cases z
 ·obtain⟨g,hg,e1,e2,e3,⟨c,e4⟩|⟨c,e4⟩⟩:=qt hf
  ·have:g=e:=tF A.kd hg he (c.trans ek.symm)
   subst this
   rw[e2,e3,e4]
   exact M
  ·have M2:=A.mx g hg
   obtain⟨dm,hm⟩:=M2.ob
   rw[e2,e3,e4]
   exact M2.keep ((nt hm λ_ z=>by cases z).trans hm.symm) ((kp _ _ (λz=>c (by rw[tF A.ld hg he z];exact ek)) M2.li).trans M2.li.symm) λb xs e=>nt e λ_ z=>by cases z
 ·obtain⟨g,hg,_,_,e3,_⟩:=qt hf
  rw[e3]
  exact A.wl g hg
 ·show((paN x.pa k y).map (·.k)).Nodup
  rw[pA λ_ _=>rfl]
  exact A.kd
 ·show((paN x.pa k y).map (·.m)).Nodup
  rw[pA λ_ _=>rfl]
  exact A.md
 ·show((paN x.pa k y).map (·.l)).Nodup
  rw[pA λ_ _=>rfl]
  exact A.ld
theorem mh (pa:List Pk) (k:Int):(aF (paD pa) k=none∧k∉pa.map (·.k))∨∃e∈pa,e.k=k∧aF (paD pa) k=some (.ref e.m)∧mkOf pa k=e.es:=by
 induction pa with
 |nil=>exact .inl ⟨gV,λz=>by cases z⟩
 |cons e r ih=>
  show(aF ((e.k,V.ref e.m)::paD r) k=none∧_)∨∃g∈e::r,g.k=k∧aF ((e.k,V.ref e.m)::paD r) k=_∧(if e.k=k then e.es else mkOf r k)=_
  by_cases c:e.k=k
  ·exact .inr ⟨e,Q8,c,a5 c,if_pos c⟩
  ·rw[aW c,if_neg c]
   rcases ih with⟨i1,i2⟩|⟨g,hg,i1,i2,i3⟩
   ·refine .inl ⟨i1,λz=>?_⟩
    rw[Qo]at z
    rcases Qe.mp z with z|z
    ·exact c z.symm
    ·exact i2 z
   ·exact .inr ⟨g,Q6 _ hg,i1,i2,i3⟩
theorem iI:∀{pa:List Pk},k∉pa.map (·.k)→mkOf pa k=[]
 | [],_=>rfl
 |e::r,n=>by
  rw[Qo]at n
  show(if e.k=k then e.es else mkOf r k)=[]
  rw[if_neg λz=>n (by rw[z];exact Q8)]
  exact iI λz=>n (Q6 _ z)
theorem j3 {j:Int}:∀{pa:List Pk},k∈pa.map (·.k)→mkOf (paN pa k y) j=if j=k then mkOf pa k++ [y]else mkOf pa j
 |e::r,n=>by
  show(if(if e.k=k then{e with es:=e.es++ [y]}else e:Pk).k=j then(if e.k=k then{e with es:=e.es++ [y]}else e:Pk).es else mkOf (paN r k y) j)=if j=k then(if e.k=k then e.es else mkOf r k)++ [y]else(if e.k=j then e.es else mkOf r j)
  by_cases c:e.k=k
  ·rw[if_pos c,if_pos c]
   show(if e.k=j then e.es++ [y]else mkOf (paN r k y) j)=_
   by_cases d:j=k
   ·rw[if_pos d,if_pos (c.trans d.symm)]
   ·rw[if_neg d,if_neg λz=>d (z.symm.trans c),if_neg λz=>d (z.symm.trans c)]
    by_cases m:k∈r.map (·.k)
    ·rw[j3 m,if_neg d]
    ·have:paN r k y=r:=by
      unfold paN
      conv=>rhs;rw[←List.map_id r]
      refine Ze λg hg=>if_neg λz=>m ?_
      rw[←z]
      exact Qf.mpr ⟨g,hg,rfl⟩
     rw[this]
  ·rw[if_neg c,if_neg c]
   have m:k∈r.map (·.k):=by
    rw[Qo]at n
    rcases Qe.mp n with z|z
    ·exact absurd z.symm c
    ·exact z
   rw[j3 m]
   by_cases d:j=k
   ·rw[if_pos d,if_pos d,if_neg λz=>c (z.trans d)]
   ·rw[if_neg d,if_neg d]
theorem nK {e:Pk} {j:Int}:∀{pa:List Pk},e.k∉pa.map (·.k)→mkOf (pa++ [e]) j=if j=e.k then e.es else mkOf pa j
 | [],_=>by
  show(if e.k=j then e.es else[])=if j=e.k then e.es else[]
  by_cases c:e.k=j
  ·rw[if_pos c,if_pos c.symm]
  ·rw[if_neg c,if_neg (Ne.symm c)]
 |g::r,n=>by
  rw[Qo]at n
  show(if g.k=j then g.es else mkOf (r++ [e]) j)=if j=e.k then e.es else(if g.k=j then g.es else mkOf r j)
  rw[nK λz=>n (Q6 _ z)]
  by_cases c:g.k=j
  ·rw[if_pos c,if_pos c,if_neg λz=>n (by rw[←z,←c];exact Q8)]
  ·rw[if_neg c,if_neg c]
theorem HoO.newk (A:HoO t H a s l w p h x) {m g:Addr} (nk:k∉x.pa.map (·.k)) (M:MkA t H m g []) (n1:¬Ow a w p h x.pa m) (n2:¬Ow a w p h x.pa g):HoO t (upd H p (.dK (ay (paD x.pa++ [(k,.ref m)])))) a s l w p h {x with pa:=x.pa++ [⟨k,m,g,[]⟩]}:=by
 obtain⟨dy,ho⟩:=A.ob
 have nt:∀{b:Addr} {o:HO},H b=some o→(∀ys,o≠ .dK ys)→b≠p:=λe i z=>by
  rw[z,A.pa]at e
  exact i _ (Option.some.inj e).symm
 have kp:∀{m' l':Addr} {es:List Mk1} {o:HO},MkA t H m' l' es→MkA t (upd H p o) m' l' es:=λM=>by
  obtain⟨dm,hm⟩:=M.ob
  exact M.keep (ac (nt hm λ_ z=>by cases z)) (ac (nt M.li λ_ z=>by cases z)) λb xs e=>by rw[ac (nt e λ_ z=>by cases z)];exact e
 refine⟨⟨dy,by rw[ac (nt ho λ_ z=>by cases z)];exact ho⟩,by rw[ac (nt A.wr λ_ z=>by cases z)];exact A.wr,λe he=>by rw[ac (nt (A.dr e he) λ_ z=>by cases z)];exact A.dr e he,?_,by rw[ac A.ph.symm];exact A.ho,λe he=>?_,A.ph,λe he=>?_,?_,?_,?_⟩
 ·rw[af]
  show _=some (HO.dK (ay (paD (x.pa++ [⟨k,m,g,[]⟩]))))
  unfold paD
  rw[Qi]
  rfl
 ·rcases Qb.mp he with he|he
  ·exact kp (A.mx e he)
  ·rw[Qg.mp he]
   exact kp M
 ·rcases Qb.mp he with he|he
  ·exact A.wl e he
  ·rw[Qg.mp he]
   exact λz=>n2 (.inr (.inl z))
 all_goals
  rw[Qi]
  refine List.nodup_append.mpr ⟨?_,by simp,λu hu v hv z=>?_⟩
 ·exact A.kd
 ·cases Qg.mp hv
  rw[z]at hu
  exact nk hu
 ·exact A.md
 ·cases Qg.mp hv
  obtain⟨e,he,ee⟩:=Qf.mp hu
  exact n1 (.inr (.inr (.inr (.inr ⟨e,he,.inl (z.symm.trans ee.symm)⟩))))
 ·exact A.ld
 ·cases Qg.mp hv
  obtain⟨e,he,ee⟩:=Qf.mp hu
  exact n2 (.inr (.inr (.inr (.inr ⟨e,he,.inr (z.symm.trans ee.symm)⟩))))
end
structure Noted (pa pa':List Pk) (k:Int) (y:Mk1):Prop where
 of:∀j,mkOf pa' j=if j=k then mkOf pa k++ [y]else mkOf pa j
 ky:pa'.map (·.k)=if k∈pa.map (·.k)then pa.map (·.k)else pa.map (·.k)++ [k]
structure HoB (K:PySem.W.Frag) (t:Adr) (H:Hp) (a s l w p h:Addr) (Fs Fl:Addr→Prop) (x:HSt):Prop where
 o:HoO t H a s l w p h x
 sl:SlA K t H s Fs x.st
 lv:LvA K t H l Fl x.ks
 a1:∀b,Fs b→¬Fl b
 a2:∀b,Ow a w p h x.pa b→¬Fs b
 a3:∀b,Ow a w p h x.pa b→¬Fl b
def HoF (a w p h:Addr) (Fs Fl:Addr→Prop) (pa:List Pk):Addr→Prop:=λb=>Fs b∨Fl b∨Ow a w p h pa b
section
variable {K:PySem.W.Frag} {t:Adr} {H H':Hp} {a s l w p h b:Addr} {Fs Fs' Fl Fl':Addr→Prop} {x x':HSt}
theorem HoB.slots (B:HoB K t H a s l w p h Fs Fl x) {st:SSt} (S:SlA K t H' s Fs' st) (f:Fr Fs Fs' H H'):HoB K t H' a s l w p h Fs' Fl {x with st:=st}∧Fr (HoF a w p h Fs Fl x.pa) (HoF a w p h Fs' Fl x.pa) H H':=by
 have k1:∀b,Fl b→H' b=H b∧¬Fs' b:=λb hb=>by
  obtain⟨o,e⟩:=B.lv.dom hb
  have:=f b o (λz=>B.a1 b z hb) e
  exact⟨this.1.trans e.symm,this.2⟩
 have k2:∀b,Ow a w p h x.pa b→H' b=H b∧¬Fs' b:=λb hb=>by
  obtain⟨o,e,_⟩:=B.o.dom hb
  have:=f b o (B.a2 b hb) e
  exact⟨this.1.trans e.symm,this.2⟩
 have O:=B.o.keep (H':=H') (λb hb=>(k2 b hb).1) λb xs e=>(f b _ (B.sl.notup e) e).1
 exact⟨⟨⟨O.ob,O.wr,O.dr,O.pa,O.ho,O.mx,O.ph,O.wl,O.kd,O.md,O.ld⟩,S,B.lv.frame λb hb=>(k1 b hb).1,λb h1 h2=>(k1 b h2).2 h1,λb hb=>(k2 b hb).2,B.a3⟩,λb o n e=>⟨(f b o (λz=>n (.inl z)) e).1,λz=>z.elim (f b o (λz=>n (.inl z)) e).2 λz=>n (.inr z)⟩⟩
theorem HoB.leaves (B:HoB K t H a s l w p h Fs Fl x) {ks:List Int} (S:LvA K t H' l Fl' ks) (f:Fr Fl Fl' H H'):HoB K t H' a s l w p h Fs Fl' {x with ks:=ks}∧Fr (HoF a w p h Fs Fl x.pa) (HoF a w p h Fs Fl' x.pa) H H':=by
 have k1:∀b,Fs b→H' b=H b∧¬Fl' b:=λb hb=>by
  obtain⟨o,e⟩:=B.sl.dom hb
  have:=f b o (B.a1 b hb) e
  exact⟨this.1.trans e.symm,this.2⟩
 have k2:∀b,Ow a w p h x.pa b→H' b=H b∧¬Fl' b:=λb hb=>by
  obtain⟨o,e,_⟩:=B.o.dom hb
  have:=f b o (B.a3 b hb) e
  exact⟨this.1.trans e.symm,this.2⟩
 have O:=B.o.keep (H':=H') (λb hb=>(k2 b hb).1) λb xs e=>(f b _ (B.lv.notup e) e).1
 exact⟨⟨⟨O.ob,O.wr,O.dr,O.pa,O.ho,O.mx,O.ph,O.wl,O.kd,O.md,O.ld⟩,B.sl.frame λb hb=>(k1 b hb).1,S,λb h1=>(k1 b h1).2,B.a2,λb hb=>(k2 b hb).2⟩,λb o n e=>⟨(f b o (λz=>n (.inr (.inl z))) e).1,λz=>z.elim (λz=>n (.inl z)) λz=>z.elim (f b o (λz=>n (.inr (.inl z))) e).2 λz=>n (.inr (.inr z))⟩⟩
theorem HoB.own (B:HoB K t H a s l w p h Fs Fl x) (O:HoO t H' a s l w p h x') (e1:x'.st=x.st) (e2:x'.ks=x.ks) (f:Fr (Ow a w p h x.pa) (Ow a w p h x'.pa) H H'):HoB K t H' a s l w p h Fs Fl x'∧Fr (HoF a w p h Fs Fl x.pa) (HoF a w p h Fs Fl x'.pa) H H':=by
 have k1:∀b,Fs b→H' b=H b∧¬Ow a w p h x'.pa b:=λb hb=>by
  obtain⟨o,e⟩:=B.sl.dom hb
  have:=f b o (λz=>B.a2 b z hb) e
  exact⟨this.1.trans e.symm,this.2⟩
 have k2:∀b,Fl b→H' b=H b∧¬Ow a w p h x'.pa b:=λb hb=>by
  obtain⟨o,e⟩:=B.lv.dom hb
  have:=f b o (λz=>B.a3 b z hb) e
  exact⟨this.1.trans e.symm,this.2⟩
 exact⟨⟨O,by rw[e1];exact B.sl.frame λb hb=>(k1 b hb).1,by rw[e2];exact B.lv.frame λb hb=>(k2 b hb).1,B.a1,λb h1 h2=>(k1 b h2).2 h1,λb h1 h2=>(k2 b h2).2 h1⟩,λb o n e=>⟨(f b o (λz=>n (.inr (.inr z))) e).1,λz=>z.elim (λz=>n (.inl z)) λz=>z.elim (λz=>n (.inr (.inl z))) (f b o (λz=>n (.inr (.inr z))) e).2⟩⟩
theorem HoB.dom (B:HoB K t H a s l w p h Fs Fl x) (hb:HoF a w p h Fs Fl x.pa b):∃o,H b=some o∧∀ys,o≠ .tup ys:=by
 have no:∀F:Addr→Prop,F b→(∀xs,H b=some (.tup xs)→¬F b)→∀o,H b=some o→∃o,H b=some o∧∀ys,o≠ .tup ys:=λF hF n o e=>⟨o,e,λys z=>n ys (by rw[e,z]) hF⟩
 rcases hb with hb|hb|hb
 ·obtain⟨o,e⟩:=B.sl.dom hb
  exact no Fs hb (λxs e=>B.sl.notup e) o e
 ·obtain⟨o,e⟩:=B.lv.dom hb
  exact no Fl hb (λxs e=>B.lv.notup e) o e
 ·exact B.o.dom hb
theorem HoB.keep (B:HoB K t H a s l w p h Fs Fl x) (g:∀b,HoF a w p h Fs Fl x.pa b→H' b=H b) (tp:∀b xs,H b=some (.tup xs)→H' b=some (.tup xs)):HoB K t H' a s l w p h Fs Fl x:=
 ⟨B.o.keep (λb hb=>g b (.inr (.inr hb))) tp,B.sl.frame λb hb=>g b (.inl hb),B.lv.frame λb hb=>g b (.inr (.inl hb)),B.a1,B.a2,B.a3⟩
end
structure HOk (x:HSt):Prop where
 ks:∀z,z∈x.ks↔(aF x.st.kv z).isSome=true
 n0:0≤x.now
 m0:0≤x.ma
 dl:(x.di.length:Int)=x.now+x.ma
 pl:(x.pa.length:Int)≤x.now
 el:∀j,((mkOf x.pa j).length:Int)≤x.now
 sl:(x.st.kv.length:Int)≤x.now
 hn:(x.ho.map (·.1)).Nodup
 hv:∀p∈x.ho,x.fl≤p.1∧p.1≤x.now∧∃n:Int,p.2= .int n∧0<n
 fb:0≤x.fl∧x.fl≤x.now
 up:∀j,(mkOf x.pa j).Pairwise (λa b=>a.mo<b.mo)∧∀y∈mkOf x.pa j,y.mo≤x.now
def HoA (K:PySem.W.Frag) (t:Adr) (H:Hp) (a:Addr) (F:Addr→Prop) (x:HSt):Prop:=∃s l w p h Fs Fl,HoB K t H a s l w p h Fs Fl x∧HOk x∧∀b,F b↔HoF a w p h Fs Fl x.pa b
section
variable {K:PySem.W.Frag} {t:Adr} {H H':Hp} {a b q:Addr} {F F':Addr→Prop} {x:HSt} {o:HO} {k:Int}
theorem HoA.ins (A:HoA K t H a F x):∃dx fs,H a=some (.ins t.av dx fs)∧(∀m,NoH m→fs.lookup m=none)∧fs.lookup ("now":Str)=some (.int x.now)∧fs.lookup ("floor":Str)=some (.int x.fl):=by
 obtain⟨s,l,w,p,h,Fs,Fl,B,_⟩:=A
 obtain⟨dx,e⟩:=B.o.ob
 exact⟨dx,_,e,λm hm=>r9 hm,eR,xw⟩
theorem HoA.ok (A:HoA K t H a F x):HOk x:=by
 obtain⟨s,l,w,p,h,Fs,Fl,B,O,_⟩:=A
 exact O
theorem HoA.dom (A:HoA K t H a F x) (hb:F b):∃o,H b=some o∧∀ys,o≠ .tup ys:=by
 obtain⟨s,l,w,p,h,Fs,Fl,B,_,g⟩:=A
 exact B.dom ((g b).mp hb)
theorem HoA.out (A:HoA K t H a F x) (e:H b=none):¬F b:=λz=>by
 obtain⟨o,q,_⟩:=A.dom z
 rw[q]at e
 cases e
theorem HoA.keep (A:HoA K t H a F x) (g:∀b,F b→H' b=H b) (tp:∀b xs,H b=some (.tup xs)→H' b=some (.tup xs)):HoA K t H' a F x:=by
 obtain⟨s,l,w,p,h,Fs,Fl,B,O,f⟩:=A
 exact⟨s,l,w,p,h,Fs,Fl,B.keep (λb hb=>g b ((f b).mpr hb)) tp,O,f⟩
theorem HoA.same (A:HoA K t H a F x) (m:Same H H'):HoA K t H' a F x:=A.keep (λb hb=>by
 obtain⟨o,e,_⟩:=A.dom hb
 rw[e]
 exact m _ _ e) λb xs e=>m _ _ e
theorem HoA.upd (A:HoA K t H a F x) (n:¬F q) (nt:∀xs,H q≠some (.tup xs)):HoA K t (L2.upd H q o) a F x:=A.keep (λb hb=>ac λz=>n (z▸hb)) λb xs e=>by rw[ac λz=>nt xs (by rw[←z];exact e)];exact e
end
def mL (t:Adr):Sp:=λvs H Q _=>∃(a s l w p h r:Addr) (k:Int) (x:HSt) (v:V) (xs:List V),vs=[.ref a,.ref r,v]∧HoO t H a s l w p h x∧H r=some (.tup xs)∧atI xs 1=some (.int k)∧x.di.length<50000∧x.pa.length<50000∧(mkOf x.pa k).length<50000∧
 ∀(H':Hp) (pa':List Pk) (q:Addr),HoO t H' a s l w p h {x with now:=x.now+1,di:=x.di++ [(r,xs)],pa:=pa'}→Noted x.pa pa' k ⟨q,x.now+1,v⟩→Fr (Ow a w p h x.pa) (Ow a w p h pa') H H'→Q (.int (x.now+1)) H'
theorem ia (T:Txt K mg t):aX P w K mg base CX0 3 t.ja t.fQ ["self","row","value"] (mL t):=by
 have G_Makes__init:= @nB P w K mg base t T
 have G_Makes__note:= @nu P w K mg base t T
 refine T.yy.ok sc_House__done (λvs H Q E h=>?_) (λcdv A outer s H vs Q E hr h=>?_)
 ·obtain⟨a,s,l,w,p,h,r,k,x,v,xs,rfl,_⟩:=h
  rfl
 ·obtain⟨a,s,l,wr,p,h,r,k,x,v,xs,rfl,A,ht,hk,l1,l2,l3,q⟩:=h
  refine⟨_,(ae (aM (i:=3) sc_House__done.nd rfl (Or.inl rfl) (ba jv (pv 1) ak (λ_ _=>rfl)))
   (ae (iH (pv 0) ak tK)
   (ae (aE (cx Ql QK QL cy (ar (pv 0) rfl) (aa (pv 1) ag)))
   (ae (aE (aK (cx Qw Xi PySem.F.type_dict_setdefault vx (ar (pv 0) rfl) (aa (pv 3) (aa (fV T.BR G_Makes__init (hr.mono (by decide)) (by rfl) T.BY T.ye .nil aB) ag))) T.cW T.x5 G_Makes__note (hr.mono (by decide)) T.yd .nil aB (aa (ar (pv 0) rfl) (aa (pv 2) ag))))
   (ah (aL (ar (pv 0) rfl)))))))
   ,?_⟩
  obtain⟨dx,ho⟩:=A.ob
  refine⟨_,rfl,r,_,_,_,rfl,rfl,SqT.of ht,hk,?_⟩
  refine⟨_,rfl,a,_,dx,_,_,rfl,ho,T.al,T.bi,eR,_,_,rfl,rfl,dx,_,ho,qK,?_⟩
  rw[yU]
  have A1:=A.set (now:=x.now+1) (mk:=x.ma) (fl:=x.fl) (dx:=dx)
  have o1:∀b o,b≠a→H b=some o→upd H a (.ins t.av dx (hoF (x.now+1) x.fl s l wr x.ma p h)) b=some o:=λb o n e=>by rw[ac n];exact e
  have ra:r≠a:=λz=>by rw[z,ho]at ht;cases ht
  have ht1:=o1 _ _ ra ht
  generalize upd H a (.ins t.av dx (hoF (x.now+1) x.fl s l wr x.ma p h))=H1 at A1 o1 ht1⊢
  obtain⟨dx1,ho1⟩:=A1.ob
  refine⟨_,rfl,a,_,dx1,_,_,rfl,ho1,T.al,T.kP,A7,.inl ⟨rfl,_,SqL.of A1.wr⟩,_,rfl,wr,_,_,rfl,rfl,A1.wr,be (by rw[Q2];show x.di.length≤_;omega),?_⟩
  have A2:=A1.row ht1
  have o2:∀b o,¬Ow a wr p h x.pa b→H b=some o→upd H1 wr (.lst (x.di.map (λe=>V.ref e.1)++ [.ref r])) b=some o:=λb o n e=>by rw[ac λz=>n (.inr (.inl z))];exact o1 _ _ (λz=>n (.inl z)) e
  generalize upd H1 wr (.lst (x.di.map (λe=>V.ref e.1)++ [.ref r]))=H2 at A2 o2⊢
  obtain⟨dx2,ho2⟩:=A2.ob
  refine⟨_,rfl,a,_,dx2,_,_,rfl,ho2,T.al,T.cb,qJ,.inr (.inr (.inl ⟨rfl,.inl ⟨_,A2.pa⟩⟩)),_,rfl,λm dm nm nd nmd=>⟨m,dm,rfl,af,λH4 g M4 ng o4=>⟨rfl,?_⟩⟩⟩
  have s3:Same H2 (upd (upd H2 dm (.own m)) m (.ins t.cn dm [])):=dQ (am nd) nm
  have s4:Same H2 H4:=λb o e=>o4 b o (λz=>by rw[z,nm]at e;cases e) (s3 b o e)
  have ng2:=zq s3 ng
  have A4:=A2.same s4
  have om:¬Ow a wr p h x.pa m:=λz=>by obtain⟨o,e,_⟩:=A2.dom z;rw[nm]at e;cases e
  have og:¬Ow a wr p h x.pa g:=λz=>by obtain⟨o,e,_⟩:=A2.dom z;rw[ng2]at e;cases e
  have o5:∀b o,¬Ow a wr p h x.pa b→H b=some o→H4 b=some o∧b≠m∧b≠g:=λb o n e=>⟨s4 _ _ (o2 b o n e),λz=>(by have:=o2 b o n e;rw[z,nm]at this;cases this),λz=>(by have:=o2 b o n e;rw[z,ng2]at this;cases this)⟩
  clear s3 s4 o4 o2 o1 A1 A2 ho2 ho1 ho A ng nm nd nmd ng2 ht1 ht
  refine⟨p,_,Sum.inl k,.ref m,rfl,rfl,A4.pa,(by rw[bp];exact be (by show(paD x.pa).length≤_;unfold paD;rw[Q2];omega)),λu hu=>?A,λhn=>?B⟩
  case' A=>
   have hu:aF (ay (paD x.pa)) (Sum.inl k:Key)=some u:=hu
   rw[liftK_val]at hu
   obtain⟨e,he,ek,ev,em⟩:∃e∈x.pa,e.k=k∧aF (paD x.pa) k=some (.ref e.m)∧mkOf x.pa k=e.es:=by
    rcases mh x.pa k with⟨z,_⟩|z
    ·rw[z]at hu;cases hu
    ·exact z
   rw[ev]at hu
   cases hu
   obtain⟨pa5,A5,he,N,f5⟩:∃pa5,HoO t H4 a s l wr p h {x with now:=x.now+1,di:=x.di++ [(r,xs)],pa:=pa5}∧e∈pa5∧(∀y,Noted x.pa (paN pa5 k y) k y)∧Fr (Ow a wr p h x.pa) (Ow a wr p h pa5) H H4:=
    ⟨x.pa,A4,he,λy=>⟨λj=>j3 (Qf.mpr ⟨e,he,ek⟩),by rw[pA λ_ _=>rfl,if_pos (Qf.mpr ⟨e,he,ek⟩)]⟩,λb o n e=>⟨(o5 b o n e).1,n⟩⟩
   have le:e.es.length<50000:=by rw[←em];exact l3
   clear A4 em ev o5
  case' B=>
   have hn:aF (ay (paD x.pa)) (Sum.inl k:Key)=none:=hn
   rw[liftK_val]at hn
   have nk:k∉x.pa.map (·.k):=by
    rcases mh x.pa k with⟨_,z⟩|⟨e,_,_,z,_⟩
    ·exact z
    ·rw[z]at hn;cases hn
   have ep:aU (ay (paD x.pa)) (Sum.inl k:Key) (.ref m)=ay (paD x.pa++ [(k,.ref m)]):=by
    rw[c6]
    unfold aU
    rw[bM,hn]
    rfl
   rw[ep]
   obtain⟨e,ee,ek,le⟩:∃e:Pk,e=⟨k,m,g,[]⟩∧e.k=k∧e.es.length<50000:=⟨_,rfl,rfl,by show 0<50000;decide⟩
   obtain⟨pa5,A5,he,N,f5⟩:∃pa5,HoO t (upd H4 p (.dK (ay (paD x.pa++ [(k,.ref m)])))) a s l wr p h {x with now:=x.now+1,di:=x.di++ [(r,xs)],pa:=pa5}∧e∈pa5∧(∀y,Noted x.pa (paN pa5 k y) k y)∧Fr (Ow a wr p h x.pa) (Ow a wr p h pa5) H (upd H4 p (.dK (ay (paD x.pa++ [(k,.ref m)])))):=by
    refine⟨x.pa++ [e],ee▸A4.newk nk M4 om og,Qn _ Q8,λy=>⟨λj=>?_,?_⟩,λb o n eb=>⟨?_,λz=>?_⟩⟩
    ·have nk':e.k∉x.pa.map (·.k):=by rw[ek];exact nk
     rw[j3 (by rw[Qi];exact Qn _ (Qg.mpr ek.symm)),nK nk',nK nk',if_pos ek.symm,iI nk,ee]
     by_cases c:j=k
     ·rw[if_pos c,if_pos c]
     ·rw[if_neg c,if_neg c,if_neg c]
    ·rw[pA λ_ _=>rfl,if_neg nk,Qi,←ek]
     rfl
    ·rw[ac λz=>n (.inr (.inr (.inl z)))]
     exact(o5 b o n eb).1
    ·rcases z with z|z|z|z|⟨e',he',z⟩
     ·exact n (.inl z)
     ·exact n (.inr (.inl z))
     ·exact n (.inr (.inr (.inl z)))
     ·exact n (.inr (.inr (.inr (.inl z))))
     ·rcases Qb.mp he' with y|y
      ·exact n (.inr (.inr (.inr (.inr ⟨e',y,z⟩))))
      ·rw[Qg.mp y,ee]at z
       exact z.elim (o5 b o n eb).2.1 (o5 b o n eb).2.2
   have em:V.ref m=V.ref e.m:=by rw[ee]
   clear A4 M4 o5 om og hn nk ep
   generalize upd H4 p (.dK (ay (paD x.pa++ [(k,.ref m)])))=H5 at A5 f5⊢
   rw[em]
  all_goals
   have M5:=A5.mx e he
   obtain⟨dy,hm⟩:=M5.ob
   obtain⟨dx5,ho5⟩:=A5.ob
   refine⟨e.m,dy,_,rfl,hm,a9 (by decide+kernel),_,rfl,a,_,dx5,_,_,rfl,ho5,T.al,T.bi,eR,_,rfl,e.m,e.l,e.es,_,v,rfl,M5,by omega,λH6 y M6 ny o6=>?_⟩
   have A6:=A5.noted he ek M6 o6
   obtain⟨dx6,ho6⟩:=A6.ob
   refine⟨_,rfl,a,_,dx6,_,_,rfl,ho6,T.al,T.bi,eR,q _ _ y A6 (N _) (f5.trans λb o n eb=>⟨o6 b o (λz=>n (.inr (.inr (.inr (.inr ⟨e,he,.inr z⟩))))) eb,λz=>n (AJ z)⟩)⟩
def HSt.new:HSt:=⟨0,0,0,SSt.new,[],[],[],[]⟩
theorem HSt.new_ok:HOk HSt.new:=⟨λz=>⟨(λy=>by cases y),(λy=>by cases y)⟩,by decide,by decide,rfl,by decide,λ_=>by show((0:Nat):Int)≤0;decide,by decide,Z0,(λ_ z=>by cases z),by decide,λ_=>⟨List.Pairwise.nil,(λy z=>by cases z)⟩⟩
def mH (K:PySem.W.Frag) (t:Adr):Sp:=λvs H Q _=>∃(a dx:Addr),vs=[.ref a]∧H a=some (.ins t.av dx [])∧∀H' F,HoA K t H' a F HSt.new→Fr (λb=>b=a) F H H'→Q .non H'
theorem nC (T:Txt K mg t):aX P w K mg base CX0 4 t.i6 t.fL ["self"] (mH K t):=by
 have G_Leaves__init:= @gP P w K mg base t T
 have G_Slots__init:= @m9 P w K mg base t T
 refine T.yt.ok mT (λvs H Q E h=>?_) (λcdv A outer s H vs Q E hr h=>?_)
 ·obtain⟨a,dx,rfl,_⟩:=h
  rfl
 ·obtain⟨a,dx,rfl,ha,q⟩:=h
  refine⟨_,(ae (bB (pv 0) ak rfl)
   (ae (bB (pv 0) ak rfl)
   (ae (bB (pv 0) (fV T.BQ G_Slots__init (hr.mono (by decide)) (by rfl) T.BW T.yb .nil aB) rfl)
   (ae (bB (pv 0) (fV T.vC G_Leaves__init (hr.mono (by decide)) (by rfl) T.vD T.oj .nil aB) rfl)
   (ae (bB (pv 0) (dZ ag) rfl)
   (ae (bB (pv 0) ak rfl)
   (ae (bB (pv 0) fW rfl)
   (ah (bB (pv 0) fW rfl)))))))))
   ,?_⟩
  refine⟨_,rfl,a,_,dx,[],rfl,ha,T.al,T.bi,(by show 0<1000;decide),?_⟩
  refine⟨_,rfl,a,_,dx,_,rfl,af,T.al,T.bE,(by show 1<1000;decide),?_⟩
  (try dsimp only)
  have e2:upd (upd H a (.ins t.av dx (aV ("now":Str) (.int 0) []))) a (.ins t.av dx (aV ("floor":Str) (.int 0) (aV ("now":Str) (.int 0) []))) a=some (.ins t.av dx [("now",.int 0),("floor",.int 0)]):=by
   rw[af,cM,aO (by decide+kernel),cM]
  have k2:∀b o,b≠a→H b=some o→upd (upd H a (.ins t.av dx (aV ("now":Str) (.int 0) []))) a (.ins t.av dx (aV ("floor":Str) (.int 0) (aV ("now":Str) (.int 0) []))) b=some o:=λb o n e=>by rw[ac n,ac n];exact e
  generalize upd (upd H a (.ins t.av dx (aV ("now":Str) (.int 0) []))) a (.ins t.av dx (aV ("floor":Str) (.int 0) (aV ("now":Str) (.int 0) [])))=H2 at e2 k2⊢
  refine λs ds ns nds nsd=>⟨s,ds,rfl,af,by rw[ac nsd];exact af,λH3 Fs S3 f3=>⟨rfl,?_⟩⟩
  have k3:∀b o,H2 b=some o→H3 b=some o∧¬Fs b:=λb o e=>f3 b o (λz=>z.elim (λz=>by rw[z,ns]at e;cases e) λz=>by rw[z,nds]at e;cases e) (dQ (am nds) ns _ _ e)
  refine⟨_,rfl,a,_,dx,_,rfl,(k3 _ _ e2).1,T.al,T.d8,(by show 2<1000;decide),?_⟩
  (try dsimp only)
  have e4:upd H3 a (.ins t.av dx (aV ("slots":Str) (.ref s) [("now",.int 0),("floor",.int 0)])) a=some (.ins t.av dx [("now",.int 0),("floor",.int 0),("slots",.ref s)]):=by
   rw[af,aO (by decide+kernel),aO (by decide+kernel),cM]
  have S4:=S3.upd (o:= .ins t.av dx (aV ("slots":Str) (.ref s) [("now",.int 0),("floor",.int 0)])) (k3 _ _ e2).2
  have k4:∀b o,b≠a→H b=some o→upd H3 a (.ins t.av dx (aV ("slots":Str) (.ref s) [("now",.int 0),("floor",.int 0)])) b=some o∧¬Fs b:=λb o n e=>⟨by rw[ac n];exact(k3 _ _ (k2 b o n e)).1,(k3 _ _ (k2 b o n e)).2⟩
  have na:=(k3 _ _ e2).2
  clear f3 k3
  generalize upd H3 a (.ins t.av dx (aV ("slots":Str) (.ref s) [("now",.int 0),("floor",.int 0)]))=H4 at e4 S4 k4⊢
  refine λl dl nl ndl nld=>⟨l,dl,rfl,af,by rw[ac nld];exact af,λH5 Fl L5 f5=>⟨rfl,?_⟩⟩
  have k5:∀b o,H4 b=some o→H5 b=some o∧¬Fl b:=λb o e=>f5 b o (λz=>z.elim (λz=>by rw[z,nl]at e;cases e) λz=>by rw[z,ndl]at e;cases e) (dQ (am ndl) nl _ _ e)
  refine⟨_,rfl,a,_,dx,_,rfl,(k5 _ _ e4).1,T.al,T.gQ,(by show 3<1000;decide),?_⟩
  (try dsimp only)
  have e6:upd H5 a (.ins t.av dx (aV ("leaves":Str) (.ref l) [("now",.int 0),("floor",.int 0),("slots",.ref s)])) a=some (.ins t.av dx [("now",.int 0),("floor",.int 0),("slots",.ref s),("leaves",.ref l)]):=by
   rw[af,aO (by decide+kernel),aO (by decide+kernel),aO (by decide+kernel),cM]
  have nb:=(k5 _ _ e4).2
  have L6:=L5.upd (o:= .ins t.av dx (aV ("leaves":Str) (.ref l) [("now",.int 0),("floor",.int 0),("slots",.ref s)])) nb
  have S6:=(S4.same λb o e=>(k5 b o e).1).upd (o:= .ins t.av dx (aV ("leaves":Str) (.ref l) [("now",.int 0),("floor",.int 0),("slots",.ref s)])) na
  have ap:∀b,Fs b→¬Fl b:=λb hb=>by
   obtain⟨o,e⟩:=S4.dom hb
   exact(k5 b o e).2
  have k6:∀b o,b≠a→H b=some o→upd H5 a (.ins t.av dx (aV ("leaves":Str) (.ref l) [("now",.int 0),("floor",.int 0),("slots",.ref s)])) b=some o∧¬Fs b∧¬Fl b:=λb o n e=>⟨by rw[ac n];exact(k5 _ _ (k4 b o n e).1).1,(k4 b o n e).2,(k5 _ _ (k4 b o n e).1).2⟩
  clear f5 k5 k4 S4 L5 k2 e2 e4 S3 ns nds nsd nl ndl nld
  generalize upd H5 a (.ins t.av dx (aV ("leaves":Str) (.ref l) [("now",.int 0),("floor",.int 0),("slots",.ref s)]))=H6 at e6 S6 L6 k6⊢
  refine⟨Qk _,λwr nw=>⟨_,rfl,a,_,dx,_,rfl,am nw _ _ e6,T.al,T.kP,(by show 4<1000;decide),?_⟩⟩
  (try dsimp only)
  have aw:a≠wr:=aj e6 nw
  refine⟨_,rfl,a,_,dx,_,rfl,af,T.al,T.xb,(by rw[aO (by decide+kernel),aO (by decide+kernel),aO (by decide+kernel),aO (by decide+kernel),cM];show 5<1000;decide),?_⟩
  (try dsimp only)
  rw[aO (f:="written") (by decide+kernel),aO (f:="written") (by decide+kernel),aO (f:="written") (by decide+kernel),aO (f:="written") (by decide+kernel),cM,aO (f:="marks") (by decide+kernel),aO (f:="marks") (by decide+kernel),aO (f:="marks") (by decide+kernel),aO (f:="marks") (by decide+kernel),aO (f:="marks") (by decide+kernel),cM,cf]
  have⟨H9,eH,e9,w9,k9⟩:∃H9,H9=upd (upd H6 wr (.lst [])) a (.ins t.av dx [("now",.int 0),("floor",.int 0),("slots",.ref s),("leaves",.ref l),("written",.ref wr),("marks",.int 0)])∧H9 a=some (.ins t.av dx [("now",.int 0),("floor",.int 0),("slots",.ref s),("leaves",.ref l),("written",.ref wr),("marks",.int 0)])∧H9 wr=some (.lst [])∧∀b o,b≠a→H6 b=some o→H9 b=some o:=
   ⟨_,rfl,af,by rw[ac aw.symm];exact af,λb o n e=>by rw[ac n];exact am nw _ _ e⟩
  rw[←eH]
  clear eH
  refine λp np=>⟨_,rfl,a,_,dx,_,rfl,am np _ _ e9,T.al,T.cb,(by show 6<1000;decide),?_⟩
  (try dsimp only)
  rw[aO (by decide+kernel),aO (by decide+kernel),aO (by decide+kernel),aO (by decide+kernel),aO (by decide+kernel),aO (by decide+kernel),cM]
  have⟨H11,eH,e11,w11,p11,k11⟩:∃H11,H11=upd (upd H9 p (.dK [])) a (.ins t.av dx [("now",.int 0),("floor",.int 0),("slots",.ref s),("leaves",.ref l),("written",.ref wr),("marks",.int 0),("past",.ref p)])∧H11 a=some (.ins t.av dx [("now",.int 0),("floor",.int 0),("slots",.ref s),("leaves",.ref l),("written",.ref wr),("marks",.int 0),("past",.ref p)])∧H11 wr=some (.lst [])∧H11 p=some (.dK [])∧∀b o,b≠a→H6 b=some o→H11 b=some o:=
   ⟨_,rfl,af,by rw[ac aw.symm];exact am np _ _ w9,by rw[ac (aj e9 np).symm];exact af,λb o n e=>by rw[ac n];exact am np _ _ (k9 _ _ n e)⟩
  rw[←eH]
  clear eH
  have pa':p≠a:=(aj e9 np).symm
  refine λh nh=>⟨_,rfl,a,_,dx,_,rfl,am nh _ _ e11,T.al,T.bb,(by show 7<1000;decide),?_⟩
  (try dsimp only)
  rw[aO (by decide+kernel),aO (by decide+kernel),aO (by decide+kernel),aO (by decide+kernel),aO (by decide+kernel),aO (by decide+kernel),aO (by decide+kernel),cM]
  have ha':h≠a:=(aj e11 nh).symm
  have k13:∀b o,b≠a→H11 b=some o→upd (upd H11 h (.dK [])) a (.ins t.av dx (hoF 0 0 s l wr 0 p h)) b=some o:=λb o n e=>by rw[ac n];exact am nh _ _ e
  have g13:∀b o,b≠a→H6 b=some o→upd (upd H11 h (.dK [])) a (.ins t.av dx (hoF 0 0 s l wr 0 p h)) b=some o:=λb o n e=>k13 b o n (k11 b o n e)
  have O:HoO t (upd (upd H11 h (.dK [])) a (.ins t.av dx (hoF 0 0 s l wr 0 p h))) a s l wr p h HSt.new:=⟨⟨dx,af⟩,k13 _ _ aw.symm w11,(λe he=>by cases he),k13 _ _ pa' p11,by rw[ac ha'];exact af,(λe he=>by cases he),aj p11 nh,(λe he=>by cases he),Z0,Z0,Z0⟩
  have fresh:∀b,(b=wr∨b=p∨b=h)→H6 b=none:=λb hb=>by
   cases e:H6 b with
   |none=>rfl
   |some o=>
    have na:b≠a:=by
     rcases hb with rfl|rfl|rfl
     ·exact aw.symm
     ·exact pa'
     ·exact ha'
    rcases hb with rfl|rfl|rfl
    ·rw[nw]at e;cases e
    ·rw[k9 _ _ na e]at np;cases np
    ·rw[k11 _ _ na e]at nh;cases nh
  have ow:∀b,Ow a wr p h [] b→b=a∨H6 b=none:=λb hb=>by
   rcases hb with z|z|z|z|⟨e,he,_⟩
   ·exact .inl z
   ·exact .inr (fresh b (.inl z))
   ·exact .inr (fresh b (.inr (.inl z)))
   ·exact .inr (fresh b (.inr (.inr z)))
   ·cases he
  refine q _ (HoF a wr p h Fs Fl []) ⟨s,l,wr,p,h,Fs,Fl,⟨O,S6.frame λb hb=>?_,L6.frame λb hb=>?_,ap,λb hb z=>?_,λb hb z=>?_⟩,HSt.new_ok,λ_=>Iff.rfl⟩ λb o n e=>?_
  ·obtain⟨o,e⟩:=S6.dom hb
   rw[e]
   exact g13 b o (λz=>na (z▸hb)) e
  ·obtain⟨o,e⟩:=L6.dom hb
   rw[e]
   exact g13 b o (λz=>nb (z▸hb)) e
  ·rcases ow b hb with y|y
   ·exact na (y▸z)
   ·exact S6.out y z
  ·rcases ow b hb with y|y
   ·exact nb (y▸z)
   ·exact L6.out y z
  ·obtain⟨c1,c2,c3⟩:=k6 b o n e
   refine⟨g13 b o n c1,λz=>?_⟩
   rcases z with z|z|z
   ·exact c2 z
   ·exact c3 z
   ·rcases ow b z with y|y
    ·exact n y
    ·rw[c1]at y;cases y
theorem HoA.klen {H:Hp} {a:Addr} {F:Addr→Prop} {x:HSt} (A:HoA K t H a F x):(x.ks.length:Int)≤x.now:=by
 obtain⟨s,l,w,p,h,Fs,Fl,B,O,_⟩:=A
 obtain⟨L,A,ls,_,ok,e,_⟩:=B.lv
 have nd:x.ks.Nodup:=by
  rw[←e]
  exact List.Pairwise.imp (λh z=>by omega) ok.up
 have:=ie (S:=x.st.kv.map (·.1)) nd λz hz=>mem_keys.mpr ((O.ks z).mp hz)
 rw[Q2]at this
 have:=O.sl
 omega
theorem HOk.noted {x:HSt} {pa':List Pk} {k:Int} {y:Mk1} (O:HOk x) (N:Noted x.pa pa' k y):(pa'.length:Int)≤x.now+1∧∀j,((mkOf pa' j).length:Int)≤x.now+1:=by
 constructor
 ·have h1:=O.pl
  have h2:=congrArg List.length N.ky
  rw[Q2]at h2
  split at h2
  ·rw[Q2]at h2
   omega
  ·rw[Qa,Q2,QJ]at h2
   omega
 ·intro j
  rw[N.of]
  split
  ·have:=O.el k
   rw[Qa,QJ]
   omega
  ·have:=O.el j
   omega
theorem HOk.hv1 {x:HSt} (O:HOk x):∀p∈x.ho,x.fl≤p.1∧p.1≤x.now+1∧∃n:Int,p.2= .int n∧0<n:=λp hp=>⟨(O.hv p hp).1,by have:=(O.hv p hp).2.1;omega,(O.hv p hp).2.2⟩
theorem HOk.fb1 {x:HSt} (O:HOk x):0≤x.fl∧x.fl≤x.now+1:=⟨O.fb.1,by have:=O.fb.2;omega⟩
theorem HOk.up1 {x:HSt} {pa':List Pk} {k:Int} {y:Mk1} (O:HOk x) (N:Noted x.pa pa' k y) (e:y.mo=x.now+1):∀j,(mkOf pa' j).Pairwise (λa b=>a.mo<b.mo)∧∀z∈mkOf pa' j,z.mo≤x.now+1:=λj=>by
 rw[N.of]
 obtain⟨u1,u2⟩:=O.up k
 split
 ·refine⟨Zj.mpr ⟨u1,ZI _ _,λa ha b hb=>?_⟩,λz hz=>?_⟩
  ·rw[Qg.mp hb,e]
   have:=u2 a ha
   omega
  ·rcases Qb.mp hz with hz|hz
   ·have:=u2 z hz
    omega
   ·rw[Qg.mp hz,e]
    exact Zi _
 ·obtain⟨v1,v2⟩:=O.up j
  exact⟨v1,λz hz=>by have:=v2 z hz;omega⟩
def oF (K:PySem.W.Frag) (t:Adr):Sp:=λvs H Q _=>∃(a:Addr) (k i:Int) (F:Addr→Prop) (x:HSt),vs=[.ref a,.int k,.int i]∧HoA K t H a F x∧0≤k∧x.now+x.ma<4000∧
 ∀(H':Hp) (F':Addr→Prop) (ks':List Int) (r q:Addr) (pa':List Pk),HoA K t H' a F' {x with now:=x.now+1,st:=x.st.put k (.int i),ks:=ks',di:=x.di++ [(r,[.str "put",.int k,.int i])],pa:=pa'}→Noted x.pa pa' k ⟨q,x.now+1,.int i⟩→Fr F F' H H'→Q (.int (x.now+1)) H'
theorem oP (T:Txt K mg t):aX P w K mg base CX0 5 t.kt t.gM ["self","key","value"] (oF K t):=by
 have G_House__done:= @ia P w K mg base t T
 have G_Leaves__add:= @hX P w K mg base t T
 have G_Slots__has:= @iQ P w K mg base t T
 have G_Slots__put:= @oO P w K mg base t T
 refine T.zL.ok oK (λvs H Q E h=>?_) (λcdv A outer s H vs Q E hr h=>?_)
 ·obtain⟨a,k,i,F,x,rfl,_⟩:=h
  rfl
 ·obtain⟨a,k,i,F,x,rfl,A,k0,l1,q⟩:=h
  refine⟨_,(ae (aZ (gx (b4 (aK (ar (pv 0) rfl) T.az T.qA G_Slots__has (hr.mono (by decide)) T.qU .nil aB (aa (pv 1) ag))))
   (ah (aE (aK (ar (pv 0) rfl) T.aA T.oR G_Leaves__add (hr.mono (by decide)) T.oZ .nil aB (aa (pv 1) ag))))
   aJ)
   (ae (aE (aK (ar (pv 0) rfl) T.az T.zj G_Slots__put (hr.mono (by decide)) T.zD .nil aB (aa (pv 1) (aa (pv 2) ag))))
   (ah (aL (aK (pv 0) T.al T.oS G_House__done (hr.mono (by decide)) T.o3 .nil aB (aa (jk (aa dY (aa (pv 1) (aa (pv 2) ag)))) (aa (pv 2) ag)))))))
   ,?_⟩
  have kl:=A.klen
  obtain⟨s,l,wr,p,h,Fs,Fl,B,O,g⟩:=A
  have n0:=O.n0
  have m0:=O.m0
  have sl:=O.sl
  obtain⟨dx,ho⟩:=B.o.ob
  obtain⟨ds,fs,hs,hm⟩:=B.sl.ins
  (try dsimp only)
  refine l9 (λσ H2=>∃(Fs2 Fl2:Addr→Prop) (ks2:List Int),σ=[some (.ref a),some (.int k),some (.int i)]∧HoB K t H2 a s l wr p h Fs2 Fl2 {x with ks:=ks2}∧(∀z,z∈ks2↔z=k∨z∈x.ks)∧Fr (HoF a wr p h Fs Fl x.pa) (HoF a wr p h Fs2 Fl2 x.pa) H H2) (λnx go=>?_) (λσ H2 w=>?_)
  ·refine⟨_,rfl,a,_,dx,_,_,rfl,ho,T.al,T.d8,tL,s,ds,fs,rfl,hs,hm _ (by decide+kernel),_,rfl,s,k,Fs,x.st,rfl,B.sl,k0,λH1 Fs1 S1 f1=>?_⟩
   obtain⟨B1,g1⟩:=B.slots S1 f1
   obtain⟨dx1,ho1⟩:=B1.o.ob
   obtain⟨dl,fl,hl,hml⟩:=B1.lv.ins
   cases ev:(aF x.st.kv k).isSome with
   |true=>
    refine⟨_,rfl,im (λc=>?_) (λ_=>?_)⟩
    ·cases c
    ·exact go _ _ ⟨Fs1,Fl,x.ks,rfl,B1,λz=>⟨.inr,λy=>y.elim (λy=>by rw[y];exact(O.ks k).mpr ev) id⟩,g1⟩
   |false=>
    have nk:k∉x.ks:=λz=>by have:=(O.ks k).mp z;rw[ev]at this;cases this
    refine⟨_,rfl,im (λ_=>?_) (λc=>?_)⟩
    ·refine⟨_,rfl,a,_,dx1,_,_,rfl,ho1,T.al,T.gQ,xv,l,dl,fl,rfl,hl,hml _ (by decide+kernel),_,rfl,l,k,Fl,x.ks,rfl,B1.lv,by omega,λ_ H2 Fl2 ks2 L2 mem f2=>?_,λz=>absurd z nk⟩
     obtain⟨B2,g2⟩:=B1.leaves L2 f2
     exact go _ _ ⟨Fs1,Fl2,ks2,rfl,B2,mem,g1.trans g2⟩
    ·exact absurd rfl c
  ·obtain⟨Fs2,Fl2,ks2,rfl,B2,mem,g2⟩:=w
   obtain⟨dx2,ho2⟩:=B2.o.ob
   obtain⟨ds2,fs2,hs2,hm2⟩:=B2.sl.ins
   refine⟨_,rfl,a,_,dx2,_,_,rfl,ho2,T.al,T.d8,tL,s,ds2,fs2,rfl,hs2,hm2 _ (by decide+kernel),_,rfl,_,rfl,s,k,i,Fs2,x.st,rfl,B2.sl,k0,by omega,λH3 Fs3 S3 f3=>?_⟩
   obtain⟨B3,g3⟩:=B2.slots S3 f3
   obtain⟨dx3,ho3⟩:=B3.o.ob
   refine⟨_,rfl,a,dx3,_,rfl,ho3,r9 (by decide+kernel),_,rfl,_,rfl,(by show 3≤sizeLine;decide),λr nr=>?_⟩
   have s4:=am (o:= .tup [.str "put",.int k,.int i]) nr
   have ht:upd H3 r (.tup [.str "put",.int k,.int i]) r=some (.tup [.str "put",.int k,.int i]):=af
   have B4:HoB K t (upd H3 r (.tup [.str "put",.int k,.int i])) a s l wr p h Fs3 Fl2 _:=B3.keep (λb hb=>by
    obtain⟨o,e,_⟩:=B3.dom hb
    rw[e]
    exact s4 _ _ e) λb xs e=>s4 _ _ e
   have g4:=(g2.trans g3).trans (Fr.of_same s4)
   generalize upd H3 r (.tup [.str "put",.int k,.int i])=H4 at B4 ht g4⊢
   have dl:=O.dl
   have pl:=O.pl
   have el:=O.el k
   refine⟨_,rfl,a,s,l,wr,p,h,r,k,_,.int i,_,rfl,B4.o,ht,rfl,by show x.di.length<50000;omega,by show x.pa.length<50000;omega,by show(mkOf x.pa k).length<50000;omega,λH5 pa' y O5 N f5=>?_⟩
   obtain⟨B5,g5⟩:=B4.own O5 rfl rfl f5
   obtain⟨N1,N2⟩:=O.noted N
   have ek:(x.st.put k (.int i)).kv=aU x.st.kv k (.int i):=SSt.three_kv
   refine q H5 (HoF a wr p h Fs3 Fl2 pa') ks2 r y pa' ⟨s,l,wr,p,h,Fs3,Fl2,B5,⟨λz=>?_,by show 0≤x.now+1;omega,m0,?_,N1,N2,?_,O.hn,O.hv1,O.fb1,O.up1 N rfl⟩,λ_=>Iff.rfl⟩ N ?_
   ·show z∈ks2↔(aF (x.st.put k (.int i)).kv z).isSome=true
    rw[mem,ek,←mem_keys,j5,O.ks]
    split
    ·rename_i c
     rw[mem_keys]
     exact⟨λy=>y.elim (λy=>y▸c) id,.inr⟩
    ·rw[Qb,Qg,mem_keys]
     exact⟨λy=>y.elim .inr .inl,λy=>y.elim .inr .inl⟩
   ·show((x.di++ [(r,_)]).length:Int)=x.now+1+x.ma
    rw[Qa,QJ]
    omega
   ·show((x.st.put k (.int i)).kv.length:Int)≤x.now+1
    rw[ek]
    have:=bv x.st.kv k (.int i)
    omega
   ·exact λb o n e=>(g4.trans g5) b o (λz=>n ((g b).mpr z)) e
def RsH (K:PySem.W.Frag) (t:Adr) (a:Addr) (F:Addr→Prop) (x:HSt) (H:Hp) (C:Addr) (fs:List (Str×V)) (E:XK):Prop:=
 ∀(ea:Addr) (od:Option Addr) (H':Hp) (F':Addr→Prop),ExcAt H' ea od C fs→HoA K t H' a F' x→Fr F F' H H'→E (.ref ea) od H'
def mK (K:PySem.W.Frag) (t:Adr):Sp:=λvs H Q E=>∃(a:Addr) (k:Int) (F:Addr→Prop) (x:HSt),vs=[.ref a,.int k]∧HoA K t H a F x∧0≤k∧x.now+x.ma<4000∧
 ((aF x.st.kv k).isSome=true→∀(H':Hp) (F':Addr→Prop) (ks':List Int) (r q:Addr) (pa':List Pk),HoA K t H' a F' {x with now:=x.now+1,st:=x.st.drop k,ks:=ks',di:=x.di++ [(r,[.str "drop",.int k])],pa:=pa'}→Noted x.pa pa' k ⟨q,x.now+1,.non⟩→Fr F F' H H'→Q (.int (x.now+1)) H')∧
 (aF x.st.kv k=none→False)
theorem nE (T:Txt K mg t):aX P w K mg base CX0 6 t.i9 t.fP ["self","key"] (mK K t):=by
 have G_House__done:= @ia P w K mg base t T
 have G_Leaves__discard:= @jo P w K mg base t T
 have G_Slots__drop:= @ni P w K mg base t T
 refine T.yx.ok mW (λvs H Q E h=>?_) (λcdv A outer s H vs Q E hr h=>?_)
 ·obtain⟨a,k,F,x,rfl,_⟩:=h
  rfl
 ·obtain⟨a,k,F,x,rfl,A,k0,l1,q,qx⟩:=h
  refine⟨_,(ae (aE (aK (ar (pv 0) rfl) T.az T.xZ G_Slots__drop (hr.mono (by decide)) T.yc .nil aB (aa (pv 1) ag)))
   (ae (aE (aK (ar (pv 0) rfl) T.aA T.ur G_Leaves__discard (hr.mono (by decide)) T.uM .nil aB (aa (pv 1) ag)))
   (ah (aL (aK (pv 0) T.al T.oS G_House__done (hr.mono (by decide)) T.o3 .nil aB (aa (jk (aa dY (aa (pv 1) ag))) (aa fz ag)))))))
   ,?_⟩
  have kl:=A.klen
  obtain⟨s,l,wr,p,h,Fs,Fl,B,O,g⟩:=A
  have n0:=O.n0
  have m0:=O.m0
  have sl:=O.sl
  obtain⟨dx,ho⟩:=B.o.ob
  obtain⟨ds,fs,hs,hm⟩:=B.sl.ins
  (try dsimp only)
  refine⟨_,rfl,a,_,dx,_,_,rfl,ho,T.al,T.d8,tL,s,ds,fs,rfl,hs,hm _ (by decide+kernel),_,rfl,s,k,Fs,x.st,rfl,B.sl,k0,λev=>⟨by omega,λH1 Fs1 S1 f1=>?_⟩,λhn=>(qx hn).elim⟩
  ·obtain⟨B1,g1⟩:=B.slots S1 f1
   obtain⟨dx1,ho1⟩:=B1.o.ob
   obtain⟨dl,fl,hl,hml⟩:=B1.lv.ins
   refine⟨_,rfl,a,_,dx1,_,_,rfl,ho1,T.al,T.gQ,xv,l,dl,fl,rfl,hl,hml _ (by decide+kernel),_,rfl,l,k,Fl,x.ks,rfl,B1.lv,by omega,λ_ H2 Fl2 ks2 L2 mem f2=>?_,λz=>absurd ((O.ks k).mpr ev) z⟩
   obtain⟨B3,g3⟩:=B1.leaves L2 f2
   obtain⟨dx3,ho3⟩:=B3.o.ob
   refine⟨_,rfl,a,dx3,_,rfl,ho3,r9 (by decide+kernel),_,rfl,(by show 2≤sizeLine;decide),λr nr=>?_⟩
   have s4:=am (o:= .tup [.str "drop",.int k]) nr
   have ht:upd H2 r (.tup [.str "drop",.int k]) r=some (.tup [.str "drop",.int k]):=af
   have B4:HoB K t (upd H2 r (.tup [.str "drop",.int k])) a s l wr p h Fs1 Fl2 _:=B3.keep (λb hb=>by
    obtain⟨o,e,_⟩:=B3.dom hb
    rw[e]
    exact s4 _ _ e) λb xs e=>s4 _ _ e
   have g4:=(g1.trans g3).trans (Fr.of_same s4)
   generalize upd H2 r (.tup [.str "drop",.int k])=H4 at B4 ht g4⊢
   have dl:=O.dl
   have pl:=O.pl
   have el:=O.el k
   refine⟨a,s,l,wr,p,h,r,k,_,.non,_,rfl,B4.o,ht,rfl,by show x.di.length<50000;omega,by show x.pa.length<50000;omega,by show(mkOf x.pa k).length<50000;omega,λH5 pa' y O5 N f5=>?_⟩
   obtain⟨B5,g5⟩:=B4.own O5 rfl rfl f5
   obtain⟨N1,N2⟩:=O.noted N
   have ek:(x.st.drop k).kv=bf x.st.kv k:=SSt.three_kv
   refine q ev H5 (HoF a wr p h Fs1 Fl2 pa') ks2 r y pa' ⟨s,l,wr,p,h,Fs1,Fl2,B5,⟨λz=>?_,by show 0≤x.now+1;omega,m0,?_,N1,N2,?_,O.hn,O.hv1,O.fb1,O.up1 N rfl⟩,λ_=>Iff.rfl⟩ N ?_
   ·show z∈ks2↔(aF (x.st.drop k).kv z).isSome=true
    rw[mem,ek,cw,O.ks]
    by_cases c:z=k
    ·rw[if_pos c]
     exact⟨λy=>absurd c y.1,λy=>by cases y⟩
    ·rw[if_neg c]
     exact⟨λy=>y.2,λy=>⟨c,y⟩⟩
   ·show((x.di++ [(r,_)]).length:Int)=x.now+1+x.ma
    rw[Qa,QJ]
    omega
   ·show((x.st.drop k).kv.length:Int)≤x.now+1
    rw[ek]
    have:(bf x.st.kv k).length≤x.st.kv.length:=Qr _ _
    omega
   ·exact λb o n e=>(g4.trans g5) b o (λz=>n ((g b).mpr z)) e
def dO (ho:List (Int×V)) (m:Int):Int:=match aF ho m with
 |some (.int n)=>n
 |_=>0
def xu (ho:List (Int×V)) (m:Int):List (Int×V):=aU ho m (.int (dO ho m+1))
def l0 (ho:List (Int×V)) (m:Int):List (Int×V):=if dO ho m-1=0 then bf (aU ho m (.int (dO ho m-1))) m else aU ho m (.int (dO ho m-1))
theorem HoO.held {H:Hp} {a s l w p h:Addr} {x:HSt} (A:HoO t H a s l w p h x) (ho':List (Int×V)):HoO t (upd H h (.dK (ay ho'))) a s l w p h {x with ho:=ho'}:=by
 obtain⟨dy,ho⟩:=A.ob
 have nt:∀{b:Addr} {o:HO},H b=some o→(∀ys,o≠ .dK ys)→b≠h:=λe i z=>by
  rw[z,A.ho]at e
  exact i _ (Option.some.inj e).symm
 refine⟨⟨dy,by rw[ac (nt ho λ_ z=>by cases z)];exact ho⟩,by rw[ac (nt A.wr λ_ z=>by cases z)];exact A.wr,λe he=>by rw[ac (nt (A.dr e he) λ_ z=>by cases z)];exact A.dr e he,by rw[ac A.ph];exact A.pa,af,λe he=>?_,A.ph,A.wl,A.kd,A.md,A.ld⟩
 have M:=A.mx e he
 obtain⟨dm,hm⟩:=M.ob
 exact M.keep (ac (nt hm λ_ z=>by cases z)) (ac (nt M.li λ_ z=>by cases z)) λb xs e=>by rw[ac (nt e λ_ z=>by cases z)];exact e
theorem uO {kv:List (Int×V)} {k:Int} {v:V} (h:aF kv k=some v):(k,v)∈kv:=by
 induction kv with
 |nil=>rw[gV]at h;cases h
 |cons p r ih=>
  by_cases e:p.1=k
  ·rw[a5 e]at h
   cases h
   rw[←e]
   exact Q8
  ·rw[aW e]at h
   exact Q6 _ (ih h)
theorem tP {ho:List (Int×V)} {m:Int} (hv:∀p∈ho,∃n:Int,p.2= .int n∧0<n):(aF ho m=none∧dO ho m=0)∨(aF ho m=some (.int (dO ho m))∧0<dO ho m):=by
 unfold dO
 cases e:aF ho m with
 |none=>exact .inl ⟨rfl,rfl⟩
 |some v=>
  obtain⟨n,en,n0⟩:=hv _ (uO e)
  have en:v= .int n:=en
  subst en
  exact .inr ⟨rfl,n0⟩
theorem nM {ho:List (Int×V)} {m:Int} {v:V} {p:Int×V} (h:p∈aU ho m v):p∈ho∨p=(m,v):=by
 unfold aU at h
 split at h
 ·obtain⟨q,hq,rfl⟩:=Qf.mp h
  by_cases c:q.1=m
  ·rw[if_pos c,←c];exact .inr rfl
  ·rw[if_neg c];exact .inl hq
 ·rcases Qb.mp h with h|h
  ·exact .inl h
  ·exact .inr (Qg.mp h)
def mI (K:PySem.W.Frag) (t:Adr):Sp:=λvs H Q _=>∃(a:Addr) (F:Addr→Prop) (x:HSt),vs=[.ref a]∧HoA K t H a F x∧x.ho.length<50000∧
 ∀(H':Hp) (F':Addr→Prop),HoA K t H' a F' {x with ho:=xu x.ho x.now}→Fr F F' H H'→Q (.int x.now) H'
theorem nD (T:Txt K mg t):aX P w K mg base CX0 1 t.i7 t.fN ["self"] (mI K t):=by
 refine T.yu.ok mU (λvs H Q E h=>?_) (λcdv A outer s H vs Q E hr h=>?_)
 ·obtain⟨a,F,x,rfl,_⟩:=h
  rfl
 ·obtain⟨a,F,x,rfl,A,l1,q⟩:=h
  refine⟨_,(ae (mf (eQ hr) (ar (pv 0) rfl) (ar (pv 0) rfl) (aH bH (cx Qw ZT PySem.F.type_dict_get (zg (eQ hr)) (ar (pv 0) rfl) (aa (ar (pv 0) rfl) (aa ak ag))) ak) rfl)
   (ah (aL (ar (pv 0) rfl))))
   ,?_⟩
  obtain⟨s,l,wr,p,h,Fs,Fl,B,O,g⟩:=A
  obtain⟨dx,ho⟩:=B.o.ob
  have hv:∀p∈x.ho,∃n:Int,p.2= .int n∧0<n:=λp hp=>(O.hv p hp).2.2
  have c0:0≤dO x.ho x.now:=by rcases tP (m:=x.now) hv with⟨_,z⟩|⟨_,z⟩<;>omega
  refine⟨_,rfl,a,_,dx,_,_,rfl,ho,T.al,T.bb,jw,.inr (.inr (.inl ⟨rfl,.inl ⟨_,B.o.ho⟩⟩)),_,rfl,a,_,dx,_,_,rfl,ho,T.al,T.bi,eR,h,_,_,_,rfl,rfl,DGet.k (k:=Sum.inl x.now) B.o.ho,?_⟩
  rw[liftK_val]
  have eg:(aF x.ho x.now).getD (.int 0)= .int (dO x.ho x.now):=by
   rcases tP (m:=x.now) hv with⟨z,y⟩|⟨z,_⟩
   ·rw[z,y];rfl
   ·rw[z];rfl
  rw[eg]
  refine⟨_,_,rfl,rfl,_,rfl,a,_,dx,_,_,rfl,ho,T.al,T.bb,jw,_,rfl,a,_,dx,_,_,rfl,ho,T.al,T.bi,eR,h,_,rfl,DPut.k (k:=Sum.inl x.now) B.o.ho (by rw[bp];exact be (by omega)),?_⟩
  rw[c6]
  have A1:=B.o.held (xu x.ho x.now)
  obtain⟨B1,f1⟩:=B.own (H':=upd H h (.dK (ay (xu x.ho x.now)))) A1 rfl rfl λb o n e=>⟨by rw[ac λz=>n (.inr (.inr (.inr (.inl z))))];exact e,n⟩
  obtain⟨dx1,ho1⟩:=A1.ob
  refine⟨_,rfl,a,_,dx1,_,_,rfl,ho1,T.al,T.bi,eR,q _ F ⟨s,l,wr,p,h,Fs,Fl,B1,⟨O.ks,O.n0,O.m0,O.dl,O.pl,O.el,O.sl,jp O.hn,λy hy=>?_,O.fb,O.up⟩,g⟩ λb o n e=>⟨(f1 b o (λz=>n ((g b).mpr z)) e).1,n⟩⟩
  rcases nM hy with hy|rfl
  ·exact O.hv y hy
  ·exact⟨O.fb.2,Zi _,_,rfl,by show 0<dO x.ho x.now+1;omega⟩
def mJ (K:PySem.W.Frag) (t:Adr):Sp:=λvs H Q _=>∃(a:Addr) (F:Addr→Prop) (x:HSt),vs=[.ref a]∧HoA K t H a F x∧x.ho.length<64∧
 ∀(H':Hp) (l:Addr) (ms:List Int),Same H H'→H l=none→H' l=some (.lst (ms.map V.int))→ms.Perm (x.ho.map (·.1))→ms.Pairwise (· ≤ ·)→Q (.ref l) H'
theorem hZ (T:Txt K mg t):aX P w K mg base CX0 1 t.i8 t.fO ["self"] (mJ K t):=by
 refine T.yw.ok mV (λvs H Q E h=>?_) (λcdv A outer s H vs Q E hr h=>?_)
 ·obtain⟨a,F,x,rfl,_⟩:=h
  rfl
 ·obtain⟨a,F,x,rfl,A,l1,q⟩:=h
  refine⟨_,(ah (aL (au (qQ hr.hd) (by rfl) T.q9 lq (aa (ar (pv 0) rfl) ag))))
   ,?_⟩
  obtain⟨s,l,wr,p,h,Fs,Fl,B,O,g⟩:=A
  obtain⟨dx,ho⟩:=B.o.ob
  exact⟨_,rfl,a,_,dx,_,_,rfl,ho,T.al,T.bb,jw,h,_,x.ho.map (·.1),rfl,.inl B.o.ho,pG,(by rw[bp];exact l1),λl ms nl pm pw=>q _ l ms (am nl) nl af pm pw⟩
def sT (K:PySem.W.Frag):Sp:=λvs H Q _=>∃(e C:Addr) (bm:List Value) (x:V),vs=[.ref e,x]∧H e=some (XN e C none)∧XCls K C bm∧NoAttr K C "moment"∧∀dx,H dx=none→Q .non (upd (upd H dx (.xd [("moment",x)])) e (XN e C (some dx)))
def jK (K:PySem.W.Frag):Sp:=sT K
theorem eP (T:Txt K mg t):aX P w K mg base CX0 1 t.db t.da ["self","moment"] (jK K):=by
 refine T.we.ok jQ (λvs H Q E h=>?_) (λcdv A outer s H vs Q E hr h=>?_)
 ·obtain⟨e,C,bm,x,rfl,_⟩:=h
  rfl
 ·obtain⟨e,C,bm,x,rfl,he,Y,na,k⟩:=h
  refine⟨_,(ae (aE (uf (by rfl) T.j4 T.j0 (aa (pv 0) (aa dY ag))))
   (ah (ua (pv 0) (pv 1) rfl)))
   ,?_⟩
  exact⟨_,rfl,e,C,none,_,bm,rfl,(by show 1≤1000;decide),he,Y,_,rfl,_,rfl,e,C,bm,rfl,he,Y,na,λdx nd=>k dx nd⟩
theorem kH {E E':XK} {H:Hp} {C:Addr} {bm:List Value} {x:V} {i:Nat} (Y:XCls K C bm) (na:NoAttr K C "moment") (r:∀(ea:Addr) (od:Option Addr) (H':Hp),ExcAt H' ea od C [("moment",x)]→Same H H'→E (.ref ea) od H') {σ:St} {D:Ends} (hi:σ[i]?=some (some x)):
  wK K (wG C (sT K) [] E' (zT (wF i) yE)) E D σ H:=by
 refine⟨x,hi,(by show 1≤1000;decide),λea nea=>⟨ea,C,bm,x,rfl,af,Y,na,λdx nd=>⟨rfl,ea,C,some dx,bm,rfl,af,Y,?_⟩⟩⟩
 rw[cf]
 have ne:dx≠ea:=(aj af nd).symm
 have nH:H dx=none:=by rw[ac ne]at nd;exact nd
 refine r ea (some dx) _ ⟨af,.inr ⟨dx,rfl,by rw[ac ne,af]⟩⟩ λb o q=>?_
 rw[ac (aj q nea),ac (aj q nH),ac (aj q nea)]
 exact q
def kC (K:PySem.W.Frag) (t:Adr):Sp:=λvs H Q E=>∃(a:Addr) (m:Int) (F:Addr→Prop) (x:HSt),vs=[.ref a,.int m]∧HoA K t H a F x∧x.ho.length<50000∧
 ((aF x.ho m).isSome=true→∀(H':Hp) (F':Addr→Prop),HoA K t H' a F' {x with ho:=l0 x.ho m}→Fr F F' H H'→Q .non H')∧(aF x.ho m=none→RsH K t a F x H t.aY [("moment",.int m)] E)
theorem kM (T:Txt K mg t):aX P w K mg base (CX1 P w) 3 t.gR t.dB ["self","moment"] (kC K t):=by
 have G_NoMoment__init:= @eP P w K mg base t T
 refine T.wn.okX kD (λvs H Q E h=>?_) (λcdv A outer s H vs Q E hr h=>?_)
 ·obtain⟨a,m,F,x,rfl,_⟩:=h
  rfl
 ·obtain⟨a,m,F,x,rfl,A,l1,q,qx⟩:=h
  refine⟨_,(ae (aZ (qp (kK (eQ hr) (pv 1) (ar (pv 0) rfl)))
   (ah (mX rfl qd (m4 T.aP T.qH T.qI G_NoMoment__init (hr.mono (by decide)) (by rfl) T.ig T.lr .nil aB (aa (pv 1) ag))))
   aJ)
   (ae (yX (eQ hr) (ar (pv 0) rfl) (pv 1) ak xr (by intros;rfl))
   (ah (aZ (aC dt (qq (eQ hr) (ar (pv 0) rfl) (pv 1) (λ_ _=>rfl)) ak (aD _))
   (ah (aE (cx Qw Zr ZU qy (ar (pv 0) rfl) (aa (pv 1) ag))))
   aJ))))
   ,?_⟩
  have A0:=A
  obtain⟨s,l,wr,p,h,Fs,Fl,B,O,g⟩:=A
  obtain⟨dx,ho⟩:=B.o.ob
  have hv:∀p∈x.ho,∃n:Int,p.2= .int n∧0<n:=λp hp=>(O.hv p hp).2.2
  refine⟨_,rfl,_,rfl,a,_,dx,_,_,rfl,ho,T.al,T.bb,jw,h,_,rfl,DGet.k (k:=Sum.inl m) B.o.ho,?_⟩
  rw[liftK_val]
  rcases tP (m:=m) hv with⟨ev,_⟩|⟨ev,n0⟩
  ·rw[ev]
   refine⟨_,rfl,cQ ?_⟩
   exact kH T.aP T.d7 (λea od H' ex s'=>qx ev ea od H' F ex (A0.same s') (Fr.of_same s')) rfl
  ·rw[ev]
   refine⟨_,rfl,c7 ?_⟩
   have dg:∀{H1:Hp} {ho1:List (Int×V)} {v:V},H1 h=some (.dK (ay ho1))→aF ho1 m=some v→DGet H1 h (.int m) (some v):=λ{H1 ho1 v} e ev=>by
    have:=DGet.k (k:=Sum.inl m) e
    rw[liftK_val,ev]at this
    exact this
   refine⟨_,rfl,a,_,dx,_,_,rfl,ho,T.al,T.bb,jw,_,rfl,h,_,rfl,dg B.o.ho ev,_,_,rfl,rfl,_,DPut.k (k:=Sum.inl m) B.o.ho (by rw[bp];exact be (by omega)),?_⟩
   rw[c6]
   have A1:=B.o.held (aU x.ho m (.int (dO x.ho m-1)))
   have g1:aF (aU x.ho m (.int (dO x.ho m-1))) m=some (.int (dO x.ho m-1)):=by rw[cE,if_pos rfl]
   have f1:∀b o,¬Ow a wr p h x.pa b→H b=some o→upd H h (.dK (ay (aU x.ho m (.int (dO x.ho m-1))))) b=some o:=λb o n e=>by rw[ac λz=>n (.inr (.inr (.inr (.inl z))))];exact e
   generalize upd H h (.dK (ay (aU x.ho m (.int (dO x.ho m-1)))))=H1 at A1 f1⊢
   obtain⟨dx1,ho1⟩:=A1.ob
   have fin:∀{H2:Hp},HoO t H2 a s l wr p h {x with ho:=l0 x.ho m}→(∀b o,¬Ow a wr p h x.pa b→H b=some o→H2 b=some o)→Q .non H2:=λ{H2} A2 f2=>by
    obtain⟨B2,g2⟩:=B.own A2 rfl rfl λb o n e=>⟨f2 b o n e,n⟩
    refine q (by rw[ev];rfl) H2 F ⟨s,l,wr,p,h,Fs,Fl,B2,⟨O.ks,O.n0,O.m0,O.dl,O.pl,O.el,O.sl,?_,λy hy=>?_,O.fb,O.up⟩,g⟩ λb o n e=>⟨(g2 b o (λz=>n ((g b).mpr z)) e).1,n⟩
    ·show((l0 x.ho m).map (·.1)).Nodup
     unfold l0
     split
     ·exact(jp O.hn).sublist ((X2).map _)
     ·exact jp O.hn
    ·have hy:y∈l0 x.ho m:=hy
     have hmem:=(O.hv _ (uO ev))
     unfold l0 at hy
     split at hy
     ·rename_i c
      obtain⟨hy1,hy2⟩:=QM.mp hy
      rcases nM hy1 with hy|rfl
      ·exact O.hv y hy
      ·exact absurd rfl (of_decide_eq_true hy2)
     ·rename_i c
      rcases nM hy with hy|rfl
      ·exact O.hv y hy
      ·exact⟨hmem.1,hmem.2.1,_,rfl,by show 0<dO x.ho m-1;omega⟩
   refine⟨_,rfl,a,_,dx1,_,_,rfl,ho1,T.al,T.bb,jw,_,rfl,h,_,rfl,dg A1.ho g1,rfl,_,rfl,im (λc=>?_) (λc=>?_)⟩
   ·have c0:dO x.ho m-1=0:=V.int.inj (of_decide_eq_true c)
    refine⟨_,rfl,a,_,dx1,_,_,rfl,ho1,T.al,T.bb,jw,.inr (.inr (.inl ⟨rfl,.inl ⟨_,A1.ho⟩⟩)),_,rfl,h,_,Sum.inl m,_,rfl,rfl,A1.ho,liftK_val.trans g1,?_⟩
    rw[jt]
    have A2:=A1.held (bf (aU x.ho m (.int (dO x.ho m-1))) m)
    refine fin (H2:=upd H1 h (.dK (ay (bf (aU x.ho m (.int (dO x.ho m-1))) m)))) ?_ λb o n e=>by rw[ac λz=>n (.inr (.inr (.inr (.inl z))))];exact f1 b o n e
    have e1:l0 x.ho m=bf (aU x.ho m (.int (dO x.ho m-1))) m:=by unfold l0;exact if_pos c0
    rw[e1]
    exact A2
   ·have c0:¬dO x.ho m-1=0:=λz=>c (decide_eq_true (by rw[z]))
    refine fin ?_ f1
    have e1:l0 x.ho m=aU x.ho m (.int (dO x.ho m-1)):=by unfold l0;exact if_neg c0
    rw[e1]
    exact A1
theorem vo {α:Type} {l:List α} {i:Nat} {y:α} (h:l.Nodup) (n:y∉l):(l.set i y).Nodup:=by
 induction l generalizing i with
 |nil=>exact h
 |cons x r ih=>
  obtain⟨h1,h2⟩:=Qs.mp h
  cases i with
  |zero=>exact Qs.mpr ⟨λz=>n (Q6 _ z),h2⟩
  |succ i=>
   refine Qs.mpr ⟨λz=>?_,ih h2 λz=>n (Q6 _ z)⟩
   rcases Z7 z with z|z
   ·exact h1 z
   ·exact n (by rw[z];exact Q8)
theorem xa {α:Type} {l:List α} {i j:Nat} {x:α} (h:l.Nodup) (e1:l[i]?=some x) (e2:l[j]?=some x):i=j:=by
 obtain⟨h1,e1⟩:=Q3.mp e1
 obtain⟨h2,e2⟩:=Q3.mp e2
 rcases(show i<j∨i=j∨j<i by omega)with c|c|c
 ·exact absurd (e1.trans e2.symm) (Z5.mp h i j h1 h2 c)
 ·exact c
 ·exact absurd (e2.trans e1.symm) (Z5.mp h j i h2 h1 c)
theorem js {α β:Type} {f:α→β} {l:List α} {i:Nat} {x y:α} (e:l[i]?=some x) (h:f y=f x):(l.set i y).map f=l.map f:=by
 induction l generalizing i with
 |nil=>rfl
 |cons z r ih=>
  cases i with
  |zero=>cases e;show f y::_=f x::_;rw[h]
  |succ i=>show f z::(r.set i y).map f=f z::_;rw[ih e]
theorem HoO.swept {H H':Hp} {a s l w p h l':Addr} {x:HSt} {i:Nat} {e:Pk} {es':List Mk1} (A:HoO t H a s l w p h x) (he:x.pa[i]?=some e) (M:MkA t H' e.m l' es') (nl:¬Ow a w p h x.pa l') (kp:∀b o,b≠e.m→H b=some o→H' b=some o):
  HoO t H' a s l w p h {x with pa:=x.pa.set i {e with l:=l',es:=es'}}:=by
 obtain⟨dy,ho⟩:=A.ob
 have hm:=Q0 he
 obtain⟨dm,hmm⟩:=(A.mx e hm).ob
 have nt:∀{b:Addr} {o:HO},H b=some o→(∀c d fs,o= .ins c d fs→fs.length≠1)→H' b=some o:=λeb i=>kp _ _ (λz=>by
  rw[z,hmm]at eb
  exact i _ _ _ (Option.some.inj eb).symm rfl) eb
 have n0:∀{b:Addr} {o:HO},H b=some o→(∀c d fs,o≠ .ins c d fs)→H' b=some o:=λeb i=>nt eb λc d fs z=>absurd z (i c d fs)
 have tp:∀b xs,H b=some (.tup xs)→H' b=some (.tup xs):=λb xs eb=>n0 eb (λ_ _ _ z=>by cases z)
 refine⟨⟨dy,nt ho (λc d fs z=>by cases z;exact(by decide:(8:Nat)≠1))⟩,n0 A.wr (λ_ _ _ z=>by cases z),λe he=>tp _ _ (A.dr e he),?_,n0 A.ho (λ_ _ _ z=>by cases z),λf hf=>?_,A.ph,λf hf=>?_,?_,?_,?_⟩
 ·show H' p=some (.dK (ay (paD (x.pa.set i {e with l:=l',es:=es'}))))
  unfold paD
  rw[js (y:={e with l:=l',es:=es'}) he rfl]
  exact n0 A.pa (λ_ _ _ z=>by cases z)
 ·obtain⟨j,ej⟩:=List.getElem?_of_mem hf
  rw[Qm]at ej
  split at ej
  ·split at ej
   ·cases ej;exact M
   ·cases ej
  ·rename_i c
   have hf:=Q0 ej
   have M2:=A.mx f hf
   obtain⟨dm2,hm2⟩:=M2.ob
   have nm:f.m≠e.m:=λz=>c (by
    have h1:=(Q3.mp ej).1
    have h2:=(Q3.mp he).1
    have e1:(x.pa.map (·.m))[j]?=some f.m:=by rw[Qc,ej];rfl
    have e2:(x.pa.map (·.m))[i]?=some e.m:=by rw[Qc,he];rfl
    rw[←z]at e2
    exact xa A.md e2 e1)
   exact M2.keep ((kp _ _ nm hm2).trans hm2.symm) ((n0 M2.li (λ_ _ _ z=>by cases z)).trans M2.li.symm) tp
 ·rcases Z7 hf with hf|hf
  ·exact A.wl f hf
  ·rw[hf]
   exact λz=>nl (.inr (.inl z))
 ·show((x.pa.set i {e with l:=l',es:=es'}).map (·.k)).Nodup
  rw[js (y:={e with l:=l',es:=es'}) he rfl]
  exact A.kd
 ·show((x.pa.set i {e with l:=l',es:=es'}).map (·.m)).Nodup
  rw[js (y:={e with l:=l',es:=es'}) he rfl]
  exact A.md
 ·show((x.pa.set i {e with l:=l',es:=es'}).map (·.l)).Nodup
  rw[X9]
  refine vo A.ld λz=>?_
  obtain⟨g,hg,eg⟩:=Qf.mp z
  exact nl (.inr (.inr (.inr (.inr ⟨g,hg,.inr eg.symm⟩))))
structure SwO (fl:Int) (i:Nat) (pa pa':List Pk):Prop where
 ln:pa'.length=pa.length
 lo:∀(j:Nat) (e e':Pk),pa[j]?=some e→pa'[j]?=some e'→e'.k=e.k∧e'.m=e.m∧(j<i→e'.es=swE fl e.es)∧(i≤j→e'=e)
def thr (fl:Int) (pa:List Pk):Int:=(pa.map λe=>(e.es.length:Int)-((swE fl e.es).length:Int)).sum
theorem SwO.mkOf:∀{pa pa':List Pk} {fl k:Int},SwO fl pa.length pa pa'→mkOf pa' k=swE fl (mkOf pa k)
 | [],[],_,_,_=>rfl
 | [],_::_,_,_,S=>by have:=S.ln;cases this
 |_::_,[],_,_,S=>by have:=S.ln;cases this
 |e::r,e'::r',fl,k,S=>by
  obtain⟨h1,_,h3,_⟩:=S.lo 0 e e' rfl rfl
  show(if e'.k=k then e'.es else SW.mkOf r' k)=swE fl (if e.k=k then e.es else SW.mkOf r k)
  rw[h1,h3 (by rw[Q9];omega)]
  have S':SwO fl r.length r r':=⟨by have:=S.ln;rw[Q9,Q9]at this;omega,λj f f' ef ef'=>by
   obtain⟨g1,g2,g3,g4⟩:=S.lo (j+1) f f' (by rw[QY];exact ef) (by rw[QY];exact ef')
   rw[Q9]at g3 g4
   exact⟨g1,g2,λz=>g3 (by omega),λz=>g4 (by omega)⟩⟩
  split
  ·rfl
  ·exact S'.mkOf
theorem wD {fl:Int} {pa:List Pk} {i:Nat} {e:Pk} (h:pa[i]?=some e):thr fl (pa.take (i+1))=thr fl (pa.take i)+((e.es.length:Int)-((swE fl e.es).length:Int)):=by
 unfold thr
 rw[Qz,h,Qi,List.sum_append]
 show _+(((e.es.length:Int)-((swE fl e.es).length:Int))+0)=_
 omega
def lR (K:PySem.W.Frag) (t:Adr):Sp:=λvs H Q _=>∃(a:Addr) (F:Addr→Prop) (x:HSt),vs=[.ref a]∧HoA K t H a F x∧x.ho.length<64∧x.now<40000∧
 ∀(H':Hp) (F':Addr→Prop) (fl:Int) (pa':List Pk),(x.ho=[]→fl=x.now)→(x.ho≠[]→fl∈x.ho.map (·.1))→(∀p∈x.ho,fl≤p.1)→SwO fl x.pa.length x.pa pa'→HoA K t H' a F' {x with fl:=fl,pa:=pa'}→Fr F F' H H'→Q (.int (thr fl x.pa)) H'
theorem lZ (T:Txt K mg t):aX P w K mg base CX0 2 t.iC t.eG ["self"] (lR K t):=by
 have G_House__held:= @hZ P w K mg base t T
 have G_Makes__sweep:= @lY P w K mg base t T
 refine T.xX.ok sc_House__sweep (λvs H Q E h=>?_) (λcdv A outer s H vs Q E hr h=>?_)
 ·obtain⟨a,F,x,rfl,_⟩:=h
  rfl
 ·obtain⟨a,F,x,rfl,A,l1,l2,q⟩:=h
  refine⟨_,(ae (bB (pv 0) (y6 K rfl rfl (by rfl) T.Br (b8 (pv 0) T.al T.fB G_House__held (hr.mono (by decide)) T.fR .nil aB) (ar (pv 0) rfl)) rfl)
   (ae (aM (i:=1) sc_House__sweep.nd rfl (Or.inl rfl) ak)
   (ae (me (hJ PassesOwn.never rfl (yY (qr Qw PySem.F.slot_dict_values PySem.F.type_dict_values vq (ar (pv 0) rfl))) (dh (i:=2) sc_House__sweep.nd rfl (Or.inl rfl))
   (ah (wS (i:=1) sc_House__sweep.nd rfl (Or.inl rfl) (aK (pv 2) T.cW T.xg G_Makes__sweep (hr.mono (by decide)) T.xO .nil aB (aa (ar (pv 0) rfl) ag)) xp))))
   (ah (aL (pv 1))))))
   ,?_⟩
  have A0:=A
  obtain⟨s,l,wr,p,h,Fs,Fl,B,O,g⟩:=A
  obtain⟨dx,ho⟩:=B.o.ob
  (try dsimp only)
  refine l9 (λσ H1=>∃fl:Int,σ=[some (.ref a),none,none]∧(x.ho=[]→fl=x.now)∧(x.ho≠[]→fl∈x.ho.map (·.1))∧(∀p∈x.ho,fl≤p.1)∧HoO t H1 a s l wr p h {x with fl:=fl}∧∀b o,¬Ow a wr p h x.pa b→H b=some o→H1 b=some o) (λnx go=>?_) (λσ H1 w=>?_)
  ·refine⟨_,rfl,a,dx,_,rfl,ho,r9 (by decide+kernel),a,F,x,rfl,A0,l1,λH1 lm ms s1 nl el pm pw=>?_⟩
   have A1:=B.o.same s1
   obtain⟨dx1,ho1⟩:=A1.ob
   have fin:∀fl:Int,(x.ho=[]→fl=x.now)→(x.ho≠[]→fl∈x.ho.map (·.1))→(∀p∈x.ho,fl≤p.1)→nx [some (.ref a),none,none] (upd H1 a (.ins t.av dx1 (aV ("floor":Str) (.int fl) (hoF x.now x.fl s l wr x.ma p h)))):=λfl c1 c2 c3=>by
    rw[AD]
    exact go _ _ ⟨fl,rfl,c1,c2,c3,A1.set (now:=x.now) (mk:=x.ma) (fl:=fl) (dx:=dx1),λb o n e=>by rw[ac λz=>n (.inl z)];exact s1 _ _ e⟩
   refine⟨_,rfl,a,_,dx1,_,_,rfl,ho1,T.al,T.bi,eR,lm,ms,rfl,SqL.of el,λe0=>?_,λM hM hle=>?_⟩
   ·have hn:x.ho=[]:=by
     have:=pm.length_eq
     rw[e0,Q2]at this
     exact Zo.mp this.symm
    exact⟨_,rfl,a,_,dx1,_,rfl,ho1,T.al,T.bE,qK,fin x.now (λ_=>rfl) (λz=>absurd hn z) (λp hp=>by rw[hn]at hp;cases hp)⟩
   ·exact⟨_,rfl,a,_,dx1,_,rfl,ho1,T.al,T.bE,qK,fin M (λz=>by rw[z]at pm;rw[pm.eq_nil]at hM;cases hM) (λ_=>pm.mem_iff.mp hM) (λp hp=>hle _ (pm.mem_iff.mpr (Qf.mpr ⟨p,hp,rfl⟩)))⟩
  obtain⟨fl,rfl,c1,c2,c3,A1,k1⟩:=w
  obtain⟨dx1,ho1⟩:=A1.ob
  refine⟨p,_,A1.pa,_,rfl,a,_,dx1,_,_,rfl,ho1,T.al,T.cb,qJ,.inr (.inr (.inl ⟨rfl,.inl ⟨_,A1.pa⟩⟩)),p,_,rfl,rfl,A1.pa,λvw nv=>⟨vw,p,_,rfl,af,am nv _ _ A1.pa,λob=>?_⟩⟩
  have A2:=A1.same (am (o:=vwV vw p) nv)
  have k2:∀b o,¬Ow a wr p h x.pa b→H b=some o→upd H1 vw (vwV vw p) b=some o:=λb o n e=>am nv _ _ (k1 b o n e)
  generalize upd H1 vw (vwV vw p)=H2 at A2 k2⊢
  refine xE (ob:=ob) (d:=p) (kvs:=ay (paD x.pa)) (λi σ H'=>∃(v2:Option V) (pa':List Pk),σ=[some (.ref a),some (.int (thr fl (x.pa.take i))),v2]∧H' p=some (.frz ob (.dK (ay (paD x.pa))))∧HoO t (upd H' p (.dK (ay (paD x.pa)))) a s l wr p h {x with fl:=fl,pa:=pa'}∧SwO fl i x.pa pa'∧∀b o,¬Ow a wr p h x.pa b→H b=some o→H' b=some o∧¬Ow a wr p h pa' b)
   ⟨_,x.pa,rfl,af,?_,⟨rfl,λj e e' h1 h2=>?_⟩,λb o n e=>⟨?_,n⟩⟩ (λi σ H' _ w=>by obtain⟨_,_,_,e,_⟩:=w;exact e) (λi k v σ H' hk w=>?_) (λσ H' w=>?_)
  ·rw[cf,mt A2.pa]
   exact A2
  ·rw[h1]at h2
   cases h2
   exact⟨rfl,rfl,(λz=>by omega),λ_=>rfl⟩
  ·rw[ac λz=>n (.inr (.inr (.inl z)))]
   exact k2 b o n e
  ·obtain⟨v2,pa',rfl,hp,A3,S,k3⟩:=w
   obtain⟨e,ee,rfl⟩:∃e:Pk,x.pa[i]?=some e∧v= .ref e.m:=by
    unfold ay paD at hk
    rw[Qc,Qc]at hk
    cases e1:x.pa[i]? with
    |none=>rw[e1]at hk;cases hk
    |some e'=>rw[e1]at hk;cases hk;exact⟨e',rfl,rfl⟩
   have hi:=(Q3.mp ee).1
   have ee':pa'[i]?=some e:=by
    obtain⟨y,ey⟩:∃y,pa'[i]?=some y:=⟨_,Q4 (by have:=S.ln;omega)⟩
    rw[ey,((S.lo i e y ee ey).2.2.2 (Q5 _))]
   have M3:=A3.mx e (Q0 ee')
   obtain⟨dm,hm⟩:=M3.ob
   have np:∀{b:Addr} {o:HO},upd H' p (.dK (ay (paD x.pa))) b=some o→(∀kvs,o≠ .dK kvs)→H' b=some o∧b≠p:=λ{b o} e n=>by
    by_cases c:b=p
    ·rw[c,af]at e
     exact absurd (Option.some.inj e).symm (n _)
    ·rw[ac c]at e
     exact⟨e,c⟩
   have M4:MkA t H' e.m e.l e.es:=⟨⟨dm,(np hm (λ_ z=>by cases z)).1⟩,(np M3.li (λ_ z=>by cases z)).1,λy hy=>(np (M3.tu y hy) (λ_ z=>by cases z)).1⟩
   obtain⟨dx3,ho3⟩:=A3.ob
   have le:e.es.length<50000:=by
    have h1:=O.el e.k
    have h2:mkOf x.pa e.k=e.es:=by
     rcases mh x.pa e.k with⟨_,z⟩|⟨e',he',ek',_,em⟩
     ·exact absurd (Qf.mpr ⟨e,Q0 ee,rfl⟩) z
     ·rw[em,tF B.o.kd he' (Q0 ee) ek']
    rw[h2]at h1
    omega
   refine⟨_,rfl,_,rfl,e.m,dm,_,rfl,(np hm (λ_ z=>by cases z)).1,a9 (by decide+kernel),_,rfl,a,_,dx3,_,_,rfl,(np ho3 (λ_ z=>by cases z)).1,T.al,T.bE,xw,e.m,e.l,e.es,fl,rfl,M4,le,λH5 l5 M5 n5 k5=>⟨_,_,rfl,rfl,?_⟩⟩
   have pm:p≠e.m:=(np hm (λ_ z=>by cases z)).2.symm
   have hp5:=k5 _ _ pm hp
   have np5:∀{b:Addr} {o:HO} {u:HO},H5 b=some o→(∀ob kv,o≠ .frz ob kv)→upd H5 p u b=some o:=λ{b o u} e n=>by
    rw[ac λz=>by rw[z,hp5]at e;exact n _ _ (Option.some.inj e).symm]
    exact e
   have l5p:l5≠p:=λz=>by rw[z,hp]at n5;cases n5
   have nl:¬Ow a wr p h pa' l5:=λz=>by
    obtain⟨o,eo,_⟩:=A3.dom z
    rw[ac l5p,n5]at eo
    cases eo
   have kp:∀b o,b≠e.m→upd H' p (.dK (ay (paD x.pa))) b=some o→upd H5 p (.dK (ay (paD x.pa))) b=some o:=λb o n eb=>by
    by_cases c:b=p
    ·rw[c,af]at eb⊢
     exact eb
    ·rw[ac c]at eb⊢
     exact k5 b o n eb
   have A6:=A3.swept (es':=swE fl e.es) ee' ⟨M5.ob.imp λ_ z=>np5 z (λ_ _ z=>by cases z),np5 M5.li (λ_ _ z=>by cases z),λy hy=>np5 (M5.tu y hy) (λ_ _ z=>by cases z)⟩ nl kp
   refine⟨some (.ref e.m),pa'.set i {e with l:=l5,es:=swE fl e.es},?_,hp5,A6,⟨by rw[Qt];exact S.ln,λj f f' ef ef'=>?_⟩,λb o n eb=>⟨?_,λz=>?_⟩⟩
   ·rw[wD ee]
    rfl
   ·rw[Qm]at ef'
    split at ef'
    ·rename_i cij
     subst cij
     split at ef'
     ·cases ef'
      rw[ee]at ef
      cases ef
      exact⟨rfl,rfl,λ_=>rfl,λz=>by omega⟩
     ·cases ef'
    ·rename_i cij
     obtain⟨g1,g2,g3,g4⟩:=S.lo j f f' ef ef'
     exact⟨g1,g2,λz=>g3 (by omega),λz=>g4 (by omega)⟩
   ·refine k5 b o (λz=>n ?_) (k3 b o n eb).1
    exact .inr (.inr (.inr (.inr ⟨e,Q0 ee,.inl z⟩)))
   ·rcases z with z|z|z|z|⟨f,hf,z⟩
    ·exact n (.inl z)
    ·exact n (.inr (.inl z))
    ·exact n (.inr (.inr (.inl z)))
    ·exact n (.inr (.inr (.inr (.inl z))))
    ·rcases Z7 hf with hf|hf
     ·exact(k3 b o n eb).2 (.inr (.inr (.inr (.inr ⟨f,hf,z⟩))))
     ·rw[hf]at z
      rcases z with z|z
      ·exact n (.inr (.inr (.inr (.inr ⟨e,Q0 ee,.inl z⟩))))
      ·have:=(k3 b o n eb).1
       rw[z,n5]at this
       cases this
  ·obtain⟨v2,pa',rfl,hp,A3,S,k3⟩:=w
   have ll:(ay (paD x.pa)).length=x.pa.length:=by rw[bp];unfold paD;exact Q2 _
   rw[ll]at S
   rw[ll,QH]
   refine⟨ob,hp,_,rfl,?_⟩
   obtain⟨B3,g3⟩:=B.own A3 rfl rfl λb o n eb=>⟨by rw[ac λz=>n (.inr (.inr (.inl z)))];exact(k3 b o n eb).1,(k3 b o n eb).2⟩
   refine q _ (HoF a wr p h Fs Fl pa') fl pa' c1 c2 c3 S ⟨s,l,wr,p,h,Fs,Fl,B3,⟨O.ks,O.n0,O.m0,O.dl,?_,λj=>?_,O.sl,O.hn,λy hy=>⟨c3 y hy,(O.hv y hy).2⟩,?_,λj=>?_⟩,λ_=>Iff.rfl⟩ λb o n eb=>g3 b o (λz=>n ((g b).mpr z)) eb
   ·show(pa'.length:Int)≤x.now
    rw[S.ln]
    exact O.pl
   ·show((mkOf pa' j).length:Int)≤x.now
    rw[S.mkOf]
    have h1:=O.el j
    have h2:=yH (fl:=fl) (es:=mkOf x.pa j)
    omega
   ·show 0≤fl∧fl≤x.now
    have n0:=O.n0
    have fb:=O.fb
    cases eh:x.ho with
    |nil=>rw[c1 eh];omega
    |cons y r=>
     have hm:=c2 (by rw[eh];exact List.cons_ne_nil _ _)
     obtain⟨z,hz,ez⟩:=Qf.mp hm
     have:=O.hv z hz
     omega
   ·show(mkOf pa' j).Pairwise _∧∀y∈mkOf pa' j,y.mo≤x.now
    rw[S.mkOf]
    exact⟨Ax (O.up j).1,λy hy=>(O.up j).2 y (t6 hy)⟩
def lO (K:PySem.W.Frag):Sp:=sT K
theorem lX (T:Txt K mg t):aX P w K mg base CX0 1 t.eI t.eD ["self","moment"] (lO K):=by
 refine T.xU.ok lT (λvs H Q E h=>?_) (λcdv A outer s H vs Q E hr h=>?_)
 ·obtain⟨e,C,bm,x,rfl,_⟩:=h
  rfl
 ·obtain⟨e,C,bm,x,rfl,he,Y,na,k⟩:=h
  refine⟨_,(ae (aE (uf (by rfl) T.j4 T.j0 (aa (pv 0) (aa dY ag))))
   (ah (ua (pv 0) (pv 1) rfl)))
   ,?_⟩
  exact⟨_,rfl,e,C,none,_,bm,rfl,(by show 1≤1000;decide),he,Y,_,rfl,_,rfl,e,C,bm,rfl,he,Y,na,λdx nd=>k dx nd⟩
def VtR (t:Adr) (H:Hp) (a:Addr) (pa:List Pk):Prop:=∃(dx p:Addr) (fs:List (Str×V)),H a=some (.ins t.av dx fs)∧fs.lookup ("past":Str)=some (.ref p)∧(∀m,NoH m→fs.lookup m=none)∧Rd H p (.dK (ay (paD pa)))∧∀e∈pa,MkA t H e.m e.l e.es
theorem HoA.vt {H:Hp} {a:Addr} {F:Addr→Prop} {x:HSt} (A:HoA K t H a F x):VtR t H a x.pa:=by
 obtain⟨s,l,wr,p,h,Fs,Fl,B,O,g⟩:=A
 obtain⟨dx,ho⟩:=B.o.ob
 exact⟨dx,p,_,ho,qJ,λm hm=>r9 hm,.inl B.o.pa,B.o.mx⟩
def gX (t:Adr):Sp:=λvs H Q _=>∃(a:Addr) (k mo:Int) (pa:List Pk),vs=[.ref a,.int k,.int mo]∧VtR t H a pa∧Q (a8 (mkOf pa k) mo) H
theorem du (T:Txt K mg t):aX P w K mg base CX0 2 t.dI t.b7 ["self","key","moment"] (gX t):=by
 have G_Makes__value_at:= @jm P w K mg base t T
 refine T.sK.ok gY (λvs H Q E h=>?_) (λcdv A outer s H vs Q E hr h=>?_)
 ·obtain⟨a,k,mo,pa,rfl,_⟩:=h
  rfl
 ·obtain⟨a,k,mo,pa,rfl,⟨dx,p,fs,ho,fp,_,rp,mx⟩,q⟩:=h
  refine⟨_,(ah (aL (wW (qp (wY (eQ hr) (pv 1) (ar (pv 0) rfl))) (aK (qq (eQ hr) (ar (pv 0) rfl) (pv 1) (λ_ _=>rfl)) T.cW T.uo G_Makes__value_at (hr.mono (by decide)) T.uK .nil aB (aa (pv 2) ag)) fz)))
   ,?_⟩
  have dg:DGet H p (.int k) (aF (ay (paD pa)) (Sum.inl k)):= .inl ⟨_,Sum.inl k,rp,rfl,rfl⟩
  refine⟨_,rfl,_,rfl,a,_,dx,_,_,rfl,ho,T.al,T.cb,fp,p,_,rfl,dg,_,rfl,?_⟩
  rw[liftK_val]at dg⊢
  rcases mh pa k with⟨ev,n⟩|⟨e,he,ek,ev,em⟩
  ·rw[iI n]at q
   rw[ev]
   exact c7 q
  ·rw[em]at q
   rw[ev]at dg⊢
   have M:=mx e he
   obtain⟨dm,hm⟩:=M.ob
   exact cQ ⟨_,rfl,a,_,dx,_,_,rfl,ho,T.al,T.cb,fp,_,rfl,p,_,rfl,dg,e.m,dm,_,rfl,hm,a9 (by decide+kernel),_,rfl,e.m,e.l,e.es,mo,rfl,M,q⟩
def eZ (K:PySem.W.Frag) (t:Adr):Sp:=λvs H Q E=>∃(a:Addr) (mo:Int) (F:Addr→Prop) (x:HSt),vs=[.ref a,.int mo]∧HoA K t H a F x∧(x.fl≤mo→mo≤x.now→Q .non H)∧(mo<x.fl→RsH K t a F x H t.bq [("moment",.int mo)] E)∧(x.fl≤mo→x.now<mo→RsH K t a F x H t.aY [("moment",.int mo)] E)
theorem b9 (T:Txt K mg t):aX P w K mg base (CX1 P w) 3 t.cz t.bF ["self","moment"] (eZ K t):=by
 have G_NoMoment__init:= @eP P w K mg base t T
 have G_TooOld__init:= @lX P w K mg base t T
 refine T.qb.okX e8 (λvs H Q E h=>?_) (λcdv A outer s H vs Q E hr h=>?_)
 ·obtain⟨a,mo,F,x,rfl,_⟩:=h
  rfl
 ·obtain⟨a,mo,F,x,rfl,A,q,q1,q2⟩:=h
  refine⟨_,(ae (aZ (aC dq (pv 1) (ar (pv 0) rfl) (aD _))
   (ah (mX rfl qd (m4 T.bh T.AX T.AY G_TooOld__init (hr.mono (by decide)) (by rfl) T.pD T.xN .nil aB (aa (pv 1) ag))))
   aJ)
   (ah (aZ (aC m6 (pv 1) (ar (pv 0) rfl) (aD _))
   (ah (mX rfl qd (m4 T.aP T.qH T.qI G_NoMoment__init (hr.mono (by decide)) (by rfl) T.ig T.lr .nil aB (aa (pv 1) ag))))
   aJ)))
   ,?_⟩
  obtain⟨dx,fs,hi,hm,hn,hf⟩:=A.ins
  refine⟨_,rfl,_,rfl,a,_,dx,fs,_,rfl,hi,T.al,T.bE,hf,_,_,rfl,rfl,_,rfl,?_⟩
  by_cases c:mo<x.fl
  ·refine fZ c ?_
   exact kH T.bh T.kO (λea od H' ex s'=>q1 c ea od H' F ex (A.same s') (Fr.of_same s')) rfl
  ·refine bP c ?_
   refine⟨_,rfl,_,rfl,a,_,dx,fs,_,rfl,hi,T.al,T.bi,hn,_,_,rfl,rfl,_,rfl,?_⟩
   by_cases d:x.now<mo
   ·refine fZ d ?_
    exact kH T.aP T.d7 (λea od H' ex s'=>q2 (by omega) d ea od H' F ex (A.same s') (Fr.of_same s')) rfl
   ·exact bP d (q (by omega) (by omega))
def oE (K:PySem.W.Frag) (t:Adr):Sp:=λvs H Q E=>∃(a:Addr) (k mo:Int) (F:Addr→Prop) (x:HSt),vs=[.ref a,.int k,.int mo]∧HoA K t H a F x∧(x.fl≤mo→mo≤x.now→Q (a8 (mkOf x.pa k) mo) H)∧(mo<x.fl→RsH K t a F x H t.bq [("moment",.int mo)] E)∧(x.fl≤mo→x.now<mo→RsH K t a F x H t.aY [("moment",.int mo)] E)
theorem iR (T:Txt K mg t):aX P w K mg base (CX1 P w) 4 t.kr t.gL ["self","key","moment"] (oE K t):=by
 have G_House__refuse_outside:= @b9 P w K mg base t T
 have G_House__value_then:= @du P w K mg base t T
 refine T.zK.okX oJ (λvs H Q E h=>?_) (λcdv A outer s H vs Q E hr h=>?_)
 ·obtain⟨a,k,mo,F,x,rfl,_⟩:=h
  rfl
 ·obtain⟨a,k,mo,F,x,rfl,A,q,q1,q2⟩:=h
  refine⟨_,(ae (aE (aK (pv 0) T.al T.fY G_House__refuse_outside (hr.mono (by decide)) T.gb .nil z8 (aa (pv 2) ag)))
   (ah (aL (aK (pv 0) T.al T.dF G_House__value_then (hr.mono (by decide)) T.dG .nil aB (aa (pv 1) (aa (pv 2) ag))))))
   ,?_⟩
  obtain⟨dx,fs,hi,hm,_⟩:=A.ins
  refine⟨_,rfl,a,dx,fs,rfl,hi,hm _ (by decide+kernel),_,rfl,a,mo,F,x,rfl,A,λg1 g2=>?_,q1,q2⟩
  exact⟨_,rfl,a,dx,fs,rfl,hi,hm _ (by decide+kernel),_,rfl,_,rfl,a,k,mo,x.pa,rfl,A.vt,q g1 g2⟩
structure Tp where
 p:Addr
 k:Int
 v:V
def Tp.kv (e:Tp):Int×V:=(e.k,e.v)
theorem xR {ks:List Int} {n:Nat} (k0:∀k∈ks,0≤k) (l:ks.length≤n):(ks.filter λz=>decide ((0:Int)≤z)).take n=ks:=by
 rw[List.filter_eq_self.mpr λz hz=>decide_eq_true (k0 z hz),QQ l]
def qe (K:PySem.W.Frag) (t:Adr):Sp:=λvs H Q _=>∃(l p:Addr) (F:Addr→Prop) (ks:List Int),vs=[.ref l,.ref p,.int 101]∧LvA K t H l F ks∧TkU t H p∧ks.length≤64∧(∀k∈ks,0≤k)∧
 ∀(H':Hp) (r:Addr),Same H H'→H r=none→H' r=some (.lst (ks.map V.int))→Q (.ref r) H'
theorem qu (T:Txt K mg t):aX P w K mg base CX0 3 t.lI t.io ["leaves","token","most"] (qe K t):=by
 have G_Leaves__from_on:= @jn P w K mg base t T
 refine T.sC.ok qk (λvs H Q E h=>?_) (λcdv A outer s H vs Q E hr h=>?_)
 ·obtain⟨l,p,F,ks,rfl,_⟩:=h
  rfl
 ·obtain⟨l,p,F,ks,rfl,L,⟨dx,fs,hp,fa,fe,_⟩,l1,k0,q⟩:=h
  refine⟨_,(ae (aZ (b4 (au (qR K rfl) (by rfl) T.bc a6 (aa (pv 1) (aa (cm (v:= .ref t.gU) (by rfl) T.BU rfl) ag))))
   (ah (aL (aK (pv 0) T.aA T.uq G_Leaves__from_on (hr.mono (by decide)) T.uL .nil aB (aa (ar (pv 1) rfl) (aa (pv 2) ag)))))
   aJ)
   (ah gy))
   ,?_⟩
  obtain⟨dl,fl,hl,hm⟩:=L.ins
  exact⟨_,rfl,_,_,_,_,rfl,TyOf.ins hp T.su T.wt.1 T.wt.2 T.wt.3 T.wt.4,T.B0,_,rfl,cQ ⟨_,rfl,l,dl,fl,rfl,hl,hm _ (by decide+kernel),_,rfl,p,_,dx,fs,_,rfl,hp,T.su,T.rN,fa,_,rfl,l,0,101,F,ks,rfl,L,by omega,by decide,λH' r s nr hr=>q H' r s nr (by rw[xR k0 (by show ks.length≤101;omega)]at hr;exact hr)⟩⟩
theorem uB {xs:List Int} {i:Nat} {x:V} (h:(xs.map V.int)[i]?=some x):∃k:Int,x= .int k∧xs[i]?=some k:=by
 rw[Qc]at h
 cases e:xs[i]? with
 |none=>rw[e]at h;cases h
 |some k=>rw[e]at h;cases h;exact⟨k,rfl,rfl⟩
theorem TkU.same {t:Adr} {H H':Hp} {p:Addr} (h:TkU t H p) (s:Same H H'):TkU t H' p:=by
 obtain⟨dx,fs,hp,r⟩:=h
 exact⟨dx,fs,s _ _ hp,r⟩
def lM (K:PySem.W.Frag) (t:Adr):Sp:=λvs H Q _=>∃(l p:Addr) (F:Addr→Prop) (ks:List Int),vs=[.ref l,.ref p,.int 100]∧LvA K t H l F ks∧TkU t H p∧ks.length≤64∧(∀k∈ks,0≤k)∧
 ∀(H':Hp) (r g:Addr),Same H H'→H r=none→H' r=some (.tup [.ref g,.non])→H' g=some (.lst (ks.map V.int))→Q (.ref r) H'
theorem lV (T:Txt K mg t):aX P w K mg base CX0 4 t.iy t.d9 ["leaves","token","many"] (lM K t):=by
 have G_Up__holds:= @qw P w K mg base t T
 have G_keys_near:= @qu P w K mg base t T
 refine T.ox.ok sc_keys_of_page (λvs H Q E h=>?_) (λcdv A outer s H vs Q E hr h=>?_)
 ·obtain⟨l,p,F,ks,rfl,_⟩:=h
  rfl
 ·obtain⟨l,p,F,ks,rfl,L,TK,l1,k0,q⟩:=h
  refine⟨_,(ae (aM (i:=3) sc_keys_of_page.nd rfl (Or.inl rfl) (au (vX rfl) (by rfl) T.Ck Bg (aa (pv 2) (aa ak ag))))
   (ae (mY (i:=4) rfl (CScope.of (M:=["key"]) (N:=["leaves","token","many","most","held","page"]) (N':=["leaves","token","many","most","held","page"]) (dsc:=ai cG) rfl rfl (by decide+kernel)) (eO (aQ G_keys_near (hr.mono (by decide)) (by rfl) T.Ac T.sC.kp T.Ah .nil aB (aa (pv 0) (aa (pv 1) (aa (aH bH (pv 3) ak) ag))))) (λ_ _ _ _ _=>(b4 (aK (pv 2) T.su T.Ab G_Up__holds (hr.mono (by decide)) T.Aj .nil aB (aa (pv 0) ag)))) (λ_ _ _ _ _=>(pv 0)) sc_keys_of_page.nd rfl rfl)
   (ae (aM (i:=5) sc_keys_of_page.nd rfl (Or.inl rfl) (hU jM (pv 4) jV (jU (pv 3))))
   (ae (aZ (aC dt (au aq (by rfl) T.br a7 (aa (pv 4) ag)) (au aq (by rfl) T.br a7 (aa (pv 5) ag)) (aD _))
   (ah (aL (jk (aa (pv 5) (aa fz ag)))))
   aJ)
   (ae gy
   (ah gy))))))
   ,?_⟩
  refine⟨_,rfl,100,0,rfl,_,rfl,_,rfl,_,rfl,_,_,rfl,rfl,l,p,F,ks,rfl,L,TK,l1,k0,λH1 g1 s1 ng1 h1=>?_⟩
  refine⟨g1,rfl,⟨_,SqL.of h1⟩,λD hD=>?_⟩
  refine gN (K:=K) (a:=g1) (xs:=ks.map V.int) (λi ys H2=>H2=upd H1 D (.lst ys)∧ys=(ks.take i).map V.int) ⟨rfl,rfl⟩ (λi ys H2 _ w=>SqL.of (by rw[w.1,ac (aj h1 hD)];exact h1)) (λi x ys H2 hx w hDD=>?_) (λys H2 w hDD=>?_)
  ·obtain⟨s2,ey⟩:=w
   have hi:i<(ks.map V.int).length:=(Q3.mp hx).1
   obtain⟨g,rfl,eg⟩:=uB hx
   have T2:TkU t H2 p:=by rw[s2];exact TK.same (s1.trans (am hD))
   obtain⟨dx,fs,hp,fa,fe,fh⟩:=id T2
   refine⟨_,rfl,p,dx,fs,rfl,hp,fh,_,rfl,p,g,rfl,T2,k0 g (Q0 eg),_,rfl,cQ ⟨_,rfl,CNext.mk hi hDD (be (by rw[ey,Q2,Qj];omega)) ⟨by rw[s2,cf],by rw[ey,Qz,eg,Qi];rfl⟩⟩⟩
  ·obtain⟨s2,ey⟩:=w
   rw[Q2,QH]at ey
   have S2:Same H H2:=by rw[s2];exact s1.trans (am hD)
   rw[ey]at hDD
   refine⟨_,rfl,_,rfl,100,rfl,D,_,rfl,SqL.of hDD,λl2 nl2=>?_⟩
   rw[nZ (by decide),QQ (by rw[Q2];show ks.length≤100;omega)]
   have s3:Same H2 (upd H2 l2 (.lst (ks.map V.int))):=am nl2
   have h3:upd H2 l2 (.lst (ks.map V.int)) l2=some (.lst (ks.map V.int)):=af
   (try dsimp only)
   generalize upd H2 l2 (.lst (ks.map V.int))=H3 at s3 h3⊢
   refine⟨_,rfl,D,_,rfl,.inl (SqL.of (s3 _ _ hDD)),_,rfl,l2,_,rfl,.inl (SqL.of h3),rfl,_,rfl,oU rfl ⟨_,rfl,(by show 2≤sizeLine;decide),λr nr=>?_⟩⟩
   have s4:=s3.trans (am (o:= .tup [.ref l2,.non]) nr)
   exact q _ r l2 (S2.trans s4) (qN (S2.trans s3) nr) af ((am nr) _ _ h3)
theorem zm {kvs:List (Int×V)} {i:Nat} {k:Key} {v:V} (h:(ay kvs)[i]?=some (k,v)):∃g:Int,k=Sum.inl g∧(kvs.map (·.1))[i]?=some g:=by
 unfold ay at h
 rw[Qc]at h
 rw[Qc]
 cases e:kvs[i]? with
 |none=>rw[e]at h;cases h
 |some p=>rw[e]at h;cases h;exact⟨p.1,rfl,rfl⟩
theorem MkA.kept {t:Adr} {H H':Hp} {m l:Addr} {es:List Mk1} {q:Addr} {kvs:List (Key×V)} (M:MkA t H m l es) (hq:H q=some (.dK kvs)) (kp:∀b o,b≠q→H b=some o→H' b=some o):MkA t H' m l es:=by
 have ne:∀{b:Addr} {o:HO},H b=some o→(∀x,o≠ .dK x)→b≠q:=λe n z=>by rw[z,hq]at e;exact n _ (Option.some.inj e).symm
 obtain⟨dx,ho⟩:=M.ob
 exact⟨⟨dx,kp _ _ (ne ho λ_ z=>by cases z) ho⟩,kp _ _ (ne M.li λ_ z=>by cases z) M.li,λe he=>kp _ _ (ne (M.tu e he) λ_ z=>by cases z) (M.tu e he)⟩
def jL (K:PySem.W.Frag) (t:Adr):Sp:=λvs H Q _=>∃(a p:Addr) (mo:Int) (F:Addr→Prop) (x:HSt),vs=[.ref a,.int mo,.ref p,.int 100]∧HoA K t H a F x∧TkU t H p∧x.fl≤mo∧mo≤x.now∧x.pa.length≤60∧(x.pa.map (·.k)).Nodup∧(∀e∈x.pa,0≤e.k)∧
 ∀(H':Hp) (r g:Addr) (ts:List Tp),Same H H'→H' r=some (.tup [.ref g,.non])→H' g=some (.lst (ts.map λe=>V.ref e.p))→(∀e∈ts,H' e.p=some (.tup [.int e.k,e.v])∧e.v=a8 (mkOf x.pa e.k) mo)→cv (ts.map (·.k))→(∀z,z∈ts.map (·.k)↔z∈x.pa.map (·.k)∧a8 (mkOf x.pa z) mo≠ .non)→Q (.ref r) H'
theorem jZ (T:Txt K mg t):aX P w K mg base (CX1 P w) 5 t.gd t.bX ["self","moment","token","many"] (jL K t):=by
 have G_House__refuse_outside:= @b9 P w K mg base t T
 have G_House__value_then:= @du P w K mg base t T
 have G_Leaves__add:= @hX P w K mg base t T
 have G_Leaves__init:= @gP P w K mg base t T
 have G_keys_of_page:= @lV P w K mg base t T
 refine T.wf.okX sc_House__page_at (λvs H Q E h=>?_) (λcdv A outer s H vs Q E hr h=>?_)
 ·obtain⟨a,p,mo,F,x,rfl,_⟩:=h
  rfl
 ·obtain⟨a,p,mo,F,x,rfl,A,TK,m1,m2,lp,nd,k0,q⟩:=h
  refine⟨_,(ae (aE (aK (pv 0) T.al T.fY G_House__refuse_outside (hr.mono (by decide)) T.gb .nil z8 (aa (pv 1) ag)))
   (ae (aM (i:=4) sc_House__page_at.nd rfl (Or.inl rfl) (fV T.vC G_Leaves__init (hr.mono (by decide)) (by rfl) T.vD T.oj .nil aB))
   (ae (me (hJ PassesOwn.leaving rfl (uc (ar (pv 0) rfl)) (dh (i:=5) sc_House__page_at.nd rfl (Or.inl rfl))
   (ah (aZ (aC ug (aK (pv 0) T.al T.dF G_House__value_then (hr.mono (by decide)) T.dG .nil aB (aa (pv 5) (aa (pv 1) ag))) fz (aD _))
   (ah (aE (aK (pv 4) T.aA T.oR G_Leaves__add (hr.mono (by decide)) T.oZ .nil aB (aa (pv 5) ag))))
   aJ))))
   (ae (aM (i:=6) sc_House__page_at.nd rfl (Or.inl rfl) (aQ G_keys_of_page (hr.mono (by decide)) (by rfl) T.xj T.ox.kp T.xM .nil aB (aa (pv 4) (aa (pv 2) (aa (pv 3) ag)))))
   (ah (aL (jk (aa (ue rfl (CScope.of (M:=["key"]) (N:=["self","moment","token","many","then","key","page"]) (N':=["self","moment","token","many","then","","page"]) (dsc:=ai bU) rfl rfl (by decide+kernel)) (eO (ba jv (pv 6) ak (λ_ _=>rfl))) (λ_ _ _ _ _=>(jk (aa (pv 0) (aa (aK (pv 1) T.al T.dF G_House__value_then (hr.mono (by decide)) T.dG .nil aB (aa (pv 0) (aa (pv 2) ag))) ag))))) (aa (ba jv (pv 6) ak (λ_ _=>rfl)) ag)))))))))
   ,?_⟩
  obtain⟨dx,fs,hi,hm,hn,hf⟩:=A.ins
  refine⟨_,rfl,a,dx,fs,rfl,hi,hm _ (by decide+kernel),_,rfl,a,mo,F,x,rfl,A,λ_ _=>?_,λz=>absurd z (by omega),λ_ z=>absurd z (by omega)⟩
  refine λl dl nl ndl nld=>⟨l,dl,rfl,af,?_,λH1 F1 L1 f1=>⟨rfl,?_⟩⟩
  ·rw[ac (by first|exact nld|exact Ne.symm nld),af]
  have o1:∀b o,H b=some o→H1 b=some o∧¬F1 b:=λb o e=>f1 b o (λz=>z.elim (λz=>by rw[z,nl]at e;cases e) λz=>by rw[z,ndl]at e;cases e) (by rw[ac (aj e nl),ac (aj e ndl)];exact e)
  obtain⟨pp,hp,fp,mx⟩:∃pp,H pp=some (.dK (ay (paD x.pa)))∧fs.lookup ("past":Str)=some (.ref pp)∧∀e∈x.pa,MkA t H e.m e.l e.es:=by
   obtain⟨s,l,wr,pp,h,Fs,Fl,B,O,g⟩:=A
   obtain⟨dy,ho⟩:=B.o.ob
   rw[hi]at ho
   cases ho
   exact⟨pp,B.o.pa,qJ,B.o.mx⟩
  have ap:a≠pp:=λz=>by rw[z,hp]at hi;cases hi
  have kk:(paD x.pa).map (·.1)=x.pa.map (·.k):=by unfold paD;rw[Qy];rfl
  have vt:∀{H':Hp} {ob:Obj},H' pp=some (.frz ob (.dK (ay (paD x.pa))))→(∀b o,b≠pp→H b=some o→H' b=some o)→VtR t H' a x.pa:=λh1 kp=>⟨dx,pp,fs,kp _ _ ap hi,fp,hm,.inr ⟨_,h1⟩,λe he=>(mx e he).kept hp kp⟩
  obtain⟨hp1,np1⟩:=o1 _ _ hp
  refine⟨pp,_,hp1,_,rfl,a,_,dx,fs,_,rfl,(o1 _ _ hi).1,T.al,T.cb,fp,pp,_,rfl,hp1,λob=>pL (ob:=ob) (d:=pp) (kvs:=ay (paD x.pa)) (λi σ H'=>∃(F':Addr→Prop) (ks:List Int) (v5:Option V),σ=[some (.ref a),some (.int mo),some (.ref p),some (.int 100),some (.ref l),v5,none]∧H' pp=some (.frz ob (.dK (ay (paD x.pa))))∧¬F' pp∧LvA K t H' l F' ks∧(∀b o,b≠pp→H b=some o→H' b=some o∧¬F' b)∧∀z,z∈ks↔z∈(x.pa.map (·.k)).take i∧a8 (mkOf x.pa z) mo≠ .non) ⟨F1,[],none,rfl,af,np1,L1.upd np1,λb o n e=>⟨by rw[ac n];exact(o1 b o e).1,(o1 b o e).2⟩,λz=>by rw[List.take_zero];exact⟨λh=>by(cases h),λh=>by(cases h.1)⟩⟩ (λi σ H' _ w=>by obtain⟨_,_,_,_,h,_⟩:=w;exact h) (λi k v σ H' hk w=>?_) (λσ H' w=>?_)⟩
  ·obtain⟨F',ks,v5,rfl,hp',np',L',o',iff'⟩:=w
   obtain⟨g,rfl,eg⟩:=zm hk
   rw[kk]at eg
   obtain⟨hi',_⟩:=o' _ _ ap hi
   have lk:ks.length≤60:=by
    have:=ie (L'.rise.imp λh=>Int.ne_of_lt h) (S:=x.pa.map (·.k)) λz hz=>Zk ((iff' z).mp hz).1
    rw[Q2]at this
    omega
   have tk:∀z,z∈(x.pa.map (·.k)).take (i+1)↔z∈(x.pa.map (·.k)).take i∨z=g:=λz=>by
    rw[Qz,eg,Qb]
    exact or_congr Iff.rfl Qg
   refine⟨_,rfl,a,dx,fs,rfl,hi',hm _ (by decide+kernel),_,rfl,_,rfl,a,g,mo,x.pa,rfl,vt hp' λb o n e=>(o' b o n e).1,rfl,_,rfl,?_⟩
   by_cases c:a8 (mkOf x.pa g) mo= .non
   ·rw[decide_eq_true c]
    refine c7 ⟨F',ks,_,rfl,hp',np',L',o',λz=>?_⟩
    rw[iff',tk]
    constructor
    ·rintro ⟨h1,h2⟩
     exact⟨.inl h1,h2⟩
    ·rintro ⟨h1|rfl,h2⟩
     ·exact⟨h1,h2⟩
     ·exact absurd c h2
   ·rw[decide_eq_false c]
    obtain⟨dl',fl',hl',hml⟩:=L'.ins
    have nin:g∉ks:=λz=>by
     have h1:=((iff' g).mp z).1
     obtain⟨j,hj,ej⟩:=QC h1
     rw[Qj]at hj
     rw[List.getElem_take]at ej
     obtain⟨gi,ge⟩:=Q3.mp eg
     have:=Z5.mp nd j i (by omega) gi (by omega)
     exact this (ej.trans ge.symm)
    refine cQ ⟨_,rfl,l,dl',fl',rfl,hl',hml _ (by decide+kernel),_,rfl,l,g,F',ks,rfl,L',by omega,λ_ H2 F2 ks2 L2 iff2 f2=>⟨F2,ks2,_,rfl,(f2 _ _ np' hp').1,(f2 _ _ np' hp').2,L2,λb o n e=>f2 b o (o' b o n e).2 (o' b o n e).1,λz=>?_⟩,λz=>absurd z nin⟩
    rw[iff2,iff',tk]
    constructor
    ·rintro (rfl|⟨h1,h2⟩)
     ·exact⟨.inr rfl,c⟩
     ·exact⟨.inl h1,h2⟩
    ·rintro ⟨h1|rfl,h2⟩
     ·exact .inr ⟨h1,h2⟩
     ·exact .inl rfl
  ·obtain⟨F',ks,v5,rfl,hp',np',L',o',iff'⟩:=w
   have ll:(ay (paD x.pa)).length=(x.pa.map (·.k)).length:=by rw[bp,←kk,Q2]
   rw[ll,QH]at iff'
   have lk:ks.length≤60:=by
    have:=ie (L'.rise.imp λh=>Int.ne_of_lt h) (S:=x.pa.map (·.k)) λz hz=>((iff' z).mp hz).1
    rw[Q2]at this
    omega
   have kz:∀k∈ks,0≤k:=λk hk=>by
    obtain⟨e,he,rfl⟩:=Qf.mp ((iff' k).mp hk).1
    exact k0 e he
   refine⟨ob,hp',?_⟩
   have sH:Same H (upd H' pp (.dK (ay (paD x.pa)))):=λb o e=>by
    by_cases c:b=pp
    ·rw[c,af,←hp,←c]
     exact e
    ·rw[ac c]
     exact(o' b o c e).1
   have L2:LvA K t (upd H' pp (.dK (ay (paD x.pa)))) l F' ks:=L'.upd np'
   (try dsimp only)
   generalize upd H' pp (.dK (ay (paD x.pa)))=H2 at sH L2⊢
   refine⟨_,rfl,_,rfl,_,rfl,l,p,F',ks,rfl,L2,TK.same sH,by omega,kz,λH3 r g s3 nr hr hg=>?_⟩
   have sH3:=sH.trans s3
   have A3:=A.same sH3
   refine⟨_,rfl,r,_,_,_,rfl,rfl,SqT.of hr,rfl,g,rfl,⟨_,SqL.of hg⟩,λD hD=>?_⟩
   refine vU (K:=K) (a:=g) (xs:=ks.map V.int) (λi ys H4=>Same H3 H4∧∃ts:List Tp,ys=ts.map (λe=>V.ref e.p)∧ts.map (·.k)=ks.take i∧∀e∈ts,e.p≠D∧H4 e.p=some (.tup [.int e.k,e.v])∧e.v=a8 (mkOf x.pa e.k) mo) ⟨am hD,[],rfl,rfl,λe he=>absurd he Xd⟩ (λi ys H4 _ w=>SqL.of (w.1 _ _ hg)) (λi y ys H4 hy w hDD=>?_) (λys H4 w hDD=>?_)
   ·obtain⟨s4,ts,ey,ek,tu⟩:=w
    have hi4:i<(ks.map V.int).length:=(Q3.mp hy).1
    obtain⟨k,rfl,hk⟩:=uB hy
    have A4:=A3.same s4
    obtain⟨dx4,fs4,ho4,hm4,_⟩:=A4.ins
    refine⟨_,rfl,_,rfl,a,dx4,fs4,rfl,ho4,hm4 _ (by decide+kernel),_,rfl,_,rfl,a,k,mo,x.pa,rfl,A4.vt,(by show 2≤sizeLine;decide),λb nb=>?_⟩
    have bD:b≠D:=λz=>by rw[z,hDD]at nb;cases nb
    have sb:Same H4 (upd H4 b (.tup [.int k,a8 (mkOf x.pa k) mo])):=am nb
    have hb:upd H4 b (.tup [.int k,a8 (mkOf x.pa k) mo]) b=some (.tup [.int k,a8 (mkOf x.pa k) mo]):=af
    generalize upd H4 b (.tup [.int k,a8 (mkOf x.pa k) mo])=H6 at sb hb⊢
    have tl:ts.length≤400:=by
     have:=congrArg List.length ek
     rw[Q2,Qj]at this
     omega
    refine CNext.mk hi4 (sb _ _ hDD) (be (by rw[ey,Q2];omega)) ⟨dQ (s4.trans sb) hD,ts++ [⟨b,k,a8 (mkOf x.pa k) mo⟩],by rw[ey,Qi];rfl,by rw[Qi,ek,Qz,hk];rfl,λe he=>?_⟩
    rcases Qb.mp he with he|he
    ·obtain⟨t0,t1,t3⟩:=tu e he
     exact⟨t0,by rw[ac t0];exact sb _ _ t1,t3⟩
    ·rw[Qg.mp he]
     exact⟨bD,by rw[ac bD];exact hb,rfl⟩
   ·obtain⟨s4,ts,ey,ek,tu⟩:=w
    rw[Q2,QH]at ek
    rw[ey]at hDD
    refine⟨_,rfl,r,_,_,_,rfl,rfl,SqT.of (s4 _ _ hr),rfl,(by show 2≤sizeLine;decide),λr2 nr2=>?_⟩
    have s5:=am (o:= .tup [.ref D,.non]) nr2
    exact q _ r2 D ts ((sH3.trans s4).trans s5) af (s5 _ _ hDD) (λe he=>⟨s5 _ _ (tu e he).2.1,(tu e he).2.2⟩) (by rw[ek];exact L2.rise) (by rw[ek];exact iff')
def dr6 (c k:Int):Int:=if c%2=1 then c/2^(20*k+1).toNat%1048576 else
 (((c+7919*k+1)*48271%2147483647)*(((c+7919*k+1)*48271%2147483647)/1009+69621)%2147483647+31*k+1)*((((c+7919*k+1)*48271%2147483647)*(((c+7919*k+1)*48271%2147483647)/1009+69621)%2147483647)/757+16807)%2147483629
theorem Cf (c k:Int):0≤dr6 c k:=by
 unfold dr6
 split<;>exact QF _ (by decide)
def oA:Sp:=λvs H Q _=>∃c k:Int,vs=[.int c,.int k]∧0≤k∧k≤1000∧Q (.int (dr6 c k)) H
theorem dj (T:Txt K mg t):aX P w K mg base CX0 1 t.km t.gI ["_law_cell","_law_k"] oA:=by
 refine T.bj.ok sc__law_drawn (λvs H Q E h=>?_) (λcdv A outer s H vs Q E hr h=>?_)
 ·obtain⟨c,k,rfl,_⟩:=h
  rfl
 ·obtain⟨c,k,rfl,k0,k1,q⟩:=h
  refine⟨_,(ae (aZ (aC dt (aH bC (pv 0) ak) ak (aD _))
   (ah (aL (aH bC (aH AK (pv 0) (aH bH (aH fA ak (pv 1)) ak)) ak)))
   aJ)
   (ae (aM (i:=2) sc__law_drawn.nd rfl (Or.inl rfl) (aH bC (aH fA (aH bH (aH bH (pv 0) (aH fA ak (pv 1))) ak) ak) ak))
   (ae (aM (i:=2) sc__law_drawn.nd rfl (Or.inl rfl) (aH bC (aH fA (pv 2) (aH bH (aH jX (pv 2) ak) ak)) ak))
   (ah (aL (aH bC (aH fA (aH bH (aH bH (pv 2) (aH fA ak (pv 1))) ak) (aH bH (aH jX (pv 2) ak) ak)) ak))))))
   ,?_⟩
  unfold dr6 at q
  refine⟨_,rfl,_,_,rfl,rfl,(by show(0:Int)<2;decide),rfl,_,rfl,im (λz=>?_) (λz=>?_)⟩
  ·rw[if_pos (V.int.inj (of_decide_eq_true z))]at q
   exact⟨_,rfl,_,rfl,_,_,rfl,rfl,.inl ⟨by decide,by decide⟩,_,_,rfl,rfl,_,_,rfl,rfl,(by show 0≤20*k+1;omega),_,_,rfl,rfl,(by show(0:Int)<1048576;decide),q⟩
  rw[if_neg λy=>z (decide_eq_true (congrArg V.int y))]at q
  have m0:∀z:Int,0≤z%2147483647∧z%2147483647<2147483647:=λz=>⟨QF _ (by decide),Zn _ (by decide)⟩
  refine⟨_,rfl,_,rfl,_,_,rfl,rfl,.inl ⟨by decide,by decide⟩,_,_,rfl,rfl,_,_,rfl,rfl,_,_,rfl,rfl,.inr ⟨by decide,by decide⟩,_,_,rfl,rfl,(by show(0:Int)<2147483647;decide),?_⟩
  (try dsimp only)
  obtain⟨a0,a1⟩:=m0 ((c+7919*k+1)*48271)
  generalize (c+7919*k+1)*48271%2147483647=z1 at a0 a1 q⊢
  refine⟨_,rfl,_,rfl,_,_,rfl,rfl,⟨by decide,by decide⟩,_,_,rfl,rfl,_,_,rfl,rfl,.inl ⟨by omega,by omega⟩,_,_,rfl,rfl,(by show(0:Int)<2147483647;decide),?_⟩
  (try dsimp only)
  obtain⟨b0,b1⟩:=m0 (z1*(z1/1009+69621))
  generalize z1*(z1/1009+69621)%2147483647=z2 at b0 b1 q⊢
  exact⟨_,rfl,_,rfl,_,_,rfl,rfl,.inl ⟨by decide,by decide⟩,_,_,rfl,rfl,_,_,rfl,rfl,_,rfl,_,_,rfl,rfl,⟨by decide,by decide⟩,_,_,rfl,rfl,_,_,rfl,rfl,.inl ⟨by omega,by omega⟩,_,_,rfl,rfl,(by show(0:Int)<2147483629;decide),q⟩
def rn (K:PySem.W.Frag):Sp:=λvs H Q _=>∃c k:Int,vs=[.int c,.int k]∧0≤k∧k≤900∧∀(H':Hp) (z:Int),Same H H'→0≤z→Q (.int z) H'
theorem lD (T:Txt K mg t):aX P w K mg base CX0 2 t.oq t.jB ["_law_cell","_law_k"] (rn K):=by
 have G__law_drawn:= @dj P w K mg base t T
 refine T.jF.ok sc__law_key (λvs H Q E h=>?_) (λcdv A outer s H vs Q E hr h=>?_)
 ·obtain⟨c,k,rfl,_⟩:=h
  rfl
 ·obtain⟨c,k,rfl,k0,k1,q⟩:=h
  refine⟨_,(ae (aM (i:=2) sc__law_key.nd rfl (Or.inl rfl) (aQ G__law_drawn (hr.mono (by decide)) (by rfl) T.bu T.bj.kp T.bx .nil aB (aa (pv 0) (aa (pv 1) ag))))
   (ah (aL (ba aS (dZ (aa (aH bC (pv 2) ak) (aa (aH bC (pv 2) ak) (aa (aH bC (pv 2) ak) (aa (aH bC (pv 0) (aH tj ak ak)) ag))))) (aH bC (aQ G__law_drawn (hr.mono (by decide)) (by rfl) T.bu T.bj.kp T.bx .nil aB (aa (pv 0) (aa (aH bH (pv 1) ak) ag))) ak) (λ_ _=>rfl)))))
   ,?_⟩
  have n0:=Cf c k
  refine⟨_,rfl,_,rfl,c,k,rfl,k0,by omega,?_⟩
  (try dsimp only)
  generalize dr6 c k=n at n0⊢
  have t39:(0:Int)<10^(39:Int).toNat:=by decide
  have e5:=QF n (show(5:Int)≠0 by decide)
  have e31:=QF n (show(31:Int)≠0 by decide)
  have e39:=QF c (X6 t39)
  obtain⟨z,hz,z0⟩:=BM (c:=dr6 c (k+1)) (n:=4) (L:=[.int (n%5),.int (n%31),.int (n%5),.int (c%10^(39:Int).toNat)]) (P:=λm=>0≤m) ⟨e5,e31,e5,e39,trivial⟩ rfl (by decide)
  refine⟨_,rfl,_,_,rfl,rfl,(by show(0:Int)<5;decide),_,rfl,_,_,rfl,rfl,(by show(0:Int)<31;decide),_,rfl,_,_,rfl,rfl,(by show(0:Int)<5;decide),_,rfl,_,_,rfl,rfl,⟨by decide,by decide,by decide⟩,_,_,rfl,rfl,t39,(by show 4≤sizeLine;decide),λp np=>?_⟩
  exact⟨_,rfl,_,rfl,_,_,rfl,rfl,c,k+1,rfl,by omega,by omega,_,_,rfl,rfl,(by show(0:Int)<4;decide),p,_,_,_,rfl,rfl,SqL.of af,hz,q _ z (am np) z0⟩
def vl6 (c:Int):Int:=if dr6 c 3%2=0 then dr6 c 4%7-3 else c*31%(2*10^(39:Int).toNat+1)-10^(39:Int).toNat
def oy:Sp:=λvs H Q _=>∃c:Int,vs=[.int c]∧Q (.int (vl6 c)) H
theorem oM (T:Txt K mg t):aX P w K mg base CX0 2 t.kh t.gG ["_law_cell"] oy:=by
 have G__law_drawn:= @dj P w K mg base t T
 refine T.ku.ok oH (λvs H Q E h=>?_) (λcdv A outer s H vs Q E hr h=>?_)
 ·obtain⟨c,rfl,_⟩:=h
  rfl
 ·obtain⟨c,rfl,q⟩:=h
  refine⟨_,(ae (aZ (aC dt (aH bC (aQ G__law_drawn (hr.mono (by decide)) (by rfl) T.bu T.bj.kp T.bx .nil aB (aa (pv 0) (aa ak ag))) ak) ak (aD _))
   (ah (aL (aH kL (aH bC (aQ G__law_drawn (hr.mono (by decide)) (by rfl) T.bu T.bj.kp T.bx .nil aB (aa (pv 0) (aa ak ag))) ak) ak)))
   aJ)
   (ah (aL (aH kL (aH bC (aH fA (pv 0) ak) (aH bH (aH fA ak (aH tj ak ak)) ak)) (aH tj ak ak)))))
   ,?_⟩
  unfold vl6 at q
  refine⟨_,rfl,c,3,rfl,by decide,by decide,_,_,rfl,rfl,(by show(0:Int)<2;decide),rfl,_,rfl,im (λz=>?_) (λz=>?_)⟩
  ·rw[if_pos (V.int.inj (of_decide_eq_true z))]at q
   exact⟨_,rfl,c,4,rfl,by decide,by decide,_,_,rfl,rfl,(by show(0:Int)<7;decide),_,_,rfl,rfl,q⟩
  ·rw[if_neg λy=>z (decide_eq_true (congrArg V.int y))]at q
   exact⟨_,rfl,_,_,rfl,rfl,.inr ⟨by decide,by decide⟩,_,_,rfl,rfl,⟨by decide,by decide,by decide⟩,_,_,rfl,rfl,.inl ⟨by decide,by decide⟩,_,_,rfl,rfl,_,_,rfl,rfl,(by show(0:Int)<2*10^(39:Int).toNat+1;decide),_,_,rfl,rfl,⟨by decide,by decide,by decide⟩,_,_,rfl,rfl,q⟩
def lN (K:PySem.W.Frag) (t:Adr):Sp:=λvs H Q _=>∃(a:Addr) (k m:Int) (F:Addr→Prop) (x:HSt),vs=[.ref a,.int k,.int m]∧HoA K t H a F x∧(m<x.fl∨x.fl≤m∧x.now<m)∧
 ∀H' F',HoA K t H' a F' x→Fr F F' H H'→Q (.str (if m<x.fl then "old" else "none yet")) H'
theorem lW (T:Txt K mg t):aX P w K mg base CX0 5 t.iz t.eB ["_law_house","_law_key_here","_law_moment"] (lN K t):=by
 have G_House__was:= @iR P w K mg base t T
 refine T.iF.ok sc__law_refused (λvs H Q E h=>?_) (λcdv A outer s H vs Q E hr h=>?_)
 ·obtain⟨a,k,m,F,x,rfl,_⟩:=h
  rfl
 ·obtain⟨a,k,m,F,x,rfl,A,o,q⟩:=h
  refine⟨_,(ae (AE rfl rfl (λpn E=>(ah (aE (wV (pv 0) T.al T.qB G_House__was (hr.mono (by decide)) T.qV .nil BP (aa (pv 1) (aa (pv 2) ag))))))
   (BN (i:=3) sc__law_refused.nd rfl rfl (by rfl) T.j4 T.yB (λea=>(ae (aZ (PW.pt (wN (b4 (au (cc K rfl) (by rfl) T.bc a6 (aa (pv 3) (aa (cm (v:= .ref t.kf) (by rfl) T.BX rfl) ag)))) (sX (gx (b4 (au (oW K rfl) (by rfl) T.bc a6 (aa (pv 3) (aa (jW (v:= .ty "ValueError") (by rfl) T.yA oX rfl) ag))))))))
   (ah (aL dY))
   aJ)
   (ae (aZ (PW.pt (dX (b4 (au (cc K rfl) (by rfl) T.bc a6 (aa (pv 3) (aa (cm (v:= .ref t.bq) (by rfl) T.pD rfl) ag)))) (dX (gx (b4 (au (cc K rfl) (by rfl) T.bc a6 (aa (pv 3) (aa (cm (v:= .ref t.aY) (by rfl) T.ig rfl) ag))))) (dJ (aC dt (rG K rfl (pv 3) rfl) (pv 2) (aD _))))))
   (ah (aL dY))
   aJ)
   (ah (aZ (PW.pt (dX (b4 (au (cc K rfl) (by rfl) T.bc a6 (aa (pv 3) (aa (cm (v:= .ref t.aY) (by rfl) T.ig rfl) ag)))) (dX (gx (b4 (au (cc K rfl) (by rfl) T.bc a6 (aa (pv 3) (aa (cm (v:= .ref t.bq) (by rfl) T.pD rfl) ag))))) (dJ (aC dt (rG K rfl (pv 3) rfl) (pv 2) (aD _))))))
   (ah (aL dY))
   aJ))))) y3))
   (ah (aL dY)))
   ,?_⟩
  obtain⟨dx,fs,hi,hm,_⟩:=A.ins
  refine⟨_,rfl,a,dx,fs,rfl,hi,hm _ (by decide+kernel),_,rfl,_,rfl,a,k,m,F,x,rfl,A,(λz1 z2=>absurd o (by omega)),λlt ea od H' F' ex A' f=>?_,λle gt ea od H' F' ex A' f=>?_⟩
  ·refine⟨ea,t.bq,rfl,ex.1,_,true,T.bh,T.sF,cQ ?_⟩
   refine⟨_,rfl,ea,od,_,_,_,_,_,rfl,ex,T.bh,T.kA,gE T.bh T.wu T.wg,false,rfl,c7 ?_⟩
   refine⟨_,rfl,ea,od,_,_,_,_,_,rfl,ex,T.bh,T.kA,uw T.bh,true,rfl,c7 ?_⟩
   refine⟨_,rfl,ea,od,_,_,_,_,_,rfl,ex,T.bh,T.kA,gE T.bh T.bh T.u9,true,rfl,cQ ?_⟩
   refine⟨_,rfl,ea,od,_,_,_,_,_,rfl,ex,T.bh,T.kA,gE T.bh T.aP T.sP,false,rfl,cQ ?_⟩
   rcases ex.2 with⟨z,_⟩|⟨dy,rfl,hd⟩
   ·cases z
   refine⟨_,rfl,ea,_,dy,_,_,_,rfl,ex.1,hd,T.bh,T.kO,rfl,_,rfl,rfl,_,rfl,oU rfl ?_⟩
   have q:=q H' F' A' f
   rw[if_pos lt]at q
   exact q
  ·refine⟨ea,t.aY,rfl,ex.1,_,true,T.aP,T.qY,cQ ?_⟩
   refine⟨_,rfl,ea,od,_,_,_,_,_,rfl,ex,T.aP,T.eL,gE T.aP T.wu T.t7,false,rfl,c7 ?_⟩
   refine⟨_,rfl,ea,od,_,_,_,_,_,rfl,ex,T.aP,T.eL,uw T.aP,true,rfl,c7 ?_⟩
   refine⟨_,rfl,ea,od,_,_,_,_,_,rfl,ex,T.aP,T.eL,gE T.aP T.bh T.jc,false,rfl,c7 ?_⟩
   refine⟨_,rfl,ea,od,_,_,_,_,_,rfl,ex,T.aP,T.eL,gE T.aP T.aP T.rl,true,rfl,cQ ?_⟩
   refine⟨_,rfl,ea,od,_,_,_,_,_,rfl,ex,T.aP,T.eL,gE T.aP T.bh T.jc,false,rfl,cQ ?_⟩
   rcases ex.2 with⟨z,_⟩|⟨dy,rfl,hd⟩
   ·cases z
   refine⟨_,rfl,ea,_,dy,_,_,_,rfl,ex.1,hd,T.aP,T.d7,rfl,_,rfl,rfl,_,rfl,oU rfl ?_⟩
   have q:=q H' F' A' f
   rw[if_neg (by omega)]at q
   exact q
theorem kB (l1 l2:List Mk1) (m:Int):a8 (l1++l2) m=match l2.reverse.find? (λy=>decide (y.mo≤m))with|none=>a8 l1 m|some y=>y.v:=by
 unfold a8
 rw[List.reverse_append,Xa]
 cases List.find? (λy:Mk1=>decide (y.mo≤m)) l2.reverse<;>rfl
theorem mq {es:List Mk1} {y:Mk1} {m:Int}:a8 (es++ [y]) m=if y.mo≤m then y.v else a8 es m:=by
 rw[kB]
 by_cases c:y.mo≤m
 ·rw[if_pos c]
  simp[c]
 ·rw[if_neg c]
  simp[c]
theorem jy {P P':Mk1→Bool}:∀{l:List Mk1},(∀y∈l,P y=P' y)→l.find? P=l.find? P'
 | [],_=>rfl
 |y::r,h=>by
  rw[Z8,Z8,h y Q8,jy λz hz=>h z (Q6 _ hz)]
theorem uX {es:List Mk1} {m m':Int} (h:∀y∈es,y.mo≤m) (l:m≤m'):a8 es m'=a8 es m:=by
 unfold a8
 rw[jy (P':=λy=>decide (y.mo≤m)) λy hy=>by
  have:=h y (Xf.mp hy)
  rw[decide_eq_true this,decide_eq_true (by omega)]]
theorem mw {fl:Int}:∀{es:List Mk1},es.Pairwise (λa b=>a.mo<b.mo)→(es.filter λy=>decide (y.mo≤fl))++(es.filter λy=>decide (fl<y.mo))=es
 | [],_=>rfl
 |y::r,h=>by
  obtain⟨h1,h2⟩:=Z1.mp h
  by_cases c:y.mo≤fl
  ·rw[QB,QB,if_pos (decide_eq_true c),if_neg (by rw[decide_eq_false (by omega)];exact Q7),ZG,mw h2]
  ·have e:r.filter (λy=>decide (y.mo≤fl))=[]:=ZO.mpr λz hz y'=>by
    have:=h1 z hz
    have:=of_decide_eq_true y'
    omega
   have e2:=mw (fl:=fl) h2
   rw[e,List.nil_append]at e2
   rw[QB,QB,if_neg (by rw[decide_eq_false c];exact Q7),if_pos (decide_eq_true (by omega)),e,e2,List.nil_append]
theorem uY {lo:List Mk1} {m:Int} (h:∀y∈lo,y.mo≤m):a8 lo m=match lo.getLast? with|none=> .non|some y=>y.v:=by
 unfold a8
 rw[jy (P':=λ_=>true) λy hy=>decide_eq_true (h y (Xf.mp hy)),←List.head?_reverse]
 cases lo.reverse<;>rfl
theorem wz {fl m:Int} {es:List Mk1} (up:es.Pairwise λa b=>a.mo<b.mo) (l:fl≤m):a8 (swE fl es) m=a8 es m:=by
 have e1:a8 es m=a8 ((es.filter λy=>decide (y.mo≤fl))++(es.filter λy=>decide (fl<y.mo))) m:=by rw[mw up]
 rw[e1,kB,uY (lo:=es.filter λy=>decide (y.mo≤fl)) λy hy=>by have:=of_decide_eq_true (QM.mp hy).2;omega]
 unfold swE
 cases c:(es.filter λy=>decide (y.mo≤fl)).getLast? with
 |none=>
  dsimp only
  unfold a8
  cases List.find? (λy:Mk1=>decide (y.mo≤m)) (es.filter λy=>decide (fl<y.mo)).reverse<;>rfl
 |some y=>
  dsimp only
  have yl:y.mo≤m:=by
   have:=of_decide_eq_true (QM.mp (ZZ c)).2
   omega
  split
  ·rename_i yv
   unfold a8
   cases List.find? (λy:Mk1=>decide (y.mo≤m)) (es.filter λy=>decide (fl<y.mo)).reverse with
   |none=>exact yv.symm
   |some z=>rfl
  ·rw[show y::(es.filter λy=>decide (fl<y.mo))=[y]++(es.filter λy=>decide (fl<y.mo)) from rfl,kB]
   have:a8 [y] m=y.v:=by
    unfold a8
    simp[yl]
   rw[this]
def Wh (F:Addr→Prop) (d:Addr):Addr→Prop:=λb=>F b∨b=d
theorem Fr.wh {F F':Addr→Prop} {d:Addr} {H H':Hp} (f:Fr F F' H H'):Fr (Wh F d) (Wh F' d) H H':=λb o n eb=>⟨(f b o (λz=>n (.inl z)) eb).1,λz=>z.elim (f b o (λz=>n (.inl z)) eb).2 λz=>n (.inr z)⟩
structure Tb (H:Hp) (F:Addr→Prop) (d:Addr) (kv:List (Int×V)):Prop where
 di:H d=some (.dK (ay kv))
 nF:¬F d
 nd:(kv.map (·.1)).Nodup
 iv:∀p∈kv,∃i:Int,p.2= .int i
 k0:∀k∈kv.map (·.1),0≤k
 le:kv.length≤62
structure W46 (K:PySem.W.Frag) (t:Adr) (H:Hp) (a w:Addr) (F:Addr→Prop) (x:HSt) (ds:List Addr) (kvs:List (List (Int×V))):Prop where
 A:HoA K t H a F x
 hw:H w=some (.lst (ds.map V.ref))∧¬F w
 ln:ds.length=kvs.length∧(kvs.length:Int)=x.now+1
 tb:∀(j:Nat) (d:Addr) (kv:List (Int×V)),ds[j]?=some d→kvs[j]?=some kv→Tb H F d kv
 la:kvs.getLast?=some x.st.kv
 va:∀(j:Nat) (kv:List (Int×V)),kvs[j]?=some kv→x.fl≤(j:Int)→∀k,a8 (mkOf x.pa k) j=(aF kv k).getD .non
 pk:∀k∈x.pa.map (·.k),0≤k
 ma:x.ma=0
section
variable {H H':Hp} {a w:Addr} {F F':Addr→Prop} {x:HSt} {ds:List Addr} {kvs:List (List (Int×V))}
theorem W46.fr (W:W46 K t H a w F x ds kvs) (A:HoA K t H' a F' x) (f:Fr F F' H H'):W46 K t H' a w F' x ds kvs:=
 ⟨A,f _ _ W.hw.2 W.hw.1,W.ln,λj d kv h1 h2=>let T:=W.tb j d kv h1 h2;⟨(f _ _ T.nF T.di).1,(f _ _ T.nF T.di).2,T.nd,T.iv,T.k0,T.le⟩,W.la,W.va,W.pk,W.ma⟩
theorem W46.same (W:W46 K t H a w F x ds kvs) (s:Same H H'):W46 K t H' a w F x ds kvs:=W.fr (W.A.same s) (Fr.of_same s)
theorem W46.sweep (W:W46 K t H a w F x ds kvs) {fl:Int} {pa:List Pk} (A:HoA K t H' a F' {x with fl:=fl,pa:=pa}) (f:Fr F F' H H') (le:x.fl≤fl) (S:SwO fl x.pa.length x.pa pa):W46 K t H' a w F' {x with fl:=fl,pa:=pa} ds kvs:=by
 refine⟨A,f _ _ W.hw.2 W.hw.1,W.ln,λj d kv h1 h2=>let T:=W.tb j d kv h1 h2;⟨(f _ _ T.nF T.di).1,(f _ _ T.nF T.di).2,T.nd,T.iv,T.k0,T.le⟩,W.la,λj kv h1 h2 k=>?_,λk hk=>?_,W.ma⟩
 ·have h2:fl≤(j:Int):=h2
  show a8 (mkOf pa k) j=_
  rw[S.mkOf,wz (W.A.ok.up k).1 h2]
  exact W.va j kv h1 (by omega) k
 ·obtain⟨e',he',rfl⟩:=Qf.mp hk
  obtain⟨j,hj⟩:=QD.mp he'
  have jl:j<pa.length:=(Q3.mp hj).1
  have sl:=S.ln
  obtain⟨e,he⟩:∃e,x.pa[j]?=some e:=⟨_,Q4 (by omega)⟩
  rw[(S.lo j e e' he hj).1]
  exact W.pk _ (Zx (Q0 he))
theorem W46.ho (W:W46 K t H a w F x ds kvs) {ho:List (Int×V)} (A:HoA K t H' a F' {x with ho:=ho}) (f:Fr F F' H H'):W46 K t H' a w F' {x with ho:=ho} ds kvs:=
 ⟨A,f _ _ W.hw.2 W.hw.1,W.ln,λj d kv h1 h2=>let T:=W.tb j d kv h1 h2;⟨(f _ _ T.nF T.di).1,(f _ _ T.nF T.di).2,T.nd,T.iv,T.k0,T.le⟩,W.la,W.va,W.pk,W.ma⟩
theorem W46.more (W:W46 K t H a w F x ds kvs) {x':HSt} {d:Addr} (A:HoA K t H' a F' x') (f:∀b o,b≠d→¬F b→H b=some o→H' b=some o∧¬F' b) (nw:w≠d) (nds:d∉ds) {kv:List (Int×V)} {k:Int} {v:V} {p:Addr} (T:Tb H' F' d kv) (ek:x'.st.kv=kv) (en:x'.now=x.now+1) (ef:x'.fl=x.fl) (em:x'.ma=x.ma) (N:Noted x.pa x'.pa k ⟨p,x.now+1,v⟩) (k0:0≤k)
  (ev:∀j,(aF kv j).getD .non=if j=k then v else(aF x.st.kv j).getD .non):W46 K t (upd H' w (.lst ((ds++ [d]).map V.ref))) a w F' x' (ds++ [d]) (kvs++ [kv]):=by
 obtain⟨w1,w2⟩:=f _ _ nw W.hw.2 W.hw.1
 obtain⟨l1,l2⟩:=W.ln
 have tne:∀{d:Addr} {kv:List (Int×V)},H' d=some (.dK (ay kv))→d≠w:=λe z=>by rw[z,w1]at e;cases e
 have up:∀{d:Addr} {kv:List (Int×V)},Tb H' F' d kv→Tb (upd H' w (.lst ((ds++ [d]).map V.ref))) F' d kv:=λT=>⟨by rw[ac (tne T.di)];exact T.di,T.nF,T.nd,T.iv,T.k0,T.le⟩
 refine⟨A.upd w2 (λxs z=>by rw[w1]at z;cases z),⟨af,w2⟩,⟨by rw[Qa,Qa,l1];rfl,by rw[Qa,en];show((kvs.length+1:Nat):Int)=_;omega⟩,λj d' kv' h1 h2=>?_,?_,λj kv' h1 h2 z=>?_,λz hz=>?_,em.trans W.ma⟩
 ·by_cases c:j<ds.length
  ·rw[QS c]at h1
   rw[QS (by omega)]at h2
   have T0:=W.tb j d' kv' h1 h2
   have f0:=f _ _ (λz=>nds (z▸Q0 h1)) T0.nF T0.di
   exact⟨by rw[ac (tne f0.1)];exact f0.1,f0.2,T0.nd,T0.iv,T0.k0,T0.le⟩
  ·have j1:=(Q3.mp h1).1
   rw[Qa,QJ]at j1
   have:j=ds.length:=by omega
   subst this
   rw[QP (Q5 _),Nat.sub_self]at h1
   rw[l1,QP (Q5 _),Nat.sub_self]at h2
   cases h1
   cases h2
   exact⟨by rw[ac (tne T.di)];exact T.di,T.nF,T.nd,T.iv,T.k0,T.le⟩
 ·rw[List.getLast?_append]
  simp[ek]
 ·rw[N.of]
  by_cases c:j<kvs.length
  ·rw[QS c]at h1
   have e1:=W.va j kv' h1 (by omega)
   split
   ·rename_i zk
    rw[mq,if_neg (by show ¬x.now+1≤(j:Int);omega),←zk]
    exact e1 z
   ·exact e1 z
  ·have j1:=(Q3.mp h1).1
   rw[Qa,QJ]at j1
   have:j=kvs.length:=by omega
   subst this
   rw[QP (Q5 _),Nat.sub_self]at h1
   cases h1
   rw[ev z,l2]
   split
   ·rw[mq,if_pos (Zi _)]
   ·rw[uX (m:=x.now) (λy hy=>(W.A.ok.up z).2 y hy) (by omega)]
    have ll:kvs[x.now.toNat]?=some x.st.kv:=by
     have:=W.la
     rw[ZB]at this
     rw[show x.now.toNat=kvs.length-1 by omega]
     exact this
    have fb:=W.A.ok.fb
    have:=W.va x.now.toNat x.st.kv ll (by omega) z
    rw[show((x.now.toNat:Nat):Int)=x.now by omega]at this
    exact this
 ·rw[N.ky]at hz
  split at hz
  ·exact W.pk z hz
  ·rcases Qb.mp hz with h|h
   ·exact W.pk z h
   ·rw[Qg.mp h]
    exact k0
end
theorem xt {c:TT} {u b:TS} {D:Ends} {σ:St} {H:Hp} (h1:∀b':TS,(∀H4,Same H H4→b' D σ H4)→Au c u b' D σ H) (h2:∀H4,Same H H4→b D σ H4):Au c u b D σ H:=h1 b h2
theorem xD {F F6:Addr→Prop} {H H5 H6:Hp} {d w:Addr} {o o':HO} (sH:Same H H5) (f6:Fr F F6 H5 H6) (nd:H d=none):Fr (Wh F w) (Wh F6 w) H (upd (upd H6 d o) w o'):=λb u n e=>
 have g:=f6 b u (λz=>n (.inl z)) (sH _ _ e)
 ⟨by rw[ac (λz=>n (.inr z)),ac (aj e nd)];exact g.1,λz=>z.elim g.2 λz=>n (.inr z)⟩
theorem valV_in {v:V} {k:Int}:∀{kv:List (Int×V)},aF kv k=some v→(k,v)∈kv
 | [],h=>by cases h
 |p::r,h=>by
  by_cases c:p.1=k
  ·rw[a5 c]at h
   cases h
   rw[←c]
   exact Q8
  ·rw[aW c]at h
   exact Q6 _ (valV_in h)
theorem zo {ds:List Addr} {d:Addr} (h:ds.getLast?=some d):atI (ds.map V.ref) (-1)=some (.ref d):=by
 obtain⟨l,rfl⟩:=List.getLast?_eq_some_iff.mp h
 rw[Qi]
 exact sB _ _
theorem AC {kv:List (Int×V)} {k i:Int} (h:∀p∈kv,∃i:Int,p.2= .int i):∀p∈aU kv k (.int i),∃i:Int,p.2= .int i:=λp hp=>by
 unfold aU at hp
 split at hp
 ·obtain⟨q,hq,rfl⟩:=Qf.mp hp
  by_cases c:q.1=k
  ·exact⟨i,by rw[if_pos c]⟩
  ·rw[if_neg c]
   exact h q hq
 ·rcases Qb.mp hp with y|y
  ·exact h p y
  ·rw[Qg.mp y];exact⟨i,rfl⟩
theorem W46.last {H:Hp} {a w:Addr} {F:Addr→Prop} {x:HSt} {ds:List Addr} {kvs:List (List (Int×V))} (W:W46 K t H a w F x ds kvs):∃d,ds.getLast?=some d∧Tb H F d x.st.kv:=by
 have l1:=W.ln.1
 have l2:=W.la
 rw[ZB]at l2
 have:=(Q3.mp l2).1
 obtain⟨d,hd⟩:∃d,ds[kvs.length-1]?=some d:=⟨_,Q4 (by omega)⟩
 exact⟨d,by rw[ZB,l1];exact hd,W.tb _ _ _ hd l2⟩
def qg (K:PySem.W.Frag) (t:Adr):Sp:=λvs H Q _=>∃(a w:Addr) (c:Int) (F:Addr→Prop) (x:HSt) (ds:List Addr) (kvs:List (List (Int×V))),vs=[.ref a,.ref w,.int c]∧W46 K t H a w F x ds kvs∧x.now<60∧x.ho.length<60∧
 ∀(H':Hp) (F':Addr→Prop) (x':HSt) (ds':List Addr) (kvs':List (List (Int×V))),W46 K t H' a w F' x' ds' kvs'→x'.now≤x.now+1→x'.ho.length≤x.ho.length+1→Fr (Wh F w) (Wh F' w) H H'→Q .non H'
theorem qv (T:Txt K mg t):aX P w K mg base CX0 7 t.lK t.ir ["_law_house","_law_was","_law_cell"] (qg K t):=by
 have G_House__drop:= @nE P w K mg base t T
 have G_House__held:= @hZ P w K mg base t T
 have G_House__hold:= @nD P w K mg base t T
 have G_House__let_go:= @kM P w K mg base t T
 have G_House__put:= @oP P w K mg base t T
 have G_House__sweep:= @lZ P w K mg base t T
 have G__law_drawn:= @dj P w K mg base t T
 have G__law_key:= @lD P w K mg base t T
 have G__law_value:= @oM P w K mg base t T
 refine T.sD.ok sc__law_deed (λvs H Q E h=>?_) (λcdv A outer s H vs Q E hr h=>?_)
 ·obtain⟨a,w,c,F,x,ds,kvs,rfl,_⟩:=h
  rfl
 ·obtain⟨a,w,c,F,x,ds,kvs,rfl,W,l1,l2,q⟩:=h
  refine⟨_,(ae (aM (i:=3) sc__law_deed.nd rfl (Or.inl rfl) (aH bC (aQ G__law_drawn (hr.mono (by decide)) (by rfl) T.bu T.bj.kp T.bx .nil aB (aa (pv 2) (aa ak ag))) ak))
   (ae (aM (i:=4) sc__law_deed.nd rfl (Or.inl rfl) (aQ G__law_key (hr.mono (by decide)) (by rfl) T.nQ T.jF.kp T.oi .nil aB (aa (pv 2) (aa ak ag))))
   (ae (aM (i:=5) sc__law_deed.nd rfl (Or.inl rfl) (vi tQ (by rfl) T.Cj zC (aa (ba aS (pv 1) (ud qc ak) (λ_ _=>rfl)) ag)))
   (ae (aM (i:=6) sc__law_deed.nd rfl (Or.inl rfl) (au (qP hr.hd) (by rfl) T.q9 lq (aa (qr Qw PySem.F.slot_dict_keys PySem.F.type_dict_keys zf (pv 5)) ag)))
   (ah (aZ (aC dq (pv 3) ak (aD _))
   (ah (aE (b8 (pv 0) T.al T.xh G_House__sweep (hr.mono (by decide)) T.xP .nil aB)))
   (ah (aZ (aC dq (pv 3) ak (aD _))
   (ah (aE (b8 (pv 0) T.al T.x6 G_House__hold (hr.mono (by decide)) T.yg .nil aB)))
   (ah (aZ (PW.pt (dX (aC dq (pv 3) ak (aD _)) (dJ (aC (wZ K rfl hr.u20) (b8 (pv 0) T.al T.fB G_House__held (hr.mono (by decide)) T.fR .nil aB) (dZ ag) (aD _)))))
   (ah (aE (aK (pv 0) T.al T.wj G_House__let_go (hr.mono (by decide)) T.wm .nil tf (aa (ba aS (b8 (pv 0) T.al T.fB G_House__held (hr.mono (by decide)) T.fR .nil aB) (aH bC (aQ G__law_drawn (hr.mono (by decide)) (by rfl) T.bu T.bj.kp T.bx .nil aB (aa (pv 2) (aa ak ag))) (au aq (by rfl) T.br a7 (aa (b8 (pv 0) T.al T.fB G_House__held (hr.mono (by decide)) T.fR .nil aB) ag))) (λ_ _=>rfl)) ag))))
   (ah (aZ (PW.pt (dX (aC m6 (pv 3) ak (aD _)) (dJ (aC (wZ K rfl hr.u20) (pv 6) (dZ ag) (aD _)))))
   (ae (aM (i:=4) sc__law_deed.nd rfl (Or.inl rfl) (ba aS (pv 6) (aH bC (aQ G__law_drawn (hr.mono (by decide)) (by rfl) T.bu T.bj.kp T.bx .nil aB (aa (pv 2) (aa ak ag))) (au aq (by rfl) T.br a7 (aa (pv 6) ag))) (λ_ _=>rfl)))
   (ae (aE (aK (pv 0) T.al T.x9 G_House__drop (hr.mono (by decide)) T.yh .nil aB (aa (pv 4) ag)))
   (ae (aE (cx Qw Zr ZU qy (pv 5) (aa (pv 4) ag)))
   (ah (aE (cx Ql QK QL cy (pv 1) (aa (pv 5) ag)))))))
   (ae (aE (aK (pv 0) T.al T.zl G_House__put (hr.mono (by decide)) T.zE .nil aB (aa (pv 4) (aa (aQ G__law_value (hr.mono (by decide)) (by rfl) T.qD T.ku.kp T.qS .nil aB (aa (pv 2) ag)) ag))))
   (ae (mf (eQ hr) (pv 5) (pv 4) (aQ G__law_value (hr.mono (by decide)) (by rfl) T.qD T.ku.kp T.qS .nil aB (aa (pv 2) ag)) rfl)
   (ah (aE (cx Ql QK QL cy (pv 1) (aa (pv 5) ag))))))))))))))))))
   ,?_⟩
  refine⟨_,rfl,c,5,rfl,by decide,by decide,_,_,rfl,rfl,(by show(0:Int)<12;decide),?_⟩
  (try dsimp only)
  generalize dr6 c 5%12=way
  refine⟨_,rfl,c,1,rfl,by decide,by decide,λH1 k s1 k0=>?_⟩
  have W1:=W.same s1
  obtain⟨d,ed,T1⟩:=W1.last
  have sl:x.st.kv.length<64:=by
   have:=W.A.ok.sl
   omega
  refine⟨_,rfl,1,rfl,w,_,_,_,rfl,rfl,SqL.of W1.hw.1,zo ed,d,_,rfl,T1.di,λd2 n2=>?_⟩
  have s2:=am (o:= .dK (ay x.st.kv)) n2
  have h2:upd H1 d2 (.dK (ay x.st.kv)) d2=some (.dK (ay x.st.kv)):=af
  have nF2:¬F d2:=W1.A.out n2
  have nd0:H d2=none:=qN s1 n2
  have W2:=W1.same s2
  have nw2:d2≠w:=λz=>by rw[z,W1.hw.1]at n2;cases n2
  have nds:d2∉ds:=λz=>by
   obtain⟨j,hj⟩:=QD.mp z
   have:=(Q3.mp hj).1
   have ln:=W1.ln.1
   obtain⟨kv,hkv⟩:∃kv,kvs[j]?=some kv:=⟨_,Q4 (by omega)⟩
   have:=(W1.tb j d2 kv hj hkv).di
   rw[n2]at this
   cases this
  (try dsimp only)
  generalize upd H1 d2 (.dK (ay x.st.kv))=H2 at s2 h2 W2⊢
  have sH2:=s1.trans s2
  clear s2 W1 s1
  refine⟨_,rfl,.inr (.inr (.inl ⟨rfl,.inl ⟨_,h2⟩⟩)),d2,_,rfl,rfl,h2,λvw nv=>⟨vw,d2,_,x.st.kv.map (·.1),rfl,af,am nv _ _ h2,pG,(by rw[bp];exact sl),λlm ms nl pm pw=>?_⟩⟩
  have s3:=(am (o:=vwK vw d2) nv).trans (am (o:= .lst (ms.map V.int)) nl)
  have hl:upd (upd H2 vw (vwK vw d2)) lm (.lst (ms.map V.int)) lm=some (.lst (ms.map V.int)):=af
  (try dsimp only)
  generalize upd (upd H2 vw (vwK vw d2)) lm (.lst (ms.map V.int))=H3 at s3 hl⊢
  have W3:=W2.same s3
  have h3:=s3 _ _ h2
  have sH3:=sH2.trans s3
  clear nv nl s3 W2 h2 sH2
  have n0:=W.A.ok.n0
  have hw3:=W3.hw
  obtain⟨dx3,fs3,hi3,hm3,_⟩:=W3.A.ins
  refine⟨_,rfl,_,_,rfl,rfl,_,rfl,im (λz=>?_) (λz=>?_)⟩
  ·refine⟨_,rfl,a,dx3,fs3,rfl,hi3,hm3 _ (by decide+kernel),a,F,x,rfl,W3.A,by omega,by omega,λH4 F4 fl pa4 c1 c2 c3 S A4 f4=>q H4 F4 _ ds kvs (W3.sweep A4 f4 ?_ S) (by show x.now≤_;omega) (by show x.ho.length≤_;omega) ((Fr.of_same sH3).trans f4.wh)⟩
   by_cases ho:x.ho=[]
   ·rw[c1 ho]
    exact W.A.ok.fb.2
   ·obtain⟨y,hy,rfl⟩:=Qf.mp (c2 ho)
    exact(W.A.ok.hv y hy).1
  refine⟨_,rfl,_,_,rfl,rfl,_,rfl,im (λz=>?_) (λz=>?_)⟩
  ·exact⟨_,rfl,a,dx3,fs3,rfl,hi3,hm3 _ (by decide+kernel),a,F,x,rfl,W3.A,by omega,λH4 F4 A4 f4=>q H4 F4 _ ds kvs (W3.ho A4 f4) (by show x.now≤_;omega) (bv _ _ _) ((Fr.of_same sH3).trans f4.wh)⟩
  refine xt (λb' go=>?_) (λH4 s4=>?_)
  ·refine⟨_,rfl,_,_,rfl,rfl,_,rfl,im (λz=>?_) (λz=>c7 (go _ (Same.refl _)))⟩
   refine⟨_,rfl,a,dx3,fs3,rfl,hi3,hm3 _ (by decide+kernel),a,F,x,rfl,W3.A,by omega,λH4 lh hs s4 nh eh ph wh=>⟨Qk _,λr0 nr0=>rM (SqL.of (am nr0 _ _ eh)) (SqL.of af) ⟨_,rfl,?_⟩⟩⟩
   have s5:=s4.trans (am (o:= .lst []) nr0)
   generalize upd H4 r0 (.lst [])=H5 at s5⊢
   cases em:hs with
   |nil=>exact c7 (go _ s5)
   |cons g r=>
    have W5:=W3.same s5
    obtain⟨dx5,fs5,hi5,hm5,_⟩:=W5.A.ins
    refine cQ ⟨_,rfl,a,dx5,fs5,rfl,hi5,hm5 _ (by decide+kernel),_,rfl,a,dx5,fs5,rfl,hi5,hm5 _ (by decide+kernel),a,F,x,rfl,W5.A,by omega,λH6 l6 ms6 s6 n6 e6 p6 w6=>?_⟩
    have W6:=W5.same s6
    obtain⟨dx6,fs6,hi6,hm6,_⟩:=W6.A.ins
    refine⟨_,rfl,c,6,rfl,by decide,by decide,_,rfl,a,dx6,fs6,rfl,hi6,hm6 _ (by decide+kernel),a,F,x,rfl,W6.A,by omega,λH7 l7 ms7 s7 n7 e7 p7 w7=>?_⟩
    have W7:=W6.same s7
    have lm6:ms6.length=hs.length:=p6.length_eq.trans ph.length_eq.symm
    have lm7:ms7.length=ms6.length:=p7.length_eq.trans p6.length_eq.symm
    have p0:(0:Int)<((ms7.map V.int).length:Int):=by rw[Q2,lm7,lm6,em,Q9];omega
    have z0:=QF (dr6 c 6) (X6 p0)
    have z1:=Zn (dr6 c 6) p0
    obtain⟨y,hy,ey⟩:∃y,y∈ms6∧atI (ms6.map V.int) (dr6 c 6%((ms7.map V.int).length:Int))=some (.int y):=by
     have e5:(ms7.map V.int).length=ms6.length:=by rw[Q2,lm7]
     rw[e5]at z0 z1⊢
     refine⟨_,?_,ke z0 z1⟩
     rw[Qu,Q4 (by omega)]
     exact Zg _
    have hg:y∈x.ho.map (·.1):=p6.mem_iff.mp hy
    refine⟨l7,_,rfl,.inl (SqL.of e7),_,_,rfl,rfl,p0,l6,_,_,_,rfl,rfl,SqL.of (s7 _ _ e6),ey,a,y,F,x,rfl,W7.A,by omega,λev H8 F8 A8 f8=>?_,λz=>by have:=mem_keys.mp hg;rw[z]at this;cases this⟩
    refine q H8 F8 _ ds kvs (W7.ho A8 f8) (by show x.now≤_;omega) ?_ ((Fr.of_same (((sH3.trans s5).trans s6).trans s7)).trans f8.wh)
    have lp:=bv x.ho y (.int (dO x.ho y-1))
    show(l0 x.ho y).length≤_
    unfold l0
    split
    ·exact Qv (Qr _ _) lp
    ·exact lp
  have W4:=W3.same s4
  have h4:=s4 _ _ h3
  have hl4:=s4 _ _ hl
  have sH4:=sH3.trans s4
  clear W3 h3 hl sH3 hi3 hm3 s4 hw3
  refine xt (λb' go=>?_) (λH5 s5=>?_)
  ·refine⟨_,rfl,_,_,rfl,rfl,_,rfl,im (λz=>?_) (λz=>c7 (go _ (Same.refl _)))⟩
   refine⟨_,rfl,Qk _,λr0 nr0=>rM (SqL.of (am nr0 _ _ hl4)) (SqL.of af) ⟨_,rfl,?_⟩⟩
   have s5:=am (o:= .lst []) nr0
   generalize upd H4 r0 (.lst [])=H5 at s5⊢
   cases em:ms with
   |nil=>exact c7 (go _ s5)
   |cons g r=>
    have W5:=W4.same s5
    have hl5:=s5 _ _ hl4
    have p0:(0:Int)<((ms.map V.int).length:Int):=by rw[Q2,em,Q9];omega
    have z0:=QF (dr6 c 6) (X6 p0)
    have z1:=Zn (dr6 c 6) p0
    obtain⟨y,hy,ey⟩:∃y,y∈ms∧atI (ms.map V.int) (dr6 c 6%((ms.map V.int).length:Int))=some (.int y):=by
     rw[Q2]at z0 z1⊢
     refine⟨_,?_,ke z0 z1⟩
     rw[Qu,Q4 (by omega)]
     exact Zg _
    have hg:y∈x.st.kv.map (·.1):=pm.mem_iff.mp hy
    obtain⟨v,ev⟩:=ZC.mp (mem_keys.mp hg)
    refine cQ ⟨_,rfl,_,rfl,c,6,rfl,by decide,by decide,_,rfl,lm,_,rfl,.inl (SqL.of hl5),_,_,rfl,rfl,p0,lm,_,_,_,rfl,rfl,SqL.of hl5,ey,?_⟩
    obtain⟨dx5,fs5,hi5,hm5,_⟩:=W5.A.ins
    have m5:=W.ma
    have y0:0≤y:=T1.k0 y hg
    refine⟨_,rfl,a,dx5,fs5,rfl,hi5,hm5 _ (by decide+kernel),_,rfl,a,y,F,x,rfl,W5.A,y0,by omega,λ_ H6 F6 ks6 r6 q6 pa6 A6 N6 f6=>?_,λz=>by rw[ev]at z;cases z⟩
    obtain⟨d6,n6⟩:=f6 _ _ nF2 (s5 _ _ h4)
    refine⟨_,rfl,.inr (.inr (.inl ⟨rfl,.inl ⟨_,d6⟩⟩)),_,rfl,d2,_,Sum.inl y,v,rfl,rfl,d6,liftK_val.trans ev,?_⟩
    rw[jt]
    obtain⟨w6,nw6⟩:=f6 _ _ W5.hw.2 W5.hw.1
    have w7:upd H6 d2 (.dK (ay (bf x.st.kv y))) w=some (.lst (ds.map V.ref)):=by rw[ac (Ne.symm nw2)];exact w6
    refine⟨_,rfl,.inl ⟨rfl,_,SqL.of w7⟩,_,rfl,w,_,_,rfl,rfl,w7,?_,?_⟩
    ·rw[Q2,W.ln.1]
     exact be (by have:=W.ln.2;omega)
    have sub:∀p∈bf x.st.kv y,p∈x.st.kv:=λp hp=>(QM.mp hp).1
    have T6:Tb (upd H6 d2 (.dK (ay (bf x.st.kv y)))) F6 d2 (bf x.st.kv y):=⟨af,n6,(X2.map _).nodup T1.nd,λp hp=>T1.iv p (sub p hp),λz hz=>by
     obtain⟨p,hp,rfl⟩:=Qf.mp hz
     exact T1.k0 _ (Qf.mpr ⟨p,sub p hp,rfl⟩),Qv (Qr _ _) T1.le⟩
    have W7:=W5.more (A6.upd n6 (λxs z=>by rw[d6]at z;cases z)) (λb o n nF e=>⟨by rw[ac n];exact(f6 b o nF e).1,(f6 b o nF e).2⟩) (Ne.symm nw2) nds T6 (show _=_ from SSt.three_kv) rfl rfl rfl N6 y0 (λj=>by rw[cw];split<;>rfl)
    rw[Qi]at W7
    exact q _ F6 _ _ _ W7 (Zi _) (Z9 _) (xD (sH4.trans s5) f6 nd0)
  have W5:=W4.same s5
  have h5:=s5 _ _ h4
  have sH5:=sH4.trans s5
  clear W4 h4 hl4 sH4 s5
  obtain⟨dx5,fs5,hi5,hm5,_⟩:=W5.A.ins
  have m5:=W.ma
  refine⟨_,rfl,a,dx5,fs5,rfl,hi5,hm5 _ (by decide+kernel),_,rfl,_,rfl,c,rfl,a,k,vl6 c,F,x,rfl,W5.A,k0,by omega,λH6 F6 ks6 r6 q6 pa6 A6 N6 f6=>?_⟩
  obtain⟨d6,n6⟩:=f6 _ _ nF2 h5
  refine⟨_,rfl,c,rfl,_,rfl,_,rfl,d2,_,rfl,DPut.k (k:=Sum.inl k) d6 (by rw[bp];exact be (by omega)),?_⟩
  rw[c6]
  obtain⟨w6,nw6⟩:=f6 _ _ W5.hw.2 W5.hw.1
  have w7:upd H6 d2 (.dK (ay (aU x.st.kv k (.int (vl6 c))))) w=some (.lst (ds.map V.ref)):=by rw[ac (Ne.symm nw2)];exact w6
  refine⟨_,rfl,.inl ⟨rfl,_,SqL.of w7⟩,_,rfl,w,_,_,rfl,rfl,w7,?_,?_⟩
  ·rw[Q2,W.ln.1]
   exact be (by have:=W.ln.2;omega)
  have T6:Tb (upd H6 d2 (.dK (ay (aU x.st.kv k (.int (vl6 c)))))) F6 d2 (aU x.st.kv k (.int (vl6 c))):=⟨af,n6,jp T1.nd,AC T1.iv,λz hz=>by
   rw[j5]at hz
   split at hz
   ·exact T1.k0 z hz
   ·rcases Qb.mp hz with h|h
    ·exact T1.k0 z h
    ·rw[Qg.mp h]
     exact k0,Qv (bv _ _ _) (by have:=W.A.ok.sl;omega)⟩
  have W7:=W5.more (A6.upd n6 (λxs z=>by rw[d6]at z;cases z)) (λb o n nF e=>⟨by rw[ac n];exact(f6 b o nF e).1,(f6 b o nF e).2⟩) (Ne.symm nw2) nds T6 (show _=_ from SSt.three_kv) rfl rfl rfl N6 k0 (λj=>by rw[cE];split<;>rfl)
  rw[Qi]at W7
  exact q _ F6 _ _ _ W7 (Zi _) (Z9 _) (xD sH5 f6 nd0)
def oz (K:PySem.W.Frag) (t:Adr):Sp:=λvs H Q _=>∃(a w:Addr) (k m:Int) (F:Addr→Prop) (x:HSt) (ds:List Addr) (kvs:List (List (Int×V))),vs=[.ref a,.ref w,.int k,.int m]∧W46 K t H a w F x ds kvs∧0≤m∧
 ∀(H':Hp) (F':Addr→Prop),W46 K t H' a w F' x ds kvs→Fr F F' H H'→Q (.bl true) H'
theorem oN (T:Txt K mg t):aX P w K mg base CX0 6 t.ki t.gH ["_law_house","_law_was","_law_key_here","_law_moment"] (oz K t):=by
 have G_House__was:= @iR P w K mg base t T
 have G__law_refused:= @lW P w K mg base t T
 refine T.kx.ok sc__law_right (λvs H Q E h=>?_) (λcdv A outer s H vs Q E hr h=>?_)
 ·obtain⟨a,w,k,m,F,x,ds,kvs,rfl,_⟩:=h
  rfl
 ·obtain⟨a,w,k,m,F,x,ds,kvs,rfl,W,m0,q⟩:=h
  refine⟨_,(ae (aZ (aC dq (pv 3) (ar (pv 0) rfl) (aD _))
   (ah (aL (cN dt (aQ G__law_refused (hr.mono (by decide)) (by rfl) T.nP T.iF.kp T.oh .nil aB (aa (pv 0) (aa (pv 2) (aa (pv 3) ag)))) dY (aD _))))
   aJ)
   (ae (aZ (aC ui (pv 3) (au aq (by rfl) T.br a7 (aa (pv 1) ag)) (aD _))
   (ah (aL (cN dt (aQ G__law_refused (hr.mono (by decide)) (by rfl) T.nP T.iF.kp T.oh .nil aB (aa (pv 0) (aa (pv 2) (aa (pv 3) ag)))) dY (aD _))))
   aJ)
   (ae (aM (i:=4) sc__law_right.nd rfl (Or.inl rfl) (aK (pv 0) T.al T.qB G_House__was (hr.mono (by decide)) T.qV .nil tf (aa (pv 2) (aa (pv 3) ag))))
   (ae (aZ (qp (kK (eQ hr) (pv 2) (ba aS (pv 1) (pv 3) (λ_ _=>rfl))))
   (ah (aL (cN tm (pv 4) fz (aD _))))
   aJ)
   (ah (aL (kJ (au eT (by rfl) T.bc a6 (aa (pv 4) (aa (jW (v:= .ty "int") (by rfl) T.Bs xL rfl) ag))) (kJ (wU (au eT (by rfl) T.bc a6 (aa (pv 4) (aa (jW (v:= .ty "bool") (by rfl) T.Aq uJ rfl) ag)))) (kI (cN dt (pv 4) (qq (eQ hr) (ba aS (pv 1) (pv 3) (λ_ _=>rfl)) (pv 2) (λ_ _=>rfl)) (aD _)))))))))))
   ,?_⟩
  obtain⟨dx,fs,hi,hm,hn,hf⟩:=W.A.ins
  refine⟨_,rfl,_,rfl,a,_,dx,fs,_,rfl,hi,T.al,T.bE,hf,_,_,rfl,rfl,_,rfl,im (λc=>?_) (λc=>?_)⟩
  ·have c:=of_decide_eq_true c
   refine⟨_,rfl,_,rfl,_,rfl,a,k,m,F,x,rfl,W.A,.inl c,λH' F' A' f'=>?_⟩
   rw[if_pos c]
   exact⟨rfl,q H' F' (W.fr A' f') f'⟩
  have c:¬m<x.fl:=λy=>c (decide_eq_true y)
  have ln:=W.ln
  unfold zQ
  (try dsimp only)
  refine⟨_,rfl,_,rfl,w,_,rfl,.inl (SqL.of W.hw.1),_,_,rfl,rfl,_,rfl,im (λc2=>?_) (λc2=>?_)⟩
  ·have c2:=of_decide_eq_true c2
   rw[Q2]at c2
   refine⟨_,rfl,_,rfl,_,rfl,a,k,m,F,x,rfl,W.A,.inr ⟨by omega,by omega⟩,λH' F' A' f'=>?_⟩
   rw[if_neg c]
   exact⟨rfl,q H' F' (W.fr A' f') f'⟩
  have c2:¬((ds.map V.ref).length:Int)≤m:=λy=>c2 (decide_eq_true y)
  rw[Q2]at c2
  (try dsimp only)
  refine⟨_,rfl,a,dx,fs,rfl,hi,hm _ (by decide+kernel),_,rfl,_,rfl,a,k,m,F,x,rfl,W.A,λ_ _=>?_,λz=>absurd z c,λ_ z=>absurd z (by omega)⟩
  obtain⟨d,hd⟩:∃d,ds[m.toNat]?=some d:=⟨_,Q4 (by omega)⟩
  obtain⟨kv,hkv⟩:∃kv,kvs[m.toNat]?=some kv:=⟨_,Q4 (by omega)⟩
  have T0:=W.tb _ _ _ hd hkv
  have va:=W.va _ _ hkv (by omega) k
  rw[show((m.toNat:Nat):Int)=m by omega]at va
  have at1:atI (ds.map V.ref) m=some (.ref d):=by
   rw[show m=((m.toNat:Nat):Int) by omega]
   exact kg (by rw[Qc,hd];rfl)
  have dg:=DGet.k (k:=Sum.inl k) T0.di
  rw[liftK_val]at dg
  rw[va]
  have fin:Q (.bl true) H:=q H F W Fr.refl
  refine⟨_,rfl,_,rfl,_,rfl,w,_,_,_,rfl,rfl,SqL.of W.hw.1,at1,d,_,rfl,dg,_,rfl,?_⟩
  cases ev:aF kv k with
  |none=>
   refine cQ ⟨_,rfl,rfl,?_⟩
   show Q (.bl (decide (V.non=V.non))) _
   rw[decide_eq_true rfl]
   exact fin
  |some v=>
   obtain⟨i,ei⟩:=T0.iv (k,v) (valV_in ev)
   have ei:v= .int i:=ei
   subst ei
   rw[ev]at dg
   refine c7 ⟨_,rfl,_,_,_,_,rfl,TyOf.int _,xn,true,rfl,cQ ⟨_,rfl,_,_,_,_,rfl,TyOf.int _,xo,false,rfl,true,rfl,cQ ⟨_,rfl,_,rfl,_,rfl,w,_,_,_,rfl,rfl,SqL.of W.hw.1,at1,_,rfl,d,_,rfl,dg,rfl,?_⟩⟩⟩
   show Q (.bl (decide (V.int i=V.int i))) _
   rw[decide_eq_true rfl]
   exact fin
theorem rg {kv:List (Int×V)} {k:Int} {v:V} (nd:(kv.map (·.1)).Nodup) (h:(k,v)∈kv):aF kv k=some v:=by
 induction kv with
 |nil=>cases h
 |cons p r ih=>
  rw[Qo,Qs]at nd
  by_cases e:p.1=k
  ·rw[a5 e]
   rcases Qe.mp h with h|h
   ·rw[←h]
   ·exact absurd (Zx (f:=(·.1)) h) (by rw[←e]at*;exact nd.1)
  ·rw[aW e]
   rcases Qe.mp h with h|h
   ·rw[←h]at e;exact absurd rfl e
   ·exact ih nd.2 h
theorem uA:∀{kv:List (Int×V)},(∀p∈kv,∃i:Int,p.2= .int i)→∃ns:List (Int×Int),kv=ns.map λp=>(p.1,V.int p.2)
 | [],_=>⟨[],rfl⟩
 |p::r,h=>by
  obtain⟨i,e⟩:=h p Q8
  obtain⟨ns,en⟩:=uA λq hq=>h q (Q6 _ hq)
  exact⟨(p.1,i)::ns,by rw[en,Qo,←e]⟩
theorem za {kv:List (Int×V)} {ns:List (Int×Int)} {pa:List Pk} {mo:Int} {ts:List Tp} {es:List (Addr×Int×Int)} (ek:kv=ns.map λp=>(p.1,V.int p.2)) (nd:(kv.map (·.1)).Nodup) (va:∀k,a8 (mkOf pa k) mo=(aF kv k).getD .non) (ri:cv (ts.map (·.k))) (mz:∀z,z∈ts.map (·.k)↔z∈pa.map (·.k)∧a8 (mkOf pa z) mo≠ .non)
  (tv:∀e∈ts,e.v=a8 (mkOf pa e.k) mo) (pm:(es.map (·.2)).Perm ns) (pw:(es.map (·.2)).Pairwise λp q=>HT.lexLt [q.1,q.2] [p.1,p.2]=false):ts.map Tp.kv=es.map λe=>(e.2.1,V.int e.2.2):=by
 have vm:∀{p:Int×Int},p∈ns→aF kv p.1=some (.int p.2):=λhp=>rg nd (by rw[ek];exact Qf.mpr ⟨_,hp,rfl⟩)
 have kn:kv.map (·.1)=ns.map (·.1):=by rw[ek,Qy];rfl
 have e2:es.map (λe=>e.2.1)=(es.map (·.2)).map (·.1):=by rw[Qy];rfl
 have ne:((es.map (·.2)).map (·.1)).Nodup:=((pm.map (·.1)).nodup_iff).mpr (kn▸nd)
 have re:cv (es.map λe=>e.2.1):=by
  rw[e2]
  refine Za.mpr ((pw.and (Za.mp ne)).imp λ{p q} h=>?_)
  obtain⟨h1,h2⟩:=h
  rw[HT.lexLt_cons,if_neg (Ne.symm h2)]at h1
  have:=of_decide_eq_false h1
  omega
 have keys:ts.map (·.k)=es.map λe=>e.2.1:=by
  refine rC ri re λz=>?_
  rw[mz,va,e2,(pm.map (·.1)).mem_iff,←kn,mem_keys]
  constructor
  ·rintro ⟨_,h⟩
   cases c:aF kv z with
   |none=>rw[c]at h;exact absurd rfl h
   |some v=>rfl
  ·intro h
   obtain⟨p,hp,rfl⟩:∃p∈ns,p.1=z:=Qf.mp (kn▸mem_keys.mpr h)
   refine⟨Classical.byContradiction λn=>?_,by rw[vm hp];exact λz=>by cases z⟩
   have:=va p.1
   rw[iI n,vm hp]at this
   cases this
 refine List.ext_getElem? λj=>?_
 have kj:=congrArg (λl:List Int=>l[j]?) keys
 rw[Qc,Qc]at kj⊢
 cases c1:ts[j]? with
 |none=>
  rw[c1]at kj
  cases c2:es[j]? with
  |none=>rfl
  |some e=>rw[c2]at kj;cases kj
 |some u=>
  rw[c1]at kj
  cases c2:es[j]? with
  |none=>rw[c2]at kj;cases kj
  |some e=>
   rw[c2]at kj
   have k1:u.k=e.2.1:=Option.some.inj kj
   have hv:=tv u (Q0 c1)
   have hp:e.2∈ns:=pm.mem_iff.mp (Zx (Q0 c2))
   rw[va,k1,vm hp]at hv
   show some (u.k,u.v)=some (e.2.1,V.int e.2.2)
   rw[k1,hv]
   rfl
theorem yV {kv:List (Key×V)} {k:Int} {v:V} (h:∀p∈kv,∃z:Int,p.1=Sum.inl z):∀p∈aU kv (Sum.inl k:Key) v,∃z:Int,p.1=Sum.inl z:=λp hp=>by
 unfold aU at hp
 split at hp
 ·obtain⟨q,hq,rfl⟩:=Qf.mp hp
  by_cases c:q.1=Sum.inl k
  ·rw[if_pos c]
   exact h q hq
  ·rw[if_neg c]
   exact h q hq
 ·rcases Qb.mp hp with y|y
  ·exact h p y
  ·rw[Qg.mp y];exact⟨k,rfl⟩
theorem uk:∀{kv:List (Int×V)} {kk:List (Key×V)},(∀p∈kk,∃z:Int,p.1=Sum.inl z)→∀p∈vB kk (ay kv),∃z:Int,p.1=Sum.inl z
 | [],_,h=>h
 |q::r,kk,h=>uk (kv:=r) (yV (k:=q.1) (v:=q.2) h)
theorem W46.off {H H':Hp} {a w q:Addr} {F:Addr→Prop} {x:HSt} {ds:List Addr} {kvs:List (List (Int×V))} {u:HO} (W:W46 K t H a w F x ds kvs) (hq:H q=some u) (ut:∀xs,u≠ .tup xs) (ul:∀xs,u≠ .lst xs) (nq:¬F q) (nd:q∉ds) (kp:∀b o,b≠q→H b=some o→H' b=some o):W46 K t H' a w F x ds kvs:=by
 have ne:∀{b:Addr},F b→b≠q:=λh z=>nq (z▸h)
 have tq:∀{b:Addr} {xs:List V},H b=some (.tup xs)→b≠q:=λh z=>by rw[z,hq]at h;exact ut _ (Option.some.inj h)
 refine⟨W.A.keep (λb hb=>by
  obtain⟨o,eo,_⟩:=W.A.dom hb
  rw[eo]
  exact kp b o (ne hb) eo) λb xs e=>kp b _ (tq e) e,⟨kp w _ (λz=>by have h:=W.hw.1;rw[z,hq]at h;exact ul _ (Option.some.inj h)) W.hw.1,W.hw.2⟩,W.ln,λj d kv h1 h2=>let T:=W.tb j d kv h1 h2;⟨kp d _ (λz=>nd (z▸Q0 h1)) T.di,T.nF,T.nd,T.iv,T.k0,T.le⟩,W.la,W.va,W.pk,W.ma⟩
def wI (K:PySem.W.Frag):Sp:=λvs H Q _=>∃(a:Addr) (ns:List Int),vs=[.ref a]∧SqL K H a (ns.map V.int)∧ns.length≤63∧∀H',Q (.bl true) H'
theorem AO (T:Txt K mg t):aX P w K mg base CX0 8 t.Ak t.uH ["_law_script"] (wI K):=by
 have G_House__init:= @nC P w K mg base t T
 have G_House__page_at:= @jZ P w K mg base t T
 have G_Up__init:= @rL P w K mg base t T
 have G__law_deed:= @qv P w K mg base t T
 have G__law_drawn:= @dj P w K mg base t T
 have G__law_key:= @lD P w K mg base t T
 have G__law_right:= @oN P w K mg base t T
 refine T.Ci.ok sc_law (λvs H Q E h=>?_) (λcdv A outer s H vs Q E hr h=>?_)
 ·obtain⟨a,ns,rfl,_⟩:=h
  rfl
 ·obtain⟨sc,ns,rfl,hS,hlen,q⟩:=h
  refine⟨_,(ae (aM (i:=1) sc_law.nd rfl (Or.inl rfl) (fV T.BS G_House__init (hr.mono (by decide)) (by rfl) T.BZ T.yf .nil aB))
   (ae (aM (i:=2) sc_law.nd rfl (Or.inl rfl) (dZ (aa fW ag)))
   (ae (hJ PassesOwn.never rfl (eO (hU jM (pv 0) jV (jU ak))) (dh (i:=3) sc_law.nd rfl (Or.inl rfl))
   (ae (aE (aQ G__law_deed (hr.mono (by decide)) (by rfl) T.Ad T.sD.kp T.Ai .nil aB (aa (pv 1) (aa (pv 2) (aa (pv 3) ag)))))
   (ae (aM (i:=4) sc_law.nd rfl (Or.inl rfl) (aQ G__law_key (hr.mono (by decide)) (by rfl) T.nQ T.jF.kp T.oi .nil aB (aa (pv 3) (aa ak ag))))
   (ae (aZ (aC dt (aH bC (aQ G__law_drawn (hr.mono (by decide)) (by rfl) T.bu T.bj.kp T.bx .nil aB (aa (pv 3) (aa ak ag))) ak) ak (aD _))
   (ah (aM (i:=4) sc_law.nd rfl (Or.inl rfl) (aQ G__law_key (hr.mono (by decide)) (by rfl) T.nQ T.jF.kp T.oi .nil aB (aa (ba aS (pv 0) ak (λ_ _=>rfl)) (aa ak ag)))))
   aJ)
   (ah (aZ (gx (b4 (aQ G__law_right (hr.mono (by decide)) (by rfl) T.qE T.kx.kp T.qT .nil aB (aa (pv 1) (aa (pv 2) (aa (pv 4) (aa (aH bC (aQ G__law_drawn (hr.mono (by decide)) (by rfl) T.bu T.bj.kp T.bx .nil aB (aa (pv 3) (aa ak ag))) (aH bH (au aq (by rfl) T.br a7 (aa (pv 2) ag)) ak)) ag)))))))
   (ah (aL wX))
   aJ))))))
   (ae (aM (i:=5) sc_law.nd rfl (Or.inl rfl) fW)
   (ae (hJ PassesOwn.never rfl (eO (pv 2)) (dh (i:=6) sc_law.nd rfl (Or.inl rfl))
   (ah (aE (cx Qw PySem.F.slot_dict_update PySem.F.type_dict_update vv (pv 5) (aa (pv 6) ag)))))
   (ae (hJ PassesOwn.never rfl (pz (by rfl) T.yz (aa (aH bH (au aq (by rfl) T.br a7 (aa (pv 2) ag)) ak) ag)) (dh (i:=7) sc_law.nd rfl (Or.inl rfl))
   (ae (me (hJ PassesOwn.never rfl (uc (pv 5)) (dh (i:=4) sc_law.nd rfl (Or.inl rfl))
   (ah (aZ (gx (b4 (aQ G__law_right (hr.mono (by decide)) (by rfl) T.qE T.kx.kp T.qT .nil aB (aa (pv 1) (aa (pv 2) (aa (pv 4) (aa (pv 7) ag)))))))
   (ah (aL wX))
   aJ))))
   (ah (aZ (wQ uh dq (ar (pv 1) rfl) (pv 7) (au aq (by rfl) T.br a7 (aa (pv 2) ag)))
   (ah (aZ (aC (AL K rfl hr.u20) (aK (pv 1) T.al T.vE G_House__page_at (hr.mono (by decide)) T.v8 .nil tf (aa (pv 7) (aa (fV T.Cl G_Up__init (hr.mono (by decide)) (by rfl) T.BU T.sA.choose_spec.1 T.sA.choose_spec.2 aB) (aa ak ag)))) (jk (aa (au (oV hr.hd) (by rfl) T.q9 lq (aa (qr Qw ZJ PySem.F.type_dict_items rP (ba aS (pv 2) (pv 7) (λ_ _=>rfl))) ag)) (aa fz ag))) (aD _))
   (ah (aL wX))
   aJ))
   aJ))))
   (ah (aL (cN dt (ar (pv 1) rfl) (aH kL (au aq (by rfl) T.br a7 (aa (pv 2) ag)) ak) (aD _))))))))))
   ,?_⟩
  refine λa dx na nd nad=>⟨a,dx,rfl,af,λH1 F1 A1 f1=>⟨rfl,λd n1=>⟨(by show 1≤sizeLine;decide),λw nw=>?_⟩⟩⟩
  have c1:SqF K F1 H1 sc (ns.map V.int):=((SqF.of (F:=λb=>b=a) hS λo e z=>by rw[z,na]at e;cases e).fr (Fr.of_same (dQ (am nd) na))).fr f1
  have sd:=am (o:= .dK []) n1
  have sw:=am (o:= .lst [.ref d]) nw
  have n1':¬F1 d:=A1.out n1
  have A2:=A1.same sd
  have W0:W46 K t (upd (upd H1 d (.dK [])) w (.lst [.ref d])) a w F1 HSt.new [d] [[]]:=by
   refine⟨A2.same sw,⟨af,A2.out nw⟩,⟨rfl,rfl⟩,λj d' kv h1 h2=>?_,rfl,λj kv h1 _ k=>?_,(λk hk=>by cases hk),rfl⟩
   ·rcases j with _|j
    ·cases h1
     cases h2
     exact⟨sw _ _ af,n1',Z0,(λp hp=>by cases hp),(λk hk=>by cases hk),by decide⟩
    ·cases h1
   ·rcases j with _|j
    ·cases h1
     rfl
    ·cases h1
  have c2:SqF K (Wh F1 w) (upd (upd H1 d (.dK [])) w (.lst [.ref d])) sc (ns.map V.int):=((c1.new (o:= .dK []) n1).wide nw).updG
  (try dsimp only)
  generalize upd (upd H1 d (.dK [])) w (.lst [.ref d])=H2 at W0 c2⊢
  clear c1 f1 A1 A2 n1 na nd nad hS sd sw nw n1'
  refine⟨_,rfl,40,rfl,sc,_,rfl,c2.sq,λp1 np1=>?_⟩
  rw[nZ (by decide),←ZF]
  obtain⟨cs,ecs⟩:∃cs,ns.take (40:Int).toNat=cs:=⟨_,rfl⟩
  have lcs:cs.length≤40:=by rw[←ecs,Qj];exact Nat.min_le_left _ _
  rw[ecs]
  have s3:=am (o:= .lst (cs.map V.int)) np1
  have W3:=W0.same s3
  have c3:=c2.fr (Fr.of_same s3)
  have o1:¬Wh F1 w p1:=λz=>z.elim (W0.A.out np1) λz=>by rw[z,W0.hw.1]at np1;cases np1
  have h1:upd H2 p1 (.lst (cs.map V.int)) p1=some (.lst (cs.map V.int)):=af
  generalize upd H2 p1 (.lst (cs.map V.int))=H3 at W3 c3 h1⊢
  clear W0 c2 s3 np1
  refine⟨p1,rfl,⟨_,SqL.of h1⟩,pK (K:=K) (a:=p1) (xs:=cs.map V.int) (λi σ H'=>∃(v3 v4:Option V) (F:Addr→Prop) (x:HSt) (ds:List Addr) (kvs:List (List (Int×V))),σ=[some (.ref sc),some (.ref a),some (.ref w),v3,v4,none,none,none]∧W46 K t H' a w F x ds kvs∧x.now≤(i:Int)∧x.ho.length≤i∧H' p1=some (.lst (cs.map V.int))∧¬Wh F w p1∧SqF K (Wh F w) H' sc (ns.map V.int))
   ⟨_,_,F1,HSt.new,_,_,rfl,W3,by decide,by decide,h1,o1,c3⟩ (λi σ H' _ w=>by obtain⟨_,_,_,_,_,_,_,_,_,_,e,_⟩:=w;exact SqL.of e) (λi z σ H' hz w'=>?_) (λσ H' w'=>?_)⟩
  ·obtain⟨v3,v4,F,x,ds,kvs,rfl,W,l1,l2,hp,op,cS⟩:=w'
   have hi:=(Q3.mp hz).1
   rw[Q2]at hi
   obtain⟨c,hc,rfl⟩:=Qf.mp (Q0 hz)
   have nl:0<ns.length:=by
    have:=ZM hc
    rw[←ecs,Qj]at this
    omega
   refine⟨_,rfl,_,rfl,_,rfl,a,w,c,F,x,ds,kvs,rfl,W,by omega,by omega,λH4 F4 x4 ds4 kvs4 W4 g1 g2 f4=>?_⟩
   obtain⟨hp4,op4⟩:=f4 _ _ op hp
   have cS4:=cS.fr f4
   clear W hp op cS
   refine⟨_,rfl,c,9,rfl,by decide,by decide,λH5 k s5 k0=>?_⟩
   have W5:=W4.same s5
   have hp5:=s5 _ _ hp4
   have cS5:=cS4.fr (Fr.of_same s5)
   clear W4 hp4 cS4
   unfold j9
   (try dsimp only)
   refine l9 (λσ H'=>∃k:Int,σ=[some (.ref sc),some (.ref a),some (.ref w),some (.int c),some (.int k),none,none,none]∧Same H5 H') (λnx go=>?_) (λσ H6 w'=>?_)
   ·refine⟨_,rfl,c,11,rfl,by decide,by decide,_,_,rfl,rfl,(by show(0:Int)<2;decide),rfl,_,rfl,im (λ_=>?_) (λ_=>go _ _ ⟨k,rfl,Same.refl _⟩)⟩
    exact⟨_,rfl,sc,_,_,_,rfl,rfl,cS5.sq,ke (by decide) (by show(0:Int)<_;omega),_,1,rfl,by decide,by decide,λH6 k6 s6 _=>go _ _ ⟨k6,rfl,s6⟩⟩
   obtain⟨k6,rfl,s6⟩:=w'
   have W6:=W5.same s6
   have hp6:=s6 _ _ hp5
   have cS6:=cS5.fr (Fr.of_same s6)
   have zn:=QF (dr6 c 12) (show((ds4.map V.ref).length:Int)+2≠0 by omega)
   refine⟨_,rfl,_,rfl,_,rfl,_,rfl,c,12,rfl,by decide,by decide,_,rfl,w,_,rfl,.inl (SqL.of W6.hw.1),_,_,rfl,rfl,_,_,rfl,rfl,(by show(0:Int)<((ds4.map V.ref).length:Int)+2;omega),a,w,k6,_,F4,x4,ds4,kvs4,rfl,W6,zn,λH7 F7 W7 f7=>⟨_,rfl,c7 ?_⟩⟩
   obtain⟨hp7,op7⟩:=f7.wh _ _ op4 hp6
   exact⟨_,_,F7,x4,ds4,kvs4,rfl,W7,by omega,by omega,hp7,op7,cS6.fr f7.wh⟩
  obtain⟨v3,v4,F,x,ds,kvs,rfl,W,l1,l2,_,_,_⟩:=w'
  rw[Q2]at l1
  have now40:x.now≤40:=by omega
  clear hlen lcs ecs h1 o1 c3 W3 l1
  have ln:=W.ln
  refine λq0 nq=>?_
  have nq1:¬F q0:=W.A.out nq
  have ndq:q0∉ds:=λz=>by
   obtain⟨j,hj⟩:=QD.mp z
   have:=(Q3.mp hj).1
   obtain⟨kv,hkv⟩:∃kv,kvs[j]?=some kv:=⟨_,Q4 (by omega)⟩
   have:=(W.tb j q0 kv hj hkv).di
   rw[nq]at this
   cases this
  have W1:=W.same (am (o:= .dK []) nq)
  have hq1:upd H' q0 (.dK []) q0=some (.dK []):=af
  (try dsimp only)
  generalize upd H' q0 (.dK [])=H4 at W1 hq1⊢
  clear W nq
  have offd:∀{H:Hp} {F:Addr→Prop} {kv kv':List (Key×V)},W46 K t H a w F x ds kvs→H q0=some (.dK kv)→¬F q0→W46 K t (upd H q0 (.dK kv')) a w F x ds kvs:=λW h n=>W.off h (λ_ z=>by cases z) (λ_ z=>by cases z) n ndq λb o nb e=>by rw[ac nb];exact e
  refine⟨_,rfl,w,rfl,⟨_,SqL.of W1.hw.1⟩,pK (K:=K) (a:=w) (xs:=ds.map V.ref) (λi σ H'=>∃(kk:List (Key×V)) (v6:Option V),σ=[some (.ref sc),some (.ref a),some (.ref w),v3,v4,some (.ref q0),v6,none]∧W46 K t H' a w F x ds kvs∧H' q0=some (.dK kk)∧kk.length≤64*i∧∀p∈kk,∃z:Int,p.1=Sum.inl z) ⟨[],none,rfl,W1,hq1,Qk _,λp hp=>by cases hp⟩ (λi σ H' _ w'=>by obtain⟨_,_,_,W,_⟩:=w';exact SqL.of W.hw.1) (λi z σ H' hz w'=>?_) (λσ H' w'=>?_)⟩
  ·obtain⟨kk,v6,rfl,W,hq,lk,ik⟩:=w'
   have hi:=(Q3.mp hz).1
   rw[Q2]at hi
   obtain⟨d',hd',rfl⟩:∃d',ds[i]?=some d'∧z= .ref d':=by
    rw[Qc]at hz
    cases c:ds[i]? with
    |none=>rw[c]at hz;cases hz
    |some y=>rw[c]at hz;cases hz;exact⟨y,rfl,rfl⟩
   obtain⟨kv,hkv⟩:∃kv,kvs[i]?=some kv:=⟨_,Q4 (by omega)⟩
   have T0:=W.tb i d' kv hd' hkv
   have lm:=nJ (more:=ay kv) (kvs:=kk)
   have lv:=T0.le
   rw[bp]at lm
   refine⟨_,rfl,.inr (.inr (.inl ⟨rfl,.inl ⟨_,hq⟩⟩)),_,rfl,q0,d',kk,ay kv,rfl,rfl,(λz=>ndq (z▸Q0 hd')),hq,T0.di,?_,?_⟩
   ·rw[bp]
    exact QO (be (by omega))
   ·exact⟨_,_,rfl,offd W hq nq1,af,by omega,uk ik⟩
  obtain⟨kk,v6,rfl,W,hq,lk,ik⟩:=w'
  clear W1 hq1
  have lw:=ln.1
  refine⟨_,rfl,w,_,rfl,.inl (SqL.of W.hw.1),_,_,rfl,rfl,?_⟩
  rw[Q2]
  refine⟨(ds.length:Int)+1,rfl,by omega,by omega,tM (n:=((ds.length:Int)+1).toNat) (λi σ H'=>∃(F:Addr→Prop) (v4 v7:Option V),σ=[some (.ref sc),some (.ref a),some (.ref w),v3,v4,some (.ref q0),v6,v7]∧W46 K t H' a w F x ds kvs∧H' q0=some (.dK kk)∧¬F q0) ⟨F,_,_,rfl,W,hq,nq1⟩ (λi σ H5 hi w'=>?_) (λσ H5 w'=>?_)⟩
  ·clear W hq nq1
   obtain⟨F,v4,v7,rfl,W,hq,nq1⟩:=w'
   have froz:∀{H:Hp} {F:Addr→Prop} {ob:Obj} {kv:List (Key×V)},W46 K t H a w F x ds kvs→H q0=some (.frz ob (.dK kv))→¬F q0→W46 K t (upd H q0 (.dK kv)) a w F x ds kvs:=λW h n=>W.off h (λ_ z=>by cases z) (λ_ z=>by cases z) n ndq λb o nb e=>by rw[ac nb];exact e
   show yC (zO _) _ _ _ H5
   refine l9 (λσ H'=>∃(F:Addr→Prop) (v4:Option V),σ=[some (.ref sc),some (.ref a),some (.ref w),v3,v4,some (.ref q0),v6,some (.int (0+(i:Int)))]∧W46 K t H' a w F x ds kvs∧H' q0=some (.dK kk)∧¬F q0) (λnx go=>?_) (λσ H6 w'=>?_)
   ·refine⟨q0,_,hq,_,rfl,q0,_,rfl,hq,λob=>pL (ob:=ob) (d:=q0) (kvs:=kk) (λj σ H'=>∃(F:Addr→Prop) (v4:Option V),σ=[some (.ref sc),some (.ref a),some (.ref w),v3,v4,some (.ref q0),v6,some (.int (0+(i:Int)))]∧W46 K t H' a w F x ds kvs∧H' q0=some (.frz ob (.dK kk))∧¬F q0) ⟨F,_,rfl,W.off hq (λ_ z=>by cases z) (λ_ z=>by cases z) nq1 ndq λb o nb e=>by rw[ac nb];exact e,af,nq1⟩ (λj σ H' _ w'=>by obtain⟨_,_,_,_,h,_⟩:=w';exact h) (λj k v σ H' hk w'=>?_) (λσ H' w'=>?_)⟩
    ·obtain⟨F',v4',rfl,W',hq',nq'⟩:=w'
     obtain⟨z,ez⟩:=ik (k,v) (Q0 hk)
     have ez:k=Sum.inl z:=ez
     subst ez
     exact⟨_,rfl,_,rfl,_,rfl,_,rfl,a,w,z,0+(i:Int),F',x,ds,kvs,rfl,W',by omega,λH7 F7 W7 f7=>⟨_,rfl,c7 ⟨F7,_,rfl,W7,(f7 _ _ nq' hq').1,(f7 _ _ nq' hq').2⟩⟩⟩
    ·obtain⟨F',v4',rfl,W',hq',nq'⟩:=w'
     exact⟨ob,hq',go _ _ ⟨F',_,rfl,froz W' hq' nq',af,nq'⟩⟩
   clear W hq nq1 froz
   obtain⟨F,v4,rfl,W,hq,nq1⟩:=w'
   obtain⟨dx,fs,hi',hm,hn,hf⟩:=W.A.ins
   have done:∀{H':Hp},Same H6 H'→∃(F:Addr→Prop) (v4' v7:Option V),[some (V.ref sc),some (.ref a),some (.ref w),v3,v4,some (.ref q0),v6,some (.int (0+(i:Int)))]=[some (.ref sc),some (.ref a),some (.ref w),v3,v4',some (.ref q0),v6,v7]∧W46 K t H' a w F x ds kvs∧H' q0=some (.dK kk)∧¬F q0:=λs=>⟨F,v4,_,rfl,W.same s,s _ _ hq,nq1⟩
   refine⟨_,rfl,a,_,dx,fs,_,rfl,hi',T.al,T.bE,hf,_,rfl,_,_,rfl,rfl,_,rfl,?_⟩
   by_cases c1:x.fl≤0+(i:Int)
   ·refine fZ c1 ⟨_,rfl,w,_,rfl,.inl (SqL.of W.hw.1),_,_,rfl,rfl,_,rfl,?_⟩
    by_cases c2:0+(i:Int)<((ds.map V.ref).length:Int)
    ·refine fZ c2 ?_
     rw[Q2]at c2
     obtain⟨d',hd'⟩:∃d',ds[i]?=some d':=⟨_,Q4 (by omega)⟩
     obtain⟨kv,hkv⟩:∃kv,kvs[i]?=some kv:=⟨_,Q4 (by omega)⟩
     have at1:atI (ds.map V.ref) (0+(i:Int))=some (.ref d'):=by
      rw[Int.zero_add]
      exact kg (by rw[Qc,hd'];rfl)
     have va:=W.va i kv hkv (by omega)
     rw[show(i:Int)=0+(i:Int) by omega]at va
     have kdn:(x.pa.map (·.k)).Nodup:=by
      obtain⟨s,l,wr,p,h,Fs,Fl,B,O,g⟩:=W.A
      exact B.o.kd
     have pl:=W.A.ok.pl
     refine⟨_,rfl,a,dx,fs,rfl,hi',hm _ (by decide+kernel),_,rfl,λp dp np ndp npd=>?_⟩
     refine⟨p,dp,rfl,af,λH7 kp TK=>⟨rfl,?_⟩⟩
     have s7:Same H6 H7:=λb o e=>kp b o (aj e np) (by rw[ac (aj e np),ac (aj e ndp)];exact e)
     have W7:=W.same s7
     refine⟨a,p,0+(i:Int),F,x,rfl,W7.A,TK,c1,by omega,by omega,kdn,λe he=>W.pk _ (Zx he),λH8 r g ts s8 hr hg tu ri mz=>?_⟩
     have W8:=W7.same s8
     have T8:=W8.tb i d' kv hd' hkv
     obtain⟨nz,ez⟩:=uA T8.iv
     have ti:H8 d'=some (.dK (ivs nz)):=by
      have h:=T8.di
      rw[ez]at h
      unfold ay at h
      rw[Qy]at h
      exact h
     refine⟨_,rfl,_,rfl,w,_,_,_,rfl,rfl,SqL.of W8.hw.1,at1,?_⟩
     refine⟨.inr (.inr (.inl ⟨rfl,.inl ⟨_,ti⟩⟩)),d',_,rfl,rfl,ti,λvw nv=>⟨vw,d',nz,rfl,af,am nv _ _ ti,?_,λH9 l es s9 nl hl eu pm pw=>⟨(by show 2≤sizeLine;decide),λtp ntp=>?_⟩⟩⟩
     ·have:=T8.le
      rw[ez,Q2]at this
      omega
     have s10:=(am (o:=vwO vw d') nv).trans (s9.trans (am (o:= .tup [.ref l,.non]) ntp))
     have s11:=am (o:= .tup [.ref l,.non]) ntp
     have tkv:=za ez T8.nd va ri mz (λe he=>(tu e he).2) pm pw
     have lts:ts.length=es.length:=by simpa using congrArg List.length tkv
     refine⟨r,tp,_,_,rfl,rfl,.inr ⟨SqT.of (s10 _ _ hr),SqT.of af⟩,rfl,λj u v hu hv=>?_,_,rfl,c7 (done ((s7.trans s8).trans s10))⟩
     rcases j with _|_|j
     ·cases hu
      cases hv
      refine .inr ⟨g,l,_,_,rfl,rfl,.inl ⟨SqL.of (s10 _ _ hg),SqL.of (s11 _ _ hl)⟩,by rw[Q2,Q2,lts],λj u v hu hv=>?_⟩
      rw[Qc]at hu hv
      cases c3:ts[j]? with
      |none=>rw[c3]at hu;cases hu
      |some u1=>
       cases c4:es[j]? with
       |none=>rw[c4]at hv;cases hv
       |some e1=>
        rw[c3]at hu
        rw[c4]at hv
        cases hu
        cases hv
        have ee:=congrArg (λl:List (Int×V)=>l[j]?) tkv
        rw[Qc,Qc,c3,c4]at ee
        have e3:u1.kv=(e1.2.1,V.int e1.2.2):=Option.some.inj ee
        have e4:u1.k=e1.2.1:=congrArg Prod.fst e3
        have e5:u1.v= .int e1.2.2:=congrArg Prod.snd e3
        have h1:=s10 _ _ (tu u1 (Q0 c3)).1
        have h2:=s11 _ _ (eu e1 (Q0 c4)).2
        rw[e4,e5]at h1
        refine .inr ⟨u1.p,e1.1,_,_,rfl,rfl,.inr ⟨SqT.of h1,SqT.of h2⟩,rfl,λj u v hu hv=> .inl ?_⟩
        rcases j with _|_|j
        ·cases hu;cases hv;exact⟨True.intro,rfl⟩
        ·cases hu;cases hv;exact⟨True.intro,rfl⟩
        ·cases hu
     ·cases hu
      cases hv
      exact .inl ⟨True.intro,rfl⟩
     ·cases hu
    ·exact bP c2 (done (Same.refl _))
   ·exact bP c1 ⟨_,rfl,c7 (done (Same.refl _))⟩
  ·obtain⟨F,v4,v7,rfl,W,hq,nq1⟩:=w'
   obtain⟨dx,fs,hi,hm,hn,hf⟩:=W.A.ins
   refine⟨_,rfl,a,_,dx,fs,_,rfl,hi,T.al,T.bi,hn,_,rfl,w,_,rfl,.inl (SqL.of W.hw.1),_,_,rfl,rfl,rfl,?_⟩
   have e:x.now=((ds.map V.ref).length:Int)-1:=by
    rw[Q2]
    omega
   show Q (.bl (decide (V.int x.now=V.int (((ds.map V.ref).length:Int)-1)))) _
   rw[←e,decide_eq_true rfl]
   exact q _
end
end SW
namespace ZK
open PySem PySem.W SW L2
theorem fM {P:Params} {x qual:Str} {st:Stmt} {a:Addr} {kV doc pm cdv ct:Value} {an:Option Addr} (l:(K P).lookup a=some (f (D x qual st N kV doc pm an cdv ct)):=by kernel_rfl) (c:codeIn (K P) cdv qual=true:=by kernel_rfl) (k:keepIn (K P) (.ref a)=true:=by kernel_rfl):Fun (K P) x qual st a (D x qual st N kV doc pm an cdv ct):=A9 l c k
theorem nA {P:Params} {C:Addr} {x:Str} (h:findIn (K P) (.ref C) x=some none:=by kernel_rfl):NoAttr (K P) C x:=h
theorem fT {P:Params} {x qual:Str} {st:Stmt} {a b:Addr} {kV doc pm cdv ct:Value} {an:Option Addr} (l:(K P).lookup a=some (f (D x qual st (R b) kV doc pm an cdv ct)):=by kernel_rfl) (c:codeIn (K P) cdv qual=true:=by kernel_rfl) (k:keepIn (K P) (.ref a)=true:=by kernel_rfl):Bm (K P) x qual st b a (D x qual st (R b) kV doc pm an cdv ct):=uC l c k
theorem fU {P:Params} {x qual:Str} {st:Stmt} {a b:Addr} {kV doc pm cdv ct:Value} {an:Option Addr} (l:(K P).lookup a=some (f (D x qual st (R b) kV doc pm an cdv ct)):=by kernel_rfl) (c:codeIn (K P) cdv qual=true:=by kernel_rfl) (k:keepIn (K P) (.ref a)=true:=by kernel_rfl):FunD (K P) x qual st a (D x qual st (R b) kV doc pm an cdv ct):=(uC l c k).1
theorem Bk {P:Params}:(K P).lookup 186=some ⟨(T "tuple"),none,.seq #[(.int 0 420),N] 0, #[]⟩:=by kernel_rfl
theorem T610 {P:Params}:(K P).lookup 610=some ⟨(T "tuple"),none,.seq #[(.int 10 959)] 0, #[]⟩:=by kernel_rfl
end ZK
namespace SW
open PySem L2
set_option maxHeartbeats 0
theorem us1 {α:Type} {us:List α} (hl:us.length=1):∃x0,us=[x0]:=by rcases us with _|⟨x0,_|⟨y,t⟩⟩<;>first|exact⟨_,rfl⟩|simp at hl
theorem us2 {α:Type} {us:List α} (hl:us.length=2):∃x0 x1,us=[x0,x1]:=by rcases us with _|⟨x0,_|⟨x1,_|⟨y,t⟩⟩⟩<;>first|exact⟨_,_,rfl⟩|simp at hl
theorem us3 {α:Type} {us:List α} (hl:us.length=3):∃x0 x1 x2,us=[x0,x1,x2]:=by rcases us with _|⟨x0,_|⟨x1,_|⟨x2,_|⟨y,t⟩⟩⟩⟩<;>first|exact⟨_,_,_,rfl⟩|simp at hl
theorem us4 {α:Type} {us:List α} (hl:us.length=4):∃x0 x1 x2 x3,us=[x0,x1,x2,x3]:=by rcases us with _|⟨x0,_|⟨x1,_|⟨x2,_|⟨x3,_|⟨y,t⟩⟩⟩⟩⟩<;>first|exact⟨_,_,_,_,rfl⟩|simp at hl
open ZK in
theorem txt {P:Params} {h:Heap} {mg:Str→Option Value} (X:(ZK.K P).In h) (G:h.Ns mainGlobals mg):Txt (ZK.K P) mg ZK.t:=⟨Qh X G (by kernel_rfl),
  Qh X G (by kernel_rfl),
  Qh X G (by kernel_rfl),
  Qh X G (by kernel_rfl),
  Qh X G (by kernel_rfl),
  Qh X G (by kernel_rfl),
  Qh X G (by kernel_rfl),
  Qh X G (by kernel_rfl),
  Qh X G (by kernel_rfl),
  Qh X G (by kernel_rfl),
  Qh X G (by kernel_rfl),
  Qh X G (by kernel_rfl),
  Qh X G (by kernel_rfl),
  ZK.fM,
  .all λus hl=>by obtain⟨_,_,rfl⟩:=us2 hl;rfl,
  ZK.fM,
  .all λus hl=>by obtain⟨_,_,rfl⟩:=us2 hl;rfl,
  ZK.fM,
  .all λus hl=>by obtain⟨_,_,rfl⟩:=us2 hl;rfl,
  ZK.fM,
  .all λus hl=>by obtain⟨_,_,rfl⟩:=us2 hl;rfl,
  Qh X G (by kernel_rfl),
  ZK.fM,
  .all λus hl=>by obtain⟨_,rfl⟩:=us1 hl;rfl,
  Qh X G (by kernel_rfl),
  ZK.fM,
  .all λus hl=>by obtain⟨_,_,rfl⟩:=us2 hl;rfl,
  Qh X G (by kernel_rfl),
  ZK.fM,
  .all λus hl=>by obtain⟨_,rfl⟩:=us1 hl;rfl,
  Qh X G (by kernel_rfl),
  ZK.fM,
  .all λus hl=>by obtain⟨_,_,rfl⟩:=us2 hl;rfl,
  ZK.fM,
  .all λus hl=>by obtain⟨_,_,_,_,rfl⟩:=us4 hl;rfl,
  ZK.fU,
  oe (ds:=[]) 3 rfl (fT (a:=193)) Bk λ_ _ _ _ _ _ us hl=>by obtain⟨_,_,_,rfl⟩:=us3 hl;exact⟨_,rfl,rfl⟩,
  ⟨_,oe (ds:=[N]) 2 rfl (fT (a:=193)) Bk λ_ _ _ _ _ _ us hl=>by obtain⟨_,_,rfl⟩:=us2 hl;exact⟨_,rfl,rfl⟩,(.cons rfl .nil)⟩,
  ⟨_,oe (ds:=[(.int 0 420),N]) 1 rfl (fT (a:=193)) Bk λ_ _ _ _ _ _ us hl=>by obtain⟨_,rfl⟩:=us1 hl;exact⟨_,rfl,rfl⟩,(.cons ⟨_,rfl⟩ (.cons rfl .nil))⟩,
  ZK.fM,
  .all λus hl=>by obtain⟨_,_,rfl⟩:=us2 hl;rfl,
  Qh X G (by kernel_rfl),
  ZK.fM,
  .all λus hl=>by obtain⟨_,_,_,rfl⟩:=us3 hl;rfl,
  Qh X G (by kernel_rfl),
  ZK.fM,
  .all λus hl=>by obtain⟨_,_,_,rfl⟩:=us3 hl;rfl,
  ZK.fM,
  .all λus hl=>by obtain⟨_,rfl⟩:=us1 hl;rfl,
  ZK.fM,
  .all λus hl=>by obtain⟨_,_,rfl⟩:=us2 hl;rfl,
  ZK.fM,
  .all λus hl=>by obtain⟨_,_,rfl⟩:=us2 hl;rfl,
  ZK.fM,
  .all λus hl=>by obtain⟨_,_,rfl⟩:=us2 hl;rfl,
  ZK.fM,
  .all λus hl=>by obtain⟨_,rfl⟩:=us1 hl;rfl,
  ZK.fM,
  .all λus hl=>by obtain⟨_,_,_,rfl⟩:=us3 hl;rfl,
  ZK.fM,
  .all λus hl=>by obtain⟨_,_,rfl⟩:=us2 hl;rfl,
  ZK.fM,
  .all λus hl=>by obtain⟨_,_,rfl⟩:=us2 hl;rfl,
  ZK.fM,
  .all λus hl=>by obtain⟨_,_,rfl⟩:=us2 hl;rfl,
  ZK.fM,
  .all λus hl=>by obtain⟨_,rfl⟩:=us1 hl;rfl,
  ZK.fM,
  .all λus hl=>by obtain⟨_,_,_,rfl⟩:=us3 hl;rfl,
  ZK.fM,
  .all λus hl=>by obtain⟨_,_,rfl⟩:=us2 hl;rfl,
  ZK.fM,
  .all λus hl=>by obtain⟨_,_,rfl⟩:=us2 hl;rfl,
  Qh X G (by kernel_rfl),
  ZK.fM,
  .all λus hl=>by obtain⟨_,rfl⟩:=us1 hl;rfl,
  ZK.fM,
  .all λus hl=>by obtain⟨_,rfl⟩:=us1 hl;rfl,
  ZK.fM,
  .all λus hl=>by obtain⟨_,_,_,rfl⟩:=us3 hl;rfl,
  ZK.fM,
  .all λus hl=>by obtain⟨_,_,rfl⟩:=us2 hl;rfl,
  ZK.fM,
  .all λus hl=>by obtain⟨_,_,rfl⟩:=us2 hl;rfl,
  ZK.fM,
  .all λus hl=>by obtain⟨_,rfl⟩:=us1 hl;rfl,
  ZK.fM,
  .all λus hl=>by obtain⟨_,_,rfl⟩:=us2 hl;rfl,
  ZK.fM,
  .all λus hl=>by obtain⟨_,rfl⟩:=us1 hl;rfl,
  ZK.fM,
  .all λus hl=>by obtain⟨_,rfl⟩:=us1 hl;rfl,
  ZK.fM,
  .all λus hl=>by obtain⟨_,rfl⟩:=us1 hl;rfl,
  ZK.fM,
  .all λus hl=>by obtain⟨_,_,_,rfl⟩:=us3 hl;rfl,
  ZK.fM,
  .all λus hl=>by obtain⟨_,_,rfl⟩:=us2 hl;rfl,
  ZK.fM,
  .all λus hl=>by obtain⟨_,rfl⟩:=us1 hl;rfl,
  ZK.fM,
  .all λus hl=>by obtain⟨_,_,rfl⟩:=us2 hl;rfl,
  ZK.fM,
  .all λus hl=>by obtain⟨_,rfl⟩:=us1 hl;rfl,
  ZK.fM,
  .all λus hl=>by obtain⟨_,rfl⟩:=us1 hl;rfl,
  ZK.fM,
  .all λus hl=>by obtain⟨_,_,_,rfl⟩:=us3 hl;rfl,
  ZK.fU,
  oe (ds:=[]) 4 rfl (fT (a:=615)) T610 λ_ _ _ _ _ _ us hl=>by obtain⟨_,_,_,_,rfl⟩:=us4 hl;exact⟨_,rfl,rfl⟩,
  ⟨_,oe (ds:=[(.int 10 959)]) 3 rfl (fT (a:=615)) T610 λ_ _ _ _ _ _ us hl=>by obtain⟨_,_,_,rfl⟩:=us3 hl;exact⟨_,rfl,rfl⟩,(.cons ⟨_,rfl⟩ .nil)⟩,
  ZK.fM,
  .all λus hl=>by obtain⟨_,_,_,rfl⟩:=us3 hl;rfl,
  ZK.fM,
  .all λus hl=>by obtain⟨_,_,rfl⟩:=us2 hl;rfl,
  ZK.fM,
  .all λus hl=>by obtain⟨_,_,_,rfl⟩:=us3 hl;rfl,
  Qh X G (by kernel_rfl),
  ZK.fM,
  .all λus hl=>by obtain⟨_,_,rfl⟩:=us2 hl;rfl,
  Qh X G (by kernel_rfl),
  ZK.fM,
  .all λus hl=>by obtain⟨_,_,rfl⟩:=us2 hl;rfl,
  Qh X G (by kernel_rfl),
  ZK.fM,
  .all λus hl=>by obtain⟨_,rfl⟩:=us1 hl;rfl,
  Qh X G (by kernel_rfl),
  ZK.fM,
  .all λus hl=>by obtain⟨_,_,_,rfl⟩:=us3 hl;rfl,
  Qh X G (by kernel_rfl),
  ZK.fM,
  .all λus hl=>by obtain⟨_,_,_,rfl⟩:=us3 hl;rfl,
  Qh X G (by kernel_rfl),
  ZK.fM,
  .all λus hl=>by obtain⟨_,_,_,_,rfl⟩:=us4 hl;rfl,
  Qh X G (by kernel_rfl),
  ZK.fM,
  .all λus hl=>by obtain⟨_,rfl⟩:=us1 hl;rfl,
  ⟨⟨_,_,_,_,_,_,_,_,_,_,_,_,_,_,(by rfl)⟩,⟨[],rfl⟩,(by kernel_rfl),(by kernel_rfl),(by kernel_rfl),(by kernel_rfl)⟩,
  ⟨⟨_,_,_,_,_,_,_,_,_,_,_,_,_,_,(by rfl)⟩,⟨[ZK.t.a4],rfl⟩,(by kernel_rfl),(by kernel_rfl),(by kernel_rfl),(by kernel_rfl)⟩,
  ZK.nA,
  ⟨⟨_,_,_,_,_,_,_,_,_,_,_,_,_,_,(by rfl)⟩,⟨[ZK.t.a4],rfl⟩,(by kernel_rfl),(by kernel_rfl),(by kernel_rfl),(by kernel_rfl)⟩,
  ZK.nA,
  ⟨⟨_,_,_,_,_,_,_,_,_,_,_,_,_,_,(by rfl)⟩,⟨[ZK.t.a4],rfl⟩,(by kernel_rfl),(by kernel_rfl),(by kernel_rfl),(by kernel_rfl)⟩,
  ZK.nA,
  ⟨⟨_,_,_,_,_,_,_,_,_,_,_,_,_,_,(by rfl)⟩,⟨[ZK.t.a4],rfl⟩,(by kernel_rfl),(by kernel_rfl),(by kernel_rfl),(by kernel_rfl)⟩,
  ⟨(by kernel_rfl),(by kernel_rfl),(by kernel_rfl),(by kernel_rfl)⟩,
  (by kernel_rfl),
  (by kernel_rfl),
  ZK.nA,
  ⟨⟨_,_,_,_,_,_,_,_,_,_,_,_,_,_,(by rfl)⟩,⟨[ZK.t.a4],rfl⟩,(by kernel_rfl),(by kernel_rfl),(by kernel_rfl),(by kernel_rfl)⟩,
  ⟨(by kernel_rfl),(by kernel_rfl),(by kernel_rfl),(by kernel_rfl)⟩,
  (by kernel_rfl),
  (by kernel_rfl),
  ZK.nA,
  ZK.nA,
  ZK.nA,
  ⟨(by kernel_rfl),(by kernel_rfl),(by kernel_rfl),(by kernel_rfl)⟩,
  ⟨(by kernel_rfl),(by kernel_rfl),(by kernel_rfl),(by kernel_rfl)⟩,
  ⟨(by kernel_rfl),(by kernel_rfl),(by kernel_rfl),(by kernel_rfl)⟩,
  ju (by kernel_rfl) (by kernel_rfl) (by kernel_rfl) (λz=>absurd z (by decide)),
  ZK.nA,
  ZK.nA,
  ZK.nA,
  ⟨(by kernel_rfl),(by kernel_rfl),(by kernel_rfl),(by kernel_rfl)⟩,
  ⟨(by kernel_rfl),(by kernel_rfl),(by kernel_rfl),(by kernel_rfl)⟩,
  ⟨(by kernel_rfl),(by kernel_rfl),(by kernel_rfl),(by kernel_rfl)⟩,
  ju (by kernel_rfl) (by kernel_rfl) (by kernel_rfl) (λ_=>rfl),
  ⟨(by kernel_rfl),(by kernel_rfl),(by kernel_rfl)⟩,
  ZK.nA,
  ZK.nA,
  ZK.nA,
  ⟨(by kernel_rfl),(by kernel_rfl),(by kernel_rfl),(by kernel_rfl)⟩,
  ⟨(by kernel_rfl),(by kernel_rfl),(by kernel_rfl),(by kernel_rfl)⟩,
  ju (by kernel_rfl) (by kernel_rfl) (by kernel_rfl) (λz=>absurd z (by decide)),
  ZK.nA,
  ⟨(by kernel_rfl),(by kernel_rfl),(by kernel_rfl),(by kernel_rfl)⟩,
  ⟨(by kernel_rfl),(by kernel_rfl),(by kernel_rfl),(by kernel_rfl)⟩,
  ⟨(by kernel_rfl),(by kernel_rfl),(by kernel_rfl),(by kernel_rfl)⟩,
  ju (by kernel_rfl) (by kernel_rfl) (by kernel_rfl) (λz=>absurd z (by decide)),
  ⟨(by kernel_rfl),(by kernel_rfl),(by kernel_rfl)⟩,
  ⟨(by kernel_rfl),(by kernel_rfl),(by kernel_rfl)⟩,
  ⟨(by kernel_rfl),(by kernel_rfl),(by kernel_rfl)⟩,
  ⟨(by kernel_rfl),(by kernel_rfl),(by kernel_rfl)⟩,
  ⟨(by kernel_rfl),(by kernel_rfl),(by kernel_rfl)⟩,
  ⟨(by kernel_rfl),(by kernel_rfl),(by kernel_rfl)⟩,
  ⟨(by kernel_rfl),(by kernel_rfl),(by kernel_rfl)⟩,
  ⟨(by kernel_rfl),(by kernel_rfl),(by kernel_rfl)⟩,
  ZK.nA,
  ⟨(by kernel_rfl),(by kernel_rfl),(by kernel_rfl),(by kernel_rfl)⟩,
  ⟨(by kernel_rfl),(by kernel_rfl),(by kernel_rfl),(by kernel_rfl)⟩,
  ⟨(by kernel_rfl),(by kernel_rfl),(by kernel_rfl),(by kernel_rfl)⟩,
  ju (by kernel_rfl) (by kernel_rfl) (by kernel_rfl) (λz=>absurd z (by decide)),
  ⟨(by kernel_rfl),(by kernel_rfl),(by kernel_rfl)⟩,
  ⟨(by kernel_rfl),(by kernel_rfl),(by kernel_rfl)⟩,
  ⟨(by kernel_rfl),(by kernel_rfl),(by kernel_rfl)⟩,
  ZK.nA,
  ZK.nA,
  ZK.nA,
  ⟨(by kernel_rfl),(by kernel_rfl),(by kernel_rfl),(by kernel_rfl)⟩,
  ⟨(by kernel_rfl),(by kernel_rfl),(by kernel_rfl),(by kernel_rfl)⟩,
  ⟨(by kernel_rfl),(by kernel_rfl),(by kernel_rfl),(by kernel_rfl)⟩,
  ju (by kernel_rfl) (by kernel_rfl) (by kernel_rfl) (λz=>absurd z (by decide)),
  ⟨(by kernel_rfl),(by kernel_rfl),(by kernel_rfl)⟩,
  ⟨(by kernel_rfl),(by kernel_rfl),(by kernel_rfl)⟩,
  ⟨(by kernel_rfl),(by kernel_rfl),(by kernel_rfl)⟩,
  ⟨(by kernel_rfl),(by kernel_rfl),(by kernel_rfl)⟩,
  ⟨(by kernel_rfl),(by kernel_rfl),(by kernel_rfl)⟩,
  ⟨(by kernel_rfl),(by kernel_rfl),(by kernel_rfl)⟩,
  ⟨(by kernel_rfl),(by kernel_rfl),(by kernel_rfl)⟩,
  ZK.nA,
  ZK.nA,
  ZK.nA,
  ZK.nA,
  ZK.nA,
  ZK.nA,
  ZK.nA,
  ZK.nA,
  ⟨(by kernel_rfl),(by kernel_rfl),(by kernel_rfl),(by kernel_rfl)⟩,
  ⟨(by kernel_rfl),(by kernel_rfl),(by kernel_rfl),(by kernel_rfl)⟩,
  ⟨(by kernel_rfl),(by kernel_rfl),(by kernel_rfl),(by kernel_rfl)⟩,
  ju (by kernel_rfl) (by kernel_rfl) (by kernel_rfl) (λz=>absurd z (by decide)),
  ⟨(by kernel_rfl),(by kernel_rfl),(by kernel_rfl)⟩,
  ⟨(by kernel_rfl),(by kernel_rfl),(by kernel_rfl)⟩,
  ⟨(by kernel_rfl),(by kernel_rfl),(by kernel_rfl)⟩,
  ⟨(by kernel_rfl),(by kernel_rfl),(by kernel_rfl)⟩,
  ⟨(by kernel_rfl),(by kernel_rfl),(by kernel_rfl)⟩,
  ⟨(by kernel_rfl),(by kernel_rfl),(by kernel_rfl)⟩,
  ⟨(by kernel_rfl),(by kernel_rfl),(by kernel_rfl)⟩,
  ⟨(by kernel_rfl),(by kernel_rfl),(by kernel_rfl)⟩,
  ⟨(by kernel_rfl),(by kernel_rfl),(by kernel_rfl)⟩,
  ⟨(by kernel_rfl),(by kernel_rfl),(by kernel_rfl)⟩,
  ⟨(by kernel_rfl),(by kernel_rfl),(by kernel_rfl)⟩,
  ⟨(by kernel_rfl),(by kernel_rfl),(by kernel_rfl)⟩,
  ⟨(by kernel_rfl),(by kernel_rfl),(by kernel_rfl)⟩,
  (by kernel_rfl),
  (by kernel_rfl),
  (by kernel_rfl),
  (by kernel_rfl),
  (by kernel_rfl),
  (by kernel_rfl),
  (by kernel_rfl),
  (by kernel_rfl),
  ⟨332,Qh X G (by kernel_rfl)⟩,
  ⟨503,Qh X G (by kernel_rfl)⟩,
  ⟨505,Qh X G (by kernel_rfl)⟩,
  ⟨677,Qh X G (by kernel_rfl)⟩,
  ⟨679,Qh X G (by kernel_rfl)⟩,
  Qx X G (by kernel_rfl),
  Qx X G (by kernel_rfl),
  Qx X G (by kernel_rfl),
  Qx X G (by kernel_rfl),
  Qx X G (by kernel_rfl),
  Qx X G (by kernel_rfl),
  Qx X G (by kernel_rfl),
  Qx X G (by kernel_rfl),
  Qx X G (by kernel_rfl),
  Qx X G (by kernel_rfl),
  Qx X G (by kernel_rfl),
  Qx X G (by kernel_rfl)⟩
theorem walk {l:PySem.W.OpenLaw} {q:Program} {loose:List Str} {XP:(Str→Option Value)→Heap→Prop} {YP:World→Heap→Prop} {d:DefRec} {K:Params→PySem.W.Frag} (hn:l.most=some 63) (hdf:d.params.defaults=[])
  (hY:∀(w:World) (h:Heap),YP w h→(K w.params).In h) (hd:d.name="law")
  (F:∀(w:World) (mg:Str→Option Value) (h:Heap),(K w.params).In h→h.Ns mainGlobals mg→∃t,Txt (K w.params) mg t):
  PySem.W.WalkO q loose XP YP l.row.toRowW d [] (λf vs=>PySem.call f vs):=by
 refine L2.walk_of (n:=63) (k:=8) (x:="_law_script") (CX:=λ_=>CX0) (sp:=λw=>wI (K w.params)) hn (by decide) hdf ⟨rfl,by decide,by decide⟩ hY (λw mg fa h KX G hfa=>?_) (λ_ _ a ns hl _ hS=>⟨a,ns,rfl,hS,hl,λ_=>rfl⟩) λ_ _ _ _ _ z=>z
 obtain⟨t,T⟩:=F w mg h KX G
 have e:=hfa.symm.trans ((congrArg mg hd).trans T.Cm)
 cases e
 obtain⟨oc,od,kV,doc,pm,an,cdv,ct,osl,e1,lk,hcd⟩:=T.Ci.ex
 refine⟨t.uH,λs u=>?_,λbase _ _=>AO T⟩
 rw[e1]
 exact .of_eq rfl
end SW
open PySem PySem.W PyProof.Rows
set_option maxRecDepth 100000 in
set_option maxHeartbeats 0 in
theorem PySem.Challenge.cw_staywalk_k46_whole_what_was_holds : PySem.Challenge.rw_staywalk_k46_whole_what_was.Holds := by
 w_on
 refine holds_law ZK.said λsaid=>?_
 refine holds_open (q:=ZK.q) (loose:=["Up","Down"]) (Xt:=λs=>xlAt ZK.q [] s&&recOk (RowW.records (OpenRow.toRowW (OpenLaw.row PySem.Challenge.rw_staywalk_k46_whole_what_was))) s) (XP:=XL ZK.q []) (Yf:=Hook.obs ZK.H) (Ya:=Hook.val ZK.H) (YP:=Hook.says ZK.H) ZK.left (Hook.of ZK.H) (Hook.keeps ZK.H) (λs e=>xl_of s (Bool.and_eq_true_iff.mp e).1) XL.keeps (by rfl) (by rfl) (by rfl) (λs e=>recFacts_of (Bool.and_eq_true_iff.mp e).2) (by rfl) (by first|assumption|decide+kernel) (by decide+kernel) ⟨rfl,rfl,rfl,rfl,rfl,by decide+kernel⟩ ?hw ?hc
 (case hw=>w_witness2)
 exact SW.walk (l:=PySem.Challenge.rw_staywalk_k46_whole_what_was) rfl rfl (λw h Y=>kIn_of Y) rfl λw mg h KX G=>⟨_,SW.txt KX G⟩
#print axioms PySem.Challenge.cw_staywalk_k46_whole_what_was_holds
