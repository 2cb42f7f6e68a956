import PyProof.Rows.All
import PySem.Challenge.RW_staywalk_k65_texts_that_are_no_house
import KE.KFromBytes
import KE.KIntText
import KE.KPairComp
import KE.KSortTup
import KE.KIsAll
import KE.KDictSum
import KE.KRevSl
import KE.LcSums
import KE.KDictOf
set_option Elab.async false
set_option linter.all false
set_option maxRecDepth 100000
set_option maxHeartbeats 0
abbrev z7:=@List.mem_of_getElem?
abbrev z8:=@List.length_map
abbrev za:=@List.getElem?_eq_some_iff
abbrev zb:=@Bool.false_ne_true
abbrev zc:=@List.getElem?_eq_getElem
abbrev zd:=@List.mem_append
abbrev zf:=@List.mem_singleton
abbrev zg:=@Nat.le_refl
abbrev zh:=@List.mem_cons
abbrev zi:=@List.mem_cons_self
abbrev zj:=@List.mem_cons_of_mem
abbrev zk:=@List.length_append
abbrev zm:=@List.size_toArray
abbrev zo:=@List.map_append
abbrev zp:=@List.length_cons
abbrev zq:=@Nat.lt_of_lt_of_le
abbrev zr:=@List.map_cons
abbrev zt:=@List.mem_append_right
abbrev zu:=@List.length_take
abbrev zw:=@Bool.and_eq_true
abbrev zx:=@List.mem_map
abbrev zy:=@List.getElem?_set
abbrev zz:=@Int.emod_nonneg
abbrev zA:=@List.take_of_length_le
abbrev zB:=@Int.emod_lt_of_pos
abbrev zC:=@Nat.le_trans
abbrev zD:=@List.getElem?_map
abbrev zE:=@PySem.F.plainAttrs_str
abbrev zF:=@Nat.zero_le
abbrev zG:=@List.length_drop
abbrev zH:=@PySem.F.plainAttrs_list
abbrev zI:=@Nat.ne_of_lt
abbrev zJ:=@List.contains_cons
abbrev zK:=@PySem.W.kia_one
abbrev zL:=@List.length_set
abbrev zM:=@List.all_eq_true
abbrev zN:=@List.take_add_one
abbrev zO:=@List.getElem_of_mem
abbrev zP:=@PySem.F.slot_list_append
abbrev zQ:=@PySem.F.type_list_append
abbrev zR:=@List.mem_append_left
abbrev zS:=@List.eq_nil_of_length_eq_zero
abbrev zT:=@List.nodup_cons
abbrev zU:=@List.length_pos_iff
abbrev zV:=@Option.map_eq_some_iff
abbrev zW:=@Bool.true_and
abbrev zX:=@List.getD_eq_getElem?_getD
abbrev zY:=@List.length_replicate
abbrev zZ:=@List.take_append_drop
abbrev y3:=@List.length_filter_le
abbrev y4:=@List.pairwise_append
abbrev y6:=@List.eq_of_mem_replicate
abbrev y7:=@Option.bind_some
abbrev y8:=@List.not_mem_nil
abbrev y9:=@Nat.eq_zero_or_pos
abbrev yq:=@List.filter_append
abbrev yr:=@PySem.F.slot_str_split
abbrev yt:=@PySem.F.type_str_split
abbrev yu:=@PySem.W.mg_of
abbrev yv:=@Bool.and_false
abbrev yw:=@Array.getElem?_eq_some_iff
abbrev yx:=@List.nodup_nil
abbrev yy:=@List.mem_of_mem_take
abbrev yz:=@List.mem_of_mem_drop
abbrev yA:=@Nat.le_of_eq
abbrev yB:=@List.lookup_cons
abbrev yC:=@List.take_length
abbrev yD:=@List.flatten_append
abbrev yE:=@Nat.lt_irrefl
abbrev yF:=@List.find?_cons
abbrev yG:=@List.pairwise_cons
abbrev yH:=@Nat.le_succ
abbrev yI:=@Bool.false_and
abbrev yJ:=@Int.ne_of_gt
abbrev yK:=@List.flatten_cons
abbrev yL:=@List.length_singleton
abbrev yM:=@List.getElem_mem
abbrev yN:=@List.any_cons
abbrev yO:=@List.map_take
abbrev yP:=@List.sum_cons
abbrev yQ:=@Bool.eq_iff_iff
abbrev yR:=@List.map_congr_left
abbrev yS:=@Bool.or_true
abbrev yT:=@PySem.W.callWith_K
abbrev yU:=@List.getElem?_append_right
abbrev yV:=@Nat.lt_of_le_of_lt
abbrev yW:=@PySem.F.excBase_ValueError
abbrev yX:=@List.getElem?_append_left
abbrev yY:=@List.drop_eq_getElem_cons
abbrev yZ:=@List.ne_nil_of_length_pos
abbrev Q0:=@List.map_drop
abbrev Q1:=@List.getElem?_cons_succ
abbrev Q2:=@List.pairwise_singleton
abbrev Q3:=@Nat.le_of_lt
abbrev Q4:=@List.getElem?_set_self
abbrev Q5:=@List.drop_eq_nil_of_le
abbrev Q6:=@Option.map_some
abbrev Q7:=@PySem.F.slot_str_join
abbrev Q8:=@PySem.F.type_str_join
abbrev Q9:=@List.getElem?_set_ne
abbrev Qa:=@List.drop_zero
abbrev Qb:=@Int.le_refl
abbrev Qc:=@List.getElem?_append
abbrev Qd:=@Nat.pow_le_pow_right
abbrev Qe:=@List.filterMap_cons
abbrev Qf:=@PySem.W.plainGet_of
abbrev Qg:=@Bool.false_eq_true
abbrev Qh:=@List.getElem?_drop
abbrev Qi:=@Nat.ne_of_gt
abbrev Qj:=@Option.isSome_map
abbrev Qk:=@List.map_map
abbrev Ql:=@List.append_assoc
abbrev Qm:=@Nat.lt_succ_self
abbrev Qn:=@List.mem_flatten
abbrev Qo:=@List.of_mem_zip
abbrev Qp:=@PySem.F.slot_dict_setdefault
abbrev Qq:=@PySem.F.slot_str_startswith
abbrev Qr:=@PySem.F.type_str_startswith
abbrev Qs:=@Nat.not_lt
namespace L2
open PySem PySem.Spec PyProof.Rows
noncomputable def aU (s:Stmt) (j:Nat):Stmt:=match s with
 | .ClassDef _ _ _ body _ _ _ _ _ _ _=>body.getD j (.Pass ⟨0,0,0,0⟩)
 |_=> .Pass ⟨0,0,0,0⟩
noncomputable def jh (s:Stmt):Arguments:=match s with
 | .FunctionDef _ a _ _ _ _ _ _ _ _=>a
 |_=>{posonlyargs:=[],args:=[],vararg:=none,kwonlyargs:=[],kw_defaults:=[],kwarg:=none,defaults:=[]}
noncomputable def eS (s:Stmt):List Stmt:=match s with
 | .FunctionDef _ _ b _ _ _ _ _ _ _=>b
 |_=> []
noncomputable def ao (s:Stmt):Scope:=match s with
 | .FunctionDef _ _ _ _ _ _ sc _ _ _=>sc
 |_=>{kind:= .function,names:=[],isGenerator:=false,isCoroutine:=false}
end L2
namespace HD
open PySem PySem.W
noncomputable def uj (p:Program) (w:World) (n₀:Nat) (ann:Option Value):Nat->SharedT->Thread->Option SharedT
 |0,_,_=>none
 |n+1,s,t=>match through t with
  |true=>some s
  |false=>match Fast.tw6613529449190102663 n₀ ann t with
   |false=>none
   |true=>match Fast.tw10156331382660048174 (Fast.tw11892475500146522536 Fast.tw14364793385576792824) p w s t with
    |some (s',t')=>uj p w n₀ ann n s' t'
    |none=>none
theorem pJ {p:Program} {w:World} {n₀:Nat} {ann:Option Value}:∀{n:Nat} {s s':SharedT} {t:Thread},uj p w n₀ ann n s t=some s'->topRun treeTable p w n₀ ann n s.abs t=some s'.abs
 |0,_,_,_,h=>by cases h
 |n+1,s,s',t,h=>by
  unfold uj at h;rw[<-Fast.te6613529449190102663,<-Fast.te10156331382660048174,<-Fast.te11892475500146522536,<-Fast.te14364793385576792824]at h;unfold topRun;cases ht:through t with
  |true=>rw[ht]at h;cases h;rfl
  |false=>
   rw[ht]at h;cases hk:stepOk n₀ ann t with
   |false=>rw[hk]at h;cases h
   |true=>
    rw[hk]at h;cases hs:stepT (denote treeTable) p w s t with
    |none=>rw[hs]at h;cases h
    |some x=>
     obtain⟨s2,t2⟩:=x;rw[hs]at h;show(match step (denote treeTable) p w s.abs t with| .go s' t'=>topRun treeTable p w n₀ ann n s' t'| .halt _ _=>none)=_;rw[stepT_spec hs];exact pJ h
noncomputable def sB:List Obj->BT->Nat->Option (BT×Nat)
 | [],t,n=>some (t,n)
 |o::r,t,n=>match ((t.ins n o).get n).isSome with
  |true=>sB r (t.ins n o) (n+1)
  |false=>none
theorem pV {life:Life}:∀{l:List Obj} {t t':BT} {n n':Nat},sB l t n=some (t',n')->absHeap t' n' life=⟨(absHeap t n life).objs++l.toArray,life⟩
 | [],t,t',n,n',h=>by
  cases h;rw[Array.append_empty];rfl
 |o::r,t,t',n,n',h=>by
  unfold sB at h;cases g:((t.ins n o).get n).isSome with
  |false=>rw[g]at h;cases h
  |true=>
   rw[g]at h;rw[pV h,absHeap_ins g];show Heap.mk _ _=Heap.mk _ _;congr 1;show(absHeap t n life).objs.push o++r.toArray=_;rw[<-Array.append_singleton,Array.append_assoc];congr 1;simp
noncomputable def toT (s:Shared):Option SharedT:=match sB s.heap.objs.toList .nil 0 with
 |some (t,n)=>some ⟨t,n,s.heap.life,s.gens,s.drawn,s.toks,s.os⟩
 |none=>none
theorem vU {s:Shared} {S:SharedT} (h:toT s=some S):S.abs=s:=by
 unfold toT at h;cases e:sB s.heap.objs.toList .nil 0 with
 |none=>rw[e]at h;cases h
 |some x=>
  obtain⟨t,n⟩:=x;rw[e]at h;cases h;obtain⟨⟨objs,life⟩,gens,drawn,toks,os⟩:=s;show Shared.mk (absHeap t n life) _ _ _ _=_;rw[pV e];show Shared.mk (Heap.mk (#[]++objs.toList.toArray) life) _ _ _ _=_;rw[Array.toArray_toList,Array.empty_append]
noncomputable def wM (p:Program) (w:World) (N:Nat) (s₀:Shared):Option Shared:=match toT s₀ with
 |some S=>(uj p w S.n (s₀.heap.nsMap mainGlobals "__annotations__") N S (topStub p)).map SharedT.abs
 |none=>none
theorem uT {p:Program} {w:World} {N:Nat} {s₀ s₁:Shared} (h:wM p w N s₀=some s₁):topRun treeTable p w s₀.heap.objs.size (s₀.heap.nsMap mainGlobals "__annotations__") N s₀ (topStub p)=some s₁:=by
 unfold wM at h;cases e:toT s₀ with
 |none=>rw[e]at h;cases h
 |some S=>
  rw[e]at h;obtain⟨S1,h1,rfl⟩:=zV.mp h;have ea:=vU e;have en:S.n=s₀.heap.objs.size:=by
   rw[<-ea];exact(absHeap_size _ _ _).symm
  rw[en]at h1;have:=pJ h1;rw[ea]at this;exact this
noncomputable def endP (p:Program) (w:World) (N:Nat):Option Shared:=((Fast.tw10274390034422433532 Fast.tw14364793385576792824 (opening p) w N (start (opening p)).1 (start (opening p)).2).bind (Fast.tw14289696077712309145 p)).bind λs₀=>match s₀.heap.isNs mainGlobals&&s₀.gens.size==0 with
 |true=>(wM p w N s₀).bind λs₁=>match staticsOk (importedModules p.main.body) s₀.heap s₁.heap&&namesBound p s₁.heap&&gensDone s₁&&laidKept s₀.heap s₁.heap with
  |true=>some s₁
  |false=>none
 |false=>none
noncomputable def lA (p q:Program) (N:Nat) (w:World):=(endP p w N).map λs=>(Fast.tw5160383126252970620 (R.mapR (λx=>x.name) (Fast.tw3399658132070893891 q)) (Fast.tw5991557255702980513 q) [] {s with gens:= #[]},s.heap.bltView)
noncomputable def lB (p q:Program) (loose:List Str) (Xt:Shared->Bool) (N:Nat) (w:World):=(endP p w N).map λs=>(Fast.tw10880121769531294198 s.heap (Fast.tw821141287760084731 q loose) (R.mapR (λx=>x.name) (Fast.tw3399658132070893891 q)) (R.mapR (λx=>x.fst) (Fast.tw7409074990110511671 q)) (R.mapR (λx=>x.name) (Fast.tw13664370479719496447 q (Fast.tw821141287760084731 q loose)))&&Fast.tw14722251495701143533 s.heap (importedModules p.main.body)&&s.heap.isNs mainGlobals&&s.heap.isNs builtinsNs&&Fast.tw10994771534591457954 q s.heap&&Xt s&&(s.gens.size==0),Fast.tw479339242167458305 q s)
noncomputable def lC (p q:Program) (loose:List Str) (N:Nat) (w:World):=(endP p w N).map λs=>(Fast.tw16090120013241838585 q (Fast.tw3247288618530077131 q) s,Fast.tw2386780881361962483 q (Fast.tw821141287760084731 q loose) s,Fast.tw11698064438423848299 q loose s,Fast.tw7317090234206586261 q s,Fast.tw7369524293546568484 q loose s)
theorem left_of {p q:Program} {loose:List Str} {Xt:Shared->Bool} {α:Type} {Yf:Shared->α} {Ya:World->α} {N:Nat} (hA:∀w,lA p q N w=some ((openGood q loose).1,(openGood q loose).2.1)) (hB:∀w,lB p q loose Xt N w=some (true,true)) (hC:∀w,lC p q loose N w=some (openGood q loose).2.2.2.2) (hD:∀w,(endP p w N).map Yf=some (Ya w)):LeftO p q loose Xt Yf Ya N:=λw=>by
 obtain⟨s₁,e,a⟩:=zV.mp (hA w);obtain⟨_,e2,b⟩:=zV.mp (hB w);rw[e]at e2;cases e2;obtain⟨_,e3,c⟩:=zV.mp (hC w);rw[e]at e3;cases e3;obtain⟨_,e4,d⟩:=zV.mp (hD w);rw[e]at e4;cases e4;obtain⟨a1,a2⟩:=Prod.mk.inj a;obtain⟨b1,b2⟩:=Prod.mk.inj b;have g:Fast.tw4187177175401517315 q loose (importedModules p.main.body) Xt true s₁=openGood q loose:=by
  exact Prod.ext a1 (Prod.ext a2 (Prod.ext b1 (Prod.ext b2 c)))
 rw[<-Fast.te4187177175401517315]at g;unfold endP at e;rw[<-Fast.te10274390034422433532,<-Fast.te14364793385576792824,<-Fast.te14289696077712309145]at e;obtain⟨s₀,h0,e⟩:=Option.bind_eq_some_iff.mp e;unfold openEnds fencedOpening;rw[h0];show(topFrom treeTable p w N s₀).map _=_;unfold topFrom;cases hg:(s₀.heap.isNs mainGlobals&&s₀.gens.size==0)with
 |false=>rw[hg]at e;cases e
 |true=>
  rw[hg]at e;obtain⟨s₂,h1,e⟩:=Option.bind_eq_some_iff.mp e;show Option.map _ ((topRun treeTable p w s₀.heap.objs.size (s₀.heap.nsMap mainGlobals "__annotations__") N s₀ (topStub p)).bind _)=_;rw[uT h1];cases hs:(staticsOk (importedModules p.main.body) s₀.heap s₂.heap&&namesBound p s₂.heap&&gensDone s₂&&laidKept s₀.heap s₂.heap)with
  |false=>rw[hs]at e;cases e
  |true=>
   rw[hs]at e;cases e;show Option.map _ (match (staticsOk (importedModules p.main.body) s₀.heap s₁.heap&&namesBound p s₁.heap&&gensDone s₁&&laidKept s₀.heap s₁.heap)with|true=>some s₁|false=>none)=_;rw[hs];show some (_,_)=some (_,_);rw[g,d]
end HD
namespace SW
open PySem L2
set_option maxHeartbeats 0
noncomputable def top (i:Nat):Stmt:=PySem.Challenge.pw_staywalk_k65_texts_that_are_no_house.main.body.getD i (.Pass ⟨0,0,0,0⟩)
noncomputable abbrev gi:Stmt:=aU (top 6) 0
noncomputable abbrev gh:Stmt:=aU (top 7) 0
noncomputable abbrev fw:Stmt:=aU (top 8) 0
noncomputable abbrev dW:Stmt:=aU (top 9) 0
noncomputable abbrev iy:Stmt:=top 12
noncomputable abbrev ix:Stmt:=top 13
noncomputable abbrev cV:Stmt:=aU (top 17) 0
noncomputable abbrev cu:Stmt:=aU (top 17) 1
noncomputable abbrev dA:Stmt:=aU (top 17) 3
noncomputable abbrev fz:Stmt:=aU (top 17) 4
noncomputable abbrev bB:Stmt:=aU (top 17) 6
noncomputable abbrev b3:Stmt:=aU (top 17) 8
noncomputable abbrev bL:Stmt:=aU (top 17) 9
noncomputable abbrev dz:Stmt:=aU (top 19) 0
noncomputable abbrev dw:Stmt:=aU (top 19) 1
noncomputable abbrev da:Stmt:=top 23
noncomputable abbrev dv:Stmt:=aU (top 24) 0
noncomputable abbrev eE:Stmt:=aU (top 24) 1
noncomputable abbrev eJ:Stmt:=aU (top 24) 3
noncomputable abbrev eI:Stmt:=aU (top 24) 4
noncomputable abbrev du:Stmt:=aU (top 24) 5
noncomputable abbrev cj:Stmt:=aU (top 24) 11
noncomputable abbrev bQ:Stmt:=aU (top 24) 13
noncomputable abbrev bR:Stmt:=aU (top 24) 14
noncomputable abbrev dC:Stmt:=aU (top 26) 0
noncomputable abbrev eK:Stmt:=aU (top 26) 1
noncomputable abbrev eL:Stmt:=aU (top 26) 3
noncomputable abbrev dB:Stmt:=aU (top 26) 5
noncomputable abbrev dD:Stmt:=aU (top 26) 15
noncomputable abbrev cr:Stmt:=top 30
noncomputable abbrev et:Stmt:=top 31
noncomputable abbrev jI:Stmt:=top 33
noncomputable abbrev fY:Stmt:=top 34
noncomputable abbrev l5:Stmt:=top 35
noncomputable abbrev eu:Stmt:=top 36
noncomputable abbrev cT:Stmt:=top 38
noncomputable abbrev eD:Stmt:=top 39
noncomputable abbrev fu:Stmt:=top 40
noncomputable abbrev cU:Stmt:=top 41
noncomputable abbrev cE:Stmt:=top 42
noncomputable abbrev dt:Stmt:=top 43
noncomputable abbrev fv:Stmt:=top 44
noncomputable abbrev cR:Stmt:=top 45
noncomputable abbrev rK:Stmt:=top 46
set_option genSizeOf false in
set_option genInjectivity false in
structure Adr where
 tS:Addr
 gs:FuncData
 tR:Addr
 gr:FuncData
 tf:Addr
 fN:FuncData
 rg:Addr
 d6:FuncData
 lU:Addr
 iI:FuncData
 lR:Addr
 iG:FuncData
 fS:Addr
 cZ:FuncData
 gF:Addr
 dO:FuncData
 gE:Addr
 dN:FuncData
 ko:Addr
 fO:FuncData
 dq:Addr
 cb:FuncData
 dn:Addr
 b9:FuncData
 cJ:Addr
 bN:FuncData
 gB:Addr
 dM:FuncData
 gA:Addr
 dJ:FuncData
 iT:Addr
 fI:FuncData
 gy:Addr
 dI:FuncData
 ii:Addr
 eW:FuncData
 ik:Addr
 eY:FuncData
 ij:Addr
 eX:FuncData
 gx:Addr
 dH:FuncData
 d8:Addr
 cq:FuncData
 c6:Addr
 bU:FuncData
 c7:Addr
 bV:FuncData
 gH:Addr
 dQ:FuncData
 im:Addr
 eZ:FuncData
 io:Addr
 e7:FuncData
 gG:Addr
 dP:FuncData
 gI:Addr
 dR:FuncData
 gv:Addr
 dF:FuncData
 ib:Addr
 eT:FuncData
 oo:Addr
 kh:FuncData
 lT:Addr
 iH:FuncData
 qi:Addr
 mL:FuncData
 ie:Addr
 eU:FuncData
 fQ:Addr
 cX:FuncData
 ig:Addr
 eV:FuncData
 iU:Addr
 fJ:FuncData
 fR:Addr
 cY:FuncData
 fm:Addr
 cI:FuncData
 gw:Addr
 dG:FuncData
 iV:Addr
 fK:FuncData
 fP:Addr
 cW:FuncData
 vP:Addr
 qd:FuncData
 a5:Addr
 iJ:Addr
 bw:Addr
 mM:Addr
 qf:Addr
 qe:Addr
 ol:Addr
 kj:Addr
 bx:Addr
 e8:Addr
 aQ:Addr
 av:Addr
end SW
namespace ZK
open PySem PySem.W SW L2
noncomputable abbrev N:Value:= .none
noncomputable abbrev B (b:Bool):Value:= .bool b
noncomputable abbrev I (i:Int):Value:= .int i 0
noncomputable abbrev S (x:Str) (t:Nat):Value:= .str x t
noncomputable abbrev F (t:Nat):Value:= .str "/claim/cut.py" t
noncomputable abbrev R (a:Addr):Value:= .ref a
noncomputable abbrev T (n:String):Value:= .type n
noncomputable abbrev E (P:Params) (x:Str) (t:Nat) (v:Value):DictEntry:=⟨PyData.keyHash P x,.str x t,v⟩
noncomputable abbrev c (vs:List Value):Obj:=⟨.type "code",none,.fields vs.toArray, #[]⟩
noncomputable abbrev o (n:Str) (a:Nat) (m:Str) (b d:Nat) (e g h i j:Int) (k:Addr) (l:Int) (r s t u:Addr) (v w:Int) (x:Nat):Obj:=c [S n a,S m b,F d,I e,I g,I h,I i,I j,R k,B true,I l,R r,N,R s,R t,R u,I v,I w,F x]
noncomputable abbrev D (nm qn:Str) (s:Stmt) (df kV dc pm:Value) (an:Option Addr) (cd ct:Value):FuncData:=fnOf nm qn (jh s) (eS s) (ao s) df kV dc pm an cd ct
noncomputable abbrev f (d:FuncData):Obj:=⟨.type "function",none,.func d, #[]⟩
noncomputable def t:Adr:=⟨84,D "__init__" "NoKey.__init__" gi N N N (S "staywalk.errors" 194) none (R 83) N,103,D "__init__" "Twice.__init__" gh N N N (S "staywalk.errors" 194) none (R 102) N,122,D "__init__" "TooOld.__init__" fw N N N (S "staywalk.errors" 194) none (R 121) N,141,D "__init__" "NoMoment.__init__" dW N N N (S "staywalk.errors" 194) none (R 140) N,153,D "mark_of" "mark_of" iy N N N (S "staywalk.bits" 362) none (R 152) N,160,D "slot_of" "slot_of" ix N N N (S "staywalk.bits" 362) none (R 159) N,174,D "__init__" "Leaves.__init__" cV N N N (S "staywalk.leaves" 381) none (R 173) N,179,D "add" "Leaves.add" cu N N N (S "staywalk.leaves" 381) none (R 178) N,193,D "has" "Leaves.has" dA N N N (S "staywalk.leaves" 381) none (R 192) N,198,D "many" "Leaves.many" fz N N N (S "staywalk.leaves" 381) none (R 197) N,210,D "from_on" "Leaves.from_on" bB N N N (S "staywalk.leaves" 381) none (R 209) N,224,D "leaf_of" "Leaves.leaf_of" b3 N N N (S "staywalk.leaves" 381) none (R 223) N,231,D "part_leaf" "Leaves.part_leaf" bL N N N (S "staywalk.leaves" 381) none (R 230) N,259,D "__init__" "Makes.__init__" dz N N N (S "staywalk.makes" 497) none (R 258) N,266,D "note" "Makes.note" dw N N N (S "staywalk.makes" 497) none (R 265) N,299,D "empty_row" "empty_row" da N N N (S "staywalk.slots" 560) none (R 298) N,313,D "__init__" "Slots.__init__" dv N N N (S "staywalk.slots" 560) none (R 312) N,320,D "put" "Slots.put" eE N N N (S "staywalk.slots" 560) none (R 319) N,334,D "get" "Slots.get" eJ N N N (S "staywalk.slots" 560) none (R 333) N,341,D "has" "Slots.has" eI N N N (S "staywalk.slots" 560) none (R 340) N,348,D "many" "Slots.many" du N N N (S "staywalk.slots" 560) none (R 347) N,388,D "cell_of" "Slots.cell_of" cj N N N (S "staywalk.slots" 560) none (R 387) N,402,D "move_slot" "Slots.move_slot" bQ N N N (S "staywalk.slots" 560) none (R 401) N,409,D "begin_row" "Slots.begin_row" bR N N N (S "staywalk.slots" 560) none (R 408) N,430,D "__init__" "House.__init__" dC N N N (S "staywalk.house" 719) none (R 429) N,437,D "put" "House.put" eK N N N (S "staywalk.house" 719) none (R 436) N,451,D "get" "House.get" eL N N N (S "staywalk.house" 719) none (R 450) N,465,D "many" "House.many" dB N N N (S "staywalk.house" 719) none (R 464) N,537,D "done" "House.done" dD N N N (S "staywalk.house" 719) none (R 536) N,563,D "are_figures" "are_figures" cr N N N (S "staywalk.words" 896) none (R 562) N,570,D "read_whole" "read_whole" et N N N (S "staywalk.words" 896) none (R 569) N,577,D "row_of" "row_of" jI N N N (S "staywalk.kept" 917) none (R 576) N,582,D "rows_of" "rows_of" fY N N N (S "staywalk.kept" 917) none (R 581) N,589,D "shown" "shown" l5 N N N (S "staywalk.kept" 917) none (R 588) N,596,D "read_house" "read_house" eu N N N (S "staywalk.kept" 917) none (R 595) N,603,D "_law_cell_at" "_law_cell_at" cT N N N (S "law_staywalk_k65_texts_that_are_no_house" 952) none (R 602) N,610,D "_law_drawn" "_law_drawn" eD N N N (S "law_staywalk_k65_texts_that_are_no_house" 952) none (R 609) N,617,D "_law_rows" "_law_rows" fu N N N (S "law_staywalk_k65_texts_that_are_no_house" 952) none (R 616) N,624,D "_law_by_rows" "_law_by_rows" cU N N N (S "law_staywalk_k65_texts_that_are_no_house" 952) none (R 623) N,631,D "_law_by_words" "_law_by_words" cE N N N (S "law_staywalk_k65_texts_that_are_no_house" 952) none (R 630) N,638,D "_law_number" "_law_number" dt N N N (S "law_staywalk_k65_texts_that_are_no_house" 952) none (R 637) N,645,D "_law_good" "_law_good" fv N N N (S "law_staywalk_k65_texts_that_are_no_house" 952) none (R 644) N,652,D "_law_refused" "_law_refused" cR N N N (S "law_staywalk_k65_texts_that_are_no_house" 952) none (R 651) N,659,D "law" "law" rK N N N (S "law_staywalk_k65_texts_that_are_no_house" 952) none (R 658) N,31,44,56,68,87,106,125,144,241,290,412,554⟩
noncomputable def K:Params->Frag:=λP=>(nat_lit 2,⟨N,none,.dict #[] 0, #[]⟩)::
(nat_lit 3,⟨(T "dict"),none,.dict #[E P "__name__" 165 (S "law_staywalk_k65_texts_that_are_no_house" 952),E P "__doc__" 166 N,E P "__package__" 167 N,E P "__loader__" 168 (.builtin "__main__.__loader__#opaque"),E P "__spec__" 169 N,E P "__annotations__" 170 (R 6),E P "__builtins__" 171 (R 4),E P "__file__" 173 (S "/claim/cut.py" 172),E P "__cached__" 174 N,E P "_wall" 193 (R 21),E P "WalkError" 213 (R 31),E P "NoToken" 229 (R 44),E P "NoText" 245 (R 56),E P "NoRow" 261 (R 68),E P "NoKey" 286 (R 87),E P "Twice" 311 (R 106),E P "TooOld" 336 (R 125),E P "NoMoment" 361 (R 144),E P "PLACES" 365 (.int 65536 364),E P "mark_of" 372 (R 153),E P "slot_of" 380 (R 160),E P "MOST_IN_LEAF" 384 (.int 8 383),E P "LEAST_IN_TWO" 386 (.int 5 385),E P "Leaves" 496 (R 241),E P "Makes" 559 (R 290),E P "LEAST_SIZE" 563 (.int 4 562),E P "GREATEST_SIZE" 565 (.int 256 564),E P "empty_row" 571 (R 299),E P "Slots" 718 (R 412),E P "House" 895 (R 554),E P "FIGURES" 899 (S "0123456789" 898),E P "MOST_FIGURES" 901 (.int 60 900),E P "are_figures" 907 (R 563),E P "read_whole" 916 (R 570),E P "row_of" 926 (R 577),E P "rows_of" 932 (R 582),E P "shown" 939 (R 589),E P "read_house" 951 (R 596),E P "_law_cell_at" 961 (R 603),E P "_law_drawn" 970 (R 610),E P "_law_rows" 982 (R 617),E P "_law_by_rows" 994 (R 624),E P "_law_by_words" 1008 (R 631),E P "_law_number" 1017 (R 638),E P "_law_good" 1028 (R 645),E P "_law_refused" 1036 (R 652),E P "law" 1047 (R 659)] 47, #[]⟩)::
(nat_lit 30,⟨(T "dict"),none,.dict #[E P "__module__" 203 (S "staywalk.errors" 194),E P "__firstlineno__" 207 (.int 5 206),E P "__static_attributes__" 208 (R 29),E P "__weakref__" 210 (R 32),E P "__doc__" 211 N] 3, #[]⟩)::
(nat_lit 31,⟨(T "type"),none,.cls ⟨"WalkError",[(T "ValueError")],[(R 31),(T "ValueError"),(T "Exception"),(T "BaseException"),(T "object")],30,"WalkError",true,[],[(R 44),(R 56),(R 68),(R 87),(R 106),(R 125),(R 144)],false,none,false⟩, #[some (R 22),none,some (S "WalkError" 196),some (S "WalkError" 204),some (.builtin "ValueError.__new__"),some (B true)]⟩)::
(nat_lit 43,⟨(T "dict"),none,.dict #[E P "__module__" 221 (S "staywalk.errors" 194),E P "__firstlineno__" 225 (.int 7 224),E P "__static_attributes__" 226 (R 42),E P "__doc__" 227 N] 2, #[]⟩)::
(nat_lit 44,⟨(T "type"),none,.cls ⟨"NoToken",[(R 31)],[(R 44),(R 31),(T "ValueError"),(T "Exception"),(T "BaseException"),(T "object")],43,"NoToken",true,[],[],false,none,false⟩, #[some (R 35),none,some (S "NoToken" 214),some (S "NoToken" 222),some (.builtin "ValueError.__new__"),some (B true)]⟩)::
(nat_lit 55,⟨(T "dict"),none,.dict #[E P "__module__" 237 (S "staywalk.errors" 194),E P "__firstlineno__" 241 (.int 9 240),E P "__static_attributes__" 242 (R 54),E P "__doc__" 243 N] 2, #[]⟩)::
(nat_lit 56,⟨(T "type"),none,.cls ⟨"NoText",[(R 31)],[(R 56),(R 31),(T "ValueError"),(T "Exception"),(T "BaseException"),(T "object")],55,"NoText",true,[],[],false,none,false⟩, #[some (R 47),none,some (S "NoText" 230),some (S "NoText" 238),some (.builtin "ValueError.__new__"),some (B true)]⟩)::
(nat_lit 67,⟨(T "dict"),none,.dict #[E P "__module__" 253 (S "staywalk.errors" 194),E P "__firstlineno__" 257 (.int 11 256),E P "__static_attributes__" 258 (R 66),E P "__doc__" 259 N] 2, #[]⟩)::
(nat_lit 68,⟨(T "type"),none,.cls ⟨"NoRow",[(R 31)],[(R 68),(R 31),(T "ValueError"),(T "Exception"),(T "BaseException"),(T "object")],67,"NoRow",true,[],[],false,none,false⟩, #[some (R 59),none,some (S "NoRow" 246),some (S "NoRow" 254),some (.builtin "ValueError.__new__"),some (B true)]⟩)::
(nat_lit 83,o "__init__" 274 "NoKey.__init__" 275 276 15 2 0 0 3 78 181 79 80 81 82 279 15 280)::
(nat_lit 84,f t.gs)::
(nat_lit 86,⟨(T "dict"),none,.dict #[E P "__module__" 269 (S "staywalk.errors" 194),E P "__firstlineno__" 273 (.int 13 272),E P "__init__" 281 (R 84),E P "__static_attributes__" 283 (R 85),E P "__doc__" 284 N] 2, #[]⟩)::
(nat_lit 87,⟨(T "type"),none,.cls ⟨"NoKey",[(R 31)],[(R 87),(R 31),(T "ValueError"),(T "Exception"),(T "BaseException"),(T "object")],86,"NoKey",true,[],[],false,none,false⟩, #[some (R 71),none,some (S "NoKey" 262),some (S "NoKey" 270),some (.builtin "ValueError.__new__"),some (B true)]⟩)::
(nat_lit 102,o "__init__" 299 "Twice.__init__" 300 301 20 2 0 0 3 97 181 98 99 100 101 304 20 305)::
(nat_lit 103,f t.gr)::
(nat_lit 105,⟨(T "dict"),none,.dict #[E P "__module__" 294 (S "staywalk.errors" 194),E P "__firstlineno__" 298 (.int 18 297),E P "__init__" 306 (R 103),E P "__static_attributes__" 308 (R 104),E P "__doc__" 309 N] 2, #[]⟩)::
(nat_lit 106,⟨(T "type"),none,.cls ⟨"Twice",[(R 31)],[(R 106),(R 31),(T "ValueError"),(T "Exception"),(T "BaseException"),(T "object")],105,"Twice",true,[],[],false,none,false⟩, #[some (R 90),none,some (S "Twice" 287),some (S "Twice" 295),some (.builtin "ValueError.__new__"),some (B true)]⟩)::
(nat_lit 121,o "__init__" 324 "TooOld.__init__" 325 326 25 2 0 0 3 116 181 117 118 119 120 329 25 330)::
(nat_lit 122,f t.fN)::
(nat_lit 124,⟨(T "dict"),none,.dict #[E P "__module__" 319 (S "staywalk.errors" 194),E P "__firstlineno__" 323 (.int 23 322),E P "__init__" 331 (R 122),E P "__static_attributes__" 333 (R 123),E P "__doc__" 334 N] 2, #[]⟩)::
(nat_lit 125,⟨(T "type"),none,.cls ⟨"TooOld",[(R 31)],[(R 125),(R 31),(T "ValueError"),(T "Exception"),(T "BaseException"),(T "object")],124,"TooOld",true,[],[],false,none,false⟩, #[some (R 109),none,some (S "TooOld" 312),some (S "TooOld" 320),some (.builtin "ValueError.__new__"),some (B true)]⟩)::
(nat_lit 140,o "__init__" 349 "NoMoment.__init__" 350 351 30 2 0 0 3 135 181 136 137 138 139 354 30 355)::
(nat_lit 141,f t.d6)::
(nat_lit 143,⟨(T "dict"),none,.dict #[E P "__module__" 344 (S "staywalk.errors" 194),E P "__firstlineno__" 348 (.int 28 347),E P "__init__" 356 (R 141),E P "__static_attributes__" 358 (R 142),E P "__doc__" 359 N] 2, #[]⟩)::
(nat_lit 144,⟨(T "type"),none,.cls ⟨"NoMoment",[(R 31)],[(R 144),(R 31),(T "ValueError"),(T "Exception"),(T "BaseException"),(T "object")],143,"NoMoment",true,[],[],false,none,false⟩, #[some (R 128),none,some (S "NoMoment" 337),some (S "NoMoment" 345),some (.builtin "ValueError.__new__"),some (B true)]⟩)::
(nat_lit 152,o "mark_of" 366 "mark_of" 367 368 35 1 0 0 3 147 181 148 149 150 151 370 35 371)::
(nat_lit 153,f t.iI)::
(nat_lit 159,o "slot_of" 373 "slot_of" 374 375 37 2 0 0 3 154 181 155 156 157 158 378 37 379)::
(nat_lit 160,f t.iG)::
(nat_lit 173,o "__init__" 399 "Leaves.__init__" 400 401 44 1 0 0 3 168 181 169 170 171 172 403 44 404)::
(nat_lit 174,f t.cZ)::
(nat_lit 178,c [(S "add" 406),(S "Leaves.add" 407),(F 408),(I 47),(I 2),(I 0),(I 0),(I 3),(R 175),(B true),(I 181),(R 176),N,N,N,(R 177),(I 409),(I 47),(F 410)])::
(nat_lit 179,f t.dO)::
(nat_lit 192,o "has" 421 "Leaves.has" 422 423 70 2 0 0 3 187 181 188 189 190 191 427 70 428)::
(nat_lit 193,f t.dN)::
(nat_lit 197,c [(S "many" 430),(S "Leaves.many" 431),(F 432),(I 74),(I 1),(I 0),(I 0),(I 3),(R 194),(B true),(I 181),(R 195),N,N,N,(R 196),(I 433),(I 74),(F 434)])::
(nat_lit 198,f t.fO)::
(nat_lit 209,c [(S "from_on" 443),(S "Leaves.from_on" 444),(F 445),(I 80),(I 3),(I 0),(I 0),(I 3),(R 206),(B true),(I 181),(R 207),N,N,N,(R 208),(I 446),(I 80),(F 447)])::
(nat_lit 210,f t.cb)::
(nat_lit 223,o "leaf_of" 458 "Leaves.leaf_of" 459 460 91 2 0 0 3 218 181 219 220 221 222 466 91 467)::
(nat_lit 224,f t.b9)::
(nat_lit 230,o "part_leaf" 469 "Leaves.part_leaf" 470 471 102 2 0 0 3 225 181 226 227 228 229 476 102 477)::
(nat_lit 231,f t.bN)::
(nat_lit 240,⟨(T "dict"),none,.dict #[E P "__module__" 394 (S "staywalk.leaves" 381),E P "__firstlineno__" 398 (.int 42 397),E P "__init__" 405 (R 174),E P "add" 411 (R 179),E P "discard" 420 (R 186),E P "has" 429 (R 193),E P "many" 435 (R 198),E P "all_of" 442 (R 205),E P "from_on" 448 (R 210),E P "down_from" 457 (R 217),E P "leaf_of" 468 (R 224),E P "part_leaf" 478 (R 231),E P "join_small" 487 (R 238),E P "__static_attributes__" 489 (R 239),E P "__dict__" 491 (R 242),E P "__weakref__" 493 (R 243),E P "__doc__" 494 N] 4, #[]⟩)::
(nat_lit 241,⟨(T "type"),none,.cls ⟨"Leaves",[(T "object")],[(R 241),(T "object")],240,"Leaves",true,[],[],false,none,false⟩, #[none,none,some (S "Leaves" 387),some (S "Leaves" 395),some (.builtin "object.__new__"),some (B true)]⟩)::
(nat_lit 258,o "__init__" 511 "Makes.__init__" 512 513 118 1 0 0 3 253 181 254 255 256 257 515 118 516)::
(nat_lit 259,f t.dM)::
(nat_lit 265,o "note" 518 "Makes.note" 519 520 121 3 0 0 3 260 181 261 262 263 264 524 121 525)::
(nat_lit 266,f t.dJ)::
(nat_lit 289,⟨(T "dict"),none,.dict #[E P "__module__" 506 (S "staywalk.makes" 497),E P "__firstlineno__" 510 (.int 116 509),E P "__init__" 517 (R 259),E P "note" 526 (R 266),E P "all_told" 533 (R 273),E P "value_at" 542 (R 280),E P "sweep" 550 (R 287),E P "__static_attributes__" 552 (R 288),E P "__dict__" 554 (R 291),E P "__weakref__" 556 (R 292),E P "__doc__" 557 N] 4, #[]⟩)::
(nat_lit 290,⟨(T "type"),none,.cls ⟨"Makes",[(T "object")],[(R 290),(T "object")],289,"Makes",true,[],[],false,none,false⟩, #[none,none,some (S "Makes" 499),some (S "Makes" 507),some (.builtin "object.__new__"),some (B true)]⟩)::
(nat_lit 298,c [(S "empty_row" 566),(S "empty_row" 567),(F 568),(I 138),(I 1),(I 0),(I 0),(I 3),(R 295),(B true),(I 181),(R 296),N,N,N,(R 297),(I 569),(I 138),(F 570)])::
(nat_lit 299,f t.fI)::
(nat_lit 312,o "__init__" 584 "Slots.__init__" 585 586 142 1 0 0 3 307 181 308 309 310 311 588 142 589)::
(nat_lit 313,f t.dI)::
(nat_lit 319,o "put" 591 "Slots.put" 592 593 147 3 0 0 3 314 181 315 316 317 318 598 147 599)::
(nat_lit 320,f t.eW)::
(nat_lit 333,o "get" 609 "Slots.get" 610 611 163 2 0 0 3 328 181 329 330 331 332 615 163 616)::
(nat_lit 334,f t.eY)::
(nat_lit 340,o "has" 618 "Slots.has" 619 620 169 2 0 0 3 335 181 336 337 338 339 623 169 624)::
(nat_lit 341,f t.eX)::
(nat_lit 347,o "many" 626 "Slots.many" 627 628 172 1 0 0 3 342 181 343 344 345 346 630 172 631)::
(nat_lit 348,f t.dH)::
(nat_lit 387,o "cell_of" 670 "Slots.cell_of" 671 672 190 2 0 0 3 382 181 383 384 385 386 678 190 679)::
(nat_lit 388,f t.cq)::
(nat_lit 401,o "move_slot" 689 "Slots.move_slot" 690 691 201 1 0 0 3 396 181 397 398 399 400 697 201 698)::
(nat_lit 402,f t.bU)::
(nat_lit 408,o "begin_row" 700 "Slots.begin_row" 701 702 214 1 0 0 3 403 181 404 405 406 407 705 214 706)::
(nat_lit 409,f t.bV)::
(nat_lit 411,⟨(T "dict"),none,.dict #[E P "__module__" 579 (S "staywalk.slots" 560),E P "__firstlineno__" 583 (.int 140 582),E P "__init__" 590 (R 313),E P "put" 600 (R 320),E P "drop" 608 (R 327),E P "get" 617 (R 334),E P "has" 625 (R 341),E P "many" 632 (R 348),E P "rows" 638 (R 353),E P "moved" 645 (R 360),E P "cells" 652 (R 367),E P "span" 661 (R 374),E P "stop" 669 (R 381),E P "cell_of" 680 (R 388),E P "lying_at" 688 (R 395),E P "move_slot" 699 (R 402),E P "begin_row" 707 (R 409),E P "__static_attributes__" 711 (R 410),E P "__dict__" 713 (R 413),E P "__weakref__" 715 (R 414),E P "__doc__" 716 N] 4, #[]⟩)::
(nat_lit 412,⟨(T "type"),none,.cls ⟨"Slots",[(T "object")],[(R 412),(T "object")],411,"Slots",true,[],[],false,none,false⟩, #[none,none,some (S "Slots" 572),some (S "Slots" 580),some (.builtin "object.__new__"),some (B true)]⟩)::
(nat_lit 429,o "__init__" 733 "House.__init__" 734 735 225 1 0 0 3 424 181 425 426 427 428 737 225 738)::
(nat_lit 430,f t.dQ)::
(nat_lit 436,o "put" 740 "House.put" 741 742 235 3 0 0 3 431 181 432 433 434 435 746 235 747)::
(nat_lit 437,f t.eZ)::
(nat_lit 450,o "get" 757 "House.get" 758 759 246 2 0 0 3 445 181 446 447 448 449 762 246 763)::
(nat_lit 451,f t.e7)::
(nat_lit 464,o "many" 773 "House.many" 774 775 252 1 0 0 3 459 181 460 461 462 463 777 252 778)::
(nat_lit 465,f t.dP)::
(nat_lit 536,o "done" 853 "House.done" 854 855 283 3 0 0 3 531 181 532 533 534 535 860 283 861)::
(nat_lit 537,f t.dR)::
(nat_lit 553,⟨(T "dict"),none,.dict #[E P "__module__" 728 (S "staywalk.house" 719),E P "__firstlineno__" 732 (.int 223 731),E P "__init__" 739 (R 430),E P "put" 748 (R 437),E P "drop" 756 (R 444),E P "get" 764 (R 451),E P "has" 772 (R 458),E P "many" 779 (R 465),E P "lay_mark" 786 (R 472),E P "diary" 795 (R 480),E P "makes" 803 (R 487),E P "hold" 810 (R 494),E P "let_go" 818 (R 501),E P "held" 825 (R 508),E P "sweep" 832 (R 515),E P "was" 841 (R 522),E P "page_at" 852 (R 530),E P "done" 862 (R 537),E P "refuse_outside" 870 (R 544),E P "value_then" 879 (R 551),E P "__static_attributes__" 888 (R 552),E P "__dict__" 890 (R 555),E P "__weakref__" 892 (R 556),E P "__doc__" 893 N] 4, #[]⟩)::
(nat_lit 554,⟨(T "type"),none,.cls ⟨"House",[(T "object")],[(R 554),(T "object")],553,"House",true,[],[],false,none,false⟩, #[none,none,some (S "House" 721),some (S "House" 729),some (.builtin "object.__new__"),some (B true)]⟩)::
(nat_lit 562,c [(S "are_figures" 902),(S "are_figures" 903),(F 904),(I 301),(I 1),(I 0),(I 0),(I 3),(R 559),(B true),(I 181),(R 560),N,N,N,(R 561),(I 905),(I 301),(F 906)])::
(nat_lit 563,f t.dF)::
(nat_lit 569,o "read_whole" 908 "read_whole" 909 910 307 1 0 0 3 564 181 565 566 567 568 914 307 915)::
(nat_lit 570,f t.eT)::
(nat_lit 576,o "row_of" 919 "row_of" 920 921 316 2 0 0 3 571 181 572 573 574 575 924 316 925)::
(nat_lit 577,f t.kh)::
(nat_lit 581,c [(S "rows_of" 927),(S "rows_of" 928),(F 929),(I 318),(I 1),(I 0),(I 0),(I 3),(R 578),(B true),(I 181),(R 579),N,N,N,(R 580),(I 930),(I 318),(F 931)])::
(nat_lit 582,f t.iH)::
(nat_lit 588,o "shown" 933 "shown" 934 935 321 1 0 0 3 583 181 584 585 586 587 937 321 938)::
(nat_lit 589,f t.mL)::
(nat_lit 595,o "read_house" 940 "read_house" 941 942 323 1 0 0 3 590 181 591 592 593 594 949 323 950)::
(nat_lit 596,f t.eU)::
(nat_lit 602,o "_law_cell_at" 954 "_law_cell_at" 955 956 341 2 0 0 3 597 181 598 599 600 601 959 341 960)::
(nat_lit 603,f t.cX)::
(nat_lit 609,o "_law_drawn" 962 "_law_drawn" 963 964 345 2 0 0 3 604 181 605 606 607 608 968 345 969)::
(nat_lit 610,f t.eV)::
(nat_lit 616,o "_law_rows" 971 "_law_rows" 972 973 348 1 0 0 3 611 181 612 613 614 615 980 348 981)::
(nat_lit 617,f t.fJ)::
(nat_lit 623,o "_law_by_rows" 983 "_law_by_rows" 984 985 357 2 0 0 3 618 181 619 620 621 622 992 357 993)::
(nat_lit 624,f t.cY)::
(nat_lit 630,o "_law_by_words" 995 "_law_by_words" 996 997 369 2 0 0 3 625 181 626 627 628 629 1006 369 1007)::
(nat_lit 631,f t.cI)::
(nat_lit 637,o "_law_number" 1009 "_law_number" 1010 1011 383 1 0 0 3 632 181 633 634 635 636 1015 383 1016)::
(nat_lit 638,f t.dG)::
(nat_lit 644,o "_law_good" 1018 "_law_good" 1019 1020 393 1 0 0 3 639 181 640 641 642 643 1026 393 1027)::
(nat_lit 645,f t.fK)::
(nat_lit 651,o "_law_refused" 1029 "_law_refused" 1030 1031 406 1 0 0 3 646 181 647 648 649 650 1034 406 1035)::
(nat_lit 652,f t.cW)::
(nat_lit 658,o "law" 1037 "law" 1038 1039 414 1 0 0 3 653 181 654 655 656 657 1045 414 1046)::
(nat_lit 659,f t.qd)::[]
noncomputable abbrev as:List Addr:=[2,3,30,31,43,44,55,56,67,68,83,84,86,87,102,103,105,106,121,122,124,125,140,141,143,144,152,153,159,160,173,174,178,179,192,193,197,198,209,210,223,224,230,231,240,241,258,259,265,266,289,290,298,299,312,313,319,320,333,334,340,341,347,348,387,388,401,402,408,409,411,412,429,430,436,437,450,451,464,465,536,537,553,554,562,563,569,570,576,577,581,582,588,589,595,596,602,603,609,610,616,617,623,624,630,631,637,638,644,645,651,652,658,659]
noncomputable abbrev p:Program:=PySem.Challenge.pw_staywalk_k65_texts_that_are_no_house
noncomputable abbrev q:Program:=view p [0,2,3,4,5,6,7,8,9,11,12,13,15,16,17,19,21,22,23,24,26,28,29,30,31,33,34,35,36,38,39,40,41,42,43,44,45,46]
noncomputable abbrev H:Hook:=kHook K as λ_=>rfl
theorem said:OpenLaw.wellSaid PySem.Challenge.rw_staywalk_k65_texts_that_are_no_house=true:=by
 rw[Fast.te9446332074065402090]
 kernel_rfl
noncomputable abbrev M:Nat:=9866
noncomputable abbrev L:List Str:=[]
noncomputable abbrev X:Shared->Bool:=λs=>xlAt q [] s&&recOk [] s
theorem lA:∀w,HD.lA p q M w=some ((openGood q L).1,(openGood q L).2.1):=λw=>by kernel_rfl
theorem lB:∀w,HD.lB p q L X M w=some (true,true):=λw=>by kernel_rfl
theorem lC:∀w,HD.lC p q L M w=some (openGood q L).2.2.2.2:=λw=>by kernel_rfl
theorem lD:∀w,(HD.endP p w M).map (Hook.obs H)=some (Hook.val H w):=λw=>by kernel_rfl
theorem left:LeftO p q L X (Hook.obs H) (Hook.val H) M:=HD.left_of lA lB lC lD
end ZK
namespace L2
open PySem PySem.Spec PyProof.Rows
abbrev Key:=Sum Int Str
def fH:Key->Value->Bool
 | .inl k,v=>Value.isInt k v
 | .inr x,v=>Value.isStrOf x v
def keyH (w:World):Key->Int
 | .inl k=>hashInt k
 | .inr x=>hashStr w x
theorem bv:∀{k:Key} {v:Value},fH k v=true->(∃i t,k=Sum.inl i/\v=Value.int i t)\/(∃x t,k=Sum.inr x/\v=Value.str x t)
 | .inl i,v,h=>by
  obtain⟨t,e⟩:=Value.isInt_shape (k:=i) (v:=v) h;exact .inl ⟨i,t,rfl,e⟩
 | .inr x,v,h=>by
  obtain⟨t,e⟩:=Value.isStrOf_shape (x:=x) (v:=v) h;exact .inr ⟨x,t,rfl,e⟩
theorem qM (i:Int) (t:Tok):fH (.inl i) (.int i t)=true:=by simp[fH,Value.isInt]
theorem qL (x:Str) (t:Tok):fH (.inr x) (.str x t)=true:=by simp[fH,Value.isStrOf]
theorem wz (a b:Int):decide ((Sum.inl a:Key)=Sum.inl b)=(a==b):=by
 by_cases e:a=b
 .subst e;simp
 .have h:¬(Sum.inl a:Key)=Sum.inl b:=λq=>e (Sum.inl.inj q);rw[decide_eq_false h];exact(beq_eq_false_iff_ne.mpr e).symm
theorem wv (a b:Str):decide ((Sum.inr a:Key)=Sum.inr b)=decide (a=b):=by
 by_cases e:a=b
 .subst e;simp
 .have h:¬(Sum.inr a:Key)=Sum.inr b:=λq=>e (Sum.inr.inj q);rw[decide_eq_false h,decide_eq_false e]
theorem wy (a:Int) (b:Str):decide ((Sum.inl a:Key)=Sum.inr b)=false:=decide_eq_false (λq=>nomatch q)
theorem wx (a:Str) (b:Int):decide ((Sum.inr a:Key)=Sum.inl b)=false:=decide_eq_false (λq=>nomatch q)
def bn (prog:Program) (w:World):PySem.KeyKind prog w Key where
 is:=fH
 hash:=keyH w
 inj:=λv a b ha hb=>by
  rcases bv ha with⟨i,t,rfl,rfl⟩|⟨x,t,rfl,rfl⟩
  .rcases bv hb with⟨j,u,rfl,e⟩|⟨y,u,rfl,e⟩
   .injection e with e1 _;rw[e1]
   .exact nomatch e
  .rcases bv hb with⟨j,u,rfl,e⟩|⟨y,u,rfl,e⟩
   .exact nomatch e
   .injection e with e1 _;rw[e1]
 byValue:=λk v h=>by
  rcases bv h with⟨i,t,rfl,rfl⟩|⟨x,t,rfl,rfl⟩<;>rfl
 pyHash:=λhv h=>by
  rcases bv hv with⟨i,t,rfl,rfl⟩|⟨x,t,rfl,rfl⟩
  .exact wpAny_pyHash_int h
  .exact wpAny_pyHash_str h
 eqBool:=λhu hv h=>by
  rcases bv hu with⟨i,t,rfl,rfl⟩|⟨x,t,rfl,rfl⟩
  .rcases bv hv with⟨j,u,rfl,rfl⟩|⟨y,u,rfl,rfl⟩
   .rw[wz]at h;exact wpAny_eqBool_int h
   .rw[wy]at h;exact SeqAt.EqAt.int_str i t y u _ _ _ _ h
  .rcases bv hv with⟨j,u,rfl,rfl⟩|⟨y,u,rfl,rfl⟩
   .rw[wx]at h;exact SeqAt.EqAt.str_int x t j u _ _ _ _ h
   .rw[wv]at h;exact wpAny_eqBool_str h
 «strs»:=λk x t v h=>by
  rcases bv h with⟨i,u,rfl,e⟩|⟨y,u,rfl,e⟩
  .exact nomatch e
  .injection e with e1 _;subst e1;cases v<;>rfl
theorem oW (prog:Program) (w:World) (k:Key) (v:Value):(bn prog w).is k v=fH k v:=rfl
theorem nN (prog:Program) (w:World) (i:Int) (t:Tok):(bn prog w).is (.inl i) (.int i t)=true:=qM i t
theorem nM (prog:Program) (w:World) (x:Str) (t:Tok):(bn prog w).is (.inr x) (.str x t)=true:=qL x t
end L2
namespace L2
open PySem PySem.Spec PyProof.Rows
inductive V where
 |non|bl (b:Bool)|int (i:Int)|str (x:Str)|byt (b:Array UInt8)|flt (b:UInt64)|ref (a:Addr)|ty (n:String)
 deriving DecidableEq
variable {a b:Addr} {o u:HO} {h h':Heap} {H:Hp} {P:Program} {w:World}
def RelV:V->Value->Prop
 | .non,u=>u=Value.none
 | .bl b,u=>u=Value.bool b
 | .int i,u=>∃t,u=Value.int i t
 | .str x,u=>∃t,u=Value.str x t
 | .byt b,u=>∃t,u=Value.bytes b t
 | .flt b,u=>∃t,u=Value.float b t
 | .ref a,u=>u=Value.ref a
 | .ty n,u=>u=Value.type n
abbrev Vals:List V->List Value->Prop:=Paired RelV
theorem Vals.length {xs:List V} {us:List Value} (r:Vals xs us):xs.length=us.length:=Paired.length r
theorem Vals.get:∀{xs:List V} {us:List Value} {i:Nat} {x:V},Vals xs us->xs[i]?=some x->∃u,us[i]?=some u/\RelV x u
 |_,_,_,_,.nil,e=>by simp at e
 |_,_,0,_,.cons r _,e=>by simp at e;subst e;exact⟨_,rfl,r⟩
 |_,_,i+1,x,.cons _ t,e=>by
  obtain⟨u,h1,h2⟩:=Vals.get (i:=i) (x:=x) t (by simpa using e);exact⟨u,by simpa using h1,h2⟩
theorem Vals.set {x:V} {u:Value} (r:RelV x u):∀{xs:List V} {us:List Value} (i:Nat),Vals xs us->Vals (xs.set i x) (us.set i u)
 |_,_,_,.nil=> .nil
 |_,_,0,.cons _ t=> .cons r t
 |_,_,i+1,.cons q t=> .cons q (Vals.set r i t)
theorem Vals.append:∀{xs ys:List V} {us ws:List Value},Vals xs us->Vals ys ws->Vals (xs++ys) (us++ws)
 |_,_,_,_,.nil,s=>s
 |_,_,_,_,.cons r t,s=> .cons r (Vals.append t s)
theorem Vals.take:∀{xs:List V} {us:List Value} (n:Nat),Vals xs us->Vals (xs.take n) (us.take n)
 |_,_,0,_=> .nil
 |_,_,_+1,.nil=> .nil
 |_,_,n+1,.cons r t=> .cons r (Vals.take n t)
theorem Vals.drop:∀{xs:List V} {us:List Value} (n:Nat),Vals xs us->Vals (xs.drop n) (us.drop n)
 |_,_,0,r=>r
 |_,_,_+1,.nil=> .nil
 |_,_,n+1,.cons _ t=>Vals.drop n t
def RelO:Option V->Option Value->Prop
 |some v,some u=>RelV v u
 |none,none=>True
 |_,_=>False
def KV {κ:Type}:List (κ×V)->List (κ×Value)->Prop:=Paired λ(p:κ×V) (q:κ×Value)=>p.1=q.1/\RelV p.2 q.2
def kV:Key->V
 | .inl i=> .int i
 | .inr x=> .str x
inductive HO where
 |lst (xs:List V)
 |tup (xs:List V)
 |dK (kvs:List (Key×V))|dT (kvs:List (List Key×V))
 |set (S:Int->Bool) (n:Nat)
 |ins (C dx:Addr) (fs:List (Str×V))
 |own (x:Addr)
 |xd (fs:List (Str×V))
 |met (f x:Addr)
 |rng (lo hi:Int)
 |frz (o:Obj) (u:HO)
 |tbl (ps:Array Value)
 |ext (φ:Heap->Prop)
abbrev Hp:=Addr->Option HO
def upd (H:Hp) (a:Addr) (o:HO):Hp:=λb=>if b=a then some o else H b
theorem ag:upd H a o a=some o:=by unfold upd;rw[if_pos rfl]
theorem ae (h:b≠a):upd H a o b=H b:=by unfold upd;rw[if_neg h]
theorem cK:upd (upd H a o) a u=upd H a u:=by
 funext b;unfold upd;split<;>rfl
theorem bC (h:H a=some o) (h':H b=some u) (d:o≠u):a≠b:=by
 intro e;subst e;rw[h]at h';exact d (Option.some.inj h')
theorem am (h:H a=some o) (h':H b=none):a≠b:=by
 intro e;subst e;rw[h]at h';cases h'
section
variable (P:Program) (w:World)
def ObjOk (H:Hp) (h:Heap) (a:Addr):HO->Prop
 | .lst xs=>xs.length<=sizeLine/\∃(its:List Value) (n:Nat),Vals xs its/\h.get? a=some {cls:= .type "list",data:= .seq its.toArray n}
 | .tup xs=>xs.length<=sizeLine/\∃its:List Value,Vals xs its/\IsTup h a its.toArray
 | .dK kvs=>kvs.length<=sizeLine/\(a==sysModules)=false/\∃vs,KV kvs vs/\h.DictOf (bn P w) a vs
 | .dT kvs=>kvs.length<=sizeLine/\(a==sysModules)=false/\∃xs:List (List Key×Addr×Value),
   Paired (λ(p:List Key×V) (q:List Key×Addr×Value)=>p.1=q.1/\H q.2.1=some (.tup (p.1.map kV))/\RelV p.2 q.2.2) kvs xs/\
   ∃o es ep,h.get? a=some o/\o.ExactDict/\o.data= .dict es ep/\es.toList=xs.map (entryOfKey (tupleKind (bn P w)))/\(xs.map (·.1)).Nodup
 | .set S n=>h.SetOf (intKind P w) a S n
 | .ins C dx fs=>H dx=some (.own a)/\fs.length<=1000/\dx≠a/\h.get? a=some (PySem.W.instObj C dx)/\
   ∃mA,h.Ns1 dx mA/\(∀f,RelO (fs.lookup f) (mA f))/\PySem.Within mA (fs.map (·.1))
 | .own _=>∃o,h.get? a=some o
 | .xd fs=>∃mA,h.Ns1 a mA/\∀f,RelO (fs.lookup f) (mA f)
 | .rng lo hi=>∃t u v,h.get? a=some {cls:= .type "range",data:= .fields #[.int lo t,.int hi u,.int 1 v]}
 | .frz o u=>h.get? a=some o/\ObjOk H h a u
 | .tbl ps=>h.get? a=some {cls:= .none,data:= .fields ps}
 | .met f x=>h.get? a=some (PySem.W.methodObj (.ref f) (.ref x))
 | .ext φ=>φ h/\(∃o,h.get? a=some o)/\∀h1 h2:Heap,φ h1->(∀o,h1.get? a=some o->h2.get? a=some o)->φ h2
def HOk (H:Hp) (h:Heap):Prop:=∀a o,H a=some o->ObjOk P w H h a o
end
section
variable {H':Hp}
theorem ObjOk.lt (x:ObjOk P w H h a o):a<h.objs.size:=by
 cases o with
 |lst xs=>obtain⟨_,_,_,_,e⟩:=x;exact Heap.lt_size e
 |tup xs=>obtain⟨_,_,_,p⟩:=x;exact p.lt
 |dK kvs=>obtain⟨_,_,_,_,o,_,_,e,_⟩:=x;exact Heap.lt_size e
 |dT kvs=>obtain⟨_,_,_,_,o,_,_,e,_⟩:=x;exact Heap.lt_size e
 |set S n=>obtain⟨o,_,_,_,e,_⟩:=x;exact Heap.lt_size e
 |ins C dx fs=>obtain⟨_,_,_,e,_⟩:=x;exact Heap.lt_size e
 |own y=>obtain⟨_,e⟩:=x;exact Heap.lt_size e
 |xd fs=>obtain⟨_,⟨_,_,_,e,_⟩,_⟩:=x;exact Heap.lt_size e
 |rng lo hi=>obtain⟨_,_,_,e⟩:=x;exact Heap.lt_size e
 |frz ob u=>obtain⟨e,_⟩:=x;exact Heap.lt_size e
 |tbl ps=>exact Heap.lt_size (show h.get? a=some _ from x)
 |met f y=>exact Heap.lt_size (show h.get? a=some _ from x)
 |ext φ=>obtain⟨_,⟨_,e⟩,_⟩:=x;exact Heap.lt_size e
theorem Paired.mapP {α β:Type} {F G:α->β->Prop}:∀{l₁:List α} {l₂:List β},Paired F l₁ l₂->(∀a b,F a b->G a b)->Paired G l₁ l₂
 |_,_,.nil,_=> .nil
 |_,_,.cons r t,f=> .cons (f _ _ r) (Paired.mapP t f)
theorem ObjOk.stay (x:ObjOk P w H h a o) (k:∀b u,(b=a\/H b=some (.own a))->h.get? b=some u->h'.get? b=some u)
  (ho:∀b,H b=some (.own a)->H' b=some (.own a)) (ht:∀b xs,H b=some (.tup xs)->H' b=some (.tup xs)):ObjOk P w H' h' a o:=by
 induction o with
 |lst xs=>obtain⟨z,its,n,r,e⟩:=x;exact⟨z,its,n,r,k _ _ (.inl rfl) e⟩
 |tup xs=>obtain⟨z,its,r,ob,e,c⟩:=x;exact⟨z,its,r,ob,k _ _ (.inl rfl) e,c⟩
 |dK kvs=>obtain⟨z,y,vs,r,ob,es,ep,e,c⟩:=x;exact⟨z,y,vs,r,ob,es,ep,k _ _ (.inl rfl) e,c⟩
 |dT kvs=>
  obtain⟨z,y,xs,r,ob,es,ep,e,c⟩:=x;exact⟨z,y,xs,Paired.mapP r λp q z=>⟨z.1,ht _ _ z.2.1,z.2.2⟩,ob,es,ep,k _ _ (.inl rfl) e,c⟩
 |set S n=>obtain⟨ob,es,ep,t,e,c⟩:=x;exact⟨ob,es,ep,t,k _ _ (.inl rfl) e,c⟩
 |ins C dx fs=>
  obtain⟨d,z,ne,e,mA,⟨od,es,ep,e2,c⟩,r⟩:=x;exact⟨ho _ d,z,ne,k _ _ (.inl rfl) e,mA,⟨od,es,ep,k _ _ (.inr d) e2,c⟩,r⟩
 |own y=>obtain⟨ob,e⟩:=x;exact⟨ob,k _ _ (.inl rfl) e⟩
 |xd fs=>obtain⟨mA,⟨od,es,ep,e,c⟩,r⟩:=x;exact⟨mA,⟨od,es,ep,k _ _ (.inl rfl) e,c⟩,r⟩
 |rng lo hi=>obtain⟨t,u,v,e⟩:=x;exact⟨t,u,v,k _ _ (.inl rfl) e⟩
 |frz ob u ih=>obtain⟨e,q⟩:=x;exact⟨k _ _ (.inl rfl) e,ih q⟩
 |tbl ps=>
  have e:h.get? a=some {cls:= .none,data:= .fields ps}:=x;show h'.get? a=some {cls:= .none,data:= .fields ps};exact k a _ (.inl rfl) e
 |met f y=>
  have e:h.get? a=some (PySem.W.methodObj (.ref f) (.ref y)):=x;show h'.get? a=some (PySem.W.methodObj (.ref f) (.ref y));exact k a _ (.inl rfl) e
 |ext φ=>obtain⟨p,⟨o,e⟩,st⟩:=x;exact⟨st _ _ p λo q=>k _ _ (.inl rfl) q,⟨o,k _ _ (.inl rfl) e⟩,st⟩
theorem HOk.lt (x:HOk P w H h) (e:H a=some o):a<h.objs.size:=(x a o e).lt
theorem HOk.fresh (x:HOk P w H h) (e:h.objs.size<=a):H a=none:=by
 cases q:H a with
 |none=>rfl
 |some u=>exact absurd (zq (x.lt q) e) (yE _)
theorem HOk.kept (x:HOk P w H h) (k:∀b u,h.get? b=some u->h'.get? b=some u):HOk P w H h':=λa o e=>
 (x a o e).stay (λb u _ q=>k b u q) (λ_ q=>q) λ_ _ q=>q
theorem HOk.laid (x:HOk P w H h) (k:∀b u,h.get? b=some u->h'.get? b=some u) (hp:h.objs.size<=a) (new:ObjOk P w (upd H a o) h' a o):HOk P w (upd H a o) h':=λb u e=>by
 have hn:=x.fresh hp;by_cases hb:b=a
 .subst hb;rw[ag]at e;cases e;exact new
 .rw[ae hb]at e;exact(x b u e).stay (λc v _ q=>k c v q) (λc q=>by rw[ae (am q hn)];exact q) λc xs q=>by rw[ae (am q hn)];exact q
end
def Rd (H:Hp) (a:Addr) (u:HO):Prop:=H a=some u\/∃o,H a=some (.frz o u)
theorem Rd.ok (r:Rd H a u) (x:HOk P w H h):ObjOk P w H h a u:=by
 rcases r with r|⟨o,r⟩
 .exact x a u r
 .obtain⟨_,q⟩:=x a _ r;exact q
def Mut:Option HO->Prop
 |some (.lst _)=>True
 |some (.dK _)=>True
 |some (.dT _)=>True
 |some (.set _ _)=>True
 |some (.ins _ _ _)=>True
 |some (.ext _)=>True
 |_=>False
section
variable {x e:Addr} {o':HO}
theorem HOk.write (ok:HOk P w H h) (mu:Mut (H x)) (he:e=x\/H e=some (.own x)) (k:∀b u,b≠e->h.get? b=some u->h'.get? b=some u) (heo:∃u,h'.get? e=some u)
  (new:ObjOk P w (upd H x o') h' x o'):HOk P w (upd H x o') h':=λb u q=>by
 have nown:∀c y,H c=some (.own y)->c≠x:=λc y r z=>by subst z;rw[r]at mu;exact mu
 have ntup:∀c xs,H c=some (.tup xs)->c≠x:=λc xs r z=>by subst z;rw[r]at mu;exact mu
 by_cases hb:b=x
 .subst hb;rw[ag]at q;cases q;exact new
 .rw[ae hb]at q;by_cases hbe:b=e
  .have q':H b=some (.own x):=by
    rcases he with z|z
    .exact absurd (hbe.trans z) hb
    .rw[hbe];exact z
   rw[q]at q';cases q';obtain⟨v,hv⟩:=heo;exact⟨v,by rw[hbe];exact hv⟩
  .refine(ok b u q).stay (λc v hc r=>k c v ?_ r) (λc r=>by rw[ae (nown c b r)];exact r) λc xs r=>by rw[ae (ntup c xs r)];exact r
   rcases hc with rfl|hc
   .exact hbe
   .rintro rfl;rcases he with z|z
    .exact nown c b hc z
    .rw[hc]at z;cases z;exact hb rfl
end
structure Un (fs ex:List Addr) (H H':Hp) (h h':Heap):Prop where
 keep:∀b o,h.get? b=some o->H b=none->b∉fs->b∉ex->h'.get? b=some o
 slot:∀b o,h.get? b=some o->H b=none->b∈fs->b∉ex->∃sl,h'.get? b=some {o with slots:=sl}
 free:∀b o,h.get? b=some o->H b=none->b∉ex->H' b=none
 there:∀b o,h.get? b=some o->b∉ex->∃o',h'.get? b=some o'
 tups:∀b xs,H b=some (.tup xs)->H' b=some (.tup xs)
 frzs:∀b o u,H b=some (.frz o u)->H' b=some (.frz o u)
 tbls:∀b ps,H b=some (.tbl ps)->∃more,H' b=some (.tbl (ps++more))
section
variable {fs fs' ex ex':List Addr} {H1 H2:Hp} {h1 h2:Heap} {x e:Addr}
theorem Un.any (u:Un fs ex H H1 h h1) {ob:Obj} (q:h.get? b=some ob) (n:H b=none) (hx:b∉ex):∃sl,h1.get? b=some {ob with slots:=sl}:=by
 by_cases hb:b∈fs
 .exact u.slot b ob q n hb hx
 .exact⟨ob.slots,u.keep b ob q n hb hx⟩
theorem Un.kept (k:∀b u,h.get? b=some u->h'.get? b=some u):Un fs ex H H h h':=
 ⟨λb ob q _ _ _=>k b ob q,λb ob q _ _ _=>⟨ob.slots,k b ob q⟩,λ_ _ _ n _=>n,λb ob q _=>⟨ob,k b ob q⟩,λ_ _ q=>q,λ_ _ _ q=>q,λ_ ps q=>⟨#[],by rw[q];simp⟩⟩
theorem Un.refl:Un fs ex H H h h:=Un.kept λ_ _ q=>q
theorem Un.laid (k:∀b u,h.get? b=some u->h'.get? b=some u) (hp:h.objs.size<=a) (hn:H a=none):Un fs ex H (upd H a o) h h' where
 keep:=λb u q _ _ _=>k b u q
 slot:=λb u q _ _ _=>⟨u.slots,k b u q⟩
 free:=λb u q n _=>by rw[ae (zI (zq (Heap.lt_size q) hp))];exact n
 there:=λb u q _=>⟨u,k b u q⟩
 tups:=λb xs q=>by rw[ae (am q hn)];exact q
 frzs:=λb u xs q=>by rw[ae (am q hn)];exact q
 tbls:=λb ps q=>⟨#[],by rw[ae (am q hn),q];simp⟩
theorem Un.write (mu:Mut (H x)) (he:e=x\/H e=some (.own x)) (k:∀b u,b≠e->h.get? b=some u->h'.get? b=some u) (heo:∃u,h'.get? e=some u):Un fs ex H (upd H x o) h h':=by
 have hx:∀b,H b=none->b≠x:=λb n z=>by subst z;rw[n]at mu;exact mu
 have hb:∀b,H b=none->b≠e:=λb n z=>by
  subst z;rcases he with r|r
  .exact hx b n r
  .rw[n]at r;cases r
 have hm:∀b u,H b=some u->¬Mut (some u)->b≠x:=λb u q nm z=>by subst z;rw[q]at mu;exact nm mu
 refine⟨λb u q n _ _=>k b u (hb b n) q,λb u q n _ _=>⟨u.slots,k b u (hb b n) q⟩,λb u q n _=>by rw[ae (hx b n)];exact n,λb u q _=>?_,
  λb xs q=>by rw[ae (hm b _ q λz=>z)];exact q,λb u xs q=>by rw[ae (hm b _ q λz=>z)];exact q,λb ps q=>⟨#[],by rw[ae (hm b _ q λz=>z),q];simp⟩⟩
 by_cases hbe:b=e
 .subst hbe;exact heo
 .exact⟨u,k b u hbe q⟩
end
def trk (h:Heap) (H:Hp):List Addr:=(List.range h.objs.size).filter λa=>(H a).isSome
def mH (h:Heap) (H:Hp):Heap:=PySem.W.hideAll h (trk h H)
theorem qQ (h:Heap) (H:Hp):(mH h H).objs.size=h.objs.size:=PySem.W.hideAll_size _ _
theorem sF {o:Obj} (e:h.get? b=some o) (n:H b=none):(mH h H).get? b=some o:=
 PySem.W.hideAll_get _ e λhm=>by
  have q:(H b).isSome=true:=(List.mem_filter.mp hm).2;rw[n]at q;simp at q
theorem uC {o:Obj} (e:(mH h H).get? b=some o):h.get? b=some o/\H b=none:=by
 have e':h.get? b=some o:=PySem.W.of_hideAll (trk h H) e;refine⟨e',?_⟩;cases q:H b with
 |none=>rfl
 |some x=>
  have hm:b∈trk h H:=List.mem_filter.mpr ⟨List.mem_range.mpr (Heap.lt_size e'),by simp[q]⟩;have z:(mH h H).get? b=none:=PySem.W.hideAll_none (trk h H) hm;rw[z]at e;cases e
end L2
namespace L2
open PySem PySem.Spec PyProof.Rows
variable {C a b dx it:Addr} {A:Around} {g':Array GenState} {CX:CXT} {op:CmpOp} {X:Cx} {d':Drawn} {D:Ends} {c e tg:Expr} {fd:FuncData} {base h h':Heap} {H H':Hp} {lo:Int} {g:Int->Int->Int} {pins:List (Addr×Obj)} {kw:List (Str×Value)} {ch fp:List Addr} {outer:List Env} {es:List Expr} {body:List Stmt} {N ps:List Str} {vs xs:List V} {us:List Value} {M:Model} {i n t':Nat} {o:Option Value} {p pos:Pos} {P prog:Program} {K:PySem.W.Frag} {r:R2} {R:Result->Shared->Prop} {scope:Scope} {s s':Shared} {sp:Sp} {σ:St} {f m name qual x:Str} {t ta te:TE} {tb:TS} {tc:TT} {v y:V} {u:Value} {E Q:Value->Shared->Prop} {rd:V->V->Hp->VK->Prop} {w:World}
section
structure Mod (K:PySem.W.Frag) (mg:Str->Option Value) (base:Heap):Prop where
 kin:K.In base
 glob:base.Ns mainGlobals mg
 blt:∃mb,base.Ns builtinsNs mb/\∀x:Str,x≠"__name__"->mb x=bootBuiltins x
 nolimit:base.NoLimit
/-- the context: a def's body (or a comprehension's block) running. base: fixed through the whole law; s₀, H₀: the entry; outer: the frames whose slots others may change (a def's callers); stack: all frames that run;
  ex:iterators that were made ahead of the entry and are walked here (a comprehension's);fn:the names whose cells were made at the entry (a def:all;a comprehension's block:its own);calm:not within an except suite;pn:pins that every state bears;xe:what is wanted of an exception that leaves the code-/
structure Cx where
 prog:Program
 w:World
 K:PySem.W.Frag
 mg:Str->Option Value
 base:Heap
 A:Around
 N:List Str
 s₀:Shared
 H₀:Hp
 env:Env
 outer:List Env
 stack:List Env
 ex:List Addr
 fn:Str->Bool
 calm:Bool
 pn:List (Addr×Obj)
 xe:Value->Shared->Prop
def frs (l:List Env):List Addr:=l.filterMap (·.frame)
abbrev Cx.fs (X:Cx):List Addr:=frs X.outer
def Vis (sc:Scope) (x:Str):Prop:=sc.names.lookup x=some .local\/sc.names.lookup x=some .cell\/sc.names.lookup x=some .free
def Loc (sc:Scope) (x:Str):Prop:=sc.names.lookup x=some .local\/sc.names.lookup x=some .cell
def Look (env:Env) (h:Heap) (m:Str->Option Value) (x:Str) (u:Value):Prop:=
 (env.kindOf x=some .local/\m x=some u)\/((env.kindOf x=some .cell\/env.kindOf x=some .free)/\∃c,env.cells.lookup x=some c/\h.IsCell c (some u))
structure Cx.Ok (X:Cx):Prop where
 mod:Mod X.K X.mg X.base
 kind:X.env.scope.kind= .function
 glob:X.env.globals=mainGlobals
 blt:X.env.builtins=builtinsNs
 above:X.s₀.heap.objs.size<=X.env.locals
 inj:∀x y c,X.env.cells.lookup x=some c->X.env.cells.lookup y=some c->x=y
 has:∀x,(X.env.kindOf x=some .cell\/X.env.kindOf x=some .free)->∃c,X.env.cells.lookup x=some c
 cab:∀x c,X.fn x=true->X.env.cells.lookup x=some c->X.s₀.heap.objs.size<=c
 hd:X.calm=true->X.A.handled=none
 frames:X.A.frames=some X.stack
 stk:X.stack=X.outer\/(X.stack=X.env::X.outer/\X.env.frame=some X.env.locals)
 exf:∀b∈X.ex,b≠X.env.locals/\∀x c,X.env.cells.lookup x=some c->c≠b
 bs:∀b o,X.base.get? b=some o->X.s₀.heap.get? b=some o/\X.H₀ b=none
 bsz:X.base.objs.size<=X.s₀.heap.objs.size
 noex:∀b o,X.base.get? b=some o->b∉X.ex
 exfs:∀b∈X.ex,b∉X.fs
 funs:X.s₀.heap.FunFrames X.base X.outer
 frf:∀b∈X.fs,X.H₀ b=none
structure Inv (X:Cx) (pins:List (Addr×Obj)) (σ:List (Option V)) (H:Hp) (s:Shared):Prop where
 ok:X.Ok
 os:s.os=X.s₀.os
 bare:AllBare s.gens
 base:Un X.fs X.ex X.H₀ H X.s₀.heap s.heap
 loc:∃m,s.heap.Ns X.env.locals m/\∀(i:Nat) (x:Str) (v:V),X.N[i]?=some x->σ[i]?=some (some v)->Vis X.env.scope x->∃u,RelV v u/\Look X.env s.heap m x u
 cell:∀x c,X.env.cells.lookup x=some c->∃v,s.heap.IsCell c v
 free:H X.env.locals=none
 freeC:∀x c,X.env.cells.lookup x=some c->H c=none
 pin:∀p∈X.pn++pins,s.heap.get? p.1=some p.2/\H p.1=none/\p.1≠X.env.locals/\p.1∉X.fs/\∀v,p.2.data≠ .cell v
 hok:HOk X.prog X.w H s.heap
 len:σ.length=X.N.length
section
variable {σ:List (Option V)}
theorem Cx.Ok.nofr (ok:X.Ok) {o:Obj} (e:X.base.get? b=some o):b∉X.fs:=λhb=>by
 have:=(ok.funs.mem hb).1;rw[e]at this;cases this
theorem Inv.bs (I:Inv X pins σ H s):∀b o,X.base.get? b=some o->s.heap.get? b=some o/\H b=none:=λb o e=>
 ⟨I.base.keep b o (I.ok.bs b o e).1 (I.ok.bs b o e).2 (I.ok.nofr e) (I.ok.noex b o e),I.base.free b o (I.ok.bs b o e).1 (I.ok.bs b o e).2 (I.ok.noex b o e)⟩
theorem Inv.bk (I:Inv X pins σ H s):∀b o,X.base.get? b=some o->s.heap.get? b=some o:=λb o e=>(I.bs b o e).1
theorem Inv.mod (I:Inv X pins σ H s):Mod X.K X.mg X.base:=I.ok.mod
theorem Inv.kIn (I:Inv X pins σ H s):X.K.In s.heap:=I.ok.mod.kin.keeps I.bk
theorem Inv.lt (I:Inv X pins σ H s):X.env.locals<s.heap.objs.size:=let⟨_,hn,_⟩:=I.loc;hn.lt
theorem Inv.sz (I:Inv X pins σ H s):X.s₀.heap.objs.size<=s.heap.objs.size:=zC I.ok.above (Q3 I.lt)
theorem Inv.nofs (I:Inv X pins σ H s) (h:s.heap.objs.size<=a):a∉X.fs:=λhb=>by
 obtain⟨_,o,ho,_⟩:=I.ok.funs.mem hb;exact absurd (zq (Heap.lt_size ho) (zC I.sz h)) (yE _)
theorem Inv.cne (I:Inv X pins σ H s):∀x c,X.env.cells.lookup x=some c->c≠X.env.locals:=λx c e z=>by
 obtain⟨v,o,ho,hd⟩:=I.cell x c e;obtain⟨m,⟨o',es,ep,ho',hd',_⟩,_⟩:=I.loc;rw[z,ho']at ho;cases ho;rw[hd']at hd;cases hd
theorem Inv.funs (I:Inv X pins σ H s):s.heap.FunFrames X.base X.outer:=by
 have all:∀(l:List Env),(∀b∈frs l,b∈X.fs)->X.s₀.heap.FunFrames X.base l->s.heap.FunFrames X.base l:=by
  intro l
  induction l with
  |nil=>intro _ _;trivial
  |cons env r ih=>
   intro hs hl;obtain⟨hk,⟨L,o,hf,hn,ho,hd⟩,hr⟩:=hl;have hL:L∈X.fs:=hs L (by unfold frs;rw[Qe,hf];exact zi);obtain⟨sl,e⟩:=I.base.slot L o ho (I.ok.frf L hL) hL λz=>I.ok.exfs L z hL;exact⟨hk,⟨L,_,hf,hn,e,hd⟩,ih (λb hb=>hs b (by unfold frs;rw[Qe,hf];exact zj _ hb)) hr⟩
 exact all X.outer (λ_ hb=>hb) I.ok.funs
theorem Inv.stack (I:Inv X pins σ H s):s.heap.FunFrames X.base X.stack:=by
 rcases I.ok.stk with e|⟨e,hf⟩
 .rw[e];exact I.funs
 .rw[e];obtain⟨m,hn,_⟩:=I.loc;refine .cons (by rw[I.ok.kind];decide) hf hn ?_ I.funs;exact Heap.get?_none_of_le (zC I.ok.bsz I.ok.above)
theorem Inv.stkSub (I:Inv X pins σ H s):∀b∈frs X.stack,b∈X.env.locals::X.fs:=λb hb=>by
 rcases I.ok.stk with e|⟨e,hf⟩
 .rw[e]at hb;exact zj _ hb
 .rw[e]at hb;unfold frs at hb;rw[Qe,hf]at hb;exact hb
theorem Inv.stkFree (I:Inv X pins σ H s):∀b∈frs X.stack,H b=none:=λb hb=>by
 rcases zh.mp (I.stkSub b hb)with e|hb
 .rw[e];exact I.free
 .obtain⟨_,o,ho,_⟩:=I.ok.funs.mem hb;exact I.base.free b o ho (I.ok.frf b hb) λz=>I.ok.exfs b z hb
theorem Inv.step (I:Inv X pins σ H s)
  (hch:∀b∈ch,(b∈X.ex\/X.s₀.heap.objs.size<=b)/\b≠X.env.locals/\(∀x c,X.env.cells.lookup x=some c->c≠b)/\∀p∈X.pn++pins,p.1≠b)
  (keep:∀b o,b≠X.env.locals->b∉X.fs->b∉ch->s.heap.get? b=some o->H b=none->h'.get? b=some o)
  (slot:∀b o,b≠X.env.locals->b∈X.fs->b∉ch->s.heap.get? b=some o->H b=none->∃sl,h'.get? b=some {o with slots:=sl}) (free:∀b o,b∉ch->s.heap.get? b=some o->H b=none->H' b=none)
  (there:∀b o,b∉ch->s.heap.get? b=some o->∃o',h'.get? b=some o')
  (tups:∀b xs,H b=some (.tup xs)->H' b=some (.tup xs)) (frzs:∀b o u,H b=some (.frz o u)->H' b=some (.frz o u)) (tbls:∀b ps,H b=some (.tbl ps)->∃more,H' b=some (.tbl (ps++more)))
  (ns:∀m,s.heap.Ns X.env.locals m->h'.Ns X.env.locals m) (hok:HOk X.prog X.w H' h') (hg:AllBare g'):
  Inv X pins σ H' {s with heap:=h',gens:=g',drawn:=d',toks:=t'}:=by
 have neL:∀b o,X.s₀.heap.get? b=some o->b≠X.env.locals:=λb o e=>zI (zq (Heap.lt_size e) I.ok.above);have neC:∀b o,X.s₀.heap.get? b=some o->b∉X.ex->b∉ch:=λb o e hx hb=>by
  rcases(hch b hb).1 with z|z
  .exact hx z
  .exact absurd (zq (Heap.lt_size e) z) (yE _)
 have cellK:∀x c,X.env.cells.lookup x=some c->∀v,s.heap.IsCell c v->h'.IsCell c v:=λx c e v ⟨o,ho,hd⟩=>by
  have nch:c∉ch:=λz=>(hch c z).2.2.1 x c e rfl;by_cases hc:c∈X.fs
  .obtain⟨sl,q⟩:=slot c o (I.cne x c e) hc nch ho (I.freeC x c e);exact⟨_,q,hd⟩
  .exact⟨o,keep c o (I.cne x c e) hc nch ho (I.freeC x c e),hd⟩
 refine⟨I.ok,I.os,hg,⟨λb o e n hb hx=>?_,λb o e n hb hx=>?_,λb o e n hx=>?_,λb o e hx=>?_,λb xs e=>tups b xs (I.base.tups b xs e),λb o xs e=>frzs b o xs (I.base.frzs b o xs e),λb ps e=>?_⟩,?_,λx c e=>?_,?_,λx c e=>?_,λp hp=>?_,hok,I.len⟩
 .exact keep b o (neL b o e) hb (neC b o e hx) (I.base.keep b o e n hb hx) (I.base.free b o e n hx)
 .obtain⟨sl,e1⟩:=I.base.slot b o e n hb hx;obtain⟨sl',e2⟩:=slot b _ (neL b o e) hb (neC b o e hx) e1 (I.base.free b o e n hx);exact⟨sl',e2⟩
 .obtain⟨o',e1⟩:=I.base.there b o e hx;exact free b o' (neC b o e hx) e1 (I.base.free b o e n hx)
 .obtain⟨o',e1⟩:=I.base.there b o e hx;exact there b o' (neC b o e hx) e1
 .obtain⟨m1,e1⟩:=I.base.tbls b ps e;obtain⟨m2,e2⟩:=tbls b _ e1;exact⟨m1++m2,by rw[e2,Array.append_assoc]⟩
 .obtain⟨m,hn,hl⟩:=I.loc;refine⟨m,ns m hn,λi x v e1 e2 e3=>?_⟩;obtain⟨u,r,l⟩:=hl i x v e1 e2 e3;refine⟨u,r,?_⟩;rcases l with l|⟨k,c,e,z⟩
  .exact .inl l
  .exact .inr ⟨k,c,e,cellK x c e _ z⟩
 .obtain⟨v,z⟩:=I.cell x c e;exact⟨v,cellK x c e v z⟩
 .obtain⟨m,⟨o,_,_,ho,_⟩,_⟩:=I.loc;exact free _ o (λz=>(hch _ z).2.1 rfl) ho I.free
 .obtain⟨v,o,ho,hd⟩:=I.cell x c e;exact free c o (λz=>(hch c z).2.2.1 x c e rfl) ho (I.freeC x c e)
 .obtain⟨e,n,ne,nf,d⟩:=I.pin p hp;have nch:p.1∉ch:=λz=>(hch p.1 z).2.2.2 p hp rfl;exact⟨keep p.1 p.2 ne nf nch e n,free p.1 p.2 nch e n,ne,nf,d⟩
theorem Inv.un (I:Inv X pins σ H s) (u:Un X.fs [] H H' s.heap h') (hok:HOk X.prog X.w H' h'):Inv X pins σ H' {s with heap:=h',toks:=t'}:=by
 obtain⟨m,⟨o,es,ep,ho,r⟩,_⟩:=id I.loc;obtain⟨sl,hL⟩:=u.any ho I.free (by simp);exact I.step (g':=s.gens) (d':=s.drawn) (ch:=[]) (λ_ z=>nomatch z) (λb o _ hb _ e n=>u.keep b o e n hb (by simp)) (λb o _ hb _ e n=>u.slot b o e n hb (by simp)) (λb o _ e n=>u.free b o e n (by simp)) (λb o _ e=>u.there b o e (by simp)) u.tups u.frzs u.tbls (λm' hm=>by
  obtain⟨o',es',ep',ho',r'⟩:=hm;rw[ho]at ho';cases ho';exact⟨_,es',ep',hL,r'⟩) hok I.bare
theorem Inv.call (I:Inv X pins σ H s) (u:Un (frs X.stack) ch H H' s.heap h') (hok:HOk X.prog X.w H' h') (hg:AllBare g')
  (hch:∀b∈ch,(b∈X.ex\/X.s₀.heap.objs.size<=b)/\b≠X.env.locals/\(∀x c,X.env.cells.lookup x=some c->c≠b)/\∀p∈X.pn++pins,p.1≠b):
  Inv X pins σ H' {s with heap:=h',gens:=g',drawn:=d',toks:=t'}:=by
 obtain⟨m,⟨o,es,ep,ho,r⟩,_⟩:=id I.loc;obtain⟨sl,hL⟩:=u.any ho I.free λz=>(hch _ z).2.1 rfl;exact I.step (ch:=ch) hch (λb o hL hb hc e n=>u.keep b o e n (λz=>(zh.mp (I.stkSub b z)).elim hL hb) hc) (λb o _ _ hc e n=>u.any e n hc) (λb o hc e n=>u.free b o e n hc) (λb o hc e=>u.there b o e hc) u.tups u.frzs u.tbls (λm' hm=>by
  obtain⟨o',es',ep',ho',r'⟩:=hm;rw[ho]at ho';cases ho';exact⟨_,es',ep',hL,r'⟩) hok hg
theorem Inv.turned (I:Inv X pins σ H s) (k:∀b o,b≠it->s.heap.get? b=some o->h'.get? b=some o) (hn:H it=none) (hL:it≠X.env.locals)
  (h1:it∈X.ex\/X.s₀.heap.objs.size<=it) (h2:∀x c,X.env.cells.lookup x=some c->c≠it) (h3:∀p∈X.pn++pins,p.1≠it):Inv X pins σ H {s with heap:=h',toks:=t'}:=by
 have nit:∀b u,H b=some u->b≠it:=λb u e z=>by rw[z,hn]at e;cases e
 refine I.step (g':=s.gens) (d':=s.drawn) (ch:=[it]) (λb hb=>?_) (λb o _ _ hc e _=>k b o (λz=>hc (by simp[z])) e) (λb o _ _ hc e _=>⟨o.slots,k b o (λz=>hc (by simp[z])) e⟩) (λ_ _ _ _ n=>n)
  (λb o hc e=>⟨o,k b o (λz=>hc (by simp[z])) e⟩) (λ_ _ e=>e) (λ_ _ _ e=>e) (λb ps e=>⟨#[],by rw[e];simp⟩) (λm hm=>?_) (λb u e=>?_) I.bare
 .have e:b=it:=by simpa using hb
  subst e;exact⟨h1,hL,h2,h3⟩
 .obtain⟨o,es,ep,ho,r⟩:=hm;exact⟨o,es,ep,k _ o (Ne.symm hL) ho,r⟩
 .refine(I.hok b u e).stay (λc v hc q=>k c v ?_ q) (λ_ q=>q) λ_ _ q=>q;rcases hc with z|z
  .rw[z];exact nit b u e
  .exact nit c _ z
theorem Inv.tok (I:Inv X pins σ H s) (t:Nat):Inv X pins σ H {s with toks:=t}:=I.un (h':=s.heap) (t':=t) Un.refl I.hok
theorem Inv.kept (I:Inv X pins σ H s) (k:∀b u,s.heap.get? b=some u->h'.get? b=some u):Inv X pins σ H {s with heap:=h',toks:=t'}:=I.un (Un.kept k) (I.hok.kept k)
theorem Inv.laid {o:HO} (I:Inv X pins σ H s) (k:∀b u,s.heap.get? b=some u->h'.get? b=some u) (hp:s.heap.objs.size<=a) (new:ObjOk X.prog X.w (upd H a o) h' a o):
  Inv X pins σ (upd H a o) {s with heap:=h',toks:=t'}:=I.un (Un.laid k hp (I.hok.fresh hp)) (I.hok.laid k hp new)
theorem Inv.write {x e:Addr} {o:HO} (I:Inv X pins σ H s) (mu:Mut (H x)) (he:e=x\/H e=some (.own x)) (k:∀b u,b≠e->s.heap.get? b=some u->h'.get? b=some u) (heo:∃u,h'.get? e=some u)
  (new:ObjOk X.prog X.w (upd H x o) h' x o):Inv X pins σ (upd H x o) {s with heap:=h',toks:=t'}:=I.un (Un.write mu he k heo) (I.hok.write mu he k heo new)
theorem Inv.pins_of {pins':List (Addr×Obj)} (I:Inv X pins σ H s) (h:∀p∈pins',s.heap.get? p.1=some p.2/\H p.1=none/\p.1≠X.env.locals/\p.1∉X.fs/\∀v,p.2.data≠ .cell v):Inv X pins' σ H s:=
 ⟨I.ok,I.os,I.bare,I.base,I.loc,I.cell,I.free,I.freeC,λp hp=>(zd.mp hp).elim (λz=>I.pin p (zR _ z)) (h p),I.hok,I.len⟩
theorem j5 (hN:N.Nodup) {j:Nat} (a:N[i]?=some x) (b:N[j]?=some x):i=j:=by
 obtain⟨h1,e1⟩:=za.mp a;obtain⟨h2,e2⟩:=za.mp b;exact(List.getElem_inj hN).mp (e1.trans e2.symm)
theorem qr {Q:Unit->Shared->Prop} (I:Inv X pins σ H s) (hN:X.N.Nodup) (hi:X.N[i]?=some x) (hx:Loc X.env.scope x) (r:RelV v u)
  (h:∀s',Inv X pins (σ.set i (some v)) H s'->(∃a,Heap.SameBut a s.heap s'.heap/\(a=X.env.locals\/X.env.cells.lookup x=some a))->Q () s') (hf:X.fn x=true\/X.env.scope.names.lookup x=some .local:=by first|exact .inl rfl|exact .inr rfl|assumption):wpAny M A (storeName X.env x u) Q E s:=by
 obtain⟨m,hn,hl⟩:=id I.loc;have hcls:(X.env.scope.kind== .class||(X.env.scope.kind== .module&&X.env.locals !=X.env.globals))=false:=by rw[I.ok.kind];rfl
 have hiσ:i<σ.length:=by rw[I.len];exact(za.mp hi).1
 have cne:=I.cne;have tracked:∀{a:Addr} {h':Heap},(∃o,s.heap.get? a=some o/\H a=none)->Heap.SameBut a s.heap h'->HOk X.prog X.w H h':=λ{a h'} ha hs b ob e=>by
  obtain⟨_,_,hfree⟩:=ha;refine(I.hok b ob e).stay (λc w' hc q=>(hs.2 c ?_).trans q) (λ_ q=>q) λ_ _ q=>q;rintro rfl;rcases hc with rfl|hc
  .rw[hfree]at e;cases e
  .rw[hfree]at hc;cases hc
 rcases hx with hk|hk
 .refine wpAny_storeName_local hk hn (λh' hn' hs=>?_) hcls;obtain⟨oL,_,_,hoL,_⟩:=id hn;refine h _ ⟨I.ok,I.os,I.bare,⟨λb o e n hb hx=>?_,λb o e n hb hx=>?_,I.base.free,λb o e hx=>?_,I.base.tups,I.base.frzs,I.base.tbls⟩,⟨_,hn',λj y v' e1 e2 e3=>?_⟩,λy c e=>?_,I.free,I.freeC,λp hp=>?_,tracked ⟨oL,hoL,I.free⟩ hs,by simpa using I.len⟩ ⟨_,hs,.inl rfl⟩
  .exact(hs.2 b (zI (zq (Heap.lt_size e) I.ok.above))).trans (I.base.keep b o e n hb hx)
  .obtain⟨sl,e1⟩:=I.base.slot b o e n hb hx;exact⟨sl,(hs.2 b (zI (zq (Heap.lt_size e) I.ok.above))).trans e1⟩
  .obtain⟨o',e1⟩:=I.base.there b o e hx;exact⟨o',(hs.2 b (zI (zq (Heap.lt_size e) I.ok.above))).trans e1⟩
  .by_cases hj:j=i
   .subst hj;rw[hi]at e1;cases e1;rw[Q4 hiσ]at e2;cases e2;exact⟨u,r,.inl ⟨hk,by simp⟩⟩
   .rw[Q9 (Ne.symm hj)]at e2;obtain⟨u',r',q⟩:=hl j y v' e1 e2 e3;refine⟨u',r',?_⟩;rcases q with⟨k,e⟩|⟨k,c,e,z⟩
    .refine .inl ⟨k,?_⟩;have:y≠x:=λe=>hj (j5 hN e1 (e▸hi));simp[this,e]
    .exact .inr ⟨k,c,e,z.sameBut hs (cne y c e)⟩
  .obtain⟨w',z⟩:=I.cell y c e;exact⟨w',z.sameBut hs (cne y c e)⟩
  .obtain⟨e,n,ne,nf,d⟩:=I.pin p hp;exact⟨(hs.2 p.1 ne).trans e,n,ne,nf,d⟩
 .have hfn:X.fn x=true:=by
   rcases hf with z|z
   .exact z
   .rw[z]at hk;cases hk
  obtain⟨c,hc⟩:=I.ok.has x (.inl hk);obtain⟨w',z⟩:=I.cell x c hc;refine wpAny_storeName_cell I.ok.kind hk hc z (λh' hc' hs=>?_);obtain⟨oc,hoc,hocd⟩:=id z;refine h {s with heap:=h'} ⟨I.ok,I.os,I.bare,⟨λb o e n hb hx=>?_,λb o e n hb hx=>?_,I.base.free,λb o e hx=>?_,I.base.tups,I.base.frzs,I.base.tbls⟩,⟨m,hn.sameBut hs (Ne.symm (cne x c hc)),λj y v' e1 e2 e3=>?_⟩,λy c' e=>?_,I.free,I.freeC,λp hp=>?_,tracked ⟨oc,hoc,I.freeC x c hc⟩ hs,by simpa using I.len⟩ ⟨c,hs,.inr hc⟩
  .exact(hs.2 b (zI (zq (Heap.lt_size e) (I.ok.cab x c hfn hc)))).trans (I.base.keep b o e n hb hx)
  .obtain⟨sl,e1⟩:=I.base.slot b o e n hb hx;exact⟨sl,(hs.2 b (zI (zq (Heap.lt_size e) (I.ok.cab x c hfn hc)))).trans e1⟩
  .obtain⟨o',e1⟩:=I.base.there b o e hx;exact⟨o',(hs.2 b (zI (zq (Heap.lt_size e) (I.ok.cab x c hfn hc)))).trans e1⟩
  .by_cases hj:j=i
   .subst hj;rw[hi]at e1;cases e1;rw[Q4 hiσ]at e2;cases e2;exact⟨u,r,.inr ⟨.inl hk,c,hc,hc'⟩⟩
   .rw[Q9 (Ne.symm hj)]at e2;obtain⟨u',r',q⟩:=hl j y v' e1 e2 e3;refine⟨u',r',?_⟩;rcases q with q|⟨k,c',e,z'⟩
    .exact .inl q
    .refine .inr ⟨k,c',e,z'.sameBut hs ?_⟩;rintro rfl;exact hj (j5 hN e1 (I.ok.inj _ _ _ e hc▸hi))
  .by_cases hcc:c'=c
   .subst hcc;exact⟨_,hc'⟩
   .obtain⟨w2,z2⟩:=I.cell y c' e;exact⟨w2,z2.sameBut hs hcc⟩
  .obtain⟨e,n,ne,nf,d⟩:=I.pin p hp;refine⟨(hs.2 p.1 ?_).trans e,n,ne,nf,d⟩;intro q;rw[q,hoc]at e;have q':oc=p.2:=Option.some.inj e;exact d w' (by rw[<-q'];exact hocd)
theorem gS {Q:Unit->Shared->Prop} (I:Inv X pins σ H s) (hN:X.N.Nodup) (hi:X.N[i]?=some x) (hx:Loc X.env.scope x) (r:RelV v u)
  (h:∀s',Inv X pins (σ.set i (some v)) H s'->Q () s') (hf:X.fn x=true\/X.env.scope.names.lookup x=some .local:=by first|exact .inl rfl|exact .inr rfl|assumption):wpAny M A (storeName X.env x u) Q E s:=
 qr I hN hi hx r (λs' I' _=>h s' I') hf
theorem Inv.call' (I:Inv X pins σ H s) (ho:s'.os=s.os) (u:Un (frs X.stack) ch H H' s.heap s'.heap) (hok:HOk X.prog X.w H' s'.heap) (hg:AllBare s'.gens)
  (hch:∀b∈ch,(b∈X.ex\/X.s₀.heap.objs.size<=b)/\b≠X.env.locals/\(∀x c,X.env.cells.lookup x=some c->c≠b)/\∀p∈X.pn++pins,p.1≠b):Inv X pins σ H' s':=by
 obtain⟨h',g',d',t',o'⟩:=s';have e:o'=s.os:=ho;subst e;exact I.call (g':=g') (t':=t') (d':=d') u hok hg hch
end
abbrev XK:=Value->Option Addr->Hp->Prop
abbrev St:=List (Option V)
abbrev VK:=V->Hp->Prop
abbrev TE:=St->Hp->VK->Prop
abbrev TT:=St->Hp->(Bool->Hp->Prop)->Prop
abbrev TA:=St->Hp->(List V->Hp->Prop)->Prop
structure Ends where
 nx:St->Hp->Prop
 rt:VK
 bk:St->Hp->Prop:=λ_ _=>False
 ct:St->Hp->Prop:=λ_ _=>False
abbrev TS:=Ends->St->Hp->Prop
def EP (X:Cx) (pins:List (Addr×Obj)) (σ:St) (Q:VK) (u:Value) (s':Shared):Prop:=∃v H',Inv X pins σ H' s'/\RelV v u/\Q v H'
def TP (X:Cx) (pins:List (Addr×Obj)) (σ:St) (Q:Bool->Hp->Prop) (b:Bool) (s':Shared):Prop:=∃H',Inv X pins σ H' s'/\Q b H'
def AP (X:Cx) (pins:List (Addr×Obj)) (σ:St) (Q:List V->Hp->Prop) (us:List Value) (s':Shared):Prop:=∃vs H',Inv X pins σ H' s'/\Vals vs us/\Q vs H'
def SP (X:Cx) (pins:List (Addr×Obj)) (D:Ends) (f:Flow) (s':Shared):Prop:=
 match f with
 | .next=>∃σ' H',Inv X pins σ' H' s'/\D.nx σ' H'
 | .brk=>∃σ' H',Inv X pins σ' H' s'/\D.bk σ' H'
 | .cont=>∃σ' H',Inv X pins σ' H' s'/\D.ct σ' H'
 | .ret u=>∃v σ' H',Inv X pins σ' H' s'/\RelV v u/\D.rt v H'
def PE (X:Cx) (e:Expr) (t:TE):Prop:=
 ∀(pins:List (Addr×Obj)) (s:Shared) (σ:St) (H:Hp) (Q:VK),Inv X pins σ H s->t σ H Q->wpAny (model X.prog X.w) X.A (eval e X.env) (EP X pins σ Q) X.xe s
def PT (X:Cx) (e:Expr) (t:TT):Prop:=
 ∀(pins:List (Addr×Obj)) (s:Shared) (σ:St) (H:Hp) (Q:Bool->Hp->Prop),Inv X pins σ H s->t σ H Q->wpAny (model X.prog X.w) X.A (isTrue e X.env (eval e X.env)) (TP X pins σ Q) X.xe s
def PW (X:Cx) (e:Expr) (t:TT):Prop:=
 ∀(whole:Sem Value) (pins:List (Addr×Obj)) (s:Shared) (σ:St) (H:Hp) (Q:Bool->Hp->Prop),Inv X pins σ H s->t σ H Q->wpAny (model X.prog X.w) X.A (isTrue e X.env whole) (TP X pins σ Q) X.xe s
theorem PW.pt {t:TT} (h:PW X e t):PT X e t:=h _
def PA (X:Cx) (es:List Expr) (t:TA):Prop:=
 ∀(pos:Pos) (pins:List (Addr×Obj)) (s:Shared) (σ:St) (H:Hp) (Q:List V->Hp->Prop),Inv X pins σ H s->t σ H Q->wpAny (model X.prog X.w) X.A (spliced (backTo pos (starEach es X.env))) (AP X pins σ Q) X.xe s
def PS (X:Cx) (st:Stmt) (t:TS):Prop:=
 ∀(pins:List (Addr×Obj)) (s:Shared) (σ:St) (H:Hp) (D:Ends),Inv X pins σ H s->t D σ H->wpAny (model X.prog X.w) X.A (exec st X.env) (SP X pins D) X.xe s
def PSs (X:Cx) (st:List Stmt) (t:TS):Prop:=
 ∀(pins:List (Addr×Obj)) (s:Shared) (σ:St) (H:Hp) (D:Ends),Inv X pins σ H s->t D σ H->wpAny (model X.prog X.w) X.A (execs st X.env) (SP X pins D) X.xe s
theorem thn {α:Type} {t:Sem α} {Q Q':α->Shared->Prop} (h:wpAny M A t Q E s) (hQ:∀a s,Q a s->Q' a s):wpAny M A t Q' E s:=wpAny_mono h hQ λ_ _ x=>x
end
section
section
def t8 (i:Nat):TE:=λσ H Q=>∃v,σ[i]?=some (some v)/\Q v H
def tC (v:V):TE:=λ_ H Q=>Q v H
theorem wd (hN:X.N[i]?=some x) (hv:Vis X.env.scope x) (hd:(x==("__debug__":Str))=false:=by decide) (hcd:(x==("__classdict__":Str))=false:=by decide):PE X (.Name x pos) (t8 i):=by
 intro pins s σ H Q I h;obtain⟨v,e,h⟩:=h;obtain⟨m,hn,hl⟩:=I.loc;obtain⟨u,r,l⟩:=hl i x v hN e hv;have fin:EP X pins σ Q u s:=⟨v,H,I,r,h⟩;rcases l with⟨hk,hm⟩|⟨hk,c,hc,hcell⟩
 .exact wpAny_Name (wpAny_loadName_local I.ok.kind hk hn hm fin) hd
 .rcases hk with hk|hk
  .exact wpAny_Name (wpAny_loadName_cell I.ok.kind hk hc hcell fin) hd
  .exact wpAny_Name (wpAny_loadName_free I.ok.kind hk hc hcell fin hcd) hd
theorem ai {i j pos}:PE X (.Constant (.int i) j pos) (tC (.int i)):=λ_ _ _ H _ I h=>wpAny_Constant_int ⟨.int i,H,I.tok _,⟨_,rfl⟩,h⟩
theorem gj {b j pos}:PE X (.Constant (.bool b) j pos) (tC (.bl b)):=λ_ _ _ H _ I h=>Constant_bool ⟨.bl b,H,I,rfl,h⟩
theorem jO {j pos}:PE X (.Constant .none j pos) (tC .non):=λ_ _ _ H _ I h=>Constant_none ⟨.non,H,I,rfl,h⟩
theorem aZ {x j pos}:PE X (.Constant (.str x) j pos) (tC (.str x)):=λ_ _ _ H _ I h=>Calls.Constant_str ⟨.str x,H,I.tok _,⟨_,rfl⟩,h⟩
def Gl (X:Cx) (x:Str):Prop:=X.env.kindOf x=some .globalImplicit
theorem f9 (I:Inv X pins σ H s) (hg:Gl X x) (hm:X.mg x=some u) (h:Q u s)
  (hd:(x==("__debug__":Str))=false:=by decide):wpAny (model X.prog X.w) X.A (eval (.Name x pos) X.env) Q E s:=
 Calls.Name_function_global I.ok.kind hg (Calls.loadGlobal_global (by rw[I.ok.glob];exact I.mod.glob.keeps I.bk) hm h) hd
theorem my (I:Inv X pins σ H s) (hg:Gl X x) (hm:X.mg x=none) (hv:bootBuiltins x=some u) (h:Q u s)
  (hn:x≠"__name__":=by decide) (hd:(x==("__debug__":Str))=false:=by decide):wpAny (model X.prog X.w) X.A (eval (.Name x pos) X.env) Q E s:=by
 obtain⟨mb,h1,h2⟩:=I.mod.blt;exact Calls.Name_function_global I.ok.kind hg (Calls.loadGlobal_builtin (by rw[I.ok.glob];exact I.mod.glob.keeps I.bk) hm (by rw[I.ok.blt];exact h1.keeps I.bk) ((h2 x hn).trans hv) h) hd
theorem cv (hg:Gl X x) (hm:X.mg x=some u) (r:RelV v u) (hd:(x==("__debug__":Str))=false:=by decide):PE X (.Name x pos) (tC v):=
 λ_ _ _ H _ I h=>f9 I hg hm ⟨v,H,I,r,h⟩ hd
theorem me (hg:Gl X x) (hm:X.mg x=none) (hv:bootBuiltins x=some u) (r:RelV v u) (hn:x≠"__name__":=by decide) (hd:(x==("__debug__":Str))=false:=by decide):PE X (.Name x pos) (tC v):=
 λ_ _ _ H _ I h=>my I hg hm hv ⟨v,H,I,r,h⟩ hn hd
variable {a b:Expr} {tb:TE}
def PC (X:Cx) (op:CmpOp) (a b:Expr) (t:TE):Prop:=
 ∀(pins:List (Addr×Obj)) (s:Shared) (σ:St) (H:Hp) (Q:VK),Inv X pins σ H s->t σ H Q->
  wpAny (model X.prog X.w) X.A (eval a X.env) (λv s₁=>wpAny (model X.prog X.w) X.A (eval b X.env) (λu s₂=>wpAny (model X.prog X.w) X.A (compareOp op v u) (EP X pins σ Q) X.xe s₂) X.xe s₁) X.xe s
def tB (t:TE):TT:=λσ H Q=>t σ H λx H1=>∃c,x= .bl c/\Q c H1
theorem wf (h:PC X op a b t) (h1:behindInMarks op b=false:=by first|exact nobehind _ (by decide) (by decide)|rfl):PE X (.Compare a [op] [b] pos) t:=λpins s σ H Q I hw=>wpAny_Compare1 (h pins s σ H Q I hw) h1
theorem rQ (h:PC X op a b t) (h1:behindInMarks op b=false:=by first|exact nobehind _ (by decide) (by decide)|rfl):PT X (.Compare a [op] [b] pos) (tB t):=by
 intro pins s σ H Q I hw;refine wpAny_isTrue_Compare1 (thn (h pins s σ H _ I hw) λv s1 h1=>thn h1 λu s2 h2=>thn h2 λc s3 hzz=>?_) h1;obtain⟨x,H1,I1,r1,q1⟩:=hzz;obtain⟨d,rfl,q⟩:=q1;cases r1;exact wpAny_truthy_bool ⟨H1,I1,q⟩
theorem cG (h:PE X e t) (he:∀whole,isTrue e X.env whole=(do let v<-whole;standAt e.pos;holding [v] (truthy v)):=by intro _;rfl):PT X e (tB t):=by
 intro pins s σ H Q I hw;refine isTrue_plain (thn (h pins s σ H _ I hw) λv s1 hzz=>?_) (he _);obtain⟨x,H1,I1,r1,q1⟩:=hzz;obtain⟨d,rfl,q⟩:=q1;cases r1;exact wpAny_truthy_bool ⟨H1,I1,q⟩
variable {tA tB':TT} {rest:List Expr}
def tAnd (t u:TT):TT:=λσ H Q=>t σ H λc H1=>if c=true then u σ H1 Q else Q false H1
def tOr (t u:TT):TT:=λσ H Q=>t σ H λc H1=>if c=true then Q true H1 else u σ H1 Q
def tNot (t:TT):TT:=λσ H Q=>t σ H λc H1=>Q (!c) H1
theorem db (ha:PT X a tA):PW X (.BoolOp .And [a] pos) tA:=by
 intro wh pins s σ H Q I h;refine isTrue_and (thn (ha pins s σ H Q I h) λc s1 e=>?_);cases c with
 |true=>exact isTrue_and_nil e
 |false=>exact e
theorem jJ (ha:PT X a tA):PW X (.BoolOp .Or [a] pos) tA:=by
 intro wh pins s σ H Q I h;refine isTrue_or (thn (ha pins s σ H Q I h) λc s1 e=>?_);cases c with
 |false=>exact isTrue_or_nil e
 |true=>exact e
theorem fA (ha:PT X a tA) (hb:PW X (.BoolOp .And (b::rest) pos) tB'):PW X (.BoolOp .And (a::b::rest) pos) (tAnd tA tB'):=by
 intro wh pins s σ H Q I h;refine isTrue_and (thn (ha pins s σ H _ I h) λc s1 ⟨H1,I1,q1⟩=>?_);cases c with
 |true=>exact hb wh pins s1 σ H1 Q I1 q1
 |false=>exact⟨H1,I1,q1⟩
theorem jK (ha:PT X a tA) (hb:PW X (.BoolOp .Or (b::rest) pos) tB'):PW X (.BoolOp .Or (a::b::rest) pos) (tOr tA tB'):=by
 intro wh pins s σ H Q I h;refine isTrue_or (thn (ha pins s σ H _ I h) λc s1 ⟨H1,I1,q1⟩=>?_);cases c with
 |true=>exact⟨H1,I1,q1⟩
 |false=>exact hb wh pins s1 σ H1 Q I1 q1
theorem fB (ha:PT X a tA):PT X (.UnaryOp .Not a pos) (tNot tA):=by
 intro pins s σ H Q I h;exact isTrue_not (ha pins s σ H (λc H1=>Q (!c) H1) I h)
def xm (ta tb:TE):TE:=λσ H Q=>ta σ H λx H1=>∃c,x= .bl c/\if c=true then tb σ H1 Q else Q (.bl false) H1
theorem rW {op} (h:PE X a t):PE X (.BoolOp op [a] pos) t:=λpins s σ H Q I hw=>BoolOp_one (h pins s σ H Q I hw)
theorem rZ (ha:PE X a ta) (hb:PE X (.BoolOp .And (b::rest) pos) tb):PE X (.BoolOp .And (a::b::rest) pos) (xm ta tb):=by
 intro pins s σ H Q I h;refine BoolOp_and (thn (ha pins s σ H _ I h) λv s1 hzz=>?_);obtain⟨x,H1,I1,r1,q1⟩:=hzz;obtain⟨c,rfl,q1⟩:=q1;cases r1;refine wpAny_truthy_bool ?_;cases c with
 |true=>exact hb pins s1 σ H1 Q I1 q1
 |false=>exact⟨.bl false,H1,I1,rfl,q1⟩
def tIf (t:TT) (ta tb:TE):TE:=λσ H Q=>t σ H λc H1=>if c=true then ta σ H1 Q else tb σ H1 Q
theorem rX (hc:PT X c tA) (ha:PE X a ta) (hb:PE X b tb):PE X (.IfExp c a b pos) (tIf tA ta tb):=by
 intro pins s σ H Q I h;refine wpAny_IfExp (thn (hc pins s σ H _ I h) λd s1 ⟨H1,I1,q1⟩=>?_);cases d with
 |true=>exact ha pins s1 σ H1 Q I1 q1
 |false=>exact hb pins s1 σ H1 Q I1 q1
end
end
section
def SqL (K:PySem.W.Frag) (H:Hp) (a:Addr) (xs:List V):Prop:=
 Rd H a (.lst xs)\/
  ∃(o:Obj) (its:Array Value) (n:Nat),K.lookup a=some o/\o.cls= .type "list"/\o.dict=none/\o.data= .seq its n/\its.size<=sizeLine/\Vals xs its.toList
def SqT (K:PySem.W.Frag) (H:Hp) (a:Addr) (xs:List V):Prop:=
 Rd H a (.tup xs)\/
  ∃(o:Obj) (its:Array Value) (n:Nat),K.lookup a=some o/\o.cls= .type "tuple"/\o.data= .seq its n/\its.size<=sizeLine/\Vals xs its.toList
def absV:Value->Option V
 | .none=>some .non
 | .bool b=>some (.bl b)
 | .int i _=>some (.int i)
 | .str x _=>some (.str x)
 | .bytes b _=>some (.byt b)
 | .float b _=>some (.flt b)
 | .ref a=>some (.ref a)
 | .type n=>some (.ty n)
 |_=>none
theorem RelV.abs {x:V} (r:RelV x u):absV u=some x:=by
 cases x with
 |non=>cases r;rfl
 |bl _=>cases r;rfl
 |int _=>obtain⟨t,rfl⟩:=r;rfl
 |str _=>obtain⟨t,rfl⟩:=r;rfl
 |byt _=>obtain⟨t,rfl⟩:=r;rfl
 |flt _=>obtain⟨t,rfl⟩:=r;rfl
 |ref _=>cases r;rfl
 |ty _=>cases r;rfl
theorem RelV.inj {x:V} (r:RelV x u) (q:RelV y u):x=y:=Option.some.inj (r.abs.symm.trans q.abs)
theorem Vals.inj:∀{xs ys:List V} {us:List Value},Vals xs us->Vals ys us->xs=ys
 |_,_,_,.nil,.nil=>rfl
 |_,_,_,.cons r t,.cons r' t'=>by rw[r.inj r',Vals.inj t t']
section
variable {ys:List V}
theorem SqL.of (h:H a=some (.lst xs)):SqL K H a xs:= .inl (.inl h)
theorem SqT.of (h:H a=some (.tup xs)):SqT K H a xs:= .inl (.inl h)
theorem Inv.list (I:Inv X pins σ H s) (h:SqL X.K H a xs):∃its:List Value,Vals xs its/\PlainL s.heap a its.toArray/\xs.length<=sizeLine:=by
 rcases h with h|⟨o,its,n,hk,hc,hd,hs,hz,r⟩
 .obtain⟨z,its,n,r,e⟩:=h.ok I.hok;exact⟨its,r,⟨_,n,e,rfl,rfl,rfl⟩,z⟩
 .refine⟨its.toList,r,⟨o,n,I.kIn a o hk,hc,hd,by simpa using hs⟩,?_⟩;have e:=r.length;simp only[Array.length_toList]at e;lia
theorem Inv.tuple (I:Inv X pins σ H s) (h:SqT X.K H a xs):∃its:List Value,Vals xs its/\IsTup s.heap a its.toArray/\xs.length<=sizeLine:=by
 rcases h with h|⟨o,its,n,hk,hc,hs,hz,r⟩
 .obtain⟨z,its,r,p⟩:=h.ok I.hok;exact⟨its,r,p,z⟩
 .refine⟨its.toList,r,⟨o,I.kIn a o hk,hc,n,by simpa using hs⟩,?_⟩;have e:=r.length;simp only[Array.length_toList]at e;lia
theorem Inv.list_inj (I:Inv X pins σ H s) (h:SqL X.K H a xs) (h':SqL X.K H a ys):xs=ys:=by
 obtain⟨its,r,⟨o,n,e,_,_,d⟩,_⟩:=I.list h;obtain⟨its',r',⟨o',n',e',_,_,d'⟩,_⟩:=I.list h';rw[e]at e';cases e';rw[d]at d';injection d' with d1 _;have:its=its':=by simpa using congrArg Array.toList d1
 subst this;exact r.inj r'
end
abbrev Cx.wish (X:Cx) (E:Value->Shared->Prop):Cx:={X with xe:=E}
abbrev Cx.nox (X:Cx):Cx:=X.wish λ_ _=>False
theorem Cx.Ok.wish (ok:X.Ok) (E:Value->Shared->Prop):(X.wish E).Ok:=
 ⟨ok.mod,ok.kind,ok.glob,ok.blt,ok.above,ok.inj,ok.has,ok.cab,ok.hd,ok.frames,ok.stk,ok.exf,ok.bs,ok.bsz,ok.noex,ok.exfs,ok.funs,ok.frf⟩
theorem Cx.Ok.unwish (ok:(X.wish E).Ok):X.Ok:=
 ⟨ok.mod,ok.kind,ok.glob,ok.blt,ok.above,ok.inj,ok.has,ok.cab,ok.hd,ok.frames,ok.stk,ok.exf,ok.bs,ok.bsz,ok.noex,ok.exfs,ok.funs,ok.frf⟩
section
theorem Inv.wish (I:Inv X pins σ H s) (E:Value->Shared->Prop):Inv (X.wish E) pins σ H s:=⟨I.ok.wish E,I.os,I.bare,I.base,I.loc,I.cell,I.free,I.freeC,I.pin,I.hok,I.len⟩
theorem Inv.unwish (I:Inv (X.wish E) pins σ H s):Inv X pins σ H s:=⟨I.ok.unwish,I.os,I.bare,I.base,I.loc,I.cell,I.free,I.freeC,I.pin,I.hok,I.len⟩
theorem SP.unwish {f:Flow} (h:SP (X.wish E) pins D f s'):SP X pins D f s':=by
 cases f with
 |next=>obtain⟨σ',H',I,q⟩:=h;exact⟨σ',H',I.unwish,q⟩
 |brk=>obtain⟨σ',H',I,q⟩:=h;exact⟨σ',H',I.unwish,q⟩
 |cont=>obtain⟨σ',H',I,q⟩:=h;exact⟨σ',H',I.unwish,q⟩
 |ret u=>obtain⟨v,σ',H',I,r,q⟩:=h;exact⟨v,σ',H',I.unwish,r,q⟩
theorem PSs.nox {st:List Stmt} {t:TS} (h:PSs X.nox st t):PSs X st t:=λpins s σ H D I hw=>
 wpAny_mono (h pins s σ H D (I.wish _) hw) (λ_ _ q=>q.unwish) λ_ _ z=>False.elim z
end
section
variable {st:Stmt} {rest:List Stmt} {t u:TS}
def vp:TS:=λD σ H=>D.nx σ H
def t9 (t u:TS):TS:=λD σ H=>t {D with nx:=u D} σ H
theorem aG:PSs X [] vp:=λ_ _ σ H _ I h=>wpAny_execs_nil ⟨σ,H,I,h⟩
theorem af (h1:PS X st t) (h2:PSs X rest u):PSs X (st::rest) (t9 t u):=by
 intro pins s σ H D I h;refine wpAny_execs_cons (thn (h1 pins s σ H {D with nx:=u D} I h) λf s1 q=>?_);cases f with
 |next=>
  obtain⟨σ',H',I',q⟩:=q;exact h2 pins s1 σ' H' D I' q
 |ret v=>exact q
 |brk=>exact q
 |cont=>exact q
theorem aj (h1:PS X st t):PSs X [st] t:=by
 intro pins s σ H D I h;refine wpAny_execs_cons (thn (h1 pins s σ H D I h) λf s1 q=>?_);cases f with
 |next=>exact wpAny_execs_nil q
 |ret v=>exact q
 |brk=>exact q
 |cont=>exact q
theorem Inv.quiet (I:Inv X pins σ H s):interactive X.env=false:=by simp[interactive,I.ok.kind]
def xh (te:TE):TS:=λD σ H=>te σ H λ_ H1=>D.nx σ H1
theorem bq (he:PE X e te) (hs:swapsWith e none pos.line X.env=pure false:=by rfl):PS X (.Expr e pos) (xh te):=by
 intro pins s σ H D I h;exact wpAny_Expr_any (thn (he pins s σ H _ I h) λv s1 ⟨x,H1,I1,r1,q1⟩=>⟨σ,H1,I1,q1⟩) I.quiet hs
def tRet (te:TE):TS:=λD σ H=>te σ H D.rt
theorem aC (he:PE X e te):PS X (.Return (some e) pos) (tRet te):=by
 intro pins s σ H D I h;exact wpAny_Return_some (thn (he pins s σ H _ I h) λv s1 ⟨x,H1,I1,r1,q1⟩=>⟨x,σ,H1,I1,r1,q1⟩)
def xc:TS:=λD _ H=>D.rt .non H
theorem l7:PS X (.Return none pos) xc:=λ_ _ σ H _ I h=>wpAny_Return_none ⟨.non,σ,H,I,rfl,h⟩
def tIfS (c:TT) (t u:TS):TS:=λD σ H=>c σ H λb H1=>if b=true then t D σ H1 else u D σ H1
theorem aY {a b:List Stmt} (hc:PT X c tc) (ha:PSs X a t) (hb:PSs X b u):PS X (.If c a b pos) (tIfS tc t u):=by
 intro pins s σ H D I h;refine wpAny_If (thn (hc pins s σ H _ I h) λd s1 ⟨H1,I1,q1⟩=>?_);cases d with
 |true=>exact ha pins s1 σ H1 D I1 q1
 |false=>exact hb pins s1 σ H1 D I1 q1
end
abbrev TG:=V->St->Hp->(St->Hp->Prop)->Prop
abbrev TGs:=List V->St->Hp->(St->Hp->Prop)->Prop
def PG (X:Cx) (target:Expr) (t:TG):Prop:=
 ∀(pins:List (Addr×Obj)) (s:Shared) (σ:St) (H:Hp) (v:V) (u:Value) (Q:St->Hp->Prop),Inv X pins σ H s->RelV v u->t v σ H Q->
  wpAny (model X.prog X.w) X.A (assign target X.env u) (λ_ s'=>∃σ' H',Inv X pins σ' H' s'/\Q σ' H') X.xe s
def PGs (X:Cx) (ts:List Expr) (t:TGs):Prop:=
 ∀(pins:List (Addr×Obj)) (s:Shared) (σ:St) (H:Hp) (vs:List V) (us:List Value) (Q:St->Hp->Prop),Inv X pins σ H s->Vals vs us->t vs σ H Q->
  wpAny (model X.prog X.w) X.A (assignInOrder ((assignEach ts X.env).map (·.2)) us) (λ_ s'=>∃σ' H',Inv X pins σ' H' s'/\Q σ' H') X.xe s
abbrev wS:=V->V->V->Hp->(Hp->Prop)->Prop
def PSet (X:Cx) (t:wS):Prop:=
 ∀(pins:List (Addr×Obj)) (s:Shared) (σ:St) (H:Hp) (o i v:V) (ov iv u:Value) (Q:Hp->Prop),Inv X pins σ H s->RelV o ov->RelV i iv->RelV v u->t o i v H Q->
  wpAny (model X.prog X.w) X.A (setItem ov iv u) (λ_ s'=>∃H',Inv X pins σ H' s'/\Q H') X.xe s
abbrev TIp:=V->V->Hp->VK->Prop
def PIp (X:Cx) (op:Operator) (t:TIp):Prop:=
 ∀(pins:List (Addr×Obj)) (s:Shared) (σ:St) (H:Hp) (x y:V) (v u:Value) (Q:VK),Inv X pins σ H s->RelV x v->RelV y u->t x y H Q->
  wpAny (model X.prog X.w) X.A (inplaceOp op v u) (EP X pins σ Q) X.xe s
section
def iQ (i:Nat):TG:=λv σ H Q=>Q (σ.set i (some v)) H
theorem eM (hN:X.N.Nodup) (hi:X.N[i]?=some x) (hx:Loc X.env.scope x) (hf:X.fn x=true\/X.env.scope.names.lookup x=some .local:=by first|exact .inl rfl|exact .inr rfl|assumption):PG X (.Name x pos) (iQ i):=by
 intro pins s σ H v u Q I r h;exact wpAny_assign_Name (gS I hN hi hx r (λs' I'=>⟨_,H,I',h⟩) hf)
def gNil:TGs:=λvs σ H Q=>vs=[]/\Q σ H
def xI (t:TG) (u:TGs):TGs:=λvs σ H Q=>∃v r,vs=v::r/\t v σ H λσ' H'=>u r σ' H' Q
theorem uz:PGs X [] gNil:=by
 intro pins s σ H vs us Q I r h;obtain⟨e,h⟩:=h;subst e;cases r;exact assignInOrder_nil ⟨σ,H,I,h⟩
theorem nB {t:TG} {u:TGs} (h1:PG X e t) (h2:PGs X es u)
  (hs:(assignEach (e::es) X.env).map (·.2)=assign e X.env::(assignEach es X.env).map (·.2):=by rfl):PGs X (e::es) (xI t u):=by
 intro pins s σ H vs us Q I r h;obtain⟨v,vr,e1,h⟩:=h;subst e1;cases r with
 |cons r rr=>
  rw[hs];refine assignInOrder_cons (thn (h1 pins s σ H _ _ _ I r h) λ_ s1 hzz=>?_);obtain⟨σ1,H1,I1,q1⟩:=hzz;exact h2 pins s1 σ1 H1 _ _ Q I1 rr q1
def gTup (K:PySem.W.Frag) (n:Nat) (t:TGs):TG:=λv σ H Q=>∃a xs,v= .ref a/\SqT K H a xs/\xs.length=n/\t xs σ H Q
theorem wc {k:Nat} {t:TGs} (hc:X.calm=true) (h:PGs X es t)
  (hn:(assignEach es X.env).length=n:=by rfl) (hst:(assignEach es X.env).findIdx? (·.1)=none:=by rfl):PG X (.Tuple es k pos) (gTup X.K n t):=by
 intro pins s σ H v u Q I r hw;obtain⟨a,xs,e1,hq,hl,hw⟩:=hw;subst e1;cases r;obtain⟨its,rv,ht,hz⟩:=I.tuple hq;refine assign_Tuple_tuple (I.ok.hd hc) ht (by simp[hn,<-hl,rv.length]) hst λh' hx=>?_;have I1:Inv X pins σ H {s with heap:=h'}:=I.kept (t':=s.toks) λb o e=>hx b o (zI (Heap.lt_size e)) e;exact h pins _ σ H xs _ Q I1 (by simpa using rv) hw
def gSub (to ti:TE) (t:wS):TG:=λv σ H Q=>to σ H λo H1=>ti σ H1 λi H2=>t o i v H2 λH3=>Q σ H3
theorem rV {o i:Expr} {to ti:TE} {t:wS} (ho:PE X o to) (hi:PE X i ti) (hs:PSet X t)
  (ha:∀v,assign (.Subscript o i pos) X.env v=(do
   let ov<-holding [v] (eval o X.env)
   let iv<-holding [v,ov] (eval i X.env)
   standAt pos
   holding [v,ov,iv] (setItem ov iv v)
   release [v,ov,iv] []):=by intro _;rfl):PG X (.Subscript o i pos) (gSub to ti t):=by
 intro pins s σ H v u Q I r h;rw[ha];refine wpAny_bind (wpAny_holding (thn (ho pins s σ H _ I h) λov s1 hzz=>?_));obtain⟨x,H1,I1,r1,q1⟩:=hzz;refine wpAny_bind (wpAny_holding (thn (hi pins s1 σ H1 _ I1 q1) λiv s2 hzz=>?_));obtain⟨y,H2,I2,r2,q2⟩:=hzz;refine wpAny_bind (wpAny_standAt (wpAny_bind (wpAny_holding (thn (hs pins s2 σ H2 x y v ov iv u _ I2 r1 r2 r q2) λ_ s3 hzz=>?_))));obtain⟨H3,I3,q3⟩:=hzz;exact wpAny_release ⟨σ,H3,I3,q3⟩
def tAsg (te:TE) (g:TG):TS:=λD σ H=>te σ H λx H1=>g x σ H1 D.nx
theorem rR {g:TG} (he:PE X e te) (hg:PG X tg g) (hs:swapsWithSole [tg] e pos.line X.env=pure false:=by rfl) (hw:swappedStores [tg] e X.env=pure none:=by rfl)
  (h1:(assignEach [tg] X.env).map (·.2)=[assign tg X.env]:=by rfl):PS X (.Assign [tg] e pos) (tAsg te g):=by
 intro pins s σ H D I h;refine wpAny_Assign_stores (thn (he pins s σ H _ I h) λv s1 hzz=>?_) hs hw;obtain⟨x,H1,I1,r1,q1⟩:=hzz;rw[h1];exact thn (hg pins s1 σ H1 x v _ I1 r1 q1) λ_ s2 q=>q
theorem ar {i:Nat} {x:Str} {e:Expr} {te:TE} {pos':Pos} (hN:X.N.Nodup) (hi:X.N[i]?=some x) (hx:Loc X.env.scope x) (he:PE X e te) (hs:swapsWith e (some (.Name x pos')) pos.line X.env=pure false:=by rfl) (hf:X.fn x=true\/X.env.scope.names.lookup x=some .local:=by first|exact .inl rfl|exact .inr rfl|assumption):
  PS X (.Assign [.Name x pos'] e pos) (tAsg te (iQ i)):=by
 intro pins s σ H D I h;refine wpAny_Assign_Name (thn (he pins s σ H _ I h) λv s1 hzz=>?_) hs;obtain⟨y,H1,I1,r1,q1⟩:=hzz;exact gS I1 hN hi hx r1 (λs2 I2=>⟨_,H1,I2,q1⟩) hf
def tAug (i:Nat) (te:TE) (ti:TIp):TS:=λD σ H=>∃x,σ[i]?=some (some x)/\te σ H λy H1=>ti x y H1 λz H2=>D.nx (σ.set i (some z)) H2
theorem wb {op:Operator} {ti:TIp} {pos':Pos} (hN:X.N.Nodup) (hi:X.N[i]?=some x) (hx:Loc X.env.scope x) (he:PE X e te) (ho:PIp X op ti) (hf:X.fn x=true\/X.env.scope.names.lookup x=some .local:=by first|exact .inl rfl|exact .inr rfl|assumption):
  PS X (.AugAssign (.Name x pos') op e pos) (tAug i te ti):=by
 intro pins s σ H D I h;obtain⟨v,e1,h⟩:=h;obtain⟨m,hn,hl⟩:=I.loc;have vis:Vis X.env.scope x:=by rcases hx with k|k;exact .inl k;exact .inr (.inl k)
 obtain⟨u,r,l⟩:=hl i x v hi e1 vis;refine wpAny_AugAssign_Name ?_;have go:wpAny (model X.prog X.w) X.A (eval e X.env) (λw s₂=>wpAny (model X.prog X.w) X.A (inplaceOp op u w) (λr s₃=>wpAny (model X.prog X.w) X.A (storeName X.env x r) (λ_=>SP X pins D .next) X.xe s₃) X.xe s₂) X.xe s:=by
  refine thn (he pins s σ H _ I h) λw s1 hzz=>?_;obtain⟨y,H1,I1,r1,q1⟩:=hzz;refine thn (ho pins s1 σ H1 v y u w _ I1 r r1 q1) λz s2 hzz=>?_;obtain⟨zv,H2,I2,r2,q2⟩:=hzz;exact gS I2 hN hi hx r2 (λs3 I3=>⟨_,H2,I3,q2⟩) hf
 rcases l with⟨hk,hm⟩|⟨hk,c,hc,hcell⟩
 .exact wpAny_loadName_local I.ok.kind hk hn hm go
 .rcases hk with hk|hk
  .exact wpAny_loadName_cell I.ok.kind hk hc hcell go
  .rcases hx with k|k
   .have:X.env.scope.names.lookup x=some .free:=hk;rw[k]at this;cases this
   .have:X.env.scope.names.lookup x=some .free:=hk;rw[k]at this;cases this
def ipI (f:Int->Int->Int):TIp:=λx y H Q=>∃i j,x= .int i/\y= .int j/\Q (.int (f i j)) H
theorem wD:PIp X .Add (ipI λi j=>i+j):=by
 intro pins s σ H x y v u Q I r1 r2 h;obtain⟨i,j,e1,e2,q⟩:=h;subst e1;subst e2;obtain⟨t,rfl⟩:=r1;obtain⟨t',rfl⟩:=r2;exact iadd_int ⟨.int _,H,I.tok _,⟨_,rfl⟩,q⟩
end
section
def vV (c:TT) (tb:TS):TS:=λD σ H=>∃W:Nat->St->Hp->Prop,(∃m,W m σ H)/\∀m σ H,W m σ H->
 c σ H λb H1=>if b=true then ∃N:St->Hp->Prop,(∀σ' H',N σ' H'->∃m',m'<m/\W m' σ' H')/\tb {D with nx:=N,ct:=N,bk:=D.nx} σ H1 else D.nx σ H1
theorem nu (hp:PassesOwn (model X.prog X.w) X.A X.env X.xe) (hc:PT X c tc) (hb:PSs X body tb):PS X (.While c body [] pos) (vV tc tb):=by
 intro pins s σ H D I h;obtain⟨W,⟨m0,w0⟩,turn⟩:=h;refine wpAny_While (codeAny_whileLoop (λn s'=>∃σ' H',Inv X pins σ' H' s'/\W n σ' H') ?_ m0 ⟨σ,H,I,w0⟩);rintro n s1 ⟨σ1,H1,I1,w1⟩;refine wpAny_passesOwn hp (thn (hc pins s1 σ1 H1 _ I1 (turn n σ1 H1 w1)) λb s2 ⟨H2,I2,q2⟩=>?_);cases b with
 |true=>
  obtain⟨N,hN,q2⟩:=q2;rw[if_pos rfl];refine wpAny_passesOwn hp (thn (hb pins s2 σ1 H2 _ I2 q2) λf s3 q3=>?_);cases f with
  |next=>
   obtain⟨σ3,H3,I3,n3⟩:=q3;obtain⟨m',hm,w3⟩:=hN σ3 H3 n3;exact⟨m',hm,σ3,H3,I3,w3⟩
  |cont=>
   obtain⟨σ3,H3,I3,n3⟩:=q3;obtain⟨m',hm,w3⟩:=hN σ3 H3 n3;exact⟨m',hm,σ3,H3,I3,w3⟩
  |brk=>exact q3
  |ret v=>exact q3
 |false=>
  rw[if_neg zb];exact wpAny_execs_nil ⟨σ1,H2,I2,q2⟩
end
structure It where
 go:Nat->Hp->Prop
 yld:Nat->Hp->V->Hp->Prop
 stop:Nat->Hp->Prop
def fT (X:Cx) (pins:List (Addr×Obj)) (H:Hp) (b:Addr):Prop:=
 H b=none/\b≠X.env.locals/\b∉X.fs/\(b∈X.ex\/X.s₀.heap.objs.size<=b)/\(∀x c,X.env.cells.lookup x=some c->c≠b)/\∀p∈X.pn++pins,p.1≠b
theorem Inv.fpOk (I:Inv X pins σ H s) (hb:s.heap.objs.size<=b) (hn:H' b=none):fT X pins H' b:=by
 refine⟨hn,Qi (zq I.lt hb),I.nofs hb,.inr (zC I.sz hb),λx c e z=>?_,λp hp z=>?_⟩
 .obtain⟨v,q⟩:=I.cell x c e;exact absurd (zq q.lt (by rw[z];exact hb)) (yE _)
 .exact absurd (zq (Heap.lt_size (I.pin p hp).1) (by rw[z];exact hb)) (yE _)
structure rh (P:Program) (w:World) (K:PySem.W.Frag) (tg:Expr) (J:It) (fp:List Addr) (it:Addr) (tn:Nat->Heap->Prop):Prop where
 mem:it∈fp
 obj:∀i h,tn i h->∀b∈fp,∃o,h.get? b=some o/\∀v,o.data≠ .cell v
 keep:∀i h h',tn i h->(∀b∈fp,∀o,h.get? b=some o->h'.get? b=some o)->tn i h'
 item:∀(X:Cx),X.prog=P->X.w=w->X.K=K->X.calm=true->∀(i:Nat) (pins:List (Addr×Obj)) (s:Shared) (σ:St) (H:Hp) (E:Value->Shared->Prop),Inv X pins σ H s->(∀b∈fp,fT X pins H b)->tn i s.heap->J.go i H->
  wpAny (model P w) X.A (pyNext (.ref it)) (λr s1=>∃u,r=some u/\
   wpAny (model P w) X.A (letOwnedTupleGo tg (.ref it) u) (λ_ s2=>∃x H',Inv X pins σ H' s2/\RelV x u/\J.yld i H x H'/\tn (i+1) s2.heap/\∀b∈fp,H' b=none) E s1) E s
 done:∀(X:Cx),X.prog=P->X.w=w->X.K=K->X.calm=true->∀(i:Nat) (pins:List (Addr×Obj)) (s:Shared) (σ:St) (H:Hp) (E:Value->Shared->Prop),Inv X pins σ H s->(∀b∈fp,fT X pins H b)->tn i s.heap->J.stop i H->
  wpAny (model P w) X.A (pyNext (.ref it)) (λr s1=>r=none/\Inv X pins σ H s1) E s
 self:∀(A:Around) (i:Nat) (s:Shared) (Q:Value->Shared->Prop) (E:Value->Shared->Prop),tn i s.heap->Q (.ref it) s->wpAny (model P w) A (pyIter (.ref it)) Q E s
abbrev TI:=St->Hp->(It->Hp->Prop)->Prop
def PIE (X:Cx) (pins:List (Addr×Obj)) (σ:St) (tg:Expr) (R:It->Hp->Prop) (itv:Value) (s2:Shared):Prop:=
 ∃(it:Addr) (fp:List Addr) (tn:Nat->Heap->Prop) (J:It) (H':Hp),itv= .ref it/\Inv X pins σ H' s2/\rh X.prog X.w X.K tg J fp it tn/\tn 0 s2.heap/\(∀b∈fp,fT X pins H' b)/\R J H'
def PI (X:Cx) (tg iter:Expr) (wi:TI):Prop:=
 ∀(pins:List (Addr×Obj)) (s:Shared) (σ:St) (H:Hp) (R:It->Hp->Prop),Inv X pins σ H s->wi σ H R->
  wpAny (model X.prog X.w) X.A (eval iter X.env) (λv s1=>wpAny (model X.prog X.w) X.A (pyIter v) (PIE X pins σ tg R) X.xe s1) X.xe s
theorem p7 {o:Obj} {n:String} {vs:Array Value} {Q:Unit->Shared->Prop} (ho:s.heap.get? it=some o) (hc:o.cls= .type n) (hd:o.data= .fields vs)
  (hn:["enumerate","zip","dict_itemiterator","dict_reverseitemiterator","odict_iterator","itertools.zip_longest","itertools.pairwise"].contains n=false) (hQ:Q () s):wpAny M A (letOwnedTupleGo tg (.ref it) u) Q E s:=by
 unfold letOwnedTupleGo;cases tg<;>first
  |exact wpAny_pure hQ
  |(cases u<;>first
    |exact wpAny_pure hQ
    |(refine wpAny_bind (wpAny_load ho ?_)
      rw[hc,hd];show wpAny M A (if(["enumerate","zip","dict_itemiterator","dict_reverseitemiterator","odict_iterator","itertools.zip_longest","itertools.pairwise"].contains n&&vs[0]?==some (rawInt _))=true then _ else _) Q E s;rw[if_neg (by intro h;rw[hn,yI]at h;cases h)];exact wpAny_pure hQ))
def Itl (K:PySem.W.Frag) (a:Addr):It:=
 ⟨λi H=>∃xs x,SqL K H a xs/\xs[i]?=some x,λi H x H'=>H'=H/\∀xs,SqL K H a xs->xs[i]?=some x,λi H=>∃xs,SqL K H a xs/\xs.length<=i⟩
def Itr (lo:Int) (n:Nat):It:=⟨λi _=>i<n,λi H x H'=>H'=H/\x= .int (lo+i),λi _=>n<=i⟩
theorem qo (a it:Addr):rh P w K tg (Itl K a) [it] it (λi h=>h.IsListIter it a i) where
 mem:=by simp
 obj:=λi h st b hb=>by
  have e:b=it:=by simpa using hb
  subst e;obtain⟨o,e,c,d⟩:=st;exact⟨o,e,λv z=>by rw[d]at z;cases z⟩
 keep:=λi h h' st k=>st.at λo e=>k it (by simp) o e
 item:=by
  intro X hP hw hK hc i pins s σ H E I hf st hg;subst hP hw hK;obtain⟨xs,x,hq,hx⟩:=hg;obtain⟨its,rv,p,hz⟩:=I.list hq;obtain⟨u,hu,ru⟩:=rv.get hx;obtain⟨f0,f1,f2,f3,f4,f5⟩:=hf it (by simp);refine wpAny_pyNext_list_item st p.isList (x:=u) (by simpa using hu) λh' st' sb=>?_;have I1:Inv X pins σ H {s with heap:=h'}:=I.turned (t':=s.toks) (λb o hb e=>(sb.2 b hb).trans e) f0 f1 f3 f4 f5;obtain⟨o,e,c,d⟩:=id st';exact⟨u,rfl,p7 (s:={s with heap:=h'}) e c d (by decide) ⟨x,H,I1,ru,⟨rfl,λys hy=>by rw[I.list_inj hy hq];exact hx⟩,st',λb hb=>(hf b hb).1⟩⟩
 done:=by
  intro X hP hw hK hc i pins s σ H E I hf st hg;subst hP hw hK;obtain⟨xs,hq,hx⟩:=hg;obtain⟨its,rv,p,hz⟩:=I.list hq;obtain⟨f0,f1,f2,f3,f4,f5⟩:=hf it (by simp);have hl:=rv.length;exact wpAny_pyNext_list_end (I.ok.hd hc) st p.isList (by simp;lia) λh' eb=>⟨rfl,I.turned (t':=s.toks) (λb o hb e=>eb b o hb e) f0 f1 f3 f4 f5⟩
 self:=λ_ _ _ _ _ st h=>wpAny_pyIter_listiter st h
theorem oA (it:Addr) (lo:Int) (n:Nat):rh P w K tg (Itr lo n) [it] it (λi h=>IsRangeIter h it (lo+(i:Nat)*1) ((n:Int)-(i:Nat)) 1) where
 mem:=by simp
 obj:=λi h st b hb=>by
  have e:b=it:=by simpa using hb
  subst e;exact⟨_,st,λv z=>by
   have z':Data.fields _=Data.cell v:=z;cases z'⟩
 keep:=λi h h' st k=>k it (by simp) _ st
 item:=by
  intro X hP hw hK hc i pins s σ H E I hf st hg;subst hP hw hK;obtain⟨f0,f1,f2,f3,f4,f5⟩:=hf it (by simp);have W:=Walks.range (prog:=X.prog) (w:=X.w) (I.ok.hd hc) it lo 1 n;refine W.item i s _ _ hg st λv h' tk hv st' kk=>?_;obtain⟨t,rfl⟩:=hv;have I1:Inv X pins σ H {s with heap:=h',toks:=tk}:=I.turned (λb o hb e=>kk b o (by simpa using hb) e) f0 f1 f3 f4 f5;refine⟨_,rfl,p7 (s:={s with heap:=h',toks:=tk}) (n:="range_iterator") st' rfl rfl (by decide) ⟨.int (lo+i),H,I1,⟨t,?_⟩,⟨rfl,rfl⟩,st',λb hb=>(hf b hb).1⟩⟩;rw[Int.mul_one]
 done:=by
  intro X hP hw hK hc i pins s σ H E I hf st hg;subst hP hw hK;obtain⟨f0,f1,f2,f3,f4,f5⟩:=hf it (by simp);exact wpAny_pyNext_range_end (I.ok.hd hc) st (by have:n<=i:=hg;lia) λh' eb=>⟨rfl,I.turned (t':=s.toks) (λb o hb e=>eb b o hb e) f0 f1 f3 f4 f5⟩
 self:=λ_ _ _ _ _ st h=>wpAny_pyIter_rangeiter st h
end
section
section
def xG (K:PySem.W.Frag) (tl:TE):TI:=λσ H R=>tl σ H λx H1=>∃a,x= .ref a/\(∃xs,SqL K H1 a xs)/\R (Itl K a) H1
theorem g6 {l:Expr} {tl:TE} (hl:PE X l tl):PI X tg l (xG X.K tl):=by
 intro pins s σ H R I h;refine thn (hl pins s σ H _ I h) λv s1 hzz=>?_;obtain⟨x,H1,I1,r1,q1⟩:=hzz;obtain⟨a,e,⟨xs,hq⟩,q⟩:=q1;subst e;cases r1;obtain⟨its,rv,p,hz⟩:=I1.list hq;refine wpAny_pyIter_list p.isList ?_;refine⟨s1.heap.objs.size,[s1.heap.objs.size],_,_,H1,rfl,I1.kept (t':=s1.toks) λb o e=>Heap.get?_push_of_some _ e,qo a _,⟨_,Heap.get?_push_size _ rfl,rfl,rfl⟩,λb hb=>?_,q⟩;have e:b=s1.heap.objs.size:=by simpa using hb
 subst e;exact I1.fpOk (zg _) (I1.hok.fresh (zg _))
theorem rP {R:It->Hp->Prop} {hi:Int} {t u v:Tok} {tk:Nat} (I:Inv X pins σ H s) (h1: -(2^62)<=lo) (h2:lo<2^62) (h3: -(2^62)<=hi) (h4:hi<2^62)
  (q:R (Itr lo (hi-lo).toNat) H):wpAny (model X.prog X.w) X.A (pyIter (.ref s.heap.objs.size)) (PIE X pins σ tg R) E {s with heap:=s.heap.push {cls:= .type "range",data:= .fields #[.int lo t,.int hi u,.int 1 v]},toks:=tk}:=by
 refine wpAny_pyIter_range (IsRange.new ..) (small_one h1 h2 h3 h4) ?_;have I1:Inv X pins σ H {s with heap:=s.heap.push {cls:= .type "range",data:= .fields #[.int lo t,.int hi u,.int 1 v]},toks:=tk}:=I.kept λb o e=>Heap.get?_push_of_some _ e;refine⟨(s.heap.push {cls:= .type "range",data:= .fields #[.int lo t,.int hi u,.int 1 v]}).objs.size,[(s.heap.push {cls:= .type "range",data:= .fields #[.int lo t,.int hi u,.int 1 v]}).objs.size],_,_,H,rfl,
  I1.kept (t':=tk) λb o e=>Heap.get?_push_of_some _ e,oA _ lo (hi-lo).toNat,?_,λb hb=>?_,q⟩
 .have e1:lo+((0:Nat):Int)*1=lo:=by simp
  have e2:(((hi-lo).toNat:Nat):Int)-((0:Nat):Int)=Builtin.Range.rangeSize lo hi 1:=by rw[rangeSize_one];split<;>lia
  show IsRangeIter _ _ (lo+((0:Nat):Int)*1) ((((hi-lo).toNat:Nat):Int)-((0:Nat):Int)) 1;rw[e1,e2];exact Heap.get?_push_size _ rfl
 .have e:b=(s.heap.push {cls:= .type "range",data:= .fields #[.int lo t,.int hi u,.int 1 v]}).objs.size:=by simpa using hb
  subst e;exact I1.fpOk (zg _) (I1.hok.fresh (zg _))
def xF (ta:TA):TI:=λσ H R=>ta σ H λvs H1=>∃j:Int,vs=[.int j]/\-(2^62)<=j/\j<2^62/\R (Itr 0 j.toNat) H1
theorem kZ {a:Expr} {ta:TA} (hg:Gl X "range") (hm:X.mg "range"=none) (ha:PA X [a] ta) (hs:starEach [a] X.env=[(false,eval a X.env)]:=by rfl):PI X tg (.Call (.Name "range" p) [a] [] pos) (xF ta):=by
 intro pins s σ H R I h;refine Call_ (my I hg hm boot_range (PyProof.Rows.callWith_type1 (thn (ha pos pins s σ H _ I h) λus s1 hzz=>?_) hs rfl));obtain⟨vs,H1,I1,r1,q1⟩:=hzz;obtain⟨j,e,q1,q2,q⟩:=q1;subst e;cases r1 with
 |cons r rr=>
  cases rr;obtain⟨t,rfl⟩:=r;exact call_range_1 (rP I1 (by lia) (by lia) q1 q2 (by simpa using q))
def tFor (wi:TI) (g:TG) (tb:TS):TS:=λD σ H=>wi σ H λJ H1=>∃W:Nat->Nat->St->Hp->Prop,(∃m,W 0 m σ H1)/\∀i m σ H,W i m σ H->
 (J.stop i H/\D.nx σ H)\/(J.go i H/\∃N:St->Hp->Prop,(∀σ' H',N σ' H'->∃m',m'<m/\W (i+1) m' σ' H')/\∀x H',J.yld i H x H'->g x σ H' λσ2 H2=>tb {D with nx:=N,ct:=N,bk:=D.nx} σ2 H2)
def jN (fp:List Addr) (h:Heap):List (Addr×Obj):=fp.filterMap λb=>(h.get? b).map λo=>(b,o)
theorem eP {o:Obj} (hb:b∈fp) (e:h.get? b=some o):(b,o)∈jN fp h:=List.mem_filterMap.mpr ⟨b,hb,by rw[e];rfl⟩
theorem qD {p:Addr×Obj} (hp:p∈jN fp h):p.1∈fp/\h.get? p.1=some p.2:=by
 obtain⟨b,hb,e⟩:=List.mem_filterMap.mp hp;cases q:h.get? b with
 |none=>rw[q]at e;cases e
 |some o=>
  rw[q]at e;have e':(b,o)=p:=Option.some.inj e;subst e';exact⟨hb,q⟩
theorem Inv.pinned (I:Inv X pins σ H s) (hf:∀b∈fp,fT X pins H b) (ho:∀b∈fp,∃o,s.heap.get? b=some o/\∀v,o.data≠ .cell v):Inv X (pins++jN fp s.heap) σ H s:=
 I.pins_of λp hp=>(zd.mp hp).elim (λz=>I.pin p (zt _ z)) λz=>by
  obtain⟨hb,e⟩:=qD z;obtain⟨f0,f1,f2,_⟩:=hf p.1 hb;obtain⟨o,e',d⟩:=ho p.1 hb;rw[e]at e';cases e';exact⟨e,f0,f1,f2,d⟩
theorem Inv.unpinned {pl:List (Addr×Obj)} (I:Inv X (pins++pl) σ H s):Inv X pins σ H s:=I.pins_of λp hp=>I.pin p (zt _ (zR _ hp))
theorem jM {iter:Expr} {wi:TI} {g:TG} (hp:PassesOwn (model X.prog X.w) X.A X.env X.xe) (hc:X.calm=true) (hi:PI X tg iter wi) (hg:PG X tg g) (hb:PSs X body tb)
  (hs:∀x,foldedSetIterable iter X.env x=pure x:=by intro _;rfl):PS X (.For tg iter body [] pos) (tFor wi g tb):=by
 intro pins s σ H D I h;refine wpAny_For (thn (hi pins s σ H _ I h) λv s1 h1=>thn h1 λitv s2 h2=>?_) hs;obtain⟨it,fp,tn,J,H2,e,I2,T,st2,f2,W,⟨m0,w0⟩,turn⟩:=h2;subst e;have stat:∀{H':Hp},(∀b∈fp,H' b=none)->∀b∈fp,fT X pins H' b:=λhn b hb=>⟨hn b hb,(f2 b hb).2⟩;refine codeAny_forLoop_any (λn s'=>∃i σ' H',Inv X pins σ' H' s'/\tn i s'.heap/\(∀b∈fp,H' b=none)/\W i n σ' H') ?_ m0 ⟨0,σ,H2,I2,st2,λb hb=>(f2 b hb).1,w0⟩;rintro n s3 ⟨i,σ3,H3,I3,st3,fr3,w3⟩;rcases turn i n σ3 H3 w3 with⟨stop,qn⟩|⟨go,N,hN,step⟩
 .refine wpAny_passesOwn hp (thn (T.done X rfl rfl rfl hc i pins s3 σ3 H3 X.xe I3 (stat fr3) st3 stop) λr s4 ⟨hr,I4⟩=>?_);subst hr;exact wpAny_execs_nil ⟨σ3,H3,I4,qn⟩
 .refine wpAny_passesOwn hp (thn (T.item X rfl rfl rfl hc i pins s3 σ3 H3 X.xe I3 (stat fr3) st3 go) λr s4 ⟨u,hr,h4⟩=>?_);subst hr;refine wpAny_passesOwn hp (thn h4 λ_ s5 hzz=>?_);obtain⟨x,H5,I5,r5,y5,st5,fr5⟩:=hzz;have I5':=I5.pinned (stat fr5) (T.obj _ _ st5);refine wpAny_passesOwn hp (thn (hg _ s5 σ3 H5 x u _ I5' r5 (step x H5 y5)) λ_ s6 hzz=>?_);obtain⟨σ6,H6,I6,q6⟩:=hzz;refine wpAny_passesOwn hp (thn (hb _ s6 σ6 H6 _ I6 q6) λf s7 q7=>?_);have again:∀{σ7:St} {H7:Hp},Inv X (pins++jN fp s5.heap) σ7 H7 s7->N σ7 H7->∃m,m<n/\∃i σ' H',Inv X pins σ' H' s7/\tn i s7.heap/\(∀b∈fp,H' b=none)/\W i m σ' H':=λ{σ7 H7} I7 n7=>by
   obtain⟨m',hm,w7⟩:=hN σ7 H7 n7;refine⟨m',hm,i+1,σ7,H7,I7.unpinned,T.keep _ _ _ st5 λb hb o e=>(I7.pin (b,o) (zt _ (zt _ (eP hb e)))).1,λb hb=>?_,w7⟩;obtain⟨o,e,d⟩:=T.obj _ _ st5 b hb;exact(I7.pin (b,o) (zt _ (zt _ (eP hb e)))).2.1
  cases f with
  |next=>obtain⟨σ7,H7,I7,n7⟩:=q7;exact again I7 n7
  |cont=>obtain⟨σ7,H7,I7,n7⟩:=q7;exact again I7 n7
  |brk=>obtain⟨σ7,H7,I7,q7⟩:=q7;exact⟨σ7,H7,I7.unpinned,q7⟩
  |ret v=>obtain⟨x7,σ7,H7,I7,r7,q7⟩:=q7;exact⟨x7,σ7,H7,I7.unpinned,r7,q7⟩
end
theorem sI {g:TG} (Pv:Nat->St->Hp->Prop) (h0:Pv 0 σ H) (hl:∀i σ H,i<=xs.length->Pv i σ H->SqL K H a xs)
  (hs:∀i x σ H,xs[i]?=some x->Pv i σ H->g x σ H λσ2 H2=>tb {D with nx:=Pv (i+1),ct:=Pv (i+1),bk:=D.nx} σ2 H2) (hd:∀σ H,Pv xs.length σ H->D.nx σ H):
  ∃W:Nat->Nat->St->Hp->Prop,(∃m,W 0 m σ H)/\∀i m σ H,W i m σ H->
   ((Itl K a).stop i H/\D.nx σ H)\/((Itl K a).go i H/\∃N:St->Hp->Prop,(∀σ' H',N σ' H'->∃m',m'<m/\W (i+1) m' σ' H')/\∀x H',(Itl K a).yld i H x H'->g x σ H' λσ2 H2=>tb {D with nx:=N,ct:=N,bk:=D.nx} σ2 H2):=by
 refine⟨λi m σ H=>m=xs.length-i/\i<=xs.length/\Pv i σ H,⟨xs.length,by simp,zF _,h0⟩,?_⟩;rintro i m σ H ⟨rfl,hi,p⟩;have q:=hl i σ H hi p;by_cases hlt:i<xs.length
 .refine .inr ⟨⟨xs,xs[i],q,by simp[hlt]⟩,Pv (i+1),λσ' H' p'=>⟨xs.length-(i+1),by lia,rfl,hlt,p'⟩,λx H' y=>?_⟩;obtain⟨e,y⟩:=y;subst e;exact hs i x σ _ (y xs q) p
 .have e:i=xs.length:=by lia
  subst e;exact .inl ⟨⟨xs,q,zg _⟩,hd σ H p⟩
theorem qT {g:TG} (Pv:Nat->St->Hp->Prop) (h0:Pv 0 σ H)
  (hs:∀i σ H,i<n->Pv i σ H->g (.int (lo+i)) σ H λσ2 H2=>tb {D with nx:=Pv (i+1),ct:=Pv (i+1),bk:=D.nx} σ2 H2) (hd:∀σ H,Pv n σ H->D.nx σ H):
  ∃W:Nat->Nat->St->Hp->Prop,(∃m,W 0 m σ H)/\∀i m σ H,W i m σ H->
   ((Itr lo n).stop i H/\D.nx σ H)\/((Itr lo n).go i H/\∃N:St->Hp->Prop,(∀σ' H',N σ' H'->∃m',m'<m/\W (i+1) m' σ' H')/\∀x H',(Itr lo n).yld i H x H'->g x σ H' λσ2 H2=>tb {D with nx:=N,ct:=N,bk:=D.nx} σ2 H2):=by
 refine⟨λi m σ H=>m=n-i/\i<=n/\Pv i σ H,⟨n,by simp,zF _,h0⟩,?_⟩;rintro i m σ H ⟨rfl,hi,p⟩;by_cases hlt:i<n
 .refine .inr ⟨hlt,Pv (i+1),λσ' H' p'=>⟨n-(i+1),by lia,rfl,hlt,p'⟩,λx H' y=>?_⟩;obtain⟨e,y⟩:=y;subst e y;exact hs i σ _ hlt p
 .have e:i=n:=by lia
  subst e;exact .inl ⟨zg _,hd σ H p⟩
end
section
abbrev R2:=V->V->Hp->VK->Prop
def OpR (X:Cx) (f:Value->Value->Sem Value) (r:R2):Prop:=
 ∀(pins:List (Addr×Obj)) (s:Shared) (σ:St) (H:Hp) (x y:V) (v u:Value) (Q:VK),Inv X pins σ H s->RelV x v->RelV y u->r x y H Q->
  wpAny (model X.prog X.w) X.A (f v u) (EP X pins σ Q) X.xe s
def UnR (X:Cx) (f:Value->Sem Value) (r:V->Hp->VK->Prop):Prop:=
 ∀(pins:List (Addr×Obj)) (s:Shared) (σ:St) (H:Hp) (x:V) (v:Value) (Q:VK),Inv X pins σ H s->RelV x v->r x H Q->
  wpAny (model X.prog X.w) X.A (f v) (EP X pins σ Q) X.xe s
def fW (X:Cx) (f:Value) (r:List V->Hp->VK->Prop):Prop:=
 ∀(pins:List (Addr×Obj)) (s:Shared) (σ:St) (H:Hp) (xs:List V) (us:List Value) (Q:VK),Inv X pins σ H s->Vals xs us->r xs H Q->
  wpAny (model X.prog X.w) X.A (call f us) (EP X pins σ Q) X.xe s
def tOp (r:R2) (ta tb:TE):TE:=λσ H Q=>ta σ H λx H1=>tb σ H1 λy H2=>r x y H2 Q
def tUn (r:V->Hp->VK->Prop) (ta:TE):TE:=λσ H Q=>ta σ H λx H1=>r x H1 Q
def rI (C:Int->Int->Prop) (g:Int->Int->V):R2:=λx y H Q=>∃i j,x= .int i/\y= .int j/\C i j/\Q (g i j) H
def rI0 (g:Int->Int->V):R2:=λx y H Q=>∃i j,x= .int i/\y= .int j/\Q (g i j) H
def rU (g:Int->V):V->Hp->VK->Prop:=λx H Q=>∃i,x= .int i/\Q (g i) H
section
variable {a b:Expr} {tb tc:TE}
theorem wQ (ha:PE X a ta) (hb:PE X b tb) {R:V->V->Hp->Prop} (I:Inv X pins σ H s)
  (h:ta σ H λx H1=>tb σ H1 λy H2=>R x y H2) {f:Value->Value->Sem Value}
  (hf:∀v u s2 x y H2,Inv X pins σ H2 s2->RelV x v->RelV y u->R x y H2->wpAny (model X.prog X.w) X.A (f v u) Q X.xe s2):
  wpAny (model X.prog X.w) X.A (eval a X.env) (λv s₁=>wpAny (model X.prog X.w) X.A (eval b X.env) (λu s₂=>wpAny (model X.prog X.w) X.A (f v u) Q X.xe s₂) X.xe s₁) X.xe s:=by
 refine thn (ha pins s σ H _ I h) λv s1 hzz=>?_;obtain⟨x,H1,I1,r1,q1⟩:=hzz;refine thn (hb pins s1 σ H1 _ I1 q1) λu s2 hzz=>?_;obtain⟨y,H2,I2,r2,q2⟩:=hzz;exact hf v u s2 x y H2 I2 r1 r2 q2
theorem aq {op:Operator} (ho:OpR X (binaryOp op) r) (ha:PE X a ta) (hb:PE X b tb):PE X (.BinOp a op b pos) (tOp r ta tb):=by
 intro pins s σ H Q I h;exact wpAny_BinOp (wQ ha hb I h λv u s2 x y H2 I2 rx ry q=>ho pins s2 σ H2 x y v u Q I2 rx ry q)
theorem nC {op:UnaryOp} {r:V->Hp->VK->Prop} (ho:UnR X (unaryOp op) r) (ha:PE X a ta):PE X (.UnaryOp op a pos) (tUn r ta):=by
 intro pins s σ H Q I h;exact UnaryOp_ (thn (ha pins s σ H _ I h) λv s1 ⟨x,H1,I1,r1,q1⟩=>ho pins s1 σ H1 x v Q I1 r1 q1)
theorem opI {f:Value->Value->Sem Value} {C:Int->Int->Prop} 
  (rule:∀(i j:Int) (t u:Tok) (s:Shared) (Q:Value->Shared->Prop) (E:Value->Shared->Prop),C i j->Q (.int (g i j) s.toks) {s with toks:=s.toks+1}->wpAny (model X.prog X.w) X.A (f (.int i t) (.int j u)) Q E s):
  OpR X f (rI C λi j=> .int (g i j)):=by
 intro pins s σ H x y v u Q I rx ry h;obtain⟨i,j,rfl,rfl,hc,q⟩:=h;obtain⟨t,rfl⟩:=rx;obtain⟨t',rfl⟩:=ry;exact rule i j t t' s _ _ hc ⟨.int (g i j),H,I.tok _,⟨_,rfl⟩,q⟩
theorem opI0 {f:Value->Value->Sem Value} 
  (rule:∀(i j:Int) (t u:Tok) (s:Shared) (Q:Value->Shared->Prop) (E:Value->Shared->Prop),Q (.int (g i j) s.toks) {s with toks:=s.toks+1}->wpAny (model X.prog X.w) X.A (f (.int i t) (.int j u)) Q E s):
  OpR X f (rI0 λi j=> .int (g i j)):=by
 intro pins s σ H x y v u Q I rx ry h;obtain⟨i,j,rfl,rfl,q⟩:=h;obtain⟨t,rfl⟩:=rx;obtain⟨t',rfl⟩:=ry;exact rule i j t t' s _ _ ⟨.int (g i j),H,I.tok _,⟨_,rfl⟩,q⟩
theorem uB {f:Value->Value->Sem Value} {g:Int->Int->Bool}
  (rule:∀(i j:Int) (t u:Tok) (s:Shared) (Q:Value->Shared->Prop) (E:Value->Shared->Prop),Q (.bool (g i j)) s->wpAny (model X.prog X.w) X.A (f (.int i t) (.int j u)) Q E s):
  OpR X f (rI0 λi j=> .bl (g i j)):=by
 intro pins s σ H x y v u Q I rx ry h;obtain⟨i,j,rfl,rfl,q⟩:=h;obtain⟨t,rfl⟩:=rx;obtain⟨t',rfl⟩:=ry;exact rule i j t t' s _ _ ⟨.bl (g i j),H,I,rfl,q⟩
def CDiv (i j:Int):Prop:=0<j/\j<1073741824
def CPow (i j:Int):Prop:=0<=j/\j<=1000000/\i.natAbs<2^64
def CMul (i j:Int):Prop:=(-(2^64)<i/\i<2^64)\/(-(2^64)<j/\j<2^64)
theorem CMul.ok {i j:Int} (h:CMul i j):IntMulOk i j:=by
 rcases h with⟨h1,h2⟩|⟨h1,h2⟩
 .exact .of_left (intBits_le_64 h1 h2)
 .exact .of_right (intBits_le_64 h1 h2)
theorem cm:OpR X (binaryOp .Add) (rI0 λi j=> .int (i+j)):=opI0 λ_ _ _ _ _ _ _ q=>add_int q
theorem jP:OpR X (binaryOp .Sub) (rI0 λi j=> .int (i-j)):=opI0 λ_ _ _ _ _ _ _ q=>sub_int q
theorem iA:OpR X (binaryOp .Mult) (rI CMul λi j=> .int (i*j)):=opI λ_ _ _ _ _ _ _ hc q=>mul_int q hc.ok
theorem bI:OpR X (binaryOp .FloorDiv) (rI CDiv λi j=> .int (i/j)):=opI λi j _ _ _ _ _ hc q=>by
 have h1:(0:Int)<j:=hc.1;have h2:j<1073741824:=hc.2;exact floordiv_int (by lia) (by rw[Int.fdiv_eq_ediv_of_nonneg i (by lia)];exact q) (.inl (PyProof.noPylong_small (by lia)))
theorem bg:OpR X (binaryOp .Mod) (rI (λ_ j=>0<j) λi j=> .int (i%j)):=opI λi j _ _ _ _ _ hc q=>by
 have h1:(0:Int)<j:=hc;exact mod_int' (by lia) (by rw[Int.fmod_eq_emod_of_nonneg i (by lia)];exact q)
theorem mh:OpR X (binaryOp .Pow) (rI CPow λi j=> .int (i^j.toNat)):=opI λ_ _ _ _ _ _ _ hc q=>pow_int_small hc.1 hc.2.1 hc.2.2 q
theorem unI {f:Value->Sem Value} {g:Int->Int}
  (rule:∀(i:Int) (t:Tok) (s:Shared) (Q:Value->Shared->Prop) (E:Value->Shared->Prop),Q (.int (g i) s.toks) {s with toks:=s.toks+1}->wpAny (model X.prog X.w) X.A (f (.int i t)) Q E s):
  UnR X f (rU λi=> .int (g i)):=by
 intro pins s σ H x v Q I rx h;obtain⟨i,rfl,q⟩:=h;obtain⟨t,rfl⟩:=rx;exact rule i t s _ _ ⟨.int (g i),H,I.tok _,⟨_,rfl⟩,q⟩
theorem jk:UnR X (unaryOp .USub) (rU λi=> .int (-i)):=unI λ_ _ _ _ _ q=>neg_int q
end
def scal:V->V->Bool
 | .non,.non=>true| .non,.int _=>true| .int _,.non=>true| .non,.bl _=>true| .bl _,.non=>true| .non,.str _=>true| .str _,.non=>true
 | .int _,.int _=>true| .bl _,.bl _=>true| .str _,.str _=>true| .byt _,.byt _=>true
 | .int _,.str _=>true| .str _,.int _=>true| .bl _,.str _=>true| .str _,.bl _=>true
 |_,_=>false
def rEq:R2:=λx y H Q=>scal x y=true/\Q (.bl (decide (x=y))) H
def rNe:R2:=λx y H Q=>scal x y=true/\Q (.bl (!decide (x=y))) H
theorem qb {i j:Int}:decide (V.int i=V.int j)=(i==j):=by
 rw[yQ];simp
theorem sP {i j:Bool}:decide (V.bl i=V.bl j)=(i==j):=by
 rw[yQ];simp
theorem qa {i j:Str}:decide (V.str i=V.str j)=(i==j):=by
 rw[yQ];simp
theorem qc {i j:Array UInt8}:decide (V.byt i=V.byt j)=(i.toList==j.toList):=by
 rw[yQ];cases i;cases j;simp
section
variable {a b:Expr} {tb tc:TE}
theorem aS {Q:VK} {k k':Bool} (I:Inv X pins σ H s) (q:Q (.bl k) H) (e:k=k'):EP X pins σ Q (.bool k') s:=by
 subst e;exact⟨.bl k,H,I,rfl,q⟩
theorem cw:OpR X (compareOp .Eq) rEq:=by
 intro pins s σ H x y v u Q I rx ry h;obtain⟨hs,q⟩:=h;cases x with
 |non=>
  cases rx;cases y with
  |non=>cases ry;exact PySem.EqNone.eq_none_none (aS I q (by simp))
  |bl j=>cases ry;exact PySem.EqNone.eq_none_bool (aS I q (by simp))
  |int j=>obtain⟨t',rfl⟩:=ry;exact PySem.EqNone.eq_none_int (aS I q (by simp))
  |str j=>obtain⟨t',rfl⟩:=ry;exact PySem.EqNone.eq_none_str (aS I q (by simp))
  |_=>exact absurd (show false=true from hs) zb
 |bl i=>
  cases rx;cases y with
  |non=>cases ry;exact PySem.EqNone.eq_bool_none (aS I q (by simp))
  |bl j=>cases ry;exact eq_bool (aS I q sP)
  |str j=>obtain⟨t',rfl⟩:=ry;exact PySem.EqMixed.eq_bool_str (aS I q (by simp))
  |_=>exact absurd (show false=true from hs) zb
 |int i=>
  obtain⟨t,rfl⟩:=rx;cases y with
  |non=>cases ry;exact PySem.EqNone.eq_int_none (aS I q (by simp))
  |int j=>obtain⟨t',rfl⟩:=ry;exact eq_int (aS I q qb)
  |str j=>obtain⟨t',rfl⟩:=ry;exact PySem.EqMixed.eq_int_str (aS I q (by simp))
  |_=>exact absurd (show false=true from hs) zb
 |str i=>
  obtain⟨t,rfl⟩:=rx;cases y with
  |non=>cases ry;exact PySem.EqNone.eq_str_none (aS I q (by simp))
  |bl j=>cases ry;exact PySem.EqMixed.eq_str_bool (aS I q (by simp))
  |int j=>obtain⟨t',rfl⟩:=ry;exact PySem.EqMixed.eq_str_int (aS I q (by simp))
  |str j=>obtain⟨t',rfl⟩:=ry;exact eq_str (aS I q qa)
  |_=>exact absurd (show false=true from hs) zb
 |byt i=>
  obtain⟨t,rfl⟩:=rx;cases y with
  |byt j=>obtain⟨t',rfl⟩:=ry;exact PySem.W.eq_bytes (aS I q qc)
  |_=>exact absurd (show false=true from hs) zb
 |_=>cases y<;>exact absurd (show false=true from hs) zb
theorem pP:OpR X (compareOp .NotEq) rNe:=by
 intro pins s σ H x y v u Q I rx ry h;obtain⟨hs,q⟩:=h;cases x with
 |non=>
  cases rx;cases y with
  |non=>cases ry;exact PySem.EqNone.ne_none_none (aS I q (by simp))
  |bl j=>cases ry;exact PySem.EqNone.ne_none_bool (aS I q (by simp))
  |int j=>obtain⟨t',rfl⟩:=ry;exact PySem.EqNone.ne_none_int (aS I q (by simp))
  |str j=>obtain⟨t',rfl⟩:=ry;exact PySem.EqNone.ne_none_str (aS I q (by simp))
  |_=>exact absurd (show false=true from hs) zb
 |bl i=>
  cases rx;cases y with
  |non=>cases ry;exact PySem.EqNone.ne_bool_none (aS I q (by simp))
  |bl j=>cases ry;exact ne_bool (aS I q (congrArg not sP))
  |str j=>obtain⟨t',rfl⟩:=ry;exact PySem.EqMixed.ne_bool_str (aS I q (by simp))
  |_=>exact absurd (show false=true from hs) zb
 |int i=>
  obtain⟨t,rfl⟩:=rx;cases y with
  |non=>cases ry;exact PySem.EqNone.ne_int_none (aS I q (by simp))
  |int j=>obtain⟨t',rfl⟩:=ry;exact ne_int (aS I q (congrArg not qb))
  |str j=>obtain⟨t',rfl⟩:=ry;exact PySem.EqMixed.ne_int_str (aS I q (by simp))
  |_=>exact absurd (show false=true from hs) zb
 |str i=>
  obtain⟨t,rfl⟩:=rx;cases y with
  |non=>cases ry;exact PySem.EqNone.ne_str_none (aS I q (by simp))
  |bl j=>cases ry;exact PySem.EqMixed.ne_str_bool (aS I q (by simp))
  |int j=>obtain⟨t',rfl⟩:=ry;exact PySem.EqMixed.ne_str_int (aS I q (by simp))
  |str j=>obtain⟨t',rfl⟩:=ry;exact ne_str (aS I q (congrArg not qa))
  |_=>exact absurd (show false=true from hs) zb
 |byt i=>
  obtain⟨t,rfl⟩:=rx;cases y with
  |byt j=>obtain⟨t',rfl⟩:=ry;exact PySem.W.ne_bytes (aS I q (congrArg not qc))
  |_=>exact absurd (show false=true from hs) zb
 |_=>cases y<;>exact absurd (show false=true from hs) zb
theorem hI:OpR X (compareOp .Lt) (rI0 λi j=> .bl (decide (i<j))):=uB λ_ _ _ _ _ _ _ q=>lt_int q
theorem lg:OpR X (compareOp .LtE) (rI0 λi j=> .bl (decide (i<=j))):=uB λ_ _ _ _ _ _ _ q=>le_int q
theorem nI:OpR X (compareOp .Gt) (rI0 λi j=> .bl (decide (j<i))):=uB λ_ _ _ _ _ _ _ q=>gt_int q
theorem vF:OpR X (compareOp .GtE) (rI0 λi j=> .bl (decide (j<=i))):=uB λ_ _ _ _ _ _ _ q=>ge_int q
theorem qA:OpR X (compareOp .In) (λx y H Q=>∃i j,x= .str i/\y= .str j/\Q (.bl (!(Builtin.Str.occurrences j i 0 j.length 1).isEmpty)) H):=by
 intro pins s σ H x y v u Q I rx ry h;obtain⟨i,j,rfl,rfl,q⟩:=h;obtain⟨t,rfl⟩:=rx;obtain⟨t',rfl⟩:=ry;exact in_str (aS I q rfl)
theorem r9:OpR X (compareOp .Is) (λx y H Q=>y= .non/\Q (.bl (decide (x= .non))) H):=by
 intro pins s σ H x y v u Q I rx ry h;obtain⟨rfl,q⟩:=h;cases ry;refine is_none_gen (aS I q ?_);cases x<;>first
  |(cases rx;rfl)
  |(obtain⟨t,rfl⟩:=rx;rfl)
theorem mi:OpR X (compareOp .NotIn) (λx y H Q=>∃i j,x= .str i/\y= .str j/\Q (.bl (!(!(Builtin.Str.occurrences j i 0 j.length 1).isEmpty))) H):=by
 intro pins s σ H x y v u Q I rx ry h;obtain⟨i,j,rfl,rfl,q⟩:=h;obtain⟨t,rfl⟩:=rx;obtain⟨t',rfl⟩:=ry;exact notIn_str (aS I q rfl)
theorem aD (b:Expr) (h:op≠ .In:=by decide) (h2:op≠ .NotIn:=by decide):behindInMarks op b=false:=by
 have e1:(op==CmpOp.In)=false:=by cases op<;>first|rfl|exact absurd rfl h
 have e2:(op==CmpOp.NotIn)=false:=by cases op<;>first|rfl|exact absurd rfl h2
 cases b<;>simp[behindInMarks,e1,e2]
theorem jf (ho:OpR X (compareOp op) r) (ha:PE X a ta) (hb:PE X b tb) (hm:behindInMarks op b=false):PE X (.Compare a [op] [b] pos) (tOp r ta tb):=by
 intro pins s σ H Q I h;exact wpAny_Compare1 (wQ ha hb I h λv u s2 x y H2 I2 rx ry q=>ho pins s2 σ H2 x y v u Q I2 rx ry q) hm
def vo (t:TE):TT:=λσ H Q=>t σ H λx H'=>∃k,x= .bl k/\Q k H'
theorem az (ho:OpR X (compareOp op) r) (ha:PE X a ta) (hb:PE X b tb) (hm:behindInMarks op b=false):PT X (.Compare a [op] [b] pos) (vo (tOp r ta tb)):=by
 intro pins s σ H Q I h;refine wpAny_isTrue_Compare1 (thn (ha pins s σ H _ I h) λv s1 ⟨x,H1,I1,r1,q1⟩=>thn (hb pins s1 σ H1 _ I1 q1) λu s2 ⟨y,H2,I2,r2,q2⟩=>
  thn (ho pins s2 σ H2 x y v u _ I2 r1 r2 q2) λc s3 ⟨z,H3,I3,r3,k,e,q3⟩=>?_) hm
 subst e;cases r3;exact wpAny_truthy_bool ⟨H3,I3,q3⟩
def vY (r r':R2) (ta tb tc:TE):TE:=λσ H Q=>ta σ H λx H1=>tb σ H1 λy H2=>r x y H2 λz H3=>∃k,z= .bl k/\
 (if k=true then tc σ H3 λw' H4=>r' y w' H4 Q else Q (.bl false) H3)
theorem nq {op':CmpOp} {r':R2} (ho:OpR X (compareOp op) r) (ho':OpR X (compareOp op') r') (ha:PE X a ta) (hb:PE X b tb) (hc:PE X c tc)
  (hm:lastMarks [op,op'] [b,c]=false:=by with_unfolding_all rfl):PT X (.Compare a [op,op'] [b,c] pos) (vo (vY r r' ta tb tc)):=by
 intro pins s σ H Q I h;refine isTrue_chain (thn (ha pins s σ H _ I h) λv s1 ⟨x,H1,I1,r1,q1⟩=>test_link (thn (hb pins s1 σ H1 _ I1 q1) λu s2 ⟨y,H2,I2,r2,q2⟩=>
  thn (ho pins s2 σ H2 x y v u _ I2 r1 r2 q2) λd s3 ⟨z,H3,I3,r3,k,e,q3⟩=>?_)) hm
 subst e;cases r3;refine wpAny_truthy_bool ?_;cases k with
 |false=>
  obtain⟨k',e',q'⟩:=q3;cases e';exact ite_ff ⟨H3,I3,q'⟩
 |true=>
  refine ite_tt (test_last (thn (hc pins s3 σ H3 _ I3 q3) λw' s4 ⟨z',H4,I4,r4,q4⟩=>thn (ho' pins s4 σ H4 y z' u w' _ I4 r2 r4 q4) λd' s5 hzz=>?_));obtain⟨z2,H5,I5,r5,k2,e2,q5⟩:=hzz;subst e2;cases r5;exact wpAny_truthy_bool ⟨H5,I5,q5⟩
theorem gN:(sizeLine:Nat)<2^63:=by rw[sizeLine_eq];decide
theorem jQ:OpR X (binaryOp .Add) (λx y H Q=>∃i j,x= .str i/\y= .str j/\i.length+j.length<=sizeLine/\Q (.str (i++j)) H):=by
 intro pins s σ H x y v u Q I rx ry h;obtain⟨i,j,rfl,rfl,hz,q⟩:=h;obtain⟨t,rfl⟩:=rx;obtain⟨t',rfl⟩:=ry;exact add_str (λt' tk=>⟨.str (i++j),H,I.tok _,⟨_,rfl⟩,q⟩) hz
theorem mV {x:V} (r:Vals [x] us):∃u,us=[u]/\RelV x u:=by
 cases r with
 |cons r1 r2=>cases r2;exact⟨_,rfl,r1⟩
theorem mU {x:V} (r:Vals [x,y] us):∃u w',us=[u,w']/\RelV x u/\RelV y w':=by
 cases r with
 |cons r1 r2=>
  cases r2 with
  |cons r3 r4=>cases r4;exact⟨_,_,rfl,r1,r3⟩
theorem rc (hc:X.calm=true):fW X (.builtin "min") (λxs H Q=>∃i j,xs=[.int i,.int j]/\Q (.int (if j<i then j else i)) H):=by
 intro pins s σ H xs us Q I r h;obtain⟨i,j,rfl,q⟩:=h;obtain⟨u,w',rfl,⟨t,rfl⟩,⟨t',rfl⟩⟩:=mU r;refine min_two_ints (I.ok.hd hc) λh' tk k=>⟨_,H,I.kept k,?_,q⟩;by_cases hj:j<i
 .rw[if_pos hj,if_pos hj];exact⟨_,rfl⟩
 .rw[if_neg hj,if_neg hj];exact⟨_,rfl⟩
theorem hX:fW X (.type "str") (λxs H Q=>∃i,xs=[.int i]/\i.natAbs.log2<1920/\Q (.str (toString i)) H):=by
 intro pins s σ H xs us Q I r h;obtain⟨i,rfl,hz,q⟩:=h;obtain⟨u,rfl,t,rfl⟩:=mV r;exact PySem.P.str_of_int hz ⟨.str _,H,I.tok _,⟨_,rfl⟩,q⟩
end
end
section
structure ObjM (h:Heap) (x dx C:Addr) (mA:Str->Option Value):Prop where
 obj:h.get? x=some (PySem.W.instObj C dx)
 ns:h.Ns1 dx mA
 ne:dx≠x
theorem qI {mA:Str->Option Value} (n:h.Ns1 dx mA):∃od,h.get? dx=some od/\∀name,PySem.W.lookIn name od=some (mA name):=by
 obtain⟨o,es,ep,ho,hd,hk,_,hm⟩:=n;refine⟨o,ho,λname=>?_⟩;have e:=hm name;unfold nsFind findBy at e;rw[<-Array.find?_toList]at e;unfold PySem.W.lookIn;rw[hd];dsimp only;split
 .rename_i y q
  rw[q]at e;exact congrArg some e
 .rename_i q
  rw[q]at e;have a:es.toList.any (·.refKey)=false:=by
   rw[List.any_eq_false];intro y hy;obtain⟨z,t,hkey⟩:=hk y (Array.mem_toList_iff.mp hy);simp[DictEntry.refKey,hkey]
  have a':¬es.toList.any (·.refKey)=true:=by rw[a];exact zb
  rw[if_neg a'];exact congrArg some e
theorem ObjM.look {x:Addr} {mA:Str->Option Value} (I:ObjM h x dx C mA):∃od,PySem.W.InstAt h x (PySem.W.instObj C dx) C (some od)/\∀name,PySem.W.lookIn name od=some (mA name):=
 let⟨od,ho,hl⟩:=qI I.ns
 ⟨od,⟨I.obj,rfl,rfl,ho⟩,hl⟩
section
variable {x f:Addr} {mA:Str->Option Value} {v:Value}
theorem uQ {expr:Bool} (X:K.In s.heap) (I:ObjM s.heap x dx C mA) (hg:PySem.W.plainGet K C name=true) (hh:PySem.W.hasDictIn K C=true)
  (ha:PySem.W.findIn K (.ref C) name=some none) (hv:mA name=some v) (hv':PySem.W.handedIn v=true) (h:Q v {s with toks:=s.toks+1}):
  wpAny (model prog w) A (getAttr (.ref x) name expr) Q E s:=by
 obtain⟨od,J,hl⟩:=I.look;exact PySem.W.get_value X J (Qf hg).1 (PySem.W.findObj_own hh ha rfl (by rw[hl,hv])) hv' h
theorem sG {pl:Sem Bool} {Q:Value×List Value->Shared->Prop} (X:K.In s.heap) (I:ObjM s.heap x dx C mA) (hg:PySem.W.plainGet K C name=true)
  (hf:PySem.W.findIn K (.ref C) name=some (some (.ref f))) (ht:PySem.W.isFn K (.ref f)=true) (hv:mA name=none) (h:Q (.ref f,[.ref x]) s):
  wpAny (model prog w) A (getMethod (.ref x) name pl) Q E s:=by
 obtain⟨od,J,hl⟩:=I.look;exact PySem.W.method_fn X J (Qf hg).1 (Qf hg).2 hf (beq_iff_eq.mp ht) (by show(PySem.W.lookIn name od).map (·.isSome)=some false;rw[hl,hv];rfl) h
theorem uf {ns:List Str} {Q:Unit->Shared->Prop} (X:K.In s.heap) (I:ObjM s.heap x dx C mA)
  (hs:PySem.W.findIn K (.ref C) "__setattr__"=some (some (.builtin "object.__setattr__"))) (hp:PySem.W.plainOver K C=true) (ht:PySem.W.takerIn K C name=some none) (hh:PySem.W.hasDictIn K C=true)
  (hw:PySem.Within mA ns) (hsz:ns.length<=sizeLine)
  (h:∀h',ObjM h' x dx C (λy=>if y=name then some v else mA y)->Heap.SameBut dx s.heap h'->Q () {s with heap:=h',toks:=s.toks+2}):
  wpAny (model prog w) A (setAttr (.ref x) name v) Q E s:=by
 obtain⟨od,J,hl⟩:=I.look;refine PySem.W.set_plain X J hs (PySem.W.osa_open (s:={s with toks:=s.toks+1}) (r:=none) X J hp ht λb=>?_);obtain⟨cd,hc,hd'⟩:=PySem.W.any_some hh;have hx:s.heap.get? x=some ⟨.ref C,some dx,.plain, #[]⟩:=I.obj;refine wpAny_bind (wpAny_pure (wpAny_bind (wpAny_bind (wpAny_loadPart hx (wpAny_bind (PySem.W.Looks.here (s:={s with toks:=s.toks+1}) (PySem.W.looks_clsIn X hc) ?_))))));rw[hd'];refine wpAny_pure (a:=some dx) (wpAny_bind (wpAny_pure (wpAny_bind ?_)));refine wpAny_nsSet1 (s:={s with toks:=s.toks+1}) I.ns λh' hn2 hs2=>?_;obtain⟨oD,esD,epD,hoD,hdD,hcD⟩:=hn2.count (PySem.Within.cons name v hw);refine wpAny_bind (wpAny_lookBehind hoD (by rw[hdD];exact pastItsLine_dict (zC hcD (by rw[zp];lia))) ?_);exact wpAny_pure (h _ ⟨(hs2.2 _ (Ne.symm I.ne)).trans I.obj,hn2,I.ne⟩ hs2)
theorem sv {vs:List Value} (X:K.In s.heap) (hm:PySem.W.makesIn K C=true)
  (hi:PySem.W.findIn K (.ref C) "__init__"=some (some (.ref f))) (hf:PySem.W.typeIn K (.ref f)=some (.type "function"))
  (h:codeAny (model prog w) (A.under (.builtin "type.__call__" ⟨.ref C::vs,kw⟩)) (.call (.ref f) ⟨.ref (s.heap.objs.size+1)::vs,kw⟩) (PySem.W.InitBack (s.heap.objs.size+1) R)
   {s with heap:=(s.heap.push PySem.W.emptyDict).push (PySem.W.instObj C s.heap.objs.size)}):
  codeAny (model prog w) A (.call (.ref C) ⟨vs,kw⟩) R s:=by
 obtain⟨hh,g,d,t,os⟩:=s;exact PySem.W.make_core (PySem.W.makes_of X hm) (PySem.W.looks_findIn X hi) (λself=>PySem.W.bind_fn X self hf) (.inl rfl) h
end
def aV (f:Str) (v:V):List (Str×V)->List (Str×V)
 | []=> [(f,v)]
 |(g,x)::r=>if g=f then(g,v)::r else(g,x)::aV f v r
theorem iO (f g:Str) (v:V):∀fs:List (Str×V),(aV f v fs).lookup g=if g=f then some v else fs.lookup g
 | []=>by
  show List.lookup g [(f,v)]=_;by_cases h:g=f
  .have hb:(g==f)=true:=beq_iff_eq.mpr h;simp only[List.lookup,hb,if_pos h]
  .have hb:(g==f)=false:=beq_eq_false_iff_ne.mpr h;simp only[List.lookup,hb,if_neg h]
 |(k,x)::r=>by
  have ih:=iO f g v r;rw[show aV f v ((k,x)::r)=(if k=f then(k,v)::r else(k,x)::aV f v r) from rfl];by_cases hk:k=f
  .rw[if_pos hk];by_cases h:g=k
   .have hb:(g==k)=true:=beq_iff_eq.mpr h;simp only[List.lookup,hb,if_pos (h.trans hk)]
   .have hb:(g==k)=false:=beq_eq_false_iff_ne.mpr h;simp only[List.lookup,hb,if_neg (λe:g=f=>h (e.trans hk.symm))]
  .rw[if_neg hk];by_cases h:g=k
   .have hb:(g==k)=true:=beq_iff_eq.mpr h;simp only[List.lookup,hb,if_neg (λe:g=f=>hk (h.symm.trans e))]
   .have hb:(g==k)=false:=beq_eq_false_iff_ne.mpr h;simp only[List.lookup,hb];exact ih
theorem iE (f:Str) (v:V):∀fs:List (Str×V),f∈(aV f v fs).map (·.1)/\∀g,g∈fs.map (·.1)->g∈(aV f v fs).map (·.1)
 | []=>⟨by simp[aV],λg h=>by simp at h⟩
 |(k,x)::r=>by
  obtain⟨i1,i2⟩:=iE f v r;rw[show aV f v ((k,x)::r)=(if k=f then(k,v)::r else(k,x)::aV f v r) from rfl];by_cases hk:k=f
  .rw[if_pos hk];subst hk;exact⟨by simp,λg h=>by simpa using h⟩
  .rw[if_neg hk];refine⟨?_,λg h=>?_⟩
   .rw[zr];exact zj _ i1
   .rw[zr]at h⊢;rcases zh.mp h with e|e
    .exact zh.mpr (.inl e)
    .exact zj _ (i2 g e)
theorem iP (f:Str) (v:V):∀fs:List (Str×V),(aV f v fs).length<=fs.length+1
 | []=>by simp[aV]
 |(k,x)::r=>by
  have ih:=iP f v r;rw[show aV f v ((k,x)::r)=(if k=f then(k,v)::r else(k,x)::aV f v r) from rfl];by_cases hk:k=f
  .rw[if_pos hk,zp,zp];lia
  .rw[if_neg hk,zp,zp];lia
theorem RelO.some_of (r:RelO (some v) o):∃u,o=some u/\RelV v u:=by
 cases o with
 |none=>exact(show False from r).elim
 |some u=>exact⟨u,rfl,r⟩
theorem RelO.none_of (r:RelO none o):o=none:=by
 cases o with
 |none=>rfl
 |some u=>exact(show False from r).elim
theorem qR (r:RelV v u):PySem.W.handedIn u=true:=by
 cases v with
 |non=>cases (show u=Value.none from r);rfl
 |bl b=>cases (show u=Value.bool b from r);rfl
 |int i=>obtain⟨t,e⟩:=(show ∃t,u=Value.int i t from r);cases e;rfl
 |str x=>obtain⟨t,e⟩:=(show ∃t,u=Value.str x t from r);cases e;rfl
 |byt b=>obtain⟨t,e⟩:=(show ∃t,u=Value.bytes b t from r);cases e;rfl
 |flt b=>obtain⟨t,e⟩:=(show ∃t,u=Value.float b t from r);cases e;rfl
 |ref a=>cases (show u=Value.ref a from r);rfl
 |ty n=>cases (show u=Value.type n from r);rfl
section
variable {fs fs':List (Str×V)}
theorem ins_get (hok:HOk P w H h) (e:H a=some (.ins C dx fs)):∃mA,ObjM h a dx C mA/\(∀f,RelO (fs.lookup f) (mA f))/\PySem.Within mA (fs.map (·.1))/\fs.length<=1000/\H dx=some (.own a):=by
 obtain⟨d,z,ne,ob,mA,n,r,q⟩:=(show ObjOk P w H h a (.ins C dx fs) from hok a _ e);exact⟨mA,⟨ob,n,ne⟩,r,q,z,d⟩
end
structure Cls (K:PySem.W.Frag) (C:Addr):Prop where
 pg:PySem.W.plainGet K C Str.empty=true
 hd:PySem.W.hasDictIn K C=true
 po:PySem.W.plainOver K C=true
 sa:PySem.W.findIn K (.ref C) "__setattr__"=some (some (.builtin "object.__setattr__"))
theorem Cls.get (c:Cls K C) (f:Str):PySem.W.plainGet K C f=true:=c.pg
def NoAttr (K:PySem.W.Frag) (C:Addr) (f:Str):Prop:=PySem.W.findIn K (.ref C) f=some none
theorem NoAttr.taker (n:NoAttr K C f):PySem.W.takerIn K C f=some none:=by
 unfold PySem.W.takerIn;rw[show PySem.W.findIn K (.ref C) f=some none from n];rfl
structure dU (K:PySem.W.Frag) (C:Addr) (m:Str) (f:Addr):Prop where
 at_:PySem.W.findIn K (.ref C) m=some (some (.ref f))
 fn:PySem.W.isFn K (.ref f)=true
 kp:PySem.W.keepIn K (.ref f)=true
section
variable {fs:List (Str×V)}
theorem kg {b:Bool} (I:Inv X pins σ H s) (e:H a=some (.ins C dx fs)) (c:Cls X.K C) (n:NoAttr X.K C f) (l:fs.lookup f=some v)
  (h:∀u s',Inv X pins σ H s'->RelV v u->Q u s'):wpAny (model X.prog X.w) A (getAttr (.ref a) f b) Q E s:=by
 obtain⟨mA,O,r,_,_,_⟩:=ins_get I.hok e;obtain⟨u,hu,ru⟩:=RelO.some_of (v:=v) (o:=mA f) (by rw[<-l];exact r f);exact uQ I.kIn O (c.get f) c.hd n hu (qR ru) (h u _ (I.tok _) ru)
theorem kf {g:Addr} {pl:Sem Bool} {Q:Value×List Value->Shared->Prop} (I:Inv X pins σ H s) (e:H a=some (.ins C dx fs)) (c:Cls X.K C) (k:dU X.K C m g) (l:fs.lookup m=none)
  (h:Q (.ref g,[.ref a]) s):wpAny (model X.prog X.w) A (getMethod (.ref a) m pl) Q E s:=by
 obtain⟨mA,O,r,_,_,_⟩:=ins_get I.hok e;have hn:mA m=none:=RelO.none_of (by rw[<-l];exact r m);exact sG I.kIn O (c.get m) k.at_ k.fn hn h
theorem jA {Q:Unit->Shared->Prop} (I:Inv X pins σ H s) (e:H a=some (.ins C dx fs)) (c:Cls X.K C) (n:NoAttr X.K C f) (hl:fs.length<1000) (ry:RelV y u)
  (h:∀s',Inv X pins σ (upd H a (.ins C dx (aV f y fs))) s'->Q () s'):wpAny (model X.prog X.w) A (setAttr (.ref a) f u) Q E s:=by
 obtain⟨mA,O,r,wi,_,ho⟩:=ins_get I.hok e;have hz:(fs.map (·.1)).length<=sizeLine:=by rw[z8,sizeLine_eq];lia
 refine uf I.kIn O c.sa c.po n.taker c.hd wi hz λh' O' sb=>h _ ?_;have hd:∃o,h'.get? dx=some o:=let⟨o,_,_,e',_⟩:=O'.ns;⟨o,e'⟩
 refine I.write (x:=a) (e:=dx) (by rw[e];exact True.intro) (.inr ho) (λb q hb z=>(sb.2 b hb).trans z) hd ?_;refine⟨by rw[ae O.ne];exact ho,?_,O.ne,O'.obj,_,O'.ns,λg=>?_,λg hg=>?_⟩
 .have:=iP f y fs;lia
 .show RelO ((aV f y fs).lookup g) (if g=f then some u else mA g);rw[iO];by_cases q:g=f
  .rw[if_pos q,if_pos q];exact ry
  .rw[if_neg q,if_neg q];exact r g
 .by_cases q:g=f
  .rw[q];exact(iE f y fs).1
  .refine(iE f y fs).2 g (wi g λz=>hg ?_);show(if g=f then some u else mA g)=none;rw[if_neg q];exact z
theorem Inv.made (I:Inv X pins σ H s):Inv X pins σ (upd (upd H s.heap.objs.size (.own (s.heap.objs.size+1))) (s.heap.objs.size+1) (.ins C s.heap.objs.size []))
  {s with heap:=(s.heap.push PySem.W.emptyDict).push (PySem.W.instObj C s.heap.objs.size)}:=by
 have e1:(s.heap.push PySem.W.emptyDict).get? s.heap.objs.size=some PySem.W.emptyDict:=Heap.get?_push_size s.heap rfl;have e2:((s.heap.push PySem.W.emptyDict).push (PySem.W.instObj C s.heap.objs.size)).get? (s.heap.objs.size+1)=some (PySem.W.instObj C s.heap.objs.size):=by
  have:=Heap.get?_push_size (s.heap.push PySem.W.emptyDict) (o:=PySem.W.instObj C s.heap.objs.size) rfl;rwa [Heap.size_push]at this
 have e3:(s.heap.push PySem.W.emptyDict).Ns s.heap.objs.size (λ_=>none):=⟨PySem.W.emptyDict, #[],_,e1,rfl,(λe he=>absurd he (by simp)),λ_=>rfl⟩;have I1:=I.laid (a:=s.heap.objs.size) (o:= .own (s.heap.objs.size+1)) (h':=s.heap.push PySem.W.emptyDict) (t':=s.toks) (λb u q=>Heap.get?_push_of_some _ q) (zg _) ⟨_,e1⟩;refine I1.laid (a:=s.heap.objs.size+1) (o:= .ins C s.heap.objs.size []) (t':=s.toks) (λb u q=>Heap.get?_push_of_some _ q) (yA (Heap.size_push _ _)) ?_;have ne:s.heap.objs.size≠s.heap.objs.size+1:=zI (Qm _);refine⟨by rw[ae ne,ag],zF _,ne,e2,λ_=>none,(Heap.Ns1.of_empty e3).at λo q=>Heap.get?_push_of_some _ q,λ_=>True.intro,λy hy=>absurd rfl hy⟩
theorem u8 {env:Env} (hb:attributeBase e f env (eval e env)=eval e env)
  (h:wpAny (model prog w) A (eval e env) (λo s₁=>wpAny (model prog w) A (getAttr o f true) Q E s₁) E s):wpAny (model prog w) A (eval (.Attribute e f pos) env) Q E s:=
 Attribute_any_ h (by rw[arm_eval_Attribute,hb])
end
def tFld (K:PySem.W.Frag) (ta:TE) (f:Str):TE:=λσ H Q=>ta σ H λx H1=>∃a C dx fs v,x= .ref a/\H1 a=some (.ins C dx fs)/\Cls K C/\NoAttr K C f/\fs.lookup f=some v/\Q v H1
def sFld (K:PySem.W.Frag) (ta tv:TE) (f:Str):TS:=λD σ H=>tv σ H λy H1=>ta σ H1 λx H2=>∃a C dx fs,x= .ref a/\H2 a=some (.ins C dx fs)/\Cls K C/\NoAttr K C f/\fs.length<1000/\
 D.nx σ (upd H2 a (.ins C dx (aV f y fs)))
def InOp (X:Cx) (op:Operator) (rd:V->V->Hp->VK->Prop):Prop:=
 ∀(pins:List (Addr×Obj)) (s:Shared) (σ:St) (H:Hp) (x y:V) (u v:Value) (Q:VK),Inv X pins σ H s->RelV x u->RelV y v->rd x y H Q->wpAny (model X.prog X.w) X.A (inplaceOp op u v) (EP X pins σ Q) X.xe s
def uh (K:PySem.W.Frag) (ta tv:TE) (rd:V->V->Hp->VK->Prop) (f:Str):TS:=λD σ H=>ta σ H λx H1=>∃a C dx fs v,x= .ref a/\H1 a=some (.ins C dx fs)/\Cls K C/\NoAttr K C f/\fs.lookup f=some v/\
 tv σ H1 λy H2=>rd v y H2 λz H3=>∃dx' fs',H3 a=some (.ins C dx' fs')/\fs'.length<1000/\D.nx σ (upd H3 a (.ins C dx' (aV f z fs')))
section
variable {o value:Expr} {pos' tpos:Pos} {tv:TE}
theorem aK (he:PE X e ta) (hb:attributeBase e f X.env (eval e X.env)=eval e X.env):PE X (.Attribute e f pos) (tFld X.K ta f):=by
 intro pins s σ H Q I h;refine u8 hb (thn (he pins s σ H _ I h) λu s1 hzz=>?_);obtain⟨x,H1,I1,rx,a,C,dx,fs,v,ex,ea,c,n,l,q⟩:=hzz;subst ex;obtain rfl:u=Value.ref a:=rx;exact kg I1 ea c n l λu' s2 I2 ru=>⟨v,H1,I2,ru,q⟩
theorem bS (ha:PE X o ta) (hv:PE X value tv) (hs:swapsWith value (some (.Attribute o f pos')) pos.line X.env=pure false):PS X (.Assign [.Attribute o f pos'] value pos) (sFld X.K ta tv f):=by
 intro pins s σ H D I h;refine plainObj_wpAny_Assign_Attribute (thn (hv pins s σ H _ I h) λu s1 ⟨y,H1,I1,ry,q⟩=>thn (ha pins s1 σ H1 _ I1 q) λov s2 hzz=>?_) hs;obtain⟨x,H2,I2,rx,a,C,dx,fs,ex,ea,c,n,l,q2⟩:=hzz;subst ex;obtain rfl:ov=Value.ref a:=rx;exact jA I2 ea c n l ry λs3 I3=>⟨σ,_,I3,q2⟩
theorem iz {op:Operator} (ha:PE X o ta) (hv:PE X value tv) (hop:InOp X op rd):PS X (.AugAssign (.Attribute o f tpos) op value pos) (uh X.K ta tv rd f):=by
 intro pins s σ H D I h;refine wpAny_AugAssign_AttributeAny (thn (ha pins s σ H _ I h) λov s1 hzz=>?_);obtain⟨x,H1,I1,rx,a,C,dx,fs,v,ex,ea,c,n,l,q⟩:=hzz;subst ex;obtain rfl:ov=Value.ref a:=rx;refine kg I1 ea c n l λu s2 I2 ru=>thn (hv pins s2 σ H1 _ I2 q) λw3 s3 ⟨y,H2,I3,ry,q3⟩=>thn (hop pins s3 σ H2 v y u w3 _ I3 ru ry q3) λw4 s4 hzz=>?_;obtain⟨z,H3,I4,rz,dx',fs',ea',l',q4⟩:=hzz;exact jA I4 ea' c n l' rz λs5 I5=>⟨σ,_,I5,q4⟩
def rAdd:V->V->Hp->VK->Prop:=λx y H Q=>∃i j,x= .int i/\y= .int j/\Q (.int (i+j)) H
theorem pb:InOp X .Add rAdd:=by
 rintro pins s σ H x y u v Q I rx ry ⟨i,j,rfl,rfl,q⟩;obtain⟨t,rfl⟩:=(show ∃t,u=Value.int i t from rx);obtain⟨t',rfl⟩:=(show ∃t',v=Value.int j t' from ry);exact PyProof.Rows.iadd_int ⟨.int (i+j),H,I.tok _,⟨_,rfl⟩,q⟩
end
section
variable {c:Value} {b:Bool}
inductive TyOf (K:PySem.W.Frag) (H:Hp):V->Value->Prop where
 |non:TyOf K H .non (.type "NoneType")
 |bl (x:Bool):TyOf K H (.bl x) (.type "bool")
 |int (i:Int):TyOf K H (.int i) (.type "int")
 |str (x:Str):TyOf K H (.str x) (.type "str")
 |flt (x:UInt64):TyOf K H (.flt x) (.type "float")
 |lst {a:Addr} {xs:List V} (e:H a=some (.lst xs)):TyOf K H (.ref a) (.type "list")
 |frz {a:Addr} {o:Obj} {xs:List V} (e:H a=some (.frz o (.lst xs))):TyOf K H (.ref a) (.type "list")
 |tup {a:Addr} {xs:List V} (e:H a=some (.tup xs)):TyOf K H (.ref a) (.type "tuple")
 |dK {a:Addr} {kvs:List (Key×V)} (e:H a=some (.dK kvs)):TyOf K H (.ref a) (.type "dict")
 |dT {a:Addr} {kvs:List (List Key×V)} (e:H a=some (.dT kvs)):TyOf K H (.ref a) (.type "dict")
 |ins {a C dx:Addr} {fs:List (Str×V)} (e:H a=some (.ins C dx fs)) (cl:Cls K C) (ha:PySem.W.findIn K (.ref C) "__class__"=some (some (.builtin "object.__class__")))
   (hn:PySem.W.specialIn K (.builtin "object.__class__") "__get__"=some (some (.builtin "getset_descriptor.__get__"))) (htk:PySem.W.takesIn K (.builtin "object.__class__")=some true)
   (hm:PySem.W.mroIn K C (.type "object")=some true):TyOf K H (.ref a) (.ref C)
theorem qN {x:V} {t:Value} (I:Inv X pins σ H s) (rx:RelV x u) (ty:TyOf X.K H x t) (e:PySem.W.kitOne X.K t c=some b) (h:∀tk,Q (.bool b) {s with toks:=tk}):
  wpAny (model X.prog X.w) A (call (.builtin "isinstance") [u,c]) Q E s:=by
 cases ty with
 |non=>cases (show u=Value.none from rx);exact zK PySem.W.kitx_none I.kIn True.intro e (λz=>nomatch z) h
 |bl y=>cases (show u=Value.bool y from rx);exact zK PySem.W.kitx_bool I.kIn True.intro e (λz=>nomatch z) h
 |int i=>obtain⟨t,q⟩:=(show ∃t,u=Value.int i t from rx);cases q;exact zK PySem.W.kitx_int I.kIn True.intro e (λz=>nomatch z) h
 |str y=>obtain⟨t,q⟩:=(show ∃t,u=Value.str y t from rx);cases q;exact zK PySem.W.kitx_str I.kIn True.intro e (λz=>nomatch z) h
 |flt y=>obtain⟨t,q⟩:=(show ∃t,u=Value.float y t from rx);cases q;exact zK PySem.W.kitx_float I.kIn True.intro e (λz=>nomatch z) h
 | @lst a xs ea=>
  cases (show u=Value.ref a from rx);obtain⟨_,_,n,_,h1⟩:=(show ObjOk X.prog X.w H s.heap a (.lst xs) from I.hok a _ ea);exact zK PySem.W.kitx_list I.kIn ⟨_,h1,rfl⟩ e (λz=>nomatch z) h
 | @frz a ob xs ea=>
  cases (show u=Value.ref a from rx);obtain⟨_,_,_,n,_,h1⟩:=(show ObjOk X.prog X.w H s.heap a (.frz ob (.lst xs)) from I.hok a _ ea);exact zK PySem.W.kitx_list I.kIn ⟨_,h1,rfl⟩ e (λz=>nomatch z) h
 | @tup a xs ea=>
  cases (show u=Value.ref a from rx);obtain⟨_,_,_,p⟩:=(show ObjOk X.prog X.w H s.heap a (.tup xs) from I.hok a _ ea);obtain⟨o,h1,h2,_⟩:=p;exact zK PySem.W.kitx_tuple I.kIn ⟨o,h1,h2⟩ e (λz=>nomatch z) h
 | @dK a kvs ea=>
  cases (show u=Value.ref a from rx);obtain⟨_,_,vs,_,p⟩:=(show ObjOk X.prog X.w H s.heap a (.dK kvs) from I.hok a _ ea);obtain⟨o,es,ep,h1,h2,_⟩:=p;exact zK PySem.W.kitx_dict I.kIn ⟨o,h1,h2.1⟩ e (λz=>nomatch z) h
 | @dT a kvs ea=>
  cases (show u=Value.ref a from rx);obtain⟨_,_,xs,_,o,es,ep,h1,h2,_⟩:=(show ObjOk X.prog X.w H s.heap a (.dT kvs) from I.hok a _ ea);exact zK PySem.W.kitx_dict I.kIn ⟨o,h1,h2.1⟩ e (λz=>nomatch z) h
 | @ins a C dx fs ea cl ha hn htk hm=>
  cases (show u=Value.ref a from rx);obtain⟨mA,O,_⟩:=ins_get I.hok ea;obtain⟨od,J,_⟩:=O.look;exact zK (PySem.W.kitx_own (cl.get _) cl.hd ha hn htk hm) I.kIn J e (λz=>nomatch z) h
end
end
section
structure Room (k:Nat) (A:Around):Prop where
 hd:A.handled=none
 dp:A.depth+3*k+5<recursionLimit
 un:A.units+16*k+200<cLine
theorem Room.mono {j k:Nat} (r:Room k A) (h:j<=k):Room j A:=⟨r.hd,by have:=r.dp;lia,by have:=r.un;lia⟩
theorem Room.deeper {k:Nat} (r:Room (k+1) A) (env:Env):Room k (A.deeper env):=
 ⟨r.hd,by have:=r.dp;show A.depth+1+3*k+5<_;lia,by have:=r.un;show A.units+3+16*k+200<_;lia⟩
theorem o7:(A.under (.builtin "type.__call__" ⟨.ref C::us,kw⟩)).depth=A.depth+1:=by
 first|rfl|simp[Around.under,Code.weight,Code.isCreation,Code.isGuard,Code.isCaller,Code.frames,Code.isFrame,guardIds]
theorem o3:(A.under (.builtin "type.__call__" ⟨.ref C::us,kw⟩)).units=A.units+1:=by
 first|rfl|simp[Around.under,Code.cUnits,Code.frames,Code.isFrame]
theorem Room.make {k:Nat} (r:Room (k+1) A) (C:Addr) (us:List Value) (kw:List (Str×Value)):Room k (A.under (.builtin "type.__call__" ⟨.ref C::us,kw⟩)):=
 ⟨r.hd,by have:=r.dp;rw[o7];lia,by have:=r.un;rw[o3];lia⟩
theorem Room.depth {k:Nat} (r:Room k A):A.depth<recursionLimit:=by have:=r.dp;lia
theorem Room.units {k:Nat} (r:Room k A):A.units+64<cLine:=by have:=r.un;lia
def ub:TA:=λ_ H Q=>Q [] H
def rE (ta:TE) (tr:TA):TA:=λσ H Q=>ta σ H λx H1=>tr σ H1 λxs H2=>Q (x::xs) H2
section
variable {t:TA}
theorem ah:PA X [] ub:=λ_ _ _ _ H Q I h=>Calls.spliced_nil ⟨[],H,I,.nil,h⟩
theorem aa (ha:PE X e te) (hr:PA X es t) (hs:starEach (e::es) X.env=(false,eval e X.env)::starEach es X.env:=by rfl):PA X (e::es) (rE te t):=by
 intro pos pins s σ H Q I h;rw[hs];show wpAny _ _ (spliced ((false,eval e X.env)::backTo pos (starEach es X.env))) _ _ s;refine Calls.spliced_cons (thn (ha pins s σ H _ I h) λu s1 hzz=>?_);obtain⟨x,H1,I1,r1,q1⟩:=hzz;exact thn (hr pos pins s1 σ H1 _ I1 q1) λus s2 ⟨xs,H2,I2,r2,q2⟩=>⟨x::xs,H2,I2,.cons r1 r2,q2⟩
def tTup (t:TA):TE:=λσ H Q=>t σ H λxs H1=>xs.length<=sizeLine/\∀p,H1 p=none->Q (.ref p) (upd H1 p (.tup xs))
def tLst (t:TA):TE:=λσ H Q=>t σ H λxs H1=>xs.length<=sizeLine/\∀p,H1 p=none->Q (.ref p) (upd H1 p (.lst xs))
theorem oN {x1} (h:PA X es t):PE X (.Tuple es x1 pos) (tTup t):=by
 intro pins s σ H Q I hq;refine wpAny_Tuple_spliced (thn (h pos pins s σ H _ I hq) λus s1 ⟨xs,H1,I1,r,z,q⟩=>⟨by rw[<-r.length];exact z,?_⟩);have hf:H1 s1.heap.objs.size=none:=I1.hok.fresh (zg _);refine⟨.ref s1.heap.objs.size,upd H1 s1.heap.objs.size (.tup xs),I1.laid (t':=s1.toks) (λb u e=>Heap.get?_push_of_some _ e) (zg _) ?_,rfl,q _ hf⟩;exact⟨z,us,r,⟨_,Heap.get?_push_size _ rfl,rfl,_,rfl⟩⟩
theorem bp (h:PA X es t):PE X (.List es pos) (tLst t):=by
 intro pins s σ H Q I hq;refine wpAny_List_spliced (thn (h pos pins s σ H _ I hq) λus s1 ⟨xs,H1,I1,r,z,q⟩=>⟨by rw[<-r.length];exact z,?_⟩);have hf:H1 s1.heap.objs.size=none:=I1.hok.fresh (zg _);refine⟨.ref s1.heap.objs.size,upd H1 s1.heap.objs.size (.lst xs),I1.laid (t':=s1.toks) (λb u e=>Heap.get?_push_of_some _ e) (zg _) ?_,rfl,q _ hf⟩;exact⟨z,us,0,r,Heap.get?_push_size _ rfl⟩
end
abbrev Sp:=List V->Hp->VK->XK->Prop
abbrev CXT:=List Env->Hp->Shared->XK->Value->Shared->Prop
structure Env0 (P:Program) (w:World) (K:PySem.W.Frag) (mg:Str->Option Value) (base:Heap) (A:Around) (outer:List Env) (s:Shared) (H:Hp):Prop where
 frames:A.frames=some outer
 mod:Mod K mg base
 bs:∀b o,base.get? b=some o->s.heap.get? b=some o/\H b=none
 bsz:base.objs.size<=s.heap.objs.size
 funs:s.heap.FunFrames base outer
 frf:∀b∈frs outer,H b=none
 hok:HOk P w H s.heap
 bare:AllBare s.gens
def CE (outer:List Env) (P:Program) (w:World) (H:Hp) (s:Shared) (Q:VK) (u:Value) (s':Shared):Prop:=
 ∃v H',s'.os=s.os/\AllBare s'.gens/\Un (frs outer) [] H H' s.heap s'.heap/\HOk P w H' s'.heap/\RelV v u/\Q v H'
def CR (CX:CXT) (outer:List Env) (P:Program) (w:World) (H:Hp) (s:Shared) (Q:VK) (E:XK) (r:Result) (s':Shared):Prop:=
 match r with
 | .ok (.ret u)=>CE outer P w H s Q u s'
 | .ok _=>False
 | .error e=>CX outer H s E e s'
structure a6 (P:Program) (w:World) (K:PySem.W.Frag) (mg:Str->Option Value) (base:Heap) (CX:CXT) (k:Nat) (f:Addr) (fd:FuncData) (ps:List Str) (sp:Sp):Prop where
 len:∀vs H Q E,sp vs H Q E->vs.length=ps.length
 run:∀(A:Around) (outer:List Env) (s:Shared) (H:Hp) (args:Args) (us:List Value) (vs:List V) (Q:VK) (E:XK),Room k A->Env0 P w K mg base A outer s H->BindsTo s fd args (ps.zip us)->Vals vs us->sp vs H Q E->
  codeAny (model P w) A (.call (.ref f) args) (CR CX outer P w H s Q E) s
theorem Env0.make {mg:Str->Option Value} (e:Env0 P w K mg base A outer s H) (C:Addr) (us:List Value) (kw:List (Str×Value)):
  Env0 P w K mg base (A.under (.builtin "type.__call__" ⟨.ref C::us,kw⟩)) outer s H:=⟨by first|exact e.frames|(simpa[Around.under,Code.envs,Code.isFrame,pushEnvs]using e.frames),e.mod,e.bs,e.bsz,e.funs,e.frf,e.hok,e.bare⟩
section
theorem Inv.env0 (I:Inv X pins σ H s):Env0 X.prog X.w X.K X.mg X.base X.A X.stack s H:=
 ⟨I.ok.frames,I.ok.mod,I.bs,zC I.ok.bsz I.sz,I.stack,I.stkFree,I.hok,I.bare⟩
theorem Inv.after {Q:VK} (I:Inv X pins σ H s) (h:CE X.stack X.prog X.w H s Q u s'):EP X pins σ Q u s':=by
 obtain⟨v,H',os,bare,un,hok,r,q⟩:=h;obtain⟨hh,g,d,t,os'⟩:=s';obtain rfl:os'=s.os:=os;exact⟨v,H',I.call (h':=hh) (g':=g) (d':=d) (t':=t) (ch:=[]) un hok bare (λb z=>absurd z (by simp)),r,q⟩
end
def xk (sp:Sp) (dvs:List V) (E:XK) (t:TA):TE:=λσ H Q=>t σ H λvs H1=>sp (vs++dvs) H1 Q E
def vq (C:Addr) (m:Str) (sp:Sp) (dvs:List V) (E:XK) (ta:TE) (t:TA):TE:=λσ H Q=>ta σ H λx H1=>∃a dx fs,x= .ref a/\H1 a=some (.ins C dx fs)/\fs.lookup m=none/\
 t σ H1 λvs H2=>sp (x::(vs++dvs)) H2 Q E
def xg (C:Addr) (sp:Sp) (dvs:List V) (E:XK) (t:TA):TE:=λσ H Q=>t σ H λvs H1=>∀x dx,H1 x=none->H1 dx=none->dx≠x->
 sp (.ref x::(vs++dvs)) (upd (upd H1 dx (.own x)) x (.ins C dx [])) (λv H2=>v= .non/\Q (.ref x) H2) E
def Binds (K:PySem.W.Frag) (fd:FuncData) (ps:List Str) (ds:List Value):Prop:=
 ∀(s:Shared) (us:List Value),K.In s.heap->(us++ds).length=ps.length->BindsTo s fd ⟨us,[]⟩ (ps.zip (us++ds))
theorem Binds.all (h:∀us:List Value,us.length=ps.length->bindArgs fd ⟨us,[]⟩=pure (ps.zip us)):Binds K fd ps []:=λs us _ hl=>by
 rw[List.append_nil]at hl⊢;exact .of_eq (h us hl)
def fe (CX:CXT) (X:Cx) (E:XK):Prop:=∀(pins:List (Addr×Obj)) (σ:St) (H:Hp) (s:Shared) (e:Value) (s':Shared),Inv X pins σ H s->CX X.stack H s E e s'->X.xe e s'
section
variable {k:Nat} {f:Addr} {dvs:List V} {ds:List Value} {E:XK} {apos:Pos} {o:Expr} {t:TA}
theorem oK {Q:VK} (F:a6 X.prog X.w X.K X.mg X.base CX k f fd ps sp) (hr:Room k X.A) (hb:Binds X.K fd ps ds) (hd:Vals dvs ds) (hx:fe CX X E)
  (I:Inv X pins σ H s) (r:Vals vs us) (h:sp (vs++dvs) H Q E):wpAny (model X.prog X.w) X.A (call (.ref f) us) (EP X pins σ Q) X.xe s:=by
 have r2:Vals (vs++dvs) (us++ds):=r.append hd;have hl:(us++ds).length=ps.length:=by rw[<-r2.length];exact F.len _ _ _ _ h
 refine wpAny_call (codeAny_mono (F.run X.A X.stack s H ⟨us,[]⟩ (us++ds) (vs++dvs) Q E hr I.env0 (hb s us I.kIn hl) r2 h) λr s' hq=>?_);cases r with
 |error e=>exact hx pins σ H s e s' I hq
 |ok fl=>
  cases fl with
  |ret u=>exact I.after hq
  |next=>exact False.elim hq
  |brk=>exact False.elim hq
  |cont=>exact False.elim hq
theorem aE (F:a6 X.prog X.w X.K X.mg X.base CX k f fd ps sp) (hr:Room k X.A) (hg:Gl X x) (hm:X.mg x=some (.ref f)) (hk:PySem.W.keepIn X.K (.ref f)=true) (hb:Binds X.K fd ps ds) (hd:Vals dvs ds) (hx:fe CX X E)
  (ha:PA X (e::es) t) (hdb:(x==("__debug__":Str))=false:=by decide) (he:starEach (e::es) X.env=(false,eval e X.env)::starEach es X.env:=by rfl) (hpl:(backTo pos (starEach es X.env)).any (·.1)=false:=by rfl):
  PE X (.Call (.Name x p) (e::es) [] pos) (xk sp dvs E t):=by
 intro pins s σ H Q I h;refine wpAny_Call_Name_kw (f9 I hg hm ?_ hdb);refine yT (h₀:=X.base) I.ok.mod.kin hk (thn (ha pos pins s σ H _ I h) λus s1 ⟨vs,H1,I1,r,q⟩=>⟨I1.kIn,?_⟩) he hpl;exact oK F hr hb hd hx I1 r q
theorem br {pl:Sem Bool} (he:PE X o ta) (c:Cls X.K C) (hm:dU X.K C m f) (F:a6 X.prog X.w X.K X.mg X.base CX k f fd ps sp) (hr:Room k X.A) (hb:Binds X.K fd ps ds) (hd:Vals dvs ds) (hx:fe CX X E) (ha:PA X (e::es) t)
  (hst:starEach (e::es) X.env=(false,eval e X.env)::starEach es X.env:=by rfl) (hpl:(backTo pos (starEach es X.env)).any (·.1)=false:=by rfl)
  (ht:eval (.Call (.Attribute o m apos) (e::es) [] pos) X.env=(do
   let ov<-eval o X.env
   standAt apos.atName
   let(f,first)<-holding [ov] (getMethod ov m pl)
   callWith pos f first (backTo pos (starEach (e::es) X.env)) (backToKw pos (keywordEach [] X.env))):=by rfl):
  PE X (.Call (.Attribute o m apos) (e::es) [] pos) (vq C m sp dvs E ta t):=by
 intro pins s σ H Q I h;refine PySem.W.methodCall_KW (pl:=pl) (thn (he pins s σ H _ I h) λu s1 hzz=>?_) ht;obtain⟨x,H1,I1,rx,a,dx,fs,ex,ea,l,q⟩:=hzz;subst ex;obtain rfl:u=Value.ref a:=rx;refine kf I1 ea c hm l ?_;refine yT (first:=[.ref a]) (h₀:=X.base) I.ok.mod.kin hm.kp (thn (ha pos pins s1 σ H1 _ I1 q) λus s2 ⟨vs,H2,I2,r,q2⟩=>⟨I2.kIn,?_⟩) hst hpl;exact oK (us:= .ref a::us) (vs:= .ref a::vs) F hr hb hd hx I2 (.cons rfl r) q2
theorem g7 {pl:Sem Bool} (he:PE X o ta) (c:Cls X.K C) (hm:dU X.K C m f) (F:a6 X.prog X.w X.K X.mg X.base CX k f fd ps sp) (hr:Room k X.A) (hb:Binds X.K fd ps ds) (hd:Vals dvs ds) (hx:fe CX X E)
  (ht:eval (.Call (.Attribute o m apos) [] [] pos) X.env=(do
   let ov<-eval o X.env
   standAt apos.atName
   let(f,first)<-holding [ov] (getMethod ov m pl)
   callWith pos f first (backTo pos (starEach [] X.env)) (backToKw pos (keywordEach [] X.env))):=by rfl):
  PE X (.Call (.Attribute o m apos) [] [] pos) (vq C m sp dvs E ta ub):=by
 intro pins s σ H Q I h;refine PySem.W.methodCall_KW (pl:=pl) (thn (he pins s σ H _ I h) λu s1 hzz=>?_) ht;obtain⟨x,H1,I1,rx,a,dx,fs,ex,ea,l,q⟩:=hzz;subst ex;obtain rfl:u=Value.ref a:=rx;refine kf I1 ea c hm l ?_;exact PySem.W.callWith_K0 (first:=[.ref a]) I1.kIn hm.kp (oK (us:=[.ref a]) (vs:=[.ref a]) F hr hb hd hx I1 (.cons rfl .nil) q)
structure Mk (K:PySem.W.Frag) (C f:Addr):Prop where
 makes:PySem.W.makesIn K C=true
 init:PySem.W.findIn K (.ref C) "__init__"=some (some (.ref f))
 fn:PySem.W.isFn K (.ref f)=true
 kp:PySem.W.keepIn K (.ref C)=true
theorem rM {Q:VK} (M:Mk X.K C f) (F:a6 X.prog X.w X.K X.mg X.base CX k f fd ps sp) (hr:Room (k+1) X.A) (hb:Binds X.K fd ps ds) (hd:Vals dvs ds)
  (hx:fe CX X E) (I:Inv X pins σ H s) (r:Vals vs us)
  (h:∀x dx,H x=none->H dx=none->dx≠x->sp (.ref x::(vs++dvs)) (upd (upd H dx (.own x)) x (.ins C dx [])) (λv H2=>v= .non/\Q (.ref x) H2) E):
  wpAny (model X.prog X.w) X.A (call (.ref C) us) (EP X pins σ Q) X.xe s:=by
 have hq:=h (s.heap.objs.size+1) s.heap.objs.size (I.hok.fresh (yH _)) (I.hok.fresh (zg _)) (zI (Qm _));have I2:=Inv.made (C:=C) I;have r2:Vals (V.ref (s.heap.objs.size+1)::(vs++dvs)) (Value.ref (s.heap.objs.size+1)::(us++ds)):= .cons rfl (r.append hd);have hl:(Value.ref (s.heap.objs.size+1)::us++ds).length=ps.length:=by
  have e:=r2.length;rw[F.len _ _ _ _ hq]at e;exact e.symm
 refine wpAny_call (sv (f:=f) I.kIn M.makes M.init (beq_iff_eq.mp M.fn) (codeAny_mono (F.run _ X.stack _ _ ⟨Value.ref (s.heap.objs.size+1)::us,[]⟩ (Value.ref (s.heap.objs.size+1)::(us++ds)) _ _ E (hr.make C us [])
  (I2.env0.make C us []) (hb _ (Value.ref (s.heap.objs.size+1)::us) I2.kIn hl) r2 hq) λr s' hq'=>?_))
 cases r with
 |error e=>exact hx pins σ _ _ e s' I2 hq'
 |ok fl=>
  cases fl with
  |ret u=>
   obtain⟨v,H',I3,rv,ev,q3⟩:=I2.after hq';subst ev;exact⟨rv,⟨V.ref (s.heap.objs.size+1),H',I3,rfl,q3⟩⟩
  |next=>exact False.elim hq'
  |brk=>exact False.elim hq'
  |cont=>exact False.elim hq'
theorem g8 (M:Mk X.K C f) (F:a6 X.prog X.w X.K X.mg X.base CX k f fd ps sp) (hr:Room (k+1) X.A) (hg:Gl X x) (hm:X.mg x=some (.ref C)) (hb:Binds X.K fd ps ds) (hd:Vals dvs ds) (hx:fe CX X E)
  (hdb:(x==("__debug__":Str))=false:=by decide):PE X (.Call (.Name x p) [] [] pos) (xg C sp dvs E ub):=by
 intro pins s σ H Q I h;refine wpAny_Call_Name_kw (f9 I hg hm ?_ hdb);exact PySem.W.callWith_K0 I.kIn M.kp (rM (us:=[]) M F hr hb hd hx I .nil h)
end
structure ay (N P:List Str) (sc:Scope):Prop where
 kind:sc.kind= .function
 co:sc.isCoroutine=false
 gen:sc.isGenerator=false
 nd:N.Nodup
 pre:N.take P.length=P
 par:∀x∈P,sc.names.lookup x=some .local\/sc.names.lookup x=some .cell
 nofree:∀y∈sc.names,y.2≠ .free
theorem lM {kindOf:Str->Option NameKind} {x:Str}:∀{binds:List (Str×Value)} {m:Str->Option Value},(∀v,(x,v)∉binds)->bindL kindOf binds m x=m x
 | [],_,_=>rfl
 |(n,v)::r,m,h=>by
  unfold bindL;rw[lM λw hw=>h w (zj _ hw)];split
  .have:x≠n:=by rintro rfl;exact h v zi
   simp[this]
  .rfl
theorem lO {kindOf:Str->Option NameKind} {x:Str}:∀{binds:List (Str×Value)} {m:Str->Option Value},(∀v,(x,v)∉binds)->bindC kindOf binds m x=m x
 | [],_,_=>rfl
 |(n,v)::r,m,h=>by
  unfold bindC;rw[lO λw hw=>h w (zj _ hw)];split
  .rfl
  .have:x≠n:=by rintro rfl;exact h v zi
   simp[this]
theorem lN {kindOf:Str->Option NameKind} {x:Str} {v:Value}:∀{P:List Str} {vs:List Value} {i:Nat} {m:Str->Option Value},P.Nodup->P[i]?=some x->vs[i]?=some v->kindOf x=some .local->
  bindL kindOf (P.zip vs) m x=some v
 | [],_,_,_,_,h,_,_=>by simp at h
 |_::_,[],_,_,_,_,h,_=>by simp at h
 |p::P,w::vs,0,m,nd,h1,h2,hk=>by
  simp at h1 h2;subst h1;subst h2;show bindL kindOf ((p,w)::P.zip vs) m p=_;unfold bindL;rw[lM λv hv=>(zT.mp nd).1 (Qo hv).1,if_pos hk];simp
 |p::P,w::vs,i+1,m,nd,h1,h2,hk=>by
  show bindL kindOf ((p,w)::P.zip vs) m x=_;unfold bindL;exact lN (i:=i) (zT.mp nd).2 (by simpa using h1) (by simpa using h2) hk
theorem lP {kindOf:Str->Option NameKind} {x:Str} {v:Value}:∀{P:List Str} {vs:List Value} {i:Nat} {m:Str->Option Value},P.Nodup->P[i]?=some x->vs[i]?=some v->kindOf x≠some .local->
  bindC kindOf (P.zip vs) m x=some v
 | [],_,_,_,_,h,_,_=>by simp at h
 |_::_,[],_,_,_,_,h,_=>by simp at h
 |p::P,w::vs,0,m,nd,h1,h2,hk=>by
  simp at h1 h2;subst h1;subst h2;show bindC kindOf ((p,w)::P.zip vs) m p=_;unfold bindC;rw[lO λv hv=>(zT.mp nd).1 (Qo hv).1,if_neg hk];simp
 |p::P,w::vs,i+1,m,nd,h1,h2,hk=>by
  show bindC kindOf ((p,w)::P.zip vs) m x=_;unfold bindC;exact lP (i:=i) (zT.mp nd).2 (by simpa using h1) (by simpa using h2) hk
def start (N:List Str) (vs:List V):St:=vs.map some++List.replicate (N.length-vs.length) none
def ja (CX:CXT) (P:Program) (w:World) (K:PySem.W.Frag) (mg:Str->Option Value) (base:Heap) (N:List Str) (qual:Str) (scope:Scope) (f:Addr) (cd:Value) (A:Around) (outer:List Env) (s:Shared) (H:Hp) (E:XK):Cx where
 prog:=P
 w:=w
 K:=K
 mg:=mg
 base:=base
 A:=A.deeper (envOfC qual scope s.heap.objs.size f cd)
 N:=N
 s₀:=s
 H₀:=H
 env:=envOfC qual scope s.heap.objs.size f cd
 outer:=outer
 stack:=envOfC qual scope s.heap.objs.size f cd::outer
 ex:=[]
 calm:=true
 fn:=λ_=>true
 pn:=[]
 xe:=λe s'=>wpAny (model P w) (A.deeper (envOfC qual scope s.heap.objs.size f cd)) (leaving (envOfC qual scope s.heap.objs.size f cd) e) (λ_ s''=>CX outer H s E e s'') (λe' s''=>CX outer H s E e' s'') s'
theorem oi {sc:Scope} (h:sc.names.lookup x=some .cell):∃c,(cellsFrom n sc.names []).lookup x=some c:=by
 have q:=PySem.W.cellsFrom_some sc.names n [] (.inl h);exact Option.isSome_iff_exists.mp q
theorem qO {mg:Str->Option Value} {f:Addr} {cd:Value} {s1:Shared} {E:XK} 
  (S:ay N ps scope) (hd:A.handled=none) (e0:Env0 P w K mg base A outer s H) (hl:vs.length=ps.length) (r:Vals vs us)
  (x:InCallC s s.heap.objs.size (bindL (envOfC qual scope s.heap.objs.size f cd).kindOf (ps.zip us) λ_=>none) (cellsFrom (s.heap.objs.size+1) scope.names []) (bindC (envOfC qual scope s.heap.objs.size f cd).kindOf (ps.zip us) λ_=>none) s1):
  Inv (ja CX P w K mg base N qual scope f cd A outer s H E) [] (start N vs) H s1:=by
 have hpl:ps.length<=N.length:=by have:=congrArg List.length S.pre;rw[zu]at this;lia
 obtain⟨h1,tk,rfl,hk⟩:=x.done;have noA:∀b:Addr,b∉(ja CX P w K mg base N qual scope f cd A outer s H E).ex:=λb z=>absurd (show b∈([]:List Addr) from z) (by simp);refine⟨⟨e0.mod,S.kind,rfl,rfl,zg _,λy z c h1 h2=>?_,λy hy=>?_,λy c _ h=>?_,λ_=>hd,Around.frames_deeper e0.frames,.inr ⟨rfl,rfl⟩,λb z=>absurd z (noA b),e0.bs,e0.bsz,λb _ _=>noA b,λb z=>absurd z (noA b),e0.funs,e0.frf⟩,
  rfl,e0.bare,Un.kept hk,⟨_,x.toInCall.ns,λi y v h1 h2 h3=>?_⟩,λy c h=>⟨_,x.cell y c h⟩,e0.hok.fresh (zg _),λy c h=>?_,λp hp=>absurd (show p∈([]:List (Addr×Obj)) from hp) (by simp),e0.hok.kept hk,?_⟩
 .exact name_of_addr x.apart (PySem.mem_of_lookup h1) (PySem.mem_of_lookup h2)
 .have hy:scope.names.lookup y=some .cell\/scope.names.lookup y=some .free:=hy;rcases hy with hy|hy
  .exact oi hy
  .exact absurd rfl (S.nofree _ (PySem.mem_of_lookup hy))
 .exact Q3 (x.above y c (PySem.mem_of_lookup h))
 .have hi:i<vs.length:=by
   unfold start at h2;by_cases hi:i<vs.length
   .exact hi
   .rw[yU (by simpa using hi)]at h2;rw[List.getElem?_replicate]at h2;split at h2<;>cases h2
  have ha:vs[i]?=some v:=by
   unfold start at h2;rw[yX (by simpa using hi),zD]at h2;cases e:vs[i]? with
   |none=>rw[e]at h2;cases h2
   |some a=>rw[e]at h2;cases h2;rfl
  obtain⟨u,hu,rv⟩:=r.get ha;have hp:ps[i]?=some y:=by
   rw[<-S.pre,List.getElem?_take_of_lt (by lia)];exact h1
  have ndP:ps.Nodup:=by rw[<-S.pre];exact S.nd.sublist (List.take_sublist _ _)
  refine⟨u,rv,?_⟩;rcases S.par y (z7 hp)with k|k
  .exact .inl ⟨k,lN ndP hp hu k⟩
  .obtain⟨c,e⟩:=oi (n:=s.heap.objs.size+1) k;refine .inr ⟨.inl k,c,e,?_⟩;have q:=x.cell y c e;rw[lP ndP hp hu (by show scope.names.lookup y≠_;rw[k];decide)]at q;exact q
 .exact e0.hok.fresh (Q3 (x.above y c (PySem.mem_of_lookup h)))
 .unfold start;show _=N.length;rw[zk,z8,zY];lia
theorem vK {mg:Str->Option Value} {k:Nat} {f:Addr} {params:Arguments} {dV kV doc pm cdv ct oc:Value} {an od:Option Addr}
  {osl:Array (Option Value)} (lk:K.lookup f=some ⟨oc,od,.func (PySem.W.fnOf name qual params body scope dV kV doc pm an cdv ct),osl⟩) (hcd:PySem.W.codeIn K cdv qual=true) (S:ay N ps scope)
  (len:∀vs H Q E,sp vs H Q E->vs.length=ps.length)
  (hbody:∀(A:Around) (outer:List Env) (s:Shared) (H:Hp) (vs:List V) (Q:VK) (E:XK),Room k (A.deeper (envOfC qual scope s.heap.objs.size f cdv))->sp vs H Q E->
   ∃t,PSs (ja CX P w K mg base N qual scope f cdv A outer s H E) body t/\t {nx:=λ_ H'=>Q .non H',rt:=Q} (start N vs) H):
  a6 P w K mg base CX (k+1) f (PySem.W.fnOf name qual params body scope dV kV doc pm an cdv ct) ps sp:=by
 refine⟨len,λA outer s H args us vs Q E hr e0 hb r hsp=>?_⟩;have hl:=len _ _ _ _ hsp;have KX:K.In s.heap:=e0.mod.kin.keeps λb o e=>(e0.bs b o e).1;have lim:s.heap.NoLimit:=e0.mod.nolimit.keeps λb o e=>(e0.bs b o e).1;have hkind:∀y∈ps.zip us,scope.names.lookup y.1=some .local\/(scope.names.lookup y.1=some .cell/\((cellsFrom (s.heap.objs.size+1) scope.names []).lookup y.1).isSome=true):=λ⟨n,v⟩ hy=>by
  rcases S.par n (Qo hy).1 with q|q
  .exact .inl q
  .exact .inr ⟨q,PySem.W.cellsFrom_some _ _ _ (.inl q)⟩
 refine codeAny_call_function hr.depth (KX _ _ lk) rfl S.co S.gen rfl (PySem.W.codeRec_of KX hcd) (hb _ _ _ _ ?_);refine wpAny_newFunctionEnv_cells S.kind hkind λenv he s1 x=>?_;subst he;refine⟨lim.keeps x.toInCall.keep,codeAny_func ?_⟩;obtain⟨t,ht,hq⟩:=hbody A outer s H vs Q E (hr.deeper _) hsp;have I:Inv (ja CX P w K mg base N qual scope f cdv A outer s H E) [] (start N vs) H s1:=qO S hr.hd e0 hl r x;refine wpAny_mono (ht [] s1 (start N vs) H _ I hq) (λfl s' hs=>?_) λe s' hs=>hs;have fin:∀{σ':St} {H':Hp} {v:V} {u:Value},Inv (ja CX P w K mg base N qual scope f cdv A outer s H E) [] σ' H' s'->RelV v u->Q v H'->CE outer P w H s Q u s':=
  λ{σ' H' v u} J rv q=>⟨v,H',J.os,J.bare,J.base,J.hok,rv,q⟩
 cases fl with
 |ret u=>
  obtain⟨v,σ',H',J,rv,q⟩:=hs;exact fin J rv q
 |next=>
  obtain⟨σ',H',J,q⟩:=hs;exact fin (v:=V.non) (u:=Value.none) J rfl q
 |brk=>
  obtain⟨_,_,_,q⟩:=hs;exact False.elim q
 |cont=>
  obtain⟨_,_,_,q⟩:=hs;exact False.elim q
end
section
section
variable {t:TA} {id T:String} {r:List V->Hp->VK->Prop}
def tCB (r:List V->Hp->VK->Prop) (t:TA):TE:=λσ H Q=>t σ H λvs H1=>r vs H1 Q
theorem aB (hc:fW X (.builtin id) r) (hg:Gl X x) (hm:X.mg x=none) (hv:bootBuiltins x=some (.builtin id)) (ha:PA X (e::es) t) (hn:x≠"__name__":=by decide) (hdb:(x==("__debug__":Str))=false:=by decide)
  (he:starEach (e::es) X.env=(false,eval e X.env)::starEach es X.env:=by rfl) (hpl:(backTo pos (starEach es X.env)).any (·.1)=false:=by rfl):PE X (.Call (.Name x p) (e::es) [] pos) (tCB r t):=by
 intro pins s σ H Q I h;refine wpAny_Call_Name_kw (my I hg hm hv ?_ hn hdb);exact PyProof.Rows.callWith_builtin1 (thn (ha pos pins s σ H _ I h) λus s1 ⟨vs,H1,I1,r1,q1⟩=>hc pins s1 σ H1 vs us Q I1 r1 q1) he hpl
theorem fZ (hc:fW X (.type T) r) (hg:Gl X x) (hm:X.mg x=none) (hv:bootBuiltins x=some (.type T)) (ha:PA X (e::es) t) (hn:x≠"__name__":=by decide) (hdb:(x==("__debug__":Str))=false:=by decide)
  (he:starEach (e::es) X.env=(false,eval e X.env)::starEach es X.env:=by rfl) (hpl:(backTo pos (starEach es X.env)).any (·.1)=false:=by rfl):PE X (.Call (.Name x p) (e::es) [] pos) (tCB r t):=by
 intro pins s σ H Q I h;refine wpAny_Call_Name_kw (my I hg hm hv ?_ hn hdb);exact PyProof.Rows.callWith_type1 (thn (ha pos pins s σ H _ I h) λus s1 ⟨vs,H1,I1,r1,q1⟩=>hc pins s1 σ H1 vs us Q I1 r1 q1) he hpl
end
end
end L2
namespace HT
open PySem PyProof.Rows
variable {E:Value->Shared->Prop}
section
variable {prog:Program} {w:World} {A:Around} {s:Shared}
def sIx (n d:Nat):Option Int->Nat
 |none=>d
 |some v=>if v<0 then(v+(n:Int)).toNat else min v.toNat n
theorem sIx_none (n d:Nat):sIx n d none=d:=rfl
end
end HT
namespace L2
open PySem PySem.Spec PyProof.Rows
variable {a b:Addr} {A:Around} {X:Cx} {e:Expr} {h':Heap} {H H':Hp} {i:Int} {pins:List (Addr×Obj)} {kvs:List (Key×V)} {vs:List (Key×Value)} {its its':List Value} {j n t':Nat} {o:Option V} {pos:Pos} {P:Program} {s:Shared} {σ:St} {T:String} {α:Type} {x y:V} {u v:Value} {E Q:Value->Shared->Prop} {w:World}
section
abbrev TO:=St->Hp->(Option Int->Hp->Prop)->Prop
def PO (X:Cx) (e:Option Expr) (t:TO):Prop:=
 ∀(pins:List (Addr×Obj)) (s:Shared) (σ:St) (H:Hp) (Q:Option Int->Hp->Prop),Inv X pins σ H s->t σ H Q->
  wpAny (model X.prog X.w) X.A (evalPart e X.env) (λu s'=>∃o H',Inv X pins σ H' s'/\IsPart u o/\Q o H') X.xe s
def ua:TO:=λ_ H Q=>Q none H
def xf (t:TE):TO:=λσ H Q=>t σ H λx H1=>∃i,x= .int i/\Q (some i) H1
section
variable {te:TE} {lo hi:Option Expr} {tl th:TO} {p2:Pos}
theorem aX:PO X none ua:=by
 intro pins s σ H Q I h;rw[evalPart_none];exact wpAny_pure ⟨none,H,I,.none,h⟩
theorem aW (h:PE X e te):PO X (some e) (xf te):=by
 intro pins s σ H Q I hw;rw[evalPart_some];refine thn (h pins s σ H _ I hw) λu s1 hzz=>?_;obtain⟨x,H1,I1,r1,q1⟩:=hzz;obtain⟨i,rfl,q⟩:=q1;obtain⟨t,rfl⟩:=r1;exact⟨some i,H1,I1,.int i t,q⟩
def SlR (X:Cx) (r:V->Option Int->Option Int->Hp->VK->Prop):Prop:=
 ∀(pins:List (Addr×Obj)) (s:Shared) (σ:St) (H:Hp) (x:V) (v vl vu:Value) (lo hi:Option Int) (sl:Addr) (Q:VK),Inv X pins σ H s->RelV x v->s.heap.IsSliceOf sl vl vu .none->IsPart vl lo->IsPart vu hi->r x lo hi H Q->
  ∃T id,typeLookup (.type T) "__getitem__"=pure (some (.builtin id))/\s.TypeIs v T/\wpAny (model X.prog X.w) X.A (getItem v (.ref sl)) (EP X pins σ Q) X.xe s
def tSl (r:V->Option Int->Option Int->Hp->VK->Prop) (te:TE) (tl th:TO):TE:=λσ H Q=>te σ H λx H1=>tl σ H1 λl H2=>th σ H2 λu H3=>r x l u H3 Q
theorem aO {r:V->Option Int->Option Int->Hp->VK->Prop} (hr:SlR X r) (he:PE X e te) (hl:PO X lo tl) (hu:PO X hi th):PE X (.Subscript e (.Slice lo hi none p2) pos) (tSl r te tl th):=by
 intro pins s σ H Q I h;refine Subscript_ (thn (he pins s σ H _ I h) λv s1 hzz=>?_);obtain⟨x,H1,I1,r1,q1⟩:=hzz;refine wpAny_Slice (thn (hl pins s1 σ H1 _ I1 q1) λvl s2 ⟨l,H2,I2,pl,q2⟩=>thn (hu pins s2 σ H2 _ I2 q2) λvu s3 hzz=>?_);obtain⟨u,H3,I3,pu,q3⟩:=hzz;rw[evalPart_none];refine wpAny_pure ?_;have I4:Inv X pins σ H3 {s3 with heap:=s3.heap.push {cls:= .type "slice",data:= .fields #[vl,vu,.none]}}:=I3.kept (t':=s3.toks) λb ob q=>Heap.get?_push_of_some _ q;obtain⟨T,id,hT,ht,hg⟩:=hr pins {s3 with heap:=s3.heap.push {cls:= .type "slice",data:= .fields #[vl,vu,.none]}} σ H3 x v vl vu l u s3.heap.objs.size Q I4 r1 (Heap.IsSliceOf.new ..) pl pu q3;show wpAny (model X.prog X.w) X.A (subscriptTail e (.Slice lo hi none p2) v (.ref s3.heap.objs.size)) (EP X pins σ Q) X.xe {s3 with heap:=s3.heap.push {cls:= .type "slice",data:= .fields #[vl,vu,.none]}};exact tail_any (ops:=[.ref s3.heap.objs.size,v]) ht hT hg (by with_unfolding_all rfl)
def c8 (xs:List V) (lo hi:Option Int):List V:=(xs.drop (HT.sIx xs.length 0 lo)).take (HT.sIx xs.length xs.length hi-HT.sIx xs.length 0 lo)
theorem oe (xs:List V) (lo hi:Option Int):(c8 xs lo hi).length<=xs.length:=by
 unfold c8;rw[zu,zG];lia
end
end
section
def ixN (n:Nat) (i:Int):Option Nat:=if 0<=i then(if i<n then some i.toNat else none)else if-(n:Int)<=i then some (i+n).toNat else none
def atI {α:Type} (xs:List α) (i:Int):Option α:=(ixN xs.length i).bind λj=>xs[j]?
theorem pY (h:ixN n i=some j):seqIndex? i n=some j/\j<n/\-(n:Int)<=i/\i<n:=by
 unfold ixN at h;by_cases h0:0<=i
 .rw[if_pos h0]at h;by_cases h1:i<n
  .rw[if_pos h1]at h;have e:i.toNat=j:=Option.some.inj h;exact⟨by rw[seqIndex_of h0 h1,e],by lia,by lia,h1⟩
  .rw[if_neg h1]at h;cases h
 .rw[if_neg h0]at h;by_cases h1: -(n:Int)<=i
  .rw[if_pos h1]at h;have e:(i+n).toNat=j:=Option.some.inj h;exact⟨by rw[seqIndex_neg (by lia) h1,e],by lia,h1,by lia⟩
  .rw[if_neg h1]at h;cases h
theorem mQ {xs:List α} {v:α} (h:atI xs i=some v):∃j,seqIndex? i xs.length=some j/\xs[j]?=some v/\j<xs.length/\-(xs.length:Int)<=i/\i<xs.length:=by
 unfold atI at h;cases e:ixN xs.length i with
 |none=>rw[e]at h;cases h
 |some j=>
  rw[e]at h;obtain⟨h1,h2,h3,h4⟩:=pY e;exact⟨j,h1,h,h2,h3,h4⟩
theorem ia {xs:List α} {v:α} (h:xs[j]?=some v):atI xs (j:Int)=some v:=by
 have hj:j<xs.length:=(za.mp h).1;have e:ixN xs.length (j:Int)=some j:=by
  unfold ixN;rw[if_pos (by lia),if_pos (by lia)];simp
 unfold atI;rw[e];exact h
def vb (b:Expr):Prop:=∀o i,subscripted b false o i=operate [o,i] (getItem o i)
def IxR (X:Cx) (r:R2):Prop:=
 ∀(value slice:Expr) (pins:List (Addr×Obj)) (s:Shared) (σ:St) (H:Hp) (x y:V) (v u:Value) (Q:VK),Inv X pins σ H s->RelV x v->RelV y u->r x y H Q->
  subscripted slice false v u=operate [v,u] (getItem v u)->wpAny (model X.prog X.w) X.A (subscriptTail value slice v u) (EP X pins σ Q) X.xe s
def MtR (X:Cx) (id:String) (r:V->List V->Hp->VK->Prop):Prop:=
 ∀(pins:List (Addr×Obj)) (s:Shared) (σ:St) (H:Hp) (x:V) (xs:List V) (v:Value) (us:List Value) (Q:VK),Inv X pins σ H s->RelV x v->Vals xs us->r x xs H Q->
  wpAny (model X.prog X.w) X.A (call (.builtin id) (v::us)) (EP X pins σ Q) X.xe s
section
variable {a b:Expr} {ta tb:TE}
theorem bu {r:R2} (hr:IxR X r) (ha:PE X a ta) (hb:PE X b tb) (hs:vb b):PE X (.Subscript a b pos) (tOp r ta tb):=by
 intro pins s σ H Q I h;exact Subscript_ (wQ ha hb I h λv u s2 x y H2 I2 rx ry q=>hr a b pins s2 σ H2 x y v u Q I2 rx ry q (hs _ _))
def rIxL (K:PySem.W.Frag):R2:=λx y H Q=>∃p xs i v,x= .ref p/\y= .int i/\SqL K H p xs/\atI xs i=some v/\Q v H
def rIxT (K:PySem.W.Frag):R2:=λx y H Q=>∃p xs i v,x= .ref p/\y= .int i/\SqT K H p xs/\atI xs i=some v/\Q v H
def rIxS:R2:=λx y H Q=>∃z i c,x= .str z/\y= .int i/\z.length<=sizeLine/\atI z.cps.toList i=some c/\Q (.str ⟨#[c]⟩) H
theorem aP:IxR X (rIxL X.K):=by
 intro value slice pins s σ H x y v u Q I rx ry h hs;obtain⟨p,xs,i,z,rfl,rfl,hq,he,q⟩:=h;cases rx;obtain⟨t,rfl⟩:=ry;obtain⟨its,r,pl,hz⟩:=I.list hq;obtain⟨j,h1,h2,h3,h4,h5⟩:=mQ he;obtain⟨w,ew,rw'⟩:=r.get h2;have hl:=r.length;have hn:=gN;have fin:EP X pins σ Q w s:=⟨z,H,I,rw',q⟩;by_cases h0:0<=i
 .have hj:i.toNat=j:=by
   rw[seqIndex_of h0 h5]at h1;exact Option.some.inj h1
  exact item_listR pl.isList h0 (by lia) (by rw[hj];simpa using ew) fin hs
 .have hj:(i+(its.toArray.size:Int)).toNat=j:=by
   rw[seqIndex_neg (by lia) h4]at h1;rw[zm,<-hl];exact Option.some.inj h1
  exact subscriptTail_builtinR (x:=w) pl.isList.typeIs slot_list_getitem.lookup
   (wpAny_getItem_list_neg (Q:=λr s'=>r=w/\EP X pins σ Q r s') pl.isList (by lia) (by rw[zm]<;>lia) (by lia) (by rw[hj];simpa using ew) ⟨rfl,fin⟩) hs
theorem wA:IxR X (rIxT X.K):=by
 intro value slice pins s σ H x y v u Q I rx ry h hs;obtain⟨p,xs,i,z,rfl,rfl,hq,he,q⟩:=h;cases rx;obtain⟨t,rfl⟩:=ry;obtain⟨its,r,pl,hz⟩:=I.tuple hq;obtain⟨j,h1,h2,h3,h4,h5⟩:=mQ he;obtain⟨w,ew,rw'⟩:=r.get h2;have hl:=r.length;have hn:=gN;have fin:EP X pins σ Q w s:=⟨z,H,I,rw',q⟩;exact subscriptTail_builtinR (x:=w) pl.typeIs slot_tuple_getitem.lookup
  (getItem_tuple (j:=j) (Q:=λr s'=>r=w/\EP X pins σ Q r s') pl (by lia) (by lia) (by rw[zm,<-hl];exact h1) (by simpa using ew) ⟨rfl,fin⟩) hs
theorem wB:IxR X rIxS:=by
 intro value slice pins s σ H x y v u Q I rx ry h hs;obtain⟨z,i,c,rfl,rfl,hz,he,q⟩:=h;obtain⟨t,rfl⟩:=rx;obtain⟨t',rfl⟩:=ry;obtain⟨j,h1,h2,h3,h4,h5⟩:=mQ he;have hl:z.cps.toList.length=z.length:=by simp[Str.length]
 rw[hl]at h1 h4 h5;have hn:=gN;exact tail_any (typeIs_str s z t) slot_str_getitem.lookup (getItem_str (c:=c) (by
  have e1:decide (i< -(2^63:Int))=false:=decide_eq_false (by lia);have e2:decide (i>=2^63)=false:=decide_eq_false (by lia);rw[e1,e2,Bool.or_false]) (by rw[h1];simpa using h2) ⟨.str ⟨#[c]⟩,H,I.tok _,⟨_,rfl⟩,q⟩) hs
theorem oZ (its:List Value) (n j:Nat) (u:Value):Obj.mapSeq (·.setIfInBounds j u) {cls:= .type "list",data:= .seq its.toArray n}={cls:= .type "list",data:= .seq (its.set j u).toArray n}:=by
 simp[Obj.mapSeq]
theorem Inv.lst {pins:List (Addr×Obj)} {σ:St} {H:Hp} {s:Shared} {p:Addr} {xs:List V} (I:Inv X pins σ H s) (h:H p=some (.lst xs)):
  ∃(its:List Value) (n:Nat),Vals xs its/\s.heap.get? p=some {cls:= .type "list",data:= .seq its.toArray n}/\xs.length<=sizeLine:=by
 obtain⟨z,its,n,r,e⟩:=I.hok p _ h;exact⟨its,n,r,e,z⟩
theorem Inv.lstUpd {p:Addr} {xs ys:List V} {n':Nat} {f:Obj->Obj} (I:Inv X pins σ H s) (h:H p=some (.lst xs))
  (ho:s.heap.get? p=some {cls:= .type "list",data:= .seq its.toArray n}) (hf:f {cls:= .type "list",data:= .seq its.toArray n}={cls:= .type "list",data:= .seq its'.toArray n'}) (r:Vals ys its') (hz:ys.length<=sizeLine) (t:Nat):
  Inv X pins σ (upd H p (.lst ys)) {s with heap:=s.heap.update p f,toks:=t}:=by
 have e:(s.heap.update p f).get? p=some {cls:= .type "list",data:= .seq its'.toArray n'}:=by
  rw[Heap.get?_update_self f ho (by rw[hf]<;>rfl),hf]
 refine I.write (x:=p) (e:=p) (by rw[h];trivial) (.inl rfl) (λb u hb q=>(Heap.get?_update_other _ _ (Ne.symm hb)).trans q) ⟨_,e⟩ ?_;exact⟨hz,its',n',r,e⟩
def xo:V->V->V->Hp->(Hp->Prop)->Prop:=λo i v H Q=>∃p xs k j,o= .ref p/\i= .int k/\H p=some (.lst xs)/\ixN xs.length k=some j/\Q (upd H p (.lst (xs.set j v)))
theorem m5:PSet X xo:=by
 intro pins s σ H o i v ov iv u Q I ro ri rv h;obtain⟨p,xs,k,j,rfl,rfl,hp,hj,q⟩:=h;cases ro;obtain⟨t,rfl⟩:=ri;obtain⟨its,n,r,ho,hz⟩:=I.lst hp;obtain⟨h1,h2,h3,h4⟩:=pY hj;have hl:=r.length;have hn:=gN;have I':Inv X pins σ (upd H p (.lst (xs.set j v))) {s with heap:=s.heap.update p (Obj.mapSeq (·.setIfInBounds j u))}:=
  I.lstUpd hp ho (oZ its n j u) (r.set rv j) (by rw[zL];exact hz) s.toks
 by_cases h0:0<=k
 .have hk:k.toNat=j:=by
   rw[seqIndex_of h0 h4]at h1;exact Option.some.inj h1
  exact PySem.W.ki_setAt ho h0 (by lia) (by rw[zm,<-hl];exact h4) (by rw[hk];exact⟨_,I',q⟩)
 .have hk:(k+(its.toArray.size:Int)).toNat=j:=by
   rw[seqIndex_neg (by lia) h3]at h1;rw[zm,<-hl];exact Option.some.inj h1
  exact PySem.W.ki_setBack ho (by lia) (by rw[zm,<-hl];exact h3) (by lia) (by rw[hk];exact⟨_,I',q⟩)
theorem l0 (lo hi:Option Int) (n:Nat):(sliceBounds lo hi none n).1=((HT.sIx n 0 lo:Nat):Int)/\(sliceBounds lo hi none n).2.1=((HT.sIx n n hi:Nat):Int)/\(sliceBounds lo hi none n).2.2=1:=by
 refine⟨?_,?_,rfl⟩
 .cases lo with
  |none=>simp[sliceBounds,HT.sIx]
  |some i=>
   simp only[sliceBounds,HT.sIx,Option.getD_none,show(1:Int)>0 by decide,if_true];by_cases h:i<0
   .simp only[h,if_true]<;>lia
   .simp only[h,if_false]<;>lia
 .cases hi with
  |none=>simp[sliceBounds,HT.sIx]
  |some i=>
   simp only[sliceBounds,HT.sIx,Option.getD_none,show(1:Int)>0 by decide,if_true];by_cases h:i<0
   .simp only[h,if_true]<;>lia
   .simp only[h,if_false]<;>lia
theorem kD (its:List Value) (lo hi:Option Int):slicePick its.toArray lo hi none=((its.drop (HT.sIx its.length 0 lo)).take (HT.sIx its.length its.length hi-HT.sIx its.length 0 lo)).toArray:=by
 obtain⟨h1,h2,h3⟩:=l0 lo hi its.toArray.size;unfold slicePick;rw[h1,h2,h3];simp only[sliceRange_one,pick_run,zm]<;>rfl
def rSlL (K:PySem.W.Frag):V->Option Int->Option Int->Hp->VK->Prop:=λx lo hi H Q=>∃a xs,x= .ref a/\SqL K H a xs/\∀p,H p=none->Q (.ref p) (upd H p (.lst (c8 xs lo hi)))
theorem a8:SlR X (rSlL X.K):=by
 intro pins s σ H x v vl vu lo hi sl Q I rx hs pl pu h;obtain⟨a,xs,rfl,hx,q⟩:=h;cases rx;obtain⟨its,r,ht,hz⟩:=I.list hx;have hlen:=r.length;refine⟨"list",_,slot_list_getitem.lookup,ht.isList.typeIs,?_⟩;refine wpAny_getItem_list_slice ht.isList hs pl pu .none (by simp) ?_ (by rw[zm]<;>lia);rw[kD,<-hlen];refine⟨.ref s.heap.objs.size,_,I.laid (t':=s.toks) (o:= .lst (c8 xs lo hi)) (λb ob q=>Heap.get?_push_of_some _ q) (zg _) ?_,rfl,q _ (I.hok.fresh (zg _))⟩;exact⟨zC (oe xs lo hi) hz,_,0,(r.drop (HT.sIx xs.length 0 lo)).take (HT.sIx xs.length xs.length hi-HT.sIx xs.length 0 lo),Heap.get?_push_size _ rfl⟩
def hW:V->Bool
 | .non=>true
 | .bl _=>true
 | .int _=>true
 | .str _=>true
 |_=>false
def eqV:V->V->Bool
 | .non,.non=>true
 | .bl a,.bl b=>a==b
 | .bl a,.int b=>(if a then 1 else 0)==b
 | .int a,.bl b=>a==(if b then 1 else 0)
 | .int a,.int b=>a==b
 | .str a,.str b=>a==b
 |_,_=>false
theorem wL (ry:RelV y u) (rx:RelV x v) (fy:hW y=true) (fx:hW x=true):SeqAt.EqAt A s u v (eqV y x):=by
 cases y with
 |non=>
  cases ry;cases x with
  |non=>cases rx;exact SeqAt.EqAt.same _
  |bl b=>cases rx;exact SeqAt.EqAt.none_bool b
  |int b=>obtain⟨t,rfl⟩:=rx;exact SeqAt.EqAt.none_int b t
  |str b=>obtain⟨t,rfl⟩:=rx;exact SeqAt.EqAt.none_str b t
  |_=>exact absurd (show false=true from fx) zb
 |bl a=>
  cases ry;cases x with
  |non=>cases rx;exact SeqAt.EqAt.bool_none a
  |bl b=>cases rx;exact SeqAt.EqAt.bool_bool a b
  |int b=>obtain⟨t,rfl⟩:=rx;exact SeqAt.EqAt.bool_int a b t
  |str b=>obtain⟨t,rfl⟩:=rx;exact SeqAt.EqAt.bool_str a b t
  |_=>exact absurd (show false=true from fx) zb
 |int a=>
  obtain⟨t',rfl⟩:=ry;cases x with
  |non=>cases rx;exact SeqAt.EqAt.int_none a t'
  |bl b=>cases rx;exact SeqAt.EqAt.int_bool a t' b
  |int b=>obtain⟨t,rfl⟩:=rx;exact SeqAt.EqAt.int_int a t' b t
  |str b=>obtain⟨t,rfl⟩:=rx;exact SeqAt.EqAt.int_str a t' b t
  |_=>exact absurd (show false=true from fx) zb
 |str a=>
  obtain⟨t',rfl⟩:=ry;cases x with
  |non=>cases rx;exact SeqAt.EqAt.str_none a t'
  |bl b=>cases rx;exact SeqAt.EqAt.str_bool a t' b
  |int b=>obtain⟨t,rfl⟩:=rx;exact SeqAt.EqAt.str_int a t' b t
  |str b=>obtain⟨t,rfl⟩:=rx;exact SeqAt.EqAt.str_str a t' b t
  |_=>exact absurd (show false=true from fx) zb
 |_=>exact absurd (show false=true from fy) zb
def eqU (x:V) (u:Value):Bool:=match u with
 | .none=>eqV .non x
 | .bool b=>eqV (.bl b) x
 | .int i _=>eqV (.int i) x
 | .str z _=>eqV (.str z) x
 |_=>false
theorem sM (r:RelV y u) (f:hW y=true):eqU x u=eqV y x:=by
 cases y with
 |non=>cases r;rfl
 |bl b=>cases r;rfl
 |int i=>obtain⟨t,rfl⟩:=r;rfl
 |str z=>obtain⟨t,rfl⟩:=r;rfl
 |_=>exact absurd (show false=true from f) zb
theorem mS {x:V}:∀{xs:List V} {us:List Value},Vals xs us->xs.all hW=true->us.any (eqU x)=xs.any λy=>eqV y x
 |_,_,.nil,_=>rfl
 |y::xs,u::us,.cons r t,f=>by
  rw[List.all_cons,zw]at f;rw[yN,yN,sM r f.1,mS t f.2]
theorem j8 {A:Around} {s:Shared} {x:V} {v:Value} (rx:RelV x v) (fx:hW x=true):∀{xs:List V} {us:List Value},Vals xs us->xs.all hW=true->∀u∈us,SeqAt.EqAt A s u v (eqU x u)
 |_,_,.nil,_=>λu hu=>by cases hu
 |y::xs,u::us,.cons r t,f=>λu' hu=>by
  rw[List.all_cons,zw]at f;rcases zh.mp hu with rfl|hu
  .rw[sM r f.1];exact wL r rx f.1 fx
  .exact j8 rx fx t f.2 u' hu
def inV (x:V) (xs:List V):Bool:=xs.any λy=>eqV y x
def rIn (K:PySem.W.Frag) (neg:Bool):R2:=λx y H Q=>∃p xs,y= .ref p/\(SqL K H p xs\/SqT K H p xs)/\hW x=true/\xs.all hW=true/\Q (.bl (if neg then !inV x xs else inV x xs)) H
theorem qB:OpR X (compareOp .In) (rIn X.K false):=by
 intro pins s σ H x y v u Q I rx ry h;obtain⟨p,xs,rfl,hq,fx,fs,q⟩:=h;cases ry;rcases hq with hq|hq
 .obtain⟨its,r,pl,hz⟩:=I.list hq;refine SeqAt.in_listAt (eqU x) pl.isList (λw hw=>j8 rx fx r fs w (by simpa using hw)) ⟨.bl _,H,I,rfl,?_⟩;rw[show its.toArray.any (eqU x)=its.any (eqU x) by simp,mS r fs];exact q
 .obtain⟨its,r,pl,hz⟩:=I.tuple hq;refine SeqAt.in_tupleAt (eqU x) pl (λw hw=>j8 rx fx r fs w (by simpa using hw)) ⟨.bl _,H,I,rfl,?_⟩;rw[show its.toArray.any (eqU x)=its.any (eqU x) by simp,mS r fs];exact q
theorem ax:fW X (.builtin "len") (λxs H Q=>∃p ys,xs=[.ref p]/\(SqL X.K H p ys\/SqT X.K H p ys)/\Q (.int ys.length) H):=by
 intro pins s σ H xs us Q I r h;obtain⟨p,ys,rfl,hq,q⟩:=h;obtain⟨u,rfl,rx⟩:=mV r;cases rx;have hn:=gN;rcases hq with hq|hq
 .obtain⟨its,r',pl,hz⟩:=I.list hq;have hlen:=r'.length;exact Calls.call_len_list pl.isList (by simp only[zm]<;>lia) ⟨.int ys.length,H,I.tok _,⟨s.toks+1,by rw[zm,hlen]⟩,q⟩
 .obtain⟨its,r',pl,hz⟩:=I.tuple hq;have hlen:=r'.length;exact len_tuple pl (by simp only[zm]<;>lia) ⟨.int ys.length,H,I.tok _,⟨s.toks+1,by rw[zm,hlen]⟩,q⟩
theorem hZ:fW X (.builtin "len") (λxs H Q=>∃z,xs=[.str z]/\z.length<=sizeLine/\Q (.int z.length) H):=by
 intro pins s σ H xs us Q I r h;obtain⟨z,rfl,hz,q⟩:=h;obtain⟨u,rfl,t,rfl⟩:=mV r;have hn:=gN;exact len_str (by lia) ⟨.int z.length,H,I.tok _,⟨_,rfl⟩,q⟩
def tyV (K:PySem.W.Frag) (T:String) (x:V) (H:Hp):Prop:=match x with
 | .str _=>T="str"
 | .int _=>T="int"
 | .ref p=>(T="list"/\∃xs,SqL K H p xs)\/(T="tuple"/\∃o,K.lookup p=some o/\o.cls= .type "tuple"/\o.dict=none)\/
   (T="dict"/\((∃kvs,H p=some (.dK kvs))\/∃kvs,H p=some (.dT kvs)))\/(T="set"/\∃S n,H p=some (.set S n))
 |_=>False
theorem rC (I:Inv X pins σ H s) (r:RelV x v) (ty:tyV X.K T x H):
  s.TypeIs v T/\∀a,v= .ref a->∃ob,s.heap.get? a=some ob/\ob.dict=none:=by
 cases x with
 |str z=>
  obtain⟨t,rfl⟩:=r;cases (show T="str" from ty);exact⟨typeIs_str s z t,λ_ e=>nomatch e⟩
 |int i=>
  obtain⟨t,rfl⟩:=r;cases (show T="int" from ty);exact⟨typeIs_int s i t,λ_ e=>nomatch e⟩
 |ref p=>
  cases r;rcases ty with⟨rfl,xs,hq⟩|⟨rfl,o,hk,hc,hd⟩|⟨rfl,hk⟩|⟨rfl,S,n,hk⟩
  .obtain⟨its,_,pl,_⟩:=I.list hq;refine⟨pl.isList.typeIs,λa e=>?_⟩;cases e;obtain⟨o,n,e,c,hd,_⟩:=pl;exact⟨o,e,hd⟩
  .refine⟨⟨o,I.kIn p o hk,hc⟩,λa e=>?_⟩;cases e;exact⟨o,I.kIn _ o hk,hd⟩
  .have z:∃o,s.heap.get? p=some o/\o.ExactDict:=by
    rcases hk with⟨kvs,hk⟩|⟨kvs,hk⟩
    .obtain⟨_,_,_,_,o,_,_,e,ex,_⟩:=I.hok p _ hk;exact⟨o,e,ex⟩
    .obtain⟨_,_,_,_,o,_,_,e,ex,_⟩:=I.hok p _ hk;exact⟨o,e,ex⟩
   obtain⟨o,e,ex⟩:=z;refine⟨⟨o,e,ex.1⟩,λa e2=>?_⟩;cases e2;exact⟨o,e,ex.2.1⟩
  .obtain⟨o,_,_,_,e,ex,_⟩:=I.hok p _ hk;refine⟨⟨o,e,ex.1⟩,λa e2=>?_⟩;cases e2;exact⟨o,e,ex.2.1⟩
 |_=>exact False.elim ty
def tBM0 (K:PySem.W.Frag) (T:String) (r:V->List V->Hp->VK->Prop) (to:TE):TE:=λσ H Q=>to σ H λx H1=>tyV K T x H1/\r x [] H1 Q
def tBM (K:PySem.W.Frag) (T:String) (r:V->List V->Hp->VK->Prop) (to:TE) (t:TA):TE:=λσ H Q=>to σ H λx H1=>tyV K T x H1/\t σ H1 λxs H2=>r x xs H2 Q
variable {o:Expr} {es:List Expr} {to:TE} {t:TA} {name:Str} {apos cpos:Pos} {id:String} {r:V->List V->Hp->VK->Prop}
theorem wg (pa:PlainAttrs T) (slot:Slot T name id) (hty:typeOf (.builtin id)=pure (.type "method_descriptor")) (hm:MtR X id r) (ho:PE X o to)
  (hbase:attributeBase o name X.env (eval o X.env)=eval o X.env:=by rfl) (hline:(apos.endLine==cpos.line)=true:=by rfl):PE X (.Call (.Attribute o name apos) [] [] cpos) (tBM0 X.K T r to):=by
 intro pins s σ H Q I h;refine wpAny_Call_method0_late hbase hline (thn (ho pins s σ H _ I h) λv s1 hzz=>?_);obtain⟨x,H1,I1,r1,ty,q1⟩:=hzz;obtain⟨h1,h2⟩:=rC I1 r1 ty;exact⟨T,id,pa,slot,hty,h1,h2,Calls.callWith_builtin rfl (PySem.evalArgs_none (hm pins s1 σ H1 x [] v [] Q I1 r1 .nil q1))⟩
theorem bW (pa:PlainAttrs T) (slot:Slot T name id) (hty:typeOf (.builtin id)=pure (.type "method_descriptor")) (hm:MtR X id r) (ho:PE X o to) (ha:PA X (e::es) t)
  (hbase:attributeBase o name X.env (eval o X.env)=eval o X.env:=by rfl)
  (hfew:((backTo cpos (starEach (e::es) X.env)).all (λx=>!x.1)&&(backToKw cpos (keywordEach [] X.env)).all (λx=>x.1.isSome)
   &&decide ((e::es).length+([]:List Keyword).length+(if([]:List Keyword).isEmpty then 0 else 1)<30))=true:=by rfl)
  (hline:(apos.endLine==cpos.line)=true:=by rfl) (hs:starEach (e::es) X.env=(false,eval e X.env)::starEach es X.env:=by rfl) (hplain:(backTo cpos (starEach es X.env)).any (·.1)=false:=by rfl):
  PE X (.Call (.Attribute o name apos) (e::es) [] cpos) (tBM X.K T r to t):=by
 intro pins s σ H Q I h;refine wpAny_Call_method_late hbase hfew hline rfl (thn (ho pins s σ H _ I h) λv s1 hzz=>?_);obtain⟨x,H1,I1,r1,ty,q1⟩:=hzz;obtain⟨h1,h2⟩:=rC I1 r1 ty;refine⟨T,id,pa,slot,hty,h1,h2,?_⟩;have hA:=ha cpos pins s1 σ H1 _ I1 q1;rw[hs]at hA⊢;refine Calls.callWith_builtin (by show(false||(backTo cpos (starEach es X.env)).any (·.1))=false;rw[hplain]<;>rfl) (Calls.evalArgs_plain ?_);exact thn hA λus s2 ⟨vs,H2,I2,r2,q2⟩=>hm pins s2 σ H2 x vs v us Q I2 r1 r2 q2
end
end
section
def MtM (X:Cx) (id:String) (r:V->List V->Hp->VK->Prop):Prop:=
 ∀(pins:List (Addr×Obj)) (s:Shared) (σ:St) (H:Hp) (x:V) (xs:List V) (v:Value) (us:List Value) (Q:VK),Inv X pins σ H s->RelV x v->Vals xs us->r x xs H Q->
  wpAny (model X.prog X.w) X.A (call (.builtin id) (v::us)) (EP X pins σ Q) X.xe s
theorem Vals.one:∀{x:V} {us:List Value},Vals [x] us->∃u,us=[u]/\RelV x u
 |_,_,.cons r .nil=>⟨_,rfl,r⟩
theorem Vals.two:∀{x y:V} {us:List Value},Vals [x,y] us->∃u v,us=[u,v]/\RelV x u/\RelV y v
 |_,_,_,.cons r (.cons q .nil)=>⟨_,_,rfl,r,q⟩
section
variable {l:Addr} {xs ys zs:List V}
theorem Inv.lset {f:Array Value->Array Value} (I:Inv X pins σ H s) (hH:H l=some (.lst xs))
  (e:s.heap.get? l=some {cls:= .type "list",data:= .seq its.toArray n}) (hf:f its.toArray=its'.toArray) (hv:Vals ys its') (hz:ys.length<=sizeLine):
  Inv X pins σ (upd H l (.lst ys)) {s with heap:=s.heap.update l (Obj.mapSeq f),toks:=t'}:=by
 have q:=PySem.IsL.update e f;rw[hf]at q;refine I.write (x:=l) (e:=l) (by rw[hH];exact trivial) (.inl rfl) (λb' u hb hu=>(Heap.get?_update_other s.heap (Obj.mapSeq f) (Ne.symm hb)).trans hu) ⟨_,q⟩ ?_;exact⟨hz,its',_,hv,q⟩
theorem Inv.lnew (I:Inv X pins σ H s) (hv:Vals ys its) (hz:ys.length<=sizeLine):
  Inv X pins σ (upd H s.heap.objs.size (.lst ys)) {s with heap:=s.heap.push {cls:= .type "list",data:= .seq its.toArray},toks:=t'}:=
 I.laid (λ_ _ q=>Heap.get?_push_of_some _ q) (zg _) ⟨hz,its,0,hv,Heap.get?_push_size _ rfl⟩
theorem Inv.fresh (I:Inv X pins σ H s):H s.heap.objs.size=none:=I.hok.fresh (zg _)
theorem Inv.lstM (I:Inv X pins σ H s) (hH:H l=some (.lst xs)):xs.length<=sizeLine/\∃(its:List Value) (n:Nat),Vals xs its/\xs.length=its.length/\s.heap.get? l=some {cls:= .type "list",data:= .seq its.toArray n}:=by
 obtain⟨z,its,n,r,e⟩:=I.hok l _ hH;exact⟨z,its,n,r,r.length,e⟩
theorem sf (h:n<=sizeLine):Builtin.List.listTooLong n=false:=by
 unfold Builtin.List.listTooLong;exact decide_eq_false (by lia)
end
section
def ur:V->List V->Hp->VK->Prop:=λx vs H Q=>∃l xs y,x= .ref l/\vs=[y]/\H l=some (.lst xs)/\xs.length<sizeLine/\Q .non (upd H l (.lst (xs++ [y])))
theorem cn:MtM X "list.append" ur:=by
 intro pins s σ H x vs v us Q I rx rv h;obtain⟨l,xs,y,rfl,rfl,hH,hz,q⟩:=h;cases rx;obtain⟨u,rfl,ru⟩:=rv.one;obtain⟨z,its,n,r,hl,e⟩:=I.lstM hH;refine call_meets F.slot_list_append ⟨_,e,rfl⟩ F.entry_list_append (F.args_list_append_2 _ _) (PySem.list_append l its.toArray n u (by rw[zm];lia)) ⟨e,?_⟩;refine⟨.non,_,I.lset (its':=its++ [u]) hH e (by simp) (r.append (.cons ru .nil)) ?_,rfl,q⟩;rw[zk,yL];lia
def uq:V->List V->Hp->VK->Prop:=λx vs H Q=>∃l b xs zs,x= .ref l/\vs=[.ref b]/\H l=some (.lst xs)/\H b=some (.lst zs)/\xs.length+zs.length<=sizeLine/\Q .non (upd H l (.lst (xs++zs)))
theorem qH:MtM X "list.extend" uq:=by
 intro pins s σ H x vs v us Q I rx rv h;obtain⟨l,b,xs,zs,rfl,rfl,hH,hB,hz,q⟩:=h;cases rx;obtain⟨u,rfl,ru⟩:=rv.one;cases ru;obtain⟨z,its,n,r,hl,e⟩:=I.lstM hH;obtain⟨z2,its2,n2,r2,hl2,e2⟩:=I.lstM hB;have hsz:its.toArray.size+its2.toArray.size<=sizeLine:=by rw[zm,zm];lia
 have hlong:¬(!its.toArray.isEmpty&&Builtin.List.listTooLong (its.toArray.size+its2.toArray.size))=true:=by
  rw[sf hsz,yv];exact zb
 refine call_meets F.slot_list_extend ⟨_,e,rfl⟩ F.entry_list_extend (F.args_list_extend_2 _ _)
  (AutoSeq1.list_extend_list_list_0 l its.toArray n b its2.toArray n2 hlong (by rw[zm];lia) (by lia)) ⟨e,e2,?_⟩
 refine⟨.non,_,I.lset (its':=its++its2) hH e (by simp) (r.append r2) ?_,rfl,q⟩;rw[zk];lia
def rCat:R2:=λx y H Q=>∃l b xs zs,x= .ref l/\y= .ref b/\H l=some (.lst xs)/\H b=some (.lst zs)/\xs.length+zs.length<=sizeLine/\∀p,H p=none->Q (.ref p) (upd H p (.lst (xs++zs)))
theorem b6:OpR X (binaryOp .Add) rCat:=by
 intro pins s σ H x y v u Q I rx ry h;obtain⟨l,b,xs,zs,rfl,rfl,hH,hB,hz,q⟩:=h;cases rx;cases ry;obtain⟨z,its,n,r,hl,e⟩:=I.lstM hH;obtain⟨z2,its2,n2,r2,hl2,e2⟩:=I.lstM hB;refine PySem.P.add_list e e2 ?_ (by rw[zm,zm];lia);have ea:its.toArray++its2.toArray=(its++its2).toArray:=by simp
 rw[ea];exact⟨.ref _,_,I.lnew (t':=s.toks) (r.append r2) (by rw[zk];lia),rfl,q _ I.fresh⟩
end
end
section
section
variable {κ:Type} [DecidableEq κ]
def aJ (kvs:List (κ×V)) (k:κ):Option V:=(kvs.find? λkv=>decide (kv.1=k)).map (·.2)
def bb (kvs:List (κ×V)) (k:κ) (v:V):List (κ×V):=
 if(kvs.any λkv=>decide (kv.1=k))=true then kvs.map (λkv=>if kv.1=k then(kv.1,v)else kv)else kvs++ [(k,v)]
theorem jj {k:κ}:aJ ([]:List (κ×V)) k=none:=rfl
theorem a9 {p:κ×V} {r:List (κ×V)} {k:κ} (e:p.1=k):aJ (p::r) k=some p.2:=by simp[aJ,yF,e]
theorem ba {p:κ×V} {r:List (κ×V)} {k:κ} (e:¬p.1=k):aJ (p::r) k=aJ r k:=by simp[aJ,yF,e]
theorem bF (k:κ):∀kvs:List (κ×V),(kvs.any λkv=>decide (kv.1=k))=(aJ kvs k).isSome
 | []=>rfl
 |p::r=>by
  rw[yN];by_cases e:p.1=k
  .simp only[a9 e,decide_eq_true e,Bool.true_or,Option.isSome_some]
  .rw[ba e,decide_eq_false e,Bool.false_or];exact bF k r
theorem mW (k j:κ) (y:V):∀kvs:List (κ×V),aJ (kvs.map λkv=>if kv.1=k then(kv.1,y)else kv) j=(aJ kvs j).map λx=>if j=k then y else x
 | []=>rfl
 |p::r=>by
  have ih:=mW k j y r;rw[zr];by_cases h:p.1=k
  .rw[if_pos h];by_cases e:p.1=j
   .rw[a9 (p:=(p.1,y)) e,a9 e,Q6,if_pos (e.symm.trans h)]
   .rw[ba (p:=(p.1,y)) e,ba e,ih]
  .rw[if_neg h];by_cases e:p.1=j
   .rw[a9 (p:=p) e,a9 e,Q6,if_neg (λz=>h (e.trans z))]
   .rw[ba (p:=p) e,ba e,ih]
theorem kW (k j:κ) (y:V):∀kvs:List (κ×V),aJ kvs k=none->aJ (kvs++ [(k,y)]) j=if j=k then some y else aJ kvs j
 | [],_=>by
  by_cases e:k=j
  .rw[if_pos e.symm];exact a9 (p:=(k,y)) e
  .rw[if_neg (λz=>e z.symm)];exact ba (p:=(k,y)) e
 |p::r,hn=>by
  rw[List.cons_append];have hk:¬p.1=k:=λz=>by rw[a9 z]at hn;cases hn
  rw[ba hk]at hn;have ih:=kW k j y r hn;by_cases e:p.1=j
  .rw[a9 e,a9 e,if_neg (λz=>hk (e.trans z))]
  .rw[ba e,ba e,ih]
theorem bZ (kvs:List (κ×V)) (k j:κ) (y:V):aJ (bb kvs k y) j=if j=k then some y else aJ kvs j:=by
 unfold bb;by_cases a:(kvs.any λkv=>decide (kv.1=k))=true
 .rw[if_pos a,mW];rw[bF]at a;by_cases e:j=k
  .obtain⟨x,hx⟩:=Option.isSome_iff_exists.mp a;rw[if_pos e,e,hx,Q6,if_pos rfl]
  .rw[if_neg e];cases aJ kvs j with
   |none=>rfl
   |some x=>rw[Q6,if_neg e]
 .rw[if_neg a];refine kW k j y kvs ?_;rw[bF]at a;cases q:aJ kvs k with
  |none=>rfl
  |some x=>rw[q]at a;exact(a rfl).elim
theorem cx (kvs:List (κ×V)) (k:κ) (v:V):(bb kvs k v).length<=kvs.length+1:=by
 unfold bb;split
 .rw[z8];lia
 .rw[zk,zp,List.length_nil];lia
theorem ni {kvs:List (κ×V)} {k:κ} (v:V) (h:aJ kvs k=none):bb kvs k v=kvs++ [(k,v)]:=by
 unfold bb;rw[bF,h];exact if_neg (by decide)
theorem RelO.isSome_eq {u:Option Value} (r:RelO o u):o.isSome=u.isSome:=by
 cases o with
 |none=>cases u with
  |none=>rfl
  |some _=>exact(show False from r).elim
 |some _=>cases u with
  |none=>exact(show False from r).elim
  |some _=>rfl
theorem KV.val {kvs:List (κ×V)} {vs:List (κ×Value)} (r:KV kvs vs) (k:κ):RelO (aJ kvs k) (valueAt vs k):=by
 unfold KV at r
 induction r with
 |nil=>exact True.intro
 | @cons p q ps qs h t ih=>
  obtain⟨h1,h2⟩:=h;by_cases e:p.1=k
  .have e':q.1=k:=h1.symm.trans e;have b:valueAt (q::qs) k=some q.2:=by simp[valueAt,yF,e']
   rw[a9 e,b];exact h2
  .have e':¬q.1=k:=λz=>e (h1.trans z);have b:valueAt (q::qs) k=valueAt qs k:=by simp[valueAt,yF,e']
   rw[ba e,b];exact ih
theorem KV.any {kvs:List (κ×V)} {vs:List (κ×Value)} (r:KV kvs vs) (k:κ):(kvs.any λkv=>decide (kv.1=k))=vs.any λkv=>decide (kv.1=k):=by
 unfold KV at r
 induction r with
 |nil=>rfl
 |cons h t ih=>rw[yN,yN,ih,h.1]
theorem KV.repl {kvs:List (κ×V)} {vs:List (κ×Value)} (r:KV kvs vs) (k:κ) (ry:RelV y u):
  KV (kvs.map λkv=>if kv.1=k then(kv.1,y)else kv) (vs.map λkv=>if kv.1=k then(kv.1,u)else kv):=by
 unfold KV at r⊢
 induction r with
 |nil=>exact .nil
 | @cons p q ps qs h t ih=>
  rw[zr,zr];refine .cons ?_ ih;obtain⟨h1,h2⟩:=h;by_cases e:p.1=k
  .rw[if_pos e,if_pos (h1.symm.trans e)];exact⟨h1,ry⟩
  .rw[if_neg e,if_neg (λz=>e (h1.trans z))];exact⟨h1,h2⟩
theorem KV.put {kvs:List (κ×V)} {vs:List (κ×Value)} (r:KV kvs vs) (k:κ) (ry:RelV y u):KV (bb kvs k y) (stored vs k u):=by
 unfold bb stored;rw[r.any k];by_cases e:(vs.any λkv=>decide (kv.1=k))=true
 .rw[if_pos e,if_pos e];exact r.repl k ry
 .rw[if_neg e,if_neg e];exact Paired.snoc r ⟨rfl,ry⟩
theorem KV.length {kvs:List (κ×V)} {vs:List (κ×Value)} (r:KV kvs vs):kvs.length=vs.length:=Paired.length r
end
theorem lH {k:Key} (r:RelV (kV k) u):(bn P w).is k u=true:=by
 cases k with
 |inl i=>obtain⟨t,e⟩:=(show ∃t,u=Value.int i t from r);subst e;exact nN P w i t
 |inr x=>obtain⟨t,e⟩:=(show ∃t,u=Value.str x t from r);subst e;exact nM P w x t
theorem lI {P:Program} {w:World}:∀{ks:List Key} {us:List Value},Vals (ks.map kV) us->ItemsAre (bn P w) ks us
 | [],_,r=>by rw[List.map_nil]at r;cases r;exact .nil
 |k::ks,_,r=>by
  rw[zr]at r;cases r with
  |cons h t=>exact .cons (lH h) (lI t)
abbrev KT (H:Hp):List (List Key×V)->List (List Key×Addr×Value)->Prop:=Paired λp q=>p.1=q.1/\H q.2.1=some (.tup (p.1.map kV))/\RelV p.2 q.2.2
theorem KT.val {kvs:List (List Key×V)} {xs:List (List Key×Addr×Value)} (r:KT H kvs xs) (k:List Key):RelO (aJ kvs k) ((atKey xs k).map (·.2)):=by
 induction r with
 |nil=>exact True.intro
 | @cons p q ps qs h t ih=>
  obtain⟨h1,_,h2⟩:=h;by_cases e:p.1=k
  .have e':q.1=k:=h1.symm.trans e;have b:atKey (q::qs) k=some q.2:=by simp[atKey,yF,e']
   rw[a9 e,b];exact h2
  .have e':¬q.1=k:=λz=>e (h1.trans z);have b:atKey (q::qs) k=atKey qs k:=by simp[atKey,yF,e']
   rw[ba e,b];exact ih
theorem KT.repl {kvs:List (List Key×V)} {xs:List (List Key×Addr×Value)} (r:KT H kvs xs) (k:List Key) (ry:RelV y u):
  KT H (kvs.map λkv=>if kv.1=k then(kv.1,y)else kv) (xs.map (putAt k u)):=by
 induction r with
 |nil=>exact .nil
 | @cons p q ps qs h t ih=>
  rw[zr,zr];refine .cons ?_ ih;obtain⟨h1,h2,h3⟩:=h;unfold putAt;by_cases e:p.1=k
  .rw[if_pos e,if_pos (h1.symm.trans e)];exact⟨h1,h2,ry⟩
  .rw[if_neg e,if_neg (λz=>e (h1.trans z))];exact⟨h1,h2,h3⟩
theorem KT.put {kvs:List (List Key×V)} {xs:List (List Key×Addr×Value)} (r:KT H kvs xs) (k:List Key) (hb:H b=some (.tup (k.map kV))) (ry:RelV y u):
  KT H (bb kvs k y) (storedH xs k b u):=by
 have e:(kvs.any λkv=>decide (kv.1=k))=(atKey xs k).isSome:=by
  rw[bF,(r.val k).isSome_eq,Qj]
 unfold bb storedH;rw[e];by_cases q:(atKey xs k).isSome=true
 .rw[if_pos q,if_pos q];exact r.repl k ry
 .rw[if_neg q,if_neg q];exact Paired.snoc r ⟨rfl,hb,ry⟩
theorem KT.keeps {kvs:List (List Key×V)} {xs:List (List Key×Addr×Value)} (r:KT H kvs xs) (ht:∀b ys,H b=some (.tup ys)->H' b=some (.tup ys)):KT H' kvs xs:=
 Paired.mapP r λ_ _ z=>⟨z.1,ht _ _ z.2.1,z.2.2⟩
section
variable {h:Heap}
theorem vx {u:HO} (ok:HOk P w H h) (e:Rd H a u):ObjOk P w H h a u:=e.ok ok
theorem nU (ok:HOk P w H h) (e:Rd H a (.dK kvs)):kvs.length<=sizeLine/\(a==sysModules)=false/\∃vs,KV kvs vs/\h.DictOf (bn P w) a vs:=
 show ObjOk P w H h a (.dK kvs) from vx ok e
theorem p9 (ok:HOk P w H h) (e:H a=some (.dK kvs)):kvs.length<=sizeLine/\(a==sysModules)=false/\∃vs,KV kvs vs/\h.DictOf (bn P w) a vs:=nU ok (.inl e)
theorem ke {ks:List Key} (ok:HOk P w H h) (e:H a=some (.tup (ks.map kV))):(tupleKind (bn P w)).is h ks a:=by
 obtain⟨_,its,r,o,h1,h2,n,h3⟩:=(show ObjOk P w H h a (.tup (ks.map kV)) from ok a _ e);exact⟨o,its.toArray,n,h1,h2,h3,by simpa using lI r⟩
theorem nS {kvs:List (List Key×V)} (ok:HOk P w H h) (e:Rd H a (.dT kvs)):kvs.length<=sizeLine/\(a==sysModules)=false/\
  ∃xs,KT H kvs xs/\h.DictOfH (tupleKind (bn P w)) a xs:=by
 obtain⟨z,y,xs,r,o,es,ep,h1,h2,h3,h4,h5⟩:=(show ObjOk P w H h a (.dT kvs) from vx ok e);refine⟨z,y,xs,r,o,es,ep,h1,h2,h3,h4,λx hx=>?_,h5⟩;have all:∀{l:List (List Key×V)} {m:List (List Key×Addr×Value)},KT H l m->∀x∈m,(tupleKind (bn P w)).is h x.1 x.2.1:=by
  intro l m q
  induction q with
  |nil=>intro x hx;exact nomatch hx
  | @cons p q ps qs hq t ih=>
   intro x hx;rcases zh.mp hx with e|hx
   .subst e;exact ke ok (by rw[<-hq.1];exact hq.2.1)
   .exact ih x hx
 exact all r x hx
theorem xJ {kvs:List (List Key×V)} (ok:HOk P w H h) (e:H a=some (.dT kvs)):kvs.length<=sizeLine/\(a==sysModules)=false/\
  ∃xs,KT H kvs xs/\h.DictOfH (tupleKind (bn P w)) a xs:=nS ok (.inl e)
end
def DGet (H:Hp) (a:Addr) (y:V) (r:Option V):Prop:=
 (∃kvs k,Rd H a (.dK kvs)/\y=kV k/\r=aJ kvs k)\/∃kvs k b,Rd H a (.dT kvs)/\y= .ref b/\H b=some (.tup (k.map kV))/\r=aJ kvs k
def DPut (H:Hp) (a:Addr) (y v:V) (H':Hp):Prop:=
 (∃kvs k,H a=some (.dK kvs)/\y=kV k/\kvs.length<sizeLine/\H'=upd H a (.dK (bb kvs k v)))\/
 ∃kvs k b,H a=some (.dT kvs)/\y= .ref b/\H b=some (.tup (k.map kV))/\kvs.length<sizeLine/\H'=upd H a (.dT (bb kvs k v))
theorem DGet.k {k:Key} (e:H a=some (.dK kvs)):DGet H a (kV k) (aJ kvs k):= .inl ⟨kvs,k,.inl e,rfl,rfl⟩
theorem DPut.k {k:Key} {v:V} (e:H a=some (.dK kvs)) (hl:kvs.length<sizeLine):DPut H a (kV k) v (upd H a (.dK (bb kvs k v))):= .inl ⟨kvs,k,e,rfl,hl,rfl⟩
section
variable {v:V} {r:Value}
theorem Inv.big (I:Inv X pins σ H s):sysModules<s.heap.objs.size:=by
 have h:mainGlobals<s.heap.objs.size:=(I.mod.glob.keeps I.bk).lt;exact Nat.lt_trans (by decide) h
theorem qY (hu:A.units+1<cLine) (I:Inv X pins σ H s) (g:DGet H a y (some v)) (ry:RelV y u) (h:∀w' s',Inv X pins σ H s'->RelV v w'->Q w' s'):
  wpAny (model X.prog X.w) A (getItem (.ref a) u) Q E s:=by
 rcases g with⟨kvs,k,e,ey,l⟩|⟨kvs,k,b,e,ey,eb,l⟩
 .subst ey;obtain⟨z,hd,vs,rel,dd⟩:=nU I.hok e;obtain⟨w',hw,rw'⟩:=RelO.some_of (v:=v) (o:=valueAt vs k) (by rw[l];exact rel.val k);exact wpAny_getItem_of (lH ry) dd.mapOf hw (h w' _ (I.tok _) rw')
 .subst ey;cases (show u=Value.ref b from ry);obtain⟨z,hd,xs,rel,dd⟩:=nS I.hok e;obtain⟨w',hw,rw'⟩:=RelO.some_of (v:=v) (o:=(atKey xs k).map (·.2)) (by rw[l];exact rel.val k);obtain⟨p,hp,hp2⟩:=zV.mp hw;refine wpAny_getItem_heap (tupleKind_room_in1 hu) (ke I.hok eb) dd hp ?_;rw[hp2];exact h w' _ (I.tok _) rw'
theorem d_in (hu:A.units+1<cLine) (I:Inv X pins σ H s) (g:DGet H a y o) (ry:RelV y u) (h:∀s',Inv X pins σ H s'->Q (.bool o.isSome) s'):
  wpAny (model X.prog X.w) A (compareOp .In u (.ref a)) Q E s:=by
 rcases g with⟨kvs,k,e,ey,l⟩|⟨kvs,k,b,e,ey,eb,l⟩
 .subst ey;obtain⟨z,hd,vs,rel,dd⟩:=nU I.hok e;refine wpAny_in_of (lH ry) hd dd.mapOf ?_;rw[<-(rel.val k).isSome_eq,<-l];exact h _ (I.tok _)
 .subst ey;cases (show u=Value.ref b from ry);obtain⟨z,hd,xs,rel,dd⟩:=nS I.hok e;refine wpAny_in_heap (tupleKind_room_in1 hu) (ke I.hok eb) hd dd ?_;have q:=(rel.val k).isSome_eq;rw[Qj]at q;rw[<-q,<-l];exact h _ (I.tok _)
theorem uV (hu:A.units+1<cLine) (I:Inv X pins σ H s) (g:DGet H a y o) (ry:RelV y u) (h:∀s',Inv X pins σ H s'->Q (.bool (!o.isSome)) s'):
  wpAny (model X.prog X.w) A (compareOp .NotIn u (.ref a)) Q E s:=by
 rcases g with⟨kvs,k,e,ey,l⟩|⟨kvs,k,b,e,ey,eb,l⟩
 .subst ey;obtain⟨z,hd,vs,rel,dd⟩:=nU I.hok e;refine wpAny_notIn_of (lH ry) hd dd.mapOf ?_;rw[<-(rel.val k).isSome_eq,<-l];exact h _ (I.tok _)
 .subst ey;cases (show u=Value.ref b from ry);obtain⟨z,hd,xs,rel,dd⟩:=nS I.hok e;refine wpAny_notIn_heap (tupleKind_room_in1 hu) (ke I.hok eb) hd dd ?_;have q:=(rel.val k).isSome_eq;rw[Qj]at q;rw[<-q,<-l];exact h _ (I.tok _)
theorem mK {ob:HO} (I:Inv X pins σ H s) (mu:Mut (H a)) (hs:Heap.SameBut a s.heap h') (he:∃q,h'.get? a=some q) (new:ObjOk X.prog X.w (upd H a ob) h' a ob):
  Inv X pins σ (upd H a ob) {s with heap:=h',toks:=t'}:=
 I.write (x:=a) (e:=a) mu (.inl rfl) (λb q hb z=>(hs.2 b hb).trans z) he new
theorem sN (z:kvs.length<=sizeLine) (hd:(a==sysModules)=false) (rel:KV kvs vs) (dd:h'.DictOf (bn P w) a vs):
  ObjOk P w H' h' a (.dK kvs):=⟨z,hd,vs,rel,dd⟩
theorem qX {Q:Unit->Shared->Prop} (hu:A.units+1<cLine) (I:Inv X pins σ H s) (g:DPut H a y v H') (ry:RelV y u) (rv:RelV v r) (h:∀s',Inv X pins σ H' s'->Q () s'):
  wpAny (model X.prog X.w) A (setItem (.ref a) u r) Q E s:=by
 rcases g with⟨kvs,k,e,ey,l,eH⟩|⟨kvs,k,b,e,ey,eb,l,eH⟩
 .subst ey eH;obtain⟨z,hd,vs,rel,dd⟩:=p9 I.hok e;have hz:vs.length<=sizeLine:=by rw[<-rel.length];exact z
  have hl:(bb kvs k v).length<=sizeLine:=by have:=cx kvs k v;lia
  refine wpAny_setItem_pairs (hsz:=hz) (lH ry) dd λh' dd' hs=>h _ ?_;have he:∃q,h'.get? a=some q:=let⟨q,_,_,hq,_⟩:=dd';⟨q,hq⟩
  exact mK I (by rw[e];exact True.intro) hs he (sN hl hd (rel.put k rv) dd')
 .subst ey eH;cases (show u=Value.ref b from ry);obtain⟨z,hd,xs,rel,dd⟩:=xJ I.hok e;have hz:xs.length<=sizeLine:=by rw[<-Paired.length rel];exact z
  have hl:(bb kvs k v).length<=sizeLine:=by have:=cx kvs k v;lia
  refine wpAny_setItem_heap (hsz:=hz) (tupleKind_room_in1 hu) (ke I.hok eb) dd λh' dd' hs=>h _ ?_;obtain⟨q,es,ep,hq,h2,h3,h4,_,h5⟩:=dd';refine mK I (by rw[e];exact True.intro) hs ⟨q,hq⟩ ⟨hl,hd,_,(rel.put k eb rv).keeps λc ys ec=>?_,q,es,ep,hq,h2,h3,h4,h5⟩;rw[ae (bC ec e (λz=>nomatch z))];exact ec
end
def NoSl (i:Expr):Prop:=∀ov iv,subscripted i false ov iv=operate [ov,iv] (getItem ov iv)
theorem ue {prog:Program} {env:Env} {value slice:Expr} {id:String} 
  (hl:typeLookup (.type T) "__getitem__"=pure (some (.builtin id))) (hs:NoSl slice)
  (h:wpAny (model prog w) A (eval value env) (λo s₁=>wpAny (model prog w) A (eval slice env) (λi s₂=>s₂.TypeIs o T/\wpAny (model prog w) A (getItem o i) Q E s₂) E s₁) E s):
  wpAny (model prog w) A (eval (.Subscript value slice pos) env) Q E s:=by
 refine Subscript_ (wpAny_mono h (λo s₁ h₁=>wpAny_mono h₁ (λi s₂ h₂=>?_) λ_ _ x=>x) λ_ _ x=>x);obtain⟨hT,h₂⟩:=h₂;unfold subscriptTail;refine wpAny_bind ?_;rw[getitemInPython_of_ne hT.not_modules];refine wpAny_bind (wpAny_specialOf hT hl ?_);have fin:wpAny (model prog w) A (subscripted slice false o i) (λr s₃=>wpAny (model prog w) A (letTemporaryGo value o r>>=λ_=>pure r) Q E s₃) E s₂:=by
  rw[hs o i];exact wpAny_operating (wpAny_mono h₂ (λr s₃ h₃=>wpAny_bind (wpAny_letTemporaryGo (wpAny_pure h₃))) λ_ _ x=>x)
 first
  |exact wpAny_pure (wpAny_bind fin)
  |exact wpAny_bind (wpAny_pure (wpAny_bind fin))
  |exact wpAny_bind fin
theorem nX (I:Inv X pins σ H s) (g:DGet H a y o):s.TypeIs (.ref a) "dict":=by
 rcases g with⟨kvs,k,e,_,_⟩|⟨kvs,k,b,e,_,_,_⟩
 .obtain⟨_,_,vs,_,dd⟩:=nU I.hok e;exact dd.typeIs
 .obtain⟨_,_,xs,_,dd⟩:=nS I.hok e;exact dd.typeIs
def xi (td ty:TE):TE:=λσ H Q=>td σ H λx H1=>ty σ H1 λy H2=>∃a v,x= .ref a/\DGet H2 a y (some v)/\Q v H2
def tDIn (ty td:TE):TE:=λσ H Q=>ty σ H λy H1=>td σ H1 λx H2=>∃a o,x= .ref a/\DGet H2 a y o/\Q (.bl o.isSome) H2
def uc (ty td:TE):TE:=λσ H Q=>ty σ H λy H1=>td σ H1 λx H2=>∃a o,x= .ref a/\DGet H2 a y o/\Q (.bl (!o.isSome)) H2
def xn (td ty tv:TE):TS:=λD σ H=>tv σ H λv H1=>td σ H1 λx H2=>ty σ H2 λy H3=>∃a H4,x= .ref a/\DPut H3 a y v H4/\D.nx σ H4
section
variable {o i value:Expr} {pos' tpos:Pos} {td ty tv:TE}
theorem uA (hu:X.A.units+1<cLine) (ho:PE X o td) (hi:PE X i ty) (hs:NoSl i):PE X (.Subscript o i pos) (xi td ty):=by
 intro pins s σ H Q I h;refine ue PySem.F.slot_dict_getitem.lookup hs (thn (ho pins s σ H _ I h) λu s1 ⟨x,H1,I1,rx,q1⟩=>thn (hi pins s1 σ H1 _ I1 q1) λiv s2 hzz=>?_);obtain⟨y,H2,I2,ry,a,v,ex,g,q2⟩:=hzz;subst ex;obtain rfl:u=Value.ref a:=rx;exact⟨nX I2 g,qY hu I2 g ry λw' s3 I3 rw'=>⟨v,H2,I3,rw',q2⟩⟩
theorem wj (hu:X.A.units+1<cLine) (hi:PE X i ty) (ho:PE X o td):PC X .In i o (tDIn ty td):=by
 intro pins s σ H Q I h;refine thn (hi pins s σ H _ I h) λiv s1 ⟨y,H1,I1,ry,q1⟩=>thn (ho pins s1 σ H1 _ I1 q1) λu s2 hzz=>?_;obtain⟨x,H2,I2,rx,a,ov,ex,g,q2⟩:=hzz;subst ex;obtain rfl:u=Value.ref a:=rx;exact d_in hu I2 g ry λs3 I3=>⟨.bl ov.isSome,H2,I3,rfl,q2⟩
theorem k7 (hu:X.A.units+1<cLine) (hi:PE X i ty) (ho:PE X o td):PC X .NotIn i o (uc ty td):=by
 intro pins s σ H Q I h;refine thn (hi pins s σ H _ I h) λiv s1 ⟨y,H1,I1,ry,q1⟩=>thn (ho pins s1 σ H1 _ I1 q1) λu s2 hzz=>?_;obtain⟨x,H2,I2,rx,a,ov,ex,g,q2⟩:=hzz;subst ex;obtain rfl:u=Value.ref a:=rx;exact uV hu I2 g ry λs3 I3=>⟨.bl (!ov.isSome),H2,I3,rfl,q2⟩
theorem pL (hu:X.A.units+1<cLine) (ho:PE X o td) (hi:PE X i ty) (hv:PE X value tv) (hs:swapsWith value (some (.Subscript o i pos')) pos.line X.env=pure false):
  PS X (.Assign [.Subscript o i pos'] value pos) (xn td ty tv):=by
 intro pins s σ H D I h;refine wpAny_Assign_Subscript (thn (hv pins s σ H _ I h) λr s1 ⟨v,H1,I1,rv,q1⟩=>thn (ho pins s1 σ H1 _ I1 q1) λu s2 ⟨x,H2,I2,rx,q2⟩=>thn (hi pins s2 σ H2 _ I2 q2) λiv s3 hzz=>?_) hs;obtain⟨y,H3,I3,ry,a,H4,ex,g,q3⟩:=hzz;subst ex;obtain rfl:u=Value.ref a:=rx;exact qX hu I3 g ry rv λs4 I4=>⟨σ,H4,I4,q3⟩
end
theorem sO (h:Heap) (hb:sysModules<h.objs.size):ObjOk P w H (h.push {cls:= .type "dict",data:= .dict #[]}) h.objs.size (.dK []):=
 ⟨zF _,beq_eq_false_iff_ne.mpr (Ne.symm (zI hb)),[],.nil,Heap.DictOf.new h⟩
def vW:TE:=λ_ H Q=>∀p,H p=none->Q (.ref p) (upd H p (.dK []))
section
theorem g9:PE X (.Dict [] [] pos) vW:=λpins s σ H Q I h=>
 wpAny_Dict_empty ⟨.ref s.heap.objs.size,_,I.laid (a:=s.heap.objs.size) (o:= .dK []) (t':=s.toks) (λ_ _ q=>Heap.get?_push_of_some _ q) (zg _) (sO s.heap I.big),rfl,h _ (I.hok.fresh (zg _))⟩
end
end
end L2
namespace Att
open PySem PySem.W PySem.Calls PyProof.Rows
variable {h:Heap} {n:Nat} {l:OpenLaw} {P:Params} {YP:World->Heap->Prop}
theorem i9:∀(ns:List Int) (vs:List Value),WellAll P h vs (ns.map WData.int)->IntsAre vs ns:=by
 intro ns
 induction ns with
 |nil=>
  intro vs w;rw[List.map_nil]at w;cases w;exact .nil
 |cons n ns ih=>
  intro vs w;rw[zr]at w;cases w with
  |cons a b=>
   cases a;exact .cons _ _ (ih _ b)
theorem qw (hn:l.most=some n) {args:List WData} {vals:List Value}
  (hpre:l.row.toRowW.claim.pre args=true) (hwl:WellAll P h vals args):
  ∃a vs ns,vals=[Value.ref a]/\args=[WData.list (ns.map WData.int)]/\h.get? a=some {cls:= .type "list",data:= .seq vs.toArray}/\IntsAre vs ns/\ns.length<=n:=by
 have hsh:WShape.hasAll [] args [.list .int]=true:=(pre_splitW hpre).1;have hc:l.pre.holds [] {args:=args}=true:=(pre_splitW hpre).2;obtain⟨d,r,rfl,h1,h2⟩:=hasAllW_cons hsh;obtain rfl:=hasAllW_nil h2;obtain⟨xs,rfl,h3⟩:=hasW_list h1;obtain⟨ns,rfl⟩:=items_int h3;have hlen:ns.length<=n:=by
  unfold OpenLaw.pre at hc;have h4:(WTm.not (.lt (.lit (.int (n:Int))) (.len (.arg 0)))).holds [] {args:=[.list (ns.map .int)]}=true:=by
   have h4:=(holds_andW hc).1;rw[hn]at h4;exact h4
  have h5:=condW_of h4 (w_not (w_lt w_lit (w_len_list (w_arg rfl))));rw[z8]at h5;refine Nat.le_of_not_lt λq=>?_;have q':(n:Int)<((ns.length:Nat):Int):=by lia
  first
   |(rw[decide_eq_true q']at h5;exact absurd h5 (by decide))
   |(simp at h5;lia)
 cases hwl with
 |cons w1 w2=>
  cases w2;cases w1 with
  |list ho hall=>exact⟨_,_,ns,rfl,rfl,ho,i9 ns _ hall,hlen⟩
theorem qz (l:OpenLaw) (args:List WData):l.row.toRowW.claim.post args (.bool true) args=true:=
 postW_of (r:=l.row.toRowW) (X:=(true==true))
  (show WShape.has [] (.bool true) .bool=true by first|rfl|decide|simp[WShape.has,WShape.arms,WShape.armsAll])
  (show(WTm.eq .res (.lit (.bool true))).value [] {args:=args,res:=some (.bool true),after:=args}=some (.bool (true==true)) from w_eq_bool (w_res rfl) w_lit) rfl
theorem attach_call {q:Program} {loose:List Str} {XP:(Str->Option Value)->Heap->Prop} {d:DefRec}
  (hn:l.most=some n) (hdf:d.params.defaults=[])
  (call:∀(w:World) (s₀ s₁:Shared) (mg mb:Str->Option Value) (fa:Addr) (o:Obj) (pm cd doc:Value) (a:Addr) (vs:List Value) (ns:List Int),
   Ground q loose [] XP w s₀ mg mb s₁.heap->YP w s₁.heap->
   s₁.heap.get? fa=some o->o.data= .func (docDef d.name d.params d.body d.scope pm cd doc)->s₁.heap.CodeRec cd d.name->mg d.name=some (.ref fa)->
   s₁.heap.get? a=some {cls:= .type "list",data:= .seq vs.toArray}->IntsAre vs ns->ns.length<=n->s₁.gens= #[]->
   codeAny (model l.prog w) callerA (.call (.ref fa) ⟨[.ref a],[]⟩) (λr s'=>r= .ok (.ret (.bool true))/\OldK s₁.heap s'.heap/\s'.os=s₁.os/\AllBare s'.gens) s₁):
  WalkO q loose XP YP l.row.toRowW d [] (λf vs=>PySem.call f vs):=by
 intro w s₀ s₁ mg mb G Y fa o pm cd doc dV kV ho hd hcd hD hmg hg args vals as hpre hlay hrd hwl hlo;obtain rfl:dV= .none:=Dflts.none hD hdf;obtain rfl:kV= .none:=Dflts.noKw hD;obtain⟨a,vs,ns,rfl,rfl,hobj,hints,hlen⟩:=qw hn hpre hwl;refine enter_call (codeAny_mono (call w s₀ s₁ mg mb fa o pm cd doc a vs ns G Y ho (fd_plain hd) hcd hmg hobj hints hlen hg) λr s' hq=>?_);obtain⟨rfl,h2,h3,h4⟩:=hq;exact⟨.inl ⟨.bool true,.bool true,[],rfl,λ_=>rfl,.bool true,qz l _,λ_=>⟨List.Pairwise.nil,λ_ hm=>(nomatch hm)⟩⟩,h2,h3,h4⟩
end Att
namespace L2
open PySem PySem.Spec PyProof.Rows
variable {a f:Addr} {X:Cx} {fd:FuncData} {base:Heap} {H:Hp} {ns:List Int} {N:List Str} {xs:List V} {n:Nat} {P:Program} {A B c:Prop} {K:PySem.W.Frag} {sp:Sp} {σ:St} {st:Stmt} {qual x:Str} {nx:St->Hp->Prop} {g:TG} {tb:TS} {rt:VK} {w:World} {YP:World->Heap->Prop}
section
theorem kU:∀{vs:List Value} {ns:List Int},IntsAre vs ns->Vals (ns.map V.int) vs
 |_,_,.nil=> .nil
 |_,_,.cons n t h=> .cons ⟨t,rfl⟩ (kU h)
def wT (H:Hp):Prop:=∀b,H b=none\/∃o xs,H b=some (.frz o (.lst xs))
theorem sC {mg mb:Str->Option Value} {CX:CXT} {k:Nat} {fa:Addr} {s₁:Shared} {vs:List Value} 
  (KX:K.In s₁.heap) (hns:s₁.heap.Ns mainGlobals mg) (hb:s₁.heap.Ns builtinsNs mb) (hbb:∀x:Str,x≠"__name__"->mb x=bootBuiltins x) (hlim:s₁.heap.NoLimit) (hg:s₁.gens= #[])
  (ha:s₁.heap.get? a=some {cls:= .type "list",data:= .seq vs.toArray}) (hi:IntsAre vs ns) (hl:ns.length<=sizeLine) (hr:Room k callerA)
  (F:∀base:Heap,K.In base->base.Ns mainGlobals mg->a6 P w K mg base CX k fa fd [x] sp) (hbind:∀(s:Shared) (u:Value),BindsTo s fd ⟨[u],[]⟩ [(x,u)])
  (hsp:∀H:Hp,wT H->SqL K H a (ns.map V.int)->sp [.ref a] H (λv _=>v= .bl true) λ_ _ _=>False)
  (hCX:∀H e s',CX [] H s₁ (λ_ _ _=>False) e s'->False):
  codeAny (model P w) callerA (.call (.ref fa) ⟨[.ref a],[]⟩) (λr s'=>r= .ok (.ret (.bool true))/\OldK s₁.heap s'.heap/\s'.os=s₁.os/\AllBare s'.gens) s₁:=by
 have rv:=kU hi;have lenV:=hi.length;have core:∀H:Hp,wT H->SqL K H a (ns.map V.int)->HOk P w H s₁.heap->(∀b,H b≠none->b=a)->(H a≠none->K.lookup a=none)->
   codeAny (model P w) callerA (.call (.ref fa) ⟨[.ref a],[]⟩) (λr s'=>r= .ok (.ret (.bool true))/\OldK s₁.heap s'.heap/\s'.os=s₁.os/\AllBare s'.gens) s₁:=by
  intro H hO hS hok hA hK;have base_of:∀{b:Addr} {o:Obj},s₁.heap.get? b=some o->H b=none->(mH s₁.heap H).get? b=some o:=λe n=>sF e n;have noA:∀{b:Addr} {o:Obj} {es:Array DictEntry} {ep:Nat},s₁.heap.get? b=some o->o.data= .dict es ep->H b=none:=λ{b o es ep} e d=>by
   cases q:H b with
   |none=>rfl
   |some u=>
    have e':b=a:=hA b (by rw[q];simp);subst e';rw[ha]at e;cases e;have d':Data.seq vs.toArray _=Data.dict es ep:=d;cases d'
  have nsK:∀{b:Addr} {m:Str->Option Value},s₁.heap.Ns b m->(mH s₁.heap H).Ns b m:=λ{b m} ⟨o,es,ep,e,d,r⟩=>⟨o,es,ep,base_of e (noA e d),d,r⟩;have hKb:K.In (mH s₁.heap H):=λb o e=>base_of (KX b o e) (by
   cases q:H b with
   |none=>rfl
   |some u=>
    have e':b=a:=hA b (by rw[q];simp);subst e';rw[hK (by rw[q];simp)]at e;cases e)
  have hM:Mod K mg (mH s₁.heap H):=⟨hKb,nsK hns,⟨mb,nsK hb,hbb⟩,let⟨mc,h1,h2⟩:=hlim;⟨mc,nsK h1,h2⟩⟩;have e0:Env0 P w K mg (mH s₁.heap H) callerA [] s₁ H:=⟨rfl,hM,λb o e=>uC e,yA (qQ _ _),trivial,λb hb=>absurd (show b∈([]:List Addr) from hb) (by simp),hok,.of_eq hg⟩;refine codeAny_mono ((F _ hKb (nsK hns)).run callerA [] s₁ H ⟨[.ref a],[]⟩ [.ref a] [.ref a] _ _ hr e0 (hbind s₁ (.ref a)) (.cons rfl .nil) (hsp H hO hS)) λr s' h=>?_;cases r with
  |error e=>exact(hCX H e s' h).elim
  |ok fl=>
   cases fl with
   |next=>exact False.elim h
   |brk=>exact False.elim h
   |cont=>exact False.elim h
   |ret u=>
    obtain⟨v,H',os,bare,un,hok',r',q⟩:=h;have q':v= .bl true:=q;subst q';obtain rfl:u=Value.bool true:=r';refine⟨rfl,OldK.of_keep λb o e=>?_,os,bare⟩;cases q:H b with
    |none=>exact un.keep b o e q (by intro z;exact absurd (show b∈([]:List Addr) from z) (by simp)) (by simp)
    |some u=>
     rcases hO b with z|⟨ob,xs,z⟩
     .rw[q]at z;cases z
     .have z2:=un.frzs b ob _ z;obtain⟨e1,_⟩:=hok b _ z;obtain⟨e2,_⟩:=hok' b _ z2;rw[e]at e1;cases e1;exact e2
 cases hk:K.lookup a with
 |some o=>
  have e:=KX a o hk;rw[ha]at e;cases e;refine core (λ_=>none) (λ_=> .inl rfl) (.inr ⟨_,vs.toArray,_,hk,rfl,rfl,rfl,by rw[zm,lenV];exact hl,by simpa using rv⟩) (λb u z=>by have z':(none:Option HO)=some u:=z;cases z') (λb z=>absurd rfl z) λz=>absurd rfl z
 |none=>
  refine core (λb=>if b=a then some (.frz {cls:= .type "list",data:= .seq vs.toArray} (.lst (ns.map V.int)))else none) (λb=>?_) (.inl (.inr ⟨{cls:= .type "list",data:= .seq vs.toArray},if_pos rfl⟩)) (λb u z=>?_) (λb z=>?_) λ_=>hk
  .by_cases hb:b=a
   .exact .inr ⟨_,_,if_pos hb⟩
   .exact .inl (if_neg hb)
  .by_cases hb:b=a
   .have z':=(if_pos hb).symm.trans z;cases z';subst hb;exact⟨ha,by rw[z8];exact hl,vs,_,rv,ha⟩
   .have z':=(if_neg hb).symm.trans z;cases z'
  .by_cases hb:b=a
   .exact hb
   .exact absurd (if_neg hb) z
end
section
theorem walk_of {l:PySem.W.OpenLaw} {k:Nat} {q:Program} {loose:List Str} {XP:(Str->Option Value)->Heap->Prop} {d:DefRec} {K:Params->PySem.W.Frag} {CX:World->CXT} {sp:World->Sp} 
  (hn:l.most=some n) (hn2:n<=sizeLine) (hdf:d.params.defaults=[]) (hr:Room k callerA)
  (hY:∀(w:World) (h:Heap),YP w h->(K w.params).In h)
  (F:∀(w:World) (mg:Str->Option Value) (fa:Addr) (h:Heap),(K w.params).In h->h.Ns mainGlobals mg->mg d.name=some (.ref fa)->
   ∃fd:FuncData,(∀(s:Shared) (u:Value),BindsTo s fd ⟨[u],[]⟩ [(x,u)])/\
    ∀base:Heap,(K w.params).In base->base.Ns mainGlobals mg->a6 l.prog w (K w.params) mg base (CX w) k fa fd [x] (sp w))
  (hsp:∀(w:World) (H:Hp) (a:Addr) (ns:List Int),ns.length<=n->wT H->SqL (K w.params) H a (ns.map V.int)->sp w [.ref a] H (λv _=>v= .bl true) λ_ _ _=>False)
  (hCX:∀(w:World) (H:Hp) (s:Shared) (e:Value) (s':Shared),CX w [] H s (λ_ _ _=>False) e s'->False):
  PySem.W.WalkO q loose XP YP l.row.toRowW d [] (λf vs=>PySem.call f vs):=by
 refine Att.attach_call hn hdf λw s₀ s₁ mg mb fa o pm cd doc a vs ns G Y ho hd hcd hmg hobj hints hlen hg=>?_;have KX:=hY w _ Y;obtain⟨fd,hb,hF⟩:=F w mg fa _ KX G.T.g hmg;exact sC KX G.T.g G.T.b G.T.builtins G.T.nolimit hg hobj hints (zC hlen hn2) hr hF hb (λH hO hS=>hsp w H a ns hlen hO hS) λH e s'=>hCX w H s₁ e s'
end
section
abbrev CX0:CXT:=λ_ _ _ _ _ _=>False
abbrev E0:XK:=λ_ _ _=>False
theorem aF:fe CX0 X E0:=λ_ _ _ _ _ _ _ h=>h.elim
structure Fun (K:PySem.W.Frag) (x qual:Str) (st:Stmt) (f:Addr) (fd:FuncData):Prop where
 ex:∃(oc:Value) (od:Option Addr) (kV doc pm:Value) (an:Option Addr) (cdv ct:Value) (osl:Array (Option Value)),
  fd=PySem.W.fnOf x qual (jh st) (eS st) (ao st) .none kV doc pm an cdv ct/\K.lookup f=some ⟨oc,od,.func fd,osl⟩/\PySem.W.codeIn K cdv qual=true
 kp:PySem.W.keepIn K (.ref f)=true
section
variable {mg:Str->Option Value}
theorem Fun.ok {ps:List Str} {k:Nat} (F:Fun K x qual st f fd) (S:ay N ps (ao st)) (len:∀vs H Q E,sp vs H Q E->vs.length=ps.length)
  (hbody:∀(cdv:Value) (A:Around) (outer:List Env) (s:Shared) (H:Hp) (vs:List V) (Q:VK) (E:XK),Room k (A.deeper (envOfC qual (ao st) s.heap.objs.size f cdv))->sp vs H Q E->
   ∃t,PSs (ja CX0 P w K mg base N qual (ao st) f cdv A outer s H E).nox (eS st) t/\t {nx:=λ_ H'=>Q .non H',rt:=Q} (start N vs) H):a6 P w K mg base CX0 (k+1) f fd ps sp:=by
 obtain⟨oc,od,kV,doc,pm,an,cdv,ct,osl,rfl,lk,hcd⟩:=F.ex;refine vK lk hcd S len λA outer s H vs Q E hr hsp=>?_;obtain⟨t,h,q⟩:=hbody cdv A outer s H vs Q E hr hsp;exact⟨t,h.nox,q⟩
theorem wI {oc:Value} {od an:Option Addr} {osl:Array (Option Value)} {kV doc pm cdv ct:Value} (l:K.lookup f=some ⟨oc,od,.func (PySem.W.fnOf x qual (jh st) (eS st) (ao st) .none kV doc pm an cdv ct),osl⟩)
  (c:PySem.W.codeIn K cdv qual=true) (k:PySem.W.keepIn K (.ref f)=true):Fun K x qual st f (PySem.W.fnOf x qual (jh st) (eS st) (ao st) .none kV doc pm an cdv ct):=⟨⟨oc,od,kV,doc,pm,an,cdv,ct,osl,rfl,l,c⟩,k⟩
end
theorem lJ {A:Around} {k:Nat} (hr:Room k A):A.units+1<cLine:=yV (Nat.add_le_add_left (by decide:1<=64) _) hr.units
theorem ci (h:n<=1000):n<sizeLine:=yV h (by decide)
section
theorem pv (i:Nat) {pos:Pos} (hN:X.N[i]?=some x:=by rfl) (hv:Vis X.env.scope x:=by first|exact Or.inl rfl|exact Or.inr (Or.inl rfl)|exact Or.inr (Or.inr rfl)) (hd:(x==("__debug__":Str))=false:=by decide)
  (hcd:(x==("__classdict__":Str))=false:=by decide):PE X (.Name x pos) (t8 i):=wd hN hv hd hcd
end
theorem d5 (h:B):if false=true then A else B:=by
 rw[if_neg zb];exact h
theorem cf (h:A):if true=true then A else B:=by
 rw[if_pos rfl];exact h
theorem dE [Decidable c] (h1:c->A) (h2:¬c->B):if c then A else B:=by
 by_cases h:c
 .rw[if_pos h];exact h1 h
 .rw[if_neg h];exact h2 h
def Same (H H':Hp):Prop:=∀b o,H b=some o->H' b=some o
theorem Same.refl (H:Hp):Same H H:=λ_ _ h=>h
theorem Same.trans {H1 H2:Hp} (a:Same H H1) (b:Same H1 H2):Same H H2:=λc o h=>b c o (a c o h)
theorem Same.seq {H':Hp} (e:Same H H') (h:SqL K H a xs):SqL K H' a xs:=by
 rcases h with(h|⟨o,h⟩)|h
 .exact .inl (.inl (e _ _ h))
 .exact .inl (.inr ⟨o,e _ _ h⟩)
 .exact .inr h
end
section
section
variable {κ:Type} [DecidableEq κ]
theorem rA {kvs:List (κ×V)} {k:κ} (h:aJ kvs k=none):¬k∈kvs.map (·.1):=by
 intro m;obtain⟨p,hp,e⟩:=zx.mp m;have q:(kvs.any λkv=>decide (kv.1=k))=true:=List.any_eq_true.mpr ⟨p,hp,decide_eq_true e⟩;rw[bF,h]at q;exact absurd q (by simp)
theorem lV {kvs:List (κ×V)} {k:κ} {v:V} (h:aJ kvs k=some v):k∈kvs.map (·.1):=by
 have q:(kvs.any λkv=>decide (kv.1=k))=true:=by
  rw[bF,h]
  all_goals rfl
 obtain⟨p,hp,e⟩:=List.any_eq_true.mp q;exact zx.mpr ⟨p,hp,of_decide_eq_true e⟩
theorem pQ:∀{l:List κ} {k:κ},l.Nodup->¬k∈l->(l++ [k]).Nodup
 | [],k,_,_=>by simp
 |a::r,k,h,hk=>by
  obtain⟨h1,h2⟩:=zT.mp h;show(a::(r++ [k])).Nodup;refine zT.mpr ⟨λm=>?_,pQ h2 λm=>hk (zh.mpr (Or.inr m))⟩;rcases zd.mp m with q|q
  .exact h1 q
  .exact hk (zh.mpr (Or.inl (zf.mp q).symm))
theorem uD {kvs:List (κ×V)} {k:κ} (v:V) (hn:(kvs.map (·.1)).Nodup) (h:aJ kvs k=none):((bb kvs k v).map (·.1)).Nodup:=by
 rw[ni v h,zo];exact pQ hn (rA h)
end
end
section
theorem be:bootBuiltins "len"=some (.builtin "len"):=by decide+kernel
theorem bz:bootBuiltins "isinstance"=some (.builtin "isinstance"):=by decide+kernel
theorem wO:bootBuiltins "min"=some (.builtin "min"):=by decide+kernel
theorem sV:bootBuiltins "int"=some (.type "int"):=by decide+kernel
theorem mN:bootBuiltins "str"=some (.type "str"):=by decide+kernel
theorem kR:bootBuiltins "ValueError"=some (.type "ValueError"):=by decide+kernel
theorem iF [Decidable c] (hc:c) (h:A):if decide c=true then A else B:=by
 rw[decide_eq_true hc];exact cf h
theorem bH [Decidable c] (hc:¬c) (h:B):if decide c=true then A else B:=by
 rw[decide_eq_false hc];exact d5 h
theorem o9 [Decidable c] (hc:¬c) (h:A):if(!decide c)=true then A else B:=by
 rw[decide_eq_false hc];exact cf h
theorem lK (Pv:Nat->St->Hp->Prop) (h0:Pv 0 σ H) (hl:∀i σ H,i<=xs.length->Pv i σ H->SqL K H a xs)
  (hs:∀i x σ H,xs[i]?=some x->Pv i σ H->g x σ H λσ2 H2=>tb ⟨Pv (i+1),rt,nx,Pv (i+1)⟩ σ2 H2) (hd:∀σ H,Pv xs.length σ H->nx σ H):
  ∃W:Nat->Nat->St->Hp->Prop,(∃m,W 0 m σ H)/\∀i m σ H,W i m σ H->
   ((Itl K a).stop i H/\nx σ H)\/((Itl K a).go i H/\∃N:St->Hp->Prop,(∀σ' H',N σ' H'->∃m',m'<m/\W (i+1) m' σ' H')/\∀x H',(Itl K a).yld i H x H'->g x σ H' λσ2 H2=>tb ⟨N,rt,nx,N⟩ σ2 H2):=
 sI (D:=⟨nx,rt,λ_ _=>False,λ_ _=>False⟩) Pv h0 hl hs hd
theorem pe {lo:Int} (Pv:Nat->St->Hp->Prop) (h0:Pv 0 σ H)
  (hs:∀i σ H,i<n->Pv i σ H->g (.int (lo+i)) σ H λσ2 H2=>tb ⟨Pv (i+1),rt,nx,Pv (i+1)⟩ σ2 H2) (hd:∀σ H,Pv n σ H->nx σ H):
  ∃W:Nat->Nat->St->Hp->Prop,(∃m,W 0 m σ H)/\∀i m σ H,W i m σ H->
   ((Itr lo n).stop i H/\nx σ H)\/((Itr lo n).go i H/\∃N:St->Hp->Prop,(∀σ' H',N σ' H'->∃m',m'<m/\W (i+1) m' σ' H')/\∀x H',(Itr lo n).yld i H x H'->g x σ H' λσ2 H2=>tb ⟨N,rt,nx,N⟩ σ2 H2):=
 qT (D:=⟨nx,rt,λ_ _=>False,λ_ _=>False⟩) Pv h0 hs hd
theorem oj {k:Int} (h0:0<=k) (h:k<(ns.length:Int)):atI (ns.map V.int) k=some (.int (ns.getD k.toNat 0)):=by
 obtain⟨j,rfl⟩:=Int.eq_ofNat_of_zero_le h0;refine ia ?_;have hj:j<ns.length:=by lia
 rw[zD,zc hj,Int.toNat_natCast,zX,zc hj];rfl
theorem sU {k:Int} (h:¬k<(ns.length:Int)):ns.getD k.toNat 0=0:=by
 rw[zX,List.getElem?_eq_none (by lia)];rfl
section
theorem iR:fW X (.builtin "isinstance") (λxs H Q=>∃x n t b,xs=[x,.ty n]/\TyOf X.K H x t/\PySem.W.kitOne X.K t (.type n)=some b/\Q (.bl b) H):=by
 intro pins s σ H xs us Q I r h;obtain⟨x,n,t,b,rfl,ty,e,q⟩:=h;obtain⟨u,w',rfl,ru,rw'⟩:=mU r;cases (show w'=Value.type n from rw');exact qN I ru ty e λtk=>⟨.bl b,H,I.tok _,rfl,q⟩
end
theorem fsc {P:List Str} {sc:Scope} (a:sc.kind= .function:=by rfl) (b:sc.isCoroutine=false:=by rfl) (c:sc.isGenerator=false:=by rfl) (d:N.Nodup:=by decide+kernel) (e:N.take P.length=P:=by rfl) (f:∀x∈P,sc.names.lookup x=some .local\/sc.names.lookup x=some .cell:=by decide+kernel) (g:∀y∈sc.names,y.2≠ .free:=by decide+kernel):ay N P sc:=⟨a,b,c,d,e,f,g⟩
theorem Room.mo {j k:Nat} {A:Around} (r:Room k A) (h:j<=k:=by decide):Room j A:=r.mono h
theorem Fun.okl {mg:Str->Option Value} {ps:List Str} {k:Nat} (F:Fun K x qual st f fd) (S:ay N ps (ao st))
  (hbody:∀(cdv:Value) (A:Around) (outer:List Env) (s:Shared) (H:Hp) (vs:List V) (Q:VK) (E:XK),Room k (A.deeper (envOfC qual (ao st) s.heap.objs.size f cdv))->sp vs H Q E->
   ∃t,PSs (ja CX0 P w K mg base N qual (ao st) f cdv A outer s H E).nox (eS st) t/\t {nx:=λ_ H'=>Q .non H',rt:=Q} (start N vs) H)
  (len:∀vs H Q E,sp vs H Q E->vs.length=ps.length:=by intro _ _ _ _ h;repeat (first|(obtain⟨rfl,_⟩:=h;exact rfl)|obtain⟨_,h⟩:=h)):a6 P w K mg base CX0 (k+1) f fd ps sp:=F.ok S len hbody
end
end L2
namespace SW
end SW
namespace L2
open PySem PySem.Spec PyProof.Rows
variable {C T f:Addr} {old:Addr->Prop} {A:Around} {g:Array GenState} {vs:Array Value} {ab:Bool} {d:Drawn} {base h:Heap} {φ:Heap->Prop} {H:Hp} {l:List Addr} {outer:List Env} {N sn:List Str} {bm sub us:List Value} {M:Model} {t:Nat} {dd od:Option Addr} {col:Option Bool} {os:OsState} {P prog:Program} {K:PySem.W.Frag} {R:Result->Shared->Prop} {s s':Shared} {qual:Str} {Q:Unit->Shared->Prop} {e:Value} {E W:Value->Shared->Prop} {w:World}
section
abbrev aL (C:Addr) (od:Option Addr) (vs:Array Value):Obj:={cls:= .ref C,dict:=od,data:= .fields vs}
def Trc (h:Heap) (e:Addr) (vs:Array Value) (T:Addr) (fl:Value):Prop:=
 vs[1]?=some (.ref T)/\T≠e/\∃oT ts,h.get? T=some oT/\oT.data= .fields ts/\ts[3]?=some fl
structure Noted (l:List Addr) (e:Addr) (old:Addr->Prop) (h h':Heap):Prop where
 keep:∀b o,h.get? b=some o->b∉l->b≠e->¬old b->h'.get? b=some o
 slot:∀b o,h.get? b=some o->b∈l->b≠e->¬old b->∃sl,h'.get? b=some {o with slots:=sl}
 there:∀b o,h.get? b=some o->∃o',h'.get? b=some o'
section
variable {env:Env} {L e:Addr}
theorem wJ (hl:s.heap.FunFrames base (env::outer)) (he:s.heap.get? e=some (aL C od vs)):e∉frs (env::outer):=λhm=>by
 obtain⟨_,o,ho,hn⟩:=hl.mem hm;cases he.symm.trans ho;exact hn vs rfl
theorem j3 {head:Value} {had:Bool} (hfr:A.frames=some (env::outer)) (hl:s.heap.FunFrames base (env::outer)) (hf:env.frame=some L) (he:s.heap.get? e=some (aL C od vs)) (hsz:1<vs.size)
  (q:∀h' T vs',Noted (frs (env::outer)) e (λ_=>False) s.heap h'->h'.get? e=some (aL C od vs')->(vs'.size=vs.size/\vs'[2]?=vs[2]?)->s.heap.objs.size<=T->Trc h' e vs' T (rawInt L)->Q () {s with heap:=h'}):
  wpAny M A (do let a<-frameOf env;let pl<-entryPlaceOf L had;let b<-EntryCells.newEntry head a .none (rawInt L) .none pl;setField (.ref e) 1 b) Q E s:=by
 have nf:e∉(env::outer).filterMap (·.frame):=wJ hl he;refine wpAny_bind (wpAny_frameOf_fun hfr hl hf λh1 so=>?_);refine wpAny_bind (wpAny_entryPlaceOf λpl ip=>?_);unfold EntryCells.newEntry newFields;refine wpAny_bind (wpAny_newObj_type ?_ (ip.sizeOk5 _ _ _ _ _));have e1:h1.get? e=some (aL C od vs):=(so.2.1 e nf).trans he;have big:3<([head,Value.ref L,.none,rawInt L,.none]++(if pl.isEmpty then List.replicate 6 Value.none else pl)).toArray.size:=by
  simp only[zm,zk,zp,List.length_nil];lia
 have at3:([head,Value.ref L,.none,rawInt L,.none]++(if pl.isEmpty then List.replicate 6 Value.none else pl)).toArray[3]?=some (rawInt L):=by simp
 generalize ([head,Value.ref L,.none,rawInt L,.none]++(if pl.isEmpty then List.replicate 6 Value.none else pl)).toArray=ts at big at3;generalize eo:({cls:= .type "traceback",dict:=none,data:= .fields ts}:Obj)=oT;have e2:(h1.push oT).get? e=some (aL C od vs):=Heap.get?_push_of_some _ e1;have ne:h1.objs.size≠e:=Qi (Heap.lt_size e1);refine wpAny_setField e2 rfl hsz (q _ h1.objs.size (vs.setIfInBounds 1 (.ref h1.objs.size)) ⟨λb o g1 g2 g3 _=>?_,λb o g1 _ g3 _=>?_,λb o g1=>?_⟩ ?_ ⟨Array.size_setIfInBounds,by simp⟩ (yA so.1.symm) ⟨by simp[hsz],ne,oT,ts,?_,by rw[<-eo],at3⟩)
 .rw[Heap.get?_update_other _ _ (Ne.symm g3)];exact Heap.get?_push_of_some _ ((so.2.1 b g2).trans g1)
 .obtain⟨sl,r⟩:=so.2.2 b o g1;exact⟨sl,(Heap.get?_update_other _ _ (Ne.symm g3)).trans (Heap.get?_push_of_some _ r)⟩
 .by_cases z:b=e
  .subst z;exact⟨_,Heap.get?_update_self _ e2 rfl⟩
  .obtain⟨sl,r⟩:=so.2.2 b o g1;exact⟨_,(Heap.get?_update_other _ _ (Ne.symm z)).trans (Heap.get?_push_of_some _ r)⟩
 .exact Heap.get?_update_self _ e2 rfl
 .rw[Heap.get?_update_other _ _ (Ne.symm ne),<-eo];exact Heap.get?_push_size h1 rfl
theorem oS (hfr:A.frames=some (env::outer)) (hl:s.heap.FunFrames base (env::outer)) (hf:env.frame=some L) (he:s.heap.get? e=some (aL C od vs)) (h1:vs[1]?=some .none)
  (q:∀h' T vs',Noted (frs (env::outer)) e (λ_=>False) s.heap h'->h'.get? e=some (aL C od vs')->(vs'.size=vs.size/\vs'[2]?=vs[2]?)->s.heap.objs.size<=T->Trc h' e vs' T (rawInt L)->Q () {s with heap:=h'}):
  wpAny M A (noteFrame (.ref e) env) Q E s:=by
 unfold noteFrame;simp only[hf];refine wpAny_bind (wpAny_field he rfl h1 ?_);rw[if_neg (by decide)];exact j3 hfr hl hf he (yw.mp h1).1 q
theorem qE (hfr:A.frames=some (env::outer)) (hl:s.heap.FunFrames base (env::outer)) (hf:env.frame=some L) (he:s.heap.get? e=some (aL C od vs)) (tr:Trc s.heap e vs T .none)
  (q:∀h' T' vs',Noted (frs (env::outer)) e (· =T) s.heap h'->h'.get? e=some (aL C od vs')->(vs'.size=vs.size/\vs'[2]?=vs[2]?)->s.heap.objs.size<=T'->Trc h' e vs' T' (rawInt L)->Q () {s with heap:=h'}):
  wpAny M A (noteFrame (.ref e) env) Q E s:=by
 obtain⟨h1,ne,oT,ts,hT,hd,h3⟩:=tr;unfold noteFrame;simp only[hf];refine wpAny_bind (wpAny_field he rfl h1 ?_);rw[if_pos (show(Value.ref T !=Value.none)=true by simp)];refine wpAny_bind (wpAny_field hT hd h3 ?_);rw[if_neg (show ¬(Value.none==rawInt L)=true by simp[rawInt])];have oth:∀b,b≠T->(s.heap.update T (Obj.mapFields (·.setIfInBounds 3 Value.none))).get? b=s.heap.get? b:=λb z=>Heap.get?_update_other _ _ (Ne.symm z);have nofr:∀b o,s.heap.get? b=some o->(∀ws,o.data≠ .fields ws)->b≠T:=λb o g1 g2 z=>by
  subst z;cases hT.symm.trans g1;exact g2 ts hd
 refine wpAny_bind (wpAny_setField hT hd (yw.mp h3).1 ?_);refine j3 hfr (hl.of_keeps λb o g1 g2=>⟨o,(oth b (nofr b o g1 g2)).trans g1,rfl⟩) hf ((oth e (Ne.symm ne)).trans he) (yw.mp h1).1 λh' T' vs' n g1 g2 g3 g4=>?_;refine q h' T' vs' ⟨λb o k1 k2 k3 k4=>n.keep b o ((oth b k4).trans k1) k2 k3 id,λb o k1 k2 k3 k4=>n.slot b o ((oth b k4).trans k1) k2 k3 id,λb o k1=>?_⟩ g1 g2 (by rw[Heap.size_after_update]at g3;exact g3) g4;by_cases z:b=T
 .subst z;exact n.there b _ (Heap.get?_update_self _ hT (Obj.isFreed_of_fields (Obj.data_mapFields hd _)))
 .exact n.there b o ((oth b z).trans k1)
theorem gO {l:List Addr} {fl:Value} (he:s.heap.get? e=some (aL C od vs)) (tr:Trc s.heap e vs T fl)
  (q:∀h',(∀b o,b≠T->s.heap.get? b=some o->h'.get? b=some o)->h'.get? e=some (aL C od vs)->(∃o,h'.get? T=some o)->h'.objs.size=s.heap.objs.size->Trc h' e vs T .none->Q () {s with heap:=h'}):
  wpAny M A (setFlight (.ref e) none) Q E s:=by
 obtain⟨h1,ne,oT,ts,hT,hd,h3⟩:=tr;have big:3<ts.size:=(yw.mp h3).1;unfold setFlight;refine wpAny_bind (wpAny_field he rfl h1 ?_);rw[if_pos (show(Value.ref T !=Value.none)=true by simp)];have oth:∀b,b≠T->(s.heap.update T (Obj.mapFields (·.setIfInBounds 3 ((none:Option Addr).elim Value.none λf=>rawInt f)))).get? b=s.heap.get? b:=λb z=>Heap.get?_update_other _ _ (Ne.symm z);have new:=Heap.get?_update_self (Obj.mapFields (·.setIfInBounds 3 ((none:Option Addr).elim Value.none λf=>rawInt f))) hT (Obj.isFreed_of_fields (Obj.data_mapFields hd _));exact wpAny_setField hT hd big (q _ (λb o z g=>(oth b z).trans g) ((oth e (Ne.symm ne)).trans he) ⟨_,new⟩ (Heap.size_after_update ..) ⟨h1,ne,_,_,new,Obj.data_mapFields hd _,by simp[big]⟩)
end
end
section
def XN (e C:Addr) (od:Option Addr):HO:= .ext λh=>∃t,h.get? e=some (aL C od #[.ref t,.none,.none,.none,.bool false,.none])
def XO (e C:Addr) (od:Option Addr):HO:= .ext λh=>∃vs,h.get? e=some (aL C od vs)/\1<vs.size
section
variable {h':Heap} {e:Addr}
theorem vk {t:Addr} (k:h.get? e=some (aL C od #[.ref t,.none,.none,.none,.bool false,.none])):ObjOk P w H h e (XN e C od):=
 ⟨⟨t,k⟩,⟨_,k⟩,λ_ _ ⟨t,k⟩ st=>⟨t,st _ k⟩⟩
theorem vi (k:h.get? e=some (aL C od vs)) (z:1<vs.size):ObjOk P w H h e (XO e C od):=
 ⟨⟨vs,k,z⟩,⟨_,k⟩,λ_ _ ⟨vs,k,z⟩ st=>⟨vs,st _ k,z⟩⟩
theorem w6 (ok:HOk P w H h) (q:H e=some (XN e C od)):∃t,h.get? e=some (aL C od #[.ref t,.none,.none,.none,.bool false,.none]):=(ok e _ q).1
theorem vj (ok:HOk P w H h) (q:H e=some (XO e C od)):∃vs,h.get? e=some (aL C od vs)/\1<vs.size:=(ok e _ q).1
theorem Noted.hok (n:Noted l e old h h') (ok:HOk P w H h) (hl:∀b∈l,H b=none) (ho:∀b,old b->H b=none) (he:H e=some (.ext φ))
  (new:h'.get? e=some (aL C od vs)) (z:1<vs.size):HOk P w (upd H e (XO e C od)) h':=λb u q=>by
 by_cases hb:b=e
 .subst hb;rw[ag]at q;cases q;exact vi new z
 .rw[ae hb]at q;have oth:∀c v,H c=some v->c≠e->∀o,h.get? c=some o->h'.get? c=some o:=λc v r ne o g=>
   n.keep c o g (λm=>by rw[hl c m]at r;cases r) ne λm=>by rw[ho c m]at r;cases r
  refine(ok b u q).stay (λc v hc r=>?_) (λc r=>?_) λc xs r=>?_
  .rcases hc with rfl|hc
   .exact oth _ _ q hb v r
   .exact oth _ _ hc (λm=>by rw[m,he]at hc;cases hc) v r
  .rw[ae (λm=>by rw[m,he]at r;cases r)];exact r
  .rw[ae (λm=>by rw[m,he]at r;cases r)];exact r
theorem Noted.un {ch:List Addr} {o':HO} (n:Noted l e old h h') (hc:∀b,old b->b∈ch) (he:H e=some (.ext φ)):Un l ch H (upd H e o') h h':=by
 have ne:∀b,H b=none->b≠e:=λb r z=>by rw[z,he]at r;cases r
 refine⟨λb o g r m k=>n.keep b o g m (ne b r) λz=>k (hc b z),λb o g r m k=>n.slot b o g m (ne b r) λz=>k (hc b z),λb o _ r _=>by rw[ae (ne b r)];exact r,λb o g _=>n.there b o g,λb xs r=>?_,λb o u r=>?_,λb ps r=>⟨#[],?_⟩⟩
 .rw[ae (λm=>by rw[m,he]at r;cases r)];exact r
 .rw[ae (λm=>by rw[m,he]at r;cases r)];exact r
 .rw[ae (λm=>by rw[m,he]at r;cases r),r];simp
end
def CX1 (P:Program) (w:World):CXT:=λouter H s E e s'=>∃(ea C:Addr) (od:Option Addr) (vs:Array Value) (T:Addr) (H':Hp),
 e= .ref ea/\s'.os=s.os/\AllBare s'.gens/\Un (frs outer) [] H H' s.heap s'.heap/\HOk P w H' s'.heap/\H' ea=some (XO ea C od)/\s'.heap.get? ea=some (aL C od vs)/\1<vs.size/\
 Trc s'.heap ea vs T .none/\H' T=none/\s.heap.objs.size<=T/\E (.ref ea) od H'
end
section
theorem rB {a:Addr} {o:HO} (h:H a=some o):upd H a o=H:=by
 funext b;by_cases z:b=a
 .subst z;rw[ag,h]
 .rw[ae z]
def qj (X:Cx) (E:St->XK) (e:Value) (s:Shared):Prop:=∃(pins:List (Addr×Obj)) (σ:St) (H:Hp) (ea C:Addr) (od:Option Addr) (vs:Array Value) (φ:Heap->Prop),
 e= .ref ea/\Inv X pins σ H s/\H ea=some (.ext φ)/\s.heap.get? ea=some (aL C od vs)/\1<vs.size/\(vs[1]?=some .none\/∃T,Trc s.heap ea vs T .none/\fT X pins H T)/\E σ (.ref ea) od (upd H ea (XO ea C od))
section
variable {X:Cx} {pins:List (Addr×Obj)} {σ:St}
theorem oR {ea:Addr} (I:Inv X pins σ H s) (hst:X.stack=X.env::X.outer) (hf:X.env.frame=some X.env.locals) (hA:A.frames=some X.stack)
  (hx:H ea=some (.ext φ)) (hr:s.heap.get? ea=some (aL C od vs)) (hz:1<vs.size) (ht:vs[1]?=some .none\/(∃T,Trc s.heap ea vs T .none/\fT X pins H T)\/∃T,Trc s.heap ea vs T (rawInt X.env.locals)/\fT X pins H T)
  (q:∀s' vs' T,Inv X pins σ (upd H ea (XO ea C od)) s'->s'.heap.get? ea=some (aL C od vs')->1<vs'.size->Trc s'.heap ea vs' T .none->fT X pins (upd H ea (XO ea C od)) T->vs'[2]?=vs[2]?->Q () s'):
  wpAny M A (noteFrame (.ref ea) X.env) (λ_ s1=>wpAny M A (setFlight (.ref ea) none) Q W s1) W s:=by
 rw[hst]at hA;have hl:s.heap.FunFrames X.base (X.env::X.outer):=hst▸I.stack;have hfree:∀b∈frs (X.env::X.outer),H b=none:=hst▸I.stkFree;have fin:∀(old:Addr->Prop) (ch:List Addr) (h1:Heap) (T':Addr) (vs':Array Value),(∀b,old b↔b∈ch)->(∀b∈ch,fT X pins H b)->Noted (frs (X.env::X.outer)) ea old s.heap h1->h1.get? ea=some (aL C od vs')->(vs'.size=vs.size/\vs'[2]?=vs[2]?)->
   s.heap.objs.size<=T'->Trc h1 ea vs' T' (rawInt X.env.locals)->wpAny M A (setFlight (.ref ea) none) Q W {s with heap:=h1}:=by
  intro old ch h1 T' vs' hoc hch n g1 g2 g3 g4;refine gO (l:=[]) (s:={s with heap:=h1}) g1 g4 λh2 k1 k2 k3 k4 k5=>?_;have nT:∀b o,s.heap.get? b=some o->b≠T':=λb o g z=>absurd (Heap.lt_size g) (Qs.mpr (z▸g3));have n2:Noted (frs (X.env::X.outer)) ea old s.heap h2:=⟨λb o r1 r2 r3 r4=>k1 b o (nT b o r1) (n.keep b o r1 r2 r3 r4),λb o r1 r2 r3 r4=>by
    obtain⟨sl,r⟩:=n.slot b o r1 r2 r3 r4;exact⟨sl,k1 b _ (nT b o r1) r⟩,λb o r1=>by
    obtain⟨o',r⟩:=n.there b o r1;exact⟨o',k1 b _ (nT b o r1) r⟩⟩
  have hok2:HOk X.prog X.w (upd H ea (XO ea C od)) h2:=n2.hok I.hok hfree (λb z=>(hch b ((hoc b).mp z)).1) hx k2 (g2.1▸hz);have un2:Un (frs X.stack) ch H (upd H ea (XO ea C od)) s.heap h2:=by
   rw[hst];exact n2.un (λb z=>(hoc b).mp z) hx
  have I2:Inv X pins σ (upd H ea (XO ea C od)) {s with heap:=h2}:=I.call' (s':={s with heap:=h2}) rfl un2 hok2 I.bare λb hb=>by
   obtain⟨z1,z2,z3,z4,z5,z6⟩:=hch b hb;exact⟨z4,z2,z5,z6⟩
  refine q _ vs' T' I2 k2 (g2.1▸hz) k5 (I.fpOk g3 ?_) g2.2;have neT:T'≠ea:=Ne.symm (nT ea _ hr);rw[ae neT];exact I.hok.fresh g3
 rcases ht with h1|⟨T,tr,fp⟩|⟨T,tr,fp⟩
 .exact oS hA hl hf hr h1 λh1 T' vs' n g1 g2 g3 g4=>fin (λ_=>False) [] h1 T' vs' (λb=>by simp) (λb z=>nomatch z) n g1 g2 g3 g4
 .exact qE hA hl hf hr tr λh1 T' vs' n g1 g2 g3 g4=>fin (· =T) [T] h1 T' vs' (λb=>by simp) (λb z=>by rw[zf.mp z];exact fp) n g1 g2 g3 g4
 .obtain⟨h1,ne,oT,ts,hT,hd,h3⟩:=id tr;refine wpAny_noteFrame_inFlight hf hr rfl h1 hT hd h3 ?_;refine gO (l:=[]) hr tr λh' k1 k2 k3 k4 k5=>?_;have I1:Inv X pins σ H {s with heap:=h'}:=I.turned (t':=s.toks) (it:=T) k1 fp.1 fp.2.1 fp.2.2.2.1 fp.2.2.2.2.1 fp.2.2.2.2.2;have I2:Inv X pins σ (upd H ea (XO ea C od)) {s with heap:=h'}:=I1.write (x:=ea) (e:=ea) (t':=s.toks) (by rw[hx];exact True.intro) (.inl rfl) (λ_ _ _ e=>e) ⟨_,k2⟩ (vi k2 hz);exact q _ vs T I2 k2 hz k5 ⟨by rw[ae ne];exact fp.1,fp.2.1,fp.2.2.1,fp.2.2.2.1,fp.2.2.2.2.1,fp.2.2.2.2.2⟩ rfl
theorem lh {ea:Addr} (I:Inv X pins σ H s) (hst:X.stack=X.env::X.outer) (hf:X.env.frame=some X.env.locals) (hA:A.frames=some X.stack)
  (hx:H ea=some (.ext φ)) (hr:s.heap.get? ea=some (aL C od vs)) (hz:1<vs.size) (ht:vs[1]?=some .none\/∃T,Trc s.heap ea vs T .none/\fT X pins H T)
  (q:∀s' vs' T,Inv X pins σ (upd H ea (XO ea C od)) s'->s'.heap.get? ea=some (aL C od vs')->1<vs'.size->Trc s'.heap ea vs' T .none->fT X pins (upd H ea (XO ea C od)) T->Q () s'):
  wpAny M A (noteFrame (.ref ea) X.env) (λ_ s1=>wpAny M A (setFlight (.ref ea) none) Q W s1) W s:=
 oR I hst hf hA hx hr hz (ht.imp id .inl) λs' vs' T I' r z t f _=>q s' vs' T I' r z t f
theorem Inv.thrown {E:XK} (I:Inv X pins σ H s) (h:CX1 X.prog X.w X.stack H s E e s'):∃(ea C:Addr) (od:Option Addr) (vs:Array Value) (H':Hp),e= .ref ea/\Inv X pins σ H' s'/\H' ea=some (XO ea C od)/\
  s'.heap.get? ea=some (aL C od vs)/\1<vs.size/\(∃T,Trc s'.heap ea vs T .none/\fT X pins H' T)/\E (.ref ea) od H':=by
 obtain⟨ea,C,od,vs,T,H',rfl,os,bare,un,hok,hx,hr,hz,tr,hT,hn,q⟩:=h;exact⟨ea,C,od,vs,H',rfl,I.call' os un hok bare λb z=>absurd z (by simp),hx,hr,hz,⟨T,tr,I.fpOk hn hT⟩,q⟩
theorem Inv.flies {E:XK} {F:St->XK} (I:Inv X pins σ H s) (h:CX1 X.prog X.w X.stack H s E e s') (k:∀v od H',E v od H'->F σ v od H'):qj X F e s':=by
 obtain⟨ea,C,od,vs,H',rfl,I',hx,hr,hz,ht,q⟩:=I.thrown h;exact⟨pins,σ,H',ea,C,od,vs,_,rfl,I',hx,hr,hz,.inr ht,by rw[rB hx];exact k _ _ _ q⟩
end
section
variable {mg:Str->Option Value} {scope:Scope} {cd:Value} {E:XK}
theorem nO (h:qj (ja (CX1 P w) P w K mg base N qual scope f cd A outer s H E) (λ_=>E) e s'):(ja (CX1 P w) P w K mg base N qual scope f cd A outer s H E).xe e s':=by
 obtain⟨pins,σ,H1,ea,C,od,vs,φ,rfl,I,hx,hr,hz,ht,q⟩:=h;show wpAny _ _ (leaving _ (.ref ea)) _ _ s';unfold leaving;refine wpAny_bind (lh I rfl rfl I.ok.frames hx hr hz ht λs2 vs2 T I2 r2 z2 t2 f2=>?_);refine⟨ea,C,od,vs2,T,_,rfl,I2.os,I2.bare,I2.base,I2.hok,ag,r2,z2,t2,f2.1,?_,q⟩;rcases f2.2.2.2.1 with z|z
 .exact absurd (show T∈([]:List Addr) from z) (by simp)
 .exact z
theorem vE:fe (CX1 P w) (ja (CX1 P w) P w K mg base N qual scope f cd A outer s H E) E:=
 λ_ _ _ _ _ _ I h=>nO (I.flies h λ_ _ _ q=>q)
theorem Fun.okX {x:Str} {st:Stmt} {fd:FuncData} {ps:List Str} {k:Nat} {sp:Sp} (F:Fun K x qual st f fd) (S:ay N ps (ao st)) (len:∀vs H Q E,sp vs H Q E->vs.length=ps.length)
  (hbody:∀(cdv:Value) (A:Around) (outer:List Env) (s:Shared) (H:Hp) (vs:List V) (Q:VK) (E:XK),Room k (A.deeper (envOfC qual (ao st) s.heap.objs.size f cdv))->sp vs H Q E->
   ∃t,PSs (ja (CX1 P w) P w K mg base N qual (ao st) f cdv A outer s H E) (eS st) t/\t {nx:=λ_ H'=>Q .non H',rt:=Q} (start N vs) H):a6 P w K mg base (CX1 P w) (k+1) f fd ps sp:=by
 obtain⟨oc,od,kV,doc,pm,an,cdv,ct,osl,rfl,lk,hcd⟩:=F.ex;exact vK lk hcd S len λA outer s H vs Q E hr hsp=>hbody cdv A outer s H vs Q E hr hsp
end
end
section
abbrev vBase:List Value:=[.type "ValueError",.type "Exception",.type "BaseException",.type "object"]
def ExcMro (bm:List Value):Prop:=∃ups:List Addr,bm=ups.map Value.ref++vBase
theorem ExcMro.typ (B:ExcMro bm) (T:String):bm.contains (.type T)=vBase.contains (.type T):=by
 obtain⟨ups,rfl⟩:=B
 induction ups with
 |nil=>rfl
 |cons a r ih=>rw[zr,List.cons_append,zJ,ih];rfl
theorem ExcMro.val (B:ExcMro bm):bm.contains (.type "ValueError")=true:=(B.typ _).trans (by decide+kernel)
theorem ExcMro.bas (B:ExcMro bm):bm.contains (.type "BaseException")=true:=(B.typ _).trans (by decide+kernel)
theorem ExcMro.att (B:ExcMro bm):bm.contains (.type "AttributeError")=false:=(B.typ _).trans (by decide+kernel)
theorem ExcMro.nam (B:ExcMro bm):bm.contains (.type "NameError")=false:=(B.typ _).trans (by decide+kernel)
structure XCls (K:PySem.W.Frag) (C:Addr) (bm:List Value):Prop where
 ob:∃nm q N bs sn sub ab col dd k0 k1 k2 k3 k5,K.lookup C=some (excClassObj nm q C N bs bm true sn sub ab col dd k0 k1 k2 k3 k5 "ValueError.__new__")
 mro:ExcMro bm
 kp:PySem.W.keepIn K (.ref C)=true
 ga:PySem.W.findIn K (.ref C) "__getattribute__"=some (some (.builtin "BaseException.__getattribute__"))
 gn:PySem.W.findIn K (.ref C) "__getattr__"=some none
 sa:PySem.W.findIn K (.ref C) "__setattr__"=some (some (.builtin "object.__setattr__"))
section
variable {nm q:Str} {N:Addr} {bs:List Value} {k0 k1 k2 k3 k5:Option Value}
abbrev bJ (C t:Addr):Obj:=aL C none #[.ref t,.none,.none,.none,.bool false,.none]
abbrev d9 (us:List Value):Obj:={cls:= .type "tuple",data:= .seq us.toArray}
theorem uS {rest:List Value} (B:ExcMro bm) (hC:h.get? C=some (excClassObj nm q C N bs bm true sn sub ab col dd k0 k1 k2 k3 k5 "ValueError.__new__")) (hz:rest.length<=sizeLine)
  (hq:R (.ok (.ret (.ref (h.objs.size+1)))) ⟨(h.push (d9 rest)).push (bJ C h.objs.size),g,d,t,os⟩):
  codeAny (model prog w) A (.call (.builtin "ValueError.__new__") ⟨.ref C::rest,[]⟩) R ⟨h,g,d,t,os⟩:=by
 have F:=yW;have c1:(Value.ref C::bm).contains (.type "ValueError")=true:=by rw[zJ,B.val,yS]
 have c2:(Value.ref C::bm).contains (.type "AttributeError")=false:=by rw[zJ,B.att];rfl
 have c3:(Value.ref C::bm).contains (.type "NameError")=false:=by rw[zJ,B.nam];rfl
 have st:=F.noStar;have en:=F.ends;refine codeAny_call_builtin_code (Code.quiet_builtin _ F.quiet) ?_;simp only[checkBuiltinCall,F.newKind,F.newSplit,F.newRow]
 repeat (first|refine wpAny_loadPart_at hC ?_|(refine wpAny_isSubtype_exc hC ?_;rw[c1])|refine wpAny_staticBase_exc hC ?_|refine wpAny_madeBy_exc hC ?_|simp only[bne_self_eq_false,Qg,if_false]|wp_step)
 refine codeAny_builtinAt F.entry ?_;unfold Builtin.«BaseException.__new__»;refine PySem.wpAt_bind ?_;show PySem.wpAt _ _ _ (stack>>=_) _ _ _;refine PySem.wpAt_bind (PySem.wpAt_stack λp below=>PySem.wpAt_of_wpAny ?_)
 wp_walk
 refine PySem.wpAt_of_wpAny ?_;rw[F.owner]
 repeat (first|with_reducible refine wpAny_madeHere_exc F.canon hC ?_|with_reducible refine wpAny_loadPart_at hC ?_|(with_reducible refine wpAny_isSubtype_exc hC ?_;first|rw[c1]|rw[c2]|rw[c3])|wp_step)
 show R _ _;rw[Heap.size_push];exact hq
open PySem.W in
theorem sK {fi:Value} (X:K.In h) (Y:XCls K C bm) (hz:us.length<=sizeLine) (hi:findIn K (.ref C) "__init__"=some (some fi)) (hf:∀self,Looks (model prog w) h (bindSpecial fi self) (fi,[self]))
  (hq:codeAny (model prog w) (A.under (.builtin "type.__call__" ⟨.ref C::us,[]⟩)) (.call fi ⟨.ref (h.objs.size+1)::us,[]⟩) (InitBack (h.objs.size+1) R) ⟨(h.push (d9 us)).push (bJ C h.objs.size),g,d,t,os⟩):
  codeAny (model prog w) A (.call (.ref C) ⟨us,[]⟩) R ⟨h,g,d,t,os⟩:=by
 obtain⟨nm,q,N,bs,sn,sub,ab,col,dd,k0,k1,k2,k3,k5,hK⟩:=Y.ob;have hC:=X _ _ hK;have B:=Y.mro;have cC:(Value.ref C::bm).contains (.ref C)=true:=by simp
 have hl:=looks_findIn (M:=model prog w) X hi;have f1:=tc_lookup;have f2:=tc_bind (.ref C);have hT:(⟨h,g,d,t,os⟩:Shared).TypeIs (.ref C) "type":=⟨_,hC,rfl⟩;refine codeAny_of_tree ?_;show wpAny _ _ (callAny (.ref C) _) _ _ _
 repeat (any_goals (first|assumption|with_reducible refine wpAny_loadPart_at hC ?_|wp_step))
 refine⟨rfl,?_⟩;refine codeAny_call_builtin_at (Code.quiet_builtin _ (by decide+kernel)) entry_typeCall (wpAny_check_type_call_sub hC ?_)
 repeat (first|with_reducible refine wpAny_loadPart_at hC ?_|with_reducible refine wpAny_madeBy_exc hC ?_|wp_step)
 refine uS B hC hz ?_;show wpAny _ (A.under (.builtin "type.__call__" ⟨.ref C::us,[]⟩)) _ _ _ ⟨(h.push (d9 us)).push (bJ C h.objs.size),g,d,t,os⟩;have k:∀b o,h.get? b=some o->((h.push (d9 us)).push (bJ C h.objs.size)).get? b=some o:=λb o e=>Heap.get?_push_of_some _ (Heap.get?_push_of_some _ e);have he:((h.push (d9 us)).push (bJ C h.objs.size)).get? (h.objs.size+1)=some (bJ C h.objs.size):=by heap_get
 have hC1:=k _ _ hC;have hl1:=hl.keeps k;have fb:=(hf (.ref (h.objs.size+1))).keeps k;have t1:Looks (model prog w) ((h.push (d9 us)).push (bJ C h.objs.size)) (typeOf (.ref (h.objs.size+1))) (.ref C):=(Looks.ld he).andThen .now;have s1:Looks (model prog w) ((h.push (d9 us)).push (bJ C h.objs.size)) (isSubtype (.ref C) (.ref C)) true:=λA' Q' E' s' kk z=>by
  obtain⟨hp,g',d',t',os'⟩:=s';exact wpAny_isSubtype_exc (kk _ _ hC1) (by rw[cC];exact z)
 unfold isInstance callSpecial? specialOf
 repeat (first|simp only[cC,Bool.not_true,Qg,if_false]|with_reducible refine wpAny_call ?_|lk)
 refine codeAny_mono hq λr s' z=>?_;rcases r with e|(v|_|_|_)<;>first|exact z|exact z.elim|skip
 obtain⟨rfl,z⟩:=z;exact wpAny_pure (wpAny_pure z)
end
end
section
section
variable {nm q:Str} {N:Addr} {bs:List Value} {k0 k1 k2 k3 k5:Option Value}
theorem sL {e:Addr} {t0:Addr} (B:ExcMro bm) (hC:h.get? C=some (excClassObj nm q C N bs bm true sn sub ab col dd k0 k1 k2 k3 k5 "ValueError.__new__"))
  (he:h.get? e=some (aL C od #[.ref t0,.none,.none,.none,.bool false,.none])) (hz:us.length<=sizeLine)
  (hq:∀h',(∀b o,b≠e->h.get? b=some o->h'.get? b=some o)->h'.get? e=some (aL C od #[.ref h.objs.size,.none,.none,.none,.bool false,.none])->R (.ok (.ret .none)) ⟨h',g,d,t,os⟩):
  codeAny (model prog w) A (.call (.builtin "ValueError.__init__") ⟨.ref e::us,[]⟩) R ⟨h,g,d,t,os⟩:=by
 have F:=yW;have c1:(Value.ref C::bm).contains (.type "ValueError")=true:=by rw[zJ,B.val,yS]
 have st:=F.noStar;refine codeAny_call_builtin F.init.plain F.initEntry ?_;simp only[checkBuiltinCall,F.initKind,F.initSplit,F.initRow]
 repeat (first|with_reducible refine wpAny_loadPart_at he ?_|with_reducible refine wpAny_loadPart_at hC ?_|(with_reducible refine wpAny_isSubtype_exc hC ?_;rw[c1])|wp_step)
 refine wpAny_onRaise ?_;rw[show ∀(a b:String) (n:Nat),Bind.check ⟨.positional,"*","ValueError",.self,[⟨"args",.varPos,false⟩]⟩ a b n (List.map (λx=>x.fst) ({pos:=Value.ref e::us}:Args).kw)=pure () from λa b n=>check_star_args _ _ _ _ _ _];refine wpAny_pure ?_
 wp_walk
 have he1:(h.push (d9 us)).get? e=some (aL C od #[.ref t0,.none,.none,.none,.bool false,.none]):=Heap.get?_push_of_some _ he;refine hq _ (λb o z k=>?_) ?_
 .rw[Heap.get?_update_other _ _ (Ne.symm z)];exact Heap.get?_push_of_some _ k
 .exact Heap.get?_update_self _ he1 rfl
end
end
end L2
namespace L2
open PySem PySem.Spec PyProof.Rows PySem.W
variable {E:Value->Shared->Prop}
section
variable {prog:Program} {w:World} {A:Around} {s:Shared} {K:PySem.W.Frag} {e C:Addr} {bm:List Value}
theorem XCls.cd (Y:XCls K C bm):∃cd,clsIn K C=some cd/\cd.mro= .ref C::bm/\cd.hasDict=true:=by
 obtain⟨nm,q,N,bs,sn,sub,ab,col,dd,k0,k1,k2,k3,k5,hK⟩:=Y.ob;exact⟨_,by unfold clsIn;rw[hK],rfl,rfl⟩
theorem XCls.inst (Y:XCls K C bm) (X:K.In s.heap) {od:Option Addr} {vs:Array Value} (he:s.heap.get? e=some (aL C od vs)) (T:String) (hT:bm.contains (.type T)=true):Looks (model prog w) s.heap (isInstance (.ref e) (.type T)) true:=by
 obtain⟨cd,hc,hm,_⟩:=Y.cd;refine((Looks.ld he).andThen .now:Looks (model prog w) s.heap (typeOf (.ref e)) (.ref C)).andThen (looks_mroIn X ?_);unfold mroIn;rw[hc,y7,if_neg (by rw[hm];exact zb),hm,zJ,hT,yS]
end
end L2
namespace L2
open PySem PySem.Spec PyProof.Rows PySem.W
variable {vs:Array Value} {r:Builtin.ObjectAttr.Found} {odx:Option Addr} {od:Option Obj} {E Q:Value->Shared->Prop}
section
variable {prog:Program} {w:World} {A:Around} {s:Shared} {K:PySem.W.Frag} {e C:Addr} {bm:List Value}
theorem bga_slot:Slot "ValueError" "__getattribute__" "BaseException.__getattribute__":=
 .of (owner:="BaseException") (n:="__getattribute__") (by rw[typeLookup_type,builtinLookup_eq_fast];kernel_rfl) (by decide+kernel) (by decide+kernel) (by decide+kernel)
  (by first|exact .inl (by decide+kernel)|exact .inr (by decide+kernel)) (by rw[isSubtype_type];kernel_rfl)
theorem sJ {name:Str} {expr fill:Bool} {tk:Tok} (X:K.In s.heap) (Y:XCls K C bm) (I:InstAt s.heap e (aL C odx vs) C od)
  (hf:findObj K C od name=some r)
  (hq:wpAny (model prog w) A.in1 (match r with| .value v=>ret v| .bind g a=>Builtin.ObjectAttr.bindTo g a (.ref e) (.ref C)| .missing=>ret .none) (λfin s'=>match fin with| .done (.ret v)=>wpAny (model prog w) A (handedOut v) Q E s'|_=>False) (λ_ _=>False) s)
  (hr:r≠ .missing):wpAny (model prog w) A (getAttrBy (.ref e) (.str name tk) fill expr) Q E s:=by
 obtain⟨h,g,d,t,os⟩:=s;have L0:=I.type (M:=model prog w);have L1:=looks_findIn (M:=model prog w) (h:=h) X Y.ga;have L2:=looks_findIn (M:=model prog w) (h:=h) X Y.gn;have L3:=looks_find (M:=model prog w) (h:=h) X I hf;unfold getAttrBy;refine wpAny_holding (wpAny_bind (L0.at (wpAny_bind (L1.at ?_))));dsimp only;have n2:(Value.builtin "BaseException.__getattribute__"==Value.builtin "object.__getattribute__")=false:=by decide+kernel
 rw[n2,yv,if_neg zb];unfold getAttrByItsOwn hookBefore;rw[if_pos (show onTheHeap (.ref C)=true from rfl)];refine wpAny_bind (L2.at (wpAny_bind (wpAny_attempt (wpAny_holding ?_))));unfold callGetattribute;rw[show(expr&&onTheHeap (Value.builtin "BaseException.__getattribute__"))=false from yv _,if_neg zb];unfold boundAndCalled;rw[bga_slot.bind];refine wpAny_bind (wpAny_pure ?_);show wpAny _ _ (call (.builtin "BaseException.__getattribute__") [.ref e,.str name tk]) _ _ _;refine wpAny_call (codeAny_call_builtin bga_slot.plain PySem.F.entry_bexc_ga (@check_slot (model prog w) _ _ ⟨h,g,d,t,os⟩ "BaseException.__getattribute__" "BaseException" "__getattribute__" (.ref e) [.str name tk] [] _ (by decide+kernel) (by decide+kernel) (Y.inst (s:=⟨h,g,d,t,os⟩) X I.at_ "BaseException" Y.mro.bas) (PySem.F.args_bexc_ga _ _) ?_));unfold Builtin.«object.__getattribute__»;refine wpAny_bind (wpAny_pure (wpAny_bind (wpAny_pure (wpAny_bind (L0.at (wpAny_bind (L3.at ?_)))))));cases r with
 |missing=>exact absurd rfl hr
 |value v=>
  refine wpAny_mono hq (λfin s' z=>?_) λ_ _ z=>z.elim;rcases fin with(_|_|_|_)|_<;>first|exact z|exact z.elim
 |bind g' a=>
  refine wpAny_mono hq (λfin s' z=>?_) λ_ _ z=>z.elim;rcases fin with(_|_|_|_)|_<;>first|exact z|exact z.elim
structure XIs (K:PySem.W.Frag) (C:Addr):Prop where
 ha:findIn K (.ref C) "__class__"=some (some (.builtin "object.__class__"))
 hn:specialIn K (.builtin "object.__class__") "__get__"=some (some (.builtin "getset_descriptor.__get__"))
 tk:takesIn K (.builtin "object.__class__")=some true
 hm:mroIn K C (.type "object")=some true
theorem qW {Q:Option Value->Shared->Prop} (X:K.In s.heap) (Y:XCls K C bm) (Z:XIs K C) (I:InstAt s.heap e (aL C odx vs) C od) (h:Q (some (.ref C)) {s with toks:=s.toks+1}):
  wpAny (model prog w) A (getAttr? (.ref e) "__class__") Q E s:=by
 obtain⟨cd,hc,hm,hdc⟩:=Y.cd;have hf:findObj K C od "__class__"=some (.bind (.builtin "getset_descriptor.__get__") (.builtin "object.__class__")):=by
  unfold findObj;rw[hc,y7,Z.ha,y7];dsimp only;rw[Z.hn,y7];dsimp only;rw[Z.tk];rfl
 unfold getAttr? getAttrBy?;refine wpAny_bind (wpAny_mkText (wpAny_bind (wpAny_attempt ?_)));refine sJ (s:={s with toks:=s.toks+1}) X Y I hf ?_ (by intro z;cases z);show wpAny _ _ (holding [.builtin "object.__class__"] (call (.builtin "getset_descriptor.__get__") [.builtin "object.__class__",.ref e,.ref C])>>=ret) _ _ _;refine wpAny_bind (wpAny_holding (wpAny_call (class_get (s:={s with toks:=s.toks+1}) X I Z.hm ?_)));exact wpAny_pure (by show wpAny _ _ (handedOut _) _ _ _;rw[handedOut_of rfl];exact wpAny_pure (wpAny_pure h))
theorem nP (Y:XCls K C bm) (Z:XIs K C):KitX K (.ref e) (.ref C) (λh=>InstAt h e (aL C odx vs) C od) where
 ty:=λ_ _ _ I=>I.type
 it:=λ_ _ X _=>by
  obtain⟨nm,q,N,bs,sn,sub,ab,col,dd,k0,k1,k2,k3,k5,hK⟩:=Y.ob;intro A' Q' E' s' k q;unfold isType loadHead;exact wpAny_bind (wpAny_loadPart (k _ _ (X _ _ hK)) (wpAny_pure q))
 ne:=λh tp dd its n sl X htp=>by
  obtain⟨nm,q,N,bs,sn,sub,ab,col,dd,k0,k1,k2,k3,k5,hK⟩:=Y.ob;refine Bool.eq_false_iff.mpr λq=>?_;obtain rfl:C=tp:=Value.ref.inj (beq_iff_eq.mp q);have z:=congrArg Obj.cls (Option.some.inj ((X _ _ hK).symm.trans htp));exact absurd (Value.type.inj z) (by decide+kernel)
 ca:=λX I k=>qW X Y Z I k
end
end L2
namespace L2
open PySem PySem.Spec PyProof.Rows PySem.W
variable {C:Addr} {bm:List Value} {K:PySem.W.Frag}
def ExcAt (H:Hp) (e:Addr) (od:Option Addr) (C:Addr) (fs:List (Str×V)):Prop:=H e=some (XO e C od)/\((fs=[]/\od=none)\/∃dx,od=some dx/\H dx=some (.xd fs))
section
variable {X:Cx} {pins:List (Addr×Obj)} {σ:St} {H:Hp} {s:Shared}
theorem ExcAt.inst {e:Addr} {od:Option Addr} {fs:List (Str×V)} (I:Inv X pins σ H s) (h:ExcAt H e od C fs):∃vs odo,InstAt s.heap e (aL C od vs) C odo:=by
 obtain⟨h1,h2⟩:=h;obtain⟨vs,r,_⟩:=vj I.hok h1;rcases h2 with⟨_,rfl⟩|⟨dx,rfl,hd⟩
 .exact⟨vs,none,r,rfl,rfl,True.intro⟩
 .obtain⟨mA,⟨o,es,ep,ho,_⟩,_⟩:=(show ObjOk X.prog X.w H s.heap dx (.xd fs) from I.hok dx _ hd);exact⟨vs,some o,r,rfl,rfl,ho⟩
theorem mC {D:Addr} {bm':List Value} {b:Bool} (Y:XCls K C bm) (Z:XCls K D bm') (h:subIn K (.ref C) (.ref D)=some b):kitOne K (.ref C) (.ref D)=some b:=by
 unfold kitOne;obtain⟨cd,hc,hm,_⟩:=Y.cd;obtain⟨cd',hc',_,_⟩:=Z.cd;by_cases z:((Value.ref C:Value)== .ref D)=true
 .rw[if_pos z];obtain rfl:C=D:=Value.ref.inj (beq_iff_eq.mp z);have:subIn K (.ref C) (.ref C)=some true:=by
   show mroIn K C (.ref C)=some true;unfold mroIn;rw[hc,y7,if_neg (by rw[hm];exact zb),hm,zJ];simp
  rw[h]at this;rw[this]
 .rw[if_neg z];obtain⟨nm,q,N,bs,sn,sub,ab,col,dd,k0,k1,k2,k3,k5,hK⟩:=Z.ob;have ht:typeIn K (.ref D)=some (.type "type"):=by
   show(K.lookup D).map (·.cls)=_;rw[hK];rfl
  show(if((clsIn K D).isSome&&typeIn K (.ref D)==some (.type "type"))=true then subIn K (.ref C) (.ref D)else none)=some b;rw[if_pos (by rw[hc',ht];simp),h]
theorem uL (Y:XCls K C bm):kitOne K (.ref C) (.type "ValueError")=some true:=by
 unfold kitOne;obtain⟨cd,hc,hm,_⟩:=Y.cd;rw[if_neg (by intro z;cases beq_iff_eq.mp z)];show(if kitMeta "ValueError"=true then subIn K (.ref C) (.type "ValueError")else none)=some true;rw[if_pos (by decide+kernel)];show mroIn K C (.type "ValueError")=some true;unfold mroIn;rw[hc,y7,if_neg (by rw[hm];exact zb),hm,zJ,Y.mro.val,yS]
theorem dS (K:PySem.W.Frag) (hK:X.K=K):fW X (.builtin "isinstance") (λxs H Q=>∃e od C fs bm D b,xs=[.ref e,.ref D]/\ExcAt H e od C fs/\XCls K C bm/\XIs K C/\kitOne K (.ref C) (.ref D)=some b/\Q (.bl b) H):=by
 subst hK;intro pins s σ H xs us Q I r h;obtain⟨e,od,C,fs,bm,D,b,rfl,hx,Y,Z,hk,q⟩:=h;obtain⟨u0,u1,rfl,r0,r1⟩:=mU r;cases (show u0=Value.ref e from r0);cases (show u1=Value.ref D from r1);obtain⟨vs,odo,J⟩:=hx.inst I;exact kia_one (nP Y Z) I.kIn J hk (λz=>by cases z) λtk=>⟨.bl b,H,I.tok _,rfl,q⟩
theorem kQ (K:PySem.W.Frag) (hK:X.K=K):fW X (.builtin "isinstance") (λxs H Q=>∃e od C fs bm n b,xs=[.ref e,.ty n]/\ExcAt H e od C fs/\XCls K C bm/\XIs K C/\kitOne K (.ref C) (.type n)=some b/\Q (.bl b) H):=by
 subst hK;intro pins s σ H xs us Q I r h;obtain⟨e,od,C,fs,bm,n,b,rfl,hx,Y,Z,hk,q⟩:=h;obtain⟨u0,u1,rfl,r0,r1⟩:=mU r;cases (show u0=Value.ref e from r0);cases (show u1=Value.type n from r1);obtain⟨vs,odo,J⟩:=hx.inst I;exact kia_one (nP Y Z) I.kIn J hk (λz=>by cases z) λtk=>⟨.bl b,H,I.tok _,rfl,q⟩
end
end L2
namespace L2
open PySem PySem.Spec PyProof.Rows PySem.W
variable {C:Addr} {φ:Heap->Prop}
section
variable {X:Cx} {pins:List (Addr×Obj)} {σ:St} {H:Hp} {s:Shared}
theorem Inv.madeX {us:List Value} (I:Inv X pins σ H s):Inv X pins σ (upd H (s.heap.objs.size+1) (XN (s.heap.objs.size+1) C none)) {s with heap:=(s.heap.push (d9 us)).push (bJ C s.heap.objs.size)}:=
 I.laid (t':=s.toks) (λb o e=>Heap.get?_push_of_some _ (Heap.get?_push_of_some _ e)) (yH _) (vk (t:=s.heap.objs.size) (by heap_get))
def pE (C:Addr) (t:TA):TE:=λσ H Q=>t σ H λvs H1=>vs.length<=1000/\∀e,H1 e=none->Q (.ref e) (upd H1 e (XN e C none))
variable {CX:CXT} {k:Nat} {f:Addr} {fd:FuncData} {ps:List Str} {sp:Sp} {dvs:List V} {ds:List Value} {E:XK} {x m:Str} {p pos apos:Pos} {e o:Expr} {es:List Expr} {ta:TE} {t:TA} {bm:List Value}
theorem Inv.rewrite {ea:Addr} {od:Option Addr} {t1:Addr} {h':Heap} {tk:Nat} (I:Inv X pins σ H s) (hx:H ea=some (.ext φ)) (k:∀b o,b≠ea->s.heap.get? b=some o->h'.get? b=some o)
  (new:h'.get? ea=some (aL C od #[.ref t1,.none,.none,.none,.bool false,.none])):Inv X pins σ (upd H ea (XN ea C od)) {s with heap:=h',toks:=tk}:=
 I.write (x:=ea) (e:=ea) (by rw[hx];exact True.intro) (.inl rfl) k ⟨_,new⟩ (vk new)
theorem dY (Y:XCls X.K C bm) (hi:findIn X.K (.ref C) "__init__"=some (some (.builtin "ValueError.__init__"))) (hg:Gl X x) (hm:X.mg x=some (.ref C))
  (ha:PA X (e::es) t) (hdb:(x==("__debug__":Str))=false:=by decide) (he:starEach (e::es) X.env=(false,eval e X.env)::starEach es X.env:=by rfl) (hpl:(backTo pos (starEach es X.env)).any (·.1)=false:=by rfl):
  PE X (.Call (.Name x p) (e::es) [] pos) (pE C t):=by
 intro pins s σ H Q I h;refine wpAny_Call_Name_kw (f9 I hg hm ?_ hdb);refine yT (h₀:=X.base) I.ok.mod.kin Y.kp (thn (ha pos pins s σ H _ I h) λus s1 ⟨vs,H1,I1,r,hz,q⟩=>⟨I1.kIn,?_⟩) he hpl;have hz2:us.length<=sizeLine:=by rw[<-r.length];exact Q3 (ci hz)
 have I2:=Inv.madeX (C:=C) (us:=us) I1;have q2:=q (s1.heap.objs.size+1) (I1.hok.fresh (yH _));obtain⟨nm,q',N,bs,sn,sub,ab,col,dd,k0,k1,k2,k3,k5,hK⟩:=Y.ob;have hC:=I2.kIn _ _ hK;obtain⟨h0,g0,d0,t0,o0⟩:=s1;refine wpAny_call (sK I1.kIn Y hz2 hi (λself=>Looks.of_pure (yW.init.bind self)) ?_);refine sL Y.mro hC (t0:=h0.objs.size) (by heap_get) hz2 λh' k' n'=>⟨rfl,?_⟩;have I3:=I2.rewrite (C:=C) (od:=none) (tk:=t0) ag k' n';rw[cK]at I3;exact⟨V.ref (h0.objs.size+1),_,I3,rfl,q2⟩
end
end L2
namespace L2
open PySem PySem.Spec PyProof.Rows PySem.W
variable {f:Addr} {A:Around} {Q:Flow->Shared->Prop} {H:Hp} {s:Shared} {W:Value->Shared->Prop} {E:XK}
structure xN (K:PySem.W.Frag) (C:Addr) (m:Str) (v:Value):Prop where
 sp:specialIn K (.ref C) "__getattribute__"=some (some (.builtin "type.__getattribute__"))
 rd:readsIn K C (.type "type")=true
 at_:findCls K (.ref C) (.type "type") m=some (.val v)
section
variable {X:Cx} {pins:List (Addr×Obj)} {σ:St}
variable {CX:CXT} {k:Nat} {C:Addr} {fd:FuncData} {ps:List Str} {sp:Sp} {dvs:List V} {ds:List Value} {x m:Str} {p pos apos:Pos} {e o:Expr} {es:List Expr} {ta:TE} {t:TA} {bm:List Value}
theorem qy {env:Env} {y:Sem Value} {M:Model} (hh:A.handled=none)
  (h:wpAny M A y (λv s1=>∃ea C od t nm q N bs bm sn sub ab col dd k0 k1 k2 k3 k5,v= .ref ea/\s1.heap.get? C=some (excClassObj nm q C N bs bm true sn sub ab col dd k0 k1 k2 k3 k5 "ValueError.__new__")/\ExcMro bm/\
   s1.heap.get? ea=some (aL C od #[.ref t,.none,.none,.none,.bool false,.none])/\W (.ref ea) s1) W s):wpAny M A (raiseStmt env (some y) none) Q W s:=by
 unfold raiseStmt;refine wpAny_bind (wpAny_mono h (λv s1 z=>?_) λ_ _ z=>z);obtain⟨ea,C,od,t,nm,q,N,bs,bm,sn,sub,ab,col,dd,k0,k1,k2,k3,k5,rfl,hC,B,he,hE⟩:=z;have cB:(Value.ref C::bm).contains (.type "BaseException")=true:=by rw[zJ,B.bas,yS]
 obtain⟨hp,g,d,tk,os⟩:=s1
 repeat (first|with_reducible refine wpAny_loadPart_at he ?_|with_reducible refine wpAny_loadPart_at hC ?_|(with_reducible refine wpAny_isSubtype_exc hC ?_;rw[cB])|wp_step)
 exact wpAny_raiseNew_none hh hE
def tj (X:Cx) (E:XK):Prop:=∀e s,qj X (λ_=>E) e s->X.xe e s
def rL (K:PySem.W.Frag) (te:TE) (E:XK):TS:=λ_ σ H=>te σ H λv H1=>∃ea C od bm,v= .ref ea/\H1 ea=some (XN ea C od)/\XCls K C bm/\E (.ref ea) od (upd H1 ea (XO ea C od))
theorem fE {ex:Expr} {te:TE} {pos:Pos} (hc:X.calm=true) (hx:tj X E) (he:PE X ex te):PS X (.Raise (some ex) none pos) (rL X.K te E):=by
 intro pins s σ H D I h;rw[arm_exec_Raise];simp only[evalOpt,Option.map];refine wpAny_bind (wpAny_standAt (qy (I.ok.hd hc) (wpAny_bind (thn (he pins s σ H _ I h) λv s1 ⟨y,H1,I1,ry,ea,C,od,bm,ev,hn,Y,q⟩=>wpAny_bind (wpAny_standAt (wpAny_pure ?_))))));subst ev;cases (show v=Value.ref ea from ry);obtain⟨nm,q',N,bs,sn,sub,ab,col,dd,k0,k1,k2,k3,k5,hK⟩:=Y.ob;obtain⟨t,he'⟩:=w6 I1.hok hn;exact⟨ea,C,od,t,nm,q',N,bs,bm,sn,sub,ab,col,dd,k0,k1,k2,k3,k5,rfl,I1.kIn _ _ hK,Y.mro,he',hx _ _ ⟨pins,σ,H1,ea,C,od,_,_,rfl,I1,hn,he',(by show 1<6;decide),.inl rfl,q⟩⟩
end
theorem gQ {P:Program} {w:World} {K:PySem.W.Frag} {mg:Str->Option Value} {base:Heap} {N:List Str} {qual:Str} {scope:Scope} {cd:Value} {outer:List Env}:
  tj (ja (CX1 P w) P w K mg base N qual scope f cd A outer s H E) E:=λ_ _ h=>nO h
end L2
namespace L2
open PySem PySem.Spec PyProof.Rows PySem.W
variable {A:Around} {Q:Bool->Shared->Prop} {pn:List (Addr×Obj)} {M:Model} {s:Shared} {W:Value->Shared->Prop}
section
variable {nm q nm' q':Str} {C N C' N':Addr} {bs bm bs' bm':List Value} {sn sn':List Str} {sub sub':List Value} {ab ab':Bool} {col col':Option Bool} {dd dd':Option Addr} {k0 k1 k2 k3 k5 k0' k1' k2' k3' k5':Option Value}
theorem qV {e:Addr} {od:Option Addr} {vs:Array Value} {b:Bool} (hC:s.heap.get? C=some (excClassObj nm q C N bs bm true sn sub ab col dd k0 k1 k2 k3 k5 "ValueError.__new__"))
  (hD:s.heap.get? C'=some (excClassObj nm' q' C' N' bs' bm' true sn' sub' ab' col' dd' k0' k1' k2' k3' k5' "ValueError.__new__")) (B:ExcMro bm') (he:s.heap.get? e=some (aL C od vs)) (hb:(Value.ref C::bm).contains (.ref C')=b)
  (hq:Q b s):wpAny M A (excMatches (.ref e) (.ref C')) Q W s:=by
 have cB:(Value.ref C'::bm').contains (.type "BaseException")=true:=by rw[zJ,B.bas,yS]
 have f:=tc_notTuple;obtain⟨hp,g,d,t,os⟩:=s;unfold excMatches
 repeat (first|with_reducible refine wpAny_loadPart_at he ?_|with_reducible refine wpAny_loadPart_at hD ?_|(with_reducible refine wpAny_isSubtype_exc hD ?_;rw[cB])|(with_reducible refine wpAny_isSubtype_exc hC ?_;rw[hb])|wp_step)
 cases b<;>(wp_walk;exact hq)
end
abbrev Cx.sui (X:Cx) (ea:Addr):Cx:={X with A:=X.A.mark (some (.ref ea)),calm:=false,xe:=λ_ _=>False}
abbrev Cx.tr (X:Cx) (pn:List (Addr×Obj)) (E:St->XK):Cx:={X with pn:=X.pn++pn,xe:=qj {X with pn:=X.pn++pn} E}
section
variable {X:Cx} {pins:List (Addr×Obj)} {σ:St} {H:Hp}
theorem Cx.Ok.sui (ok:X.Ok) (ea:Addr):(X.sui ea).Ok:=
 ⟨ok.mod,ok.kind,ok.glob,ok.blt,ok.above,ok.inj,ok.has,ok.cab,λz=>absurd z zb,ok.frames,ok.stk,ok.exf,ok.bs,ok.bsz,ok.noex,ok.exfs,ok.funs,ok.frf⟩
theorem Inv.sui (I:Inv X pins σ H s) (ea:Addr):Inv (X.sui ea) pins σ H s:=⟨I.ok.sui ea,I.os,I.bare,I.base,I.loc,I.cell,I.free,I.freeC,I.pin,I.hok,I.len⟩
theorem Inv.back {ea:Addr} (ok:X.Ok) (I:Inv (X.sui ea) pins σ H s):Inv X pins σ H s:=⟨ok,I.os,I.bare,I.base,I.loc,I.cell,I.free,I.freeC,I.pin,I.hok,I.len⟩
theorem Cx.Ok.tr (ok:X.Ok) (pn:List (Addr×Obj)) (E:St->XK):(X.tr pn E).Ok:=
 ⟨ok.mod,ok.kind,ok.glob,ok.blt,ok.above,ok.inj,ok.has,ok.cab,ok.hd,ok.frames,ok.stk,ok.exf,ok.bs,ok.bsz,ok.noex,ok.exfs,ok.funs,ok.frf⟩
theorem Inv.tr (I:Inv X pins σ H s) (E:St->XK):Inv (X.tr pins E) [] σ H s:=⟨I.ok.tr pins E,I.os,I.bare,I.base,I.loc,I.cell,I.free,I.freeC,λp hp=>I.pin p (by simpa using hp),I.hok,I.len⟩
theorem Inv.untr (ok:X.Ok) (I:Inv {X with pn:=X.pn++pn} pins σ H s):Inv X pn σ H s:=
 ⟨ok,I.os,I.bare,I.base,I.loc,I.cell,I.free,I.freeC,λp hp=>I.pin p (zR _ hp),I.hok,I.len⟩
theorem Inv.untr' {E:St->XK} (ok:X.Ok) (I:Inv (X.tr pn E) pins σ H s):Inv X pn σ H s:=
 ⟨ok,I.os,I.bare,I.base,I.loc,I.cell,I.free,I.freeC,λp hp=>I.pin p (zR _ hp),I.hok,I.len⟩
theorem fX {i:Nat} {x:Str} {pos:Pos} {Q:Unit->Shared->Prop} (I:Inv X pins σ H s) (hN:X.N.Nodup) (hi:X.N[i]?=some x) (hk:X.env.scope.names.lookup x=some .local)
  (h:∀s',Inv X pins (σ.set i none) H s'->Q () s'):wpAny M A (do bindName X.env x .none;unbindBehindTheSuite X.env x pos) Q W s:=by
 obtain⟨m,hn,hl⟩:=id I.loc;have hiσ:i<σ.length:=by rw[I.len];exact(za.mp hi).1
 have above:∀b o,X.s₀.heap.get? b=some o->b≠X.env.locals:=λb o e=>zI (zq (Heap.lt_size e) I.ok.above);refine wpAny_nameGoes_keeps hk hn (by rw[I.ok.kind];rfl) λh' v hn' hs=>h _ ?_;have cl:∀y c,X.env.cells.lookup y=some c->∀w,s.heap.IsCell c w->h'.IsCell c w:=λy c e w z=>z.sameBut hs (I.cne y c e);refine⟨I.ok,I.os,I.bare,⟨λb o e n hb hx=>(hs.2 b (above b o e)).trans (I.base.keep b o e n hb hx),λb o e n hb hx=>?_,I.base.free,λb o e hx=>?_,I.base.tups,I.base.frzs,I.base.tbls⟩,⟨_,hn',λj y v' e1 e2 e3=>?_⟩,λy c e=>?_,I.free,I.freeC,λp hp=>?_,λb ob e=>?_,by simpa using I.len⟩
 .obtain⟨sl,r⟩:=I.base.slot b o e n hb hx;exact⟨sl,(hs.2 b (above b o e)).trans r⟩
 .obtain⟨o',r⟩:=I.base.there b o e hx;exact⟨o',(hs.2 b (above b o e)).trans r⟩
 .have hj:j≠i:=λz=>by rw[z,Q4 hiσ]at e2;cases e2
  rw[Q9 (Ne.symm hj)]at e2;obtain⟨u,r,q⟩:=hl j y v' e1 e2 e3;refine⟨u,r,?_⟩;rcases q with⟨k,e⟩|⟨k,c,e,z⟩
  .have ny:y≠x:=λz=>hj (j5 hN e1 (z▸hi));exact .inl ⟨k,by simp[ny,e]⟩
  .exact .inr ⟨k,c,e,cl y c e _ z⟩
 .obtain⟨w',z⟩:=I.cell y c e;exact⟨w',cl y c e w' z⟩
 .obtain⟨e,n,ne,nf,d⟩:=I.pin p hp;exact⟨(hs.2 p.1 ne).trans e,n,ne,nf,d⟩
 .refine(I.hok b ob e).stay (λc w' hc r=>(hs.2 c ?_).trans r) (λ_ r=>r) λ_ _ r=>r;rintro rfl;have fr:=I.free;rcases hc with rfl|hc
  .rw[fr]at e;cases e
  .rw[fr]at hc;cases hc
end
end L2
namespace L2
open PySem PySem.Spec PyProof.Rows PySem.W
variable {b:Bool} {Q:Flow->Shared->Prop} {hs:List ExceptHandler} {bm:List Value}
abbrev TH:=Ends->St->Hp->Addr->Addr->Option Addr->Prop
def PH (X:Cx) (hs:List ExceptHandler) (t:TH):Prop:=∀(pins:List (Addr×Obj)) (s:Shared) (σ:St) (H:Hp) (D:Ends) (ea C:Addr) (od:Option Addr) (vs:Array Value) (T:Addr),Inv X pins σ H s->H ea=some (XO ea C od)->
 s.heap.get? ea=some (aL C od vs)->Trc s.heap ea vs T .none->fT X pins H T->t D σ H ea C od->wpAny (model X.prog X.w) X.A (handleBy (.ref ea) X.env hs) (SP X pins D) X.xe s
def xH:TH:=λ_ _ _ _ _ _=>False
def Ends.gone (D:Ends) (i:Nat):Ends:=⟨λσ H=>D.nx (σ.set i none) H,D.rt,λσ H=>D.bk (σ.set i none) H,λσ H=>D.ct (σ.set i none) H⟩
def hAs (K:PySem.W.Frag) (Dc:Addr) (i:Nat) (ts:TS) (tr:TH):TH:=λD σ H ea C od=>∃bm b,XCls K C bm/\subIn K (.ref C) (.ref Dc)=some b/\if b=true then ts (D.gone i) (σ.set i (some (.ref ea))) H else tr D σ H ea C od
section
variable {X:Cx} {x n:Str} {np pos:Pos} {b0:Stmt} {suite:List Stmt} {rest:List ExceptHandler} {i:Nat} {ts:TS} {tr:TH} {Dc:Addr} {bm':List Value}
theorem uy:PH X hs xH:=λ_ _ _ _ _ _ _ _ _ _ _ _ _ _ _ h=>h.elim
theorem ud {K:PySem.W.Frag} {C D:Addr} (Y:XCls K C bm) (h:subIn K (.ref C) (.ref D)=some b):(Value.ref C::bm).contains (.ref D)=b:=by
 obtain⟨cd,hc,hm,_⟩:=Y.cd;have h:mroIn K C (.ref D)=some b:=h;unfold mroIn at h;rw[hc,y7,if_neg (by rw[hm];exact zb),hm]at h;exact Option.some.inj h
theorem ux {name:Option Str} {pins:List (Addr×Obj)} {s:Shared} {σ:St} {H:Hp} {ea C:Addr} {od:Option Addr} {vs:Array Value} (I:Inv X pins σ H s) (hr:s.heap.get? ea=some (aL C od vs)) (hg:Gl X x) (hm:X.mg x=some (.ref Dc)) (Z:XCls X.K Dc bm')
  (Y:XCls X.K C bm) (hb:subIn X.K (.ref C) (.ref Dc)=some b) (hdb:(x==("__debug__":Str))=false)
  (h1:b=true->codeAny (model X.prog X.w) (X.A.mark (some (.ref ea))) (.handlers (.ref ea) [.ExceptHandler none name (b0::suite) pos] X.env) (λr s2=>match r with
     | .ok f=>(match name with
      |none=>Q f s2
      |some n=>wpAny (model X.prog X.w) X.A (do bindName X.env n .none;unbindBehindTheSuite X.env n pos) (λ_ s3=>Q f s3) X.xe s2)
     | .error x=>cameBackBy (model X.prog X.w) X.A X.env X.xe x s2) s)
  (h2:b=false->wpAny (model X.prog X.w) X.A (handleBy (.ref ea) X.env rest) Q X.xe s):
  wpAny (model X.prog X.w) X.A (handleBy (.ref ea) X.env (.ExceptHandler (some (.Name x np)) name (b0::suite) pos::rest)) Q X.xe s:=by
 obtain⟨nm,q1,N,bs,sn,sub,ab,col,dd,k0,k1,k2,k3,k5,hK⟩:=Y.ob;obtain⟨nm',q1',N',bs',sn',sub',ab',col',dd',k0',k1',k2',k3',k5',hK'⟩:=Z.ob;refine wpAny_handleBy_cons (codeAny_handlers_test (f9 (X:=X.sui ea) (I.sui ea) hg hm ?_ hdb)) (by intro q;cases q);refine qV (I.kIn _ _ hK) (I.kIn _ _ hK') Z.mro hr (ud Y hb) ?_;cases b with
 |true=>exact h1 rfl
 |false=>exact h2 rfl
theorem xu (hN:X.N.Nodup) (hi:X.N[i]?=some n) (hk:X.env.scope.names.lookup n=some .local) (hg:Gl X x) (hm:X.mg x=some (.ref Dc)) (Z:XCls X.K Dc bm') (hs:∀ea,PSs (X.sui ea) (b0::suite) ts) (hr:PH X rest tr) (hdb:(x==("__debug__":Str))=false:=by decide):
  PH X (.ExceptHandler (some (.Name x np)) (some n) (b0::suite) pos::rest) (hAs X.K Dc i ts tr):=by
 intro pins s σ H D ea C od vs T I hx hre htr hfp h;obtain⟨bm,b,Y,hb,h⟩:=h;refine ux I hre hg hm Z Y hb hdb (λz=>?_) (λz=>?_)
 .subst z;rw[if_pos rfl]at h;refine codeAny_handlers_suite_as (gO (l:=[]) hre htr λh' g1 g2 g3 g4 g5=>?_);have I1:Inv X pins σ H {s with heap:=h'}:=I.turned (t':=s.toks) (it:=T) g1 hfp.1 hfp.2.1 hfp.2.2.2.1 hfp.2.2.2.2.1 hfp.2.2.2.2.2;refine gS (v:= .ref ea) I1 hN hi (.inl hk) rfl (λs2 I2=>?_) (.inr hk);refine wpAny_mono (hs ea pins s2 _ H (D.gone i) (I2.sui ea) h) (λf s4 z=>?_) λ_ _ z=>z.elim;cases f with
  |next=>
   obtain⟨σ',H',I',q⟩:=z;exact fX (I'.back I.ok) hN hi hk λs5 I5=>⟨_,H',I5,q⟩
  |brk=>
   obtain⟨σ',H',I',q⟩:=z;exact fX (I'.back I.ok) hN hi hk λs5 I5=>⟨_,H',I5,q⟩
  |cont=>
   obtain⟨σ',H',I',q⟩:=z;exact fX (I'.back I.ok) hN hi hk λs5 I5=>⟨_,H',I5,q⟩
  |ret u=>
   obtain⟨v,σ',H',I',rv,q⟩:=z;exact fX (I'.back I.ok) hN hi hk λs5 I5=>⟨v,_,H',I5,rv,q⟩
 .subst z;rw[if_neg zb]at h;exact hr pins s σ H D ea C od vs T I hx hre htr hfp h
def sTry (tb:(St->XK)->TS) (th:TH):TS:=λD σ H=>tb (λσ1 v od H1=>∃ea C,v= .ref ea/\H1 ea=some (XO ea C od)/\th D σ1 H1 ea C od) D σ H
theorem wa {body:List Stmt} {h0:ExceptHandler} {tb:(St->XK)->TS} {th:TH} (hst:X.stack=X.env::X.outer) (hf:X.env.frame=some X.env.locals) (hb:∀pn E,PSs (X.tr pn E) body (tb E)) (hh:PH X (h0::hs) th):
  PS X (.Try body (h0::hs) [] [] pos) (sTry tb th):=by
 intro pins s σ H D I h;refine wpAny_Try_except (wpAny_mono (hb pins _ [] s σ H D (I.tr _) h) (λf s1 z=>?_) λe s1 z=>?_)
 .cases f with
  |next=>
   obtain⟨σ',H',I',q⟩:=z;exact wpAny_execs_nil ⟨σ',H',I'.untr' I.ok,q⟩
  |brk=>
   obtain⟨σ',H',I',q⟩:=z;exact⟨σ',H',I'.untr' I.ok,q⟩
  |cont=>
   obtain⟨σ',H',I',q⟩:=z;exact⟨σ',H',I'.untr' I.ok,q⟩
  |ret u=>
   obtain⟨v,σ',H',I',rv,q⟩:=z;exact⟨v,σ',H',I'.untr' I.ok,rv,q⟩
 .obtain⟨pins1,σ1,H1,ea,C,od,vs,φ,rfl,I1,hx,hr,hz,ht,ea',C',e1,e2,q⟩:=z;obtain rfl:ea=ea':=Value.ref.inj e1;refine lh (X:={X with pn:=X.pn++pins}) I1 hst hf I1.ok.frames hx hr hz ht λs2 vs2 T I2 r2 z2 t2 f2=>?_;obtain⟨vs3,r3,_⟩:=vj I2.hok e2;obtain rfl:C=C':=by
   have z:=congrArg Obj.cls (Option.some.inj (r2.symm.trans r3));exact Value.ref.inj z
  exact hh pins s2 σ1 _ D ea C od vs2 T (I2.untr I.ok) e2 r2 t2 ⟨f2.1,f2.2.1,f2.2.2.1,f2.2.2.2.1,f2.2.2.2.2.1,λp hp=>f2.2.2.2.2.2 p (zR _ hp)⟩ q
end
end L2
namespace L2
open PySem PySem.Spec PyProof.Rows PySem.W
variable {X:Cx} {E:St->XK}
def mT (CX:CXT) (X:Cx) (E:St->XK):Prop:=∀(pins:List (Addr×Obj)) (σ:St) (H:Hp) (s:Shared) (e:Value) (s':Shared),Inv X pins σ H s->CX X.stack H s (E σ) e s'->X.xe e s'
theorem xv {pn:List (Addr×Obj)}:mT (CX1 X.prog X.w) (X.tr pn E) E:=λpins σ H s e s' I h=>by
 have ok:Cx.Ok {X with pn:=X.pn++pn}:=⟨I.ok.mod,I.ok.kind,I.ok.glob,I.ok.blt,I.ok.above,I.ok.inj,I.ok.has,I.ok.cab,I.ok.hd,I.ok.frames,I.ok.stk,I.ok.exf,I.ok.bs,I.ok.bsz,I.ok.noex,I.ok.exfs,I.ok.funs,I.ok.frf⟩;have I':Inv {X with pn:=X.pn++pn} pins σ H s:=⟨ok,I.os,I.bare,I.base,I.loc,I.cell,I.free,I.freeC,I.pin,I.hok,I.len⟩;exact I'.flies h λ_ _ _ q=>q
def vZ (sp:Sp) (dvs:List V) (E:St->XK) (t:TA):TE:=λσ H Q=>t σ H λvs H1=>sp (vs++dvs) H1 Q (E σ)
section
variable {CX:CXT} {k:Nat} {f C:Addr} {fd:FuncData} {ps:List Str} {sp:Sp} {dvs:List V} {ds:List Value} {x m:Str} {p pos apos:Pos} {e o:Expr} {es:List Expr} {ta:TE} {t:TA}
theorem ui {pins:List (Addr×Obj)} {σ:St} {H:Hp} {s:Shared} {Q:VK} {us:List Value} {vs:List V} (F:a6 X.prog X.w X.K X.mg X.base CX k f fd ps sp) (hr:Room k X.A) (hb:Binds X.K fd ps ds) (hd:Vals dvs ds) (hx:mT CX X E)
  (I:Inv X pins σ H s) (r:Vals vs us) (h:sp (vs++dvs) H Q (E σ)):wpAny (model X.prog X.w) X.A (call (.ref f) us) (EP X pins σ Q) X.xe s:=by
 have r2:Vals (vs++dvs) (us++ds):=r.append hd;have hl:(us++ds).length=ps.length:=by rw[<-r2.length];exact F.len _ _ _ _ h
 refine wpAny_call (codeAny_mono (F.run X.A X.stack s H ⟨us,[]⟩ (us++ds) (vs++dvs) Q (E σ) hr I.env0 (hb s us I.kIn hl) r2 h) λr s' hq=>?_);cases r with
 |error e=>exact hx pins σ H s e s' I hq
 |ok fl=>cases fl<;>first|exact I.after hq|exact False.elim hq
theorem rY (F:a6 X.prog X.w X.K X.mg X.base CX k f fd ps sp) (hr:Room k X.A) (hg:Gl X x) (hm:X.mg x=some (.ref f)) (hk:PySem.W.keepIn X.K (.ref f)=true) (hb:Binds X.K fd ps ds) (hd:Vals dvs ds) (hx:mT CX X E)
  (ha:PA X (e::es) t) (hdb:(x==("__debug__":Str))=false:=by decide) (he:starEach (e::es) X.env=(false,eval e X.env)::starEach es X.env:=by rfl) (hpl:(backTo pos (starEach es X.env)).any (·.1)=false:=by rfl):
  PE X (.Call (.Name x p) (e::es) [] pos) (vZ sp dvs E t):=by
 intro pins s σ H Q I h;refine wpAny_Call_Name_kw (f9 I hg hm ?_ hdb);refine yT (h₀:=X.base) I.ok.mod.kin hk (thn (ha pos pins s σ H _ I h) λus s1 ⟨vs,H1,I1,r,q⟩=>⟨I1.kIn,?_⟩) he hpl;exact ui F hr hb hd hx I1 r q
end
end L2
namespace L2
open PySem PySem.Spec PyProof.Rows PySem.W
theorem wk {X:Cx} {P:Program} {w:World}:fe (CX1 P w) X E0:=λ_ _ _ _ _ _ _ ⟨_,_,_,_,_,_,_,_,_,_,_,_,_,_,_,_,_,z⟩=>z.elim
end L2
namespace L2
open PySem PySem.Spec PyProof.Rows PySem.W
end L2
namespace L2
open PySem PySem.Spec PyProof.Rows
inductive DV where
 |non|bl (b:Bool)|int (i:Int)|str (x:Str)|lst (xs:List DV)|tup (xs:List DV)
end L2
namespace L2
open PySem PySem.Spec PyProof.Rows
end L2
namespace L2
open PySem PySem.Spec PyProof.Rows SeqAt
section
variable {X:Cx}
theorem pN {st:Stmt}:PS X st (λ_ _ _=>False):=λ_ _ _ _ _ _ h=>h.elim
theorem PlainL.isL {h:Heap} {a:Addr} {xs:Array Value} (p:PlainL h a xs):h.IsList a xs:=by
 obtain⟨o,n,e,c,_,d⟩:=p;exact⟨o,e,c,n,d⟩
def rEqN (K:PySem.W.Frag) (f:Bool):R2:=λx y H Q=>∃a b xs,x= .ref a/\y= .ref b/\SqL K H a xs/\SqL K H b []/\Q (.bl (xs.isEmpty !=f)) H
theorem wo (K:PySem.W.Frag) (hK:X.K=K) (hu:X.A.units+20<cLine):OpR X (compareOp .Eq) (rEqN K false):=by
 subst hK;intro pins s σ H x y v u Q I rx ry h;obtain⟨a,b,xs,rfl,rfl,h1,h2,q⟩:=h;cases rx;cases ry;obtain⟨i1,r1,p1,z1⟩:=I.list h1;obtain⟨i2,r2,p2,z2⟩:=I.list h2;have hu0:X.A.units<cLine:=by lia
 cases r2;cases r1 with
 |nil=>exact RcAt.lists (A:=X.A) (e:=λ_=>true) (PlainL.isL p1) (PlainL.isL p2) rfl hu0 (λj h1=>absurd h1 (Nat.not_lt_zero _)) _ _ _ _ ⟨.bl _,H,I,rfl,q⟩
 |cons r t=>exact RcAt.lists_lengths (PlainL.isL p1) (PlainL.isL p2) (by simp) hu0 _ _ _ _ ⟨.bl _,H,I,rfl,q⟩
theorem wn (K:PySem.W.Frag) (hK:X.K=K) (hu:X.A.units+20<cLine):OpR X (compareOp .NotEq) (rEqN K true):=by
 subst hK;intro pins s σ H x y v u Q I rx ry h;obtain⟨a,b,xs,rfl,rfl,h1,h2,q⟩:=h;cases rx;cases ry;obtain⟨i1,r1,p1,z1⟩:=I.list h1;obtain⟨i2,r2,p2,z2⟩:=I.list h2;have hu0:X.A.units<cLine:=by lia
 cases r2;cases r1 with
 |nil=>exact RcNeAt.lists (A:=X.A) (e:=λ_=>true) (PlainL.isL p1) (PlainL.isL p2) rfl hu0 (λj h1=>absurd h1 (Nat.not_lt_zero _)) _ _ _ _ ⟨.bl _,H,I,rfl,q⟩
 |cons r t=>exact RcNeAt.lists_lengths (PlainL.isL p1) (PlainL.isL p2) (by simp) hu0 _ _ _ _ ⟨.bl _,H,I,rfl,q⟩
end
end L2
namespace L2
open PySem PySem.Spec PyProof.Rows SeqAt
end L2
namespace L2
open PySem PySem.Spec PyProof.Rows
variable {o:HO} {H:Hp} {L:List V} {A B:Prop} {x y:V}
theorem pZ (e:x=y) (h:B):if(!decide (x=y))=true then A else B:=by
 rw[decide_eq_true e];exact d5 h
theorem xE (e:¬x=y) (h:A):if(!decide (x=y))=true then A else B:=by
 rw[decide_eq_false e];exact cf h
theorem mD (e:x=y) (h:A):if decide (x=y)=true then A else B:=by
 rw[decide_eq_true e];exact cf h
theorem ak {p:Addr} (h:H p=none):Same H (upd H p o):=λb u e=>by
 rw[ae (am e h)];exact e
def AllI (P:Int->Prop):List V->Prop
 | []=>True
 | .int m::r=>P m/\AllI P r
 |_::_=>False
theorem AllI.ints {P:Int->Prop}:∀{L:List V},AllI P L->∃ns:List Int,L=ns.map V.int/\∀m∈ns,P m
 | [],_=>⟨[],rfl,λ_ z=>nomatch z⟩
 | .int m::r,h=>by
  obtain⟨ns,e,q⟩:=AllI.ints h.2;refine⟨m::ns,by rw[e];rfl,λx hx=>?_⟩;rcases zh.mp hx with rfl|hx
  .exact h.1
  .exact q x hx
theorem vD {P:Int->Prop} {c n:Int} (h:AllI P L) (hn:(L.length:Int)=n) (hp:0<n):∃m,atI L (c%n)=some (.int m)/\P m:=by
 obtain⟨ns,e,q⟩:=h.ints;subst e;have a:=zz c (yJ hp);have b:=zB c hp;rw[z8]at hn;have hlt:(c%n).toNat<ns.length:=by lia
 refine⟨_,oj a (by lia),q _ ?_⟩;rw[zX,zc hlt];exact yM hlt
theorem vB {c n:Int} (hn:(L.length:Int)=n) (hp:0<n):∃v,atI L (c%n)=some v/\v∈L:=by
 have a:=zz c (yJ hp);have b:=zB c hp;have hlt:(c%n).toNat<L.length:=by lia
 refine⟨L[(c%n).toNat],?_,yM hlt⟩;unfold atI ixN;rw[if_pos a,if_pos (by lia)];exact zc hlt
theorem ft {H':Hp} {l:Addr} (s:Same H H') (n:H l=none):Same H (upd H' l o):=λb u e=>by
 rw[ae (am e n)];exact s b u e
theorem Room.u20 {k:Nat} {A:Around} (r:Room k A):A.units+20<cLine:=by have:=r.un;lia
end L2
namespace Srt
open PySem PyProof.Rows
end Srt
namespace Srt
open PySem PyProof.Rows
end Srt
namespace Srt
open PySem PyProof.Rows
end Srt
namespace Srt
open PySem PyProof.Rows
end Srt
namespace Srt
open PySem PyProof.Rows
end Srt
namespace L2
open PySem PySem.Spec PyProof.Rows
end L2
namespace Srt
open PySem PyProof.Rows
end Srt
namespace L2
open PySem PySem.Spec PyProof.Rows
variable {C D d:Addr} {X:Cx} {elt iter l tg:Expr} {H H1 H4:Hp} {Fin:Hp->Prop} {J:It} {R:It->Hp->Prop} {pins:List (Addr×Obj)} {kvs:List (Key×V)} {vs:List (Key×Value)} {cl:List (Str×Addr)} {elts ifs:List Expr} {M N':List Str} {xs ys:List V} {i n:Nat} {ob:Obj} {pos px:Pos} {P:Program} {K:PySem.W.Frag} {scope:Scope} {s:Shared} {σ:St} {x z:Str} {nx:St->Hp->Prop} {B:St->VK->It->Hp->Prop} {te:TE} {g:TG} {wi:TI} {tb:TS} {tc:TT} {Q rt:VK} {RR:Value->Addr->Result->Shared->Prop} {w:World}
section
section
theorem uM {k:Key} {v:Value} (h:(bn P w).is k v=true):RelV (kV k) v:=by
 rw[oW]at h;cases k with
 |inl i=>
  cases v with
  |int j t=>exact⟨t,by simp[fH,Value.isInt]at h;rw[h]⟩
  |_=>simp[fH,Value.isInt]at h
 |inr x=>
  cases v with
  |str y t=>exact⟨t,by simp[fH,Value.isStrOf]at h;rw[h]⟩
  |_=>simp[fH,Value.isStrOf]at h
def xp (K:PySem.W.Frag):V->List V->Hp->VK->Prop:=λx vs H Q=>∃(sep:Str) (a:Addr) (ys:List Str),x= .str sep/\vs=[.ref a]/\SqL K H a (ys.map V.str)/\sep.length<=16/\(ys.map (·.length)).sum+ys.length<=1048576/\Q (.str (Txt.join sep ys)) H
theorem mY:∀{ys:List Str} {its:List Value},Vals (ys.map V.str) its->StrsAre its ys
 | [],_,.nil=> .nil
 |_::_,_,.cons ⟨t,e⟩ r=>by subst e;exact .cons _ _ (mY r)
theorem mn:MtR X "str.join" (xp X.K):=by
 intro pins s σ H x vs v us Q I rx rv h;obtain⟨sep,a,ys,rfl,rfl,hS,h1,h2,q⟩:=h;obtain⟨t,rfl⟩:=rx;obtain⟨u,rfl,ru⟩:=rv.one;cases ru;obtain⟨its,r,pl,_⟩:=I.list hS;exact join_listW pl.isList (by simpa using mY r) h1 h2 λt' k=>⟨.str _,H,I.tok _,⟨t',rfl⟩,q⟩
end
end
section
theorem gP {env:Env}:∀(l:List (Str×NameKind)) (cs:List (Str×Addr)),(∀p∈l,p.2= .free->∃c,env.cells.lookup p.1=some c)->
  ∃cl,(forIn l cs (λp cs=>if(p.2==NameKind.free)=true then cellOf env p.1>>=λa=>pure (ForInStep.yield ((p.1,a)::cs))else pure (ForInStep.yield cs)):Sem _)=pure cl/\
   (∀y c,cl.lookup y=some c->cs.lookup y=some c\/env.cells.lookup y=some c)/\(∀y c,cs.lookup y=some c->∃c',cl.lookup y=some c')/\(∀y,(y,NameKind.free)∈l->∃c,cl.lookup y=some c)
 | [],cs,_=>⟨cs,by rw[List.forIn_nil],λy c h=> .inl h,λy c h=>⟨c,h⟩,λy h=>nomatch h⟩
 |(n,k)::r,cs,h=>by
  rw[List.forIn_cons];by_cases hk:k= .free
  .subst hk;obtain⟨c,hc⟩:=h (n,.free) zi rfl;have hc:env.cells.lookup n=some c:=hc;have e:cellOf env n=pure c:=by unfold cellOf;rw[hc]
   obtain⟨cl,h1,h2,h3,h4⟩:=gP r ((n,c)::cs) λp hp=>h p (zj _ hp);refine⟨cl,?_,λy c' hy=>?_,λy c' hy=>?_,λy hy=>?_⟩
   .simp only[beq_self_eq_true,if_true,e,pure_bind];exact h1
   .rcases h2 y c' hy with q|q
    .rw[yB]at q;split at q
     .rename_i z
      cases q;rw[beq_iff_eq]at z;subst z;exact .inr hc
     .exact .inl q
    .exact .inr q
   .by_cases z:y=n
    .exact h3 y c (by rw[yB,z];simp)
    .exact h3 y c' (by rw[yB,beq_eq_false_iff_ne.mpr z];exact hy)
   .rcases zh.mp hy with q|q
    .have e1:y=n:=(Prod.mk.inj q).1;exact h3 y c (by rw[yB,e1];simp)
    .exact h4 y q
  .have hb:(k==NameKind.free)=false:=by simpa using hk
   obtain⟨cl,h1,h2,h3,h4⟩:=gP r cs λp hp=>h p (zj _ hp);refine⟨cl,?_,h2,h3,λy hy=>?_⟩
   .simp only[hb,Qg,if_false,pure_bind];exact h1
   .rcases zh.mp hy with q|q
    .exact absurd (Prod.mk.inj q).2.symm hk
    .exact h4 y q
theorem pk {env:Env} (h:∀p∈scope.names,p.2= .free->∃c,env.cells.lookup p.1=some c):
  ∃cl,closureFor scope env=pure cl/\(∀y c,cl.lookup y=some c->env.cells.lookup y=some c)/\(∀y,(y,NameKind.free)∈scope.names->∃c,cl.lookup y=some c):=by
 obtain⟨cl,h1,h2,_,h4⟩:=gP scope.names [] h;refine⟨cl,?_,λy c hy=>(h2 y c hy).resolve_left λz=>by simp at z,h4⟩;unfold closureFor;simp only[bind_pure];exact h1
def cCx (X:Cx) (M N':List Str) (scope:Scope) (cl:List (Str×Addr)) (C:Addr) (s₂:Shared) (H₂:Hp) (fp:List Addr):Cx:=
 {X with N:=M++N',s₀:=s₂,H₀:=H₂,env:=compEnvC scope cl C X.env,outer:=X.stack,stack:=X.stack,ex:=fp,fn:=λ_=>false,pn:=[],xe:=λ_ _=>False}
structure CScope (X:Cx) (M N':List Str) (scope:Scope):Prop where
 kind:scope.kind= .function
 nd:(M++N').Nodup
 ln:N'.length=X.N.length
 own:∀x∈M,scope.names.lookup x=some .local
 nocell:∀y∈scope.names,y.2≠ .cell
 names:∀y∈scope.names,y.2= .local->scope.names.lookup y.1=some .local
 free:∀y∈scope.names,y.2= .free->X.env.kindOf y.1=some .cell
 vis:∀(j:Nat) (y:Str),N'[j]?=some y->Vis (relabel scope X.env) y->X.N[j]?=some y/\(y,NameKind.free)∈scope.names/\(relabel scope X.env).names.lookup y=some .cell
 cells:∀y,((relabel scope X.env).names.lookup y=some .cell\/(relabel scope X.env).names.lookup y=some .free)->(y,NameKind.free)∈scope.names
def qg (n:Nat) (g:TG) (tc:TT) (te:TE) (σ:St) (Q:VK) (J:It) (H1:Hp):Prop:=∀D,H1 D=none->∃W:Nat->Nat->St->List V->Hp->Prop,(∃m,W 0 m (List.replicate n none++σ) [] (upd H1 D (.lst [])))/\∀i m τ ys H2,W i m τ ys H2->H2 D=some (.lst ys)->
 (J.stop i H2/\Q (.ref D) H2)\/(J.go i H2/\∀x H3,J.yld i H2 x H3->∃G:St->Hp->Prop,(∀τ2 H4,G τ2 H4->∃(Ny:VK) (Ns:Hp->Prop),(∀y H6,Ny y H6->H6 D=some (.lst ys)/\ys.length<sizeLine/\∃m',m'<m/\W (i+1) m' τ2 (ys++ [y]) (upd H6 D (.lst (ys++ [y]))))/\
  (∀H5,Ns H5->H5 D=some (.lst ys)/\∃m',m'<m/\W (i+1) m' τ2 ys H5)/\tc τ2 H4 λb H5=>if b=true then te τ2 H5 Ny else Ns H5)/\g x τ H3 G)
def vn:TT:=λ_ H Q=>Q true H
def PTs (X:Cx) (ifs:List Expr) (tc:TT):Prop:=∀(pins:List (Addr×Obj)) (s:Shared) (σ:St) (H:Hp) (Q:Bool->Hp->Prop),Inv X pins σ H s->tc σ H Q->
 wpAny (model X.prog X.w) X.A (forIn ifs true λc r=>if r=true then do let ok<-isTrue c X.env (eval c X.env);pure (ForInStep.yield ok)else pure (ForInStep.yield r)) (λb s'=>∃H',Inv X pins σ H' s'/\Q b H') X.xe s
section
theorem uv:PTs X [] vn:=λ_ _ _ H _ I h=>wpAny_tests_nil ⟨H,I,h⟩
theorem uu {c:Expr} (h:PT X c tc):PTs X [c] tc:=λpins s σ H Q I q=>wpAny_tests_one (h pins s σ H Q I q)
theorem CScope.pg {s₂:Shared} {H₂:Hp} {fp:List Addr} (S:CScope X M N' scope) (h:M[i]?=some x):PG (cCx X M N' scope cl C s₂ H₂ fp) (.Name x px) (iQ i):=
 eM S.nd (by show(M++N')[i]?=_;rw[yX (za.mp h).1];exact h) (.inl (lookup_relabel_local (S.own x (z7 h)))) (.inr (lookup_relabel_local (S.own x (z7 h))))
structure vS (X:Cx) (pins:List (Addr×Obj)) (H:Hp) (C:Addr):Prop where
 no:H C=none
 fr:C≠X.env.locals
 ab:X.s₀.heap.objs.size<=C
 ce:∀x c,X.env.cells.lookup x=some c->c≠C
 pi:∀p∈X.pn++pins,p.1≠C
theorem q9 (hc:X.calm=true) (S:CScope X M N' scope) (hi:PI X tg iter wi)
  (hg:∀cl C s₂ H₂ fp,PG (cCx X M N' scope cl C s₂ H₂ fp) tg g) (hcn:∀cl C s₂ H₂ fp,PTs (cCx X M N' scope cl C s₂ H₂ fp) ifs tc) (he:∀cl C s₂ H₂ fp,PE (cCx X M N' scope cl C s₂ H₂ fp) elt te)
  (cl1:∀y c,cl.lookup y=some c->X.env.cells.lookup y=some c) (cl2:∀y,(y,NameKind.free)∈scope.names->∃c,cl.lookup y=some c) (I:Inv X pins σ H s) (h:wi σ H R) (hB:∀J H,R J H->qg M.length g tc te σ Q J H)
  (hR:∀D C s4 H',Inv X pins σ H' s4->(∃m,s4.heap.Ns C m)->vS X pins H' C->Q (.ref D) H'->RR (.ref D) C (.ok .next) s4):
  wpAny (model X.prog X.w) X.A (eval iter X.env) (λv s1=>wpAny (model X.prog X.w) X.A (pyIter v) (λitv s2=>wpAny (model X.prog X.w) X.A (newList []) (λacc s3=>
   wpAny (model X.prog X.w) X.A (newFunctionEnv scope X.env.globals cl [] X.env.qual none .none (some X.env)) (λcenv s4=>
    codeAny (model X.prog X.w) X.A (.compStart (.ListComp elt [⟨tg,iter,ifs,0⟩] scope pos) 0 itv acc {cenv with scope:=relabel scope X.env}) (RR acc cenv.locals) s4) X.xe s3) X.xe s2) X.xe s1) X.xe s:=by
 refine thn (hi pins s σ H _ I h) λv s1 h1=>thn h1 λitv s2 h2=>?_;obtain⟨it,fp,tn,J,H2,e,I2,T,st2,f2,h⟩:=h2;subst e;refine wpAny_newObj_type (wpAny_newFunctionEnv S.nocell (by intro y hy;simp at hy) (λh₁ hns₁ hsb₁=>?_) S.kind);dsimp only at hns₁ hsb₁⊢;generalize hD:s2.heap.objs.size=D at*;generalize hH3:s2.heap.push {cls:= .type "list",dict:=none,data:= .seq ([]:List Value).toArray}=h3 at hns₁ hsb₁⊢;have hCs:h3.objs.size=D+1:=by rw[<-hH3,Heap.size_push,hD]
 have fD:H2 D=none:=I2.hok.fresh (yA hD);obtain⟨W,⟨m0,w0⟩,turn⟩:=hB _ _ h D fD;generalize hC:h3.objs.size=C at*;have gD:s2.heap.get? D=none:=Heap.get?_none_of_le (yA hD);have gC:s2.heap.get? C=none:=Heap.get?_none_of_le (by rw[hD,hCs];exact yH _);have DC:D≠C:=by rw[hCs];exact zI (Qm _)
 have up3:∀b o,s2.heap.get? b=some o->h3.get? b=some o:=λb o e=>by rw[<-hH3];exact Heap.get?_push_of_some _ e
 have hold:∀b o,h3.get? b=some o->h₁.get? b=some o:=λb o e=>hsb₁.extBut b o (by intro z;have:=Heap.lt_size e;rw[z,hC]at this;exact absurd this (yE _)) (Heap.get?_push_of_some _ e);have up:∀b o,s2.heap.get? b=some o->h₁.get? b=some o:=λb o e=>hold b o (up3 b o e);have oD:h₁.get? D=some {cls:= .type "list",dict:=none,data:= .seq ([]:List Value).toArray}:=hold _ _ (by rw[<-hH3,<-hD];exact Heap.get?_push_size _ rfl);have fpo:∀b∈fp,b≠C/\b∉frs X.stack:=λb hb=>by
  obtain⟨o,e,_⟩:=T.obj _ _ st2 b hb;refine⟨λz=>(by rw[z,gC]at e;cases e),λz=>?_⟩;rcases zh.mp (I2.stkSub b z)with q|q
  .exact(f2 b hb).2.1 q
  .exact(f2 b hb).2.2.1 q
 have fC:H2 C=none:=I2.hok.fresh (by rw[hD,hCs];exact yH _);have ok:(cCx X M N' scope cl C s2 H2 fp).Ok:=
  {mod:=I2.ok.mod,kind:=S.kind,glob:=I2.ok.glob,blt:=I2.ok.blt,above:=by show s2.heap.objs.size<=C;rw[hD,hCs];exact yH _
   inj:=λy z c h1 h2=>I2.ok.inj y z c (cl1 _ _ h1) (cl1 _ _ h2),has:=λy hy=>cl2 y (S.cells y hy),cab:=λy c z=>by cases z
   hd:=I2.ok.hd,frames:=I2.ok.frames,stk:= .inl rfl,exf:=λb hb=>⟨(fpo b hb).1,λy c e=>(f2 b hb).2.2.2.2.1 y c (cl1 y c e)⟩
   bs:=I2.bs,bsz:=zC I2.ok.bsz I2.sz
   noex:=λb o e hb=>by
    rcases(f2 b hb).2.2.2.1 with q|q
    .exact I2.ok.noex b o e q
    .exact absurd (zq (Heap.lt_size e) (zC I2.ok.bsz q)) (yE _)
   exfs:=λb hb=>(fpo b hb).2,funs:=I2.stack,frf:=I2.stkFree}
 have ne2:∀b u,H2 b=some u->b≠D:=λb u e=>am e fD;have I3:Inv (cCx X M N' scope cl C s2 H2 fp) [] (List.replicate M.length none++σ) (upd H2 D (.lst [])) {s2 with heap:=h₁,toks:=s2.toks+([]:List (Str×Value)).length}:=
  {ok:=ok,os:=rfl,bare:=I2.bare,base:=Un.laid up (yA hD) fD
   loc:=⟨_,hns₁,λi y v e1 e2 e3=>by
    by_cases lt:i<M.length
    .have e2:(List.replicate M.length none++σ)[i]?=some (some v):=e2;rw[yX (by rw[zY];exact lt),List.getElem?_replicate,if_pos lt]at e2;cases e2
    .have e1:(M++N')[i]?=some y:=e1;have e2:(List.replicate M.length none++σ)[i]?=some (some v):=e2;rw[yU (Qs.mp lt)]at e1;rw[yU (by rw[zY];exact Qs.mp lt),zY]at e2;generalize i-M.length=j at e1 e2;obtain⟨e1,q1,q2⟩:=S.vis j y e1 e3;have kc:=S.free _ q1 rfl;obtain⟨m,hn,hl⟩:=I2.loc;obtain⟨u,r,l⟩:=hl j y v e1 e2 (.inr (.inl kc));refine⟨u,r,?_⟩;rcases l with⟨k,_⟩|⟨_,c,e,z⟩
     .rw[kc]at k;cases k
     .obtain⟨c',e'⟩:=cl2 y q1;have ee:=cl1 _ _ e';rw[e]at ee;cases ee;obtain⟨o,ho,hd⟩:=z;exact .inr ⟨.inl q2,c,e',o,up _ _ ho,hd⟩⟩
   cell:=λy c e=>by
    obtain⟨v,o,ho,hd⟩:=I2.cell y c (cl1 _ _ e);exact⟨v,o,up _ _ ho,hd⟩
   free:=by show upd H2 D (.lst []) C=none;rw[ae DC.symm];exact fC
   freeC:=λy c e=>by
    have q:=I2.freeC y c (cl1 _ _ e);obtain⟨v,o,ho,hd⟩:=I2.cell y c (cl1 _ _ e);rw[ae (λz=>by rw[z,gD]at ho;cases ho)];exact q
   pin:=λp hp=>absurd (show p∈([]:List (Addr×Obj)) from hp) (by simp)
   hok:=I2.hok.laid up (yA hD) ⟨zF _,[],0,.nil,oD⟩
   len:=by show(List.replicate M.length none++σ).length=(M++N').length;rw[zk,zk,zY,I2.len,S.ln]}
 have stat:∀{H':Hp},(∀b∈fp,H' b=none)->∀b∈fp,fT (cCx X M N' scope cl C s2 H2 fp) [] H' b:=λhn b hb=>
  ⟨hn b hb,(fpo b hb).1,(fpo b hb).2,.inl hb,λy c e=>(f2 b hb).2.2.2.2.1 y c (cl1 _ _ e),λp hp=>absurd (show p∈([]:List (Addr×Obj)) from hp) (by simp)⟩
 have st3:tn 0 h₁:=T.keep _ _ _ st2 λb hb o e=>up b o e;have loop:∀s3:Shared,s3={s2 with heap:=h₁,toks:=s2.toks+([]:List (Str×Value)).length}->
   codeAny (model X.prog X.w) X.A (.compLoop (.ListComp elt [⟨tg,iter,ifs,0⟩] scope pos) 0 (.ref it) (.ref D) (compEnvC scope cl C X.env)) (RR (.ref D) C) s3:=by
  rintro s3 rfl;refine codeAny_loop rfl (λn s'=>∃i τ ys H',Inv (cCx X M N' scope cl C s2 H2 fp) [] τ H' s'/\tn i s'.heap/\(∀b∈fp,H' b=none)/\H' D=some (.lst ys)/\W i n τ ys H') ?_ m0
   ⟨0,_,[],_,I3,st3,λb hb=>by rw[ae (λz=>by obtain⟨o,e,_⟩:=T.obj _ _ st2 b hb;rw[z,gD]at e;cases e)];exact(f2 b hb).1,ag,w0⟩
  rintro n s' ⟨i,τ,ys,H',I',st',fr',hD',w'⟩;show wpAny _ X.A ((compTurn (.ListComp elt [⟨tg,iter,ifs,0⟩] scope pos) 0 (.ref it) (.ref D) (compEnvC scope cl C X.env)).onRaise (λx=>do noteFrame x (compEnvC scope cl C X.env);theTreesLotGoes x)) _ _ s';refine wpAny_noted ?_;rw[compTurn_list];refine wpAny_bind (wpAny_standAt (wpAny_bind ?_));rcases turn i n τ ys H' w' hD' with⟨stop,qn⟩|⟨go,step⟩
  .refine thn (T.done (cCx X M N' scope cl C s2 H2 fp) rfl rfl rfl hc i [] s' _ H' _ I' (stat fr') st' stop) λr s4 ⟨hr,I4⟩=>?_;subst hr;refine wpAny_pure ?_;obtain⟨m,hn,_⟩:=I4.loc;have IX:Inv X pins σ H' s4:=I2.call' (s':=s4) I4.os (show Un (frs X.stack) fp H2 H' s2.heap s4.heap from I4.base) I4.hok I4.bare λb hb=>⟨(f2 b hb).2.2.2.1,(f2 b hb).2.1,(f2 b hb).2.2.2.2.1,(f2 b hb).2.2.2.2.2⟩;refine hR D C s4 H' IX ⟨m,hn⟩ ⟨I4.free,λz=>?_,?_,λy c e z=>?_,λp hp z=>?_⟩ qn
   .have:=I2.lt;rw[<-z,hCs,hD]at this;exact absurd this (Qs.mpr (yH _))
   .refine zC I2.sz ?_;rw[hD,hCs];exact yH _
   .obtain⟨v,o,ho,_⟩:=I2.cell y c e;rw[z,gC]at ho;cases ho
   .have ho:=(I2.pin p hp).1;rw[z,gC]at ho;cases ho
  .refine thn (T.item (cCx X M N' scope cl C s2 H2 fp) rfl rfl rfl hc i [] s' _ H' _ I' (stat fr') st' go) λr s4 ⟨u,hr,h4⟩=>?_;subst hr;refine wpAny_bind (thn h4 λ_ s5 hzz=>?_);obtain⟨y,H5,I5,r5,y5,st5,fr5⟩:=hzz;have I5':=I5.pinned (stat fr5) (T.obj _ _ st5);obtain⟨G,hG,gq⟩:=step y H5 y5;refine wpAny_bind (wpAny_mono (hg cl C s2 H2 fp _ s5 _ H5 y _ _ I5' r5 gq) (λ_ s6 hzz=>?_) λ_ _ f=>f.elim);obtain⟨τ6,H6,I6,q6⟩:=hzz;have fin:∀{τ7:St} {H7:Hp} {s7:Shared},Inv (cCx X M N' scope cl C s2 H2 fp) ([]++jN fp s5.heap) τ7 H7 s7->tn (i+1) s7.heap/\∀b∈fp,H7 b=none:=λ{τ7 H7 s7} I7=>by
    refine⟨T.keep _ _ _ st5 λb hb o e=>(I7.pin (b,o) (zt _ (zt _ (eP hb e)))).1,λb hb=>?_⟩;obtain⟨o,e,d⟩:=T.obj _ _ st5 b hb;exact(I7.pin (b,o) (zt _ (zt _ (eP hb e)))).2.1
   obtain⟨Ny,Ns,hy,hn,q6⟩:=hG _ _ q6;refine wpAny_bind (wpAny_mono (hcn cl C s2 H2 fp _ s6 _ H6 _ I6 q6) (λb s7 ⟨H7,I7,q7⟩=>?_) λ_ _ f=>f.elim);cases b with
   |false=>
    rw[if_neg zb]at q7;obtain⟨hD7,m',hm',w7⟩:=hn _ q7;exact wpAny_pure (show _/\_ from⟨rfl,m',hm',i+1,τ6,ys,_,I7.unpinned,(fin I7).1,(fin I7).2,hD7,w7⟩)
   |true=>
    rw[if_pos rfl]at q7;refine wpAny_bind (wpAny_bind (wpAny_mono (he cl C s2 H2 fp _ s7 _ H7 _ I7 q7) (λz s8 hzz=>?_) λ_ _ f=>f.elim));obtain⟨y',H8,I8,r8,q8⟩:=hzz;obtain⟨hD8,hl8,m',hm',w8⟩:=hy _ _ q8;refine wpAny_bind (wpAny_mono (cn (X:=cCx X M N' scope cl C s2 H2 fp) _ s8 _ H8 (.ref D) [y'] (.ref D) [z] (λ_ H9=>H9=upd H8 D (.lst (ys++ [y']))) I8 rfl (.cons r8 .nil) ⟨D,ys,y',rfl,rfl,hD8,hl8,rfl⟩) (λz9 s9 hzz=>?_) λ_ _ f=>f.elim);obtain⟨_,H9,I9,_,e9⟩:=hzz;subst e9;exact wpAny_pure (wpAny_pure ⟨rfl,m',hm',i+1,τ6,ys++ [y'],_,I9.unpinned,(fin I9).1,(fin I9).2,ag,w8⟩)
 exact codeAny_compStart_list (loop _ rfl) (T.self _ 0 _ _ _ st3 (loop _ rfl))
theorem Inv.loose {h':Heap} (I:Inv X pins σ H s) (l:vS X pins H C) (sb:Heap.SameBut C s.heap h'):Inv X pins σ H {s with heap:=h'}:=
 I.turned (t':=s.toks) (λb o hb e=>(sb.2 b hb).trans e) l.no l.fr (.inr l.ab) l.ce l.pi
section
variable {y:Str} {py spos:Pos}
theorem nE (hB:∀σ Q J H,B σ Q J H->qg M.length g tc te σ Q J H) (hc:X.calm=true) (S:CScope X M N' scope) (hi:PI X tg iter wi) (hg:CScope X M N' scope->∀cl C s₂ H₂ fp,PG (cCx X M N' scope cl C s₂ H₂ fp) tg g) (hcn:∀cl C s₂ H₂ fp,PTs (cCx X M N' scope cl C s₂ H₂ fp) ifs tc) (he:∀cl C s₂ H₂ fp,PE (cCx X M N' scope cl C s₂ H₂ fp) elt te)
  (hs:∀x,foldedSetIterable iter X.env x=pure x:=by intro _;rfl):PE X (.ListComp elt [⟨tg,iter,ifs,0⟩] scope pos) (λσ H Q=>wi σ H (B σ Q)):=by
 intro pins s σ H Q I h;obtain⟨cl,hclos,cl1,cl2⟩:=pk (env:=X.env) (scope:=scope) λp hp hf=>I.ok.has p.1 (.inl (S.free p hp hf));rw[eval_ListComp];refine wpAny_comprehension_free (use:=none) rfl hs hclos S.kind S.names (q9 hc S hi (hg S) hcn he cl1 cl2 I h (hB _ _) λD C s4 H' I4 hn l q=>?_);obtain⟨m,hn⟩:=hn;exact⟨m,hn,λh' sb=>⟨.ref D,H',I4.loose l sb,rfl,q⟩⟩
end
def pr (te:TE) (σ:St) (Q:VK) (J:It) (H1:Hp):Prop:=∀D,H1 D=none->∃W:Nat->Nat->List V->Hp->Prop,(∃m,W 0 m [] (upd H1 D (.lst [])))/\∀i m ys H2,W i m ys H2->H2 D=some (.lst ys)->
 (J.stop i H2/\Q (.ref D) H2)\/(J.go i H2/\∀x H3,J.yld i H2 x H3->te (some x::σ) H3 λy H4=>H4 D=some (.lst ys)/\ys.length<sizeLine/\∃m',m'<m/\W (i+1) m' (ys++ [y]) (upd H4 D (.lst (ys++ [y]))))
def xj (wi:TI) (te:TE):TE:=λσ H Q=>wi σ H (pr te σ Q)
theorem xL (h:pr te σ Q J H1):qg 1 (iQ 0) vn te σ Q J H1:=λD hD=>by
 obtain⟨W,⟨m0,w0⟩,turn⟩:=h D hD;refine⟨λi m τ ys H=>(∃v,τ=v::σ)/\W i m ys H,⟨m0,⟨none,rfl⟩,w0⟩,λi m τ ys H2 w e=>?_⟩;obtain⟨⟨v,rfl⟩,w⟩:=w;rcases turn i m ys H2 w e with z|⟨go,z⟩
 .exact .inl z
 .refine .inr ⟨go,λx H3 y=>⟨λτ2 H4=>τ2=some x::σ/\H4=H3,λτ2 H4 e=>?_,rfl,rfl⟩⟩;obtain⟨rfl,rfl⟩:=e;refine⟨λy H6=>H6 D=some (.lst ys)/\ys.length<sizeLine/\∃m',m'<m/\W (i+1) m' (ys++ [y]) (upd H6 D (.lst (ys++ [y]))),λ_=>False,λy H6 n=>?_,λ_ n=>n.elim,?_⟩
  .obtain⟨n1,n2,m',n3,n4⟩:=n;exact⟨n1,n2,m',n3,⟨_,rfl⟩,n4⟩
  .exact cf (B:=False) (z x _ y)
theorem l9 (hc:X.calm=true) (S:CScope X [x] N' scope) (hi:PI X (.Name x px) iter wi) (he:∀cl C s₂ H₂ fp,PE (cCx X [x] N' scope cl C s₂ H₂ fp) elt te)
  (hs:∀x,foldedSetIterable iter X.env x=pure x:=by intro _;rfl):PE X (.ListComp elt [⟨.Name x px,iter,[],0⟩] scope pos) (xj wi te):=
 nE (B:=pr te) (λ_ _ _ _=>xL) hc S hi (λS _ _ _ _ _=>S.pg rfl) (λ_ _ _ _ _=>uv) he hs
end
def m9 (scope dsc:Scope):List (Str×NameKind):=scope.names.map λp=>if(p.2==NameKind.free&&dsc.kind==ScopeKind.function&&dsc.names.lookup p.1==some NameKind.cell)=true then(p.1,NameKind.cell)else(p.1,p.2)
def vM (M N N':List Str) (dsc:Scope) (scope:Scope):Bool:=
 (scope.kind==ScopeKind.function)&&decide (M++N').Nodup&&(M.all λx=>scope.names.lookup x==some NameKind.local)&&(scope.names.all λy=>y.2 !=NameKind.cell)&&(scope.names.all λy=>y.2 !=NameKind.local||scope.names.lookup y.1==some NameKind.local)
 &&(scope.names.all λy=>y.2 !=NameKind.free||dsc.names.lookup y.1==some NameKind.cell)&&(N'.all λy=>(m9 scope dsc).lookup y !=some NameKind.local&&(m9 scope dsc).lookup y !=some NameKind.free)&&decide (N'.length=N.length)&&(N'.zip N).all λp=>p.1==p.2||(m9 scope dsc).lookup p.1==none
theorem gY {dsc:Scope}:∀{l:List (Str×NameKind)} {y:Str} {k:NameKind},(∀p∈l,p.2≠NameKind.cell)->(l.map λp=>if(p.2==NameKind.free&&dsc.kind==ScopeKind.function&&dsc.names.lookup p.1==some NameKind.cell)=true then(p.1,NameKind.cell)else(p.1,p.2)).lookup y=some k->(k= .cell\/k= .free)->(y,NameKind.free)∈l
 | [],y,k,_,h,_=>by simp at h
 |(n,kk)::r,y,k,hn,h,hk=>by
  rw[zr]at h;by_cases c:(kk==NameKind.free&&dsc.kind==ScopeKind.function&&dsc.names.lookup n==some NameKind.cell)=true
  .dsimp only at h;rw[if_pos c,yB]at h;split at h
   .rename_i z
    rw[beq_iff_eq]at z;subst z;have:kk= .free:=by
     rw[zw,zw]at c;simpa using c.1.1
    rw[this];exact zi
   .exact zj _ (gY (λp hp=>hn p (zj _ hp)) h hk)
  .dsimp only at h;rw[if_neg c,yB]at h;split at h
   .rename_i z
    rw[beq_iff_eq]at z;subst z;cases h;rcases hk with e|e
    .exact absurd e (hn _ zi)
    .rw[e];exact zi
   .exact zj _ (gY (λp hp=>hn p (zj _ hp)) h hk)
theorem CScope.of {dsc:Scope} {N:List Str} (eN:X.N=N) (ed:X.env.scope=dsc) (h:vM M N N' dsc scope=true):CScope X M N' scope:=by
 unfold vM at h;simp only[zw]at h;obtain⟨⟨⟨⟨⟨⟨⟨⟨h1,h2⟩,h3⟩,h4⟩,h5⟩,h6⟩,h7⟩,h8⟩,h9⟩:=h;have hrel:(relabel scope X.env).names=m9 scope dsc:=by rw[<-ed];rfl
 have nocell:∀y∈scope.names,y.2≠NameKind.cell:=λy hy=>by have:=zM.mp h4 y hy;simpa using this
 refine⟨by simpa using h1,of_decide_eq_true h2,by rw[eN];exact of_decide_eq_true h8,λx hx=>by simpa using zM.mp h3 x hx,nocell,λy hy e=>?_,λy hy e=>?_,λj y hj v=>?_,λy e=>?_⟩
 .have:=zM.mp h5 y hy;rw[e]at this;simpa using this
 .have:=zM.mp h6 y hy;rw[e]at this;show X.env.scope.names.lookup y.1=_;rw[ed];simpa using this
 .have nl:=zM.mp h7 y (z7 hj);have hz:∃z,N[j]?=some z/\(y,z)∈N'.zip N:=by
   have lj:=(za.mp hj).1;have l8:N'.length=N.length:=of_decide_eq_true h8;refine⟨N[j]'(by lia),zc _,?_⟩;refine z7 (i:=j) ?_;rw[List.getElem?_zip_eq_some];exact⟨hj,zc _⟩
  obtain⟨z,hz,mz⟩:=hz;have e9:=zM.mp h9 _ mz;unfold Vis at v;rw[hrel]at v⊢;have nl:¬(m9 scope dsc).lookup y=some NameKind.local/\¬(m9 scope dsc).lookup y=some NameKind.free:=by simpa using nl
  rcases v with v|v|v
  .exact absurd v nl.1
  .refine⟨?_,gY nocell v (.inl rfl),v⟩;rw[eN,hz];dsimp only at e9;rw[v,Bool.or_eq_true]at e9;rcases e9 with e9|e9
   .rw[beq_iff_eq]at e9;rw[e9]
   .cases e9
  .exact absurd v nl.2
 .have e:(m9 scope dsc).lookup y=some .cell\/(m9 scope dsc).lookup y=some .free:=by rw[<-hrel];exact e
  rcases e with e|e
  .exact gY nocell e (.inl rfl)
  .exact gY nocell e (.inr rfl)
def CNext (n i:Nat) (ys:List V) (D:Addr) (Pv:Nat->List V->Hp->Prop):VK:=λy H4=>H4 D=some (.lst ys)/\ys.length<sizeLine/\∃m',m'<n-i/\m'=n-(i+1)/\i+1<=n/\Pv (i+1) (ys++ [y]) (upd H4 D (.lst (ys++ [y])))
theorem CNext.mk {Pv:Nat->List V->Hp->Prop} {y:V} (hi:i<n) (h1:H4 D=some (.lst ys)) (h2:ys.length<sizeLine) (h3:Pv (i+1) (ys++ [y]) (upd H4 D (.lst (ys++ [y])))):CNext n i ys D Pv y H4:=
 ⟨h1,h2,n-(i+1),by lia,rfl,hi,h3⟩
theorem qZ {a:Addr} (Pv:Nat->List V->Hp->Prop) (h0:Pv 0 [] (upd H1 D (.lst []))) (hl:∀i ys H,i<=xs.length->Pv i ys H->SqL K H a xs)
  (hs:∀i x ys H2,xs[i]?=some x->Pv i ys H2->H2 D=some (.lst ys)->te (some x::σ) H2 (CNext xs.length i ys D Pv))
  (hd:∀ys H2,Pv xs.length ys H2->H2 D=some (.lst ys)->Fin H2):
  ∃W:Nat->Nat->List V->Hp->Prop,(∃m,W 0 m [] (upd H1 D (.lst [])))/\∀i m ys H2,W i m ys H2->H2 D=some (.lst ys)->
   ((Itl K a).stop i H2/\Fin H2)\/((Itl K a).go i H2/\∀x H3,(Itl K a).yld i H2 x H3->te (some x::σ) H3 λy H4=>H4 D=some (.lst ys)/\ys.length<sizeLine/\∃m',m'<m/\W (i+1) m' (ys++ [y]) (upd H4 D (.lst (ys++ [y])))):=by
 refine⟨λi m ys H=>m=xs.length-i/\i<=xs.length/\Pv i ys H,⟨xs.length,by simp,zF _,h0⟩,?_⟩;rintro i m ys H ⟨rfl,hi,p⟩ hD;have q:=hl i ys H hi p;by_cases lt:i<xs.length
 .refine .inr ⟨⟨xs,xs[i],q,by simp[lt]⟩,λx H' y=>?_⟩;obtain⟨e,y⟩:=y;subst e;exact hs i x ys _ (y xs q) p hD
 .have e:i=xs.length:=by lia
  subst e;exact .inl ⟨⟨xs,q,zg _⟩,hd ys H p hD⟩
theorem pj {lo:Int} (Pv:Nat->List V->Hp->Prop) (h0:Pv 0 [] (upd H1 D (.lst [])))
  (hs:∀i ys H2,i<n->Pv i ys H2->H2 D=some (.lst ys)->te (some (.int (lo+i))::σ) H2 (CNext n i ys D Pv))
  (hd:∀ys H2,Pv n ys H2->H2 D=some (.lst ys)->Fin H2):
  ∃W:Nat->Nat->List V->Hp->Prop,(∃m,W 0 m [] (upd H1 D (.lst [])))/\∀i m ys H2,W i m ys H2->H2 D=some (.lst ys)->
   ((Itr lo n).stop i H2/\Fin H2)\/((Itr lo n).go i H2/\∀x H3,(Itr lo n).yld i H2 x H3->te (some x::σ) H3 λy H4=>H4 D=some (.lst ys)/\ys.length<sizeLine/\∃m',m'<m/\W (i+1) m' (ys++ [y]) (upd H4 D (.lst (ys++ [y])))):=by
 refine⟨λi m ys H=>m=n-i/\i<=n/\Pv i ys H,⟨n,by simp,zF _,h0⟩,?_⟩;rintro i m ys H ⟨rfl,hi,p⟩ hD;by_cases lt:i<n
 .refine .inr ⟨lt,λx H' y=>?_⟩;obtain⟨e,y⟩:=y;subst e y;exact hs i ys _ lt p hD
 .have e:i=n:=by lia
  subst e;exact .inl ⟨zg _,hd ys H p hD⟩
end
section
def pq (tc:TT) (te:TE) (σ:St) (Q:VK) (J:It) (H1:Hp):Prop:=∀D,H1 D=none->∃W:Nat->Nat->List V->Hp->Prop,(∃m,W 0 m [] (upd H1 D (.lst [])))/\∀i m ys H2,W i m ys H2->H2 D=some (.lst ys)->
 (J.stop i H2/\Q (.ref D) H2)\/(J.go i H2/\∀x H3,J.yld i H2 x H3->tc (some x::σ) H3 λb H4=>if b=true then te (some x::σ) H4 λy H5=>H5 D=some (.lst ys)/\ys.length<sizeLine/\∃m',m'<m/\W (i+1) m' (ys++ [y]) (upd H5 D (.lst (ys++ [y])))else H4 D=some (.lst ys)/\∃m',m'<m/\W (i+1) m' ys H4)
def vX (wi:TI) (tc:TT) (te:TE):TE:=λσ H Q=>wi σ H (pq tc te σ Q)
theorem xK (h:pq tc te σ Q J H1):qg 1 (iQ 0) tc te σ Q J H1:=λD hD=>by
 obtain⟨W,⟨m0,w0⟩,turn⟩:=h D hD;refine⟨λi m τ ys H=>(∃v,τ=v::σ)/\W i m ys H,⟨m0,⟨none,rfl⟩,w0⟩,λi m τ ys H2 w e=>?_⟩;obtain⟨⟨v,rfl⟩,w⟩:=w;rcases turn i m ys H2 w e with z|⟨go,z⟩
 .exact .inl z
 .refine .inr ⟨go,λx H3 y=>⟨λτ2 H4=>τ2=some x::σ/\H4=H3,λτ2 H4 e=>?_,rfl,rfl⟩⟩;obtain⟨rfl,rfl⟩:=e;refine⟨_,_,λy H6 n=>?_,λH5 n=>?_,z x _ y⟩
  .obtain⟨n1,n2,m',n3,n4⟩:=n;exact⟨n1,n2,m',n3,⟨_,rfl⟩,n4⟩
  .obtain⟨n1,m',n3,n4⟩:=n;exact⟨n1,m',n3,⟨_,rfl⟩,n4⟩
section
theorem nG {cnd:Expr} (hc:X.calm=true) (S:CScope X [x] N' scope) (hi:PI X (.Name x px) iter wi) (hcn:∀cl C s₂ H₂ fp,PT (cCx X [x] N' scope cl C s₂ H₂ fp) cnd tc) (he:∀cl C s₂ H₂ fp,PE (cCx X [x] N' scope cl C s₂ H₂ fp) elt te)
  (hs:∀x,foldedSetIterable iter X.env x=pure x:=by intro _;rfl):PE X (.ListComp elt [⟨.Name x px,iter,[cnd],0⟩] scope pos) (vX wi tc te):=
 nE (B:=pq tc te) (λ_ _ _ _=>xK) hc S hi (λS _ _ _ _ _=>S.pg rfl) (λ_ _ _ _ _=>uu (hcn _ _ _ _ _)) he hs
end
def CSkip (n i:Nat) (ys:List V) (D:Addr) (Pv:Nat->List V->Hp->Prop) (H4:Hp):Prop:=H4 D=some (.lst ys)/\∃m',m'<n-i/\m'=n-(i+1)/\i+1<=n/\Pv (i+1) ys H4
theorem CSkip.mk {Pv:Nat->List V->Hp->Prop} (hi:i<n) (h1:H4 D=some (.lst ys)) (h3:Pv (i+1) ys H4):CSkip n i ys D Pv H4:=⟨h1,n-(i+1),by lia,rfl,hi,h3⟩
theorem ki {a:Addr} (Pv:Nat->List V->Hp->Prop) (h0:Pv 0 [] (upd H1 D (.lst []))) (hl:∀i ys H,i<=xs.length->Pv i ys H->SqL K H a xs)
  (hs:∀i x ys H2,xs[i]?=some x->Pv i ys H2->H2 D=some (.lst ys)->tc (some x::σ) H2 λb H4=>if b=true then te (some x::σ) H4 (CNext xs.length i ys D Pv)else CSkip xs.length i ys D Pv H4)
  (hd:∀ys H2,Pv xs.length ys H2->H2 D=some (.lst ys)->Fin H2):
  ∃W:Nat->Nat->List V->Hp->Prop,(∃m,W 0 m [] (upd H1 D (.lst [])))/\∀i m ys H2,W i m ys H2->H2 D=some (.lst ys)->
   ((Itl K a).stop i H2/\Fin H2)\/((Itl K a).go i H2/\∀x H3,(Itl K a).yld i H2 x H3->tc (some x::σ) H3 λb H4=>if b=true then te (some x::σ) H4 λy H5=>H5 D=some (.lst ys)/\ys.length<sizeLine/\∃m',m'<m/\W (i+1) m' (ys++ [y]) (upd H5 D (.lst (ys++ [y])))else H4 D=some (.lst ys)/\∃m',m'<m/\W (i+1) m' ys H4):=by
 refine⟨λi m ys H=>m=xs.length-i/\i<=xs.length/\Pv i ys H,⟨xs.length,by simp,zF _,h0⟩,?_⟩;rintro i m ys H ⟨rfl,hi,p⟩ hD;have q:=hl i ys H hi p;by_cases lt:i<xs.length
 .refine .inr ⟨⟨xs,xs[i],q,by simp[lt]⟩,λx H' y=>?_⟩;obtain⟨e,y⟩:=y;subst e;exact hs i x ys _ (y xs q) p hD
 .have e:i=xs.length:=by lia
  subst e;exact .inl ⟨⟨xs,q,zg _⟩,hd ys H p hD⟩
end
section
end
section
def vwO (a d:Addr):HO:= .ext λh=>h.IsItemsView a d
def Itd (ob:Obj) (d:Addr) (kvs:List (Key×V)):It:=
 ⟨λi H=>H d=some (.frz ob (.dK kvs))/\i<kvs.length,λi H x H'=>∃p k v,x= .ref p/\H p=none/\kvs[i]?=some (k,v)/\H'=upd H p (.tup [kV k,v]),λi H=>H d=some (.frz ob (.dK kvs))/\kvs.length<=i⟩
def DObj (P:Program) (w:World) (ob:Obj) (d:Addr) (kvs:List (Key×V)) (vs:List (Key×Value)) (ep:Nat):Prop:=
 KV kvs vs/\∀h:Heap,h.get? d=some ob->h.DictAt (bn P w) d vs ep
theorem KV.getI (h:KV kvs vs):∀{i:Nat} {k:Key} {v:V},kvs[i]?=some (k,v)->∃u,vs[i]?=some (k,u)/\RelV v u:=by
 induction h with
 |nil=>intro i k v e;simp at e
 |cons r t ih=>
  rename_i p q ps qs
  intro i k v e;cases i with
  |zero=>
   simp at e;subst e;exact⟨q.2,by simp[show k=q.1 from r.1],r.2⟩
  |succ j=>
   obtain⟨u,h1,h2⟩:=ih (i:=j) (by simpa using e);exact⟨u,by simpa using h1,h2⟩
theorem oB {x1} {ep:Nat} (it:Addr) (D:DObj P w ob d kvs vs ep):
  rh P w K (.Tuple elts x1 pos) (Itd ob d kvs) [it] it (λi h=>∃ok ov,IsItemIter h it d i vs.length ep ok ov) where
 mem:=by simp
 obj:=λi h st b hb=>by
  obtain⟨ok,ov,st⟩:=st;have z:b=it:=by simpa using hb
  subst z;exact⟨_,st,λv z=>by cases z⟩
 keep:=λi h h' st k=>by
  obtain⟨ok,ov,st⟩:=st;exact⟨ok,ov,k it (by simp) _ st⟩
 item:=by
  intro X hP hw hK hc i pins s σ H E I hf st hg;subst hP hw hK;obtain⟨ok,ov,st⟩:=st;obtain⟨hq,hi⟩:=hg;have fi:=hf it (by simp);obtain⟨hob,_⟩:=I.hok d _ hq;have hat:=D.2 s.heap hob;obtain⟨⟨k,v⟩,hx⟩:∃kv,kvs[i]?=some kv:=⟨kvs[i],by simp[hi]⟩;obtain⟨u,hu,ru⟩:=KV.getI D.1 hx;refine wpAny_pyNext_items_item st hat hu λkey h' hkey g1 g3 gz g5=>⟨_,rfl,?_⟩;refine wpAny_letOwnedTupleGo_items g1 λh2 k1 k2=>?_;have rk:RelV (kV k) key:=uM hkey;have np:H s.heap.objs.size=none:=I.hok.fresh (zg _);have nit:s.heap.objs.size≠it:=Qi (Heap.lt_size st);have keep:∀b o,b≠it->s.heap.get? b=some o->h2.get? b=some o:=λb o z q=>(k2.2 b z).trans (g5 b o z q);have tupAt:h2.get? s.heap.objs.size=some {cls:= .type "tuple",data:= .seq #[key,u]}:=(k2.2 _ nit).trans g3;have trk:∀b v,H b=some v->b≠it:=λb v q z=>by rw[z,fi.1]at q;cases q
  have un:Un (frs X.stack) [it] H (upd H s.heap.objs.size (.tup [kV k,v])) s.heap h2:=by
   refine⟨λb o q n hb hx=>keep b o (λz=>hx (by simp[z])) q,λb o q n hb hx=>⟨o.slots,keep b o (λz=>hx (by simp[z])) q⟩,λb o q n hx=>?_,
    λb o q hx=>⟨o,keep b o (λz=>hx (by simp[z])) q⟩,λb ys q=>?_,λb o v q=>?_,λb ps q=>⟨#[],?_⟩⟩
   .rw[ae (zI (Heap.lt_size q))];exact n
   .rw[ae (am q np)];exact q
   .rw[ae (am q np)];exact q
   .rw[ae (am q np),q];simp
  have hok:HOk X.prog X.w (upd H s.heap.objs.size (.tup [kV k,v])) h2:=λb v' q=>by
   by_cases z:b=s.heap.objs.size
   .subst z;rw[ag]at q;cases q;exact⟨by show 2<=sizeLine;decide,[key,u],.cons rk (.cons ru .nil),_,tupAt,rfl,_,rfl⟩
   .rw[ae z]at q;refine(I.hok b v' q).stay (λc o hc r=>?_) (λc r=>by rw[ae (am r np)];exact r) λc ys r=>by rw[ae (am r np)];exact r
    rcases hc with rfl|hc
    .exact keep _ _ (trk _ _ q) r
    .exact keep _ _ (trk _ _ hc) r
  have I2:Inv X pins σ (upd H s.heap.objs.size (.tup [kV k,v])) {s with heap:=h2}:=I.call' (s':={s with heap:=h2}) rfl un hok I.bare λb hb=>by
   have z:fT X pins H b:=hf b hb;exact⟨z.2.2.2.1,z.2.1,z.2.2.2.2.1,z.2.2.2.2.2⟩
  refine⟨.ref s.heap.objs.size,_,I2,rfl,⟨_,k,v,rfl,np,hx,rfl⟩,⟨key,u,k1⟩,λb hb=>?_⟩;have z:b=it:=by simpa using hb
  subst z;rw[ae (Ne.symm nit)];exact fi.1
 done:=by
  intro X hP hw hK hc i pins s σ H E I hf st hg;subst hP hw hK;obtain⟨ok,ov,st⟩:=st;obtain⟨hq,hi⟩:=hg;obtain⟨hob,_⟩:=I.hok d _ hq;have hat:=D.2 s.heap hob;obtain⟨f0,f1,f2,f3,f4,f5⟩:=hf it (by simp);have hl:kvs.length=vs.length:=D.1.length;exact wpAny_pyNext_items_end (I.ok.hd hc) st hat (by simp;lia) λh' eb=>⟨rfl,I.turned (t':=s.toks) (λb o hb e=>eb b o hb e) f0 f1 f3 f4 f5⟩
 self:=λ_ _ _ _ _ st h=>let⟨_,_,st⟩:=st;PySem.W.kcp_self st h
section
def v9:V->List V->Hp->VK->Prop:=λx vs H Q=>∃d kvs,x= .ref d/\vs=[]/\H d=some (.dK kvs)/\∀a,H a=none->Q (.ref a) (upd H a (vwO a d))
theorem ss:MtR X "dict.items" v9:=by
 intro pins s σ H x vs v us Q I rx rv h;obtain⟨d,kvs,rfl,rfl,hd,q⟩:=h;cases rx;cases rv;obtain⟨z,lo,ws,rel,dd⟩:=p9 I.hok hd;refine call_meetsIn PySem.F.slot_dict_items dd.typeIs PySem.F.entry_dict_items (PySem.F.args_dict_items_1 _) (meets_dict_items (bn X.prog X.w) d lo) ⟨⟨ws,dd⟩,?_⟩;have new:(s.heap.push {cls:= .type "dict_items",data:= .fields #[.ref d]}).get? s.heap.objs.size=some {cls:= .type "dict_items",data:= .fields #[.ref d]}:=Heap.get?_push_size _ rfl;refine⟨.ref s.heap.objs.size,_,I.laid (t':=s.toks) (λb o e=>Heap.get?_push_of_some _ e) (zg _) (show ObjOk X.prog X.w _ _ _ (vwO s.heap.objs.size d) from⟨⟨_,new,rfl,rfl⟩,⟨_,new⟩,λh1 h2 p k=>?_⟩),rfl,q _ (I.hok.fresh (zg _))⟩;obtain⟨o,e,c⟩:=p;exact⟨o,k o e,c⟩
theorem Inv.freeze (I:Inv X pins σ H s) (hd:H d=some (.dK kvs)) (ho:s.heap.get? d=some ob):Inv X pins σ (upd H d (.frz ob (.dK kvs))) s:=by
 have own:∀b y,H b=some (.own y)->upd H d (.frz ob (.dK kvs)) b=some (.own y):=λb y q=>by rw[ae (λz=>by rw[z,hd]at q;cases q)];exact q
 have tup:∀b xs,H b=some (.tup xs)->upd H d (.frz ob (.dK kvs)) b=some (.tup xs):=λb xs q=>by rw[ae (λz=>by rw[z,hd]at q;cases q)];exact q
 have non:∀b,H b=none->upd H d (.frz ob (.dK kvs)) b=none:=λb q=>by rw[ae (λz=>by rw[z,hd]at q;cases q)];exact q
 refine⟨I.ok,I.os,I.bare,⟨I.base.keep,I.base.slot,λb o e n hx=>non b (I.base.free b o e n hx),I.base.there,λb xs e=>tup b xs (I.base.tups b xs e),λb o u e=>?_,λb ps e=>?_⟩,I.loc,I.cell,non _ I.free,λx c e=>non c (I.freeC x c e),λp hp=>?_,λb o e=>?_,I.len⟩
 .have:=I.base.frzs b o u e;rw[ae (λz=>by rw[z,hd]at this;cases this)];exact this
 .obtain⟨m,q⟩:=I.base.tbls b ps e;exact⟨m,by rw[ae (λz=>by rw[z,hd]at q;cases q)];exact q⟩
 .obtain⟨h1,h2,h3⟩:=I.pin p hp;exact⟨h1,non _ h2,h3⟩
 .by_cases z:b=d
  .subst z;rw[ag]at e;cases e;exact⟨ho,(I.hok b _ hd).stay (λ_ _ _ q=>q) (λc q=>own c b q) tup⟩
  .rw[ae z]at e;exact(I.hok b o e).stay (λ_ _ _ q=>q) (λc q=>own c b q) tup
theorem Inv.thaw (I:Inv X pins σ H s) (hd:H d=some (.frz ob (.dK kvs))) (h0:∀o u,X.H₀ d≠some (.frz o u)):Inv X pins σ (upd H d (.dK kvs)) s:=by
 have own:∀b y,H b=some (.own y)->upd H d (.dK kvs) b=some (.own y):=λb y q=>by rw[ae (λz=>by rw[z,hd]at q;cases q)];exact q
 have tup:∀b xs,H b=some (.tup xs)->upd H d (.dK kvs) b=some (.tup xs):=λb xs q=>by rw[ae (λz=>by rw[z,hd]at q;cases q)];exact q
 have non:∀b,H b=none->upd H d (.dK kvs) b=none:=λb q=>by rw[ae (λz=>by rw[z,hd]at q;cases q)];exact q
 refine⟨I.ok,I.os,I.bare,⟨I.base.keep,I.base.slot,λb o e n hx=>non b (I.base.free b o e n hx),I.base.there,λb xs e=>tup b xs (I.base.tups b xs e),λb o u e=>?_,λb ps e=>?_⟩,I.loc,I.cell,non _ I.free,λx c e=>non c (I.freeC x c e),λp hp=>?_,λb o e=>?_,I.len⟩
 .have:=I.base.frzs b o u e;rw[ae (λz=>by rw[z]at e;exact h0 _ _ e)];exact this
 .obtain⟨m,q⟩:=I.base.tbls b ps e;exact⟨m,by rw[ae (λz=>by rw[z,hd]at q;cases q)];exact q⟩
 .obtain⟨h1,h2,h3⟩:=I.pin p hp;exact⟨h1,non _ h2,h3⟩
 .by_cases z:b=d
  .subst z;rw[ag]at e;cases e;obtain⟨_,q⟩:=I.hok b _ hd;exact ObjOk.stay (show ObjOk X.prog X.w H s.heap b (.dK kvs) from q) (λ_ _ _ q=>q) (λc q=>own c b q) tup
  .rw[ae z]at e;exact(I.hok b o e).stay (λ_ _ _ q=>q) (λc q=>own c b q) tup
theorem Inv.noFrz (I:Inv X pins σ H s) (hd:H d=some (.dK kvs)):∀o u,X.H₀ d≠some (.frz o u):=λo u e=>by
 have:=I.base.frzs d o u e;rw[hd]at this;cases this
def wE (te:TE):TI:=λσ H R=>te σ H λx H1=>∃a d kvs,x= .ref a/\H1 a=some (vwO a d)/\H1 d=some (.dK kvs)/\∀ob,R (Itd ob d kvs) (upd H1 d (.frz ob (.dK kvs)))
theorem rT {x1} (hl:PE X l te):PI X (.Tuple elts x1 pos) l (wE te):=by
 intro pins s σ H R I h;refine thn (hl pins s σ H _ I h) λv s1 hzz=>?_;obtain⟨x,H1,I1,r1,q1⟩:=hzz;obtain⟨a,d,kvs,e,ha,hd,q⟩:=q1;subst e;cases r1;obtain⟨z,lo,vs,rel,dd⟩:=p9 I1.hok hd;obtain⟨ep,hat⟩:=dd.dictAt;obtain⟨vw,_,_⟩:=(show ObjOk X.prog X.w H1 s1.heap a (vwO a d) from I1.hok a _ ha);obtain⟨ob,es,hob,rest⟩:=id hat;refine wpAny_pyIter_items vw hat ?_;have If:=I1.freeze hd hob;refine⟨s1.heap.objs.size,[s1.heap.objs.size],_,_,_,rfl,If.kept (t':=s1.toks) λb o e=>Heap.get?_push_of_some _ e,oB _ ⟨rel,λh e=>⟨ob,es,e,rest⟩⟩,⟨_,_,Heap.get?_push_size _ rfl⟩,λb hb=>?_,q ob⟩;have e:b=s1.heap.objs.size:=by simpa using hb
 subst e;exact If.fpOk (zg _) (If.hok.fresh (zg _))
def xb (t:TS):TS:=λD σ H=>∃d kvs,H d=some (.dK kvs)/\t ⟨λσ' H'=>∃ob,H' d=some (.frz ob (.dK kvs))/\D.nx σ' (upd H' d (.dK kvs)),λv H'=>∃ob,H' d=some (.frz ob (.dK kvs))/\D.rt v (upd H' d (.dK kvs)),
 λσ' H'=>∃ob,H' d=some (.frz ob (.dK kvs))/\D.bk σ' (upd H' d (.dK kvs)),λσ' H'=>∃ob,H' d=some (.frz ob (.dK kvs))/\D.ct σ' (upd H' d (.dK kvs))⟩ σ H
theorem uw {st:Stmt} {t:TS} (h:PS X st t):PS X st (xb t):=by
 intro pins s σ H D I ⟨d,kvs,hd,q⟩;have h0:=I.noFrz hd;refine thn (h pins s σ H _ I q) λf s1 q1=>?_;cases f with
 |next=>obtain⟨σ7,H7,I7,ob,e,q7⟩:=q1;exact⟨σ7,_,I7.thaw e h0,q7⟩
 |cont=>obtain⟨σ7,H7,I7,ob,e,q7⟩:=q1;exact⟨σ7,_,I7.thaw e h0,q7⟩
 |brk=>obtain⟨σ7,H7,I7,ob,e,q7⟩:=q1;exact⟨σ7,_,I7.thaw e h0,q7⟩
 |ret v=>obtain⟨x7,σ7,H7,I7,r7,ob,e,q7⟩:=q1;exact⟨x7,σ7,_,I7.thaw e h0,r7,q7⟩
end
theorem pf (Pv:Nat->St->Hp->Prop) (h0:Pv 0 σ H) (hl:∀i σ H,i<=kvs.length->Pv i σ H->H d=some (.frz ob (.dK kvs)))
  (hs:∀i k v p σ H,kvs[i]?=some (k,v)->Pv i σ H->H p=none->g (.ref p) σ (upd H p (.tup [kV k,v])) λσ2 H2=>tb ⟨Pv (i+1),rt,nx,Pv (i+1)⟩ σ2 H2) (hd:∀σ H,Pv kvs.length σ H->nx σ H):
  ∃W:Nat->Nat->St->Hp->Prop,(∃m,W 0 m σ H)/\∀i m σ H,W i m σ H->
   ((Itd ob d kvs).stop i H/\nx σ H)\/((Itd ob d kvs).go i H/\∃N:St->Hp->Prop,(∀σ' H',N σ' H'->∃m',m'<m/\W (i+1) m' σ' H')/\∀x H',(Itd ob d kvs).yld i H x H'->g x σ H' λσ2 H2=>tb ⟨N,rt,nx,N⟩ σ2 H2):=by
 refine⟨λi m σ H=>m=kvs.length-i/\i<=kvs.length/\Pv i σ H,⟨kvs.length,by simp,zF _,h0⟩,?_⟩;rintro i m σ H ⟨rfl,hi,p⟩;have q:=hl i σ H hi p;by_cases lt:i<kvs.length
 .refine .inr ⟨⟨q,lt⟩,Pv (i+1),λσ' H' z=>⟨kvs.length-(i+1),by lia,rfl,lt,z⟩,λx H' y=>?_⟩;obtain⟨pp,k,v,rfl,np,e,rfl⟩:=y;exact hs i k v pp σ H e p np
 .have e:i=kvs.length:=by lia
  subst e;exact .inl ⟨⟨q,zg _⟩,hd σ H p⟩
end
section
end
section
section
def uo:V->List V->Hp->VK->Prop:=λx vs H Q=>∃(l:Addr) (xs:List V) (k:Int) (y:V),x= .ref l/\vs=[.int k,y]/\H l=some (.lst xs)/\0<=k/\k<=(xs.length:Int)/\xs.length<sizeLine/\Q .non (upd H l (.lst (xs.take k.toNat++y::xs.drop k.toNat)))
theorem lr:MtM X "list.insert" uo:=by
 intro pins s σ H x vs v us Q I rx rv h;obtain⟨l,xs,k,y,rfl,rfl,hH,h0,hk,hz,q⟩:=h;cases rx;obtain⟨u1,u,rfl,⟨t,rfl⟩,ru⟩:=rv.two;obtain⟨z,its,n,r,hl,e⟩:=I.lstM hH;have fits:¬(!Builtin.List.listFitsIndex k)=true:=by
  have line:=gN;rw[fitsIndex_both (by lia) (by lia)];exact zb
 have hsz:its.toArray.size<=sizeLine:=by rw[zm];lia
 refine call_meets F.slot_list_insert ⟨_,e,rfl⟩ F.entry_list_insert (F.args_list_insert_3 _ _ _) (AutoListH.list_insert_list_int_val_1 l its.toArray n k t u fits hsz) ⟨e,?_⟩;refine⟨.non,_,I.lset (its':=its.take k.toNat++u::its.drop k.toNat) hH e ?_ ((r.take k.toNat).append (.cons ru (r.drop k.toNat))) ?_,rfl,q⟩
 .have e0:(if k<0 then(k+((its.toArray.size:Nat):Int)).toNat else min k.toNat its.toArray.size)=k.toNat:=by
   rw[if_neg (by lia),zm];lia
  show(its.toArray.extract 0 _).push u++its.toArray.extract _=_;rw[e0];simp;exact zA (by rw[zG];lia)
 .rw[zk,zp,zu,zG];lia
end
end
section
end
section
section
def um:V->List V->Hp->VK->Prop:=λx vs H Q=>∃a kvs k y,x= .ref a/\vs=[kV k,y]/\H a=some (.dK kvs)/\kvs.length<sizeLine/\(∀v,aJ kvs k=some v->Q v H)/\(aJ kvs k=none->Q y (upd H a (.dK (bb kvs k y))))
theorem qG:MtR X "dict.setdefault" um:=by
 intro pins s σ H x vs v us Q I rx rv h;obtain⟨a,kvs,k,y,rfl,rfl,hH,hl,q1,q2⟩:=h;cases rx;obtain⟨u,r,rfl,ru,rr⟩:=mU rv;obtain⟨z,hd,ws,rel,dd⟩:=p9 I.hok hH;have rk:=rel.val k;refine call_meetsIn Qp dd.typeIs PySem.F.entry_dict_setdefault (PySem.F.args_dict_setdefault_3 _ _ _) (kt_meets_setdefault (bn X.prog X.w) a (lH ru) hd r) ⟨ws,dd,by rw[<-rel.length];exact z,λv hv=>?_,λhn h' dd' hs=>?_⟩
 .rw[hv]at rk;cases e:aJ kvs k with
  |none=>rw[e]at rk;exact rk.elim
  |some x=>
   rw[e]at rk;exact⟨x,H,I.tok _,rk,q1 x e⟩
 .rw[hn]at rk;cases e:aJ kvs k with
  |some x=>rw[e]at rk;exact rk.elim
  |none=>
   have he:∃q,h'.get? a=some q:=let⟨q,_,_,hq,_⟩:=dd';⟨q,hq⟩
   have lp:=cx kvs k y;exact⟨y,_,mK I (by rw[hH];exact True.intro) hs he (sN (by lia) hd (rel.put k rr) dd'),rr,q2 e⟩
end
end
section
end
section
end
section
theorem wP:bootBuiltins "all"=some (.builtin "all"):=by decide+kernel
section
theorem sW {bs:List Bool}:∀{us:List Value},Vals (bs.map V.bl) us->LSm.BoolsAre us bs:=by
 induction bs with
 |nil=>intro us r;rw[List.map_nil]at r;cases r;exact .nil
 |cons b bs ih=>
  intro us r;rw[zr]at r;cases r with
  |cons r1 r2=>
   cases r1;exact .cons b (ih r2)
theorem re (hc:X.calm=true):fW X (.builtin "all") (λxs H Q=>∃(p:Addr) (bs:List Bool),xs=[.ref p]/\SqL X.K H p (bs.map V.bl)/\Q (.bl (bs.all id)) H):=by
 intro pins s σ H xs us Q I r h;obtain⟨p,bs,rfl,hq,q⟩:=h;obtain⟨u,rfl,ru⟩:=mV r;cases ru;obtain⟨its,rv,pl,hz⟩:=I.list hq;have hb:=sW rv;have hl:=pl.isList;have hlt:p<s.heap.objs.size:=by obtain⟨_,e,_⟩:=hl;exact Heap.lt_size e
 refine call_all_walk (wpAny_pyIter_list hl ?_);refine⟨s.heap.objs.size,[s.heap.objs.size,p],[s.heap.objs.size],its.toArray.size,_,_,λi=>(bs[i]?).getD true,rfl,Walks.list (A:=X.A.in1) (I.ok.hd hc) _ p (zI hlt) its.toArray,
  ⟨⟨_,Heap.get?_push_size _ rfl,rfl,rfl⟩,hl.push _⟩,λi v s' Q' E' hP hQ=>?_,λh' tk hk=>?_⟩
 .obtain⟨b,e,rfl⟩:=hb.get i v (by simpa using hP);simp only[e,Option.getD_some]at hQ;exact wpAny_truthy_bool hQ
 .have e:((List.range its.toArray.size).all λi=>(bs[i]?).getD true)=bs.all id:=by
   rw[zm,hb.length];exact LSm.range_all bs
  rw[e];exact⟨.bl _,H,I.kept (t':=tk) (LSm.kept_iter hk),rfl,q⟩
end
end
section
section
theorem gu:fW X (.type "int") (λxs H Q=>∃z n,xs=[.str z]/\PySem.intText? z=some n/\z.length<=640/\Q (.int n) H):=by
 intro pins s σ H xs us Q I r h;obtain⟨z,n,rfl,hn,hl,q⟩:=h;obtain⟨u,rfl,t,rfl⟩:=mV r;exact PySem.W.KIN.call_text hn hl ⟨.int _,H,I.tok _,⟨_,rfl⟩,q⟩
def rSlS:V->Option Int->Option Int->Hp->VK->Prop:=λx lo hi H Q=>∃z,x= .str z/\z.length<=sizeLine/\Q (.str (Txt.slice z lo hi)) H
theorem oH:SlR X rSlS:=by
 intro pins s σ H x v vl vu lo hi sl Q I rx hs pl pu h;obtain⟨z,rfl,hz,q⟩:=h;obtain⟨t,rfl⟩:=rx;refine⟨"str",_,PyProof.Rows.slot_str_getitem.lookup,typeIs_str _ _ _,?_⟩;have fin:∀t' k,EP X pins σ Q (.str (Txt.slice z lo hi) t') {s with toks:=k}:=λt' k=>⟨.str _,H,I.kept (t':=k) (λb o e=>e),⟨_,rfl⟩,q⟩;cases pl with
 |none=>
  cases pu with
  |none=>exact wpAny_getItem_str_slice (l:=none) (u:=none) (st:=none) hs rfl (post_val_or_str ⟨zC (Txt.slice_le z _ _) hz,λt' k=>fin t' k⟩)
  |int j u=>exact wpAny_getItem_str_slice (l:=none) (u:=some (j,u)) (st:=none) hs rfl (post_val_or_str ⟨zC (Txt.slice_le z _ _) hz,λt' k=>fin t' k⟩)
 |int i u'=>
  cases pu with
  |none=>exact wpAny_getItem_str_slice (l:=some (i,u')) (u:=none) (st:=none) hs rfl (post_val_or_str ⟨zC (Txt.slice_le z _ _) hz,λt' k=>fin t' k⟩)
  |int j u=>exact wpAny_getItem_str_slice (l:=some (i,u')) (u:=some (j,u)) (st:=none) hs rfl (post_val_or_str ⟨zC (Txt.slice_le z _ _) hz,λt' k=>fin t' k⟩)
end
def Itx (z:Str):It:=⟨λi _=>i<z.cps.size,λi H x H'=>H'=H/\∃c,z.cps[i]?=some c/\x= .str ⟨#[c]⟩,λi _=>z.cps.size<=i⟩
theorem oC (it:Addr) (z:Str) (t:Tok):rh P w K tg (Itx z) [it] it (λi h=>h.IsStrIter it "str_ascii_iterator" z t i) where
 mem:=by simp
 obj:=λi h st b hb=>by
  have e:b=it:=by simpa using hb
  subst e;obtain⟨o,e,c,d⟩:=st;exact⟨o,e,λv z=>by rw[d]at z;cases z⟩
 keep:=λi h h' st k=>by
  obtain⟨o,e,r⟩:=st;exact⟨o,k it (by simp) _ e,r⟩
 item:=by
  intro X hP hw hK hc i pins s σ H E I hf st hg;subst hP hw hK;obtain⟨f0,f1,f2,f3,f4,f5⟩:=hf it (by simp);have hg:i<z.cps.size:=hg;refine wpAny_pyNext_ascii_item st (c:=z.cps[i]) (by simp[hg]) λh' st' hs'=>?_;have I1:Inv X pins σ H {s with heap:=h',toks:=s.toks+1}:=I.turned (λb o hb e=>hs'.extBut b o hb e) f0 f1 f3 f4 f5;obtain⟨o,e,c,d⟩:=id st';exact⟨_,rfl,p7 (s:={s with heap:=h',toks:=s.toks+1}) e c d (by decide) ⟨.str ⟨#[z.cps[i]]⟩,H,I1,⟨_,rfl⟩,⟨rfl,_,by simp[hg],rfl⟩,st',λb hb=>(hf b hb).1⟩⟩
 done:=by
  intro X hP hw hK hc i pins s σ H E I hf st hg;subst hP hw hK;obtain⟨f0,f1,f2,f3,f4,f5⟩:=hf it (by simp);have hg:z.cps.size<=i:=hg;exact wpAny_pyNext_ascii_end (I.ok.hd hc) st (by simp[hg]) λh' eb=>⟨rfl,I.turned (t':=s.toks) (λb o hb e=>eb b o hb e) f0 f1 f3 f4 f5⟩
 self:=λ_ _ _ _ _ st h=>wpAny_pyIter_striter_ascii st h
theorem qm (it:Addr) (z:Str) (t:Tok):rh P w K tg (Itx z) [it] it (λi h=>h.IsStrIter it "str_iterator" z t i) where
 mem:=by simp
 obj:=λi h st b hb=>by
  have e:b=it:=by simpa using hb
  subst e;obtain⟨o,e,c,d⟩:=st;exact⟨o,e,λv z=>by rw[d]at z;cases z⟩
 keep:=λi h h' st k=>by
  obtain⟨o,e,r⟩:=st;exact⟨o,k it (by simp) _ e,r⟩
 item:=by
  intro X hP hw hK hc i pins s σ H E I hf st hg;subst hP hw hK;obtain⟨f0,f1,f2,f3,f4,f5⟩:=hf it (by simp);have hg:i<z.cps.size:=hg;refine wpAny_pyNext_wide_item st (c:=z.cps[i]) (by simp[hg]) λh' st' hs'=>?_;have I1:Inv X pins σ H {s with heap:=h',toks:=s.toks+1}:=I.turned (λb o hb e=>hs'.extBut b o hb e) f0 f1 f3 f4 f5;obtain⟨o,e,c,d⟩:=id st';exact⟨_,rfl,p7 (s:={s with heap:=h',toks:=s.toks+1}) e c d (by decide) ⟨.str ⟨#[z.cps[i]]⟩,H,I1,⟨_,rfl⟩,⟨rfl,_,by simp[hg],rfl⟩,st',λb hb=>(hf b hb).1⟩⟩
 done:=by
  intro X hP hw hK hc i pins s σ H E I hf st hg;subst hP hw hK;obtain⟨f0,f1,f2,f3,f4,f5⟩:=hf it (by simp);have hg:z.cps.size<=i:=hg;exact wpAny_pyNext_wide_end (I.ok.hd hc) st (by simp[hg]) λh' eb=>⟨rfl,I.turned (t':=s.toks) (λb o hb e=>eb b o hb e) f0 f1 f3 f4 f5⟩
 self:=λ_ _ _ _ _ st h=>wpAny_pyIter_striter_wide st h
section
def iStr (te:TE):TI:=λσ H R=>te σ H λx H1=>∃z,x= .str z/\R (Itx z) H1
theorem rS (hl:PE X l te):PI X tg l (iStr te):=by
 intro pins s σ H R I h;refine thn (hl pins s σ H _ I h) λv s1 hzz=>?_;obtain⟨x,H1,I1,r1,q1⟩:=hzz;obtain⟨z,e,q⟩:=q1;subst e;obtain⟨t,rfl⟩:=r1;cases ha:z.cps.all (· <128)
 .refine wpAny_pyIter_wide ha ⟨s1.heap.objs.size,[s1.heap.objs.size],_,_,H1,rfl,I1.kept (t':=s1.toks) λb o e=>Heap.get?_push_of_some _ e,qm _ z t,⟨_,Heap.get?_push_size _ rfl,rfl,rfl⟩,λb hb=>?_,q⟩;have e:b=s1.heap.objs.size:=by simpa using hb
  subst e;exact I1.fpOk (zg _) (I1.hok.fresh (zg _))
 .refine wpAny_pyIter_ascii ha ⟨s1.heap.objs.size,[s1.heap.objs.size],_,_,H1,rfl,I1.kept (t':=s1.toks) λb o e=>Heap.get?_push_of_some _ e,oC _ z t,⟨_,Heap.get?_push_size _ rfl,rfl,rfl⟩,λb hb=>?_,q⟩;have e:b=s1.heap.objs.size:=by simpa using hb
  subst e;exact I1.fpOk (zg _) (I1.hok.fresh (zg _))
end
theorem sH (Pv:Nat->St->Hp->Prop) (h0:Pv 0 σ H)
  (hs:∀i c σ H,z.cps[i]?=some c->Pv i σ H->g (.str ⟨#[c]⟩) σ H λσ2 H2=>tb ⟨Pv (i+1),rt,nx,Pv (i+1)⟩ σ2 H2) (hd:∀σ H,Pv z.cps.size σ H->nx σ H):
  ∃W:Nat->Nat->St->Hp->Prop,(∃m,W 0 m σ H)/\∀i m σ H,W i m σ H->
   ((Itx z).stop i H/\nx σ H)\/((Itx z).go i H/\∃N:St->Hp->Prop,(∀σ' H',N σ' H'->∃m',m'<m/\W (i+1) m' σ' H')/\∀x H',(Itx z).yld i H x H'->g x σ H' λσ2 H2=>tb ⟨N,rt,nx,N⟩ σ2 H2):=by
 refine⟨λi m σ H=>m=z.cps.size-i/\i<=z.cps.size/\Pv i σ H,⟨z.cps.size,by simp,zF _,h0⟩,?_⟩;rintro i m σ H ⟨rfl,hi,p⟩;by_cases lt:i<z.cps.size
 .refine .inr ⟨lt,Pv (i+1),λσ' H' y=>⟨z.cps.size-(i+1),by lia,rfl,lt,y⟩,λx H' y=>?_⟩;obtain⟨rfl,c,e,rfl⟩:=y;exact hs i c σ _ e p
 .have e:i=z.cps.size:=by lia
  subst e;exact .inl ⟨zg _,hd σ H p⟩
end
section
section
def ul:V->List V->Hp->VK->Prop:=λx vs H Q=>∃a d,x= .str a/\vs=[.str d]/\Q (.bl (Txt.startswith a d)) H
theorem lq:MtR X "str.startswith" ul:=by
 intro pins s σ H x vs v us Q I rx rv h;obtain⟨a,d,rfl,rfl,q⟩:=h;obtain⟨t,rfl⟩:=rx;obtain⟨u,rfl,ru⟩:=rv.one;obtain⟨t',rfl⟩:=ru;exact SC.startswith ⟨.bl _,H,I,rfl,q⟩
theorem oO:OpR X (binaryOp .Mult) (λx y H Q=>∃(i:Str) (n:Int),x= .str i/\y= .int n/\2<=n/\n<=1000/\i.length=1/\∀z:Str,z.length=n.toNat->Q (.str z) H):=by
 intro pins s σ H x y v u Q I rx ry h;obtain⟨i,n,rfl,rfl,n2,n1,l1,q⟩:=h;obtain⟨t,rfl⟩:=rx;obtain⟨t',rfl⟩:=ry;have len:∀(k:Nat) (acc:Array Nat),((List.replicate k i.cps).foldl (· ++ ·) acc).size=acc.size+k:=by
  intro k
  induction k with
  |zero=>intro acc;rfl
  |succ k ih=>
   intro acc;rw[List.replicate_succ,List.foldl_cons,ih,Array.size_append];have:i.cps.size=1:=l1;lia
 have e1:(n==1||i.length==0)=false:=by rw[l1];simp;lia
 have lz:(⟨(List.replicate n.toNat i.cps).foldl (· ++ ·) #[]⟩:Str).length=n.toNat:=by
  show((List.replicate n.toNat i.cps).foldl (· ++ ·) #[]).size=_;rw[len];simp
 have big:1000<=sizeLine:=by decide
 refine P.mul_str (by rw[decide_eq_false (by lia),decide_eq_false (by lia)];rfl) (λ_ _=>?_) (λ_ _=>?_) ?_
 .rw[l1];have:(1:Int)<=(2^63-1)/n:=(Int.le_ediv_iff_mul_le (by lia)).mpr (by lia);lia
 .unfold Builtin.Str.tooLong;rw[l1];exact decide_eq_false (by lia)
 .rw[if_neg (by lia),if_neg (by rw[e1];decide)];exact⟨by rw[lz];lia,⟨.str _,H,I.tok _,⟨_,rfl⟩,q _ lz⟩⟩
end
theorem sT (Pv:Nat->List V->Hp->Prop) (h0:Pv 0 [] (upd H1 D (.lst [])))
  (hs:∀i c ys H2,z.cps[i]?=some c->Pv i ys H2->H2 D=some (.lst ys)->te (some (.str ⟨#[c]⟩)::σ) H2 (CNext z.cps.size i ys D Pv))
  (hd:∀ys H2,Pv z.cps.size ys H2->H2 D=some (.lst ys)->Fin H2):
  ∃W:Nat->Nat->List V->Hp->Prop,(∃m,W 0 m [] (upd H1 D (.lst [])))/\∀i m ys H2,W i m ys H2->H2 D=some (.lst ys)->
   ((Itx z).stop i H2/\Fin H2)\/((Itx z).go i H2/\∀x H3,(Itx z).yld i H2 x H3->te (some x::σ) H3 λy H4=>H4 D=some (.lst ys)/\ys.length<sizeLine/\∃m',m'<m/\W (i+1) m' (ys++ [y]) (upd H4 D (.lst (ys++ [y])))):=by
 refine⟨λi m ys H=>m=z.cps.size-i/\i<=z.cps.size/\Pv i ys H,⟨z.cps.size,by simp,zF _,h0⟩,?_⟩;rintro i m ys H ⟨rfl,hi,p⟩ hD;by_cases lt:i<z.cps.size
 .refine .inr ⟨lt,λx H' y=>?_⟩;obtain⟨e,c,ec,y⟩:=y;subst e y;exact hs i c ys _ ec p hD
 .have e:i=z.cps.size:=by lia
  subst e;exact .inl ⟨zg _,hd ys H p hD⟩
abbrev sg (z:Str):List Nat:=z.cps.toList
theorem bK (z:Str):z.length=(sg z).length:=by show z.cps.size=_;simp[sg]
theorem jz {a b:Str} (h:sg a=sg b):a=b:=by cases a;cases b;congr 1;exact Array.toList_inj.mp h
theorem jm (z:Str) (c:Nat):Txt.startswith z ⟨#[c]⟩=decide ((sg z).head?=some c):=by
 have h:=StrLaws.subAt_one z c 0;unfold Txt.startswith
 rw[yQ,zw,decide_eq_true_eq,h,decide_eq_true_eq,List.head?_eq_getElem?]
theorem jy (z:Str) (lo hi:Option Int) (is:List Nat) (e:Builtin.Str.strSliceIndices lo hi 1 z.length=is) (h:is.filterMap (z.cps[·]?)=is.filterMap ((sg z)[·]?)):sg (Txt.slice z lo hi)=if is.length=z.length then sg z else is.filterMap ((sg z)[·]?):=by
 unfold Txt.slice;rw[e];by_cases c:is.length=z.length
 .rw[if_pos c,if_pos (by simp[c])]
 .rw[if_neg c,if_neg (by simp[c]),sg];exact h
theorem mZ (z:Str):sg (Txt.slice z (some 1) none)=(sg z).drop 1:=by
 have L:=bK z;have gp:∀is:List Nat,is.filterMap (z.cps[·]?)=is.filterMap ((sg z)[·]?):=λis=>by congr 1;funext i;simp[sg]
 rcases y9 z.length with q|q
 .have nz:sg z=[]:=zS (by lia);have le:=Txt.slice_le z (some 1) none;have:(sg (Txt.slice z (some 1) none))=[]:=zS (by rw[<-bK];lia);rw[this,nz];rfl
 .have e:Builtin.Str.strSliceIndices (some 1) none 1 z.length=Builtin.Str.strSliceIndices (some ((1:Nat):Int)) (some (z.length:Int)) 1 z.length:=by
   unfold Builtin.Str.strSliceIndices;simp;rw[if_neg (show ¬((z.length:Nat):Int)<0 by lia)];congr 1;lia
  rw[jy z _ _ _ (e.trans (StrLaws.strSliceIndices_plain (a:=1) (b:=z.length) (by lia) (zg _))) (gp _)];rw[if_neg (by simp;lia)];rw[StrLaws.picks (sg z) (z.length-1) 1 (by lia)];exact zA (by rw[zG];lia)
theorem qv (z:Str):sg (Txt.slice z none (some 1))=(sg z).take 1:=by
 have L:=bK z;have gp:∀is:List Nat,is.filterMap (z.cps[·]?)=is.filterMap ((sg z)[·]?):=λis=>by congr 1;funext i;simp[sg]
 rcases y9 z.length with q|q
 .have nz:sg z=[]:=zS (by lia);have le:=Txt.slice_le z none (some 1);have:(sg (Txt.slice z none (some 1)))=[]:=zS (by rw[<-bK];lia);rw[this,nz];rfl
 .have e:Builtin.Str.strSliceIndices none (some 1) 1 z.length=Builtin.Str.strSliceIndices (some ((0:Nat):Int)) (some ((1:Nat):Int)) 1 z.length:=by
   unfold Builtin.Str.strSliceIndices;simp;congr 1
  rw[jy z _ _ _ (e.trans (StrLaws.strSliceIndices_plain (a:=0) (b:=1) (by lia) (by lia))) (gp _)];rw[StrLaws.picks (sg z) (1-0) 0 (by lia),Qa];by_cases c:((List.range (1-0)).map λk=>0+k).length=z.length
  .rw[if_pos c];have:(sg z).length=1:=by rw[<-L,<-c];simp
   exact(zA (by lia)).symm
  .rw[if_neg c]
end
end L2
namespace L2
open PySem PySem.Spec PyProof.Rows PySem.Builtin PySem.Builtin.Str
variable {E Q:Value->Shared->Prop}
section
variable {X:Cx}
theorem qq (l:List (Str×Tok)):Vals ((l.map (·.1)).map V.str) (strValues l):=by
 induction l with
 |nil=>exact .nil
 |cons a r ih=>exact .cons ⟨a.2,rfl⟩ ih
theorem rF {prog:Program} {w:World} {A:Around} {s:Shared} {x y:Str} {t u:Tok} (hy:(y.length==0)=false)
  (hq:∀(l:List (Str×Tok)) (k:Nat),l.map (·.1)=Txt.split x y->Q (.ref s.heap.objs.size) {s with heap:=s.heap.push {cls:= .type "list",data:= .seq (strValues l).toArray},toks:=k})
  (hsz:x.length<=sizeLine) (hsz2:(Txt.split x y).length<=sizeLine):
  wpAny (model prog w) A (call (.builtin "str.split") [.str x t,.str y u]) Q E s:=by
 cases h1:(decide (x.length<y.length)||decide (strKind x<strKind y))
 .cases hf:(occurrences x y 0 x.length (x.length+1)).isEmpty
  .have es:Txt.split x y=partsBetween x (occurrences x y 0 x.length (x.length+1)) y.length:=(if_neg (ne_true_of_eq_false h1)).trans (if_neg (ne_true_of_eq_false hf));refine call_meets F.slot_str_split (typeIs_str _ _ _) F.entry_str_split (F.args_str_split_2 _ _) (meets_str_split_sep x y t u h1 hy hf hsz (es▸hsz2)) ?_;show wants Q E _ {s with toks:=_,heap:=s.heap.push {cls:= .type "list",data:= .seq (strsFrom s.toks (partsBetween x (occurrences x y 0 x.length (x.length+1)) y.length)).toArray}};rw[strsFrom_eq];exact hq (numbered s.toks _) _ ((numbered_texts _ _).trans es.symm)
  .exact call_meets F.slot_str_split (typeIs_str _ _ _) F.entry_str_split (F.args_str_split_2 _ _) (meets_str_split_not_found x y t u h1 hy hf)
    (hq [(x,t)] s.toks ((if_neg (ne_true_of_eq_false h1)).trans (if_pos hf)).symm)
 .exact call_meets F.slot_str_split (typeIs_str _ _ _) F.entry_str_split (F.args_str_split_2 _ _) (meets_str_split_cannot_occur x y t u h1)
   (hq [(x,t)] s.toks (if_pos h1).symm)
def v8:V->List V->Hp->VK->Prop:=λx vs H Q=>∃a d,x= .str a/\vs=[.str d]/\1<=d.length/\a.length<=100000/\∀l,H l=none->Q (.ref l) (upd H l (.lst ((Txt.split a d).map V.str)))
theorem fG:MtR X "str.split" v8:=by
 intro pins s σ H x vs v us Q I rx rv h;obtain⟨a,d,rfl,rfl,d1,al,q⟩:=h;obtain⟨t,rfl⟩:=rx;obtain⟨u,rfl,ru⟩:=rv.one;obtain⟨t',rfl⟩:=ru;have big:100001<=sizeLine:=by decide
 have w:=split_weight a d d1;have hn:(Txt.split a d).length<=100001:=by lia
 refine rF (by simp;lia) (λl k hl=>?_) (by lia) (by lia);have hv:=qq l;rw[hl]at hv;refine⟨.ref s.heap.objs.size,_,I.laid (t':=k) (o:= .lst ((Txt.split a d).map V.str)) (λb ob q=>Heap.get?_push_of_some _ q) (zg _) ?_,rfl,q _ (I.hok.fresh (zg _))⟩;exact⟨by rw[z8];lia,_,0,hv,Heap.get?_push_size _ rfl⟩
theorem bG {x:Str} {j:Nat} {p:Pos} {es:List Expr} {t:TA} (hr:PA X es t):PA X (.Constant (.str x) j p::es) (rE (tC (.str x)) t):=aa aZ hr rfl
end
theorem pX (sep:Str) (l:List Str):Txt.join sep l=Str.join sep l:=StrLaws.glued_eq_join sep l
end L2
namespace L2
open PySem PySem.Spec PyProof.Rows
section
section
variable {X:Cx}
def tFkv (c:Str) (ta tb:TE):TE:=λσ H Q=>ta σ H λx H1=>∃i:Int,x= .int i/\i.natAbs.log2<1920/\(Str.ofString (toString i)++c).length<=sizeLine/\tb σ H1 λy H2=>∃k:Int,y= .int k/\k.natAbs.log2<1920/\(Str.ofString (toString i)++c++Str.ofString (toString k)).length<=sizeLine/\Q (.str (Str.ofString (toString i)++c++Str.ofString (toString k))) H2
theorem cQ (a b:Str):(a++b).length=a.length+b.length:=by
 show(a.cps++b.cps).size=a.cps.size+b.cps.size;exact Array.size_append
theorem lW (a:Str):Str.empty++a=a:=by
 show Str.mk (#[]++a.cps)=a;rw[Array.empty_append]
theorem we {a b:Expr} {ta tb:TE} {c:Str} {j:Nat} {p1 p2 p3 pos:Pos} (ha:PE X a ta) (hb:PE X b tb):PE X (.JoinedStr [.FormattedValue a (-1) none p1,.Constant (.str c) j p2,.FormattedValue b (-1) none p3] pos) (tFkv c ta tb):=by
 intro pins s σ H Q I h;refine JoinedStr_many (joinParts_cons (FormattedValue_plain (thn (ha pins s σ H _ I h) λv s1 h1=>?_)));obtain⟨x,H1,I1,r1,i,rfl,hz,l1,q1⟩:=h1;obtain⟨t,rfl⟩:=r1;refine formatField_int_small hz ⟨?_,joinParts_cons (Calls.Constant_str ⟨?_,joinParts_consE (joinParts_cons (FormattedValue_plain (thn (hb pins _ σ H1 _ (((I1.tok _).tok _).tok _) q1) λv s2 h2=>?_)))⟩)⟩
 .rw[lW];rw[cQ]at l1;lia
 .rw[lW];exact l1
 obtain⟨y,H2,I2,r2,k,rfl,hk,l2,q2⟩:=h2;obtain⟨u,rfl⟩:=r2;rw[lW];refine formatField_int_small hk ⟨l2,?_⟩;exact joinParts_nilE (joinParts_nil ⟨.str _,H2,((I2.tok _).tok _).tok _,⟨_,rfl⟩,q2⟩ l2)
end
end
section
end
end L2
namespace SW
open PySem L2
set_option maxHeartbeats 0
variable {C L a b c dx p r tb:Addr} {F F':Addr->Prop} {t:Adr} {D:Ends} {o:HO} {H H':Hp} {k m sz:Int} {ps:List (Int×Int)} {kv' kvs:List (Int×V)} {ls:List (List Int)} {A:List Addr} {ks l x y:List Int} {pa':List Pk} {ws:List Str} {xs:List V} {i j n:Nat} {K:PySem.W.Frag} {st:SSt} {d:SlD} {σ:St} {f:Str} {α β:Type} {v:V} {E:XK}
structure Txt (K:PySem.W.Frag) (mg:Str->Option Value) (t:Adr):Prop where
 uE:mg "WalkError"=some (.ref t.a5)
 wu:mg "NoToken"=some (.ref t.iJ)
 dZ:mg "NoText"=some (.ref t.bw)
 xA:mg "NoRow"=some (.ref t.mM)
 yb:mg "NoKey"=some (.ref t.qf)
 x6:mg "Twice"=some (.ref t.qe)
 x9:mg "TooOld"=some (.ref t.ol)
 ya:mg "NoMoment"=some (.ref t.kj)
 wV:mg "Leaves"=some (.ref t.bx)
 xB:mg "Makes"=some (.ref t.e8)
 xz:mg "Slots"=some (.ref t.aQ)
 xC:mg "House"=some (.ref t.av)
 yo:Fun K "__init__" "NoKey.__init__" gi t.tS t.gs
 yg:Binds K t.gs ["self","key"] []
 yi:Fun K "__init__" "Twice.__init__" gh t.tR t.gr
 yd:Binds K t.gr ["self","key"] []
 yj:Fun K "__init__" "TooOld.__init__" fw t.tf t.fN
 ye:Binds K t.fN ["self","moment"] []
 yk:Fun K "__init__" "NoMoment.__init__" dW t.rg t.d6
 yf:Binds K t.d6 ["self","moment"] []
 wX:mg "mark_of"=some (.ref t.lU)
 rl:Fun K "mark_of" "mark_of" iy t.lU t.iI
 wZ:Binds K t.iI ["key"] []
 lE:mg "slot_of"=some (.ref t.lR)
 iL:Fun K "slot_of" "slot_of" ix t.lR t.iG
 lQ:Binds K t.iG ["key","size"] []
 tq:Fun K "__init__" "Leaves.__init__" cV t.fS t.cZ
 sY:Binds K t.cZ ["self"] []
 tY:Fun K "add" "Leaves.add" cu t.gF t.dO
 tN:Binds K t.dO ["self","key"] []
 tX:Fun K "has" "Leaves.has" dA t.gE t.dN
 tM:Binds K t.dN ["self","key"] []
 yp:Fun K "many" "Leaves.many" fz t.ko t.fO
 yh:Binds K t.fO ["self"] []
 ql:Fun K "from_on" "Leaves.from_on" bB t.dq t.cb
 qh:Binds K t.cb ["self","key","most"] []
 qk:Fun K "leaf_of" "Leaves.leaf_of" b3 t.dn t.b9
 dk:Binds K t.b9 ["self","key"] []
 oz:Fun K "part_leaf" "Leaves.part_leaf" bL t.cJ t.bN
 oy:Binds K t.bN ["self","at"] []
 tW:Fun K "__init__" "Makes.__init__" dz t.gB t.dM
 tL:Binds K t.dM ["self"] []
 tV:Fun K "note" "Makes.note" dw t.gA t.dJ
 tK:Binds K t.dJ ["self","moment","value"] []
 iN:mg "empty_row"=some (.ref t.iT)
 fU:Fun K "empty_row" "empty_row" da t.iT t.fI
 iS:Binds K t.fI ["size"] []
 tU:Fun K "__init__" "Slots.__init__" dv t.gy t.dI
 tJ:Binds K t.dI ["self"] []
 vd:Fun K "put" "Slots.put" eE t.ii t.eW
 uW:Binds K t.eW ["self","key","value"] []
 vf:Fun K "get" "Slots.get" eJ t.ik t.eY
 uY:Binds K t.eY ["self","key"] []
 ve:Fun K "has" "Slots.has" eI t.ij t.eX
 uX:Binds K t.eX ["self","key"] []
 tT:Fun K "many" "Slots.many" du t.gx t.dH
 tI:Binds K t.dH ["self"] []
 rm:Fun K "cell_of" "Slots.cell_of" cj t.d8 t.cq
 d7:Binds K t.cq ["self","key"] []
 pC:Fun K "move_slot" "Slots.move_slot" bQ t.c6 t.bU
 pz:Binds K t.bU ["self"] []
 pD:Fun K "begin_row" "Slots.begin_row" bR t.c7 t.bV
 pA:Binds K t.bV ["self"] []
 t3:Fun K "__init__" "House.__init__" dC t.gH t.dQ
 tP:Binds K t.dQ ["self"] []
 vg:Fun K "put" "House.put" eK t.im t.eZ
 uZ:Binds K t.eZ ["self","key","value"] []
 vh:Fun K "get" "House.get" eL t.io t.e7
 u7:Binds K t.e7 ["self","key"] []
 tZ:Fun K "many" "House.many" dB t.gG t.dP
 tO:Binds K t.dP ["self"] []
 t4:Fun K "done" "House.done" dD t.gI t.dR
 tQ:Binds K t.dR ["self","row","value"] []
 tG:mg "are_figures"=some (.ref t.gv)
 kT:Fun K "are_figures" "are_figures" cr t.gv t.dF
 tH:Binds K t.dF ["text"] []
 mt:mg "read_whole"=some (.ref t.ib)
 iq:Fun K "read_whole" "read_whole" et t.ib t.eT
 mO:Binds K t.eT ["text"] []
 xD:mg "row_of"=some (.ref t.oo)
 tm:Fun K "row_of" "row_of" jI t.oo t.kh
 xM:Binds K t.kh ["key","value"] []
 wW:mg "rows_of"=some (.ref t.lT)
 rj:Fun K "rows_of" "rows_of" fY t.lT t.iH
 wY:Binds K t.iH ["house"] []
 xP:mg "shown"=some (.ref t.qi)
 vc:Fun K "shown" "shown" l5 t.qi t.mL
 xQ:Binds K t.mL ["house"] []
 mw:mg "read_house"=some (.ref t.ie)
 ir:Fun K "read_house" "read_house" eu t.ie t.eU
 mP:Binds K t.eU ["text"] []
 bh:mg "_law_cell_at"=some (.ref t.fQ)
 a7:Fun K "_law_cell_at" "_law_cell_at" cT t.fQ t.cX
 bj:Binds K t.cX ["_law_script","_law_k"] []
 eQ:mg "_law_drawn"=some (.ref t.ig)
 cN:Fun K "_law_drawn" "_law_drawn" eD t.ig t.eV
 fc:Binds K t.eV ["_law_cell","_law_k"] []
 vG:mg "_law_rows"=some (.ref t.iU)
 oq:Fun K "_law_rows" "_law_rows" fu t.iU t.fJ
 vN:Binds K t.fJ ["_law_script"] []
 sy:mg "_law_by_rows"=some (.ref t.fR)
 kq:Fun K "_law_by_rows" "_law_by_rows" cU t.fR t.cY
 sX:Binds K t.cY ["_law_rows_here","_law_cell"] []
 rp:mg "_law_by_words"=some (.ref t.fm)
 jb:Fun K "_law_by_words" "_law_by_words" cE t.fm t.cI
 rq:Binds K t.cI ["_law_rows_here","_law_cell"] []
 kP:mg "_law_number"=some (.ref t.gw)
 gJ:Fun K "_law_number" "_law_number" dt t.gw t.dG
 kS:Binds K t.dG ["_law_word"] []
 vH:mg "_law_good"=some (.ref t.iV)
 ot:Fun K "_law_good" "_law_good" fv t.iV t.fK
 vO:Binds K t.fK ["_law_text"] []
 j9:mg "_law_refused"=some (.ref t.fP)
 fV:Fun K "_law_refused" "_law_refused" cR t.fP t.cW
 km:Binds K t.cW ["_law_thing"] []
 xT:mg "law"=some (.ref t.vP)
 xO:Fun K "law" "law" rK t.vP t.qd
 b_law:Binds K t.qd ["_law_script"] []
 t7:XCls K t.a5 (([]:List Addr).map Value.ref++vBase)
 vT:XCls K t.iJ (([t.a5]:List Addr).map Value.ref++vBase)
 aN:XCls K t.bw (([t.a5]:List Addr).map Value.ref++vBase)
 iu:XIs K t.bw
 eR:PySem.W.findIn K (.ref t.bw) "__init__"=some (some (.builtin "ValueError.__init__"))
 xa:XCls K t.mM (([t.a5]:List Addr).map Value.ref++vBase)
 x5:NoAttr K t.qf "key"
 xX:XCls K t.qf (([t.a5]:List Addr).map Value.ref++vBase)
 xZ:NoAttr K t.qe "key"
 xU:XCls K t.qe (([t.a5]:List Addr).map Value.ref++vBase)
 x3:NoAttr K t.ol "moment"
 xV:XCls K t.ol (([t.a5]:List Addr).map Value.ref++vBase)
 x4:NoAttr K t.kj "moment"
 xW:XCls K t.kj (([t.a5]:List Addr).map Value.ref++vBase)
 aA:NoAttr K t.bx "leaves"
 aM:Cls K t.bx
 wU:Mk K t.bx t.fS
 tD:dU K t.bx "add" t.gF
 tz:dU K t.bx "has" t.gE
 yc:dU K t.bx "many" t.ko
 pT:dU K t.bx "from_on" t.dq
 de:dU K t.bx "leaf_of" t.dn
 ox:dU K t.bx "part_leaf" t.cJ
 kN:NoAttr K t.e8 "made"
 oh:Cls K t.e8
 xx:Mk K t.e8 t.gB
 tx:dU K t.e8 "note" t.gA
 aH:NoAttr K t.aQ "table"
 bf:NoAttr K t.aQ "shifted"
 a4:NoAttr K t.aQ "kept"
 au:Cls K t.aQ
 xw:Mk K t.aQ t.gy
 uG:dU K t.aQ "put" t.ii
 uI:dU K t.aQ "get" t.ik
 uH:dU K t.aQ "has" t.ij
 tw:dU K t.aQ "many" t.gx
 d2:dU K t.aQ "cell_of" t.d8
 oX:dU K t.aQ "move_slot" t.c6
 oY:dU K t.aQ "begin_row" t.c7
 eO:NoAttr K t.av "now"
 sr:NoAttr K t.av "floor"
 b8:NoAttr K t.av "slots"
 fk:NoAttr K t.av "leaves"
 iC:NoAttr K t.av "written"
 sk:NoAttr K t.av "marks"
 kO:NoAttr K t.av "past"
 qF:NoAttr K t.av "holders"
 aR:Cls K t.av
 xy:Mk K t.av t.gH
 uJ:dU K t.av "put" t.im
 uK:dU K t.av "get" t.io
 tE:dU K t.av "many" t.gG
 tF:dU K t.av "done" t.gI
 xY:xN K t.a5 "__init__" (.builtin "ValueError.__init__")
 rn:PySem.W.subIn K (.ref t.bw) (.ref t.mM)=some false
 qp:PySem.W.subIn K (.ref t.bw) (.ref t.bw)=some true
 pF:PySem.W.subIn K (.ref t.bw) (.ref t.iJ)=some false
 ou:PySem.W.subIn K (.ref t.bw) (.ref t.a5)=some true
 g_PLACES:∃tk,mg "PLACES"=some (.int 65536 tk)
 g_MOST_IN_LEAF:∃tk,mg "MOST_IN_LEAF"=some (.int 8 tk)
 g_LEAST_IN_TWO:∃tk,mg "LEAST_IN_TWO"=some (.int 5 tk)
 g_LEAST_SIZE:∃tk,mg "LEAST_SIZE"=some (.int 4 tk)
 g_GREATEST_SIZE:∃tk,mg "GREATEST_SIZE"=some (.int 256 tk)
 g_FIGURES:∃tk,mg "FIGURES"=some (.str "0123456789" tk)
 g_MOST_FIGURES:∃tk,mg "MOST_FIGURES"=some (.int 60 tk)
 t6:mg "ValueError"=none
 xS:mg "all"=none
 w5:mg "int"=none
 bY:mg "isinstance"=none
 bE:mg "len"=none
 xR:mg "min"=none
 t5:mg "range"=none
 rs:mg "str"=none
 z_sum:mg "sum"=none
theorem oJ:ay ["key"] ["key"] (ao iy):=fsc
theorem oI:ay ["key","size"] ["key","size"] (ao ix):=fsc
theorem i5:ay ["self"] ["self"] (ao cV):=fsc
theorem sc_Leaves__add:ay ["self","key","at","leaf"] ["self","key"] (ao cu):=fsc
theorem sc_Leaves__has:ay ["self","key","at"] ["self","key"] (ao dA):=fsc
theorem sc_Leaves__from_on:ay ["self","key","most","told","at"] ["self","key","most"] (ao bB):=fsc
theorem sc_Leaves__leaf_of:ay ["self","key","low","high","middle"] ["self","key"] (ao b3):=fsc
theorem sc_Leaves__part_leaf:ay ["self","at","leaf","middle"] ["self","at"] (ao bL):=fsc
theorem jF:ay ["self"] ["self"] (ao dz):=fsc
theorem jE:ay ["self","moment","value"] ["self","moment","value"] (ao dw):=fsc
theorem l4:ay ["size"] ["size"] (ao da):=fsc
theorem jD:ay ["self"] ["self"] (ao dv):=fsc
theorem sc_Slots__put:ay ["self","key","value","cell"] ["self","key","value"] (ao eE):=fsc
theorem sc_Slots__get:ay ["self","key","cell"] ["self","key"] (ao eJ):=fsc
theorem kE:ay ["self","key"] ["self","key"] (ao eI):=fsc
theorem jC:ay ["self"] ["self"] (ao du):=fsc
theorem sc_Slots__cell_of:ay ["self","key","old","slot","new"] ["self","key"] (ao cj):=fsc
theorem sc_Slots__move_slot:ay ["self","old","new","key","value"] ["self"] (ao bQ):=fsc
theorem sc_Slots__begin_row:ay ["self","size"] ["self"] (ao bR):=fsc
theorem jH:ay ["self"] ["self"] (ao dC):=fsc
theorem kF:ay ["self","key","value"] ["self","key","value"] (ao eK):=fsc
theorem kG:ay ["self","key"] ["self","key"] (ao eL):=fsc
theorem jG:ay ["self"] ["self"] (ao dB):=fsc
theorem sc_House__done:ay ["self","row","value","key"] ["self","row","value"] (ao dD):=fsc
theorem jB:ay ["text"] ["text"] (ao cr):=fsc
theorem sc_read_whole:ay ["text","below","figures"] ["text"] (ao et):=fsc
theorem qx:ay ["key","value"] ["key","value"] (ao jI):=fsc
theorem sc_rows_of:ay ["house","keys"] ["house"] (ao fY):=fsc
theorem rJ:ay ["house"] ["house"] (ao l5):=fsc
theorem sc_read_house:ay ["text","house","last","row","words","key"] ["text"] (ao eu):=fsc
theorem i4:ay ["_law_script","_law_k"] ["_law_script","_law_k"] (ao cT):=fsc
theorem sc__law_drawn:ay ["_law_cell","_law_k","_law_number_here"] ["_law_cell","_law_k"] (ao eD):=fsc
theorem sc__law_rows:ay ["_law_script","_law_rows_here","_law_key","_law_k","_law_cell","_law_value"] ["_law_script"] (ao fu):=fsc
theorem sc__law_by_rows:ay ["_law_rows_here","_law_cell","_law_place","_law_way","_law_twice","_law_odd"] ["_law_rows_here","_law_cell"] (ao cU):=fsc
theorem sc__law_by_words:ay ["_law_rows_here","_law_cell","_law_at","_law_words","_law_odd","_law_word","_law_place","_law_way"] ["_law_rows_here","_law_cell"] (ao cE):=fsc
theorem sc__law_number:ay ["_law_word","_law_figures","_law_sign"] ["_law_word"] (ao dt):=fsc
theorem sc__law_good:ay ["_law_text","_law_last","_law_row","_law_words","_law_key"] ["_law_text"] (ao fv):=fsc
theorem sc__law_refused:ay ["_law_thing","e"] ["_law_thing"] (ao cR):=fsc
theorem sc_law:ay ["_law_script","_law_rows_here","_law_way","_law_text","_law_other"] ["_law_script"] (ao rK):=fsc
def Fr (F F':Addr->Prop) (H H':Hp):Prop:=∀b o,¬F b->H b=some o->H' b=some o/\¬F' b
theorem Fr.refl:Fr F F H H:=λ_ _ n e=>⟨e,n⟩
theorem Fr.trans {F'':Addr->Prop} {H'':Hp} (x:Fr F F' H H') (y:Fr F' F'' H' H''):Fr F F'' H H'':=λb o n e=>y b o (x b o n e).2 (x b o n e).1
theorem Fr.of_same (s:Same H H'):Fr F F H H':=λb o n e=>⟨s b o e,n⟩
def aT (kv:List (Int×V)):List (Key×V):=kv.map λp=>(Sum.inl p.1,p.2)
theorem cp {kv:List (Int×V)}:aJ (aT kv) (Sum.inl k:Key)=aJ kv k:=by
 induction kv with
 |nil=>rfl
 |cons p r ih=>
  show aJ ((Sum.inl p.1,p.2)::aT r) (Sum.inl k:Key)=_;by_cases e:p.1=k
  .rw[a9 e,a9 (by show(Sum.inl p.1:Key)=_;rw[e])]
  .rw[ba e,ba (by show ¬(Sum.inl p.1:Key)=_;exact λz=>e (Sum.inl.inj z)),ih]
theorem qK {kv:List (Int×V)}:((aT kv).any λx=>decide (x.1=(Sum.inl k:Key)))=kv.any λx=>decide (x.1=k):=by
 rw[bF,bF,cp]
theorem f7 {kv:List (Int×V)}:bb (aT kv) (Sum.inl k:Key) v=aT (bb kv k v):=by
 unfold bb;rw[qK];by_cases c:(kv.any λx=>decide (x.1=k))=true
 .rw[if_pos c,if_pos c];unfold aT;rw[Qk,Qk];refine yR λp _=>?_;show(if(Sum.inl p.1:Key)=Sum.inl k then _ else _)=_;by_cases e:p.1=k
  .rw[if_pos (by rw[e])];simp[e]
  .rw[if_neg λz=>e (Sum.inl.inj z)];simp[e]
 .rw[if_neg c,if_neg c];unfold aT;rw[zo];rfl
theorem f8 {kv:List (Int×V)}:(aT kv).length=kv.length:=z8 _
theorem jL {f:Str} {v:V}:∀fs:List (Str×V),(aV f v fs).length<=fs.length+1
 | []=>zg _
 |(g,x)::r=>by
  rw[aV];split
  .rw[zp,zp];lia
  .have:=jL (f:=f) (v:=v) r;rw[zp,zp];lia
section
variable {κ:Type} [DecidableEq κ] {kv:List (κ×V)} {k j:κ}
theorem mem_keys:∀{kv:List (κ×V)},k∈kv.map (·.1)↔(aJ kv k).isSome=true
 | []=>by simp[jj]
 |p::r=>by
  by_cases e:p.1=k
  .rw[a9 e];simp[e]
  .rw[ba e,<-mem_keys];simp[Ne.symm e]
theorem ka:(bb kv k v).map (·.1)=if(aJ kv k).isSome=true then kv.map (·.1)else kv.map (·.1)++ [k]:=by
 unfold bb;rw[bF];by_cases c:(aJ kv k).isSome=true
 .rw[if_pos c,if_pos c,Qk];refine yR λp _=>?_;show(if p.1=k then(p.1,v)else p).1=p.1;split<;>rfl
 .rw[if_neg c,if_neg c,zo];rfl
theorem oV (h:(kv.map (·.1)).Nodup):((bb kv k v).map (·.1)).Nodup:=by
 cases e:aJ kv k with
 |none=>exact uD v h e
 |some x=>rw[ka,e];exact h
theorem j4:∀{l S:List κ},l.Nodup->(∀x∈l,x∈S)->l.length<=S.length
 | [],_,_,_=>zF _
 |x::xs,S,hn,hs=>by
  obtain⟨h1,h2⟩:=zT.mp hn;have hx:x∈S:=hs x zi;have:=j4 (S:=S.erase x) h2 λy hy=>(List.mem_erase_of_ne λz=>h1 (by rw[<-z];exact hy)).mpr (hs y (zj _ hy));rw[List.length_erase_of_mem hx]at this;have:=List.length_pos_of_mem hx;rw[zp];lia
end
def SqF (K:PySem.W.Frag) (F:Addr->Prop) (H:Hp) (a:Addr) (xs:List V):Prop:=(Rd H a (.lst xs)/\¬F a)\/∀H',SqL K H' a xs
theorem SqF.sq (h:SqF K F H a xs):SqL K H a xs:=by
 rcases h with h|h
 .exact .inl h.1
 .exact h H
theorem SqF.of (h:SqL K H a xs) (n:∀o,H a=some o->¬F a):SqF K F H a xs:=by
 rcases h with h|h
 .rcases h with h|⟨o,h⟩
  .exact .inl ⟨.inl h,n _ h⟩
  .exact .inl ⟨.inr ⟨o,h⟩,n _ h⟩
 .exact .inr λ_=> .inr h
theorem SqF.fr (h:SqF K F H a xs) (f:Fr F F' H H'):SqF K F' H' a xs:=by
 rcases h with⟨h,n⟩|h
 .rcases h with h|⟨o,h⟩
  .exact .inl ⟨.inl (f _ _ n h).1,(f _ _ n h).2⟩
  .exact .inl ⟨.inr ⟨o,(f _ _ n h).1⟩,(f _ _ n h).2⟩
 .exact .inr h
structure SSt where
 kv:List (Int×V)
 size:Int
 nxt:Option Int
 mv:Int
def SSt.new:SSt:=⟨[],4,none,0⟩
def SSt.one (s:SSt):SSt:=match s.nxt with
 |none=>s
 |some m=>if s.mv+1=s.size then{s with size:=m,nxt:=none,mv:=0}else{s with mv:=s.mv+1}
def SSt.three (s:SSt):SSt:=match s.nxt with
 |some _=>s
 |none=>if s.size<(s.kv.length:Int)/\s.size<256 then{s with nxt:=some (2*s.size),mv:=0}else if 4*(s.kv.length:Int)<s.size/\4<s.size then{s with nxt:=some (s.size/2),mv:=0}else s
def SSt.put (s:SSt) (k:Int) (v:V):SSt:=SSt.three {s.one with kv:=bb s.kv k v}
def SSt.moved (s:SSt):Int:=match s.nxt with
 |none=>0
 |some _=>s.mv
structure SlD where
 tb:Addr
 r0:Addr
 r1:Addr
 A0:List Addr
 A1:List Addr
 C0:List (List (Int×V))
 C1:List (List (Int×V))
 n:Int
def slF (tb:Addr) (sh n:Int):List (Str×V):=[("table",.ref tb),("shifted",.int sh),("kept",.int n)]
theorem cM {k:Str} {r:List (Str×V)}:((k,v)::r).lookup k=some v:=by
 have hb:(k==k)=true:=beq_iff_eq.mpr rfl;simp only[List.lookup,hb]
theorem bi {k m:Str} {r:List (Str×V)} (h:m≠k):((k,v)::r).lookup m=r.lookup m:=by
 have hb:(m==k)=false:=beq_eq_false_iff_ne.mpr h;simp only[List.lookup,hb]
section
variable {tb':Addr} {sh sh' n n':Int} {m:Str}
theorem fg:(slF tb sh n).lookup ("table":Str)=some (.ref tb):=cM
theorem m4:(slF tb sh n).lookup ("shifted":Str)=some (.int sh):=by unfold slF;rw[bi (by decide+kernel),cM]
theorem gV:(slF tb sh n).lookup ("kept":Str)=some (.int n):=by unfold slF;rw[bi (by decide+kernel),bi (by decide+kernel),cM]
def NoM (m:Str):Prop:=m≠("table":Str)/\m≠("shifted":Str)/\m≠("kept":Str)
instance:Decidable (NoM m):=by unfold NoM;infer_instance
theorem vt (h:NoM m):(slF tb sh n).lookup m=none:=by unfold slF;rw[bi h.1,bi h.2.1,bi h.2.2];rfl
theorem xr:aV ("table":Str) (.ref tb') (slF tb sh n)=slF tb' sh n:=by unfold slF;rw[aV,if_pos rfl]
theorem vA:aV ("shifted":Str) (.int sh') (slF tb sh n)=slF tb sh' n:=by unfold slF;rw[aV,if_neg (by decide+kernel),aV,if_pos rfl]
theorem xt:aV ("kept":Str) (.int n') (slF tb sh n)=slF tb sh n':=by unfold slF;rw[aV,if_neg (by decide+kernel),aV,if_neg (by decide+kernel),aV,if_pos rfl]
theorem je:(slF tb sh n).length<1000:=by show 3<1000;decide
end
structure RowOk (H:Hp) (r:Addr) (A:List Addr) (C:List (List (Int×V))) (sz:Int):Prop where
 lst:H r=some (.lst (A.map V.ref))
 la:(A.length:Int)=sz
 lc:(C.length:Int)=sz
 cell:∀(j:Nat) (b:Addr) (kv:List (Int×V)),A[j]?=some b->C[j]?=some kv->H b=some (.dK (aT kv))
 ndk:∀(j:Nat) (kv:List (Int×V)),C[j]?=some kv->(kv.map (·.1)).Nodup
 inj:∀(i j:Nat) (b:Addr),A[i]?=some b->A[j]?=some b->i=j
 home:∀(j:Nat) (kv:List (Int×V)),C[j]?=some kv->∀p∈kv,p.1%65536%sz=(j:Int)
theorem RowOk.has {C:List (List (Int×V))} (h:RowOk H r A C sz) (hb:b∈A):∃(j:Nat) (kv:List (Int×V)),A[j]?=some b/\C[j]?=some kv/\H b=some (.dK (aT kv)):=by
 obtain⟨j,hj,e⟩:=zO hb;have hc:j<C.length:=by have:=h.la;have:=h.lc;lia
 have e1:A[j]?=some b:=by rw[zc hj,e]
 have e2:C[j]?=some C[j]:=zc hc;exact⟨j,C[j],e1,e2,h.cell j b _ e1 e2⟩
theorem RowOk.frame {C:List (List (Int×V))} (h:RowOk H r A C sz) (f:∀b,b=r\/b∈A->H' b=H b):RowOk H' r A C sz:=
 ⟨by rw[f r (.inl rfl)];exact h.lst,h.la,h.lc,λj b kv e1 e2=>by rw[f b (.inr (z7 e1))];exact h.cell j b kv e1 e2,h.ndk,h.inj,h.home⟩
theorem RowOk.notr {C:List (List (Int×V))} (h:RowOk H r A C sz) (hb:b∈A) {x:Addr} (e:H x=some o) (ne:∀kvs,o≠ .dK kvs):b≠x:=λz=>by
 obtain⟨j,kv,_,_,q⟩:=h.has hb;rw[z,e]at q;cases q;exact ne _ rfl
theorem RowOk.set {C:List (List (Int×V))} (h:RowOk H r A C sz) (ea:A[j]?=some c) (nd:(kv'.map (·.1)).Nodup) (hm:∀p∈kv',p.1%65536%sz=(j:Int)):
  RowOk (upd H c (.dK (aT kv'))) r A (C.set j kv') sz:=by
 have hc:r≠c:=(h.notr (z7 ea) h.lst (λ_ z=>by cases z)).symm;refine⟨by rw[ae hc];exact h.lst,h.la,by rw[zL];exact h.lc,λi b kv e1 e2=>?_,λi kv e=>?_,h.inj,λi kv e=>?_⟩
 .rw[zy]at e2;by_cases z:j=i
  .subst z;rw[ea]at e1;cases e1;rw[if_pos rfl]at e2;split at e2
   .cases e2;exact ag
   .cases e2
  .rw[if_neg z]at e2;rw[ae λy=>z (h.inj j i c ea (by rw[<-y];exact e1))];exact h.cell i b kv e1 e2
 .rw[zy]at e;by_cases z:j=i
  .rw[if_pos z]at e;split at e
   .cases e;exact nd
   .cases e
  .rw[if_neg z]at e;exact h.ndk i kv e
 .rw[zy]at e;by_cases z:j=i
  .subst z;rw[if_pos rfl]at e;split at e
   .cases e;exact hm
   .cases e
  .rw[if_neg z]at e;exact h.home i kv e
def SlF (a:Addr) (st:SSt) (d:SlD):Addr->Prop:=λb=>b=a\/b=d.tb\/b=d.r0\/b∈d.A0\/(st.nxt.isSome=true/\b=d.r1)\/b∈d.A1
def IsCell (d:SlD) (st:SSt) (k:Int) (c:Addr) (kv:List (Int×V)):Prop:=
 (st.moved<=k%65536%st.size/\d.A0[(k%65536%st.size).toNat]?=some c/\d.C0[(k%65536%st.size).toNat]?=some kv)\/
 (∃m,st.nxt=some m/\k%65536%st.size<st.moved/\d.A1[(k%65536%m).toNat]?=some c/\d.C1[(k%65536%m).toNat]?=some kv)
structure SzOk (st:SSt):Prop where
 pw:st.size∈([4,8,16,32,64,128,256]:List Int)
 nx:∀m,st.nxt=some m->m∈([4,8,16,32,64,128,256]:List Int)/\0<=st.mv/\st.mv<st.size/\(m=2*st.size\/2*m=st.size)
theorem gZ {x:Int} (h:x∈([4,8,16,32,64,128,256]:List Int)):x=4\/x=8\/x=16\/x=32\/x=64\/x=128\/x=256:=by simpa using h
theorem b4 {x:Int} (h:x∈([4,8,16,32,64,128,256]:List Int)):4<=x/\x<=256:=by
 rcases gZ h with h|h|h|h|h|h|h<;>lia
structure SlB (t:Adr) (H:Hp) (a:Addr) (st:SSt) (d:SlD):Prop where
 obj:∃dx,H a=some (.ins t.aQ dx (slF d.tb st.moved d.n))
 tbl:H d.tb=some (.lst (match st.nxt with|none=> [.ref d.r0]|some _=> [.ref d.r0,.ref d.r1]))
 row0:RowOk H d.r0 d.A0 d.C0 st.size
 row1:match st.nxt with|none=>d.A1=[]/\d.C1=[]|some m=>RowOk H d.r1 d.A1 d.C1 m
 dis:∀b,b∈d.A0->b∉d.A1
 tr:d.tb≠d.r0
 tr1:st.nxt.isSome=true->d.tb≠d.r1/\d.r0≠d.r1
 old:∀(j:Nat) (kv:List (Int×V)),d.C0[j]?=some kv->(j:Int)<st.moved->kv=[]
 new:∀(j:Nat) (kv:List (Int×V)),d.C1[j]?=some kv->∀p∈kv,p.1%65536%st.size<st.moved
 val:∀(k:Int) (c:Addr) (kv:List (Int×V)),IsCell d st k c kv->aJ kv k=aJ st.kv k
section
theorem SlB.frame (h:SlB t H a st d) (f:∀b,SlF a st d b->H' b=H b):SlB t H' a st d:=by
 obtain⟨dx,ho⟩:=h.obj;refine⟨⟨dx,by rw[f a (.inl rfl)];exact ho⟩,by rw[f d.tb (.inr (.inl rfl))];exact h.tbl,h.row0.frame λb hb=>f b ?_,?_,h.dis,h.tr,h.tr1,h.old,h.new,h.val⟩
 .rcases hb with hb|hb
  .exact .inr (.inr (.inl hb))
  .exact .inr (.inr (.inr (.inl hb)))
 .have r1:=h.row1;have ff:=f;unfold SlF at ff;cases e:st.nxt with
  |none=>rw[e]at r1;exact r1
  |some m=>
   rw[e]at r1;refine RowOk.frame (H:=H) r1 λb hb=>f b ?_;unfold SlF;rw[e];rcases hb with hb|hb
   .exact .inr (.inr (.inr (.inr (.inl ⟨rfl,hb⟩))))
   .exact .inr (.inr (.inr (.inr (.inr hb))))
theorem SlB.dom (h:SlB t H a st d) (hb:SlF a st d b):∃o,H b=some o:=by
 obtain⟨dx,ho⟩:=h.obj;rcases hb with rfl|rfl|rfl|hb|⟨hs,rfl⟩|hb
 .exact⟨_,ho⟩
 .exact⟨_,h.tbl⟩
 .exact⟨_,h.row0.lst⟩
 .obtain⟨_,_,_,_,q⟩:=h.row0.has hb;exact⟨_,q⟩
 .have r1:=h.row1;cases e:st.nxt with
  |none=>rw[e]at hs;cases hs
  |some m=>rw[e]at r1;exact⟨_,r1.lst⟩
 .have r1:=h.row1;cases e:st.nxt with
  |none=>rw[e]at r1;rw[r1.1]at hb;cases hb
  |some m=>rw[e]at r1;obtain⟨_,_,_,_,q⟩:=r1.has hb;exact⟨_,q⟩
theorem SlB.at (h:SlB t H a st d) {kv:List (Int×V)} (ic:IsCell d st k c kv):H c=some (.dK (aT kv))/\SlF a st d c/\(kv.map (·.1)).Nodup:=by
 rcases ic with⟨_,e1,e2⟩|⟨m,em,_,e1,e2⟩
 .exact⟨h.row0.cell _ _ _ e1 e2,.inr (.inr (.inr (.inl (z7 e1)))),h.row0.ndk _ _ e2⟩
 .have r1:=h.row1;rw[em]at r1;exact⟨r1.cell _ _ _ e1 e2,.inr (.inr (.inr (.inr (.inr (z7 e1))))),r1.ndk _ _ e2⟩
theorem iD (hm:4<=m):0<=k%65536%m/\k%65536%m<m/\((k%65536%m).toNat:Int)=k%65536%m:=by
 have h1:=zz (k%65536) (show m≠0 by lia);have h2:=zB (k%65536) (show 0<m by lia);exact⟨h1,h2,Int.toNat_of_nonneg h1⟩
theorem bM {l:List α} {z:Int} (h0:0<=z) (h1:z<(l.length:Int)):∃x,l[z.toNat]?=some x:=⟨l[z.toNat]'(by lia),zc (by lia)⟩
theorem SlB.cell (h:SlB t H a st d) (z:SzOk st) (k:Int):∃c kv,IsCell d st k c kv:=by
 obtain⟨s4,_⟩:=b4 z.pw;obtain⟨m0,m1,m2⟩:=iD (k:=k) s4;by_cases c:st.moved<=k%65536%st.size
 .obtain⟨x,e1⟩:=bM (l:=d.A0) m0 (by rw[h.row0.la];exact m1);obtain⟨y,e2⟩:=bM (l:=d.C0) m0 (by rw[h.row0.lc];exact m1);exact⟨x,y,.inl ⟨c,e1,e2⟩⟩
 .cases e:st.nxt with
  |none=>
   exfalso;have:st.moved=0:=by unfold SSt.moved;rw[e]
   lia
  |some m=>
   obtain⟨pm,_⟩:=z.nx m e;obtain⟨s5,_⟩:=b4 pm;obtain⟨n0,n1,n2⟩:=iD (k:=k) s5;have r1:=h.row1;rw[e]at r1;obtain⟨x,e1⟩:=bM (l:=d.A1) n0 (by rw[r1.la];exact n1);obtain⟨y,e2⟩:=bM (l:=d.C1) n0 (by rw[r1.lc];exact n1);exact⟨x,y,.inr ⟨m,e,by lia,e1,e2⟩⟩
theorem IsCell.uniq {c':Addr} {kv:List (Int×V)} (x:IsCell d st k c kv) (y:IsCell d st k c' kv'):c=c'/\kv=kv':=by
 rcases x with⟨h0,e1,e2⟩|⟨m,em,h0,e1,e2⟩<;>rcases y with⟨g0,f1,f2⟩|⟨m',em',g0,f1,f2⟩
 .rw[e1]at f1;rw[e2]at f2;cases f1;cases f2;exact⟨rfl,rfl⟩
 .lia
 .lia
 .rw[em]at em';cases em';rw[e1]at f1;rw[e2]at f2;cases f1;cases f2;exact⟨rfl,rfl⟩
theorem SlB.setN (h:SlB t H a st d) {n:Int}:SlB t (upd H a (.ins t.aQ dx (slF d.tb st.moved n))) a st {d with n:=n}:=by
 obtain⟨dy,ho⟩:=h.obj;have n1:d.tb≠a:=bC h.tbl ho (by intro z;cases z);refine⟨⟨dx,ag⟩,by show upd H a _ d.tb=_;rw[ae n1];exact h.tbl,h.row0.frame λb hb=>ae ?_,?_,h.dis,h.tr,h.tr1,h.old,h.new,h.val⟩
 .rcases hb with rfl|hb
  .exact bC h.row0.lst ho (by intro z;cases z)
  .exact h.row0.notr hb ho (λ_ z=>by cases z)
 .have r1:=h.row1;cases e:st.nxt with
  |none=>rw[e]at r1;exact r1
  |some m=>
   rw[e]at r1;refine RowOk.frame (H:=H) r1 λb hb=>ae ?_;rcases hb with rfl|hb
   .exact bC r1.lst ho (by intro z;cases z)
   .exact r1.notr hb ho (λ_ z=>by cases z)
theorem SlB.setCell (h:SlB t H a st d) (z:SzOk st) {kv:List (Int×V)} (ic:IsCell d st k c kv) (nd:(kv'.map (·.1)).Nodup) (hm:∀p∈kv',p∈kv\/p.1=k)
  (hk:aJ kv' k=aJ kvs k) (ho:∀j,j≠k->aJ kv' j=aJ kv j/\aJ kvs j=aJ st.kv j):
  ∃d',SlB t (upd H c (.dK (aT kv'))) a {st with kv:=kvs} d'/\d'.n=d.n/\∀b,SlF a {st with kv:=kvs} d' b↔SlF a st d b:=by
 obtain⟨hc,hf,_⟩:=h.at ic;obtain⟨dx,hob⟩:=h.obj;obtain⟨s4,_⟩:=b4 z.pw;obtain⟨m0,m1,m2⟩:=iD (k:=k) s4;have na:a≠c:=bC hob hc (by intro z;cases z);have nt:d.tb≠c:=bC h.tbl hc (by intro z;cases z);have nr:d.r0≠c:=bC h.row0.lst hc (by intro z;cases z);have vals:∀(d':SlD) (j:Int) (b:Addr) (x:List (Int×V)),IsCell d' {st with kv:=kvs} j b x->(∀y,IsCell d st j b y->(x=y/\b≠c)\/(x=kv'/\y=kv))->(∃y,IsCell d st j b y)->aJ x j=aJ kvs j:=λd' j b x hx f ⟨y,hy⟩=>by
  by_cases e:j=k
  .subst e;obtain⟨rfl,rfl⟩:=IsCell.uniq hy ic;rcases f y hy with⟨_,z⟩|⟨rfl,_⟩
   .exact absurd rfl z
   .exact hk
  .rw[(ho j e).2];rcases f y hy with⟨rfl,_⟩|⟨rfl,rfl⟩
   .exact h.val j b x hy
   .rw[(ho j e).1];exact h.val j b y hy
 rcases ic with⟨h0,e1,e2⟩|⟨m,em,h0,e1,e2⟩
 .have hin:c∈d.A0:=z7 e1;have hmem:∀p∈kv',p.1%65536%st.size=((k%65536%st.size).toNat:Int):=λp hp=>by
   rcases hm p hp with q|q
   .exact h.row0.home _ _ e2 p q
   .rw[q,m2]
  refine⟨{d with C0:=d.C0.set (k%65536%st.size).toNat kv'},⟨⟨dx,by rw[ae na];exact hob⟩,by show upd H c _ d.tb=_;rw[ae nt];exact h.tbl,h.row0.set e1 nd hmem,?_,h.dis,h.tr,h.tr1,λj x e lt=>?_,h.new,λj b x hx=>?_⟩,rfl,λb=>Iff.rfl⟩
  .have r1:=h.row1;show match st.nxt with|none=>_|some m=>_
   cases e:st.nxt with
   |none=>rw[e]at r1;exact r1
   |some m=>
    rw[e]at r1;refine RowOk.frame (H:=H) r1 λb hb=>ae ?_;rcases hb with rfl|hb
    .exact bC r1.lst hc (by intro z;cases z)
    .exact λy=>h.dis c hin (y▸hb)
  .have e:(d.C0.set (k%65536%st.size).toNat kv')[j]?=some x:=e;have lt:(j:Int)<st.moved:=lt;rw[zy]at e;by_cases q:(k%65536%st.size).toNat=j
   .exfalso;lia
   .rw[if_neg q]at e;exact h.old j x e lt
  .refine vals _ j b x hx (λy hy=>?_) ?_
   .rcases hx with⟨g0,f1,f2⟩|⟨m',em',g0,f1,f2⟩
    .have f2:(d.C0.set (k%65536%st.size).toNat kv')[(j%65536%st.size).toNat]?=some x:=f2;have f1:d.A0[(j%65536%st.size).toNat]?=some b:=f1;have g0:st.moved<=j%65536%st.size:=g0;rcases hy with⟨_,y1,y2⟩|⟨_,_,y0,_,_⟩
     .rw[zy]at f2;by_cases q:(k%65536%st.size).toNat=(j%65536%st.size).toNat
      .rw[if_pos q]at f2;split at f2
       .cases f2;rw[<-q,e2]at y2;cases y2;exact .inr ⟨rfl,rfl⟩
       .cases f2
      .rw[if_neg q,y2]at f2;cases f2;exact .inl ⟨rfl,λw=>q (h.row0.inj _ _ c e1 (by rw[<-w];exact f1))⟩
     .lia
    .have f1:d.A1[(j%65536%m').toNat]?=some b:=f1;have f2:d.C1[(j%65536%m').toNat]?=some x:=f2;have g0:j%65536%st.size<st.moved:=g0;have em':st.nxt=some m':=em';rcases hy with⟨y0,_,_⟩|⟨m2,e3,y0,y1,y2⟩
     .lia
     .rw[em']at e3;cases e3;rw[f2]at y2;cases y2;exact .inl ⟨rfl,λw=>h.dis c hin (w▸z7 f1)⟩
   .obtain⟨b',y,hy⟩:=h.cell z j;have:b'=b:=by
     rcases hx with⟨g0,f1,f2⟩|⟨m',em',g0,f1,f2⟩<;>rcases hy with⟨y0,y1,y2⟩|⟨m3,e3,y0,y1,y2⟩
     .have f1:d.A0[(j%65536%st.size).toNat]?=some b:=f1;rw[y1]at f1;exact Option.some.inj f1
     .have g0:st.moved<=j%65536%st.size:=g0;lia
     .have g0:j%65536%st.size<st.moved:=g0;lia
     .have em':st.nxt=some m':=em';rw[em']at e3;cases e3;have f1:d.A1[(j%65536%m').toNat]?=some b:=f1;rw[y1]at f1;exact Option.some.inj f1
    subst this;exact⟨y,hy⟩
 .have r1:=h.row1;rw[em]at r1;have hin:c∈d.A1:=z7 e1;obtain⟨pm,_⟩:=z.nx m em;obtain⟨s5,_⟩:=b4 pm;obtain⟨n0,n1,n2⟩:=iD (k:=k) s5;have hmem:∀p∈kv',p.1%65536%m=((k%65536%m).toNat:Int):=λp hp=>by
   rcases hm p hp with q|q
   .exact r1.home _ _ e2 p q
   .rw[q,n2]
  refine⟨{d with C1:=d.C1.set (k%65536%m).toNat kv'},⟨⟨dx,by rw[ae na];exact hob⟩,by show upd H c _ d.tb=_;rw[ae nt];exact h.tbl,h.row0.frame λb hb=>ae ?_,?_,h.dis,h.tr,h.tr1,h.old,λj x e p hp=>?_,λj b x hx=>?_⟩,rfl,λb=>Iff.rfl⟩
  .rcases hb with rfl|hb
   .exact nr
   .exact λy=>h.dis b hb (y▸hin)
  .show match st.nxt with|none=>_|some m=>_
   rw[em];exact r1.set e1 nd hmem
  .have e:(d.C1.set (k%65536%m).toNat kv')[j]?=some x:=e;show p.1%65536%st.size<st.moved;rw[zy]at e;by_cases q:(k%65536%m).toNat=j
   .rw[if_pos q]at e;split at e
    .cases e;rcases hm p hp with q|q
     .exact h.new _ _ e2 p q
     .rw[q];exact h0
    .cases e
   .rw[if_neg q]at e;exact h.new j x e p hp
  .refine vals _ j b x hx (λy hy=>?_) ?_
   .rcases hx with⟨g0,f1,f2⟩|⟨m',em',g0,f1,f2⟩
    .have f1:d.A0[(j%65536%st.size).toNat]?=some b:=f1;have f2:d.C0[(j%65536%st.size).toNat]?=some x:=f2;have g0:st.moved<=j%65536%st.size:=g0;rcases hy with⟨_,y1,y2⟩|⟨_,_,y0,_,_⟩
     .rw[f2]at y2;cases y2;exact .inl ⟨rfl,λw=>h.dis b (z7 f1) (w▸hin)⟩
     .lia
    .have em':st.nxt=some m':=em';rw[em]at em';cases em';have f2:(d.C1.set (k%65536%m).toNat kv')[(j%65536%m).toNat]?=some x:=f2;have f1:d.A1[(j%65536%m).toNat]?=some b:=f1;have g0:j%65536%st.size<st.moved:=g0;rcases hy with⟨y0,_,_⟩|⟨m2,e3,y0,y1,y2⟩
     .lia
     .rw[em]at e3;cases e3;rw[zy]at f2;by_cases q:(k%65536%m).toNat=(j%65536%m).toNat
      .rw[if_pos q]at f2;split at f2
       .cases f2;rw[<-q,e2]at y2;cases y2;exact .inr ⟨rfl,rfl⟩
       .cases f2
      .rw[if_neg q,y2]at f2;cases f2;exact .inl ⟨rfl,λw=>q (r1.inj _ _ c e1 (by rw[<-w];exact f1))⟩
   .obtain⟨b',y,hy⟩:=h.cell z j;have:b'=b:=by
     rcases hx with⟨g0,f1,f2⟩|⟨m',em',g0,f1,f2⟩<;>rcases hy with⟨y0,y1,y2⟩|⟨m3,e3,y0,y1,y2⟩
     .have f1:d.A0[(j%65536%st.size).toNat]?=some b:=f1;rw[y1]at f1;exact Option.some.inj f1
     .have g0:st.moved<=j%65536%st.size:=g0;lia
     .have g0:j%65536%st.size<st.moved:=g0;lia
     .have em':st.nxt=some m':=em';rw[em']at e3;cases e3;have f1:d.A1[(j%65536%m').toNat]?=some b:=f1;rw[y1]at f1;exact Option.some.inj f1
    subst this;exact⟨y,hy⟩
end
theorem j7 {kv:List (Int×V)} {p:Int×V} (h:p∈bb kv k v):p∈kv\/p.1=k:=by
 unfold bb at h;split at h
 .obtain⟨q,hq,e⟩:=zx.mp h;by_cases z:q.1=k
  .rw[if_pos z]at e;rw[<-e];exact .inr z
  .rw[if_neg z]at e;rw[<-e];exact .inl hq
 .rcases zd.mp h with h|h
  .exact .inl h
  .rw[zf.mp h];exact .inr rfl
theorem uF {kv:List (Int×V)} {p:Int×V} (h:p∈kv):(aJ kv p.1).isSome=true:=mem_keys.mp (zx.mpr ⟨p,h,rfl⟩)
def cH (m:Int) (C:List (List (Int×V))) (p:Int×V):List (List (Int×V)):=C.set (p.1%65536%m).toNat (bb (C.getD (p.1%65536%m).toNat []) p.1 p.2)
theorem su {C:List (List (Int×V))} {p:Int×V}:(cH m C p).length=C.length:=zL
theorem pR {m:Int}:∀{kv:List (Int×V)} {C:List (List (Int×V))},(kv.foldl (cH m) C).length=C.length
 | [],_=>rfl
 |p::r,C=>by rw[List.foldl_cons,pR,su]
theorem nK {C:List (List (Int×V))} {p:Int×V} {y:List (Int×V)} (e:C[j]?=some y):(cH m C p)[j]?=some (if(p.1%65536%m).toNat=j then bb y p.1 p.2 else y):=by
 unfold cH;rw[zy];by_cases z:(p.1%65536%m).toNat=j
 .have hj:j<C.length:=(za.mp e).1;rw[if_pos z,if_pos z,if_pos (by rw[z];exact hj),zX,z,e];rfl
 .rw[if_neg z,if_neg z,e]
theorem mq {m:Int}:∀{kv:List (Int×V)} {C:List (List (Int×V))} {j:Nat} {y:List (Int×V)},(kv.map (·.1)).Nodup->C[j]?=some y->∃x,(kv.foldl (cH m) C)[j]?=some x/\
  (∀p∈x,p∈y\/p.1∈kv.map (·.1))/\∀k,aJ x k=if(k%65536%m).toNat=j then(aJ kv k).or (aJ y k)else aJ y k
 | [],C,j,y,_,e=>⟨y,e,λp hp=> .inl hp,λk=>by rw[jj];simp⟩
 |p::r,C,j,y,nd,e=>by
  obtain⟨n1,n2⟩:=zT.mp (show(p.1::r.map (·.1)).Nodup from nd);obtain⟨x,h1,h2,h3⟩:=mq (m:=m) n2 (nK (m:=m) (p:=p) e);refine⟨x,h1,λq hq=>?_,λk=>?_⟩
  .rcases h2 q hq with z|z
   .split at z
    .rcases j7 z with z|z
     .exact .inl z
     .exact .inr (zx.mpr ⟨p,zi,z.symm⟩)
    .exact .inl z
   .exact .inr (zj _ z)
  .rw[h3 k];by_cases z:(k%65536%m).toNat=j
   .rw[if_pos z,if_pos z];by_cases w:p.1=k
    .subst w;have:aJ r p.1=none:=by
      cases q:aJ r p.1 with
      |none=>rfl
      |some v=>exact absurd (lV q) n1
     rw[this,a9 rfl,if_pos z,bZ,if_pos rfl];rfl
    .rw[ba w];congr 1;split
     .rw[bZ,if_neg (Ne.symm w)]
     .rfl
   .rw[if_neg z,if_neg z];split
    .rename_i w
     rw[bZ,if_neg (λy=>z (by rw[y];exact w))]
    .rfl
theorem RowOk.mov {C:List (List (Int×V))} {y:List (Int×V)} (h:RowOk H r A C sz) (s4:4<=sz) (ea:A[(k%65536%sz).toNat]?=some c) (ey:C[(k%65536%sz).toNat]?=some y):
  RowOk (upd H c (.dK (aT (bb y k v)))) r A (cH sz C (k,v)) sz:=by
 have e:cH sz C (k,v)=C.set (k%65536%sz).toNat (bb y k v):=by
  unfold cH;rw[zX];show C.set (k%65536%sz).toNat (bb (C[(k%65536%sz).toNat]?.getD []) k v)=_;rw[ey];rfl
 rw[e];obtain⟨m0,m1,m2⟩:=iD (k:=k) s4;refine h.set ea (oV (h.ndk _ _ ey)) λp hp=>?_;rcases j7 hp with z|z
 .exact h.home _ _ ey p z
 .rw[z,m2]
section
theorem SSt.moved_some (e:st.nxt=some m):st.moved=st.mv:=by unfold SSt.moved;rw[e]
theorem SSt.moved_none (e:st.nxt=none):st.moved=0:=by unfold SSt.moved;rw[e]
theorem SlB.movVal (h:SlB t H a st d) (z:SzOk st) (em:st.nxt=some m) {kv:List (Int×V)} (ek:d.C0[st.mv.toNat]?=some kv) (hk:k%65536%st.size<=st.mv) {x:List (Int×V)}
  (ex:(kv.foldl (cH m) d.C1)[(k%65536%m).toNat]?=some x):aJ x k=aJ st.kv k:=by
 obtain⟨pm,v0,v1,_⟩:=z.nx m em;obtain⟨s4,_⟩:=b4 z.pw;obtain⟨s5,_⟩:=b4 pm;have r1:=h.row1;rw[em]at r1;obtain⟨n0,n1,n2⟩:=iD (k:=k) s5;obtain⟨m0,m1,m2⟩:=iD (k:=k) s4;obtain⟨y,ey⟩:=bM (l:=d.C1) n0 (by rw[r1.lc];exact n1);obtain⟨c1,ec1⟩:=bM (l:=d.A1) n0 (by rw[r1.la];exact n1);obtain⟨x',e',_,hv⟩:=mq (m:=m) (h.row0.ndk _ _ ek) ey;rw[ex]at e';cases e';rw[hv k,if_pos rfl];have hm:=SSt.moved_some em;by_cases c:k%65536%st.size=st.mv
 .obtain⟨b0,eb0⟩:=bM (l:=d.A0) m0 (by rw[h.row0.la];exact m1);have ic:IsCell d st k b0 kv:= .inl ⟨by lia,eb0,by rw[c];exact ek⟩;have yn:aJ y k=none:=by
   cases q:aJ y k with
   |none=>rfl
   |some v=>
    obtain⟨p,hp,e⟩:=zx.mp (lV q);have:=h.new _ _ ey p hp;rw[e]at this;lia
  rw[h.val k b0 kv ic,yn];simp
 .have ic:IsCell d st k c1 y:= .inr ⟨m,em,by lia,ec1,ey⟩;have kn:aJ kv k=none:=by
   cases q:aJ kv k with
   |none=>rfl
   |some v=>
    obtain⟨p,hp,e⟩:=zx.mp (lV q);have:=h.row0.home _ _ ek p hp;rw[e]at this;lia
  rw[kn,h.val k c1 y ic];rfl
theorem bP {l:List α} {x y:α} (e:(l.set i x)[j]?=some y):(i=j/\y=x)\/(i≠j/\l[j]?=some y):=by
 rw[zy]at e;by_cases z:i=j
 .rw[if_pos z]at e;split at e
  .cases e;exact .inl ⟨z,rfl⟩
  .cases e
 .rw[if_neg z]at e;exact .inr ⟨z,e⟩
theorem SlB.one (h:SlB t H a st d) (z:SzOk st) (em:st.nxt=some m) {kv:List (Int×V)} (ek:d.C0[st.mv.toNat]?=some kv) {b':Addr} (nl:st.mv+1≠st.size)
  (ha:H' a=some (.ins t.aQ dx (slF d.tb (st.mv+1) d.n))) (ht:H' d.tb=H d.tb) (h0:H' d.r0=some (.lst ((d.A0.set st.mv.toNat b').map V.ref))) (hb:H' b'=some (.dK [])) (hF:¬SlF a st d b')
  (hA:∀(j:Nat) b,d.A0[j]?=some b->j≠st.mv.toNat->H' b=H b) (hr:RowOk H' d.r1 d.A1 (kv.foldl (cH m) d.C1) m):
  SlB t H' a st.one {d with A0:=d.A0.set st.mv.toNat b',C0:=d.C0.set st.mv.toNat [],C1:=kv.foldl (cH m) d.C1}:=by
 obtain⟨pm,v0,v1,_⟩:=z.nx m em;have hone:st.one={st with mv:=st.mv+1}:=by unfold SSt.one;rw[em];exact if_neg nl
 have hmv:({st with mv:=st.mv+1}:SSt).moved=st.mv+1:=SSt.moved_some (st:={st with mv:=st.mv+1}) em;have hm:=SSt.moved_some em;have nA0:b'∉d.A0:=λq=>hF (.inr (.inr (.inr (.inl q))));have nA1:b'∉d.A1:=λq=>hF (.inr (.inr (.inr (.inr (.inr q)))));rw[hone];have r1:=h.row1;rw[em]at r1;refine⟨⟨dx,by rw[hmv];exact ha⟩,by rw[ht];exact h.tbl,⟨h0,by rw[zL];exact h.row0.la,by rw[zL];exact h.row0.lc,λj b x e1 e2=>?_,λj x e=>?_,λi j b e1 e2=>?_,λj x e p hp=>?_⟩,?_,λb hb0 hb1=>?_,h.tr,h.tr1,λj x e lt=>?_,λj x e p hp=>?_,λk c x ic=>?_⟩
 .rcases bP e1 with⟨q,rfl⟩|⟨q,e1⟩
  .rcases bP e2 with⟨_,rfl⟩|⟨q2,_⟩
   .exact hb
   .exact absurd q q2
  .rcases bP e2 with⟨q2,_⟩|⟨_,e2⟩
   .exact absurd q2 q
   .rw[hA j b e1 (Ne.symm q)];exact h.row0.cell j b x e1 e2
 .rcases bP e with⟨_,rfl⟩|⟨_,e⟩
  .exact yx
  .exact h.row0.ndk j x e
 .have e1:(d.A0.set st.mv.toNat b')[i]?=some b:=e1;have e2:(d.A0.set st.mv.toNat b')[j]?=some b:=e2;rcases bP e1 with⟨q,y1⟩|⟨q,f1⟩<;>rcases bP e2 with⟨q2,y2⟩|⟨q2,f2⟩
  .exact q.symm.trans q2
  .rw[y1]at f2;exact absurd (z7 f2) nA0
  .rw[y2]at f1;exact absurd (z7 f1) nA0
  .exact h.row0.inj i j b f1 f2
 .rcases bP e with⟨_,rfl⟩|⟨_,e⟩
  .cases hp
  .exact h.row0.home j x e p hp
 .show match st.nxt with|none=>_|some m=>_
  rw[em];exact hr
 .obtain⟨j,hj,e⟩:=zO (show b∈d.A0.set st.mv.toNat b' from hb0);rcases bP (za.mpr ⟨hj,e⟩)with⟨_,rfl⟩|⟨_,e⟩
  .exact nA1 hb1
  .exact h.dis b (z7 e) hb1
 .rw[hmv]at lt;rcases bP e with⟨_,rfl⟩|⟨q,e⟩
  .rfl
  .exact h.old j x e (by lia)
 .rw[hmv];show p.1%65536%st.size<st.mv+1;obtain⟨y,ey⟩:∃y,d.C1[j]?=some y:=by
   have hj:j<(kv.foldl (cH m) d.C1).length:=(za.mp e).1;rw[pR]at hj;exact⟨_,zc hj⟩
  obtain⟨x',e',hp',_⟩:=mq (m:=m) (h.row0.ndk _ _ ek) ey;have e:(kv.foldl (cH m) d.C1)[j]?=some x:=e;rw[e]at e';cases e';rcases hp' p hp with q|q
  .have:=h.new j y ey p q;lia
  .obtain⟨p',hp',e3⟩:=zx.mp q;have:=h.row0.home _ _ ek p' hp';rw[e3]at this;lia
 .show aJ x k=aJ st.kv k;rcases ic with⟨g0,f1,f2⟩|⟨m',em',g0,f1,f2⟩
  .rw[hmv]at g0;have g0:st.mv+1<=k%65536%st.size:=g0;have f1:(d.A0.set st.mv.toNat b')[(k%65536%st.size).toNat]?=some c:=f1;have f2:(d.C0.set st.mv.toNat [])[(k%65536%st.size).toNat]?=some x:=f2;rcases bP f1 with⟨q,_⟩|⟨_,f1⟩
   .lia
   .rcases bP f2 with⟨q,_⟩|⟨_,f2⟩
    .lia
    .exact h.val k c x (.inl ⟨by lia,f1,f2⟩)
  .rw[hmv]at g0;have em':st.nxt=some m':=em';rw[em]at em';cases em';have g0:k%65536%st.size<st.mv+1:=g0;exact h.movVal z em ek (by lia) f2
theorem SlB.last (h:SlB t H a st d) (z:SzOk st) (em:st.nxt=some m) {kv:List (Int×V)} (ek:d.C0[st.mv.toNat]?=some kv) {tb':Addr} (l:st.mv+1=st.size)
  (ha:H' a=some (.ins t.aQ dx (slF tb' 0 d.n))) (ht:H' tb'=some (.lst [.ref d.r1])) (hn:tb'≠d.r1) (hr:RowOk H' d.r1 d.A1 (kv.foldl (cH m) d.C1) m):
  SlB t H' a st.one ⟨tb',d.r1,d.r1,d.A1,[],kv.foldl (cH m) d.C1,[],d.n⟩:=by
 have hone:st.one={st with size:=m,nxt:=none,mv:=0}:=by unfold SSt.one;rw[em];exact if_pos l
 obtain⟨s4,_⟩:=b4 z.pw;rw[hone];refine⟨⟨dx,ha⟩,ht,hr,⟨rfl,rfl⟩,(λb _ q=>by cases q),hn,(λq=>by cases q),λj x e lt=>?_,(λj x e=>by simp at e),λk c x ic=>?_⟩
 .have lt:(j:Int)<0:=lt;lia
 .rcases ic with⟨g0,f1,f2⟩|⟨m',em',_⟩
  .have f2:(kv.foldl (cH m) d.C1)[(k%65536%m).toNat]?=some x:=f2;obtain⟨m0,m1,m2⟩:=iD (k:=k) s4;exact h.movVal z em ek (by lia) f2
  .cases em'
theorem SlB.begin (h:SlB t H a st d) (en:st.nxt=none) (ha:H' a=H a) (ht:H' d.tb=some (.lst [.ref d.r0,.ref r])) (h0:∀b,b=d.r0\/b∈d.A0->H' b=H b)
  (hr:RowOk H' r A (List.replicate m.toNat []) m) (nr:¬SlF a st d r) (nA:∀b∈A,¬SlF a st d b):SlB t H' a {st with nxt:=some m,mv:=0} {d with r1:=r,A1:=A,C1:=List.replicate m.toNat []}:=by
 obtain⟨dx,ho⟩:=h.obj;have hm:=SSt.moved_none en;refine⟨⟨dx,by rw[ha];rw[hm]at ho;exact ho⟩,ht,h.row0.frame h0,hr,λb q q2=>nA b q2 (.inr (.inr (.inr (.inl q)))),h.tr,λ_=>⟨λq=>nr (.inr (.inl q.symm)),λq=>nr (.inr (.inr (.inl q.symm)))⟩,λj x e lt=>?_,λj x e p hp=>?_,λk c x ic=>?_⟩
 .have lt:(j:Int)<0:=lt;lia
 .have:=y6 (z7 e);subst this;cases hp
 .rcases ic with⟨g0,f1,f2⟩|⟨m',em',g0,f1,f2⟩
  .refine h.val k c x (.inl ⟨?_,f1,f2⟩);rw[hm];exact g0
  .have g0:k%65536%st.size<0:=g0;have f2:(List.replicate m.toNat ([]:List (Int×V)))[(k%65536%m').toNat]?=some x:=f2;have:0<=k%65536%st.size:=by
    have hpos:(0:Int)<=st.size:=by rw[<-h.row0.la];lia
    rcases Int.lt_or_eq_of_le hpos with q|q
    .exact zz _ (by lia)
    .rw[<-q,Int.emod_zero];exact zz _ (by decide)
   lia
theorem SlB.fresh (ha:H a=some (.ins t.aQ dx (slF tb 0 0))) (ht:H tb=some (.lst [.ref r])) (hr:RowOk H r A (List.replicate 4 []) 4) (n:tb≠r):SlB t H a SSt.new ⟨tb,r,r,A,[],List.replicate 4 [],[],0⟩:=by
 refine⟨⟨dx,ha⟩,ht,hr,⟨rfl,rfl⟩,(λb _ q=>by cases q),n,(λq=>by cases q),λj x e lt=>?_,(λj x e=>by simp at e),λk c x ic=>?_⟩
 .have lt:(j:Int)<0:=lt;lia
 .rcases ic with⟨g0,f1,f2⟩|⟨m',em',_⟩
  .have f2:(List.replicate 4 ([]:List (Int×V)))[(k%65536%4).toNat]?=some x:=f2;have:=y6 (z7 f2);subst this;rfl
  .cases em'
theorem SlB.short (h:SlB t H a st d) (z:SzOk st) {kv:List (Int×V)} (ic:IsCell d st k c kv):kv.length<=st.kv.length:=by
 obtain⟨_,_,nd⟩:=h.at ic;have sub:∀x∈kv.map (·.1),x∈st.kv.map (·.1):=λx hx=>by
  obtain⟨p,hp,e⟩:=zx.mp hx;subst e;refine mem_keys.mpr ?_;have hs:=uF hp;have:∃c',IsCell d st p.1 c' kv:=by
   rcases ic with⟨g0,f1,f2⟩|⟨m,em,g0,f1,f2⟩
   .obtain⟨s4,_⟩:=b4 z.pw;obtain⟨m0,m1,m2⟩:=iD (k:=k) s4;have e:=h.row0.home _ _ f2 p hp;rw[m2]at e;exact⟨c,.inl ⟨by rw[e];exact g0,by rw[e];exact f1,by rw[e];exact f2⟩⟩
   .obtain⟨pm,_⟩:=z.nx m em;obtain⟨s5,_⟩:=b4 pm;obtain⟨n0,n1,n2⟩:=iD (k:=k) s5;have r1:=h.row1;rw[em]at r1;have e:=r1.home _ _ f2 p hp;rw[n2]at e;exact⟨c,.inr ⟨m,em,h.new _ _ f2 p hp,by rw[e];exact f1,by rw[e];exact f2⟩⟩
  obtain⟨c',ic'⟩:=this;rw[<-h.val p.1 c' kv ic'];exact hs
 have:=j4 nd sub;rw[z8,z8]at this;exact this
end
theorem nJ {m:Int}:∀{kv:List (Int×V)} {C:List (List (Int×V))} {j:Nat} {x y:List (Int×V)},C[j]?=some y->(kv.foldl (cH m) C)[j]?=some x->x.length<=y.length+kv.length
 | [],C,j,x,y,e,f=>by
  have f:C[j]?=some x:=f;rw[e]at f;cases f;exact zg _
 |p::r,C,j,x,y,e,f=>by
  have h:=nJ (m:=m) (nK (m:=m) (p:=p) e) f;have l:=cx y p.1 p.2;rw[zp];split at h<;>lia
section
theorem SlB.short0 (h:SlB t H a st d) (z:SzOk st) {kv:List (Int×V)} (e:d.C0[j]?=some kv):kv.length<=st.kv.length:=by
 cases kv with
 |nil=>exact zF _
 |cons p r=>
  have hp:=h.row0.home j _ e p zi;have nj:¬(j:Int)<st.moved:=λq=>by have:=h.old j _ e q;cases this
  have ej:(p.1%65536%st.size).toNat=j:=by lia
  have hj:j<d.A0.length:=by
   have:=h.row0.la;have:=h.row0.lc;have:=(za.mp e).1;lia
  exact h.short z (k:=p.1) (c:=d.A0[j]) (.inl ⟨by lia,by rw[ej];exact zc hj,by rw[ej];exact e⟩)
theorem SlB.short1 (h:SlB t H a st d) (z:SzOk st) (em:st.nxt=some m) {kv:List (Int×V)} (e:d.C1[j]?=some kv):kv.length<=st.kv.length:=by
 have r1:=h.row1;rw[em]at r1;cases kv with
 |nil=>exact zF _
 |cons p r=>
  have hp:=r1.home j _ e p zi;have nj:=h.new j _ e p zi;have ej:(p.1%65536%m).toNat=j:=by lia
  have hj:j<d.A1.length:=by
   have:=r1.la;have:=r1.lc;have:=(za.mp e).1;lia
  exact h.short z (k:=p.1) (c:=d.A1[j]) (.inr ⟨m,em,nj,by rw[ej];exact zc hj,by rw[ej];exact e⟩)
end
theorem SzOk.new:SzOk SSt.new:=⟨by decide,λm e=>by cases e⟩
theorem SzOk.kv (z:SzOk st):SzOk {st with kv:=kvs}:=⟨z.pw,z.nx⟩
theorem SzOk.one (z:SzOk st):SzOk st.one:=by
 unfold SSt.one;cases e:st.nxt with
 |none=>exact z
 |some m=>
  obtain⟨pm,v0,v1,hh⟩:=z.nx m e;show SzOk (if _ then _ else _);split
  .exact⟨pm,λm' q=>by cases q⟩
  .rename_i c
   refine⟨z.pw,λm' q=>?_⟩;have q:some m=some m':=q;cases q;exact⟨pm,by show 0<=st.mv+1;lia,by show st.mv+1<st.size;lia,hh⟩
theorem xq {x:Int} (h:x∈([4,8,16,32,64,128,256]:List Int)) (c:x<256):2*x∈([4,8,16,32,64,128,256]:List Int):=by
 rcases gZ h with rfl|rfl|rfl|rfl|rfl|rfl|rfl<;>first|decide|exact absurd c (by decide)
theorem vz {x:Int} (h:x∈([4,8,16,32,64,128,256]:List Int)) (c:4<x):x/2∈([4,8,16,32,64,128,256]:List Int)/\2*(x/2)=x:=by
 rcases gZ h with rfl|rfl|rfl|rfl|rfl|rfl|rfl<;>first|decide|exact absurd c (by decide)
theorem vy {x:Int} (h:x∈([4,8,16,32,64,128,256]:List Int)):0<x:=by
 rcases gZ h with rfl|rfl|rfl|rfl|rfl|rfl|rfl<;>decide
theorem SzOk.three (z:SzOk st):SzOk st.three:=by
 unfold SSt.three;cases e:st.nxt with
 |some m=>exact z
 |none=>
  show SzOk (if _ then _ else _);split
  .rename_i c
   refine⟨z.pw,λm' q=>?_⟩;cases q;exact⟨xq z.pw c.2,Qb _,vy z.pw,.inl rfl⟩
  .split
   .rename_i c
    refine⟨z.pw,λm' q=>?_⟩;cases q;exact⟨(vz z.pw c.2).1,Qb _,vy z.pw,.inr (vz z.pw c.2).2⟩
   .exact z
def SlA (_K:PySem.W.Frag) (t:Adr) (H:Hp) (a:Addr) (F:Addr->Prop) (st:SSt):Prop:=
 ∃d,SlB t H a st d/\(∀b,F b↔SlF a st d b)/\d.n=(st.kv.length:Int)/\(st.kv.map (·.1)).Nodup/\SzOk st
section
theorem SlA.ins (h:SlA K t H a F st):∃dx fs,H a=some (.ins t.aQ dx fs)/\∀m,NoM m->fs.lookup m=none:=by
 obtain⟨d,hb,_⟩:=h;obtain⟨dx,ho⟩:=hb.obj;exact⟨dx,_,ho,λm hm=>vt hm⟩
theorem SlA.dom (h:SlA K t H a F st) (hb:F b):∃o,H b=some o:=by
 obtain⟨d,h1,h2,_⟩:=h;exact h1.dom ((h2 b).mp hb)
theorem SlA.frame (h:SlA K t H a F st) (f:∀b,F b->H' b=H b):SlA K t H' a F st:=by
 obtain⟨d,h1,h2,h3⟩:=h;exact⟨d,h1.frame λb hb=>f b ((h2 b).mpr hb),h2,h3⟩
end
section
theorem SlA.same (h:SlA K t H a F st) (s:Same H H'):SlA K t H' a F st:=h.frame λb hb=>by
 obtain⟨o,e⟩:=h.dom hb;rw[e];exact s b o e
theorem SlA.out (h:SlA K t H a F st) (e:H p=none):¬F p:=λz=>by
 obtain⟨o,q⟩:=h.dom z;rw[q]at e;cases e
theorem SlA.upd (h:SlA K t H a F st) (e:¬F p):SlA K t (L2.upd H p o) a F st:=h.frame λb hb=>ae λz=>e (z▸hb)
end
def jq (K:PySem.W.Frag) (t:Adr):Sp:=λvs H Q _=>∃(a dx:Addr),vs=[.ref a]/\H a=some (.ins t.aQ dx [])/\H dx=some (.own a)/\∀H' F,SlA K t H' a F SSt.new->Fr (λb=>b=a\/b=dx) F H H'->Q .non H'
def kx (K:PySem.W.Frag) (t:Adr):Sp:=λvs H Q _=>∃(a:Addr) (k i:Int) (F:Addr->Prop) (st:SSt),vs=[.ref a,.int k,.int i]/\SlA K t H a F st/\0<=k/\st.kv.length<4096/\
 ∀H' F',SlA K t H' a F' (st.put k (.int i))->Fr F F' H H'->Q .non H'
def kA (K:PySem.W.Frag) (t:Adr):Sp:=λvs H Q E=>∃(a:Addr) (k:Int) (F:Addr->Prop) (st:SSt),vs=[.ref a,.int k]/\SlA K t H a F st/\0<=k/\
 (∀v,aJ st.kv k=some v->∀H' F',SlA K t H' a F' st->Fr F F' H H'->Q v H')/\(aJ st.kv k=none->False)
def kz (K:PySem.W.Frag) (t:Adr):Sp:=λvs H Q _=>∃(a:Addr) (k:Int) (F:Addr->Prop) (st:SSt),vs=[.ref a,.int k]/\SlA K t H a F st/\0<=k/\
 ∀H' F',SlA K t H' a F' st->Fr F F' H H'->Q (.bl (aJ st.kv k).isSome) H'
def jp (K:PySem.W.Frag) (t:Adr):Sp:=λvs H Q _=>∃(a:Addr) (F:Addr->Prop) (st:SSt),vs=[.ref a]/\SlA K t H a F st/\∀H' F',SlA K t H' a F' st->Fr F F' H H'->Q (.int st.kv.length) H'
def bX (l:List Int):Prop:=l.Pairwise (· < ·)
structure LvOk (ls:List (List Int)):Prop where
 ne:∀l∈ls,l≠[]
 le:∀l∈ls,l.length<=8
 nb:∀(i:Nat) (x y:List Int),ls[i]?=some x->ls[i+1]?=some y->5<=x.length+y.length
 up:bX ls.flatten
theorem LvOk.nil:LvOk []:=⟨(λ_ h=>by cases h),(λ_ h=>by cases h),(λi x y e=>by simp at e),List.Pairwise.nil⟩
theorem wN (e:ls[i]?=some x):ls=ls.take i++x::ls.drop (i+1):=by
 obtain⟨h,e⟩:=za.mp e;rw[<-e,<-yY h,zZ]
theorem gb (e:ls[i]?=some x):ls.flatten=(ls.take i).flatten++(x++(ls.drop (i+1)).flatten):=by
 conv=>lhs;rw[wN e]
 rw[yD,yK]
theorem rise3 {a b c:List Int}:bX (a++(b++c))↔bX a/\bX b/\bX c/\(∀x∈a,∀y∈b,x<y)/\(∀x∈a,∀y∈c,x<y)/\∀x∈b,∀y∈c,x<y:=by
 unfold bX;rw[y4,y4];constructor
 .rintro ⟨h1,⟨h2,h3,h4⟩,h5⟩;exact⟨h1,h2,h3,λx hx y hy=>h5 x hx y (zR _ hy),λx hx y hy=>h5 x hx y (zt _ hy),h4⟩
 .rintro ⟨h1,h2,h3,h4,h5,h6⟩;refine⟨h1,⟨h2,h3,h6⟩,λx hx y hy=>?_⟩;rcases zd.mp hy with z|z
  .exact h4 x hx y z
  .exact h5 x hx y z
structure LeafOf (ls:List (List Int)) (k:Int) (i:Nat):Prop where
 le:i<=ls.length
 lo:∀(j:Nat) (x:List Int),j<i->ls[j]?=some x->∀y∈x,y<k
 hi:∀x,ls[i]?=some x->∃y∈x,k<=y
theorem mX {y:Int} (h:y∈(ls.take i).flatten):∃(j:Nat) (x:List Int),j<i/\ls[j]?=some x/\y∈x:=by
 obtain⟨x,hx,hy⟩:=Qn.mp h;obtain⟨j,hj,e⟩:=zO hx;rw[zu]at hj;rw[List.getElem_take]at e;exact⟨j,x,by lia,za.mpr ⟨by lia,e⟩,hy⟩
theorem LeafOf.ahead (h:LeafOf ls k i):∀y∈(ls.take i).flatten,y<k:=λy hy=>by
 obtain⟨j,x,hj,e,hx⟩:=mX hy;exact h.lo j x hj e y hx
theorem LeafOf.behind (o:LvOk ls) (h:LeafOf ls k i):∀y∈(ls.drop (i+1)).flatten,k<y:=λy hy=>by
 cases e:ls[i]? with
 |none=>
  have:ls.length<=i:=List.getElem?_eq_none_iff.mp e;rw[Q5 (by lia)]at hy;cases hy
 |some x=>
  obtain⟨z,hz,le⟩:=h.hi x e;have up:=o.up;rw[gb e]at up;have:=(rise3.mp up).2.2.2.2.2 z hz y hy;lia
theorem LeafOf.mem (o:LvOk ls) (h:LeafOf ls k i):k∈ls.flatten↔∃x,ls[i]?=some x/\k∈x:=by
 constructor
 .intro hk;cases e:ls[i]? with
  |none=>
   have l:ls.length<=i:=List.getElem?_eq_none_iff.mp e;have:ls.take i=ls:=zA l;have:=h.ahead k (by rw[this];exact hk);lia
  |some x=>
   rw[gb e]at hk;rcases zd.mp hk with z|z
   .have:=h.ahead k z;lia
   .rcases zd.mp z with z|z
    .exact⟨x,rfl,z⟩
    .have:=h.behind o k z;lia
 .rintro ⟨x,e,hk⟩;exact Qn.mpr ⟨x,z7 e,hk⟩
theorem nZ:∀{l:List Int} {k:Int},bX l->k∉l->(∀x∈l.take (l.filter (λz=>decide (z<k))).length,x<k)/\∀x∈l.drop (l.filter (λz=>decide (z<k))).length,k<x
 | [],k,_,_=>⟨λx h=>by simp at h,λx h=>by simp at h⟩
 |a::r,k,up,nk=>by
  obtain⟨h1,h2⟩:=yG.mp up;have nr:k∉r:=λz=>nk (zj _ z);have na:a≠k:=λz=>nk (by rw[z];exact zi);by_cases c:a<k
  .obtain⟨i1,i2⟩:=nZ h2 nr;rw[List.filter_cons,if_pos (by simpa using c),zp,List.take_succ_cons,List.drop_succ_cons];refine⟨λx hx=>?_,i2⟩;rcases zh.mp hx with rfl|hx
   .exact c
   .exact i1 x hx
  .have:(a::r).filter (λz=>decide (z<k))=[]:=by
    rw[List.filter_eq_nil_iff];intro x hx;rcases zh.mp hx with rfl|hx
    .simpa using c
    .have:=h1 x hx;simp;lia
   rw[this];refine⟨λx hx=>by simp at hx,λx hx=>?_⟩;have hx:x∈a::r:=by simpa using hx
   rcases zh.mp hx with rfl|hx
   .lia
   .have:=h1 x hx;lia
def cz (l:List Int) (k:Int):List Int:=l.take (l.filter (λz=>decide (z<k))).length++k::l.drop (l.filter (λz=>decide (z<k))).length
theorem sE:(cz l k).length=l.length+1:=by
 have h:=y3 (λz=>decide (z<k)) l;unfold cz;rw[zk,zp,zu,zG];lia
theorem insL_mem {x:Int}:x∈cz l k↔x=k\/x∈l:=by
 unfold cz;rw[zd,zh];have:x∈l↔x∈l.take (l.filter (λz=>decide (z<k))).length\/x∈l.drop (l.filter (λz=>decide (z<k))).length:=by
  rw[<-zd,zZ]
 rw[this];constructor
 .rintro (h|h|h)
  .exact .inr (.inl h)
  .exact .inl h
  .exact .inr (.inr h)
 .rintro (h|h|h)
  .exact .inr (.inl h)
  .exact .inl h
  .exact .inr (.inr h)
theorem qP (up:bX l) (nk:k∉l):bX (cz l k):=by
 obtain⟨h1,h2⟩:=nZ up nk;have up':bX (l.take (l.filter (λz=>decide (z<k))).length++l.drop (l.filter (λz=>decide (z<k))).length):=by rw[zZ];exact up
 obtain⟨u1,u2,u3⟩:=y4.mp up';unfold cz;refine y4.mpr ⟨u1,yG.mpr ⟨h2,u2⟩,λx hx y hy=>?_⟩;rcases zh.mp hy with rfl|hy
 .exact h1 x hx
 .exact u3 x hx y hy
structure AddAt (ls:List (List Int)) (k:Int) (i:Nat) (x:List Int):Prop where
 at_:ls[i]?=some x
 lo:∀y∈(ls.take i).flatten,y<k
 hi:∀y∈(ls.drop (i+1)).flatten,k<y
theorem LeafOf.add (o:LvOk ls) (h:LeafOf ls k i) (ne:ls≠[]):∃x,AddAt ls k (min i (ls.length-1)) x:=by
 have hl:0<ls.length:=zU.mpr ne;by_cases c:i<ls.length
 .have:min i (ls.length-1)=i:=by lia
  rw[this];exact⟨ls[i],zc c,h.ahead,h.behind o⟩
 .have le:=h.le;have:min i (ls.length-1)=ls.length-1:=by lia
  rw[this];have hlt:ls.length-1<ls.length:=by lia
  refine⟨ls[ls.length-1],zc hlt,λy hy=>?_,λy hy=>?_⟩
  .obtain⟨j,x,hj,e,hx⟩:=mX hy;exact h.lo j x (by lia) e y hx
  .rw[Q5 (by lia)]at hy;cases hy
theorem pG (e:ls[i]?=some x):ls.set i y=ls.take i++y::ls.drop (i+1):=by
 have hi:=(za.mp e).1;rw[List.set_eq_take_append_cons_drop,if_pos hi]
theorem m6 (e:ls[i]?=some x):(ls.set i y).flatten=(ls.take i).flatten++(y++(ls.drop (i+1)).flatten):=by
 rw[pG e,yD,yK]
theorem AddAt.set (o:LvOk ls) (h:AddAt ls k i x) (nk:k∉ls.flatten):bX (ls.set i (cz x k)).flatten/\∀z,z∈(ls.set i (cz x k)).flatten↔z=k\/z∈ls.flatten:=by
 have up:=o.up;rw[gb h.at_]at up nk;obtain⟨u1,u2,u3,u4,u5,u6⟩:=rise3.mp up;have nx:k∉x:=λz=>nk (zt _ (zR _ z));rw[m6 h.at_,gb h.at_];refine⟨rise3.mpr ⟨u1,qP u2 nx,u3,λa ha b hb=>?_,u5,λa ha b hb=>?_⟩,λz=>?_⟩
 .rcases insL_mem.mp hb with rfl|hb
  .exact h.lo a ha
  .exact u4 a ha b hb
 .rcases insL_mem.mp ha with rfl|ha
  .exact h.hi b hb
  .exact u6 a ha b hb
 .rw[zd,zd,zd,zd,insL_mem];constructor
  .rintro (h|(h|h)|h)
   .exact .inr (.inl h)
   .exact .inl h
   .exact .inr (.inr (.inl h))
   .exact .inr (.inr (.inr h))
  .rintro (h|h|h|h)
   .exact .inr (.inl (.inl h))
   .exact .inl h
   .exact .inr (.inl (.inr h))
   .exact .inr (.inr h)
theorem mI {z:List Int} (e:ls[i]?=some x) (f:(ls.set i y)[j]?=some z):(i=j/\z=y)\/(i≠j/\ls[j]?=some z):=by
 rw[zy]at f;by_cases c:i=j
 .rw[if_pos c]at f;split at f
  .cases f;exact .inl ⟨c,rfl⟩
  .cases f
 .rw[if_neg c]at f;exact .inr ⟨c,f⟩
theorem pS {z:List Int} (e:ls[i]?=some x) (h:z∈ls.set i y):z=y\/z∈ls:=by
 obtain⟨j,hj,ez⟩:=zO h;rcases mI e (za.mpr ⟨hj,ez⟩)with⟨_,q⟩|⟨_,q⟩
 .exact .inl q
 .exact .inr (z7 q)
theorem LvOk.grown (o:LvOk ls) (e:ls[i]?=some x) (l1:x.length<=y.length) (l2:y.length<=8) (up:bX (ls.set i y).flatten):LvOk (ls.set i y):=by
 have hx:=o.ne x (z7 e);have px:0<x.length:=zU.mpr hx;refine⟨λl hl=>?_,λl hl=>?_,λj a b f g=>?_,up⟩
 .rcases pS e hl with rfl|hl
  .exact yZ (by lia)
  .exact o.ne l hl
 .rcases pS e hl with rfl|hl
  .exact l2
  .exact o.le l hl
 .rcases mI e f with⟨c,h1⟩|⟨c,f1⟩<;>rcases mI e g with⟨c',h2⟩|⟨c',g1⟩
  .lia
  .subst c;have:=o.nb i x b e g1;rw[h1];lia
  .rw[c']at e;have:=o.nb j a x f1 e;rw[h2];lia
  .exact o.nb j a b f1 g1
theorem LvOk.parted {a b:List Int} (o:LvOk ls) (e:ls[i]?=some x) (la:a.length=4) (lb:b.length=5) (up:bX (ls.set i (a++b)).flatten):
  LvOk ((ls.set i a).take (i+1)++b::(ls.set i a).drop (i+1))/\((ls.set i a).take (i+1)++b::(ls.set i a).drop (i+1)).flatten=(ls.set i (a++b)).flatten:=by
 have hi:=(za.mp e).1;have lt:(ls.take i).length=i:=by rw[zu];lia
 have e1:(ls.set i a).take (i+1)++b::(ls.set i a).drop (i+1)=ls.take i++a::b::ls.drop (i+1):=by
  rw[pG (y:=a) e];have h1:(ls.take i++a::ls.drop (i+1)).take (i+1)=ls.take i++ [a]:=by
   rw[List.take_append,lt,zA (by lia)];have:i+1-i=1:=by lia
   rw[this];rfl
  have h2:(ls.take i++a::ls.drop (i+1)).drop (i+1)=ls.drop (i+1):=by
   rw[List.drop_append,lt,Q5 (by lia)];have:i+1-i=1:=by lia
   rw[this];rfl
  rw[h1,h2,Ql];rfl
 have e2:(ls.take i++a::b::ls.drop (i+1)).flatten=(ls.set i (a++b)).flatten:=by
  rw[m6 e,yD,yK,yK,Ql]
 rw[e1];refine⟨⟨λl hl=>?_,λl hl=>?_,λj p q f g=>?_,by rw[e2];exact up⟩,e2⟩
 .rcases zd.mp hl with h|h
  .exact o.ne l (yy h)
  .rcases zh.mp h with rfl|h
   .exact yZ (by lia)
   .rcases zh.mp h with rfl|h
    .exact yZ (by lia)
    .exact o.ne l (yz h)
 .rcases zd.mp hl with h|h
  .exact o.le l (yy h)
  .rcases zh.mp h with rfl|h
   .lia
   .rcases zh.mp h with rfl|h
    .lia
    .exact o.le l (yz h)
 .have look:∀(j:Nat) (p:List Int),(ls.take i++a::b::ls.drop (i+1))[j]?=some p->(j<i/\ls[j]?=some p)\/(j=i/\p=a)\/(j=i+1/\p=b)\/(i+2<=j/\ls[j-1]?=some p):=λj p f=>by
   rw[Qc,lt]at f;split at f
   .rename_i c
    rw[List.getElem?_take,if_pos c]at f;exact .inl ⟨c,f⟩
   .rename_i c
    rcases(show j=i\/j=i+1\/i+2<=j by lia)with rfl|rfl|h
    .have:j-j=0:=by lia
     rw[this]at f;cases f;exact .inr (.inl ⟨rfl,rfl⟩)
    .have:i+1-i=1:=by lia
     rw[this]at f;cases f;exact .inr (.inr (.inl ⟨rfl,rfl⟩))
    .obtain⟨n,rfl⟩:∃n,j=i+2+n:=⟨j-(i+2),by lia⟩;have:i+2+n-i=n+1+1:=by lia
     rw[this,Q1,Q1,Qh]at f;refine .inr (.inr (.inr ⟨h,?_⟩));have:i+2+n-1=i+1+n:=by lia
     rw[this];exact f
  have pos:∀(j:Nat) (p:List Int),ls[j]?=some p->1<=p.length:=λj p f=>zU.mpr (o.ne p (z7 f));rcases look j p f with⟨c,f1⟩|⟨c,h1⟩|⟨c,h1⟩|⟨c,f1⟩<;>rcases look (j+1) q g with⟨c',g1⟩|⟨c',h2⟩|⟨c',h2⟩|⟨c',g1⟩<;>(try rw[h1])<;>(try rw[h2])<;>(try lia)
  .exact o.nb j p q f1 g1
  .have:=pos j p f1;lia
  .have:j+1-1=j-1+1:=by lia
   rw[this]at g1;exact o.nb (j-1) p q f1 g1
def lvF (L:Addr):List (Str×V):=[("leaves",.ref L)]
theorem dj:(lvF L).lookup ("leaves":Str)=some (.ref L):=by
 have hb:(("leaves":Str)==("leaves":Str))=true:=beq_iff_eq.mpr rfl;unfold lvF;simp only[List.lookup,hb]
theorem vI {m:Str} (h:m≠("leaves":Str)):(lvF L).lookup m=none:=by
 have hb:(m==("leaves":Str))=false:=beq_eq_false_iff_ne.mpr h;unfold lvF;simp only[List.lookup,hb]
structure LvB (t:Adr) (H:Hp) (a L:Addr) (A:List Addr) (ls:List (List Int)):Prop where
 obj:∃dx,H a=some (.ins t.bx dx (lvF L))
 lst:H L=some (.lst (A.map V.ref))
 len:A.length=ls.length
 leaf:∀(j:Nat) (b:Addr) (l:List Int),A[j]?=some b->ls[j]?=some l->H b=some (.lst (l.map V.int))
 inj:∀(i j:Nat) (b:Addr),A[i]?=some b->A[j]?=some b->i=j
 nL:L∉A
def LvF (a L:Addr) (A:List Addr):Addr->Prop:=λb=>b=a\/b=L\/b∈A
section
theorem LvB.at (h:LvB t H a L A ls) (e:ls[i]?=some x):∃c,A[i]?=some c/\H c=some (.lst (x.map V.int)):=by
 have hi:i<A.length:=by rw[h.len];exact(za.mp e).1
 exact⟨A[i],zc hi,h.leaf i _ x (zc hi) e⟩
theorem LvB.has (h:LvB t H a L A ls) (hb:b∈A):∃(j:Nat) (l:List Int),A[j]?=some b/\ls[j]?=some l/\H b=some (.lst (l.map V.int)):=by
 obtain⟨j,hj,e⟩:=zO hb;have hc:j<ls.length:=by rw[<-h.len];exact hj
 have e1:A[j]?=some b:=by rw[zc hj,e]
 exact⟨j,ls[j],e1,zc hc,h.leaf j b _ e1 (zc hc)⟩
theorem LvB.frame (h:LvB t H a L A ls) (f:∀b,LvF a L A b->H' b=H b):LvB t H' a L A ls:=by
 obtain⟨dx,ho⟩:=h.obj;exact⟨⟨dx,by rw[f a (.inl rfl)];exact ho⟩,by rw[f L (.inr (.inl rfl))];exact h.lst,h.len,λj b l e1 e2=>by rw[f b (.inr (.inr (z7 e1)))];exact h.leaf j b l e1 e2,h.inj,h.nL⟩
theorem LvB.dom (h:LvB t H a L A ls) (hb:LvF a L A b):∃o,H b=some o:=by
 obtain⟨dx,ho⟩:=h.obj;rcases hb with rfl|rfl|hb
 .exact⟨_,ho⟩
 .exact⟨_,h.lst⟩
 .obtain⟨_,_,_,_,q⟩:=h.has hb;exact⟨_,q⟩
theorem LvB.same (h:LvB t H a L A ls) (s:Same H H'):LvB t H' a L A ls:=h.frame λb hb=>by
 obtain⟨o,e⟩:=h.dom hb;rw[e,s b o e]
theorem LvB.out (h:LvB t H a L A ls) (n:H p=none):¬LvF a L A p:=λz=>by
 obtain⟨o,e⟩:=h.dom z;rw[n]at e;cases e
theorem LvB.write (h:LvB t H a L A ls) (ec:A[i]?=some c) (ex:ls[i]?=some x):LvB t (upd H c (.lst (y.map V.int))) a L A (ls.set i y):=by
 obtain⟨dx,ho⟩:=h.obj;have hc:=h.leaf i c x ec ex;have cA:=z7 ec;refine⟨⟨dx,by rw[ae (bC ho hc (by intro z;cases z))];exact ho⟩,by rw[ae (λz=>h.nL (by rw[z];exact cA))];exact h.lst,by rw[zL];exact h.len,λj b l e1 e2=>?_,h.inj,h.nL⟩;rw[zy]at e2;by_cases z:i=j
 .subst z;rw[ec]at e1;cases e1;rw[if_pos rfl]at e2;split at e2
  .cases e2;exact ag
  .cases e2
 .rw[if_neg z]at e2;rw[ae (λy=>z (h.inj i j c ec (by rw[<-y];exact e1)))];exact h.leaf j b l e1 e2
theorem LvB.swap (h:LvB t H a L A ls) {n:Addr} (ec:A[i]?=some c) (ex:ls[i]?=some x) (hn:H n=some (.lst (y.map V.int))) (nF:¬LvF a L A n):LvB t (upd H L (.lst ((A.set i n).map V.ref))) a L (A.set i n) (ls.set i y):=by
 obtain⟨dx,ho⟩:=h.obj;have nA:n∉A:=λz=>nF (.inr (.inr z));have nL:n≠L:=λz=>nF (.inr (.inl z));refine⟨⟨dx,by rw[ae (bC ho h.lst (by intro z;cases z))];exact ho⟩,ag,by rw[zL,zL];exact h.len,λj b l e1 e2=>?_,λj k b e1 e2=>?_,λz=>?_⟩
 .rw[zy]at e1 e2;by_cases z:i=j
  .rw[if_pos z]at e1 e2;split at e1
   .cases e1;split at e2
    .cases e2;rw[ae nL];exact hn
    .cases e2
   .cases e1
  .rw[if_neg z]at e1 e2;rw[ae (λy=>h.nL (by rw[<-y];exact z7 e1))];exact h.leaf j b l e1 e2
 .rw[zy]at e1 e2;by_cases z:i=j
  .rw[if_pos z]at e1;split at e1
   .cases e1;by_cases w:i=k
    .exact z.symm.trans w
    .rw[if_neg w]at e2;exact absurd (z7 e2) nA
   .cases e1
  .rw[if_neg z]at e1;by_cases w:i=k
   .rw[if_pos w]at e2;split at e2
    .cases e2;exact absurd (z7 e1) nA
    .cases e2
   .rw[if_neg w]at e2;exact h.inj j k b e1 e2
 .obtain⟨j,hj,e⟩:=zO z;have e1:=za.mpr ⟨hj,e⟩;rw[zy]at e1;by_cases w:i=j
  .rw[if_pos w]at e1;split at e1
   .cases e1;exact nL rfl
   .cases e1
  .rw[if_neg w]at e1;exact h.nL (z7 e1)
theorem ins_get {l:List α} {x y:α} (hi:i<=l.length) (e:(l.take i++x::l.drop i)[j]?=some y):(j<i/\l[j]?=some y)\/(j=i/\y=x)\/(i<j/\l[j-1]?=some y):=by
 have lt:(l.take i).length=i:=by rw[zu];lia
 rw[Qc,lt]at e;split at e
 .rename_i c
  rw[List.getElem?_take,if_pos c]at e;exact .inl ⟨c,e⟩
 .rename_i c
  rcases(show j=i\/i<j by lia)with rfl|h
  .have:j-j=0:=by lia
   rw[this]at e;cases e;exact .inr (.inl ⟨rfl,rfl⟩)
  .obtain⟨n,rfl⟩:∃n,j=i+1+n:=⟨j-(i+1),by lia⟩;have:i+1+n-i=n+1:=by lia
   rw[this,Q1,Qh]at e;have:i+1+n-1=i+n:=by lia
   exact .inr (.inr ⟨h,by rw[this];exact e⟩)
theorem LvB.insert (h:LvB t H a L A ls) {n:Addr} (hi:i<=A.length) (hn:H n=some (.lst (y.map V.int))) (nF:¬LvF a L A n):
  LvB t (upd H L (.lst ((A.take i++n::A.drop i).map V.ref))) a L (A.take i++n::A.drop i) (ls.take i++y::ls.drop i):=by
 obtain⟨dx,ho⟩:=h.obj;have nA:n∉A:=λz=>nF (.inr (.inr z));have nL:n≠L:=λz=>nF (.inr (.inl z));have hi2:i<=ls.length:=by rw[<-h.len];exact hi
 refine⟨⟨dx,by rw[ae (bC ho h.lst (by intro z;cases z))];exact ho⟩,ag,?_,λj b l e1 e2=>?_,λj k b e1 e2=>?_,λz=>?_⟩
 .have:=h.len;rw[zk,zk,zp,zp,zu,zu,zG,zG];lia
 .rcases ins_get hi e1 with⟨c1,f1⟩|⟨c1,f1⟩|⟨c1,f1⟩<;>rcases ins_get hi2 e2 with⟨c2,f2⟩|⟨c2,f2⟩|⟨c2,f2⟩<;>(try lia)
  .rw[ae (λy=>h.nL (by rw[<-y];exact z7 f1))];exact h.leaf j b l f1 f2
  .rw[f1,f2,ae nL];exact hn
  .rw[ae (λy=>h.nL (by rw[<-y];exact z7 f1))];exact h.leaf (j-1) b l f1 f2
 .rcases ins_get hi e1 with⟨c1,f1⟩|⟨c1,f1⟩|⟨c1,f1⟩<;>rcases ins_get hi e2 with⟨c2,f2⟩|⟨c2,f2⟩|⟨c2,f2⟩
  .exact h.inj j k b f1 f2
  .rw[f2]at f1;exact absurd (z7 f1) nA
  .have:=h.inj _ _ b f1 f2;lia
  .rw[f1]at f2;exact absurd (z7 f2) nA
  .lia
  .rw[f1]at f2;exact absurd (z7 f2) nA
  .have:=h.inj _ _ b f1 f2;lia
  .rw[f2]at f1;exact absurd (z7 f1) nA
  .have:=h.inj _ _ b f1 f2;lia
 .rcases zd.mp z with z|z
  .exact h.nL (yy z)
  .rcases zh.mp z with z|z
   .exact nL z.symm
   .exact h.nL (yz z)
end
theorem kY (up:bX ls.flatten) (ex:ls[i]?=some x) (ey:ls[j]?=some y) (h:i<j):∀p∈x,∀q∈y,p<q:=λp hp q hq=>by
 rw[gb ex]at up;refine(rise3.mp up).2.2.2.2.2 p hp q (Qn.mpr ⟨y,?_,hq⟩);refine z7 (i:=j-(i+1)) ?_;rw[Qh];have:i+1+(j-(i+1))=j:=by lia
 rw[this];exact ey
theorem uk (up:bX ls.flatten) (ex:ls[i]?=some x):bX x:=by
 rw[gb ex]at up;exact(rise3.mp up).2.1
theorem sD (up:bX x) (ne:x≠[]):∃m,x[x.length-1]?=some m/\m∈x/\∀y∈x,y<=m:=by
 have hl:=zU.mpr ne;have hlt:x.length-1<x.length:=by lia
 refine⟨x[x.length-1],zc hlt,yM hlt,λy hy=>?_⟩;obtain⟨j,hj,e⟩:=zO hy;rcases(show j=x.length-1\/j<x.length-1 by lia)with h|h
 .subst h;rw[e];exact Qb _
 .have:=List.pairwise_iff_getElem.mp up j (x.length-1) hj hlt h;rw[e]at this;lia
def joinL (ls:List (List Int)) (i:Nat):List (List Int):=match ls[i]?,ls[i+1]? with
 |some x,some y=>if x.length+y.length<5 then(ls.set i (x++y)).eraseIdx (i+1)else ls
 |_,_=>ls
def LvA (_K:PySem.W.Frag) (t:Adr) (H:Hp) (a:Addr) (F:Addr->Prop) (ks:List Int):Prop:=∃L A ls,LvB t H a L A ls/\LvOk ls/\ls.flatten=ks/\∀b,F b↔LvF a L A b
section
theorem LvA.ins (h:LvA K t H a F ks):∃dx fs,H a=some (.ins t.bx dx fs)/\∀m,m≠("leaves":Str)->fs.lookup m=none:=by
 obtain⟨L,A,ls,hb,_⟩:=h;obtain⟨dx,ho⟩:=hb.obj;exact⟨dx,_,ho,λm hm=>vI hm⟩
theorem LvA.dom (h:LvA K t H a F ks) (hb:F b):∃o,H b=some o:=by
 obtain⟨L,A,ls,h1,_,_,h2⟩:=h;exact h1.dom ((h2 b).mp hb)
theorem LvA.frame (h:LvA K t H a F ks) (f:∀b,F b->H' b=H b):LvA K t H' a F ks:=by
 obtain⟨L,A,ls,h1,h3,h4,h2⟩:=h;exact⟨L,A,ls,h1.frame λb hb=>f b ((h2 b).mpr hb),h3,h4,h2⟩
theorem LvA.out (h:LvA K t H a F ks) (e:H p=none):¬F p:=λz=>by
 obtain⟨o,q⟩:=h.dom z;rw[q]at e;cases e
theorem LvA.upd (h:LvA K t H a F ks) (e:¬F p):LvA K t (L2.upd H p o) a F ks:=h.frame λb hb=>ae λz=>e (z▸hb)
end
def iZ (K:PySem.W.Frag) (t:Adr):Sp:=λvs H Q _=>∃(a dx:Addr),vs=[.ref a]/\H a=some (.ins t.bx dx [])/\H dx=some (.own a)/\∀H' F,LvA K t H' a F []->Fr (λb=>b=a\/b=dx) F H H'->Q .non H'
def jt (K:PySem.W.Frag) (t:Adr):Sp:=λvs H Q _=>∃(a:Addr) (k:Int) (F:Addr->Prop) (ks:List Int),vs=[.ref a,.int k]/\LvA K t H a F ks/\∀H' F',LvA K t H' a F' ks->Fr F F' H H'->Q (.bl (decide (k∈ks))) H'
def ju (K:PySem.W.Frag) (t:Adr):Sp:=λvs H Q E=>∃(a:Addr) (k:Int) (F:Addr->Prop) (ks:List Int),vs=[.ref a,.int k]/\LvA K t H a F ks/\ks.length<4096/\
 (k∉ks->∀H' F' ks',LvA K t H' a F' ks'->(∀z,z∈ks'↔z=k\/z∈ks)->Fr F F' H H'->Q .non H')/\(k∈ks->False)
theorem LvOk.short (o:LvOk ls):ls.length<=ls.flatten.length:=by
 have h:=o.ne;clear o
 induction ls with
 |nil=>exact zg _
 |cons x r ih=>
  have:=zU.mpr (h x zi);have:=ih λl hl=>h l (zj _ hl);rw[yK,zk,zp];lia
def gL (K:PySem.W.Frag) (t:Adr):Sp:=λvs H Q _=>∃(a:Addr) (k n:Int) (F:Addr->Prop) (ks:List Int),vs=[.ref a,.int k,.int n]/\LvA K t H a F ks/\ks.length<4096/\0<=n/\
 ∀(H':Hp) (l:Addr),Same H H'->H l=none->H' l=some (.lst (((ks.filter λz=>decide (k<=z)).take n.toNat).map V.int))->Q (.ref l) H'
theorem nY {n:Int} (h:0<=n):c8 xs none (some n)=xs.take n.toNat:=by
 unfold c8 HT.sIx;simp only[Qa,Nat.sub_zero];rw[if_neg (by lia)];rcases Nat.le_total n.toNat xs.length with c|c
 .rw[Nat.min_eq_left c]
 .rw[Nat.min_eq_right c,yC,zA c]
theorem qS {i0:Nat} (o:LvOk ls) (h:LeafOf ls k i0):∀z∈(ls.take i0).flatten,¬k<=z:=λz hz=>by
 have:=h.ahead z hz;lia
section
variable {P:Program} {w:World} {mg:Str->Option Value} {base:Heap}
def oG:Sp:=λvs H Q _=>∃k:Int,vs=[.int k]/\Q (.int (k%65536)) H
def oE:Sp:=λvs H Q _=>∃k n:Int,vs=[.int k,.int n]/\0<n/\Q (.int (k%65536%n)) H
theorem oQ (T:Txt K mg t):a6 P w K mg base CX0 1 t.lU t.iI ["key"] oG:=by
 obtain⟨tk_PLACES,hPLACES⟩:=T.g_PLACES;refine T.rl.okl oJ λ_ _ _ s H vs Q E hr h=>?_;obtain⟨n,rfl,k⟩:=h;refine⟨_,(aj (aC (aq bg (pv 0) (cv (v:= .int 65536) (by rfl) hPLACES ⟨_,rfl⟩))))
  ,?_⟩
 exact⟨_,rfl,_,_,rfl,rfl,(by show(0:Int)<65536;decide),k⟩
theorem jR (T:Txt K mg t):a6 P w K mg base CX0 2 t.lR t.iG ["key","size"] oE:=by
 refine T.iL.okl oI λ_ _ _ s H vs Q E hr h=>?_;obtain⟨n,m,rfl,hm,k⟩:=h;refine⟨_,(aj (aC (aq bg (aE (oQ T) hr.mo (by rfl) T.wX T.rl.kp T.wZ .nil aF (aa (pv 0) ah)) (pv 1))))
  ,?_⟩
 exact⟨_,rfl,_,rfl,_,rfl,_,_,rfl,rfl,hm,k⟩
theorem qu (h:n<=4096):n<sizeLine:=yV h (by decide)
def lX:Sp:=λvs H Q _=>∃n:Int,vs=[.int n]/\0<=n/\n<=1000/\∀H' r A,Same H H'->H r=none->(∀b∈A,H b=none)->RowOk H' r A (List.replicate n.toNat []) n->Q (.ref r) H'
theorem hJ (T:Txt K mg t):a6 P w K mg base CX0 1 t.iT t.fI ["size"] lX:=by
 refine T.fU.okl l4 λ_ _ _ s H vs Q E hr h=>?_;obtain⟨n,rfl,n0,n1,q⟩:=h;refine⟨_,(aj (aC (l9 rfl (CScope.of (M:=["slot"]) (N:=["size"]) (N':=["size"]) (dsc:=ao da) rfl rfl (by decide+kernel)) (kZ (by rfl) T.t5 (aa (pv 0) ah)) (λ_ _ _ _ _=>g9))))
  ,?_⟩
 refine⟨_,rfl,n,rfl,by lia,by lia,λD hD=>?_⟩;refine pj (n:=n.toNat) (lo:=0) (λi ys H3=>Same H H3/\∃as:List Addr,ys=as.map V.ref/\as.length=i/\(∀b∈as,H b=none/\b≠D/\H3 b=some (.dK []))/\∀(x y:Nat) (b:Addr),as[x]?=some b->as[y]?=some b->x=y)
  ⟨ak hD,[],rfl,rfl,(λb hb=>by cases hb),λx y b e=>by simp at e⟩ (λi ys H3 hi ⟨s3,as,ey,el,hb,inj⟩ hDD=>?_) (λys H3 ⟨s3,as,ey,el,hb,inj⟩ hDD=>?_)
 .intro c nc;have cD:c≠D:=(am hDD nc).symm;have nca:c∉as:=λz=>by
   have:=(hb c z).2.2;rw[nc]at this;cases this
  have nH:H c=none:=by
   cases e:H c with
   |none=>rfl
   |some o=>rw[s3 c o e]at nc;cases nc
  refine CNext.mk hi (by rw[ae cD.symm];exact hDD) (by rw[ey,z8];exact ci (by lia)) ⟨ft (s3.trans (ak nc)) hD,as++ [c],by rw[ey,zo];rfl,by rw[zk,el];rfl,λb hb'=>?_,λx y b e1 e2=>?_⟩
  .rcases zd.mp hb' with z|z
   .obtain⟨h1,h2,h3⟩:=hb b z;exact⟨h1,h2,by rw[ae h2,ae (λw=>nca (by rw[<-w];exact z))];exact h3⟩
   .rw[zf.mp z];exact⟨nH,cD,by rw[ae cD,ag]⟩
  .have lem:∀x:Nat,(as++ [c])[x]?=some b->as[x]?=some b\/(x=as.length/\b=c):=λx e=>by
    rw[Qc]at e;split at e
    .exact .inl e
    .rename_i w
     have:x-as.length=0:=by
      rcases y9 (x-as.length)with z|z
      .exact z
      .rw[List.getElem?_eq_none (by simp;lia)]at e;cases e
     rw[this]at e;cases e;exact .inr ⟨by lia,rfl⟩
   rcases lem x e1 with f1|⟨f1,g1⟩<;>rcases lem y e2 with f2|⟨f2,g2⟩
   .exact inj x y b f1 f2
   .subst g2;exact absurd (z7 f1) nca
   .subst g1;exact absurd (z7 f2) nca
   .lia
 .refine q H3 D as s3 hD (λb z=>(hb b z).1) ⟨by rw[hDD,ey],by rw[el];lia,by rw[zY];lia,λj b kv e1 e2=>?_,λj kv e=>?_,inj,λj kv e p hp=>?_⟩
  .rw[y6 (z7 e2)];exact(hb b (z7 e1)).2.2
  .rw[y6 (z7 e)];exact yx
  .rw[y6 (z7 e)]at hp;cases hp
def gU (t:Adr):Sp:=λvs H Q _=>∃(a:Addr) (k:Int) (st:SSt) (d:SlD),vs=[.ref a,.int k]/\SlB t H a st d/\SzOk st/\∀c kv,IsCell d st k c kv->Q (.ref c) H
def gc (t:Adr):Sp:=λvs H Q _=>∃(a:Addr) (st:SSt) (d:SlD),vs=[.ref a]/\SlB t H a st d/\SzOk st/\st.kv.length<4096/\∀H' d',SlB t H' a st.one d'->d'.n=d.n->Fr (SlF a st d) (SlF a st.one d') H H'->Q .non H'
def gd (t:Adr):Sp:=λvs H Q _=>∃(a:Addr) (st:SSt) (d:SlD),vs=[.ref a]/\SlB t H a st d/\SzOk st/\d.n=(st.kv.length:Int)/\∀H' d',SlB t H' a st.three d'->d'.n=d.n->Fr (SlF a st d) (SlF a st.three d') H H'->Q .non H'
theorem mr {z:Int} (h0:0<=z) (e:A[z.toNat]?=some c):atI (A.map V.ref) z=some (.ref c):=by
 obtain⟨j,rfl⟩:=Int.eq_ofNat_of_zero_le h0;refine ia ?_;rw[zD];have e:A[j]?=some c:=e;rw[e];rfl
theorem b7 (T:Txt K mg t):a6 P w K mg base CX0 3 t.d8 t.cq ["self","key"] (gU t):=by
 refine T.rm.okl sc_Slots__cell_of λ_ _ _ s H vs Q E hr h=>?_;obtain⟨a,k,st,d,rfl,hb,z,q⟩:=h;refine⟨_,(af (ar (i:=2) sc_Slots__cell_of.nd rfl (Or.inl rfl) (bu aP (aK (pv 0) rfl) ai (λ_ _=>rfl)))
   (af (ar (i:=3) sc_Slots__cell_of.nd rfl (Or.inl rfl) (aE (jR T) hr.mo (by rfl) T.lE T.iL.kp T.lQ .nil aF (aa (pv 1) (aa (aB ax (by rfl) T.bE be (aa (pv 2) ah)) ah))))
   (af (aY (az vF (pv 3) (aK (pv 0) rfl) (aD _))
   (aj (aC (bu aP (pv 2) (pv 3) (λ_ _=>rfl))))
   aG)
   (af (ar (i:=4) sc_Slots__cell_of.nd rfl (Or.inl rfl) (bu aP (aK (pv 0) rfl) ai (λ_ _=>rfl)))
   (aj (aC (bu aP (pv 4) (aE (jR T) hr.mo (by rfl) T.lE T.iL.kp T.lQ .nil aF (aa (pv 1) (aa (aB ax (by rfl) T.bE be (aa (pv 4) ah)) ah))) (λ_ _=>rfl))))))))
  ,?_⟩
 obtain⟨dx,ho⟩:=hb.obj;obtain⟨s4,s5⟩:=b4 z.pw;obtain⟨m0,m1,m2⟩:=iD (k:=k) s4;have t0:∃xs,H d.tb=some (.lst xs)/\atI xs 0=some (.ref d.r0):=by
  refine⟨_,hb.tbl,?_⟩;cases st.nxt<;>rfl
 obtain⟨xs,hx,x0⟩:=t0;have fld:∀{Q':VK},Q' (.ref d.tb) H->tFld K (t8 0) "table" [some (.ref a),some (.int k),none,none,none] H Q':=λ{Q'} q=>⟨_,rfl,a,_,dx,_,_,rfl,ho,T.au,T.aH,fg,q⟩;have la:((d.A0.map V.ref).length:Int)=st.size:=by rw[z8];exact hb.row0.la
 refine⟨_,rfl,a,_,dx,_,_,rfl,ho,T.au,T.aH,fg,d.tb,_,_,_,rfl,rfl,SqL.of hx,x0,?_⟩;refine⟨_,rfl,_,rfl,d.r0,_,rfl,.inl (SqL.of hb.row0.lst),k,_,rfl,by rw[la];lia,?_⟩;dsimp only;rw[la];refine⟨_,rfl,_,rfl,a,_,dx,_,_,rfl,ho,T.au,T.bf,m4,_,_,rfl,rfl,_,rfl,dE (λc=>?_) (λc=>?_)⟩
 .have c:=of_decide_eq_true c;obtain⟨x,e1⟩:=bM (l:=d.A0) m0 (by rw[hb.row0.la];exact m1);obtain⟨y,e2⟩:=bM (l:=d.C0) m0 (by rw[hb.row0.lc];exact m1);exact⟨_,rfl,_,rfl,d.r0,_,_,_,rfl,rfl,SqL.of hb.row0.lst,mr m0 e1,q x y (.inl ⟨c,e1,e2⟩)⟩
 .have c:¬st.moved<=k%65536%st.size:=λz=>c (decide_eq_true z);cases e:st.nxt with
  |none=>rw[SSt.moved_none e]at c;exact absurd m0 c
  |some m=>
   have hm:=SSt.moved_some e;obtain⟨pm,_⟩:=z.nx m e;obtain⟨s6,_⟩:=b4 pm;obtain⟨n0,n1,n2⟩:=iD (k:=k) s6;have r1:=hb.row1;rw[e]at r1;have ht:=hb.tbl;rw[e]at ht;have lb:((d.A1.map V.ref).length:Int)=m:=by rw[z8];exact r1.la
   obtain⟨x,e1⟩:=bM (l:=d.A1) n0 (by rw[r1.la];exact n1);obtain⟨y,e2⟩:=bM (l:=d.C1) n0 (by rw[r1.lc];exact n1);refine⟨_,rfl,a,_,dx,_,_,rfl,ho,T.au,T.aH,fg,d.tb,_,_,_,rfl,rfl,SqL.of ht,rfl,?_⟩;refine⟨_,rfl,_,rfl,_,rfl,d.r1,_,rfl,.inl (SqL.of r1.lst),k,_,rfl,by rw[lb];lia,?_⟩;dsimp only;rw[lb];exact⟨d.r1,_,_,_,rfl,rfl,SqL.of r1.lst,mr n0 e1,q x y (.inr ⟨m,e,by lia,e1,e2⟩)⟩
theorem bO (h:n<=100000):n<sizeLine:=yV h (by decide)
theorem wC {z:Int} (h0:0<=z) (h1:z<n):ixN n z=some z.toNat:=by unfold ixN;rw[if_pos h0,if_pos h1]
theorem qJ {kv:List (Int×V)} {k:Key} (e:(aT kv)[i]?=some (k,v)):∃n:Int,k=Sum.inl n/\kv[i]?=some (n,v):=by
 unfold aT at e;rw[zD]at e;cases q:kv[i]? with
 |none=>rw[q]at e;cases e
 |some p=>rw[q]at e;cases e;exact⟨p.1,rfl,rfl⟩
theorem rD {kv:List (Int×V)} {C:List (List (Int×V))} {p:Int×V} (e:kv[i]?=some p):(kv.take (i+1)).foldl (cH m) C=cH m ((kv.take i).foldl (cH m) C) p:=by
 rw[zN,e,List.foldl_append];rfl
theorem gf (T:Txt K mg t):a6 P w K mg base CX0 3 t.c6 t.bU ["self"] (gc t):=by
 refine T.pC.okl sc_Slots__move_slot λ_ _ _ s H vs Q E hr h=>?_;obtain⟨a,st,d,rfl,hb,z,hl,q⟩:=h;refine⟨_,(af (aY (az cw (aB ax (by rfl) T.bE be (aa (aK (pv 0) rfl) ah)) ai (aD _))
   (aj l7)
   aG)
   (af (ar (i:=1) sc_Slots__move_slot.nd rfl (Or.inl rfl) (bu aP (aK (pv 0) rfl) ai (λ_ _=>rfl)))
   (af (ar (i:=2) sc_Slots__move_slot.nd rfl (Or.inl rfl) (bu aP (aK (pv 0) rfl) ai (λ_ _=>rfl)))
   (af (uw (jM PassesOwn.never rfl (rT (wg PySem.F.plainAttrs_dict PySem.F.slot_dict_items PySem.F.type_dict_items ss (bu aP (pv 1) (aK (pv 0) rfl) (λ_ _=>rfl)))) (wc rfl (nB (eM (i:=3) sc_Slots__move_slot.nd rfl (Or.inl rfl)) (nB (eM (i:=4) sc_Slots__move_slot.nd rfl (Or.inl rfl)) uz)))
   (aj (pL (lJ hr) (bu aP (pv 2) (aE (jR T) hr.mo (by rfl) T.lE T.iL.kp T.lQ .nil aF (aa (pv 3) (aa (aB ax (by rfl) T.bE be (aa (pv 2) ah)) ah))) (λ_ _=>rfl)) (pv 3) (pv 4) rfl))))
   (af (rR g9 (rV (pv 1) (aK (pv 0) rfl) m5))
   (af (iz (pv 0) ai pb)
   (aj (aY (az cw (aK (pv 0) rfl) (aB ax (by rfl) T.bE be (aa (pv 1) ah)) (aD _))
   (af (bS (pv 0) (bp (aa (pv 2) ah)) rfl)
   (aj (bS (pv 0) ai rfl)))
   aG))))))))
  ,?_⟩
 obtain⟨dx,ho⟩:=hb.obj;have ht:=hb.tbl;cases e:st.nxt with
 |none=>
  rw[e]at ht;refine⟨_,rfl,a,_,dx,_,_,rfl,ho,T.au,T.aH,fg,d.tb,_,rfl,.inl (SqL.of ht),rfl,_,rfl,mD rfl ?_⟩;have e1:st.one=st:=by unfold SSt.one;rw[e]
  rw[e1]at q;exact q H d hb rfl Fr.refl
 |some m=>
  rw[e]at ht;refine⟨_,rfl,a,_,dx,_,_,rfl,ho,T.au,T.aH,fg,d.tb,_,rfl,.inl (SqL.of ht),rfl,_,rfl,bH (λz=>by cases z) ?_⟩;refine⟨_,rfl,a,_,dx,_,_,rfl,ho,T.au,T.aH,fg,d.tb,_,_,_,rfl,rfl,SqL.of ht,rfl,?_⟩;refine⟨_,rfl,a,_,dx,_,_,rfl,ho,T.au,T.aH,fg,d.tb,_,_,_,rfl,rfl,SqL.of ht,rfl,?_⟩;obtain⟨pm,v0,v1,_⟩:=z.nx m e;obtain⟨s4,s5⟩:=b4 z.pw;obtain⟨s6,s7⟩:=b4 pm;have hm:=SSt.moved_some e;rw[hm]at ho;have r1:=hb.row1;rw[e]at r1;obtain⟨c0,ec⟩:=bM (l:=d.A0) v0 (by rw[hb.row0.la];exact v1);obtain⟨kv,ek⟩:=bM (l:=d.C0) v0 (by rw[hb.row0.lc];exact v1);have hc0:=hb.row0.cell _ _ _ ec ek;have lb:((d.A1.map V.ref).length:Int)=m:=by rw[z8];exact r1.la
  have c0A:c0∉d.A1:=hb.dis c0 (z7 ec);have r1c:d.r1≠c0:=bC r1.lst hc0 (by intro z;cases z);have kvl:=hb.short0 z ek;have keepA:∀b,b=d.r1\/b∈d.A1->∃o,H b=some o:=λb hb1=>by
   rcases hb1 with rfl|hb1
   .exact⟨_,r1.lst⟩
   .obtain⟨_,_,_,_,w⟩:=r1.has hb1;exact⟨_,w⟩
  refine⟨c0,aT kv,hc0,_,rfl,_,rfl,a,_,dx,_,_,rfl,ho,T.au,T.bf,m4,d.r0,_,_,_,rfl,rfl,SqL.of hb.row0.lst,mr v0 ec,.inr (.inr (.inl ⟨rfl,.inl ⟨_,hc0⟩⟩)),c0,aT kv,rfl,rfl,hc0,λvw nv=>?_⟩;have hc1:upd H vw (vwO vw c0) c0=some (.dK (aT kv)):=by rw[ae (am hc0 nv)];exact hc0
  refine⟨vw,c0,aT kv,rfl,ag,hc1,λob=>?_⟩;refine pf (λi σ H'=>∃v3 v4,σ=[some (.ref a),some (.ref d.r0),some (.ref d.r1),v3,v4]/\RowOk H' d.r1 d.A1 ((kv.take i).foldl (cH m) d.C1) m/\H' c0=some (.frz ob (.dK (aT kv)))/\∀b o,b∉d.A1->b≠c0->H b=some o->H' b=some o)
   ⟨_,_,rfl,?_,ag,λb o _ n2 e=>?_⟩ (λi σ H' _ ⟨_,_,_,_,hf,_⟩=>hf) (λi k v p σ H' ei ⟨v3,v4,eσ,hr,hf,hk⟩ np=>?_) (λσ H' ⟨v3,v4,eσ,hr,hf,hk⟩=>?_)
  .refine RowOk.frame (H:=H) r1 λb hb1=>?_;obtain⟨o,w⟩:=keepA b hb1;have n2:b≠c0:=by
    rcases hb1 with rfl|hb1
    .exact r1c
    .exact λz=>c0A (z▸hb1)
   rw[ae n2,ae (am w nv)]
  .rw[ae n2,ae (am e nv)];exact e
  .subst eσ;obtain⟨n,rfl,en⟩:=qJ ei;have hr2:RowOk (upd H' p (.tup [kV (Sum.inl n),v])) d.r1 d.A1 ((kv.take i).foldl (cH m) d.C1) m:=hr.frame λb hb1=>ae λw=>by
    have:∃o,H' b=some o:=by
     rcases hb1 with rfl|hb1
     .exact⟨_,hr.lst⟩
     .obtain⟨_,_,_,_,w⟩:=hr.has hb1;exact⟨_,w⟩
    obtain⟨o,q⟩:=this;rw[w,np]at q;cases q
   obtain⟨n0,n1,n2⟩:=iD (k:=n) s6;obtain⟨c,e1⟩:=bM (l:=d.A1) n0 (by rw[hr2.la];exact n1);obtain⟨y,e2⟩:=bM (l:=(kv.take i).foldl (cH m) d.C1) n0 (by rw[hr2.lc];exact n1);obtain⟨y0,e3⟩:=bM (l:=d.C1) n0 (by rw[r1.lc];exact n1);have yl:=nJ e3 e2;have y0l:=hb.short1 z e e3;have tl:(kv.take i).length<=kv.length:=by rw[zu];lia
   have hc:=hr2.cell _ _ _ e1 e2;have cA:c∈d.A1:=z7 e1;refine⟨p,_,rfl,SqT.of ag,rfl,_,_,rfl,_,_,rfl,rfl,?_⟩;refine⟨_,rfl,_,rfl,_,rfl,_,rfl,d.r1,_,rfl,.inl (SqL.of hr2.lst),n,_,rfl,by rw[lb];lia,?_⟩;dsimp only;rw[lb];refine⟨d.r1,_,_,_,rfl,rfl,SqL.of hr2.lst,mr n0 e1,_,rfl,c,_,rfl,DPut.k (k:=Sum.inl n) hc (by rw[f8];exact bO (by lia)),?_⟩;rw[f7];have pn:∀b o,H' b=some o->b≠p:=λb o q=>am q np;refine⟨_,_,rfl,?_,?_,λb o nA nc q=>?_⟩
   .rw[rD en];exact hr2.mov s6 e1 e2
   .rw[ae (λw=>c0A (by rw[w];exact cA)),ae (pn _ _ hf)];exact hf
   .have q:=hk b o nA nc q;rw[ae (λw=>nA (by rw[w];exact cA)),ae (pn _ _ q)];exact q
  .subst eσ;rw[f8,yC]at hr;refine⟨ob,hf,λb' nb=>?_⟩;have hF:∀b,¬SlF a st d b->b∉d.A1/\b≠c0/\b≠a/\b≠d.r0/\b≠d.tb/\b≠d.r1:=λb n=>
    ⟨λq=>n (.inr (.inr (.inr (.inr (.inr q))))),λq=>n (.inr (.inr (.inr (.inl (q▸z7 ec))))),λq=>n (.inl q),λq=>n (.inr (.inr (.inl q))),λq=>n (.inr (.inl q)),λq=>n (.inr (.inr (.inr (.inr (.inl ⟨by rw[e];rfl,q⟩)))))⟩
   have inA1:∀b o,H b=some o->(∀kvs,o≠ .dK kvs)->b∉d.A1:=λb o q ne w=>(r1.notr w q ne) rfl;have K1:∀b o,b∉d.A1->b≠c0->H b=some o->upd H' c0 (.dK (aT kv)) b=some o:=λb o n1 n2 q=>by rw[ae n2];exact hk b o n1 n2 q
   have hr3:RowOk (upd H' c0 (.dK (aT kv))) d.r1 d.A1 (kv.foldl (cH m) d.C1) m:=hr.frame λb hb1=>ae (by
    rcases hb1 with rfl|hb1
    .exact r1c
    .exact λw=>c0A (w▸hb1))
   have hc3:upd H' c0 (.dK (aT kv)) c0=some (.dK (aT kv)):=ag;generalize upd H' c0 (.dK (aT kv))=H3 at nb K1 hr3 hc3⊢;have ho3:=K1 a _ (inA1 _ _ ho (λ_ w=>by cases w)) (bC ho hc0 (by intro w;cases w)) ho;have hr0:=hb.row0.lst;have hr03:=K1 d.r0 _ (inA1 _ _ hr0 (λ_ w=>by cases w)) (bC hr0 hc0 (by intro w;cases w)) hr0;have ht3:=K1 d.tb _ (inA1 _ _ ht (λ_ w=>by cases w)) (bC ht hc0 (by intro w;cases w)) ht;have nbF:¬SlF a st d b':=λw=>by
    rcases w with w|w|w|w|⟨_,w⟩|w
    .rw[w,ho3]at nb;cases nb
    .rw[w,ht3]at nb;cases nb
    .rw[w,hr03]at nb;cases nb
    .obtain⟨j,kv1,f1,f2,f3⟩:=hb.row0.has w;by_cases y:b'=c0
     .rw[y,hc3]at nb;cases nb
     .rw[K1 b' _ (hb.dis b' w) y f3]at nb;cases nb
    .rw[w,hr3.lst]at nb;cases nb
    .obtain⟨_,_,_,_,w'⟩:=hr3.has w;rw[w']at nb;cases nb
   have lA:((d.A0.map V.ref).length:Int)=st.size:=by rw[z8];exact hb.row0.la
   have bo:∀{x:Addr} {o:HO},H3 x=some o->x≠b':=λq=>am q nb;refine⟨_,rfl,_,rfl,a,_,dx,_,_,rfl,(by rw[ae (bo ho3)];exact ho3),T.au,T.bf,m4,d.r0,_,_,_,rfl,rfl,(by rw[ae (bo hr03)];exact hr03),wC v0 (by rw[lA];exact v1),?_⟩;have g0:H3 d.r1=some (.lst (d.A1.map V.ref)):=hr3.lst;have ra:d.r0≠a:=bC hr0 ho (by intro w;cases w);have r01:d.r0≠d.r1:=(hb.tr1 (by rw[e];rfl)).2;have t1:d.tb≠d.r1:=(hb.tr1 (by rw[e];rfl)).1;have ta:d.tb≠a:=bC ht ho (by intro w;cases w);have r1a:d.r1≠a:=bC r1.lst ho (by intro w;cases w);have cellsA:∀b∈d.A1,b≠b'/\b≠d.r0/\b≠a:=λb w=>by
    obtain⟨_,_,_,_,f⟩:=hr3.has w;exact⟨bo f,bC f hr03 (by intro w;cases w),bC f ho3 (by intro w;cases w)⟩
   have es:(d.A0.map V.ref).set st.mv.toNat (V.ref b')=(d.A0.set st.mv.toNat b').map V.ref:=by rw[List.map_set]
   rw[es];have ho5:upd (upd H3 b' (.dK [])) d.r0 (.lst ((d.A0.set st.mv.toNat b').map V.ref)) a=some (.ins t.aQ dx (slF d.tb st.mv d.n)):=by rw[ae ra.symm,ae (bo ho3)];exact ho3
   refine⟨_,rfl,a,_,dx,_,_,rfl,ho5,T.au,T.bf,m4,_,_,rfl,rfl,dx,_,ho5,je,?_⟩;rw[vA];have H6r0:∀{o:HO},upd (upd (upd H3 b' (.dK [])) d.r0 (.lst ((d.A0.set st.mv.toNat b').map V.ref))) a o d.r0=some (.lst ((d.A0.set st.mv.toNat b').map V.ref)):=by
    intro o;rw[ae ra,ag]
   have lS:(((d.A0.set st.mv.toNat b').map V.ref).length:Int)=st.size:=by rw[z8,zL];exact hb.row0.la
   refine⟨_,rfl,a,_,dx,_,_,rfl,ag,T.au,T.bf,m4,_,rfl,d.r0,_,rfl,.inl (SqL.of H6r0),rfl,_,rfl,?_⟩;rw[lS];have row6:∀{o:HO},RowOk (upd (upd (upd H3 b' (.dK [])) d.r0 (.lst ((d.A0.set st.mv.toNat b').map V.ref))) a o) d.r1 d.A1 (kv.foldl (cH m) d.C1) m:=λ{o}=>hr3.frame λb hb1=>by
    have:b≠b'/\b≠d.r0/\b≠a:=by
     rcases hb1 with rfl|hb1
     .exact⟨bo g0,r01.symm,r1a⟩
     .exact cellsA b hb1
    rw[ae this.2.2,ae this.2.1,ae this.1]
   have K6:∀{o':HO} (b:Addr) (o:HO),¬SlF a st d b->H b=some o->upd (upd (upd H3 b' (.dK [])) d.r0 (.lst ((d.A0.set st.mv.toNat b').map V.ref))) a o' b=some o:=λ{o'} b o n q=>by
    obtain⟨f1,f2,f3,f4,_⟩:=hF b n;have q3:=K1 b o f1 f2 q;rw[ae f3,ae f4,ae (bo q3)];exact q3
   refine dE (λc=>?_) (λc=>?_)
   .have c:st.mv+1=st.size:=V.int.inj (of_decide_eq_true c);refine⟨_,rfl,(by show 1<=sizeLine;decide),λtb' nt=>⟨_,rfl,a,_,dx,_,rfl,(by rw[ae (am ag nt)];exact ag),T.au,T.aH,je,?_⟩⟩;rw[xr];refine⟨_,rfl,a,_,dx,_,rfl,ag,T.au,T.bf,je,?_⟩;rw[vA,cK];have nta:tb'≠a:=(am ag nt).symm;have nt1:tb'≠d.r1:=(am (row6 (o:= .ins t.aQ dx (slF d.tb (st.mv+1) d.n))).lst nt).symm;refine q _ _ (hb.last z e ek (tb':=tb') (dx:=dx) c ag (by rw[ae nta];exact ag) nt1 ?_) rfl (λb o n w=>?_)
    .refine(row6 (o:= .ins t.aQ dx (slF d.tb (st.mv+1) d.n))).frame λb hb1=>?_;have:b≠a:=by
      rcases hb1 with rfl|hb1
      .exact r1a
      .exact(cellsA b hb1).2.2
     rw[ae this,ae (λw=>?_)];obtain⟨o,f⟩:∃o,upd (upd (upd H3 b' (.dK [])) d.r0 (.lst ((d.A0.set st.mv.toNat b').map V.ref))) a (.ins t.aQ dx (slF d.tb (st.mv+1) d.n)) b=some o:=by
      rcases hb1 with rfl|hb1
      .exact⟨_,row6.lst⟩
      .obtain⟨_,_,_,_,f⟩:=row6.has hb1;exact⟨_,f⟩
     rw[w,nt]at f;cases f
    .obtain⟨f1,f2,f3,f4,f5,f6⟩:=hF b n;have k6:=K6 (o':= .ins t.aQ dx (slF d.tb (st.mv+1) d.n)) b o n w;have bt:b≠tb':=am k6 nt;refine⟨by rw[ae f3,ae bt];exact k6,λy=>?_⟩;rcases y with y|y|y|y|⟨_,y⟩|y
     .exact f3 y
     .exact bt y
     .exact f6 y
     .exact f1 y
     .exact f6 y
     .cases y
   .have c:st.mv+1≠st.size:=λw=>c (decide_eq_true (by rw[w]));refine q _ _ (hb.one z e ek (b':=b') (dx:=dx) c ag (by rw[ae ta,ae hb.tr,ae (bo ht3),ht3,hb.tbl,e]) H6r0 ?_ nbF (λj b f1 f2=>?_) row6) rfl (λb o n w=>⟨K6 b o n w,λy=>?_⟩)
    .have n1:b'≠a:=(bo ho3).symm;have n2:b'≠d.r0:=(bo hr03).symm;rw[ae n1,ae n2];exact ag
    .have bA:=z7 f1;obtain⟨_,kv1,_,_,f⟩:=hb.row0.has bA;have nc:b≠c0:=λw=>f2 (hb.row0.inj j _ c0 (w▸f1) ec);have f3:=K1 b _ (hb.dis b bA) nc f;rw[ae (bC f3 ho3 (by intro w;cases w)),ae (bC f3 hr03 (by intro w;cases w)),ae (bo f3),f3,f]
    .obtain⟨f1,f2,f3,f4,f5,f6⟩:=hF b n;rcases y with y|y|y|y|⟨_,y⟩|y
     .exact f3 y
     .exact f5 y
     .exact f4 y
     .obtain⟨j,hj,ej⟩:=zO (show b∈d.A0.set st.mv.toNat b' from y);rcases bP (za.mpr ⟨hj,ej⟩)with⟨_,g⟩|⟨_,g⟩
      .have:=K1 b o f1 f2 w;rw[g,nb]at this;cases this
      .exact n (.inr (.inr (.inr (.inl (z7 g)))))
     .exact f6 y
     .exact f1 y
theorem gg (T:Txt K mg t):a6 P w K mg base CX0 2 t.c7 t.bV ["self"] (gd t):=by
 obtain⟨tk_GREATEST_SIZE,hGREATEST_SIZE⟩:=T.g_GREATEST_SIZE;obtain⟨tk_LEAST_SIZE,hLEAST_SIZE⟩:=T.g_LEAST_SIZE;refine T.pD.okl sc_Slots__begin_row λ_ _ _ s H vs Q E hr h=>?_;obtain⟨a,st,d,rfl,hb,z,hn,q⟩:=h;refine⟨_,(af (aY (az cw (aB ax (by rfl) T.bE be (aa (aK (pv 0) rfl) ah)) ai (aD _))
   (aj l7)
   aG)
   (af (ar (i:=1) sc_Slots__begin_row.nd rfl (Or.inl rfl) (aB ax (by rfl) T.bE be (aa (bu aP (aK (pv 0) rfl) ai (λ_ _=>rfl)) ah)))
   (aj (aY (PW.pt (fA (az nI (aK (pv 0) rfl) (pv 1) (aD _)) (db (az hI (pv 1) (cv (v:= .int 256) (by rfl) hGREATEST_SIZE ⟨_,rfl⟩) (aD _)))))
   (aj (bq (bW zH zP zQ cn (aK (pv 0) rfl) (aa (aE (hJ T) hr.mo (by rfl) T.iN T.fU.kp T.iS .nil aF (aa (aq iA (pv 1) ai) ah)) ah))))
   (aj (aY (PW.pt (fA (az hI (aq iA ai (aK (pv 0) rfl)) (pv 1) (aD _)) (db (az nI (pv 1) (cv (v:= .int 4) (by rfl) hLEAST_SIZE ⟨_,rfl⟩) (aD _)))))
   (aj (bq (bW zH zP zQ cn (aK (pv 0) rfl) (aa (aE (hJ T) hr.mo (by rfl) T.iN T.fU.kp T.iS .nil aF (aa (aq bI (pv 1) ai) ah)) ah))))
   aG))))))
  ,?_⟩
 obtain⟨dx,ho⟩:=hb.obj;have ht:=hb.tbl;cases e:st.nxt with
 |some m=>
  rw[e]at ht;refine⟨_,rfl,a,_,dx,_,_,rfl,ho,T.au,T.aH,fg,d.tb,_,rfl,.inl (SqL.of ht),rfl,_,rfl,mD rfl ?_⟩;have e1:st.three=st:=by unfold SSt.three;rw[e]
  rw[e1]at q;exact q H d hb rfl Fr.refl
 |none=>
  rw[e]at ht;refine⟨_,rfl,a,_,dx,_,_,rfl,ho,T.au,T.aH,fg,d.tb,_,rfl,.inl (SqL.of ht),rfl,_,rfl,bH (λz=>by cases z) ?_⟩;have la:((d.A0.map V.ref).length:Int)=st.size:=by rw[z8];exact hb.row0.la
  obtain⟨pw4,pw5⟩:=b4 z.pw;refine⟨_,rfl,a,_,dx,_,_,rfl,ho,T.au,T.aH,fg,d.tb,_,_,_,rfl,rfl,SqL.of ht,rfl,d.r0,_,rfl,.inl (SqL.of hb.row0.lst),?_⟩;dsimp only;rw[la];have fin:∀{m:Int} {H':Hp} {r:Addr} {A:List Addr},st.three={st with nxt:=some m,mv:=0}->Same H H'->H r=none->(∀b∈A,H b=none)->RowOk H' r A (List.replicate m.toNat []) m->H' d.tb=some (.lst [.ref d.r0])/\Q .non (upd H' d.tb (.lst ([.ref d.r0]++ [.ref r]))):=λ{m H' r A} e3 s nr nA hr=>by
   have ht':=s _ _ ht;have notF:∀b,SlF a st d b->∃o,H b=some o:=λb w=>hb.dom w;have nrF:¬SlF a st d r:=λw=>by obtain⟨o,q⟩:=notF r w;rw[nr]at q;cases q
   have nAF:∀b∈A,¬SlF a st d b:=λb hA w=>by obtain⟨o,q⟩:=notF b w;rw[nA b hA]at q;cases q
   refine⟨ht',?_⟩;have sb:=hb.begin (H':=upd H' d.tb (.lst [.ref d.r0,.ref r])) e (m:=m) (r:=r) (A:=A) (by rw[ae (bC ho ht (by intro w;cases w)),s _ _ ho,ho]) ag (λb hb1=>?_) (hr.frame λb hb1=>ae ?_) nrF nAF
   .rw[<-e3]at sb;refine q _ _ sb rfl λb o n w=>⟨?_,λy=>?_⟩
    .rw[ae (λv=>n (.inr (.inl v)))];exact s _ _ w
    .rw[e3]at y;rcases y with y|y|y|y|⟨_,y⟩|y
     .exact n (.inl y)
     .exact n (.inr (.inl y))
     .exact n (.inr (.inr (.inl y)))
     .exact n (.inr (.inr (.inr (.inl y))))
     .have y:b=r:=y;rw[y,nr]at w;cases w
     .rw[nA b y]at w;cases w
   .obtain⟨o,q⟩:=notF b (by
     rcases hb1 with w|w
     .exact .inr (.inr (.inl w))
     .exact .inr (.inr (.inr (.inl w))))
    have:b≠d.tb:=by
     rcases hb1 with w|w
     .rw[w];exact hb.tr.symm
     .exact hb.row0.notr w ht (λ_ z=>by cases z)
    rw[ae this,s _ _ q,q]
   .rcases hb1 with w|w
    .rw[w];exact λv=>by rw[v,ht]at nr;cases nr
    .exact λv=>by have:=nA b w;rw[v,ht]at this;cases this
  by_cases cA:st.size<d.n/\st.size<256
  .have e3:st.three={st with nxt:=some (2*st.size),mv:=0}:=by
    unfold SSt.three;rw[e];exact if_pos (by rw[<-hn];exact cA)
   refine⟨_,rfl,a,_,dx,_,_,rfl,ho,T.au,T.a4,gV,_,rfl,_,_,rfl,rfl,_,rfl,iF cA.1 ⟨_,rfl,_,_,rfl,rfl,_,rfl,iF cA.2 ?_⟩⟩;refine⟨_,rfl,a,_,dx,_,_,rfl,ho,T.au,T.aH,fg,.inl ⟨rfl,_,SqL.of ht⟩,_,rfl,_,_,rfl,rfl,.inr ⟨by decide,by decide⟩,_,rfl,by lia,by lia,λH' r A s nr nA hr=>?_⟩;obtain⟨f1,f2⟩:=fin (m:=st.size*2) (by rw[e3,Int.mul_comm]) s nr nA hr;exact⟨d.tb,_,_,rfl,rfl,f1,ci (by show 1<=1000;decide),f2⟩
  .by_cases cB:4*d.n<st.size/\4<st.size
   .have e3:st.three={st with nxt:=some (st.size/2),mv:=0}:=by
     unfold SSt.three;rw[e];exact(if_neg (by rw[<-hn];exact cA)).trans (if_pos (by rw[<-hn];exact cB))
    have c1:¬st.size<d.n:=by lia
    refine⟨_,rfl,a,_,dx,_,_,rfl,ho,T.au,T.a4,gV,_,rfl,_,_,rfl,rfl,_,rfl,bH c1 ?_⟩;refine⟨_,rfl,a,_,dx,_,_,rfl,ho,T.au,T.a4,gV,_,_,rfl,rfl,.inl ⟨by decide,by decide⟩,_,rfl,_,_,rfl,rfl,_,rfl,iF cB.1 ⟨_,rfl,_,_,rfl,rfl,_,rfl,iF cB.2 ?_⟩⟩;refine⟨_,rfl,a,_,dx,_,_,rfl,ho,T.au,T.aH,fg,.inl ⟨rfl,_,SqL.of ht⟩,_,rfl,_,_,rfl,rfl,⟨by decide,by decide⟩,_,rfl,by lia,by lia,λH' r A s nr nA hr=>?_⟩;obtain⟨f1,f2⟩:=fin (m:=st.size/2) e3 s nr nA hr;exact⟨d.tb,_,_,rfl,rfl,f1,ci (by show 1<=1000;decide),f2⟩
   .have e3:st.three=st:=by
     unfold SSt.three;rw[e];exact(if_neg (by rw[<-hn];exact cA)).trans (if_neg (by rw[<-hn];exact cB))
    rw[e3]at q;have q0:=q H d hb rfl Fr.refl;by_cases c1:st.size<d.n
    .have c2:¬st.size<256:=λw=>cA ⟨c1,w⟩;have c3:¬4*d.n<st.size:=by lia
     refine⟨_,rfl,a,_,dx,_,_,rfl,ho,T.au,T.a4,gV,_,rfl,_,_,rfl,rfl,_,rfl,iF c1 ⟨_,rfl,_,_,rfl,rfl,_,rfl,bH c2 ?_⟩⟩;exact⟨_,rfl,a,_,dx,_,_,rfl,ho,T.au,T.a4,gV,_,_,rfl,rfl,.inl ⟨by decide,by decide⟩,_,rfl,_,_,rfl,rfl,_,rfl,bH c3 q0⟩
    .refine⟨_,rfl,a,_,dx,_,_,rfl,ho,T.au,T.a4,gV,_,rfl,_,_,rfl,rfl,_,rfl,bH c1 ?_⟩;refine⟨_,rfl,a,_,dx,_,_,rfl,ho,T.au,T.a4,gV,_,_,rfl,rfl,.inl ⟨by decide,by decide⟩,_,rfl,_,_,rfl,rfl,_,rfl,?_⟩;by_cases c3:4*d.n<st.size
     .exact iF c3 ⟨_,rfl,_,_,rfl,rfl,_,rfl,bH (λw=>cB ⟨c3,w⟩) q0⟩
     .exact bH c3 q0
section
theorem SlB.put (h:SlB t H a st d) (z:SzOk st) {kv:List (Int×V)} (ic:IsCell d st k c kv) (v:V):
  ∃d',SlB t (upd H c (.dK (aT (bb kv k v)))) a {st with kv:=bb st.kv k v} d'/\d'.n=d.n/\∀b,SlF a {st with kv:=bb st.kv k v} d' b↔SlF a st d b:=
 h.setCell z ic (oV (h.at ic).2.2) (λ_ hp=>j7 hp) (by rw[bZ,bZ,if_pos rfl,if_pos rfl]) λj hj=>⟨by rw[bZ,if_neg hj],by rw[bZ,if_neg hj]⟩
theorem SlB.insM (h:SlB t H a st d):∃dx fs,H a=some (.ins t.aQ dx fs)/\∀m,NoM m->fs.lookup m=none:=by
 obtain⟨dx,ho⟩:=h.obj;exact⟨dx,_,ho,λm hm=>vt hm⟩
theorem SSt.one_kv:st.one.kv=st.kv:=by
 unfold SSt.one;cases st.nxt with
 |none=>rfl
 |some m=>show(if _ then _ else _:SSt).kv=_;split<;>rfl
theorem SSt.three_kv:st.three.kv=st.kv:=by
 unfold SSt.three;cases st.nxt with
 |some m=>rfl
 |none=>show(if _ then _ else _:SSt).kv=_;split;rfl;split<;>rfl
theorem pU {kv:List (Int×V)}:((bb kv k v).length:Int)=if(aJ kv k).isSome=true then(kv.length:Int)else kv.length+1:=by
 have:=congrArg List.length (ka (kv:=kv) (k:=k) (v:=v));rw[z8]at this;split
 .rename_i c;rw[if_pos c,z8]at this;lia
 .rename_i c;rw[if_neg c,zk,z8]at this;simp at this;lia
end
theorem kJ (T:Txt K mg t):a6 P w K mg base CX0 4 t.ij t.eX ["self","key"] (kz K t):=by
 refine T.ve.okl kE λ_ _ _ s H vs Q E hr h=>?_;obtain⟨a,k,F,st,rfl,⟨d,hb,hF,hn,nd,z⟩,h0,q⟩:=h;refine⟨_,(aj (aC (wf (wj (lJ hr) (pv 1) (br (pv 0) T.au T.d2 (b7 T) hr.mo T.d7 .nil aF (aa (pv 1) ah))))))
  ,?_⟩
 obtain⟨dx,fs,hi,hm⟩:=hb.insM;refine⟨_,rfl,_,rfl,a,dx,fs,rfl,hi,hm _ (by decide+kernel),_,rfl,a,k,st,d,rfl,hb,z,λc kv ic=>?_⟩;obtain⟨hc,_,_⟩:=hb.at ic;refine⟨c,_,rfl,DGet.k (k:=Sum.inl k) hc,?_⟩;rw[cp,hb.val k c kv ic];exact q H F ⟨d,hb,hF,hn,nd,z⟩ Fr.refl
theorem kK (T:Txt K mg t):a6 P w K mg base CX0 4 t.ik t.eY ["self","key"] (kA K t):=by
 refine T.vf.okl sc_Slots__get λ_ _ _ s H vs Q E hr h=>?_;obtain⟨a,k,F,st,rfl,⟨d,hb,hF,hn,nd,z⟩,h0,q1,q2⟩:=h;refine⟨_,(af (ar (i:=2) sc_Slots__get.nd rfl (Or.inl rfl) (br (pv 0) T.au T.d2 (b7 T) hr.mo T.d7 .nil aF (aa (pv 1) ah)))
   (af (aY (rQ (k7 (lJ hr) (pv 1) (pv 2)))
   (aj pN)
   aG)
   (aj (aC (uA (lJ hr) (pv 2) (pv 1) (λ_ _=>rfl))))))
  ,?_⟩
 have hA:SlA K t H a F st:=⟨d,hb,hF,hn,nd,z⟩;obtain⟨dx,fs,hi,hm⟩:=hb.insM;refine⟨_,rfl,a,dx,fs,rfl,hi,hm _ (by decide+kernel),_,rfl,a,k,st,d,rfl,hb,z,λc kv ic=>?_⟩;obtain⟨hc,_,_⟩:=hb.at ic;have hv:=hb.val k c kv ic;refine⟨_,rfl,_,rfl,c,_,rfl,DGet.k (k:=Sum.inl k) hc,?_⟩;rw[cp,hv];cases e:aJ st.kv k with
 |none=>
  refine⟨_,rfl,cf ?_⟩;exact(q2 e).elim
 |some v=>
  refine⟨_,rfl,d5 ?_⟩;refine⟨_,rfl,_,rfl,c,v,rfl,?_,q1 v e H F hA Fr.refl⟩;have:=DGet.k (k:=Sum.inl k) hc;rw[cp,hv,e]at this;exact this
theorem jU (T:Txt K mg t):a6 P w K mg base CX0 1 t.gx t.dH ["self"] (jp K t):=by
 refine T.tT.okl jC λ_ _ _ s H vs Q E hr h=>?_;obtain⟨a,F,st,rfl,⟨d,hb,hF,hn,nd,z⟩,q⟩:=h;refine⟨_,(aj (aC (aK (pv 0) rfl)))
  ,?_⟩
 obtain⟨dx,ho⟩:=hb.obj;rw[hn]at ho;exact⟨_,rfl,a,_,dx,_,_,rfl,ho,T.au,T.a4,gV,q H F ⟨d,hb,hF,hn,nd,z⟩ Fr.refl⟩
theorem kI (T:Txt K mg t):a6 P w K mg base CX0 4 t.ii t.eW ["self","key","value"] (kx K t):=by
 refine T.vd.okl sc_Slots__put λ_ _ _ s H vs Q E hr h=>?_;obtain⟨a,k,i,F,st,rfl,⟨d,hb,hF,hn,nd,z⟩,h0,hl,q⟩:=h;refine⟨_,(af (bq (g7 (pv 0) T.au T.oX (gf T) hr.mo T.pz .nil aF))
   (af (ar (i:=3) sc_Slots__put.nd rfl (Or.inl rfl) (br (pv 0) T.au T.d2 (b7 T) hr.mo T.d7 .nil aF (aa (pv 1) ah)))
   (af (aY (rQ (k7 (lJ hr) (pv 1) (pv 3)))
   (aj (iz (pv 0) ai pb))
   aG)
   (af (pL (lJ hr) (pv 3) (pv 1) (pv 2) rfl)
   (aj (bq (g7 (pv 0) T.au T.oY (gg T) hr.mo T.pA .nil aF)))))))
  ,?_⟩
 obtain⟨dx,fs,hi,hm⟩:=hb.insM;refine⟨_,rfl,a,dx,fs,rfl,hi,hm _ (by decide+kernel),a,st,d,rfl,hb,z,hl,λH1 d1 hb1 e1 fr1=>?_⟩;obtain⟨dx1,fs1,hi1,hm1⟩:=hb1.insM;have z1:=z.one;refine⟨_,rfl,a,dx1,fs1,rfl,hi1,hm1 _ (by decide+kernel),_,rfl,a,k,st.one,d1,rfl,hb1,z1,λc kv ic=>?_⟩;obtain⟨hc,cF,_⟩:=hb1.at ic;have hv:=hb1.val k c kv ic;have sh:=hb1.short z1 ic;rw[SSt.one_kv]at hv sh;obtain⟨dx2,ho1⟩:=hb1.obj;have na:a≠c:=bC ho1 hc (by intro w;cases w);have key:∀(H2:Hp) (n2:Int),SlB t H2 a st.one {d1 with n:=n2}->Fr (SlF a st d) (SlF a st.one d1) H H2->n2=((bb st.kv k (.int i)).length:Int)->∃d3,SlB t (upd H2 c (.dK (aT (bb kv k (.int i))))) a {st.one with kv:=bb st.one.kv k (.int i)} d3/\d3.n=((bb st.one.kv k (.int i)).length:Int)/\
   ∀H4 d4,SlB t H4 a (SSt.three {st.one with kv:=bb st.one.kv k (.int i)}) d4->d4.n=d3.n->Fr (SlF a {st.one with kv:=bb st.one.kv k (.int i)} d3) (SlF a (SSt.three {st.one with kv:=bb st.one.kv k (.int i)}) d4) (upd H2 c (.dK (aT (bb kv k (.int i))))) H4->Q .non H4:=λH2 n2 hb2 fr2 hn2=>by
  obtain⟨d3,hb3,e3,f3⟩:=hb2.put z1 (kv:=kv) ic (.int i);have e3':d3.n=((bb st.one.kv k (.int i)).length:Int):=by rw[e3,SSt.one_kv];exact hn2
  refine⟨d3,hb3,e3',λH4 d4 hb4 e4 fr4=>?_⟩;rw[SSt.one_kv]at hb4 fr4 f3 e3';refine q H4 _ ⟨d4,hb4,λb=>Iff.rfl,?_,?_,?_⟩ ?_
  .show d4.n=((SSt.three _).kv.length:Int);rw[SSt.three_kv,e4,e3']
  .show((SSt.three _).kv.map (·.1)).Nodup;rw[SSt.three_kv];exact oV nd
  .exact(z1.kv).three
  .have step:Fr (SlF a st.one d1) (SlF a {st.one with kv:=bb st.kv k (.int i)} d3) H2 (upd H2 c (.dK (aT (bb kv k (.int i))))):=λb o n w=>⟨by rw[ae (λy=>n (by rw[y];exact cF))];exact w,λy=>n ((f3 b).mp y)⟩;exact Fr.trans (λb o n w=>fr2 b o (λy=>n ((hF b).mpr y)) w) (Fr.trans step fr4)
 refine⟨_,rfl,_,rfl,c,_,rfl,DGet.k (k:=Sum.inl k) hc,?_⟩;rw[cp,hv];have kl:(aT kv).length<sizeLine:=by rw[f8];exact qu (by lia)
 cases e:aJ st.kv k with
 |none=>
  refine⟨_,rfl,cf ?_⟩;refine⟨_,rfl,a,_,dx2,_,_,rfl,ho1,T.au,T.a4,gV,_,_,rfl,rfl,dx2,_,ho1,je,?_⟩;rw[xt];have hb2:=hb1.setN (dx:=dx2) (n:=d1.n+1);have hc2:upd H1 a (.ins t.aQ dx2 (slF d1.tb st.one.moved (d1.n+1))) c=some (.dK (aT kv)):=by rw[ae na.symm];exact hc
  obtain⟨d3,hb3,n3,fin⟩:=key _ _ hb2 (λb o n w=>⟨by rw[ae (λy=>(fr1 b o n w).2 (.inl y))];exact(fr1 b o n w).1,(fr1 b o n w).2⟩) (by rw[pU,e,e1,hn];rfl);refine⟨_,rfl,_,rfl,_,rfl,c,_,rfl,DPut.k (k:=Sum.inl k) hc2 kl,?_⟩;rw[f7];obtain⟨dx3,fs3,hi3,hm3⟩:=hb3.insM;exact⟨_,rfl,a,dx3,fs3,rfl,hi3,hm3 _ (by decide+kernel),a,_,d3,rfl,hb3,z1.kv,n3,fin⟩
 |some v=>
  refine⟨_,rfl,d5 ?_⟩;obtain⟨d3,hb3,n3,fin⟩:=key H1 d1.n hb1 fr1 (by rw[pU,e,e1,hn];rfl);refine⟨_,rfl,_,rfl,_,rfl,c,_,rfl,DPut.k (k:=Sum.inl k) hc kl,?_⟩;rw[f7];obtain⟨dx3,fs3,hi3,hm3⟩:=hb3.insM;exact⟨_,rfl,a,dx3,fs3,rfl,hi3,hm3 _ (by decide+kernel),a,_,d3,rfl,hb3,z1.kv,n3,fin⟩
theorem v7 {sh n:Int}:aV ("kept":Str) (.int n) (aV ("shifted":Str) (.int sh) (aV ("table":Str) (.ref tb) []))=slF tb sh n:=by
 have e1:aV ("table":Str) (.ref tb) []=[(("table":Str),V.ref tb)]:=rfl;rw[e1,aV,if_neg (by decide+kernel),aV,aV,if_neg (by decide+kernel),aV,if_neg (by decide+kernel),aV];rfl
theorem jV (T:Txt K mg t):a6 P w K mg base CX0 2 t.gy t.dI ["self"] (jq K t):=by
 obtain⟨tk_LEAST_SIZE,hLEAST_SIZE⟩:=T.g_LEAST_SIZE;refine T.tU.okl jD λ_ _ _ s H vs Q E hr h=>?_;obtain⟨a,dx,rfl,ha,hd,q⟩:=h;refine⟨_,(af (bS (pv 0) (bp (aa (aE (hJ T) hr.mo (by rfl) T.iN T.fU.kp T.iS .nil aF (aa (cv (v:= .int 4) (by rfl) hLEAST_SIZE ⟨_,rfl⟩) ah)) ah)) rfl)
   (af (bS (pv 0) ai rfl)
   (aj (bS (pv 0) ai rfl))))
  ,?_⟩
 refine⟨4,rfl,by decide,by decide,λH' r A s nr nA hr=>⟨(by show 1<=sizeLine;decide),λtb nt=>?_⟩⟩;have ha1:=s _ _ ha;have nta:a≠tb:=am ha1 nt;refine⟨_,rfl,a,_,dx,[],rfl,(by rw[ae nta];exact ha1),T.au,T.aH,(by show 0<1000;decide),?_⟩;refine⟨_,rfl,a,_,dx,_,rfl,ag,T.au,T.bf,?_,?_⟩
 .show 1<1000;decide
 refine⟨_,rfl,a,_,dx,_,rfl,ag,T.au,T.a4,?_,?_⟩
 .have h1:=jL (f:="shifted") (v:= .int 0) (aV "table" (.ref tb) []);have h2:=jL (f:="table") (v:= .ref tb) [];have h3:([]:List (Str×V)).length=0:=rfl;lia
 rw[v7,cK,cK];have ntr:tb≠r:=(am hr.lst nt).symm;have sb:=SlB.fresh (t:=t) (H:=upd (upd H' tb (.lst [.ref r])) a (.ins t.aQ dx (slF tb 0 0))) (a:=a) (tb:=tb) (r:=r) (A:=A) (dx:=dx) ag (by rw[ae nta.symm];exact ag) (hr.frame λb hb1=>?_) ntr
 .refine q _ _ ⟨_,sb,λb=>Iff.rfl,rfl,yx,SzOk.new⟩ λb o n w=>?_;have n1:b≠a:=λy=>n (.inl y);have w1:=s _ _ w;have n2:b≠tb:=am w1 nt;refine⟨by rw[ae n1,ae n2];exact w1,λy=>?_⟩;rcases y with y|y|y|y|⟨y,_⟩|y
  .exact n1 y
  .exact n2 y
  .have y:b=r:=y;rw[y,nr]at w;cases w
  .rw[nA b y]at w;cases w
  .cases y
  .cases y
 .have:∃o,H' b=some o:=by
   rcases hb1 with rfl|hb1
   .exact⟨_,hr.lst⟩
   .obtain⟨_,_,_,_,w⟩:=hr.has hb1;exact⟨_,w⟩
  obtain⟨o,w⟩:=this;have n2:b≠tb:=am w nt;have n1:b≠a:=λy=>by
   rcases hb1 with y2|y2
   .rw[<-y2,y,ha]at nr;cases nr
   .have:=nA b y2;rw[y,ha]at this;cases this
  rw[ae n1,ae n2]
theorem hV (e:A[j]?=some c):atI (A.map V.ref) (j:Int)=some (.ref c):=by
 refine ia ?_;rw[zD,e];rfl
theorem va (ne:x≠[]) (e:x[x.length-1]?=some m):atI (x.map V.int) (-1)=some (.int m):=by
 have hl:=zU.mpr ne;unfold atI ixN;rw[z8,if_neg (by decide),if_pos (by lia)];show(x.map V.int)[((-1:Int)+(x.length:Int)).toNat]?=_;have:((-1:Int)+(x.length:Int)).toNat=x.length-1:=by lia
 rw[this,zD,e];rfl
theorem uN (h:i<A.length):ixN (A.map V.ref).length (i:Int)=some i:=by
 unfold ixN;rw[if_pos (by lia),if_pos (by rw[z8];lia)];rfl
def vQ (a:Addr) (k:Int) (ls:List (List Int)) (H:Hp):Nat->St->Hp->Prop:=λm σ H'=>∃(lo hi:Nat) (v4:Option V),m=hi-lo/\H'=H/\σ=[some (.ref a),some (.int k),some (.int (lo:Int)),some (.int (hi:Int)),v4]/\lo<=hi/\hi<=ls.length/\
 (∀(j:Nat) (x:List Int),j<lo->ls[j]?=some x->∀y∈x,y<k)/\∀(j:Nat) (x:List Int),hi<=j->ls[j]?=some x->∃y∈x,k<=y
def gK (t:Adr):Sp:=λvs H Q _=>∃(a:Addr) (k:Int) (L:Addr) (A:List Addr) (ls:List (List Int)),vs=[.ref a,.int k]/\LvB t H a L A ls/\(∀l∈ls,l≠[])/\bX ls.flatten/\∀i:Nat,LeafOf ls k i->Q (.int (i:Int)) H
theorem bT (T:Txt K mg t):a6 P w K mg base CX0 1 t.dn t.b9 ["self","key"] (gK t):=by
 refine T.qk.okl sc_Leaves__leaf_of λ_ _ _ s H vs Q E hr h=>?_;obtain⟨a,k,L,A,ls,rfl,hb,ne,up,q⟩:=h;refine⟨_,(af (ar (i:=2) sc_Leaves__leaf_of.nd rfl (Or.inl rfl) ai)
   (af (ar (i:=3) sc_Leaves__leaf_of.nd rfl (Or.inl rfl) (aB ax (by rfl) T.bE be (aa (aK (pv 0) rfl) ah)))
   (af (nu PassesOwn.never (az hI (pv 2) (pv 3) (aD _))
   (af (ar (i:=4) sc_Leaves__leaf_of.nd rfl (Or.inl rfl) (aq bI (aq cm (pv 2) (pv 3)) ai))
   (aj (aY (az hI (bu aP (bu aP (aK (pv 0) rfl) (pv 4) (λ_ _=>rfl)) (nC jk ai) (λ_ _=>rfl)) (pv 1) (aD _))
   (aj (ar (i:=2) sc_Leaves__leaf_of.nd rfl (Or.inl rfl) (aq cm (pv 4) ai)))
   (aj (ar (i:=3) sc_Leaves__leaf_of.nd rfl (Or.inl rfl) (pv 4)))))))
   (aj (aC (pv 2))))))
  ,?_⟩
 obtain⟨dx,ho⟩:=hb.obj;have lA:((A.map V.ref).length:Int)=(ls.length:Int):=by rw[z8,hb.len]
 refine⟨_,rfl,a,_,dx,_,_,rfl,ho,T.aM,T.aA,dj,L,_,rfl,.inl (SqL.of hb.lst),?_⟩;dsimp only;rw[lA];refine⟨vQ a k ls H,⟨_,0,ls.length,none,rfl,rfl,rfl,zF _,zg _,λj x h=>absurd h (by lia),λj x h e=>?_⟩,?_⟩
 .have:=(za.mp e).1;lia
 rintro m σ H' ⟨lo,hi,v4,rfl,rfl,rfl,h1,h2,h3,h4⟩;refine⟨_,rfl,_,rfl,_,_,rfl,rfl,_,rfl,dE (λc=>?_) (λc=>?_)⟩
 .have c:lo<hi:=by have:=of_decide_eq_true c;lia
  refine⟨λσ' H''=>∃m',m'<hi-lo/\vQ a k ls H' m' σ' H'',λ_ _ h=>h,?_⟩;refine⟨_,rfl,_,rfl,_,_,rfl,rfl,_,_,rfl,rfl,⟨by decide,by decide⟩,?_⟩;obtain⟨mid,em,m1,m2⟩:∃mid:Nat,((lo:Int)+(hi:Int))/2=(mid:Int)/\lo<=mid/\mid<hi:=⟨(lo+hi)/2,by lia,by lia,by lia⟩;dsimp only;rw[em];have hm:mid<ls.length:=by lia
  have ex:ls[mid]?=some ls[mid]:=zc hm;obtain⟨b,eb,hbb⟩:=hb.at ex;have nex:=ne _ (yM hm);obtain⟨g,eg,gm,gmax⟩:=sD (uk up ex) nex;refine⟨_,rfl,a,_,dx,_,_,rfl,ho,T.aM,T.aA,dj,_,rfl,L,_,_,_,rfl,rfl,SqL.of hb.lst,hV eb,_,rfl,b,_,_,_,rfl,rfl,SqL.of hbb,va nex eg,_,rfl,_,_,rfl,rfl,_,rfl,dE (λc2=>?_) (λc2=>?_)⟩
  .have c2:=of_decide_eq_true c2;refine⟨_,rfl,_,_,rfl,rfl,hi-(mid+1),by lia,mid+1,hi,_,rfl,rfl,rfl,by lia,h2,λj x hj e y hy=>?_,h4⟩;rcases(show j<mid\/j=mid by lia)with h|h
   .have:=kY up e ex h y hy g gm;lia
   .subst h;rw[ex]at e;cases e;have:=gmax y hy;lia
  .have c2:¬g<k:=λz=>c2 (decide_eq_true z);refine⟨_,rfl,mid-lo,by lia,lo,mid,_,rfl,rfl,rfl,by lia,by lia,h3,λj x hj e=>?_⟩;rcases(show j=mid\/mid<j by lia)with h|h
   .subst h;rw[ex]at e;cases e;exact⟨g,gm,by lia⟩
   .obtain⟨y,hy⟩:=List.exists_mem_of_ne_nil x (ne x (z7 e));have:=kY up ex e h g gm y hy;exact⟨y,hy,by lia⟩
 .have c:¬lo<hi:=λz=>c (decide_eq_true (by lia));have:lo=hi:=by lia
  subst this;exact⟨_,rfl,q lo ⟨h2,h3,λx e=>h4 lo x (zg _) e⟩⟩
theorem nQ {k:Int}:∀{x:List Int},inV (.int k) (x.map V.int)=decide (k∈x)
 | []=>rfl
 |a::r=>by
  have ih:=nQ (k:=k) (x:=r);unfold inV at ih⊢;rw[zr,yN,ih];have:eqV (.int a) (.int k)=decide (k=a):=by
   show(_:Bool)=_;by_cases c:a=k
   .subst c;simp[eqV]
   .have c':¬k=a:=λz=>c z.symm;simp[eqV,c,c']
  rw[this];by_cases c:k=a
  .simp[c]
  .simp[c]
theorem qU:(x.map V.int).all hW=true:=by
 rw[List.all_map];exact zM.mpr λ_ _=>rfl
theorem jY (T:Txt K mg t):a6 P w K mg base CX0 2 t.gE t.dN ["self","key"] (jt K t):=by
 refine T.tX.okl sc_Leaves__has λ_ _ _ s H vs Q E hr h=>?_;obtain⟨a,k,F,ks,rfl,hA,q⟩:=h;refine⟨_,(af (ar (i:=2) sc_Leaves__has.nd rfl (Or.inl rfl) (br (pv 0) T.aM T.de (bT T) hr.mo T.dk .nil aF (aa (pv 1) ah)))
   (aj (aC (rZ (jf hI (pv 2) (aB ax (by rfl) T.bE be (aa (aK (pv 0) rfl) ah)) (aD _)) (rW (jf qB (pv 1) (bu aP (aK (pv 0) rfl) (pv 2) (λ_ _=>rfl)) rfl))))))
  ,?_⟩
 obtain⟨dx,fs,hi,hm⟩:=hA.ins;have q:=q H F hA Fr.refl;obtain⟨L,A,ls,hb,ok,ef,hF⟩:=hA;obtain⟨dx',ho⟩:=hb.obj;have lA:((A.map V.ref).length:Int)=(ls.length:Int):=by rw[z8,hb.len]
 refine⟨_,rfl,a,dx,fs,rfl,hi,hm _ (by decide+kernel),_,rfl,a,k,L,A,ls,rfl,hb,ok.ne,ok.up,λi li=>?_⟩;refine⟨_,rfl,_,rfl,a,_,dx',_,_,rfl,ho,T.aM,T.aA,dj,L,_,rfl,.inl (SqL.of hb.lst),_,_,rfl,rfl,_,rfl,dE (λc=>?_) (λc=>?_)⟩
 .have c:=of_decide_eq_true c;have hi:i<ls.length:=by lia
  have ex:ls[i]?=some ls[i]:=zc hi;obtain⟨b,eb,hbb⟩:=hb.at ex;refine⟨_,rfl,_,rfl,a,_,dx',_,_,rfl,ho,T.aM,T.aA,dj,_,rfl,L,_,_,_,rfl,rfl,SqL.of hb.lst,hV eb,b,_,rfl,.inl (SqL.of hbb),rfl,qU,?_⟩;show Q (.bl (inV (.int k) (ls[i].map V.int))) H;rw[nQ];have:k∈ls[i]↔k∈ks:=by
   rw[<-ef,li.mem ok];constructor
   .exact λz=>⟨_,ex,z⟩
   .rintro ⟨x,e,z⟩;rw[ex]at e;cases e;exact z
  rw[decide_eq_decide.mpr this];exact q
 .have c:¬(i:Int)<((A.map V.ref).length:Int):=λz=>c (decide_eq_true z);have:k∉ks:=λz=>by
   rw[<-ef,li.mem ok]at z;obtain⟨x,e,_⟩:=z;have:=(za.mp e).1;lia
  rw[decide_eq_false this]at q;exact q
theorem i8 (T:Txt K mg t):a6 P w K mg base CX0 1 t.fS t.cZ ["self"] (iZ K t):=by
 refine T.tq.okl i5 λ_ _ _ s H vs Q E hr h=>?_;obtain⟨a,dx,rfl,ha,hd,q⟩:=h;refine⟨_,(aj (bS (pv 0) (bp ah) rfl))
  ,?_⟩
 refine⟨zF _,λL nL=>⟨_,rfl,a,_,dx,[],rfl,(by rw[ae (am ha nL)];exact ha),T.aM,T.aA,(by show 0<1000;decide),?_⟩⟩;have na:=am ha nL;refine q _ (LvF a L []) ⟨L,[],[],⟨⟨dx,ag⟩,by rw[ae na.symm];exact ag,rfl,(λj b l e=>by simp at e),(λi j b e=>by simp at e),(λz=>by cases z)⟩,LvOk.nil,rfl,λb=>Iff.rfl⟩ λb o n w=>?_;have n1:b≠a:=λy=>n (.inl y);have n2:b≠L:=am w nL;refine⟨by rw[ae n1,ae n2];exact w,λy=>?_⟩;rcases y with y|y|y
 .exact n1 y
 .exact n2 y
 .cases y
def fq (t:Adr):Sp:=λvs H Q _=>∃(a L:Addr) (A:List Addr) (ls:List (List Int)) (i:Nat) (x:List Int),vs=[.ref a,.int (i:Int)]/\LvB t H a L A ls/\ls[i]?=some x/\x.length=9/\ls.length<5000/\
 ∀H' A',LvB t H' a L A' ((ls.set i (x.take 4)).take (i+1)++x.drop 4::(ls.set i (x.take 4)).drop (i+1))->Fr (LvF a L A) (LvF a L A') H H'->Q .non H'
theorem fF (T:Txt K mg t):a6 P w K mg base CX0 1 t.cJ t.bN ["self","at"] (fq t):=by
 refine T.oz.okl sc_Leaves__part_leaf λ_ _ _ s H vs Q E hr h=>?_;obtain⟨a,L,A,ls,i,x,rfl,hb,ex,lx,ll,q⟩:=h;refine⟨_,(af (ar (i:=2) sc_Leaves__part_leaf.nd rfl (Or.inl rfl) (bu aP (aK (pv 0) rfl) (pv 1) (λ_ _=>rfl)))
   (af (ar (i:=3) sc_Leaves__part_leaf.nd rfl (Or.inl rfl) (aq bI (aB ax (by rfl) T.bE be (aa (pv 2) ah)) ai))
   (af (rR (aO a8 (pv 2) aX (aW (pv 3))) (rV (aK (pv 0) rfl) (pv 1) m5))
   (aj (bq (bW zH PySem.F.slot_list_insert PySem.F.type_list_insert lr (aK (pv 0) rfl) (aa (aq cm (pv 1) ai) (aa (aO a8 (pv 2) (aW (pv 3)) aX) ah))))))))
  ,?_⟩
 obtain⟨dx,ho⟩:=hb.obj;obtain⟨c,ec,hc⟩:=hb.at ex;have hil:i<A.length:=(za.mp ec).1;have len9:((x.map V.int).length:Int)=9:=by rw[z8,lx];rfl
 refine⟨_,rfl,a,_,dx,_,_,rfl,ho,T.aM,T.aA,dj,_,rfl,L,_,_,_,rfl,rfl,SqL.of hb.lst,hV ec,?_⟩;refine⟨_,rfl,c,_,rfl,.inl (SqL.of hc),_,_,rfl,rfl,⟨by decide,by decide⟩,?_⟩;dsimp only;rw[len9];have cut1:c8 (x.map V.int) none (some (9/2))=(x.take 4).map V.int:=by
  unfold c8;rw[z8,lx];show((x.map V.int).drop 0).take (4-0)=_;rw[Qa,yO]
 have cut2:c8 (x.map V.int) (some (9/2)) none=(x.drop 4).map V.int:=by
  unfold c8;rw[z8,lx];show((x.map V.int).drop 4).take (9-4)=_;rw[Q0,zA (by rw[zG,z8,lx];exact zg _)]
 refine⟨_,rfl,_,rfl,_,rfl,c,_,rfl,SqL.of hc,λn1 nn1=>?_⟩;rw[cut1];have s1:Same H (upd H n1 (.lst ((x.take 4).map V.int))):=ak nn1;have hb1:=hb.same s1;have hn1:upd H n1 (.lst ((x.take 4).map V.int)) n1=some (.lst ((x.take 4).map V.int)):=ag;have nF1:=hb.out nn1;have ho1:=s1 _ _ ho;have hc1:=s1 _ _ hc;have hL1:=s1 _ _ hb.lst;generalize upd H n1 (.lst ((x.take 4).map V.int))=H1 at s1 hb1 hn1 ho1 hc1 hL1⊢;refine⟨_,rfl,a,_,dx,_,_,rfl,ho1,T.aM,T.aA,dj,_,rfl,L,_,_,_,rfl,rfl,hL1,uN hil,?_⟩;have es:(A.map V.ref).set i (V.ref n1)=(A.set i n1).map V.ref:=by rw[List.map_set]
 rw[es];have hb2:=hb1.swap ec ex hn1 nF1;have cL:c≠L:=λz=>hb.nL (z▸z7 ec);have hc2:upd H1 L (.lst ((A.set i n1).map V.ref)) c=some (.lst (x.map V.int)):=by rw[ae cL];exact hc1
 obtain⟨dx2,ho2⟩:=hb2.obj;have hL2:=hb2.lst;have f2:Fr (LvF a L A) (LvF a L (A.set i n1)) H (upd H1 L (.lst ((A.set i n1).map V.ref))):=λb o n w=>by
  have w1:=s1 _ _ w;refine⟨by rw[ae (λy=>n (.inr (.inl y)))];exact w1,λy=>?_⟩;rcases y with y|y|y
  .exact n (.inl y)
  .exact n (.inr (.inl y))
  .rcases List.mem_or_eq_of_mem_set y with y|y
   .exact n (.inr (.inr y))
   .rw[y,nn1]at w;cases w
 generalize upd H1 L (.lst ((A.set i n1).map V.ref))=H2 at hb2 hc2 ho2 hL2 f2⊢;refine⟨_,rfl,a,_,dx2,_,_,rfl,ho2,T.aM,T.aA,dj,.inl ⟨rfl,_,SqL.of hL2⟩,_,rfl,_,_,rfl,rfl,_,rfl,_,rfl,_,rfl,c,_,rfl,SqL.of hc2,λn2 nn2=>?_⟩;rw[cut2];have s3:Same H2 (upd H2 n2 (.lst ((x.drop 4).map V.int))):=ak nn2;have hb3:=hb2.same s3;have hn3:upd H2 n2 (.lst ((x.drop 4).map V.int)) n2=some (.lst ((x.drop 4).map V.int)):=ag;have nF3:=hb2.out nn2;have hL3:=s3 _ _ hL2;generalize upd H2 n2 (.lst ((x.drop 4).map V.int))=H3 at s3 hb3 hn3 hL3⊢;have lS:(A.set i n1).length=A.length:=zL;refine⟨L,_,_,_,rfl,rfl,hL3,(by lia),(by rw[z8,lS];lia),(by rw[z8,lS,hb.len];exact bO (by lia)),?_⟩;have ei:((i:Int)+1).toNat=i+1:=by lia
 have hb4:=hb3.insert (i:=i+1) (by rw[lS];lia) hn3 nF3;rw[ei];have em:((A.set i n1).map V.ref).take (i+1)++V.ref n2::((A.set i n1).map V.ref).drop (i+1)=((A.set i n1).take (i+1)++n2::(A.set i n1).drop (i+1)).map V.ref:=by
  rw[zo,zr,yO,Q0]
 rw[em];refine q _ _ hb4 (f2.trans (λb o n w=>?_));have w3:=s3 _ _ w;refine⟨by rw[ae (λy=>n (.inr (.inl y)))];exact w3,λy=>?_⟩;rcases y with y|y|y
 .exact n (.inl y)
 .exact n (.inr (.inl y))
 .rcases zd.mp y with y|y
  .exact n (.inr (.inr (yy y)))
  .rcases zh.mp y with y|y
   .rw[y,nn2]at w;cases w
   .exact n (.inr (.inr (yz y)))
theorem LvB.insM (h:LvB t H a L A ls):∃dx fs,H a=some (.ins t.bx dx fs)/\∀m,m≠("leaves":Str)->fs.lookup m=none:=by
 obtain⟨dx,ho⟩:=h.obj;exact⟨dx,_,ho,λm hm=>vI hm⟩
theorem jZ (T:Txt K mg t):a6 P w K mg base CX0 3 t.gF t.dO ["self","key"] (ju K t):=by
 obtain⟨tk_MOST_IN_LEAF,hMOST_IN_LEAF⟩:=T.g_MOST_IN_LEAF;refine T.tY.okl sc_Leaves__add λ_ _ _ s H vs Q E hr h=>?_;obtain⟨a,k,F,ks,rfl,hA,hl,q1,q2⟩:=h;refine⟨_,(af (aY (cG (br (pv 0) T.aM T.tz (jY T) hr.mo T.tM .nil aF (aa (pv 1) ah)))
   (aj pN)
   aG)
   (af (aY (az cw (aB ax (by rfl) T.bE be (aa (aK (pv 0) rfl) ah)) ai (aD _))
   (af (bq (bW zH zP zQ cn (aK (pv 0) rfl) (aa (bp (aa (pv 1) ah)) ah)))
   (aj l7))
   aG)
   (af (ar (i:=2) sc_Leaves__add.nd rfl (Or.inl rfl) (aB (rc rfl) (by rfl) T.xR wO (aa (br (pv 0) T.aM T.de (bT T) hr.mo T.dk .nil aF (aa (pv 1) ah)) (aa (aq jP (aB ax (by rfl) T.bE be (aa (aK (pv 0) rfl) ah)) ai) ah))))
   (af (ar (i:=3) sc_Leaves__add.nd rfl (Or.inl rfl) (bu aP (aK (pv 0) rfl) (pv 2) (λ_ _=>rfl)))
   (af (bq (bW zH PySem.F.slot_list_insert PySem.F.type_list_insert lr (pv 3) (aa (aB ax (by rfl) T.bE be (aa (nG rfl (CScope.of (M:=["one"]) (N:=["self","key","at","leaf"]) (N':=["self","key","at","leaf"]) (dsc:=ao cu) rfl rfl (by decide+kernel)) (g6 (pv 3)) (λ_ _ _ _ _=>(az hI (pv 0) (pv 2) (aD _))) (λ_ _ _ _ _=>(pv 0))) ah)) (aa (pv 1) ah))))
   (aj (aY (az nI (aB ax (by rfl) T.bE be (aa (pv 3) ah)) (cv (v:= .int 8) (by rfl) hMOST_IN_LEAF ⟨_,rfl⟩) (aD _))
   (aj (bq (br (pv 0) T.aM T.ox (fF T) hr.mo T.oy .nil aF (aa (pv 2) ah))))
   aG)))))))
  ,?_⟩
 obtain⟨dx,fs,hi,hm⟩:=hA.ins;refine⟨_,rfl,a,dx,fs,rfl,hi,hm _ (by decide+kernel),_,rfl,a,k,F,ks,rfl,hA,λH0 F0 hA0 fr0=>?_⟩;by_cases ck:k∈ks
 .rw[decide_eq_true ck];refine⟨_,rfl,cf ?_⟩;exact(q2 ck).elim
 rw[decide_eq_false ck];refine⟨_,rfl,d5 ?_⟩;have q:=q1 ck;obtain⟨L,A,ls,hb,ok,ef,hF⟩:=hA0;obtain⟨dx',ho⟩:=hb.obj;have lA:((A.map V.ref).length:Int)=(ls.length:Int):=by rw[z8,hb.len]
 have sh:=ok.short;rw[ef]at sh;have fr:Fr F (LvF a L A) H H0:=λb o n e=>⟨(fr0 b o n e).1,λy=>(fr0 b o n e).2 ((hF b).mpr y)⟩;have nk:k∉ls.flatten:=by rw[ef];exact ck
 by_cases ce:ls=[]
 .subst ce;have eA:A=[]:=List.length_eq_zero_iff.mp hb.len;subst eA;refine⟨_,rfl,a,_,dx',_,_,rfl,ho,T.aM,T.aA,dj,L,_,rfl,.inl (SqL.of hb.lst),rfl,_,rfl,mD rfl ?_⟩;refine⟨_,rfl,a,_,dx',_,_,rfl,ho,T.aM,T.aA,dj,.inl ⟨rfl,_,SqL.of hb.lst⟩,_,rfl,(by show 1<=sizeLine;decide),λn nn=>?_⟩;have s1:Same H0 (upd H0 n (.lst [.int k])):=ak nn;have hb1:=hb.same s1;have hn1:upd H0 n (.lst [.int k]) n=some (.lst (([k]:List Int).map V.int)):=ag;have nF:=hb.out nn;have hL1:=s1 _ _ hb.lst;refine⟨L,_,_,rfl,rfl,hL1,ci (by show 0<=1000;decide),?_⟩;have hb2:=hb1.insert (i:=0) (zF _) hn1 nF;have ok1:LvOk [[k]]:=⟨(λl hl=>by rw[zf.mp hl];simp),(λl hl=>by rw[zf.mp hl];simp),(λi x y e1 e2=>by simp at e2),by show bX [k];exact Q2 _ _⟩;refine q _ (LvF a L [n]) [k] ⟨L,[n],[[k]],hb2,ok1,rfl,λb=>Iff.rfl⟩ (λz=>?_) (fr.trans λb o n' w=>?_)
  .rw[<-ef];simp
  .have w1:=s1 _ _ w;refine⟨by rw[ae (λy=>n' (.inr (.inl y)))];exact w1,λy=>?_⟩;rcases y with y|y|y
   .exact n' (.inl y)
   .exact n' (.inr (.inl y))
   .rw[zf.mp y,nn]at w;cases w
 .have hpos:=zU.mpr ce;refine⟨_,rfl,a,_,dx',_,_,rfl,ho,T.aM,T.aA,dj,L,_,rfl,.inl (SqL.of hb.lst),rfl,_,rfl,bH (λw=>?_) ?_⟩
  .have:=V.int.inj w;lia
  obtain⟨dx2,fs2,hi2,hm2⟩:=hb.insM;refine⟨_,rfl,a,dx2,fs2,rfl,hi2,hm2 _ (by decide+kernel),_,rfl,a,k,L,A,ls,rfl,hb,ok.ne,ok.up,λi li=>?_⟩;refine⟨_,rfl,a,_,dx',_,_,rfl,ho,T.aM,T.aA,dj,L,_,rfl,.inl (SqL.of hb.lst),_,_,rfl,rfl,_,_,rfl,?_⟩;obtain⟨x,ad⟩:=li.add ok ce;have em:(if((A.map V.ref).length:Int)-1<(i:Int)then((A.map V.ref).length:Int)-1 else(i:Int))=((min i (ls.length-1):Nat):Int):=by
   rw[lA];split<;>lia
  dsimp only;rw[em];generalize min i (ls.length-1)=j at ad⊢;obtain⟨c,ec,hc⟩:=hb.at ad.at_;have jl:j<ls.length:=(za.mp ad.at_).1;have x8:=ok.le x (z7 ad.at_);refine⟨_,rfl,a,_,dx',_,_,rfl,ho,T.aM,T.aA,dj,_,rfl,L,_,_,_,rfl,rfl,SqL.of hb.lst,hV ec,?_⟩;refine⟨_,rfl,.inl ⟨rfl,_,SqL.of hc⟩,_,rfl,c,rfl,⟨_,SqL.of hc⟩,λD hD=>?_⟩;refine ki (K:=K) (a:=c) (xs:=x.map V.int) (λn ys H3=>H3=upd H0 D (.lst ys)/\ys=((x.take n).filter (λz=>decide (z<k))).map V.int) ⟨rfl,rfl⟩ (λn ys H3 _ w=>SqL.of (by rw[w.1,ae (am hc hD)];exact hc)) (λn v ys H3 hv w hDD=>?_) (λys H3 w hDD=>?_)
  .obtain⟨e1,e2⟩:=w;obtain⟨g,rfl,eg⟩:∃g:Int,v= .int g/\x[n]?=some g:=by
    rw[zD]at hv;cases e:x[n]? with
    |none=>rw[e]at hv;cases hv
    |some g=>rw[e]at hv;cases hv;exact⟨g,rfl,rfl⟩
   have hn:n<(x.map V.int).length:=(za.mp hv).1;refine⟨_,rfl,_,rfl,_,_,rfl,rfl,_,rfl,?_⟩;have fl:ys.length<=8:=by
    rw[e2,z8];have h1:=y3 (λz=>decide (z<k)) (x.take n);have h2:(x.take n).length<=x.length:=by rw[zu];lia
    lia
   by_cases cg:g<k
   .refine iF cg ⟨_,rfl,CNext.mk hn hDD (ci (by lia)) ⟨by rw[e1,cK],?_⟩⟩;rw[e2,zN,eg,yq,zo];simp[cg]
   .refine bH cg (CSkip.mk hn hDD ⟨e1,?_⟩);rw[e2,zN,eg,yq];simp[cg]
  .obtain⟨e1,e2⟩:=w;rw[z8,yC]at e2;have s3:Same H0 H3:=by rw[e1];exact ak hD
   have hb3:=hb.same s3;have hc3:=s3 _ _ hc;have yl:(ys.length:Int)=((x.filter (λz=>decide (z<k))).length:Int):=by rw[e2,z8]
   have fle:=y3 (λz=>decide (z<k)) x;refine⟨D,_,rfl,.inl (SqL.of hDD),_,rfl,c,_,_,_,rfl,rfl,hc3,(by lia),(by rw[z8];lia),(by rw[z8];exact ci (by lia)),?_⟩;have ei:(x.map V.int).take (ys.length:Int).toNat++V.int k::(x.map V.int).drop (ys.length:Int).toNat=(cz x k).map V.int:=by
    rw[yl,Int.toNat_natCast];unfold cz;rw[zo,zr,yO,Q0]
   dsimp only;rw[ei];have hb4:=hb3.write (y:=cz x k) ec ad.at_;have il:=sE (l:=x) (k:=k);obtain⟨up4,mem4⟩:=ad.set ok nk;have cF:LvF a L A c:= .inr (.inr (z7 ec));have f4:Fr (LvF a L A) (LvF a L A) H0 (upd H3 c (.lst ((cz x k).map V.int))):=λb o n w=>⟨by rw[ae (λy=>n (by rw[y];exact cF))];exact s3 _ _ w,n⟩;have hc4:upd H3 c (.lst ((cz x k).map V.int)) c=some (.lst ((cz x k).map V.int)):=ag;generalize upd H3 c (.lst ((cz x k).map V.int))=H4 at hb4 f4 hc4⊢;refine⟨_,rfl,c,_,rfl,.inl (SqL.of hc4),_,_,rfl,rfl,_,rfl,?_⟩;have ll:((cz x k).map V.int).length=x.length+1:=by rw[z8,il]
   by_cases c9:x.length=8
   .refine iF (by rw[ll];lia) ?_;obtain⟨dx5,fs5,hi5,hm5⟩:=hb4.insM;have e5:(ls.set j (cz x k))[j]?=some (cz x k):=by rw[zy,if_pos rfl,if_pos jl]
    refine⟨_,rfl,a,dx5,fs5,rfl,hi5,hm5 _ (by decide+kernel),_,rfl,a,L,A,_,j,_,rfl,hb4,e5,by lia,by rw[zL];lia,λH6 A6 hb6 f6=>?_⟩;have er:(ls.set j (cz x k)).set j ((cz x k).take 4)=ls.set j ((cz x k).take 4):=List.set_set _;rw[er]at hb6;have up5:bX (ls.set j ((cz x k).take 4++(cz x k).drop 4)).flatten:=by rw[zZ];exact up4
    obtain⟨ok6,ef6⟩:=ok.parted ad.at_ (a:=(cz x k).take 4) (b:=(cz x k).drop 4) (by rw[zu];lia) (by rw[zG];lia) up5;rw[zZ]at ef6;refine q H6 _ _ ⟨L,A6,_,hb6,ok6,rfl,λb=>Iff.rfl⟩ (λz=>?_) (fr.trans (f4.trans f6));rw[ef6,mem4,ef]
   .refine bH (by rw[ll];lia) ?_;have ok4:=ok.grown ad.at_ (y:=cz x k) (by lia) (by lia) up4;exact q H4 _ _ ⟨L,A,_,hb4,ok4,rfl,λb=>Iff.rfl⟩ (λz=>by rw[mem4,ef]) (fr.trans f4)
def vR (a l:Addr) (k n:Int) (ls:List (List Int)) (H:Hp):Nat->St->Hp->Prop:=λm σ H'=>∃(i:Nat),m=ls.length-i/\Same H H'/\H l=none/\σ=[some (.ref a),some (.int k),some (.int n),some (.ref l),some (.int (i:Int))]/\i<=ls.length/\H' l=some (.lst ((((ls.take i).flatten).filter λz=>decide (k<=z)).map V.int))
theorem lL (e:ls[i]?=some x):(ls.take (i+1)).flatten=(ls.take i).flatten++x:=by
 rw[zN,e,yD];simp
theorem nR (ls:List (List Int)) (i:Nat):ls.flatten=(ls.take i).flatten++(ls.drop i).flatten:=by rw[<-yD,zZ]
theorem gM (T:Txt K mg t):a6 P w K mg base CX0 2 t.dq t.cb ["self","key","most"] (gL K t):=by
 refine T.ql.okl sc_Leaves__from_on λ_ _ _ s H vs Q E hr h=>?_;obtain⟨a,k,n,F,ks,rfl,hA,hl,n0,q⟩:=h;refine⟨_,(af (ar (i:=3) sc_Leaves__from_on.nd rfl (Or.inl rfl) (bp ah))
   (af (ar (i:=4) sc_Leaves__from_on.nd rfl (Or.inl rfl) (br (pv 0) T.aM T.de (bT T) hr.mo T.dk .nil aF (aa (pv 1) ah)))
   (af (nu PassesOwn.never (PW.pt (fA (az hI (pv 4) (aB ax (by rfl) T.bE be (aa (aK (pv 0) rfl) ah)) (aD _)) (db (az hI (aB ax (by rfl) T.bE be (aa (pv 3) ah)) (pv 2) (aD _)))))
   (af (bq (bW zH PySem.F.slot_list_extend PySem.F.type_list_extend qH (pv 3) (aa (nG rfl (CScope.of (M:=["one"]) (N:=["self","key","most","told","at"]) (N':=["self","key","most","told","at"]) (dsc:=ao bB) rfl rfl (by decide+kernel)) (g6 (bu aP (aK (pv 0) rfl) (pv 4) (λ_ _=>rfl))) (λ_ _ _ _ _=>(az vF (pv 0) (pv 2) (aD _))) (λ_ _ _ _ _=>(pv 0))) ah)))
   (aj (wb (i:=4) sc_Leaves__from_on.nd rfl (Or.inl rfl) ai wD))))
   (aj (aC (aO a8 (pv 3) aX (aW (pv 2))))))))
  ,?_⟩
 obtain⟨L,A,ls,hb,ok,ef,hF⟩:=hA;refine⟨zF _,λl nl=>?_⟩;have s0:Same H (upd H l (.lst [])):=ak nl;have e0:upd H l (.lst []) l=some (.lst (([]:List Int).map V.int)):=ag;have hb0:=hb.same s0;generalize upd H l (.lst [])=H0 at s0 e0 hb0⊢;obtain⟨dx2,fs2,hi2,hm2⟩:=hb0.insM;refine⟨_,rfl,a,dx2,fs2,rfl,hi2,hm2 _ (by decide+kernel),_,rfl,a,k,L,A,ls,rfl,hb0,ok.ne,ok.up,λi0 li=>?_⟩;have f0:((ls.take i0).flatten).filter (λz=>decide (k<=z))=[]:=List.filter_eq_nil_iff.mpr λz hz=>by
  have:=qS ok li z hz;simpa using this
 have lA:((A.map V.ref).length:Int)=(ls.length:Int):=by rw[z8,hb.len]
 refine⟨vR a l k n ls H,⟨_,i0,rfl,s0,nl,rfl,li.le,by rw[f0];exact e0⟩,?_⟩;rintro m σ H' ⟨i,rfl,s1,_,rfl,il,e1⟩;have hb1:=hb.same s1;obtain⟨dx1,ho1⟩:=hb1.obj;have fin:∀(done:((((ls.take i).flatten).filter λz=>decide (k<=z)).take n.toNat)=(ks.filter λz=>decide (k<=z)).take n.toNat),∀p,H' p=none->Q (.ref p) (upd H' p (.lst (c8 ((((ls.take i).flatten).filter λz=>decide (k<=z)).map V.int) none (some n)))):=λdone p np=>by
  refine q _ p (s1.trans (ak np)) ?_ ?_
  .cases e:H p with
   |none=>rfl
   |some o=>rw[s1 _ _ e]at np;cases np
  .rw[ag,nY n0,<-yO,done]
 refine⟨_,rfl,_,rfl,a,_,dx1,_,_,rfl,ho1,T.aM,T.aA,dj,L,_,rfl,.inl (SqL.of hb1.lst),_,_,rfl,rfl,_,rfl,?_⟩;by_cases c:i<ls.length
 .refine iF (by rw[lA];lia) ?_;refine⟨_,rfl,l,_,rfl,.inl (SqL.of e1),_,rfl,_,_,rfl,rfl,_,rfl,?_⟩;by_cases c2:((((((ls.take i).flatten).filter λz=>decide (k<=z)).map V.int).length:Nat):Int)<n
  .refine iF c2 ?_;refine⟨λσ' H''=>∃m',m'<ls.length-i/\vR a l k n ls H m' σ' H'',λ_ _ h=>h,?_⟩;have ex:ls[i]?=some ls[i]:=zc c;obtain⟨b,eb,hbb⟩:=hb1.at ex;have lb:l≠b:=λz=>by
    obtain⟨b',eb',h'⟩:=hb.at ex;rw[eb]at eb';cases eb';rw[<-z,nl]at h';cases h'
   have fl1:=y3 (λz=>decide (k<=z)) (ls.take i).flatten;have fl2:(ls.take i).flatten.length+ls[i].length<=ks.length:=by
    rw[<-ef,nR ls (i+1),lL ex,zk,zk];lia
   refine⟨_,rfl,.inl ⟨rfl,_,SqL.of e1⟩,_,rfl,a,_,dx1,_,_,rfl,ho1,T.aM,T.aA,dj,_,rfl,L,_,_,_,rfl,rfl,SqL.of hb1.lst,hV eb,b,rfl,⟨_,SqL.of hbb⟩,λD hD=>?_⟩;generalize ls[i]=x at ex hbb fl2⊢;refine ki (K:=K) (a:=b) (xs:=x.map V.int) (λm ys H3=>H3=upd H' D (.lst ys)/\ys=((x.take m).filter (λz=>decide (k<=z))).map V.int) ⟨rfl,rfl⟩ (λm ys H3 _ w=>SqL.of (by rw[w.1,ae (am hbb hD)];exact hbb)) (λm v ys H3 hv w hDD=>?_) (λys H3 w hDD=>?_)
   .obtain⟨w1,w2⟩:=w;obtain⟨g,rfl,eg⟩:∃g:Int,v= .int g/\x[m]?=some g:=by
     rw[zD]at hv;cases e:x[m]? with
     |none=>rw[e]at hv;cases hv
     |some g=>rw[e]at hv;cases hv;exact⟨g,rfl,rfl⟩
    have hn:m<(x.map V.int).length:=(za.mp hv).1;refine⟨_,rfl,_,rfl,_,_,rfl,rfl,_,rfl,?_⟩;have fl:ys.length<=100000:=by
     rw[w2,z8];have h1:=y3 (λz=>decide (k<=z)) (x.take m);have h2:(x.take m).length<=x.length:=by rw[zu];lia
     lia
    by_cases cg:k<=g
    .refine iF cg ⟨_,rfl,CNext.mk hn hDD (bO fl) ⟨by rw[w1,cK],?_⟩⟩;rw[w2,zN,eg,yq,zo];simp[cg]
    .refine bH cg (CSkip.mk hn hDD ⟨w1,?_⟩);rw[w2,zN,eg,yq];simp[cg]
   .obtain⟨w1,w2⟩:=w;rw[z8,yC]at w2;have s3:Same H' H3:=by rw[w1];exact ak hD
    have e3:=s3 _ _ e1;have fle:=y3 (λz=>decide (k<=z)) x;have hsz:((((ls.take i).flatten).filter λz=>decide (k<=z)).map V.int).length+ys.length<=sizeLine:=by
     rw[w2,z8,z8];exact Q3 (bO (by lia))
    refine⟨l,D,_,_,rfl,rfl,e3,hDD,hsz,?_⟩;have hE:(((ls.take i).flatten).filter λz=>decide (k<=z)).map V.int++ys=(((ls.take (i+1)).flatten).filter λz=>decide (k<=z)).map V.int:=by
     rw[w2,lL ex,yq,zo]
    rw[hE];refine⟨_,rfl,_,_,rfl,rfl,_,?_,i+1,rfl,?_,nl,rfl,c,ag⟩
    .lia
    .exact ft (s1.trans s3) nl
  .refine bH c2 ?_;refine⟨_,rfl,_,rfl,_,rfl,l,_,rfl,SqL.of e1,fin ?_⟩;have:ks.filter (λz=>decide (k<=z))=((ls.take i).flatten).filter (λz=>decide (k<=z))++((ls.drop i).flatten).filter (λz=>decide (k<=z)):=by rw[<-ef,nR ls i,yq]
   rw[this,List.take_append_of_le_length];rw[z8]at c2;lia
 .refine bH (by rw[lA];lia) ?_;have ei:i=ls.length:=by lia
  subst ei;refine⟨_,rfl,_,rfl,_,rfl,l,_,rfl,SqL.of e1,fin ?_⟩;rw[yC,ef]
theorem m8:∀{a b:List Int},bX a->bX b->(∀z,z∈a↔z∈b)->a=b
 | [],[],_,_,_=>rfl
 | [],y::r,_,_,h=>by have:=(h y).mpr zi;cases this
 |x::r,[],_,_,h=>by have:=(h x).mp zi;cases this
 |x::r,y::r',ha,hb,h=>by
  obtain⟨a1,a2⟩:=yG.mp ha;obtain⟨b1,b2⟩:=yG.mp hb;have exy:x=y:=by
   rcases zh.mp ((h x).mp zi)with e|e
   .exact e
   .rcases zh.mp ((h y).mpr zi)with e2|e2
    .exact e2.symm
    .have h1:=b1 x e;have h2:=a1 y e2;lia
  subst exy;rw[m8 a2 b2 λz=>?_];constructor
  .intro hz;rcases zh.mp ((h z).mp (zj _ hz))with e|e
   .have:=a1 z hz;lia
   .exact e
  .intro hz;rcases zh.mp ((h z).mpr (zj _ hz))with e|e
   .have:=b1 z hz;lia
   .exact e
theorem LvA.rise (h:LvA K t H a F ks):bX ks:=by
 obtain⟨_,_,ls,_,ok,ef,_⟩:=h;rw[<-ef];exact ok.up
structure Mk1 where
 p:Addr
 mo:Int
 v:V
structure MkA (t:Adr) (H:Hp) (m l:Addr) (es:List Mk1):Prop where
 ob:∃dx,H m=some (.ins t.e8 dx [("made",.ref l)])
 li:H l=some (.lst (es.map λe=>V.ref e.p))
 tu:∀e∈es,H e.p=some (.tup [.int e.mo,e.v])
theorem MkA.keep {m l:Addr} {es:List Mk1} (h:MkA t H m l es) (e1:H' m=H m) (e2:H' l=H l) (tp:∀b xs,H b=some (.tup xs)->H' b=some (.tup xs)):MkA t H' m l es:=⟨h.ob.imp λ_ e=>e1.trans e,e2.trans h.li,λe he=>tp _ _ (h.tu e he)⟩
def js (t:Adr):Sp:=λvs H Q _=>∃(a dx:Addr),vs=[.ref a]/\H a=some (.ins t.e8 dx [])/\∀(H':Hp) (l:Addr),MkA t H' a l []->H l=none->(∀b o,b≠a->H b=some o->H' b=some o)->Q .non H'
theorem jX (T:Txt K mg t):a6 P w K mg base CX0 1 t.gB t.dM ["self"] (js t):=by
 refine T.tW.okl jF λ_ _ _ s H vs Q E hr h=>?_;obtain⟨a,dx,rfl,ha,q⟩:=h;refine⟨_,(aj (bS (pv 0) (bp ah) rfl))
  ,?_⟩
 refine⟨zF _,λl nl=>⟨_,rfl,a,_,dx,[],rfl,(by rw[ae (am ha nl)];exact ha),T.oh,T.kN,(by show 0<1000;decide),?_⟩⟩;have na:a≠l:=am ha nl;exact q _ l ⟨⟨dx,ag⟩,by rw[ae na.symm];exact ag,λe he=>by cases he⟩ nl λb o n e=>by rw[ae n,ae (am e nl)];exact e
def jr (t:Adr):Sp:=λvs H Q _=>∃(m l:Addr) (es:List Mk1) (mo:Int) (v:V),vs=[.ref m,.int mo,v]/\MkA t H m l es/\es.length<100000/\
 ∀(H':Hp) (p:Addr),MkA t H' m l (es++ [⟨p,mo,v⟩])->H p=none->(∀b o,b≠l->H b=some o->H' b=some o)->Q .non H'
theorem jW (T:Txt K mg t):a6 P w K mg base CX0 1 t.gA t.dJ ["self","moment","value"] (jr t):=by
 refine T.tV.okl jE λ_ _ _ s H vs Q E hr h=>?_;obtain⟨m,l,es,mo,v,rfl,M,le,q⟩:=h;refine⟨_,(aj (bq (bW zH zP zQ cn (aK (pv 0) rfl) (aa (oN (aa (pv 1) (aa (pv 2) ah))) ah))))
  ,?_⟩
 obtain⟨dx,ho⟩:=M.ob;refine⟨_,rfl,m,_,dx,_,_,rfl,ho,T.oh,T.kN,rfl,.inl ⟨rfl,_,SqL.of M.li⟩,_,rfl,_,rfl,(by show 2<=sizeLine;decide),λp np=>?_⟩;have s1:=ak (o:= .tup [.int mo,v]) np;have pl:p≠l:=λz=>by rw[z,M.li]at np;cases np
 have lm:m≠l:=λz=>by have:=M.li;rw[<-z,ho]at this;cases this
 refine⟨l,_,_,rfl,rfl,s1 _ _ M.li,bO (by rw[z8];lia),?_⟩;refine q _ p ⟨⟨dx,by rw[ae lm];exact s1 _ _ ho⟩,by rw[ag,zo];rfl,λe he=>?_⟩ np λb o n e=>by rw[ae n];exact s1 _ _ e
 rcases zd.mp he with he|he
 .have te:=s1 _ _ (M.tu e he);rw[ae (λz=>by rw[z,s1 _ _ M.li]at te;cases te)];exact te
 .rw[zf.mp he];rw[ae pl];exact ag
section
theorem SlA.notup (h:SlA K t H a F st) (e:H b=some (.tup xs)):¬F b:=λhb=>by
 obtain⟨d,h1,h2,_⟩:=h;obtain⟨dx,ho⟩:=h1.obj;have no:∀o,H b=some o->(∀ys,o≠ .tup ys)->False:=λo q n=>by rw[e]at q;exact n _ (Option.some.inj q).symm
 rcases(h2 b).mp hb with rfl|rfl|rfl|hb|⟨hs,rfl⟩|hb
 .exact no _ ho (λ_ z=>by cases z)
 .exact no _ h1.tbl (λ_ z=>by cases z)
 .exact no _ h1.row0.lst (λ_ z=>by cases z)
 .obtain⟨_,_,_,_,q⟩:=h1.row0.has hb;exact no _ q (λ_ z=>by cases z)
 .have r1:=h1.row1;cases en:st.nxt with
  |none=>rw[en]at hs;cases hs
  |some m=>rw[en]at r1;exact no _ r1.lst (λ_ z=>by cases z)
 .have r1:=h1.row1;cases en:st.nxt with
  |none=>rw[en]at r1;rw[r1.1]at hb;cases hb
  |some m=>
   rw[en]at r1;obtain⟨_,_,_,_,q⟩:=r1.has hb;exact no _ q (λ_ z=>by cases z)
theorem LvA.notup (h:LvA K t H a F ks) (e:H b=some (.tup xs)):¬F b:=λhb=>by
 obtain⟨L,A,ls,h1,_,_,h2⟩:=h;obtain⟨dx,ho⟩:=h1.obj;have no:∀o,H b=some o->(∀ys,o≠ .tup ys)->False:=λo q n=>by rw[e]at q;exact n _ (Option.some.inj q).symm
 rcases(h2 b).mp hb with rfl|rfl|hb
 .exact no _ ho (λ_ z=>by cases z)
 .exact no _ h1.lst (λ_ z=>by cases z)
 .obtain⟨_,_,_,_,q⟩:=h1.has hb;exact no _ q (λ_ z=>by cases z)
end
structure Pk where
 k:Int
 m:Addr
 l:Addr
 es:List Mk1
structure HSt where
 now:Int
 fl:Int
 ma:Int
 st:SSt
 ks:List Int
 di:List (Addr×List V)
 pa:List Pk
 ho:List (Int×V)
def cc:List Pk->Int->List Mk1
 | [],_=> []
 |e::r,k=>if e.k=k then e.es else cc r k
def paD (pa:List Pk):List (Int×V):=pa.map λe=>(e.k,V.ref e.m)
def hoF (now fl:Int) (s l w:Addr) (mk:Int) (p h:Addr):List (Str×V):=[("now",.int now),("floor",.int fl),("slots",.ref s),("leaves",.ref l),("written",.ref w),("marks",.int mk),("past",.ref p),("holders",.ref h)]
def NoH (m:Str):Prop:=m≠("now":Str)/\m≠("floor":Str)/\m≠("slots":Str)/\m≠("leaves":Str)/\m≠("written":Str)/\m≠("marks":Str)/\m≠("past":Str)/\m≠("holders":Str)
instance {m:Str}:Decidable (NoH m):=by unfold NoH;infer_instance
section
variable {now now' fl mk mk':Int} {s l w h:Addr} {m:Str}
theorem jg:(hoF now fl s l w mk p h).lookup ("now":Str)=some (.int now):=cM
theorem wH:(hoF now fl s l w mk p h).lookup ("floor":Str)=some (.int fl):=by unfold hoF;rw[bi (by decide+kernel),cM]
theorem mE:(hoF now fl s l w mk p h).lookup ("slots":Str)=some (.ref s):=by unfold hoF;rw[bi (by decide+kernel),bi (by decide+kernel),cM]
theorem pd:(hoF now fl s l w mk p h).lookup ("leaves":Str)=some (.ref l):=by unfold hoF;rw[bi (by decide+kernel),bi (by decide+kernel),bi (by decide+kernel),cM]
theorem wF:(hoF now fl s l w mk p h).lookup ("written":Str)=some (.ref w):=by unfold hoF;rw[bi (by decide+kernel),bi (by decide+kernel),bi (by decide+kernel),bi (by decide+kernel),cM]
theorem wG:(hoF now fl s l w mk p h).lookup ("past":Str)=some (.ref p):=by unfold hoF;rw[bi (by decide+kernel),bi (by decide+kernel),bi (by decide+kernel),bi (by decide+kernel),bi (by decide+kernel),bi (by decide+kernel),cM]
theorem vJ (n:NoH m):(hoF now fl s l w mk p h).lookup m=none:=by
 obtain⟨h1,h2,h3,h4,h5,h6,h7,h8⟩:=n;unfold hoF;rw[bi h1,bi h2,bi h3,bi h4,bi h5,bi h6,bi h7,bi h8];rfl
theorem ut:aV ("now":Str) (.int now') (hoF now fl s l w mk p h)=hoF now' fl s l w mk p h:=by unfold hoF;rw[aV,if_pos rfl]
theorem uP:(hoF now fl s l w mk p h).length<1000:=by show 8<1000;decide
end
def Ow (a w p h:Addr) (pa:List Pk):Addr->Prop:=λb=>b=a\/b=w\/b=p\/b=h\/∃e∈pa,b=e.m\/b=e.l
structure HoO (t:Adr) (H:Hp) (a s l w p h:Addr) (x:HSt):Prop where
 ob:∃dx,H a=some (.ins t.av dx (hoF x.now x.fl s l w x.ma p h))
 wr:H w=some (.lst (x.di.map λe=>V.ref e.1))
 dr:∀e∈x.di,H e.1=some (.tup e.2)
 pa:H p=some (.dK (aT (paD x.pa)))
 ho:H h=some (.dK (aT x.ho))
 mx:∀e∈x.pa,MkA t H e.m e.l e.es
 ph:p≠h
 wl:∀e∈x.pa,e.l≠w
 kd:(x.pa.map (·.k)).Nodup
 md:(x.pa.map (·.m)).Nodup
 ld:(x.pa.map (·.l)).Nodup
theorem ug {t u:TS} (M:St->Hp->Prop) (h1:∀nx,(∀σ' H',M σ' H'->nx σ' H')->t {D with nx:=nx} σ H) (h2:∀σ' H',M σ' H'->u D σ' H'):t9 t u D σ H:=h1 (u D) h2
theorem b5:aV f v []=[(f,v)]:=rfl
theorem aI {g:Str} {x:V} {r:List (Str×V)} (n:g≠f):aV f v ((g,x)::r)=(g,x)::aV f v r:=by rw[aV,if_neg n]
theorem uR {H2:Hp} (s:Same H H2) (n:H2 p=none):H p=none:=by
 cases e:H p with
 |none=>rfl
 |some o=>rw[s _ _ e]at n;cases n
theorem si {f:α->β} {l:List α} (n:(l.map f).Nodup) {x y:α} (hx:x∈l) (hy:y∈l) (e:f x=f y):x=y:=by
 induction l with
 |nil=>cases hx
 |cons z r ih=>
  obtain⟨n1,n2⟩:=zT.mp n;rcases zh.mp hx with rfl|hx'<;>rcases zh.mp hy with rfl|hy'
  .rfl
  .exact absurd (zx.mpr ⟨y,hy',e.symm⟩) n1
  .exact absurd (zx.mpr ⟨x,hx',e⟩) n1
  .exact ih n2 hx' hy'
section
variable {s l w h q:Addr} {x:HSt} {pa:List Pk} {y:Mk1}
theorem HoO.dom (A:HoO t H a s l w p h x) (hb:Ow a w p h x.pa b):∃o,H b=some o/\∀ys,o≠ .tup ys:=by
 obtain⟨dx,ho⟩:=A.ob;rcases hb with rfl|rfl|rfl|rfl|⟨e,he,rfl|rfl⟩
 .exact⟨_,ho,λ_ z=>by cases z⟩
 .exact⟨_,A.wr,λ_ z=>by cases z⟩
 .exact⟨_,A.pa,λ_ z=>by cases z⟩
 .exact⟨_,A.ho,λ_ z=>by cases z⟩
 .obtain⟨dy,hm⟩:=(A.mx e he).ob;exact⟨_,hm,λ_ z=>by cases z⟩
 .exact⟨_,(A.mx e he).li,λ_ z=>by cases z⟩
theorem HoO.keep (A:HoO t H a s l w p h x) (g:∀b,Ow a w p h x.pa b->H' b=H b) (tp:∀b xs,H b=some (.tup xs)->H' b=some (.tup xs)):HoO t H' a s l w p h x:=
 ⟨A.ob.imp λ_ e=>(g a (.inl rfl)).trans e,(g w (.inr (.inl rfl))).trans A.wr,λe he=>tp _ _ (A.dr e he),(g p (.inr (.inr (.inl rfl)))).trans A.pa,(g h (.inr (.inr (.inr (.inl rfl))))).trans A.ho,
  λe he=>(A.mx e he).keep (g _ (.inr (.inr (.inr (.inr ⟨e,he,.inl rfl⟩))))) (g _ (.inr (.inr (.inr (.inr ⟨e,he,.inr rfl⟩))))) tp,A.ph,A.wl,A.kd,A.md,A.ld⟩
theorem HoO.same (A:HoO t H a s l w p h x) (m:Same H H'):HoO t H' a s l w p h x:=A.keep (λb hb=>by
 obtain⟨o,e,_⟩:=A.dom hb;rw[e];exact m _ _ e) λb xs e=>m _ _ e
theorem HoO.set (A:HoO t H a s l w p h x) {now mk:Int} {fl:Int}:HoO t (upd H a (.ins t.av dx (hoF now fl s l w mk p h))) a s l w p h {x with now:=now,fl:=fl,ma:=mk}:=by
 obtain⟨dy,ho⟩:=A.ob;have n:∀{b:Addr} {o:HO},H b=some o->(∀c d fs,o= .ins c d fs->fs.length=1)->b≠a:=λe i z=>by
  rw[z,ho]at e;have:=i _ _ _ (Option.some.inj e).symm;cases this
 have nt:∀{b:Addr} {o:HO},H b=some o->(∀c d fs,o≠ .ins c d fs)->b≠a:=λe i=>n e λc d fs z=>absurd z (i c d fs);refine⟨⟨dx,ag⟩,by rw[ae (nt A.wr λ_ _ _ z=>by cases z)];exact A.wr,λe he=>by rw[ae (nt (A.dr e he) λ_ _ _ z=>by cases z)];exact A.dr e he,by rw[ae (nt A.pa λ_ _ _ z=>by cases z)];exact A.pa,
  by rw[ae (nt A.ho λ_ _ _ z=>by cases z)];exact A.ho,λe he=>?_,A.ph,A.wl,A.kd,A.md,A.ld⟩
 have M:=A.mx e he;obtain⟨dm,hm⟩:=M.ob;exact M.keep (ae (n hm λ_ _ _ z=>by cases z;rfl)) (ae (nt M.li λ_ _ _ z=>by cases z)) λb xs e=>by rw[ae (nt e λ_ _ _ z=>by cases z)];exact e
theorem HoO.row (A:HoO t H a s l w p h x) (hr:H r=some (.tup xs)):HoO t (upd H w (.lst (x.di.map (λe=>V.ref e.1)++ [.ref r]))) a s l w p h {x with di:=x.di++ [(r,xs)]}:=by
 obtain⟨dy,ho⟩:=A.ob;have nt:∀{b:Addr} {o:HO},H b=some o->(∀ys,o≠ .lst ys)->b≠w:=λe i z=>by
  rw[z,A.wr]at e;exact i _ (Option.some.inj e).symm
 refine⟨⟨dy,by rw[ae (nt ho λ_ z=>by cases z)];exact ho⟩,by rw[ag,zo];rfl,λe he=>?_,by rw[ae (nt A.pa λ_ z=>by cases z)];exact A.pa,by rw[ae (nt A.ho λ_ z=>by cases z)];exact A.ho,λe he=>?_,A.ph,A.wl,A.kd,A.md,A.ld⟩
 .rcases zd.mp he with he|he
  .rw[ae (nt (A.dr e he) λ_ z=>by cases z)];exact A.dr e he
  .rw[zf.mp he,ae (nt hr λ_ z=>by cases z)];exact hr
 .have M:=A.mx e he;obtain⟨dm,hm⟩:=M.ob;exact M.keep (ae (nt hm λ_ z=>by cases z)) (ae (A.wl e he)) λb xs e=>by rw[ae (nt e λ_ z=>by cases z)];exact e
def paN (pa:List Pk) (k:Int) (y:Mk1):List Pk:=pa.map λe=>if e.k=k then{e with es:=e.es++ [y]}else e
theorem k8 {f:Pk->β} (hf:∀e es,f {e with es:=es}=f e):(paN pa k y).map f=pa.map f:=by
 unfold paN;rw[Qk];refine yR λe _=>?_;show f (if e.k=k then _ else e)=_;split
 .exact hf _ _
 .rfl
theorem mf {e:Pk} (h:e∈paN pa k y):∃g∈pa,e.k=g.k/\e.m=g.m/\e.l=g.l/\((g.k=k/\e.es=g.es++ [y])\/(g.k≠k/\e.es=g.es)):=by
 obtain⟨g,hg,rfl⟩:=zx.mp h;refine⟨g,hg,?_⟩;split
 .rename_i c;exact⟨rfl,rfl,rfl,.inl ⟨c,rfl⟩⟩
 .rename_i c;exact⟨rfl,rfl,rfl,.inr ⟨c,rfl⟩⟩
theorem wm (hb:Ow a w p h (paN pa k y) b):Ow a w p h pa b:=by
 rcases hb with z|z|z|z|⟨e,he,z⟩
 .exact .inl z
 .exact .inr (.inl z)
 .exact .inr (.inr (.inl z))
 .exact .inr (.inr (.inr (.inl z)))
 .obtain⟨g,hg,_,e2,e3,_⟩:=mf he;rw[e2,e3]at z;exact .inr (.inr (.inr (.inr ⟨g,hg,z⟩)))
theorem HoO.noted (A:HoO t H a s l w p h x) {e:Pk} (he:e∈x.pa) (ek:e.k=k) (M:MkA t H' e.m e.l (e.es++ [y])) (kp:∀b o,b≠e.l->H b=some o->H' b=some o):HoO t H' a s l w p h {x with pa:=paN x.pa k y}:=by
 obtain⟨dy,ho⟩:=A.ob;have hl:=(A.mx e he).li;have nt:∀{b:Addr} {o:HO},H b=some o->(∀ys,o≠ .lst ys)->H' b=some o:=λe i=>kp _ _ (λz=>by
  rw[z,hl]at e;exact i _ (Option.some.inj e).symm) e
 refine⟨⟨dy,nt ho (λ_ z=>by cases z)⟩,kp _ _ (A.wl e he).symm A.wr,λe he=>nt (A.dr e he) (λ_ z=>by cases z),?_,nt A.ho (λ_ z=>by cases z),λf hf=>?_,A.ph,λf hf=>?_,?_,?_,?_⟩
 .show H' p=some (.dK (aT (paD (paN x.pa k y))));unfold paD;rw[k8 λ_ _=>rfl];exact nt A.pa λ_ z=>by cases z
 .obtain⟨g,hg,e1,e2,e3,⟨c,e4⟩|⟨c,e4⟩⟩:=mf hf
  .have:g=e:=si A.kd hg he (c.trans ek.symm);subst this;rw[e2,e3,e4];exact M
  .have M2:=A.mx g hg;obtain⟨dm,hm⟩:=M2.ob;rw[e2,e3,e4];exact M2.keep ((nt hm λ_ z=>by cases z).trans hm.symm) ((kp _ _ (λz=>c (by rw[si A.ld hg he z];exact ek)) M2.li).trans M2.li.symm) λb xs e=>nt e λ_ z=>by cases z
 .obtain⟨g,hg,_,_,e3,_⟩:=mf hf;rw[e3];exact A.wl g hg
 .show((paN x.pa k y).map (·.k)).Nodup;rw[k8 λ_ _=>rfl];exact A.kd
 .show((paN x.pa k y).map (·.m)).Nodup;rw[k8 λ_ _=>rfl];exact A.md
 .show((paN x.pa k y).map (·.l)).Nodup;rw[k8 λ_ _=>rfl];exact A.ld
theorem pO (pa:List Pk) (k:Int):(aJ (paD pa) k=none/\k∉pa.map (·.k))\/∃e∈pa,e.k=k/\aJ (paD pa) k=some (.ref e.m)/\cc pa k=e.es:=by
 induction pa with
 |nil=>exact .inl ⟨jj,λz=>by cases z⟩
 |cons e r ih=>
  show(aJ ((e.k,V.ref e.m)::paD r) k=none/\_)\/∃g∈e::r,g.k=k/\aJ ((e.k,V.ref e.m)::paD r) k=_/\(if e.k=k then e.es else cc r k)=_;by_cases c:e.k=k
  .exact .inr ⟨e,zi,c,a9 c,if_pos c⟩
  .rw[ba c,if_neg c];rcases ih with⟨i1,i2⟩|⟨g,hg,i1,i2,i3⟩
   .refine .inl ⟨i1,λz=>?_⟩;rw[zr]at z;rcases zh.mp z with z|z
    .exact c z.symm
    .exact i2 z
   .exact .inr ⟨g,zj _ hg,i1,i2,i3⟩
theorem lu:∀{pa:List Pk},k∉pa.map (·.k)->cc pa k=[]
 | [],_=>rfl
 |e::r,n=>by
  rw[zr]at n;show(if e.k=k then e.es else cc r k)=[];rw[if_neg λz=>n (by rw[z];exact zi)];exact lu λz=>n (zj _ z)
theorem hU {j:Int}:∀{pa:List Pk},k∈pa.map (·.k)->cc (paN pa k y) j=if j=k then cc pa k++ [y]else cc pa j
 |e::r,n=>by
  show(if(if e.k=k then{e with es:=e.es++ [y]}else e:Pk).k=j then(if e.k=k then{e with es:=e.es++ [y]}else e:Pk).es else cc (paN r k y) j)=if j=k then(if e.k=k then e.es else cc r k)++ [y]else(if e.k=j then e.es else cc r j)
  by_cases c:e.k=k
  .rw[if_pos c,if_pos c];show(if e.k=j then e.es++ [y]else cc (paN r k y) j)=_;by_cases d:j=k
   .rw[if_pos d,if_pos (c.trans d.symm)]
   .rw[if_neg d,if_neg λz=>d (z.symm.trans c),if_neg λz=>d (z.symm.trans c)];by_cases m:k∈r.map (·.k)
    .rw[hU m,if_neg d]
    .have:paN r k y=r:=by
      unfold paN
      conv=>rhs;rw[<-List.map_id r]
      refine yR λg hg=>if_neg λz=>m ?_;rw[<-z];exact zx.mpr ⟨g,hg,rfl⟩
     rw[this]
  .rw[if_neg c,if_neg c];have m:k∈r.map (·.k):=by
    rw[zr]at n;rcases zh.mp n with z|z
    .exact absurd z.symm c
    .exact z
   rw[hU m];by_cases d:j=k
   .rw[if_pos d,if_pos d,if_neg λz=>c (z.trans d)]
   .rw[if_neg d,if_neg d]
theorem j6 {e:Pk} {j:Int}:∀{pa:List Pk},e.k∉pa.map (·.k)->cc (pa++ [e]) j=if j=e.k then e.es else cc pa j
 | [],_=>by
  show(if e.k=j then e.es else[])=if j=e.k then e.es else[]
  by_cases c:e.k=j
  .rw[if_pos c,if_pos c.symm]
  .rw[if_neg c,if_neg (Ne.symm c)]
 |g::r,n=>by
  rw[zr]at n;show(if g.k=j then g.es else cc (r++ [e]) j)=if j=e.k then e.es else(if g.k=j then g.es else cc r j)
  rw[j6 λz=>n (zj _ z)];by_cases c:g.k=j
  .rw[if_pos c,if_pos c,if_neg λz=>n (by rw[<-z,<-c];exact zi)]
  .rw[if_neg c,if_neg c]
theorem HoO.newk (A:HoO t H a s l w p h x) {m g:Addr} (nk:k∉x.pa.map (·.k)) (M:MkA t H m g []) (n1:¬Ow a w p h x.pa m) (n2:¬Ow a w p h x.pa g):HoO t (upd H p (.dK (aT (paD x.pa++ [(k,.ref m)])))) a s l w p h {x with pa:=x.pa++ [⟨k,m,g,[]⟩]}:=by
 obtain⟨dy,ho⟩:=A.ob;have nt:∀{b:Addr} {o:HO},H b=some o->(∀ys,o≠ .dK ys)->b≠p:=λe i z=>by
  rw[z,A.pa]at e;exact i _ (Option.some.inj e).symm
 have kp:∀{m' l':Addr} {es:List Mk1} {o:HO},MkA t H m' l' es->MkA t (upd H p o) m' l' es:=λM=>by
  obtain⟨dm,hm⟩:=M.ob;exact M.keep (ae (nt hm λ_ z=>by cases z)) (ae (nt M.li λ_ z=>by cases z)) λb xs e=>by rw[ae (nt e λ_ z=>by cases z)];exact e
 refine⟨⟨dy,by rw[ae (nt ho λ_ z=>by cases z)];exact ho⟩,by rw[ae (nt A.wr λ_ z=>by cases z)];exact A.wr,λe he=>by rw[ae (nt (A.dr e he) λ_ z=>by cases z)];exact A.dr e he,?_,by rw[ae A.ph.symm];exact A.ho,λe he=>?_,A.ph,λe he=>?_,?_,?_,?_⟩
 .rw[ag];show _=some (HO.dK (aT (paD (x.pa++ [⟨k,m,g,[]⟩]))));unfold paD;rw[zo];rfl
 .rcases zd.mp he with he|he
  .exact kp (A.mx e he)
  .rw[zf.mp he];exact kp M
 .rcases zd.mp he with he|he
  .exact A.wl e he
  .rw[zf.mp he];exact λz=>n2 (.inr (.inl z))
 all_goals
  rw[zo];refine List.nodup_append.mpr ⟨?_,by simp,λu hu v hv z=>?_⟩
 .exact A.kd
 .cases zf.mp hv;rw[z]at hu;exact nk hu
 .exact A.md
 .cases zf.mp hv;obtain⟨e,he,ee⟩:=zx.mp hu;exact n1 (.inr (.inr (.inr (.inr ⟨e,he,.inl (z.symm.trans ee.symm)⟩))))
 .exact A.ld
 .cases zf.mp hv;obtain⟨e,he,ee⟩:=zx.mp hu;exact n2 (.inr (.inr (.inr (.inr ⟨e,he,.inr (z.symm.trans ee.symm)⟩))))
end
structure Noted (pa pa':List Pk) (k:Int) (y:Mk1):Prop where
 of:∀j,cc pa' j=if j=k then cc pa k++ [y]else cc pa j
 ky:pa'.map (·.k)=if k∈pa.map (·.k)then pa.map (·.k)else pa.map (·.k)++ [k]
structure HoB (K:PySem.W.Frag) (t:Adr) (H:Hp) (a s l w p h:Addr) (Fs Fl:Addr->Prop) (x:HSt):Prop where
 o:HoO t H a s l w p h x
 sl:SlA K t H s Fs x.st
 lv:LvA K t H l Fl x.ks
 a1:∀b,Fs b->¬Fl b
 a2:∀b,Ow a w p h x.pa b->¬Fs b
 a3:∀b,Ow a w p h x.pa b->¬Fl b
def HoF (a w p h:Addr) (Fs Fl:Addr->Prop) (pa:List Pk):Addr->Prop:=λb=>Fs b\/Fl b\/Ow a w p h pa b
section
variable {s l w h:Addr} {Fs Fs' Fl Fl':Addr->Prop} {x x':HSt}
theorem HoB.slots (B:HoB K t H a s l w p h Fs Fl x) (S:SlA K t H' s Fs' st) (f:Fr Fs Fs' H H'):HoB K t H' a s l w p h Fs' Fl {x with st:=st}/\Fr (HoF a w p h Fs Fl x.pa) (HoF a w p h Fs' Fl x.pa) H H':=by
 have k1:∀b,Fl b->H' b=H b/\¬Fs' b:=λb hb=>by
  obtain⟨o,e⟩:=B.lv.dom hb;have:=f b o (λz=>B.a1 b z hb) e;exact⟨this.1.trans e.symm,this.2⟩
 have k2:∀b,Ow a w p h x.pa b->H' b=H b/\¬Fs' b:=λb hb=>by
  obtain⟨o,e,_⟩:=B.o.dom hb;have:=f b o (B.a2 b hb) e;exact⟨this.1.trans e.symm,this.2⟩
 have O:=B.o.keep (H':=H') (λb hb=>(k2 b hb).1) λb xs e=>(f b _ (B.sl.notup e) e).1;exact⟨⟨⟨O.ob,O.wr,O.dr,O.pa,O.ho,O.mx,O.ph,O.wl,O.kd,O.md,O.ld⟩,S,B.lv.frame λb hb=>(k1 b hb).1,λb h1 h2=>(k1 b h2).2 h1,λb hb=>(k2 b hb).2,B.a3⟩,λb o n e=>⟨(f b o (λz=>n (.inl z)) e).1,λz=>z.elim (f b o (λz=>n (.inl z)) e).2 λz=>n (.inr z)⟩⟩
theorem HoB.leaves (B:HoB K t H a s l w p h Fs Fl x) (S:LvA K t H' l Fl' ks) (f:Fr Fl Fl' H H'):HoB K t H' a s l w p h Fs Fl' {x with ks:=ks}/\Fr (HoF a w p h Fs Fl x.pa) (HoF a w p h Fs Fl' x.pa) H H':=by
 have k1:∀b,Fs b->H' b=H b/\¬Fl' b:=λb hb=>by
  obtain⟨o,e⟩:=B.sl.dom hb;have:=f b o (B.a1 b hb) e;exact⟨this.1.trans e.symm,this.2⟩
 have k2:∀b,Ow a w p h x.pa b->H' b=H b/\¬Fl' b:=λb hb=>by
  obtain⟨o,e,_⟩:=B.o.dom hb;have:=f b o (B.a3 b hb) e;exact⟨this.1.trans e.symm,this.2⟩
 have O:=B.o.keep (H':=H') (λb hb=>(k2 b hb).1) λb xs e=>(f b _ (B.lv.notup e) e).1;exact⟨⟨⟨O.ob,O.wr,O.dr,O.pa,O.ho,O.mx,O.ph,O.wl,O.kd,O.md,O.ld⟩,B.sl.frame λb hb=>(k1 b hb).1,S,λb h1=>(k1 b h1).2,B.a2,λb hb=>(k2 b hb).2⟩,λb o n e=>⟨(f b o (λz=>n (.inr (.inl z))) e).1,λz=>z.elim (λz=>n (.inl z)) λz=>z.elim (f b o (λz=>n (.inr (.inl z))) e).2 λz=>n (.inr (.inr z))⟩⟩
theorem HoB.own (B:HoB K t H a s l w p h Fs Fl x) (O:HoO t H' a s l w p h x') (e1:x'.st=x.st) (e2:x'.ks=x.ks) (f:Fr (Ow a w p h x.pa) (Ow a w p h x'.pa) H H'):HoB K t H' a s l w p h Fs Fl x'/\Fr (HoF a w p h Fs Fl x.pa) (HoF a w p h Fs Fl x'.pa) H H':=by
 have k1:∀b,Fs b->H' b=H b/\¬Ow a w p h x'.pa b:=λb hb=>by
  obtain⟨o,e⟩:=B.sl.dom hb;have:=f b o (λz=>B.a2 b z hb) e;exact⟨this.1.trans e.symm,this.2⟩
 have k2:∀b,Fl b->H' b=H b/\¬Ow a w p h x'.pa b:=λb hb=>by
  obtain⟨o,e⟩:=B.lv.dom hb;have:=f b o (λz=>B.a3 b z hb) e;exact⟨this.1.trans e.symm,this.2⟩
 exact⟨⟨O,by rw[e1];exact B.sl.frame λb hb=>(k1 b hb).1,by rw[e2];exact B.lv.frame λb hb=>(k2 b hb).1,B.a1,λb h1 h2=>(k1 b h2).2 h1,λb h1 h2=>(k2 b h2).2 h1⟩,λb o n e=>⟨(f b o (λz=>n (.inr (.inr z))) e).1,λz=>z.elim (λz=>n (.inl z)) λz=>z.elim (λz=>n (.inr (.inl z))) (f b o (λz=>n (.inr (.inr z))) e).2⟩⟩
theorem HoB.dom (B:HoB K t H a s l w p h Fs Fl x) (hb:HoF a w p h Fs Fl x.pa b):∃o,H b=some o/\∀ys,o≠ .tup ys:=by
 have no:∀F:Addr->Prop,F b->(∀xs,H b=some (.tup xs)->¬F b)->∀o,H b=some o->∃o,H b=some o/\∀ys,o≠ .tup ys:=λF hF n o e=>⟨o,e,λys z=>n ys (by rw[e,z]) hF⟩;rcases hb with hb|hb|hb
 .obtain⟨o,e⟩:=B.sl.dom hb;exact no Fs hb (λxs e=>B.sl.notup e) o e
 .obtain⟨o,e⟩:=B.lv.dom hb;exact no Fl hb (λxs e=>B.lv.notup e) o e
 .exact B.o.dom hb
theorem HoB.keep (B:HoB K t H a s l w p h Fs Fl x) (g:∀b,HoF a w p h Fs Fl x.pa b->H' b=H b) (tp:∀b xs,H b=some (.tup xs)->H' b=some (.tup xs)):HoB K t H' a s l w p h Fs Fl x:=
 ⟨B.o.keep (λb hb=>g b (.inr (.inr hb))) tp,B.sl.frame λb hb=>g b (.inl hb),B.lv.frame λb hb=>g b (.inr (.inl hb)),B.a1,B.a2,B.a3⟩
end
structure HOk (x:HSt):Prop where
 ks:∀z,z∈x.ks↔(aJ x.st.kv z).isSome=true
 n0:0<=x.now
 m0:0<=x.ma
 dl:(x.di.length:Int)=x.now+x.ma
 pl:(x.pa.length:Int)<=x.now
 el:∀j,((cc x.pa j).length:Int)<=x.now
 sl:(x.st.kv.length:Int)<=x.now
 hn:(x.ho.map (·.1)).Nodup
 hv:∀p∈x.ho,x.fl<=p.1/\p.1<=x.now/\∃n:Int,p.2= .int n/\0<n
 fb:0<=x.fl/\x.fl<=x.now
 up:∀j,(cc x.pa j).Pairwise (λa b=>a.mo<b.mo)/\∀y∈cc x.pa j,y.mo<=x.now
def HoA (K:PySem.W.Frag) (t:Adr) (H:Hp) (a:Addr) (F:Addr->Prop) (x:HSt):Prop:=∃s l w p h Fs Fl,HoB K t H a s l w p h Fs Fl x/\HOk x/\∀b,F b↔HoF a w p h Fs Fl x.pa b
section
variable {q:Addr} {x:HSt}
theorem HoA.ins (A:HoA K t H a F x):∃dx fs,H a=some (.ins t.av dx fs)/\(∀m,NoH m->fs.lookup m=none)/\fs.lookup ("now":Str)=some (.int x.now)/\fs.lookup ("floor":Str)=some (.int x.fl):=by
 obtain⟨s,l,w,p,h,Fs,Fl,B,_⟩:=A;obtain⟨dx,e⟩:=B.o.ob;exact⟨dx,_,e,λm hm=>vJ hm,jg,wH⟩
theorem HoA.ok (A:HoA K t H a F x):HOk x:=by
 obtain⟨s,l,w,p,h,Fs,Fl,B,O,_⟩:=A;exact O
theorem HoA.dom (A:HoA K t H a F x) (hb:F b):∃o,H b=some o/\∀ys,o≠ .tup ys:=by
 obtain⟨s,l,w,p,h,Fs,Fl,B,_,g⟩:=A;exact B.dom ((g b).mp hb)
theorem HoA.out (A:HoA K t H a F x) (e:H b=none):¬F b:=λz=>by
 obtain⟨o,q,_⟩:=A.dom z;rw[q]at e;cases e
theorem HoA.keep (A:HoA K t H a F x) (g:∀b,F b->H' b=H b) (tp:∀b xs,H b=some (.tup xs)->H' b=some (.tup xs)):HoA K t H' a F x:=by
 obtain⟨s,l,w,p,h,Fs,Fl,B,O,f⟩:=A;exact⟨s,l,w,p,h,Fs,Fl,B.keep (λb hb=>g b ((f b).mpr hb)) tp,O,f⟩
theorem HoA.same (A:HoA K t H a F x) (m:Same H H'):HoA K t H' a F x:=A.keep (λb hb=>by
 obtain⟨o,e,_⟩:=A.dom hb;rw[e];exact m _ _ e) λb xs e=>m _ _ e
theorem HoA.upd (A:HoA K t H a F x) (n:¬F q) (nt:∀xs,H q≠some (.tup xs)):HoA K t (L2.upd H q o) a F x:=A.keep (λb hb=>ae λz=>n (z▸hb)) λb xs e=>by rw[ae λz=>nt xs (by rw[<-z];exact e)];exact e
end
def jx (t:Adr):Sp:=λvs H Q _=>∃(a s l w p h r:Addr) (k:Int) (x:HSt) (v:V) (xs:List V),vs=[.ref a,.ref r,v]/\HoO t H a s l w p h x/\H r=some (.tup xs)/\atI xs 1=some (.int k)/\x.di.length<50000/\x.pa.length<50000/\(cc x.pa k).length<50000/\
 ∀(H':Hp) (pa':List Pk) (q:Addr),HoO t H' a s l w p h {x with now:=x.now+1,di:=x.di++ [(r,xs)],pa:=pa'}->Noted x.pa pa' k ⟨q,x.now+1,v⟩->Fr (Ow a w p h x.pa) (Ow a w p h pa') H H'->Q (.int (x.now+1)) H'
theorem j2 (T:Txt K mg t):a6 P w K mg base CX0 3 t.gI t.dR ["self","row","value"] (jx t):=by
 refine T.t4.okl sc_House__done λ_ _ _ s H vs Q E hr h=>?_;obtain⟨a,s,l,wr,p,h,r,k,x,v,xs,rfl,A,ht,hk,l1,l2,l3,q⟩:=h;refine⟨_,(af (ar (i:=3) sc_House__done.nd rfl (Or.inl rfl) (bu wA (pv 1) ai (λ_ _=>rfl)))
   (af (iz (pv 0) ai pb)
   (af (bq (bW zH zP zQ cn (aK (pv 0) rfl) (aa (pv 1) ah)))
   (af (bq (br (bW PySem.F.plainAttrs_dict Qp PySem.F.type_dict_setdefault qG (aK (pv 0) rfl) (aa (pv 3) (aa (g8 T.xx (jX T) hr.mo (by rfl) T.xB T.tL .nil aF) ah))) T.oh T.tx (jW T) hr.mo T.tK .nil aF (aa (aK (pv 0) rfl) (aa (pv 2) ah))))
   (aj (aC (aK (pv 0) rfl)))))))
  ,?_⟩
 obtain⟨dx,ho⟩:=A.ob;refine⟨_,rfl,r,_,_,_,rfl,rfl,SqT.of ht,hk,?_⟩;refine⟨_,rfl,a,_,dx,_,_,rfl,ho,T.aR,T.eO,jg,_,_,rfl,rfl,dx,_,ho,uP,?_⟩;rw[ut];have A1:=A.set (now:=x.now+1) (mk:=x.ma) (fl:=x.fl) (dx:=dx);have o1:∀b o,b≠a->H b=some o->upd H a (.ins t.av dx (hoF (x.now+1) x.fl s l wr x.ma p h)) b=some o:=λb o n e=>by rw[ae n];exact e
 have ra:r≠a:=λz=>by rw[z,ho]at ht;cases ht
 have ht1:=o1 _ _ ra ht;generalize upd H a (.ins t.av dx (hoF (x.now+1) x.fl s l wr x.ma p h))=H1 at A1 o1 ht1⊢;obtain⟨dx1,ho1⟩:=A1.ob;refine⟨_,rfl,a,_,dx1,_,_,rfl,ho1,T.aR,T.iC,wF,.inl ⟨rfl,_,SqL.of A1.wr⟩,_,rfl,wr,_,_,rfl,rfl,A1.wr,bO (by rw[z8];show x.di.length<=_;lia),?_⟩;have A2:=A1.row ht1;have o2:∀b o,¬Ow a wr p h x.pa b->H b=some o->upd H1 wr (.lst (x.di.map (λe=>V.ref e.1)++ [.ref r])) b=some o:=λb o n e=>by rw[ae λz=>n (.inr (.inl z))];exact o1 _ _ (λz=>n (.inl z)) e
 generalize upd H1 wr (.lst (x.di.map (λe=>V.ref e.1)++ [.ref r]))=H2 at A2 o2⊢;obtain⟨dx2,ho2⟩:=A2.ob;refine⟨_,rfl,a,_,dx2,_,_,rfl,ho2,T.aR,T.kO,wG,.inr (.inr (.inl ⟨rfl,.inl ⟨_,A2.pa⟩⟩)),_,rfl,λm dm nm nd nmd=>⟨m,dm,rfl,ag,λH4 g M4 ng o4=>⟨rfl,?_⟩⟩⟩;have s3:Same H2 (upd (upd H2 dm (.own m)) m (.ins t.e8 dm [])):=ft (ak nd) nm;have s4:Same H2 H4:=λb o e=>o4 b o (λz=>by rw[z,nm]at e;cases e) (s3 b o e);have ng2:=uR s3 ng;have A4:=A2.same s4;have om:¬Ow a wr p h x.pa m:=λz=>by obtain⟨o,e,_⟩:=A2.dom z;rw[nm]at e;cases e
 have og:¬Ow a wr p h x.pa g:=λz=>by obtain⟨o,e,_⟩:=A2.dom z;rw[ng2]at e;cases e
 have o5:∀b o,¬Ow a wr p h x.pa b->H b=some o->H4 b=some o/\b≠m/\b≠g:=λb o n e=>⟨s4 _ _ (o2 b o n e),λz=>(by have:=o2 b o n e;rw[z,nm]at this;cases this),λz=>(by have:=o2 b o n e;rw[z,ng2]at this;cases this)⟩;clear s3 s4 o4 o2 o1 A1 A2 ho2 ho1 ho A ng nm nd nmd ng2 ht1 ht;refine⟨p,_,Sum.inl k,.ref m,rfl,rfl,A4.pa,(by rw[f8];exact bO (by show(paD x.pa).length<=_;unfold paD;rw[z8];lia)),λu hu=>?A,λhn=>?B⟩
 case' A=>
  have hu:aJ (aT (paD x.pa)) (Sum.inl k:Key)=some u:=hu;rw[cp]at hu;obtain⟨e,he,ek,ev,em⟩:∃e∈x.pa,e.k=k/\aJ (paD x.pa) k=some (.ref e.m)/\cc x.pa k=e.es:=by
   rcases pO x.pa k with⟨z,_⟩|z
   .rw[z]at hu;cases hu
   .exact z
  rw[ev]at hu;cases hu;obtain⟨pa5,A5,he,N,f5⟩:∃pa5,HoO t H4 a s l wr p h {x with now:=x.now+1,di:=x.di++ [(r,xs)],pa:=pa5}/\e∈pa5/\(∀y,Noted x.pa (paN pa5 k y) k y)/\Fr (Ow a wr p h x.pa) (Ow a wr p h pa5) H H4:=
   ⟨x.pa,A4,he,λy=>⟨λj=>hU (zx.mpr ⟨e,he,ek⟩),by rw[k8 λ_ _=>rfl,if_pos (zx.mpr ⟨e,he,ek⟩)]⟩,λb o n e=>⟨(o5 b o n e).1,n⟩⟩
  have le:e.es.length<50000:=by rw[<-em];exact l3
  clear A4 em ev o5
 case' B=>
  have hn:aJ (aT (paD x.pa)) (Sum.inl k:Key)=none:=hn;rw[cp]at hn;have nk:k∉x.pa.map (·.k):=by
   rcases pO x.pa k with⟨_,z⟩|⟨e,_,_,z,_⟩
   .exact z
   .rw[z]at hn;cases hn
  have ep:bb (aT (paD x.pa)) (Sum.inl k:Key) (.ref m)=aT (paD x.pa++ [(k,.ref m)]):=by
   rw[f7];unfold bb;rw[bF,hn];rfl
  rw[ep];obtain⟨e,ee,ek,le⟩:∃e:Pk,e=⟨k,m,g,[]⟩/\e.k=k/\e.es.length<50000:=⟨_,rfl,rfl,by show 0<50000;decide⟩;obtain⟨pa5,A5,he,N,f5⟩:∃pa5,HoO t (upd H4 p (.dK (aT (paD x.pa++ [(k,.ref m)])))) a s l wr p h {x with now:=x.now+1,di:=x.di++ [(r,xs)],pa:=pa5}/\e∈pa5/\(∀y,Noted x.pa (paN pa5 k y) k y)/\Fr (Ow a wr p h x.pa) (Ow a wr p h pa5) H (upd H4 p (.dK (aT (paD x.pa++ [(k,.ref m)])))):=by
   refine⟨x.pa++ [e],ee▸A4.newk nk M4 om og,zt _ zi,λy=>⟨λj=>?_,?_⟩,λb o n eb=>⟨?_,λz=>?_⟩⟩
   .have nk':e.k∉x.pa.map (·.k):=by rw[ek];exact nk
    rw[hU (by rw[zo];exact zt _ (zf.mpr ek.symm)),j6 nk',j6 nk',if_pos ek.symm,lu nk,ee];by_cases c:j=k
    .rw[if_pos c,if_pos c]
    .rw[if_neg c,if_neg c,if_neg c]
   .rw[k8 λ_ _=>rfl,if_neg nk,zo,<-ek];rfl
   .rw[ae λz=>n (.inr (.inr (.inl z)))];exact(o5 b o n eb).1
   .rcases z with z|z|z|z|⟨e',he',z⟩
    .exact n (.inl z)
    .exact n (.inr (.inl z))
    .exact n (.inr (.inr (.inl z)))
    .exact n (.inr (.inr (.inr (.inl z))))
    .rcases zd.mp he' with y|y
     .exact n (.inr (.inr (.inr (.inr ⟨e',y,z⟩))))
     .rw[zf.mp y,ee]at z;exact z.elim (o5 b o n eb).2.1 (o5 b o n eb).2.2
  have em:V.ref m=V.ref e.m:=by rw[ee]
  clear A4 M4 o5 om og hn nk ep;generalize upd H4 p (.dK (aT (paD x.pa++ [(k,.ref m)])))=H5 at A5 f5⊢;rw[em]
 all_goals
  have M5:=A5.mx e he;obtain⟨dy,hm⟩:=M5.ob;obtain⟨dx5,ho5⟩:=A5.ob;refine⟨e.m,dy,_,rfl,hm,bi (by decide+kernel),_,rfl,a,_,dx5,_,_,rfl,ho5,T.aR,T.eO,jg,_,rfl,e.m,e.l,e.es,_,v,rfl,M5,by lia,λH6 y M6 ny o6=>?_⟩;have A6:=A5.noted he ek M6 o6;obtain⟨dx6,ho6⟩:=A6.ob;refine⟨_,rfl,a,_,dx6,_,_,rfl,ho6,T.aR,T.eO,jg,q _ _ y A6 (N _) (f5.trans λb o n eb=>⟨o6 b o (λz=>n (.inr (.inr (.inr (.inr ⟨e,he,.inr z⟩))))) eb,λz=>n (wm z)⟩)⟩
def HSt.new:HSt:=⟨0,0,0,SSt.new,[],[],[],[]⟩
theorem HSt.new_ok:HOk HSt.new:=⟨λz=>⟨(λy=>by cases y),(λy=>by cases y)⟩,by decide,by decide,rfl,by decide,λ_=>by show((0:Nat):Int)<=0;decide,by decide,yx,(λ_ z=>by cases z),by decide,λ_=>⟨List.Pairwise.nil,(λy z=>by cases z)⟩⟩
def jw (K:PySem.W.Frag) (t:Adr):Sp:=λvs H Q _=>∃(a dx:Addr),vs=[.ref a]/\H a=some (.ins t.av dx [])/\∀H' F,HoA K t H' a F HSt.new->Fr (λb=>b=a) F H H'->Q .non H'
theorem j1 (T:Txt K mg t):a6 P w K mg base CX0 4 t.gH t.dQ ["self"] (jw K t):=by
 refine T.t3.okl jH λ_ _ _ s H vs Q E hr h=>?_;obtain⟨a,dx,rfl,ha,q⟩:=h;refine⟨_,(af (bS (pv 0) ai rfl)
   (af (bS (pv 0) ai rfl)
   (af (bS (pv 0) (g8 T.xw (jV T) hr.mo (by rfl) T.xz T.tJ .nil aF) rfl)
   (af (bS (pv 0) (g8 T.wU (i8 T) hr.mo (by rfl) T.wV T.sY .nil aF) rfl)
   (af (bS (pv 0) (bp ah) rfl)
   (af (bS (pv 0) ai rfl)
   (af (bS (pv 0) g9 rfl)
   (aj (bS (pv 0) g9 rfl)))))))))
  ,?_⟩
 refine⟨_,rfl,a,_,dx,[],rfl,ha,T.aR,T.eO,(by show 0<1000;decide),?_⟩;refine⟨_,rfl,a,_,dx,_,rfl,ag,T.aR,T.sr,(by show 1<1000;decide),?_⟩
 (try dsimp only)
 have e2:upd (upd H a (.ins t.av dx (aV ("now":Str) (.int 0) []))) a (.ins t.av dx (aV ("floor":Str) (.int 0) (aV ("now":Str) (.int 0) []))) a=some (.ins t.av dx [("now",.int 0),("floor",.int 0)]):=by
  rw[ag,b5,aI (by decide+kernel),b5]
 have k2:∀b o,b≠a->H b=some o->upd (upd H a (.ins t.av dx (aV ("now":Str) (.int 0) []))) a (.ins t.av dx (aV ("floor":Str) (.int 0) (aV ("now":Str) (.int 0) []))) b=some o:=λb o n e=>by rw[ae n,ae n];exact e
 generalize upd (upd H a (.ins t.av dx (aV ("now":Str) (.int 0) []))) a (.ins t.av dx (aV ("floor":Str) (.int 0) (aV ("now":Str) (.int 0) [])))=H2 at e2 k2⊢;refine λs ds ns nds nsd=>⟨s,ds,rfl,ag,by rw[ae nsd];exact ag,λH3 Fs S3 f3=>⟨rfl,?_⟩⟩;have k3:∀b o,H2 b=some o->H3 b=some o/\¬Fs b:=λb o e=>f3 b o (λz=>z.elim (λz=>by rw[z,ns]at e;cases e) λz=>by rw[z,nds]at e;cases e) (ft (ak nds) ns _ _ e);refine⟨_,rfl,a,_,dx,_,rfl,(k3 _ _ e2).1,T.aR,T.b8,(by show 2<1000;decide),?_⟩
 (try dsimp only)
 have e4:upd H3 a (.ins t.av dx (aV ("slots":Str) (.ref s) [("now",.int 0),("floor",.int 0)])) a=some (.ins t.av dx [("now",.int 0),("floor",.int 0),("slots",.ref s)]):=by
  rw[ag,aI (by decide+kernel),aI (by decide+kernel),b5]
 have S4:=S3.upd (o:= .ins t.av dx (aV ("slots":Str) (.ref s) [("now",.int 0),("floor",.int 0)])) (k3 _ _ e2).2;have k4:∀b o,b≠a->H b=some o->upd H3 a (.ins t.av dx (aV ("slots":Str) (.ref s) [("now",.int 0),("floor",.int 0)])) b=some o/\¬Fs b:=λb o n e=>⟨by rw[ae n];exact(k3 _ _ (k2 b o n e)).1,(k3 _ _ (k2 b o n e)).2⟩;have na:=(k3 _ _ e2).2;clear f3 k3;generalize upd H3 a (.ins t.av dx (aV ("slots":Str) (.ref s) [("now",.int 0),("floor",.int 0)]))=H4 at e4 S4 k4⊢;refine λl dl nl ndl nld=>⟨l,dl,rfl,ag,by rw[ae nld];exact ag,λH5 Fl L5 f5=>⟨rfl,?_⟩⟩;have k5:∀b o,H4 b=some o->H5 b=some o/\¬Fl b:=λb o e=>f5 b o (λz=>z.elim (λz=>by rw[z,nl]at e;cases e) λz=>by rw[z,ndl]at e;cases e) (ft (ak ndl) nl _ _ e);refine⟨_,rfl,a,_,dx,_,rfl,(k5 _ _ e4).1,T.aR,T.fk,(by show 3<1000;decide),?_⟩
 (try dsimp only)
 have e6:upd H5 a (.ins t.av dx (aV ("leaves":Str) (.ref l) [("now",.int 0),("floor",.int 0),("slots",.ref s)])) a=some (.ins t.av dx [("now",.int 0),("floor",.int 0),("slots",.ref s),("leaves",.ref l)]):=by
  rw[ag,aI (by decide+kernel),aI (by decide+kernel),aI (by decide+kernel),b5]
 have nb:=(k5 _ _ e4).2;have L6:=L5.upd (o:= .ins t.av dx (aV ("leaves":Str) (.ref l) [("now",.int 0),("floor",.int 0),("slots",.ref s)])) nb;have S6:=(S4.same λb o e=>(k5 b o e).1).upd (o:= .ins t.av dx (aV ("leaves":Str) (.ref l) [("now",.int 0),("floor",.int 0),("slots",.ref s)])) na;have ap:∀b,Fs b->¬Fl b:=λb hb=>by
  obtain⟨o,e⟩:=S4.dom hb;exact(k5 b o e).2
 have k6:∀b o,b≠a->H b=some o->upd H5 a (.ins t.av dx (aV ("leaves":Str) (.ref l) [("now",.int 0),("floor",.int 0),("slots",.ref s)])) b=some o/\¬Fs b/\¬Fl b:=λb o n e=>⟨by rw[ae n];exact(k5 _ _ (k4 b o n e).1).1,(k4 b o n e).2,(k5 _ _ (k4 b o n e).1).2⟩;clear f5 k5 k4 S4 L5 k2 e2 e4 S3 ns nds nsd nl ndl nld;generalize upd H5 a (.ins t.av dx (aV ("leaves":Str) (.ref l) [("now",.int 0),("floor",.int 0),("slots",.ref s)]))=H6 at e6 S6 L6 k6⊢;refine⟨zF _,λwr nw=>⟨_,rfl,a,_,dx,_,rfl,ak nw _ _ e6,T.aR,T.iC,(by show 4<1000;decide),?_⟩⟩
 (try dsimp only)
 have aw:a≠wr:=am e6 nw;refine⟨_,rfl,a,_,dx,_,rfl,ag,T.aR,T.sk,(by rw[aI (by decide+kernel),aI (by decide+kernel),aI (by decide+kernel),aI (by decide+kernel),b5];show 5<1000;decide),?_⟩
 (try dsimp only)
 rw[aI (f:="written") (by decide+kernel),aI (f:="written") (by decide+kernel),aI (f:="written") (by decide+kernel),aI (f:="written") (by decide+kernel),b5,aI (f:="marks") (by decide+kernel),aI (f:="marks") (by decide+kernel),aI (f:="marks") (by decide+kernel),aI (f:="marks") (by decide+kernel),aI (f:="marks") (by decide+kernel),b5,cK];have⟨H9,eH,e9,w9,k9⟩:∃H9,H9=upd (upd H6 wr (.lst [])) a (.ins t.av dx [("now",.int 0),("floor",.int 0),("slots",.ref s),("leaves",.ref l),("written",.ref wr),("marks",.int 0)])/\H9 a=some (.ins t.av dx [("now",.int 0),("floor",.int 0),("slots",.ref s),("leaves",.ref l),("written",.ref wr),("marks",.int 0)])/\H9 wr=some (.lst [])/\∀b o,b≠a->H6 b=some o->H9 b=some o:=
  ⟨_,rfl,ag,by rw[ae aw.symm];exact ag,λb o n e=>by rw[ae n];exact ak nw _ _ e⟩
 rw[<-eH];clear eH;refine λp np=>⟨_,rfl,a,_,dx,_,rfl,ak np _ _ e9,T.aR,T.kO,(by show 6<1000;decide),?_⟩
 (try dsimp only)
 rw[aI (by decide+kernel),aI (by decide+kernel),aI (by decide+kernel),aI (by decide+kernel),aI (by decide+kernel),aI (by decide+kernel),b5];have⟨H11,eH,e11,w11,p11,k11⟩:∃H11,H11=upd (upd H9 p (.dK [])) a (.ins t.av dx [("now",.int 0),("floor",.int 0),("slots",.ref s),("leaves",.ref l),("written",.ref wr),("marks",.int 0),("past",.ref p)])/\H11 a=some (.ins t.av dx [("now",.int 0),("floor",.int 0),("slots",.ref s),("leaves",.ref l),("written",.ref wr),("marks",.int 0),("past",.ref p)])/\H11 wr=some (.lst [])/\H11 p=some (.dK [])/\∀b o,b≠a->H6 b=some o->H11 b=some o:=
  ⟨_,rfl,ag,by rw[ae aw.symm];exact ak np _ _ w9,by rw[ae (am e9 np).symm];exact ag,λb o n e=>by rw[ae n];exact ak np _ _ (k9 _ _ n e)⟩
 rw[<-eH];clear eH;have pa':p≠a:=(am e9 np).symm;refine λh nh=>⟨_,rfl,a,_,dx,_,rfl,ak nh _ _ e11,T.aR,T.qF,(by show 7<1000;decide),?_⟩
 (try dsimp only)
 rw[aI (by decide+kernel),aI (by decide+kernel),aI (by decide+kernel),aI (by decide+kernel),aI (by decide+kernel),aI (by decide+kernel),aI (by decide+kernel),b5];have ha':h≠a:=(am e11 nh).symm;have k13:∀b o,b≠a->H11 b=some o->upd (upd H11 h (.dK [])) a (.ins t.av dx (hoF 0 0 s l wr 0 p h)) b=some o:=λb o n e=>by rw[ae n];exact ak nh _ _ e
 have g13:∀b o,b≠a->H6 b=some o->upd (upd H11 h (.dK [])) a (.ins t.av dx (hoF 0 0 s l wr 0 p h)) b=some o:=λb o n e=>k13 b o n (k11 b o n e);have O:HoO t (upd (upd H11 h (.dK [])) a (.ins t.av dx (hoF 0 0 s l wr 0 p h))) a s l wr p h HSt.new:=⟨⟨dx,ag⟩,k13 _ _ aw.symm w11,(λe he=>by cases he),k13 _ _ pa' p11,by rw[ae ha'];exact ag,(λe he=>by cases he),am p11 nh,(λe he=>by cases he),yx,yx,yx⟩;have fresh:∀b,(b=wr\/b=p\/b=h)->H6 b=none:=λb hb=>by
  cases e:H6 b with
  |none=>rfl
  |some o=>
   have na:b≠a:=by
    rcases hb with rfl|rfl|rfl
    .exact aw.symm
    .exact pa'
    .exact ha'
   rcases hb with rfl|rfl|rfl
   .rw[nw]at e;cases e
   .rw[k9 _ _ na e]at np;cases np
   .rw[k11 _ _ na e]at nh;cases nh
 have ow:∀b,Ow a wr p h [] b->b=a\/H6 b=none:=λb hb=>by
  rcases hb with z|z|z|z|⟨e,he,_⟩
  .exact .inl z
  .exact .inr (fresh b (.inl z))
  .exact .inr (fresh b (.inr (.inl z)))
  .exact .inr (fresh b (.inr (.inr z)))
  .cases he
 refine q _ (HoF a wr p h Fs Fl []) ⟨s,l,wr,p,h,Fs,Fl,⟨O,S6.frame λb hb=>?_,L6.frame λb hb=>?_,ap,λb hb z=>?_,λb hb z=>?_⟩,HSt.new_ok,λ_=>Iff.rfl⟩ λb o n e=>?_
 .obtain⟨o,e⟩:=S6.dom hb;rw[e];exact g13 b o (λz=>na (z▸hb)) e
 .obtain⟨o,e⟩:=L6.dom hb;rw[e];exact g13 b o (λz=>nb (z▸hb)) e
 .rcases ow b hb with y|y
  .exact na (y▸z)
  .exact S6.out y z
 .rcases ow b hb with y|y
  .exact nb (y▸z)
  .exact L6.out y z
 .obtain⟨c1,c2,c3⟩:=k6 b o n e;refine⟨g13 b o n c1,λz=>?_⟩;rcases z with z|z|z
  .exact c2 z
  .exact c3 z
  .rcases ow b z with y|y
   .exact n y
   .rw[c1]at y;cases y
theorem HoA.klen {x:HSt} (A:HoA K t H a F x):(x.ks.length:Int)<=x.now:=by
 obtain⟨s,l,w,p,h,Fs,Fl,B,O,_⟩:=A;obtain⟨L,A,ls,_,ok,e,_⟩:=B.lv;have nd:x.ks.Nodup:=by
  rw[<-e];exact List.Pairwise.imp (λh z=>by lia) ok.up
 have:=j4 (S:=x.st.kv.map (·.1)) nd λz hz=>mem_keys.mpr ((O.ks z).mp hz);rw[z8]at this;have:=O.sl;lia
theorem HOk.noted {x:HSt} {y:Mk1} (O:HOk x) (N:Noted x.pa pa' k y):(pa'.length:Int)<=x.now+1/\∀j,((cc pa' j).length:Int)<=x.now+1:=by
 constructor
 .have h1:=O.pl;have h2:=congrArg List.length N.ky;rw[z8]at h2;split at h2
  .rw[z8]at h2;lia
  .rw[zk,z8,yL]at h2;lia
 .intro j;rw[N.of];split
  .have:=O.el k;rw[zk,yL];lia
  .have:=O.el j;lia
theorem HOk.hv1 {x:HSt} (O:HOk x):∀p∈x.ho,x.fl<=p.1/\p.1<=x.now+1/\∃n:Int,p.2= .int n/\0<n:=λp hp=>⟨(O.hv p hp).1,by have:=(O.hv p hp).2.1;lia,(O.hv p hp).2.2⟩
theorem HOk.fb1 {x:HSt} (O:HOk x):0<=x.fl/\x.fl<=x.now+1:=⟨O.fb.1,by have:=O.fb.2;lia⟩
theorem HOk.up1 {x:HSt} {y:Mk1} (O:HOk x) (N:Noted x.pa pa' k y) (e:y.mo=x.now+1):∀j,(cc pa' j).Pairwise (λa b=>a.mo<b.mo)/\∀z∈cc pa' j,z.mo<=x.now+1:=λj=>by
 rw[N.of];obtain⟨u1,u2⟩:=O.up k;split
 .refine⟨y4.mpr ⟨u1,Q2 _ _,λa ha b hb=>?_⟩,λz hz=>?_⟩
  .rw[zf.mp hb,e];have:=u2 a ha;lia
  .rcases zd.mp hz with hz|hz
   .have:=u2 z hz;lia
   .rw[zf.mp hz,e];exact Qb _
 .obtain⟨v1,v2⟩:=O.up j;exact⟨v1,λz hz=>by have:=v2 z hz;lia⟩
def kB (K:PySem.W.Frag) (t:Adr):Sp:=λvs H Q _=>∃(a:Addr) (k i:Int) (F:Addr->Prop) (x:HSt),vs=[.ref a,.int k,.int i]/\HoA K t H a F x/\0<=k/\x.now+x.ma<4000/\
 ∀(H':Hp) (F':Addr->Prop) (ks':List Int) (r q:Addr) (pa':List Pk),HoA K t H' a F' {x with now:=x.now+1,st:=x.st.put k (.int i),ks:=ks',di:=x.di++ [(r,[.str "put",.int k,.int i])],pa:=pa'}->Noted x.pa pa' k ⟨q,x.now+1,.int i⟩->Fr F F' H H'->Q (.int (x.now+1)) H'
theorem kL (T:Txt K mg t):a6 P w K mg base CX0 5 t.im t.eZ ["self","key","value"] (kB K t):=by
 refine T.vg.okl kF λ_ _ _ s H vs Q E hr h=>?_;obtain⟨a,k,i,F,x,rfl,A,k0,l1,q⟩:=h;refine⟨_,(af (aY (fB (cG (br (aK (pv 0) rfl) T.au T.uH (kJ T) hr.mo T.uX .nil aF (aa (pv 1) ah))))
   (aj (bq (br (aK (pv 0) rfl) T.aM T.tD (jZ T) hr.mo T.tN .nil aF (aa (pv 1) ah))))
   aG)
   (af (bq (br (aK (pv 0) rfl) T.au T.uG (kI T) hr.mo T.uW .nil aF (aa (pv 1) (aa (pv 2) ah))))
   (aj (aC (br (pv 0) T.aR T.tF (j2 T) hr.mo T.tQ .nil aF (aa (oN (aa aZ (aa (pv 1) (aa (pv 2) ah)))) (aa (pv 2) ah)))))))
  ,?_⟩
 have kl:=A.klen;obtain⟨s,l,wr,p,h,Fs,Fl,B,O,g⟩:=A;have n0:=O.n0;have m0:=O.m0;have sl:=O.sl;obtain⟨dx,ho⟩:=B.o.ob;obtain⟨ds,fs,hs,hm⟩:=B.sl.ins
 (try dsimp only)
 refine ug (λσ H2=>∃(Fs2 Fl2:Addr->Prop) (ks2:List Int),σ=[some (.ref a),some (.int k),some (.int i)]/\HoB K t H2 a s l wr p h Fs2 Fl2 {x with ks:=ks2}/\(∀z,z∈ks2↔z=k\/z∈x.ks)/\Fr (HoF a wr p h Fs Fl x.pa) (HoF a wr p h Fs2 Fl2 x.pa) H H2) (λnx go=>?_) (λσ H2 w=>?_)
 .refine⟨_,rfl,a,_,dx,_,_,rfl,ho,T.aR,T.b8,mE,s,ds,fs,rfl,hs,hm _ (by decide+kernel),_,rfl,s,k,Fs,x.st,rfl,B.sl,k0,λH1 Fs1 S1 f1=>?_⟩;obtain⟨B1,g1⟩:=B.slots S1 f1;obtain⟨dx1,ho1⟩:=B1.o.ob;obtain⟨dl,fl,hl,hml⟩:=B1.lv.ins;cases ev:(aJ x.st.kv k).isSome with
  |true=>
   refine⟨_,rfl,dE (λc=>?_) (λ_=>?_)⟩
   .cases c
   .exact go _ _ ⟨Fs1,Fl,x.ks,rfl,B1,λz=>⟨.inr,λy=>y.elim (λy=>by rw[y];exact(O.ks k).mpr ev) id⟩,g1⟩
  |false=>
   have nk:k∉x.ks:=λz=>by have:=(O.ks k).mp z;rw[ev]at this;cases this
   refine⟨_,rfl,dE (λ_=>?_) (λc=>?_)⟩
   .refine⟨_,rfl,a,_,dx1,_,_,rfl,ho1,T.aR,T.fk,pd,l,dl,fl,rfl,hl,hml _ (by decide+kernel),_,rfl,l,k,Fl,x.ks,rfl,B1.lv,by lia,λ_ H2 Fl2 ks2 L2 mem f2=>?_,λz=>absurd z nk⟩;obtain⟨B2,g2⟩:=B1.leaves L2 f2;exact go _ _ ⟨Fs1,Fl2,ks2,rfl,B2,mem,g1.trans g2⟩
   .exact absurd rfl c
 .obtain⟨Fs2,Fl2,ks2,rfl,B2,mem,g2⟩:=w;obtain⟨dx2,ho2⟩:=B2.o.ob;obtain⟨ds2,fs2,hs2,hm2⟩:=B2.sl.ins;refine⟨_,rfl,a,_,dx2,_,_,rfl,ho2,T.aR,T.b8,mE,s,ds2,fs2,rfl,hs2,hm2 _ (by decide+kernel),_,rfl,_,rfl,s,k,i,Fs2,x.st,rfl,B2.sl,k0,by lia,λH3 Fs3 S3 f3=>?_⟩;obtain⟨B3,g3⟩:=B2.slots S3 f3;obtain⟨dx3,ho3⟩:=B3.o.ob;refine⟨_,rfl,a,dx3,_,rfl,ho3,vJ (by decide+kernel),_,rfl,_,rfl,(by show 3<=sizeLine;decide),λr nr=>?_⟩;have s4:=ak (o:= .tup [.str "put",.int k,.int i]) nr;have ht:upd H3 r (.tup [.str "put",.int k,.int i]) r=some (.tup [.str "put",.int k,.int i]):=ag;have B4:HoB K t (upd H3 r (.tup [.str "put",.int k,.int i])) a s l wr p h Fs3 Fl2 _:=B3.keep (λb hb=>by
   obtain⟨o,e,_⟩:=B3.dom hb;rw[e];exact s4 _ _ e) λb xs e=>s4 _ _ e
  have g4:=(g2.trans g3).trans (Fr.of_same s4);generalize upd H3 r (.tup [.str "put",.int k,.int i])=H4 at B4 ht g4⊢;have dl:=O.dl;have pl:=O.pl;have el:=O.el k;refine⟨_,rfl,a,s,l,wr,p,h,r,k,_,.int i,_,rfl,B4.o,ht,rfl,by show x.di.length<50000;lia,by show x.pa.length<50000;lia,by show(cc x.pa k).length<50000;lia,λH5 pa' y O5 N f5=>?_⟩;obtain⟨B5,g5⟩:=B4.own O5 rfl rfl f5;obtain⟨N1,N2⟩:=O.noted N;have ek:(x.st.put k (.int i)).kv=bb x.st.kv k (.int i):=SSt.three_kv;refine q H5 (HoF a wr p h Fs3 Fl2 pa') ks2 r y pa' ⟨s,l,wr,p,h,Fs3,Fl2,B5,⟨λz=>?_,by show 0<=x.now+1;lia,m0,?_,N1,N2,?_,O.hn,O.hv1,O.fb1,O.up1 N rfl⟩,λ_=>Iff.rfl⟩ N ?_
  .show z∈ks2↔(aJ (x.st.put k (.int i)).kv z).isSome=true;rw[mem,ek,<-mem_keys,ka,O.ks];split
   .rename_i c
    rw[mem_keys];exact⟨λy=>y.elim (λy=>y▸c) id,.inr⟩
   .rw[zd,zf,mem_keys];exact⟨λy=>y.elim .inr .inl,λy=>y.elim .inr .inl⟩
  .show((x.di++ [(r,_)]).length:Int)=x.now+1+x.ma;rw[zk,yL];lia
  .show((x.st.put k (.int i)).kv.length:Int)<=x.now+1;rw[ek];have:=cx x.st.kv k (.int i);lia
  .exact λb o n e=>(g4.trans g5) b o (λz=>n ((g b).mpr z)) e
def RsT (H:Hp) (C:Addr) (E:XK):Prop:=∀(ea:Addr) (od:Option Addr) (H':Hp),ExcAt H' ea od C []->Same H H'->E (.ref ea) od H'
theorem cP {H0:Hp} {bm:List Value} (Y:XCls K C bm) (s:Same H H0) (k:RsT H C E) {x:Str}:rL K (pE C (rE (tC (.str x)) ub)) E D σ H0:=by
 refine⟨(by show 1<=1000;decide),λea hn=>⟨ea,C,none,bm,rfl,ag,Y,?_⟩⟩;rw[cK];refine k ea none _ ⟨ag,.inl ⟨rfl,rfl⟩⟩ λb o q=>?_;have q:=s b o q;rw[ae (am q hn)];exact q
def dg (c:Nat):Bool:=decide (c∈sg ("0123456789":Str))
theorem vL {c:Nat} (h:dg c=true):48<=c/\c<=57:=by
 have h:c∈[48,49,50,51,52,53,54,55,56,57]:=of_decide_eq_true h;simp at h;omega (config:={})
theorem p0 (c:Nat):(!(Builtin.Str.occurrences ("0123456789":Str) ⟨#[c]⟩ 0 ("0123456789":Str).length 1).isEmpty)=dg c:=StrLaws.found_one _ c
def iK (z:Str):Bool:=(decide (1<=(z.length:Int))&&decide ((z.length:Int)<=60))&&(!(decide ((sg z).head?=some 48)&&decide (z≠("0":Str))))&&(sg z).all dg
def jn:Sp:=λvs H Q _=>∃z:Str,vs=[.str z]/\z.length<=100000/\∀H',Same H H'->Q (.bl (iK z)) H'
theorem str0:("0":Str)=⟨#[48]⟩:=by decide+kernel
theorem v6:("-":Str)=⟨#[45]⟩:=by decide+kernel
theorem o8:PySem.W.kitOne K (.type "str") (.type "str")=some true/\PySem.W.kitOne K (.type "int") (.type "str")=some false/\PySem.W.kitOne K (.type "NoneType") (.type "str")=some false/\PySem.W.kitOne K (.type "bool") (.type "str")=some false/\PySem.W.kitOne K (.type "list") (.type "str")=some false/\PySem.W.kitOne K (.type "tuple") (.type "str")=some false:=
 ⟨by kernel_rfl,by kernel_rfl,by kernel_rfl,by kernel_rfl,by kernel_rfl,by kernel_rfl⟩
theorem jS (T:Txt K mg t):a6 P w K mg base CX0 1 t.gv t.dF ["text"] jn:=by
 obtain⟨tk_FIGURES,hFIGURES⟩:=T.g_FIGURES;obtain⟨tk_MOST_FIGURES,hMOST_FIGURES⟩:=T.g_MOST_FIGURES;refine T.kT.okl jB λ_ _ _ s H vs Q E hr h=>?_;obtain⟨z,rfl,zl,q⟩:=h;refine⟨_,(af (aY (fB (nq lg lg ai (aB hZ (by rfl) T.bE be (aa (pv 0) ah)) (cv (v:= .int 60) (by rfl) hMOST_FIGURES ⟨_,rfl⟩)))
   (aj (aC gj))
   aG)
   (af (aY (PW.pt (fA (cG (bW zE Qq Qr lq (pv 0) (aa aZ ah))) (db (az pP (pv 0) aZ (aD _)))))
   (aj (aC gj))
   aG)
   (aj (aC (aB (re rfl) (by rfl) T.xS wP (aa (l9 rfl (CScope.of (M:=["sign"]) (N:=["text"]) (N':=["text"]) (dsc:=ao cr) rfl rfl (by decide+kernel)) (rS (pv 0)) (λ_ _ _ _ _=>(jf qA (pv 0) (cv (v:= .str "0123456789") (by rfl) hFIGURES ⟨_,rfl⟩) rfl))) ah))))))
  ,?_⟩
 have big:100000<=sizeLine:=by decide
 unfold iK at q;have last:(decide (1<=(z.length:Int))&&decide ((z.length:Int)<=60))=true->(!(decide ((sg z).head?=some 48)&&decide (z≠("0":Str))))=true->∀H',Same H H'->Q (.bl (((sg z).map dg).all id)) H':=λh1 h2 H' s=>by
  have:=q H' s;rw[h1,h2,zW,zW]at this;rw[List.all_map];exact this
 have comp:(decide (1<=(z.length:Int))&&decide ((z.length:Int)<=60))=true->(!(decide ((sg z).head?=some 48)&&decide (z≠("0":Str))))=true->∀D,H D=none->∀ys,ys=((sg z).map dg).map V.bl->∀H2,H2=upd H D (.lst ys)->H2 D=some (.lst ys)->∃(p:Addr) (bs:List Bool),[V.ref D]=[.ref p]/\SqL K H2 p (bs.map V.bl)/\Q (.bl (bs.all id)) H2:=λh1 h2 D hD ys ey H2 e2 hDD=>
  ⟨D,(sg z).map dg,rfl,SqL.of (by rw[hDD,ey]),last h1 h2 H2 (by rw[e2];exact ak hD)⟩
 refine⟨_,rfl,z,rfl,by lia,_,_,rfl,rfl,_,rfl,?_⟩;by_cases c1:(1:Int)<=(z.length:Int)
 .refine iF c1 ⟨_,_,rfl,rfl,_,rfl,?_⟩;by_cases c2:(z.length:Int)<=60
  .rw[decide_eq_true c1,decide_eq_true c2]at q last comp;rw[decide_eq_true c2];refine d5 ?_;refine⟨_,rfl,rfl,z,_,rfl,rfl,_,rfl,?_⟩;rw[show(Str.ofString "0")=⟨#[48]⟩ from str0,jm];have fin:(!(decide ((sg z).head?=some 48)&&decide (z≠("0":Str))))=true->∀D,H D=none->∃W:Nat->Nat->List V->Hp->Prop,(∃m,W 0 m [] (upd H D (.lst [])))/\∀i m ys H2,W i m ys H2->H2 D=some (.lst ys)->
     ((Itx z).stop i H2/\∃(p:Addr) (bs:List Bool),[V.ref D]=[.ref p]/\SqL K H2 p (bs.map V.bl)/\Q (.bl (bs.all id)) H2)\/((Itx z).go i H2/\∀x H3,(Itx z).yld i H2 x H3->tOp (λx y H Q=>∃i j,x= .str i/\y= .str j/\Q (.bl (!(Builtin.Str.occurrences j i 0 j.length 1).isEmpty)) H) (t8 0) (tC (.str "0123456789")) (some x::[some (V.str z)]) H3 λy H4=>H4 D=some (.lst ys)/\ys.length<sizeLine/\∃m',m'<m/\W (i+1) m' (ys++ [y]) (upd H4 D (.lst (ys++ [y])))):=λh2 D hD=>by
    refine sT (z:=z) (λi ys H2=>H2=upd H D (.lst ys)/\ys=(((sg z).take i).map dg).map V.bl) ⟨rfl,rfl⟩ (λi c ys H2 hc w hDD=>?_) (λys H2 w hDD=>?_)
    .have hi:i<z.cps.size:=by
      rcases Nat.lt_or_ge i z.cps.size with g|g
      .exact g
      .rw[Array.getElem?_eq_none g]at hc;cases hc
     have hc':(sg z)[i]?=some c:=by rw[<-hc];simp[sg]
     have l1:ys.length<=100000:=by
      rw[w.2,z8,z8,zu];have:=bK z;lia
     refine⟨_,rfl,_,_,rfl,rfl,?_⟩;rw[p0];refine CNext.mk hi hDD (bO (by lia)) ⟨by rw[w.1,cK],?_⟩;rw[w.2,zN,hc',zo,zo];rfl
    .refine comp rfl h2 D hD ys ?_ H2 w.1 hDD;rw[w.2,zA];have:=bK z;have:z.length=z.cps.size:=rfl;lia
   by_cases c3:(sg z).head?=some 48
   .rw[decide_eq_true c3];refine cf ⟨_,rfl,rfl,_,rfl,?_⟩;by_cases c4:z=("0":Str)
    .refine pZ (by rw[c4,str0]) ?_;exact⟨_,rfl,z,rfl,λD hD=>fin (by simp[c4]) D hD⟩
    .refine xE (λy=>c4 ((V.str.inj y).trans str0.symm)) ?_;have:=q H (Same.refl _);rw[decide_eq_true c3,decide_eq_true c4]at this;exact this
   .rw[decide_eq_false c3];refine d5 ?_;exact⟨_,rfl,z,rfl,λD hD=>fin (by simp[c3]) D hD⟩
  .rw[decide_eq_false c2];refine cf ?_;rw[decide_eq_false c2,yv]at q;exact q H (Same.refl _)
 .refine bH c1 ?_;rw[decide_eq_false c1]at q;exact⟨_,rfl,cf (q H (Same.refl _))⟩
def bel (z:Str):Bool:=decide ((sg z).head?=some 45)
def fig (z:Str):Str:=if bel z=true then Txt.slice z (some 1) none else z
def acc (z:Str):Bool:=iK (fig z)&&!(bel z&&decide (fig z=("0":Str)))
theorem p8 (z:Str):(fig z).length<=z.length:=by
 unfold fig;split
 .exact Txt.slice_le _ _ _
 .exact zg _
theorem mJ (z:Str):sg z=if bel z=true then 45::sg (fig z)else sg (fig z):=by
 unfold fig;by_cases c:bel z=true
 .rw[if_pos c,if_pos c,mZ];have h:(sg z).head?=some 45:=of_decide_eq_true c;cases e:sg z with
  |nil=>rw[e]at h;cases h
  |cons a r=>rw[e]at h;cases h;rfl
 .rw[if_neg c,if_neg c]
theorem rf {z:Str} (h:acc z=true) (hl:z.length<=640):∃n,PySem.intText? z=some n:=by
 unfold acc iK at h;rw[zw,zw,zw,zw]at h;obtain⟨⟨⟨⟨h1,_⟩,_⟩,h3⟩,_⟩:=h;have ad:PySem.NumText.AllDigits (sg (fig z)):=λc hc=>vL (zM.mp h3 c hc);have ne:sg (fig z)≠[]:=λe=>by
  have h1:=of_decide_eq_true h1;rw[bK,e]at h1;simp at h1
 have fs:=mJ z;by_cases c:bel z=true
 .rw[if_pos c]at fs;exact⟨_,PySem.intText_neg fs ad ne (by lia)⟩
 .rw[if_neg c]at fs;exact⟨_,PySem.intText_digits (by show PySem.NumText.AllDigits (sg z);rw[fs];exact ad) (by show sg z≠[];rw[fs];exact ne) (by lia)⟩
theorem wK {z:Str} (h:iK (fig z)=true):z.length<=640:=by
 unfold iK at h;rw[zw,zw,zw]at h;have h2:=of_decide_eq_true h.1.1.2;have fs:=mJ z;have l1:=bK z;have l2:=bK (fig z);rw[fs]at l1;split at l1
 .rw[zp]at l1;lia
 .lia
def kr (K:PySem.W.Frag) (t:Adr):Sp:=λvs H Q E=>(∃z:Str,vs=[.str z]/\z.length<=100000/\(acc z=true->∀n H',PySem.intText? z=some n->Same H H'->Q (.int n) H')/\(acc z=false->RsT H t.bw E))\/
 (∃(x:V) (ty:Value),vs=[x]/\TyOf K H x ty/\PySem.W.kitOne K ty (.type "str")=some false/\RsT H t.bw E)
theorem gW {t u:TS} (M:St->Hp->Prop) (h1:∀nx,(∀σ' H',M σ' H'->nx σ' H')->t {D with nx:=nx} σ H) (h2:∀σ' H',M σ' H'->u D σ' H'):t9 t u D σ H:=h1 (u D) h2
theorem kH (T:Txt K mg t):a6 P w K mg base (CX1 P w) 2 t.ib t.eT ["text"] (kr K t):=by
 refine T.iq.okX sc_read_whole (λvs H Q E h=>?_) (λcdv A outer s H vs Q E hr h=>?_)
 .rcases h with⟨z,rfl,_⟩|⟨x,ty,rfl,_⟩<;>rfl
 .refine⟨_,(af (aY (fB (cG (aB iR (by rfl) T.bY bz (aa (pv 0) (aa (me (v:= .ty "str") (by rfl) T.rs mN rfl) ah)))))
   (aj (fE rfl gQ (dY T.aN T.eR (by rfl) T.dZ (aa aZ ah))))
   aG)
   (af (ar (i:=1) sc_read_whole.nd rfl (Or.inl rfl) (bW zE Qq Qr lq (pv 0) (aa aZ ah)))
   (af (ar (i:=2) sc_read_whole.nd rfl (Or.inl rfl) (rX (cG (pv 1)) (aO oH (pv 0) (aW ai) aX) (pv 0)))
   (af (aY (PW.pt (jK (fB (cG (aE (jS T) hr.mo (by rfl) T.tG T.kT.kp T.tH .nil aF (aa (pv 2) ah)))) (jJ (PW.pt (fA (cG (pv 1)) (db (az cw (pv 2) aZ (aD _))))))))
   (aj (fE rfl gQ (dY T.aN T.eR (by rfl) T.dZ (aa aZ ah))))
   aG)
   (aj (aC (fZ gu (by rfl) T.w5 sV (aa (pv 0) ah))))))))
   ,?_⟩
  have big:100000<=sizeLine:=by decide
  rcases h with⟨z,rfl,zl,q1,q2⟩|⟨x,ty,rfl,ht,hk,q⟩
  .refine⟨_,rfl,_,_,_,_,rfl,TyOf.str _,o8.1,true,rfl,d5 ?_⟩;refine⟨_,rfl,rfl,z,_,rfl,rfl,?_⟩;rw[show(Str.ofString "-")=⟨#[45]⟩ from v6,jm,show decide ((sg z).head?=some 45)=bel z from rfl];have fl:=p8 z
   (try dsimp only)
   refine gW (λσ' H'=>σ'=[some (.str z),some (.bl (bel z)),some (.str (fig z))]/\H'=H) (λnx go=>?_) (λσ' H' w=>?_)
   .refine⟨_,rfl,_,rfl,dE (λc=>?_) (λc=>?_)⟩
    .refine⟨_,rfl,_,rfl,z,rfl,by lia,go _ _ ⟨?_,rfl⟩⟩;unfold fig;rw[if_pos c];rfl
    .refine⟨_,rfl,go _ _ ⟨?_,rfl⟩⟩;unfold fig;rw[if_neg c];rfl
   obtain⟨eσ,eH⟩:=w;rw[eσ,eH];clear eσ eH;refine⟨_,rfl,fig z,rfl,by lia,λH1 s1=>⟨_,rfl,?_⟩⟩;unfold acc at q1 q2;cases ea:iK (fig z)with
   |false=>
    refine cf ?_;refine cf ?_;exact cP T.aN s1 (q2 (by rw[ea];rfl))
   |true=>
    refine d5 ⟨_,rfl,_,rfl,?_⟩;have zl:=wK ea;have ok:(!(bel z&&decide (fig z=("0":Str))))=true->∃n,PySem.intText? z=some n/\∀H',Same H' H'->Same H H'->Q (.int n) H':=λh=>by
     have ac:acc z=true:=by unfold acc;rw[ea,h];rfl
     obtain⟨n,hn⟩:=rf ac zl;exact⟨n,hn,λH' _ s=>q1 (by rw[ea,h];rfl) n H' hn s⟩
    cases eb:bel z with
    |true=>
     refine cf ⟨_,rfl,rfl,_,rfl,?_⟩;by_cases c:fig z=("0":Str)
     .refine mD (by rw[c]) ?_;exact cP T.aN s1 (q2 (by rw[ea,eb,decide_eq_true c];rfl))
     .refine bH (λy=>c (V.str.inj y)) ?_;obtain⟨n,hn,k⟩:=ok (by rw[eb,decide_eq_false c];rfl);exact⟨_,rfl,z,n,rfl,hn,zl,k H1 (Same.refl _) s1⟩
    |false=>
     refine d5 ?_;refine d5 ?_;obtain⟨n,hn,k⟩:=ok (by rw[eb];rfl);exact⟨_,rfl,z,n,rfl,hn,zl,k H1 (Same.refl _) s1⟩
  .refine⟨_,rfl,_,_,_,_,rfl,ht,hk,false,rfl,cf ?_⟩;exact cP T.aN (Same.refl _) q
def wr:V->Str
 | .int i=>toString i|_=>"-"
theorem nV:∀c:Nat,48<=c->c<=57->(Nat.digitChar (c-48)).toNat=c:=by
 intro c h0 h1;obtain⟨d,rfl⟩:∃d,c=48+d:=⟨c-48,by lia⟩;have h:∀d:Nat,d<10->(Nat.digitChar (48+d-48)).toNat=48+d:=by decide
 exact h d (by lia)
theorem nW (n:Nat):∀L:List Nat,L.length=n->(∀c∈L,48<=c/\c<=57)->L≠[]->(L.head?=some 48->L=[48])->(Nat.toDigits 10 (PySem.NumText.digitsVal L)).map Char.toNat=L/\PySem.NumText.digitsVal L<10^n:=by
 induction n with
 |zero=>intro L hl _ ne;exact absurd (zS hl) ne
 |succ n ih=>
  intro L hl ad ne hd;obtain⟨M,c,rfl⟩:∃M c,L=M++ [c]:=⟨L.dropLast,L.getLast ne,(List.dropLast_concat_getLast ne).symm⟩;obtain⟨c0,c1⟩:=ad c (by simp);have lm:M.length=n:=by simpa using hl
  rw[PySem.NumText.digitsVal_snoc];by_cases hM:M=[]
  .subst hM;have e0:PySem.NumText.digitsVal []=0:=rfl;rw[e0,Nat.zero_mul,Nat.zero_add];constructor
   .rw[Nat.toDigits_of_lt_base (by lia)];show[(Nat.digitChar (c-48)).toNat]=[]++ [c];rw[nV c c0 c1];rfl
   .have:n=0:=by simpa using lm.symm
    subst this;show c-48<10^1;lia
  .have hh:M.head?≠some 48:=λz=>by
    have z':(M++ [c]).head?=some 48:=by rw[List.head?_append,z];rfl
    have:=hd z';cases M with
    |nil=>exact hM rfl
    |cons a r=>simp at this
   obtain⟨h1,h2⟩:=ih M lm (λx hx=>ad x (by simp[hx])) hM (λz=>absurd z hh);have pos:0<PySem.NumText.digitsVal M:=by
    rcases y9 (PySem.NumText.digitsVal M)with z|z
    .rw[z]at h1;refine absurd ?_ hh;rw[<-h1];decide
    .exact z
   have t:Nat.toDigits 10 (PySem.NumText.digitsVal M)++Nat.toDigits 10 (c-48)=Nat.toDigits 10 (10*PySem.NumText.digitsVal M+(c-48)):=Nat.toDigits_append_toDigits (by decide) pos (by lia);constructor
   .rw[Nat.mul_comm,<-t,zo,h1,Nat.toDigits_of_lt_base (by lia)];show M++ [(Nat.digitChar (c-48)).toNat]=M++ [c];rw[nV c c0 c1]
   .rw[Nat.pow_succ];lia
theorem mR {z:Str} (h:iK z=true):1<=z.length/\z.length<=60/\((sg z).head?=some 48->z=("0":Str))/\∀c∈sg z,48<=c/\c<=57:=by
 unfold iK at h;rw[zw,zw,zw]at h;obtain⟨⟨⟨h1,h2⟩,h3⟩,h4⟩:=h;have h1:=of_decide_eq_true h1;have h2:=of_decide_eq_true h2;refine⟨by lia,by lia,λz0=>?_,λc hc=>vL (zM.mp h4 c hc)⟩;rw[decide_eq_true z0,zW,Bool.not_eq_true']at h3;exact Classical.not_not.mp (of_decide_eq_false h3)
theorem pB {z:Str} (h:iK z=true):∃n:Int,PySem.intText? z=some n/\0<=n/\n<10^60/\wr (.int n)=z:=by
 obtain⟨l1,l2,z0,ad⟩:=mR h;have ne:sg z≠[]:=λe=>by
  rw[bK,e]at l1;exact absurd l1 (by decide)
 have lz:=bK z;obtain⟨b1,b2⟩:=nW (sg z).length (sg z) rfl ad ne λq=>by
  have:=z0 q;rw[this];decide+kernel
 have r:PySem.intText? z=some ((PySem.NumText.digitsVal (sg z):Nat):Int):=PySem.intText_digits ad ne (by lia);refine⟨_,r,Int.natCast_nonneg _,?_,jz ?_⟩
 .have:=Qd (show 0<10 by decide) (show(sg z).length<=60 by lia);have:PySem.NumText.digitsVal (sg z)<10^60:=by lia
  exact_mod_cast this
 .rw[show sg (wr (.int ((PySem.NumText.digitsVal (sg z):Nat):Int)))=(Nat.toDigits 10 (PySem.NumText.digitsVal (sg z))).map Char.toNat from PySem.W.KIN.signs_num _];exact b1
def iX (K:PySem.W.Frag):Sp:=λvs H Q _=>∃(a:Addr) (ns:List Int) (k:Int),vs=[.ref a,.int k]/\SqL K H a (ns.map V.int)/\0<=k/\Q (.int (ns.getD k.toNat 0)) H
theorem fj (T:Txt K mg t):a6 P w K mg base CX0 1 t.fQ t.cX ["_law_script","_law_k"] (iX K):=by
 refine T.a7.okl i4 λ_ _ _ s H vs Q E hr h=>?_;obtain⟨a,ns,i,rfl,hS,h0,k⟩:=h;refine⟨_,(af (aY (az hI (pv 1) (aB ax (by rfl) T.bE be (aa (pv 0) ah)) (aD _))
   (aj (aC (bu aP (pv 0) (pv 1) (λ_ _=>rfl))))
   aG)
   (aj (aC ai)))
  ,?_⟩
 refine⟨_,rfl,_,rfl,a,_,rfl,.inl hS,_,_,rfl,rfl,_,rfl,?_⟩;refine dE (λc=>?_) (λc=>?_)
 .have c:=of_decide_eq_true c;rw[z8]at c;exact⟨_,rfl,_,rfl,a,_,_,_,rfl,rfl,hS,oj h0 c,k⟩
 .have c:¬i<((ns.map V.int).length:Int):=λz=>c (decide_eq_true z);rw[z8]at c;rw[sU c]at k;exact k
def kC (K:PySem.W.Frag) (t:Adr):Sp:=λvs H Q _=>∃(a:Addr) (k:Int) (v:V) (F:Addr->Prop) (x:HSt),vs=[.ref a,.int k]/\HoA K t H a F x/\0<=k/\aJ x.st.kv k=some v/\∀H' F',HoA K t H' a F' x->Fr F F' H H'->Q v H'
theorem kM (T:Txt K mg t):a6 P w K mg base CX0 5 t.io t.e7 ["self","key"] (kC K t):=by
 refine T.vh.okl kG λ_ _ _ s H vs Q E hr h=>?_;obtain⟨a,k,v,F,x,rfl,A,k0,ev,q⟩:=h;refine⟨_,(aj (aC (br (aK (pv 0) rfl) T.au T.uI (kK T) hr.mo T.uY .nil aF (aa (pv 1) ah))))
  ,?_⟩
 obtain⟨s,l,wr,p,h,Fs,Fl,B,O,g⟩:=A;obtain⟨dx,ho⟩:=B.o.ob;obtain⟨ds,fs,hs,hm⟩:=B.sl.ins;refine⟨_,rfl,a,_,dx,_,_,rfl,ho,T.aR,T.b8,mE,s,ds,fs,rfl,hs,hm _ (by decide+kernel),_,rfl,s,k,Fs,x.st,rfl,B.sl,k0,λv' ev' H1 Fs1 S1 f1=>?_,λz=>by rw[ev]at z;cases z⟩;rw[ev]at ev';cases ev';obtain⟨B1,g1⟩:=B.slots S1 f1;exact q H1 (HoF a wr p h Fs1 Fl x.pa) ⟨s,l,wr,p,h,Fs1,Fl,B1,O,λ_=>Iff.rfl⟩ λb o n e=>g1 b o (λz=>n ((g b).mpr z)) e
def jv (K:PySem.W.Frag) (t:Adr):Sp:=λvs H Q _=>∃(a:Addr) (F:Addr->Prop) (x:HSt),vs=[.ref a]/\HoA K t H a F x/\∀H' F',HoA K t H' a F' x->Fr F F' H H'->(∀dx fs l,H a=some (.ins t.av dx fs)->fs.lookup ("leaves":Str)=some (.ref l)->∃Fl,LvA K t H' l Fl x.ks)->Q (.int x.st.kv.length) H'
theorem j0 (T:Txt K mg t):a6 P w K mg base CX0 2 t.gG t.dP ["self"] (jv K t):=by
 refine T.tZ.okl jG λ_ _ _ s H vs Q E hr h=>?_;obtain⟨a,F,x,rfl,A,q⟩:=h;refine⟨_,(aj (aC (g7 (aK (pv 0) rfl) T.au T.tw (jU T) hr.mo T.tI .nil aF)))
  ,?_⟩
 obtain⟨s,l,wr,p,h,Fs,Fl,B,O,g⟩:=A;obtain⟨dx,ho⟩:=B.o.ob;obtain⟨ds,fs,hs,hm⟩:=B.sl.ins;refine⟨_,rfl,a,_,dx,_,_,rfl,ho,T.aR,T.b8,mE,s,ds,fs,rfl,hs,hm _ (by decide+kernel),s,Fs,x.st,rfl,B.sl,λH1 Fs1 S1 f1=>?_⟩;obtain⟨B1,g1⟩:=B.slots S1 f1;refine q H1 (HoF a wr p h Fs1 Fl x.pa) ⟨s,l,wr,p,h,Fs1,Fl,B1,O,λ_=>Iff.rfl⟩ (λb o n e=>g1 b o (λz=>n ((g b).mpr z)) e) λdy fy ly e1 e2=>?_;rw[ho]at e1;obtain⟨_,_,rfl⟩:=HO.ins.inj (Option.some.inj e1);rw[pd]at e2;cases e2;exact⟨Fl,B1.lv⟩
theorem vv (x:String):sg (Str.ofString x)=x.toList.map Char.toNat:=by
 rw[Str.ofString_eq_toList]
theorem c5 {z:Str} (h:acc z=true):∃n:Int,PySem.intText? z=some n/\-(10^60)<n/\n<10^60/\Str.ofString (toString n)=z/\z.length<=61:=by
 by_cases ha:iK z=true
 .obtain⟨n,r,n0,n1,e⟩:=pB ha;obtain⟨_,l2,_⟩:=mR ha;exact⟨n,r,by lia,n1,e,by lia⟩
 have ac:=h;unfold acc at h;rw[zw]at h;obtain⟨hf,h4⟩:=h;obtain⟨l1,l2,z0,ad⟩:=mR hf;have ne:sg (fig z)≠[]:=λe=>by
  rw[bK,e]at l1;exact absurd l1 (by decide)
 have fs:=mJ z;have c:bel z=true:=by
  cases c:bel z with
  |true=>rfl
  |false=>
   unfold fig at hf;rw[c,if_neg zb]at hf;exact absurd hf ha
 rw[c,zW,Bool.not_eq_true']at h4;have nz:=of_decide_eq_false h4;rw[if_pos c]at fs;obtain⟨b1,b2⟩:=nW (sg (fig z)).length (sg (fig z)) rfl ad ne λq=>absurd (z0 q) nz;have lf:=bK (fig z);have lz:z.length=(fig z).length+1:=by rw[bK z,fs,zp,lf]
 have pos:0<PySem.NumText.digitsVal (sg (fig z)):=by
  rcases y9 (PySem.NumText.digitsVal (sg (fig z)))with q|q
  .rw[q]at b1;refine absurd (jz ?_) nz;rw[<-b1];decide+kernel
  .exact q
 have lt:PySem.NumText.digitsVal (sg (fig z))<10^60:=zq b2 (Qd (by decide) (by lia));have rd:=PySem.intText_neg fs ad ne (by lia);generalize PySem.NumText.digitsVal (sg (fig z))=m at rd b1 pos lt;refine⟨_,rd,by lia,by lia,jz ?_,by lia⟩;obtain⟨k,rfl⟩:∃k,m=k+1:=⟨m-1,by lia⟩;rw[vv,fs,<-b1];show("-"++toString (k+1)).toList.map Char.toNat=_;rw[String.toList_append,zo];have e:sg (Str.ofString (toString ((k+1:Nat):Int)))=(Nat.toDigits 10 (k+1)).map Char.toNat:=PySem.W.KIN.signs_num (k+1);rw[vv]at e;exact congrArg (45:: ·) e
theorem jc {i:Int} (h0: -(10^60)<i) (h1:i<10^60):i.natAbs.log2<1920:=by
 rcases y9 i.natAbs with z|z
 .rw[z];decide
 .refine(Nat.log2_lt (Qi z)).mpr ?_;have:i.natAbs<10^60:=by lia
  exact Nat.lt_trans this (zq (show 10^60<2^200 by decide) (Qd (by decide) (by decide)))
theorem jd {i:Int} (h0: -(10^60)<i) (h1:i<10^60):(Str.ofString (toString i)).length<=61:=by
 have h:(toString i).length<=60+1:=PySem.int_text_length_le10 (by decide) (by lia);rw[Str.ofString_eq_toList];show((toString i).toList.map Char.toNat).toArray.size<=61;rw[zm,z8];exact h
def rwT (p:Int×Int):Str:=Str.ofString (toString p.1)++(" ":Str)++Str.ofString (toString p.2)
def gX (z:Str):Option (Int×Int):=match Txt.split z (" ":Str)with
 | [a,b]=>if acc a=true then if acc b=true then match PySem.intText? a,PySem.intText? b with
  |some k,some v=>some (k,v)
  |_,_=>none else none else none
 |_=>none
def bc:Int->List Str->Option (List (Int×Int))
 |_,[]=>some []
 |last,z::r=>match gX z with
  |none=>none
  |some p=>if last<p.1 then(bc p.1 r).map (p:: ·)else none
def rdT (z:Str):Option (List (Int×Int)):=if z=("":Str)then some []else bc (-1) (Txt.split z ("\n":Str))
theorem oM {z:Str} {p:Int×Int} (h:gX z=some p):z=rwT p/\-(10^60)<p.1/\p.1<10^60/\-(10^60)<p.2/\p.2<10^60/\∃a b,Txt.split z (" ":Str)=[a,b]/\acc a=true/\acc b=true/\PySem.intText? a=some p.1/\PySem.intText? b=some p.2:=by
 unfold gX at h;split at h
 .next a b e=>
  split at h
  .next ha=>
   split at h
   .next hb=>
    obtain⟨k,rk,k0,k1,ek,_⟩:=c5 ha;obtain⟨v,rv,v0,v1,ev,_⟩:=c5 hb;rw[rk,rv]at h;cases h;refine⟨?_,k0,k1,v0,v1,a,b,e,ha,hb,rk,rv⟩;have j:=StrLaws.join_split z (" ":Str);rw[e]at j;rw[<-j];show Txt.join (" ":Str) [a,b]=_;unfold rwT;rw[ek,ev];rfl
   .cases h
  .cases h
 .cases h
theorem iM:∀{zs:List Str} {last:Int} {ps:List (Int×Int)},bc last zs=some ps->zs=ps.map rwT/\(∀p∈ps,last<p.1/\p.1<10^60/\-(10^60)<p.2/\p.2<10^60)/\bX (ps.map (·.1))
 | [],_,ps,h=>by cases h;exact⟨rfl,(λp hp=>absurd hp y8),List.Pairwise.nil⟩
 |z::r,last,ps,h=>by
  unfold bc at h;cases c:gX z with
  |none=>rw[c]at h;cases h
  |some p=>
   rw[c]at h;obtain⟨ez,_,k1,v0,v1,_⟩:=oM c;by_cases hl:last<p.1
   .change (if last<p.1 then(bc p.1 r).map (p:: ·)else none)=some ps at h;rw[if_pos hl]at h;cases c2:bc p.1 r with
    |none=>rw[c2]at h;cases h
    |some qs=>
     rw[c2]at h;cases h;obtain⟨e1,e2,e3⟩:=iM c2;refine⟨by rw[zr,<-ez,<-e1],λq hq=>?_,yG.mpr ⟨λk hk=>?_,e3⟩⟩
     .rcases zh.mp hq with rfl|hq
      .exact⟨hl,k1,v0,v1⟩
      .obtain⟨a1,a2⟩:=e2 q hq;exact⟨Int.lt_trans hl a1,a2⟩
     .obtain⟨q,hq,rfl⟩:=zx.mp hk;exact(e2 q hq).1
   .change (if last<p.1 then(bc p.1 r).map (p:: ·)else none)=some ps at h;rw[if_neg hl]at h;cases h
theorem rN {z:Str} (h:rdT z=some ps):z=Txt.join ("\n":Str) (ps.map rwT)/\(∀p∈ps,0<=p.1/\p.1<10^60/\-(10^60)<p.2/\p.2<10^60)/\bX (ps.map (·.1)):=by
 unfold rdT at h;by_cases c:z=("":Str)
 .rw[if_pos c]at h;cases h;exact⟨c,(λp hp=>absurd hp y8),List.Pairwise.nil⟩
 .rw[if_neg c]at h;obtain⟨e1,e2,e3⟩:=iM h;refine⟨?_,λp hp=>?_,e3⟩
  .rw[<-e1];rw[pX];exact(StrLaws.join_split z ("\n":Str)).symm
  .obtain⟨a1,a2⟩:=e2 p hp;exact⟨by lia,a2⟩
theorem HoA.lvs {x:HSt} (A:HoA K t H a F x):∃(dx:Addr) (fs:List (Str×V)) (l:Addr) (Fl:Addr->Prop),H a=some (.ins t.av dx fs)/\fs.lookup ("leaves":Str)=some (.ref l)/\LvA K t H l Fl x.ks:=by
 obtain⟨s,l,wr,p,h,Fs,Fl,B,O,g⟩:=A;obtain⟨dx,ho⟩:=B.o.ob;exact⟨dx,_,l,Fl,ho,pd,B.lv⟩
theorem uO {xs:List Int} {x:V} (h:(xs.map V.int)[i]?=some x):∃k:Int,x= .int k/\xs[i]?=some k:=by
 rw[zD]at h;cases e:xs[i]? with
 |none=>rw[e]at h;cases h
 |some k=>rw[e]at h;cases h;exact⟨k,rfl,rfl⟩
theorem pI {p:Int×Int} (h: -(10^60)<p.1/\p.1<10^60/\-(10^60)<p.2/\p.2<10^60):(rwT p).length<=123:=by
 unfold rwT;rw[cQ,cQ];have h1:=jd h.1 h.2.1;have h2:=jd h.2.2.1 h.2.2.2;have h3:(" ":Str).length=1:=by decide+kernel
 lia
def qt:Sp:=λvs H Q _=>∃k v:Int,vs=[.int k,.int v]/\(-(10^60)<k/\k<10^60/\-(10^60)<v/\v<10^60)/\Q (.str (rwT (k,v))) H
theorem qC (T:Txt K mg t):a6 P w K mg base CX0 1 t.oo t.kh ["key","value"] qt:=by
 refine T.tm.okl qx λ_ _ _ s H vs Q E hr h=>?_;obtain⟨k,v,rfl,b,q⟩:=h;refine⟨_,(aj (aC (we (pv 0) (pv 1))))
  ,?_⟩
 have l1:=pI (p:=(k,v)) b;have l2:(rwT (k,v)).length=(Str.ofString (toString k)++(" ":Str)).length+(Str.ofString (toString v)).length:=cQ _ _;have big:1000<=sizeLine:=by decide
 exact⟨_,rfl,k,rfl,jc b.1 b.2.1,by lia,_,rfl,v,rfl,jc b.2.2.1 b.2.2.2,by show(rwT (k,v)).length<=sizeLine;lia,q⟩
structure HoP (K:PySem.W.Frag) (t:Adr) (H:Hp) (a:Addr) (F:Addr->Prop) (x:HSt) (ps:List (Int×Int)):Prop where
 A:HoA K t H a F x
 ks:x.ks=ps.map (·.1)
 kv:∀p∈ps,aJ x.st.kv p.1=some (.int p.2)
 ln:x.st.kv.length=ps.length
 bd:∀p∈ps,0<=p.1/\p.1<10^60/\-(10^60)<p.2/\p.2<10^60
 le:ps.length<=3000
theorem HoP.to {x:HSt} (J:HoP K t H a F x ps) (A:HoA K t H' a F' x):HoP K t H' a F' x ps:=⟨A,J.ks,J.kv,J.ln,J.bd,J.le⟩
def oF (K:PySem.W.Frag) (t:Adr):Sp:=λvs H Q _=>∃(a:Addr) (F:Addr->Prop) (x:HSt) (ps:List (Int×Int)),vs=[.ref a]/\HoP K t H a F x ps/\∀(H':Hp) (F':Addr->Prop) (l:Addr),HoP K t H' a F' x ps->Fr F F' H H'->H' l=some (.lst ((ps.map rwT).map V.str))->Q (.ref l) H'
theorem oP (T:Txt K mg t):a6 P w K mg base CX0 6 t.lT t.iH ["house"] (oF K t):=by
 refine T.rj.okl sc_rows_of λ_ _ _ s H vs Q E hr h=>?_;obtain⟨a,F,x,ps,rfl,J,q⟩:=h;refine⟨_,(af (ar (i:=1) sc_rows_of.nd rfl (Or.inl rfl) (br (aK (pv 0) rfl) T.aM T.pT (gM T) hr.mo T.qh .nil aF (aa ai (aa (g7 (pv 0) T.aR T.tE (j0 T) hr.mo T.tO .nil aF) ah))))
   (aj (aC (l9 rfl (CScope.of (M:=["key"]) (N:=["house","keys"]) (N':=["house","keys"]) (dsc:=ao fY) rfl rfl (by decide+kernel)) (g6 (pv 1)) (λ_ _ _ _ _=>(aE (qC T) hr.mo (by rfl) T.xD T.tm.kp T.xM .nil aF (aa (pv 0) (aa (br (pv 1) T.aR T.uK (kM T) hr.mo T.u7 .nil aF (aa (pv 0) ah)) ah))))))))
  ,?_⟩
 obtain⟨dx,fs,l,Fl,ho,hl,L⟩:=J.A.lvs;obtain⟨dL,fL,hL,hmL⟩:=L.ins;obtain⟨dh,fh,hh,hmh,_⟩:=J.A.ins;refine⟨_,rfl,a,_,dx,fs,_,rfl,ho,T.aR,T.fk,hl,l,dL,fL,rfl,hL,hmL _ (by decide+kernel),_,rfl,a,dh,fh,rfl,hh,hmh _ (by decide+kernel),a,F,x,rfl,J.A,λH1 F1 A1 f1 lv=>?_⟩;obtain⟨Fl1,L1⟩:=lv dx fs l ho hl;have J1:=J.to A1;have lk:x.ks.length<=3000:=by rw[J.ks,z8];exact J.le
 have ef:(x.ks.filter λz=>decide (0<=z))=ps.map (·.1):=by
  rw[List.filter_eq_self.mpr λz hz=>?_,J.ks];rw[J.ks]at hz;obtain⟨p,hp,rfl⟩:=zx.mp hz;exact decide_eq_true (J.bd p hp).1
 refine⟨l,0,_,Fl1,x.ks,rfl,L1,by lia,by lia,λH2 g s2 ng hg=>?_⟩;rw[ef,J.ln,show((ps.length:Int)).toNat=ps.length from rfl,zA (by rw[z8];exact zg _)]at hg;have A2:=A1.same s2;have f2:Fr F F1 H H2:=f1.trans (Fr.of_same s2);have nFg:¬F1 g:=A1.out ng
 (try dsimp only)
 refine⟨_,rfl,g,rfl,⟨_,SqL.of hg⟩,λD hD=>?_⟩;refine qZ (K:=K) (a:=g) (xs:=(ps.map (·.1)).map V.int) (λi ys H3=>∃(F3:Addr->Prop),HoA K t H3 a F3 x/\Fr F1 F3 H2 H3/\¬F3 D/\ys=((ps.take i).map rwT).map V.str) ⟨F1,A2.same (ak hD),Fr.of_same (ak hD),A2.out hD,by rw[List.take_zero];rfl⟩ (λi ys H3 _ w=>?_) (λi y ys H3 hy w hDD=>?_) (λys H3 w hDD=>?_)
 .obtain⟨F3,A3,f3,_⟩:=w;exact SqL.of (f3 _ _ nFg hg).1
 .obtain⟨F3,A3,f3,nD,rfl⟩:=w;have hi:i<((ps.map (·.1)).map V.int).length:=(za.mp hy).1;obtain⟨k,rfl,hk⟩:=uO hy;rw[zD]at hk;cases c:ps[i]? with
  |none=>rw[c]at hk;cases hk
  |some p=>
   rw[c]at hk;cases hk;have pm:=z7 c;have bd:=J.bd p pm;obtain⟨d3,fs3,hi3,hm3,_⟩:=A3.ins;refine⟨_,rfl,_,rfl,a,d3,fs3,rfl,hi3,hm3 _ (by decide+kernel),_,rfl,a,p.1,_,F3,x,rfl,A3,bd.1,J.kv p pm,λH4 F4 A4 f4=>⟨p.1,p.2,rfl,⟨by lia,bd.2.1,bd.2.2⟩,?_⟩⟩;obtain⟨hD4,nD4⟩:=f4 _ _ nD hDD;refine CNext.mk hi hD4 (bO (by rw[z8,z8,zu];have:=J.le;lia)) ⟨F4,A4.upd nD4 (λxs z=>by rw[hD4]at z;cases z),?_,nD4,?_⟩
   .exact λb o n e=>⟨by rw[ae (am e hD)];exact((f3.trans f4) b o n e).1,((f3.trans f4) b o n e).2⟩
   .rw[zN,c,zo,zo];rfl
 .obtain⟨F3,A3,f3,nD,rfl⟩:=w;rw[z8,z8,yC]at hDD;exact q H3 F3 D (J.to A3) (f2.trans f3) hDD
theorem fo {m:Nat}:∀{ws:List Str},(∀x∈ws,x.length<=m)->(ws.map (·.length)).sum<=ws.length*m
 | [],_=>by simp
 |a::r,h=>by
  have:=fo (ws:=r) λx hx=>h x (zj _ hx);have:=h a zi;simp only[zr,yP,zp,Nat.add_mul,Nat.one_mul];lia
def rG (K:PySem.W.Frag) (t:Adr):Sp:=λvs H Q _=>∃(a:Addr) (F:Addr->Prop) (x:HSt) (ps:List (Int×Int)),vs=[.ref a]/\HoP K t H a F x ps/\∀(H':Hp) (F':Addr->Prop),HoP K t H' a F' x ps->Fr F F' H H'->Q (.str (Txt.join ("\n":Str) (ps.map rwT))) H'
theorem sd (T:Txt K mg t):a6 P w K mg base CX0 7 t.qi t.mL ["house"] (rG K t):=by
 refine T.vc.okl rJ λ_ _ _ s H vs Q E hr h=>?_;obtain⟨a,F,x,ps,rfl,J,q⟩:=h;refine⟨_,(aj (aC (bW zE Q7 Q8 mn aZ (aa (aE (oP T) hr.mo (by rfl) T.wW T.rj.kp T.wY .nil aF (aa (pv 0) ah)) ah))))
  ,?_⟩
 refine⟨rfl,_,rfl,a,F,x,ps,rfl,J,λH1 F1 l J1 f1 hl=>⟨"\n",l,ps.map rwT,rfl,rfl,SqL.of hl,by decide+kernel,?_,q H1 F1 J1 f1⟩⟩;have h1:=fo (m:=123) (ws:=ps.map rwT) λy hy=>by
  obtain⟨p,hp,rfl⟩:=zx.mp hy;have b:=J.bd p hp;exact pI ⟨by lia,b.2⟩
 have h2:=J.le;rw[z8]at h1⊢;lia
theorem sA:∀{l:List Nat} {x:Nat},x∈l->x<=l.sum
 | [],_,h=>absurd h y8
 |a::r,x,h=>by
  rw[yP];rcases zh.mp h with rfl|h
  .lia
  .have:=sA h;lia
theorem gT {z d y:Str} (hd:1<=d.length) (h:y∈Txt.split z d):y.length<=z.length:=by
 have w:=PyProof.Rows.split_weight z d hd;have:y.length<=((Txt.split z d).map (·.length)).sum:=sA (List.mem_map_of_mem (f:=λx:Str=>x.length) h);have:=List.length_pos_of_mem h;lia
theorem RsT.on (k:RsT H C E) (s:Same H H'):RsT H' C E:=λea od H2 hx hs=>k ea od H2 hx (s.trans hs)
theorem kX {y:Str} (e:Txt.split y (" ":Str)=ws) (h:ws.length≠2):gX y=none:=by
 unfold gX;rw[e];split
 .exact absurd rfl h
 .rfl
theorem cO {y a b:Str} (e:Txt.split y (" ":Str)=[a,b]):gX y=if acc a=true then if acc b=true then match PySem.intText? a,PySem.intText? b with
  |some k,some v=>some (k,v)
  |_,_=>none else none else none:=by
 unfold gX;rw[e]
theorem dX {last:Int} {y:Str} {r:List Str} (h:gX y=none):bc last (y::r)=none:=by
 unfold bc;rw[h]
theorem pK {last:Int} {y a b:Str} {r:List Str} (e:Txt.split y (" ":Str)=[a,b]) (ha:acc a=true) (ra:PySem.intText? a=some k) (hl:¬last<k):bc last (y::r)=none:=by
 unfold bc;rw[cO e,if_pos ha,ra];by_cases hb:acc b=true
 .obtain⟨v,rv,_⟩:=c5 hb;rw[if_pos hb,rv];exact if_neg hl
 .rw[if_neg hb]
theorem rO {last v:Int} {y a b:Str} {r:List Str} (e:Txt.split y (" ":Str)=[a,b]) (ha:acc a=true) (ra:PySem.intText? a=some k) (hb:acc b=true) (rb:PySem.intText? b=some v) (hl:last<k):bc last (y::r)=(bc k r).map ((k,v):: ·):=by
 conv=>lhs;unfold bc
 rw[cO e,if_pos ha,if_pos hb,ra,rb];exact if_pos hl
def kt (K:PySem.W.Frag) (t:Adr):Sp:=λvs H Q E=>(∃z:Str,vs=[.str z]/\z.length<=100000/\(Txt.split z ("\n":Str)).length<=3000/\(∀ps,rdT z=some ps->∀(H':Hp) (a:Addr) (F:Addr->Prop) (x:HSt),HoP K t H' a F x ps->(∀b o,H b=some o->H' b=some o/\¬F b)->Q (.ref a) H')/\(rdT z=none->RsT H t.bw E))\/
 (∃(x:V) (ty:Value),vs=[x]/\TyOf K H x ty/\PySem.W.kitOne K ty (.type "str")=some false/\RsT H t.bw E)
theorem HoA.rise {x:HSt} (A:HoA K t H a F x):bX x.ks:=by
 obtain⟨_,_,_,_,_,_,L⟩:=A.lvs;exact L.rise
theorem HoP.put {x x':HSt} {v:Int} (J:HoP K t H a F x ps) (A:HoA K t H' a F' x') (e:x'.st=x.st.put k (.int v)) (up:bX (ps.map (·.1))) (lt:∀p∈ps,p.1<k) (b:0<=k/\k<10^60/\-(10^60)<v/\v<10^60) (l:ps.length<3000):HoP K t H' a F' x' (ps++ [(k,v)])/\bX ((ps++ [(k,v)]).map (·.1)):=by
 have ek:x'.st.kv=bb x.st.kv k (.int v):=by rw[e];exact SSt.three_kv
 have nk:aJ x.st.kv k=none:=by
  cases c:aJ x.st.kv k with
  |none=>rfl
  |some w=>
   have h:=(J.A.ok.ks k).mpr (by rw[c];rfl);rw[J.ks]at h;obtain⟨p,hp,ep⟩:=zx.mp h;have:=lt p hp;lia
 have up':bX ((ps++ [(k,v)]).map (·.1)):=by
  rw[zo];refine y4.mpr ⟨up,Q2 _ _,λy hy z hz=>?_⟩;obtain⟨p,hp,rfl⟩:=zx.mp hy;rw[zf.mp hz];exact lt p hp
 refine⟨⟨A,m8 A.rise up' λz=>?_,λp hp=>?_,?_,λp hp=>?_,?_⟩,up'⟩
 .rw[A.ok.ks z,ek,bZ,zo,zd];by_cases c:z=k
  .rw[if_pos c];exact⟨λ_=> .inr (zf.mpr c),λ_=>rfl⟩
  .rw[if_neg c,<-J.A.ok.ks z,J.ks];exact⟨.inl,λh=>h.elim id λh=>absurd (zf.mp h) c⟩
 .rw[ek,bZ];rcases zd.mp hp with hp|hp
  .rw[if_neg λc=>by have:=lt p hp;lia];exact J.kv p hp
  .rw[zf.mp hp,if_pos rfl]
 .rw[ek,ni _ nk,zk,zk,J.ln];rfl
 .rcases zd.mp hp with hp|hp
  .exact J.bd p hp
  .rw[zf.mp hp];exact b
 .rw[zk];exact l
theorem gk (T:Txt K mg t):a6 P w K mg base (CX1 P w) 6 t.ie t.eU ["text"] (kt K t):=by
 refine T.ir.okX sc_read_house (λvs H Q E h=>?_) (λcdv A outer s H vs Q E hr h=>?_)
 .rcases h with⟨z,rfl,_⟩|⟨x,ty,rfl,_⟩<;>rfl
 .refine⟨_,(af (aY (fB (cG (aB iR (by rfl) T.bY bz (aa (pv 0) (aa (me (v:= .ty "str") (by rfl) T.rs mN rfl) ah)))))
   (aj (fE rfl gQ (dY T.aN T.eR (by rfl) T.dZ (aa aZ ah))))
   aG)
   (af (ar (i:=1) sc_read_house.nd rfl (Or.inl rfl) (g8 T.xy (j1 T) hr.mo (by rfl) T.xC T.tP .nil aF))
   (af (aY (az cw (pv 0) aZ (aD _))
   (aj (aC (pv 1)))
   aG)
   (af (ar (i:=2) sc_read_house.nd rfl (Or.inl rfl) (nC jk ai))
   (af (jM PassesOwn.leaving rfl (g6 (bW zE yr yt fG (pv 0) (aa aZ ah))) (eM (i:=3) sc_read_house.nd rfl (Or.inl rfl))
   (af (ar (i:=4) sc_read_house.nd rfl (Or.inl rfl) (bW zE yr yt fG (pv 3) (aa aZ ah)))
   (af (aY (az pP (aB ax (by rfl) T.bE be (aa (pv 4) ah)) ai (aD _))
   (aj (fE rfl gQ (dY T.aN T.eR (by rfl) T.dZ (aa aZ ah))))
   aG)
   (af (ar (i:=5) sc_read_house.nd rfl (Or.inl rfl) (aE (kH T) hr.mo (by rfl) T.mt T.iq.kp T.mO .nil vE (aa (bu aP (pv 4) ai (λ_ _=>rfl)) ah)))
   (af (aY (az lg (pv 5) (pv 2) (aD _))
   (aj (fE rfl gQ (dY T.aN T.eR (by rfl) T.dZ (aa aZ ah))))
   aG)
   (af (bq (br (pv 1) T.aR T.uJ (kL T) hr.mo T.uZ .nil aF (aa (pv 5) (aa (aE (kH T) hr.mo (by rfl) T.mt T.iq.kp T.mO .nil vE (aa (bu aP (pv 4) ai (λ_ _=>rfl)) ah)) ah))))
   (aj (ar (i:=2) sc_read_house.nd rfl (Or.inl rfl) (pv 5)))))))))
   (aj (aC (pv 1))))))))
   ,?_⟩
  rcases h with⟨z,rfl,zl,zn,q1,q2⟩|⟨x,ty,rfl,ht,hk,q⟩
  case inr=>
   refine⟨_,rfl,_,_,_,_,rfl,ht,hk,false,rfl,cf ?_⟩;exact cP T.aN (Same.refl _) q
  refine⟨_,rfl,_,_,_,_,rfl,TyOf.str _,o8.1,true,rfl,d5 ?_⟩;unfold vp
  (try dsimp only)
  refine λa dx na nd nad=>⟨a,dx,rfl,ag,λH1 F1 A1 f1=>⟨rfl,?_⟩⟩;have o1:∀b o,H b=some o->H1 b=some o/\¬F1 b:=λb o e=>f1 b o (am e na) (by rw[ae (am e na),ae (am e nd)];exact e);have J1:HoP K t H1 a F1 HSt.new []:=⟨A1,rfl,(λp hp=>absurd hp y8),rfl,(λp hp=>absurd hp y8),by decide⟩
  (try dsimp only)
  refine⟨_,rfl,rfl,_,rfl,?_⟩;by_cases ze:z=("":Str)
  .refine mD (by rw[ze]) ⟨_,rfl,q1 [] (by unfold rdT;rw[if_pos ze]) H1 a F1 _ J1 o1⟩
  refine bH (λy=>ze (V.str.inj y)) ?_
  (try dsimp only)
  unfold rdT at q1 q2;rw[if_neg ze]at q1 q2;refine⟨_,rfl,?_⟩
  (try dsimp only)
  refine⟨_,rfl,rfl,_,_,rfl,rfl,by decide+kernel,zl,λl nl=>?_⟩;rw[show(Str.ofString "\n")=("\n":Str) from rfl];have wl:∀y∈Txt.split z ("\n":Str),y.length<=100000:=λy hy=>zC (gT (by decide+kernel) hy) zl;generalize Txt.split z ("\n":Str)=zs at wl zn q1 q2⊢;have s2:=ak (o:= .lst (zs.map V.str)) nl;have h2:upd H1 l (.lst (zs.map V.str)) l=some (.lst (zs.map V.str)):=ag;have nFl:¬F1 l:=A1.out nl;have J2:=J1.to (A1.same s2);generalize upd H1 l (.lst (zs.map V.str))=H2 at s2 h2 J2⊢;have o2:∀b o,H b=some o->H2 b=some o/\¬F1 b:=λb o e=>⟨s2 _ _ (o1 b o e).1,(o1 b o e).2⟩;refine⟨l,rfl,⟨_,SqL.of h2⟩,lK (K:=K) (a:=l) (xs:=zs.map V.str) (λi σ H'=>∃(F':Addr->Prop) (x':HSt) (ps:List (Int×Int)) (last:Int) (v3 v4 v5:Option V),σ=[some (.str z),some (.ref a),some (.int last),v3,v4,v5]/\HoP K t H' a F' x' ps/\bX (ps.map (·.1))/\(∀p∈ps,p.1<=last)/\-1<=last/\ps.length=i/\x'.now+x'.ma<=i/\bc (-1) zs=(bc last (zs.drop i)).map (ps++ ·)/\H' l=some (.lst (zs.map V.str))/\¬F' l/\∀b o,H b=some o->H' b=some o/\¬F' b) ?_ (λi σ H' _ w=>?_) (λi u σ H' hu w=>?_) (λσ H' w=>?_)⟩
  .refine⟨F1,_,[],-1,none,none,none,rfl,J2,List.Pairwise.nil,(λp hp=>absurd hp y8),by decide,rfl,by decide,?_,h2,nFl,o2⟩;rw[Qa];cases bc (-1) zs<;>rfl
  .obtain⟨F',x',ps,last,v3,v4,v5,rfl,J,up,le,l1,ln,mo,E',hl,nl',o'⟩:=w;exact SqL.of hl
  .obtain⟨F',x',ps,last,v3,v4,v5,rfl,J,up,le,l1,ln,mo,E',hl,nl',o'⟩:=w;have sm:Same H H':=λb o e=>(o' b o e).1;rw[zD]at hu;cases cy:zs[i]? with
   |none=>rw[cy]at hu;cases hu
   |some y=>
    rw[cy]at hu;cases hu;have hi:=(za.mp cy).1;have dy:zs.drop i=y::zs.drop (i+1):=by
     rw[yY hi,(za.mp cy).2]
    rw[dy]at E';have yl:=wl y (z7 cy);have no:bc last (y::zs.drop (i+1))=none->bc (-1) zs=none:=λh=>by rw[E',h];rfl
    unfold iQ
    (try dsimp only)
    refine⟨_,rfl,rfl,_,_,rfl,rfl,by decide+kernel,yl,λlw nw=>?_⟩;rw[show(Str.ofString " ")=(" ":Str) from rfl];have ww:∀w∈Txt.split y (" ":Str),w.length<=100000:=λw hw=>zC (gT (by decide+kernel) hw) yl;generalize es:Txt.split y (" ":Str)=ws at ww⊢;have s3:=ak (o:= .lst (ws.map V.str)) nw;have h3:upd H' lw (.lst (ws.map V.str)) lw=some (.lst (ws.map V.str)):=ag;have J3:=J.to (J.A.same s3);have nFw:¬F' lw:=J.A.out nw;generalize upd H' lw (.lst (ws.map V.str))=H3 at s3 h3 J3⊢;have sm3:=sm.trans s3
    (try dsimp only)
    refine⟨_,rfl,lw,_,rfl,.inl (SqL.of h3),rfl,_,rfl,?_⟩;by_cases c2:ws.length=2
    .refine pZ (by rw[z8,c2];rfl) ?_;obtain⟨w0,w1,rfl⟩:∃w0 w1,ws=[w0,w1]:=by
      rcases ws with _|⟨w0,_|⟨w1,_|⟨w2,r⟩⟩⟩
      .cases c2
      .cases c2
      .exact⟨_,_,rfl⟩
      .simp at c2
     (try dsimp only)
     refine⟨_,rfl,lw,_,_,_,rfl,rfl,SqL.of h3,rfl,.inl ⟨w0,rfl,ww w0 zi,λha k H4 rk s4=>?_,λha=>(q2 (no (dX (by rw[cO es,if_neg (by rw[ha];decide)])))).on sm3⟩⟩;have sm4:=sm3.trans s4;have J4:=J3.to (J3.A.same s4);have h4:=s4 _ _ h3
     (try dsimp only)
     refine⟨_,rfl,_,rfl,_,_,rfl,rfl,_,rfl,dE (λc=>?_) (λc=>?_)⟩
     .have c:=of_decide_eq_true c;exact cP T.aN sm4 (q2 (no (pK es ha rk (by lia))))
     .have c:last<k:=by
       rcases Int.lt_or_le last k with g|g
       .exact g
       .exact absurd (decide_eq_true g) c
      (try dsimp only)
      obtain⟨dh,fh,hh,hmh,_⟩:=J4.A.ins;refine⟨_,rfl,a,dh,fh,rfl,hh,hmh _ (by decide+kernel),_,rfl,_,rfl,lw,_,_,_,rfl,rfl,SqL.of h4,rfl,.inl ⟨w1,rfl,ww w1 (zj _ zi),λhb v H5 rv s5=>?_,λhb=>(q2 (no (dX (by rw[cO es,if_pos ha,if_neg (by rw[hb];decide)])))).on sm4⟩⟩;have J5:=J4.to (J4.A.same s5);obtain⟨k',rk',_,k1,_⟩:=c5 ha;obtain⟨v',rv',v0,v1,_⟩:=c5 hb;rw[rk]at rk';rw[rv]at rv';cases rk';cases rv';refine⟨a,k,v,F',x',rfl,J5.A,by lia,by lia,λH6 F6 ks6 r6 q6 pa6 A6 N6 f6=>?_⟩;obtain⟨J6,up6⟩:=J5.put (k:=k) (v:=v) A6 rfl up (λp hp=>by have:=le p hp;lia) ⟨by lia,k1,v0,v1⟩ (by lia);have s35:=(s3.trans s4).trans s5;obtain⟨hl6,nl6⟩:=f6 _ _ nl' (s35 _ _ hl)
      (try dsimp only)
      refine⟨_,rfl,F6,_,ps++ [(k,v)],k,_,_,_,rfl,J6,up6,λp hp=>?_,by lia,by rw[zk,ln];rfl,by show x'.now+1+x'.ma<=_;lia,?_,hl6,nl6,λb o e=>f6 _ _ (o' b o e).2 (s35 _ _ (o' b o e).1)⟩
      .rcases zd.mp hp with hp|hp
       .have:=le p hp;lia
       .rw[zf.mp hp];exact Qb _
      .rw[E',rO es ha rk hb rv c];cases bc k (zs.drop (i+1))with
       |none=>rfl
       |some r=>show some (ps++(k,v)::r)=some (ps++ [(k,v)]++r);rw[Ql];rfl
    .exact o9 (λe=>c2 (by have:=V.int.inj e;rw[z8]at this;lia)) (cP T.aN sm3 (q2 (no (dX (kX es c2)))))
  .obtain⟨F',x',ps,last,v3,v4,v5,rfl,J,up,le,l1,ln,mo,E',hl,nl',o'⟩:=w;rw[z8,List.drop_length]at E';exact⟨_,rfl,q1 ps (by rw[E'];show some (ps++ [])=_;rw[List.append_nil]) H' a F' x' J o'⟩
def drw (c k:Int):Int:=((c+7919*k+1)*48271%2147483647)*(((c+7919*k+1)*48271%2147483647)/1009+69621)%2147483647
theorem uU (c k:Int):0<=drw c k:=zz _ (by decide)
def ku:Sp:=λvs H Q _=>∃c k:Int,vs=[.int c,.int k]/\Q (.int (drw c k)) H
theorem gl (T:Txt K mg t):a6 P w K mg base CX0 1 t.ig t.eV ["_law_cell","_law_k"] ku:=by
 refine T.cN.okl sc__law_drawn λ_ _ _ s H vs Q E hr h=>?_;obtain⟨c,k,rfl,q⟩:=h;refine⟨_,(af (ar (i:=2) sc__law_drawn.nd rfl (Or.inl rfl) (aq bg (aq iA (aq cm (aq cm (pv 0) (aq iA ai (pv 1))) ai) ai) ai))
   (aj (aC (aq bg (aq iA (pv 2) (aq cm (aq bI (pv 2) ai) ai)) ai))))
  ,?_⟩
 have pM:(0:Int)<2147483647:=by decide
 have m0:∀z:Int,0<=z%2147483647/\z%2147483647<2147483647:=λz=>⟨zz _ (by decide),zB _ (by decide)⟩;refine⟨_,rfl,_,rfl,_,_,rfl,rfl,.inl ⟨by decide,by decide⟩,_,_,rfl,rfl,_,_,rfl,rfl,_,_,rfl,rfl,.inr ⟨by decide,by decide⟩,_,_,rfl,rfl,pM,?_⟩;unfold drw at q;dsimp only;generalize ((c+7919*k+1)*48271)=z0 at q⊢;obtain⟨a0,a1⟩:=m0 z0;generalize z0%2147483647=z1 at a0 a1 q⊢;exact⟨_,rfl,_,rfl,_,_,rfl,rfl,⟨by decide,by decide⟩,_,_,rfl,rfl,_,_,rfl,rfl,.inl ⟨by lia,by lia⟩,_,_,rfl,rfl,pM,q⟩
theorem to1_is {z:Str}:Txt.slice z none (some 1)=("-":Str)↔bel z=true:=by
 unfold bel;rw[decide_eq_true_eq];have e:=qv z;constructor
 .intro h;rw[h,v6]at e;cases q:sg z with
  |nil=>rw[q]at e;cases e
  |cons a r=>rw[q]at e;cases e;rfl
 .intro h;rw[v6];refine jz ?_;rw[e];cases q:sg z with
  |nil=>rw[q]at h;cases h
  |cons a r=>rw[q]at h;cases h;rfl
theorem wR {z:Str} (h:(sg (fig z)).all dg=true):acc z=if z=("0":Str)then true else(decide (1<=((fig z).length:Int))&&decide (((fig z).length:Int)<=60))&&decide ((sg (fig z)).head?≠some 48):=by
 unfold acc iK;rw[h,Bool.and_true];have fs:=mJ z;by_cases c0:z=("0":Str)
 .rw[if_pos c0];subst c0;decide+kernel
 rw[if_neg c0];by_cases c1:(decide (1<=((fig z).length:Int))&&decide (((fig z).length:Int)<=60))=true
 .rw[c1,zW,zW];by_cases c2:(sg (fig z)).head?=some 48
  .rw[decide_eq_true c2,zW];by_cases c3:fig z=("0":Str)
   .rw[decide_eq_true c3];cases eb:bel z with
    |true=>simp[c2]
    |false=>
     rw[eb]at fs;exact absurd ((jz fs).trans c3) c0
   .rw[decide_eq_false c3];simp[c2,c3]
  .rw[decide_eq_false c2,yI];have c3:¬fig z=("0":Str):=λe=>c2 (by rw[e];decide+kernel);rw[decide_eq_false c3,yv];simp[c2]
 .rw[Bool.not_eq_true]at c1;rw[c1];rfl
def nmV (z:Str):V:=if acc z=true then(match PySem.intText? z with|some n=> .int n|none=> .non)else .non
theorem oU {z:Str} (h:acc z=false):nmV z= .non:=by
 unfold nmV;rw[if_neg (by rw[h];decide)]
theorem mm {z:Str} (h:acc z=true):∃n:Int,nmV z= .int n/\PySem.intText? z=some n:=by
 obtain⟨n,r,_⟩:=c5 h;exact⟨n,by unfold nmV;rw[if_pos h,r],r⟩
def jo:Sp:=λvs H Q _=>∃z:Str,vs=[.str z]/\z.length<=100000/\∀H',Same H H'->Q (nmV z) H'
theorem jT (T:Txt K mg t):a6 P w K mg base CX0 1 t.gw t.dG ["_law_word"] jo:=by
 refine T.gJ.okl sc__law_number λ_ _ _ s H vs Q E hr h=>?_;obtain⟨z,rfl,zl,q⟩:=h;refine⟨_,(af (ar (i:=1) sc__law_number.nd rfl (Or.inl rfl) (pv 0))
   (af (aY (az cw (aO oH (pv 0) aX (aW ai)) aZ (aD _))
   (aj (ar (i:=1) sc__law_number.nd rfl (Or.inl rfl) (aO oH (pv 0) (aW ai) aX)))
   aG)
   (af (jM PassesOwn.never rfl (rS (pv 1)) (eM (i:=2) sc__law_number.nd rfl (Or.inl rfl))
   (aj (aY (az mi (pv 2) aZ rfl)
   (aj (aC jO))
   aG)))
   (af (aY (PW.pt (jK (fB (nq lg lg ai (aB hZ (by rfl) T.bE be (aa (pv 1) ah)) ai)) (jJ (PW.pt (fA (az cw (bu wB (pv 1) ai (λ_ _=>rfl)) aZ (aD _)) (db (az pP (pv 0) aZ (aD _))))))))
   (aj (aC jO))
   aG)
   (aj (aC (fZ gu (by rfl) T.w5 sV (aa (pv 0) ah))))))))
  ,?_⟩
 have big:100000<=sizeLine:=by decide
 have fl:=p8 z;refine⟨_,rfl,?_⟩
 (try dsimp only)
 refine gW (λσ' H'=>σ'=[some (.str z),some (.str (fig z)),none]/\H'=H) (λnx go=>?_) (λσ' H' w=>?_)
 .refine⟨_,rfl,_,rfl,z,rfl,by lia,rfl,_,rfl,dE (λc=>?_) (λc=>?_)⟩
  .have c:=V.str.inj (of_decide_eq_true c);refine⟨_,rfl,_,rfl,z,rfl,by lia,go _ _ ⟨?_,rfl⟩⟩;unfold fig;rw[if_pos (to1_is.mp c)];rfl
  .have c:¬Txt.slice z none (some 1)=("-":Str):=λe=>c (decide_eq_true (by rw[e]));refine go _ _ ⟨?_,rfl⟩;unfold fig;rw[if_neg λe=>c (to1_is.mpr e)];rfl
 obtain⟨eσ,eH⟩:=w;rw[eσ,eH];clear eσ eH;refine⟨_,rfl,fig z,rfl,sH (z:=fig z) (λi σ H'=>∃v2:Option V,σ=[some (.str z),some (.str (fig z)),v2]/\H'=H/\((sg (fig z)).take i).all dg=true) ⟨_,rfl,rfl,rfl⟩ (λi c σ H' hc w=>?_) (λσ H' w=>?_)⟩
 .obtain⟨v2,eσ,eH,ad⟩:=w;rw[eσ,eH];have hc':(sg (fig z))[i]?=some c:=by rw[<-hc];simp[sg]
  refine⟨_,rfl,⟨#[c]⟩,_,rfl,rfl,_,rfl,?_⟩;rw[p0];cases ed:dg c with
  |true=>
   refine d5 ⟨_,rfl,rfl,?_⟩;rw[zN,hc',List.all_append,ad,zW];show(dg c&&true)=true;rw[ed];rfl
  |false=>
   refine cf ?_;have:=q H (Same.refl _);have e:(sg (fig z)).all dg=false:=by
    rw[Bool.eq_false_iff];intro h;have:=zM.mp h c (z7 hc');rw[ed]at this;cases this
   have ea:acc z=false:=by
    unfold acc iK;rw[e,yv,yI]
   unfold nmV at this;rw[ea,if_neg zb]at this;exact this
 .obtain⟨v2,eσ,eH,ad⟩:=w;rw[eσ,eH];have ad:(sg (fig z)).all dg=true:=by
   rw[zA (by have:=bK (fig z);have:(fig z).length=(fig z).cps.size:=rfl;lia)]at ad;exact ad
  have e3:=wR ad;have no:acc z=false->Q .non H:=λh=>by
   have:=q H (Same.refl _);rwa [oU h]at this
  have yes:acc z=true->∃n,PySem.intText? z=some n/\z.length<=640/\Q (.int n) H:=λh=>by
   obtain⟨n,e,r⟩:=mm h;obtain⟨_,_,_,_,_,l6⟩:=c5 h;have:=q H (Same.refl _);rw[e]at this;exact⟨n,r,by lia,this⟩
  have fin:acc z=true->∃n,PySem.intText? z=some n/\z.length<=640/\Q (.int n) H:=yes;refine⟨_,rfl,fig z,rfl,by lia,_,_,rfl,rfl,_,rfl,?_⟩;have ln:=bK (fig z);by_cases c1:(1:Int)<=((fig z).length:Int)
  .refine iF c1 ⟨_,_,rfl,rfl,_,rfl,?_⟩;by_cases c2:((fig z).length:Int)<=60
   .rw[decide_eq_true c1,decide_eq_true c2,zW,zW]at e3;rw[decide_eq_true c2];refine d5 ?_;cases e:sg (fig z)with
    |nil=>rw[e]at ln;simp at ln;lia
    |cons a r=>
     rw[e]at e3;refine⟨_,rfl,fig z,0,a,rfl,rfl,by lia,(by show atI (sg (fig z)) ((0:Nat):Int)=some a;exact ia (by rw[e];rfl)),rfl,_,rfl,?_⟩;rw[show(Str.ofString "0")=⟨#[48]⟩ from str0];by_cases ca:a=48
     .subst ca;refine mD rfl ⟨_,rfl,rfl,_,rfl,?_⟩;by_cases c0:z=("0":Str)
      .rw[if_pos c0]at e3;obtain⟨n,h1,h2,h3⟩:=fin e3;refine pZ (by rw[c0];exact congrArg V.str str0) ?_;exact⟨_,rfl,z,n,rfl,h1,h2,h3⟩
      .rw[if_neg c0]at e3;exact o9 (λy=>c0 (by rw[V.str.inj y];exact str0.symm)) (no (by rw[e3];rfl))
     .have c0:z≠("0":Str):=λc0=>by
       have:fig z=("0":Str):=by rw[c0];decide+kernel
       rw[this]at e;have e:[48]=a::r:=by rw[<-e];decide+kernel
       cases e;exact ca rfl
      rw[if_neg c0]at e3;obtain⟨n,h1,h2,h3⟩:=fin (by rw[e3];exact decide_eq_true λh=>ca (Option.some.inj h));refine bH (λy=>ca (by cases V.str.inj y;rfl)) ?_;exact⟨_,rfl,z,n,rfl,h1,h2,h3⟩
   .rw[decide_eq_false c2,yv,yI]at e3;rw[decide_eq_false c2];refine cf (cf (no ?_));rw[e3];refine if_neg λc0=>c2 ?_;rw[show fig z=("0":Str) by rw[c0];decide+kernel];decide+kernel
  .rw[decide_eq_false c1,yI,yI]at e3;refine bH c1 ⟨_,rfl,cf (cf (no ?_))⟩;rw[e3];refine if_neg λc0=>c1 ?_;rw[show fig z=("0":Str) by rw[c0];decide+kernel];decide+kernel
def lZ (K:PySem.W.Frag):Sp:=λvs H Q _=>∃z:Str,vs=[.str z]/\z.length<=100000/\∀H',Same H H'->Q (.bl (rdT z).isSome) H'
theorem ml (T:Txt K mg t):a6 P w K mg base CX0 2 t.iV t.fK ["_law_text"] (lZ K):=by
 refine T.ot.okl sc__law_good λ_ _ _ s H vs Q E hr h=>?_;obtain⟨z,rfl,zl,q⟩:=h;refine⟨_,(af (ar (i:=1) sc__law_good.nd rfl (Or.inl rfl) (nC jk ai))
   (af (aY (az cw (pv 0) aZ (aD _))
   (aj (aC gj))
   aG)
   (af (jM PassesOwn.never rfl (g6 (bW zE yr yt fG (pv 0) (aa aZ ah))) (eM (i:=2) sc__law_good.nd rfl (Or.inl rfl))
   (af (ar (i:=3) sc__law_good.nd rfl (Or.inl rfl) (bW zE yr yt fG (pv 2) (aa aZ ah)))
   (af (aY (az pP (aB ax (by rfl) T.bE be (aa (pv 3) ah)) ai (aD _))
   (aj (aC gj))
   aG)
   (af (ar (i:=4) sc__law_good.nd rfl (Or.inl rfl) (aE (jT T) hr.mo (by rfl) T.kP T.gJ.kp T.kS .nil aF (aa (bu aP (pv 3) ai (λ_ _=>rfl)) ah)))
   (af (aY (PW.pt (jK (az r9 (pv 4) jO (aD _)) (jK (az r9 (aE (jT T) hr.mo (by rfl) T.kP T.gJ.kp T.kS .nil aF (aa (bu aP (pv 3) ai (λ_ _=>rfl)) ah)) jO (aD _)) (jJ (az lg (pv 4) (pv 1) (aD _))))))
   (aj (aC gj))
   aG)
   (aj (ar (i:=1) sc__law_good.nd rfl (Or.inl rfl) (pv 4))))))))
   (aj (aC gj)))))
  ,?_⟩
 refine⟨_,rfl,?_⟩
 (try dsimp only)
 refine⟨_,rfl,rfl,_,rfl,?_⟩;unfold rdT at q;by_cases ze:z=("":Str)
 .rw[if_pos ze]at q;exact mD (by rw[ze]) (q H (Same.refl _))
 rw[if_neg ze]at q;refine bH (λy=>ze (V.str.inj y)) ?_
 (try dsimp only)
 refine⟨_,rfl,rfl,_,_,rfl,rfl,by decide+kernel,zl,λl nl=>?_⟩;rw[show(Str.ofString "\n")=("\n":Str) from rfl];have wl:∀y∈Txt.split z ("\n":Str),y.length<=100000:=λy hy=>zC (gT (by decide+kernel) hy) zl;generalize Txt.split z ("\n":Str)=zs at wl q⊢;have s2:=ak (o:= .lst (zs.map V.str)) nl;have h2:upd H l (.lst (zs.map V.str)) l=some (.lst (zs.map V.str)):=ag;generalize upd H l (.lst (zs.map V.str))=H2 at s2 h2⊢;refine⟨l,rfl,⟨_,SqL.of h2⟩,lK (K:=K) (a:=l) (xs:=zs.map V.str) (λi σ H'=>∃(last:Int) (v2 v3 v4:Option V),σ=[some (.str z),some (.int last),v2,v3,v4]/\Same H2 H'/\(bc (-1) zs).isSome=(bc last (zs.drop i)).isSome) ⟨-1,none,none,none,rfl,Same.refl _,rfl⟩ (λi σ H' _ w=>?_) (λi u σ H' hu w=>?_) (λσ H' w=>?_)⟩
 .obtain⟨last,v2,v3,v4,rfl,s,E'⟩:=w;exact SqL.of (s _ _ h2)
 .obtain⟨last,v2,v3,v4,rfl,s,E'⟩:=w;rw[zD]at hu;cases cy:zs[i]? with
  |none=>rw[cy]at hu;cases hu
  |some y=>
   rw[cy]at hu;cases hu;have hi:=(za.mp cy).1;have dy:zs.drop i=y::zs.drop (i+1):=by
    rw[yY hi,(za.mp cy).2]
   rw[dy]at E';have yl:=wl y (z7 cy);have no:∀{H3:Hp},Same H' H3->bc last (y::zs.drop (i+1))=none->Q (.bl false) H3:=λ{H3} s3 h=>by
    have:=q H3 ((s2.trans s).trans s3);rw[E',h]at this;exact this
   unfold iQ
   (try dsimp only)
   refine⟨_,rfl,rfl,_,_,rfl,rfl,by decide+kernel,yl,λlw nw=>?_⟩;rw[show(Str.ofString " ")=(" ":Str) from rfl];have ww:∀w∈Txt.split y (" ":Str),w.length<=100000:=λw hw=>zC (gT (by decide+kernel) hw) yl;generalize es:Txt.split y (" ":Str)=ws at ww⊢;have s3:=ak (o:= .lst (ws.map V.str)) nw;have h3:upd H' lw (.lst (ws.map V.str)) lw=some (.lst (ws.map V.str)):=ag;generalize upd H' lw (.lst (ws.map V.str))=H3 at s3 h3⊢
   (try dsimp only)
   refine⟨_,rfl,lw,_,rfl,.inl (SqL.of h3),rfl,_,rfl,?_⟩;by_cases c2:ws.length=2
   .refine pZ (by rw[z8,c2];rfl) ?_;obtain⟨w0,w1,rfl⟩:∃w0 w1,ws=[w0,w1]:=by
     rcases ws with _|⟨w0,_|⟨w1,_|⟨w2,r⟩⟩⟩
     .cases c2
     .cases c2
     .exact⟨_,_,rfl⟩
     .simp at c2
    (try dsimp only)
    refine⟨_,rfl,lw,_,_,_,rfl,rfl,SqL.of h3,rfl,w0,rfl,ww w0 zi,λH4 s4=>?_⟩;have h4:=s4 _ _ h3
    (try dsimp only)
    cases ha:acc w0 with
    |false=>
     rw[oU ha];exact⟨_,rfl,rfl,_,rfl,mD rfl (no (s3.trans s4) (dX (by rw[cO es,if_neg (by rw[ha];decide)])))⟩
    |true=>
     obtain⟨k,ek,rk⟩:=mm ha;rw[ek];refine⟨_,rfl,rfl,_,rfl,bH (λz=>by cases z) ⟨_,rfl,lw,_,_,_,rfl,rfl,SqL.of h4,rfl,w1,rfl,ww w1 (zj _ zi),λH5 s5=>?_⟩⟩;cases hb:acc w1 with
     |false=>
      rw[oU hb];exact⟨rfl,_,rfl,mD rfl (no ((s3.trans s4).trans s5) (dX (by rw[cO es,if_pos ha,if_neg (by rw[hb];decide)])))⟩
     |true=>
      obtain⟨v,ev,rv⟩:=mm hb;rw[ev];refine⟨rfl,_,rfl,bH (λz=>by cases z) ⟨_,rfl,_,rfl,_,_,rfl,rfl,_,rfl,dE (λc=>?_) (λc=>?_)⟩⟩
      .have c:=of_decide_eq_true c;exact no ((s3.trans s4).trans s5) (pK es ha rk (by lia))
      .have c:last<k:=by
        rcases Int.lt_or_le last k with g|g
        .exact g
        .exact absurd (decide_eq_true g) c
       (try dsimp only)
       refine⟨_,rfl,k,_,_,_,rfl,((s.trans s3).trans s4).trans s5,?_⟩;rw[E',rO es ha rk hb rv c];cases bc k (zs.drop (i+1))<;>rfl
   .exact o9 (λe=>c2 (by have:=V.int.inj e;rw[z8]at this;lia)) (no s3 (dX (kX es c2)))
 .obtain⟨last,v2,v3,v4,rfl,s,E'⟩:=w;rw[z8,List.drop_length]at E';have:=q H' (s2.trans s);rw[E']at this;exact this
def iW (K:PySem.W.Frag):Sp:=λvs H Q _=>((∃z:Str,vs=[.str z]/\z.length<=100000/\(Txt.split z ("\n":Str)).length<=3000/\rdT z=none)\/(∃(x:V) (ty:Value),vs=[x]/\TyOf K H x ty/\PySem.W.kitOne K ty (.type "str")=some false))/\∀H',Same H H'->Q (.bl true) H'
theorem i6 (T:Txt K mg t):a6 P w K mg base CX0 7 t.fP t.cW ["_law_thing"] (iW K):=by
 refine T.fV.ok sc__law_refused (λvs H Q E h=>?_) (λcdv A outer s H vs Q E hr h=>?_)
 .obtain⟨h,_⟩:=h;rcases h with⟨z,rfl,_⟩|⟨x,ty,rfl,_⟩<;>rfl
 .obtain⟨h,q⟩:=h;refine⟨_,(af (wa rfl rfl (λpn E=>(aj (bq (rY (gk T) hr.mo (by rfl) T.mw T.ir.kp T.mP .nil xv (aa (pv 0) ah)))))
   (xu (i:=1) sc__law_refused.nd rfl rfl (by rfl) T.uE T.t7 (λea=>(af (aY (PW.pt (jK (cG (aB (dS K rfl) (by rfl) T.bY bz (aa (pv 1) (aa (cv (v:= .ref t.mM) (by rfl) T.xA rfl) ah)))) (jJ (cG (aB (dS K rfl) (by rfl) T.bY bz (aa (pv 1) (aa (cv (v:= .ref t.iJ) (by rfl) T.wu rfl) ah)))))))
   (aj (aC gj))
   aG)
   (aj (aC (rZ (aB (dS K rfl) (by rfl) T.bY bz (aa (pv 1) (aa (cv (v:= .ref t.bw) (by rfl) T.dZ rfl) ah))) (rW (aB (kQ K rfl) (by rfl) T.bY bz (aa (pv 1) (aa (me (v:= .ty "ValueError") (by rfl) T.t6 kR rfl) ah))))))))) uy))
   (aj (aC gj)))
   ,?_⟩
  rcases h with⟨z,rfl,zl,zn,ac⟩|⟨x,ty,rfl,ht,hk⟩
  case' inl=>refine⟨_,rfl,.inl ⟨z,rfl,zl,zn,(λps e=>by rw[ac]at e;cases e),λ_ ea od H' hx hs=>?_⟩⟩
  case' inr=>refine⟨_,rfl,.inr ⟨x,ty,rfl,ht,hk,λea od H' hx hs=>?_⟩⟩
  all_goals
   refine⟨ea,t.bw,rfl,hx.1,_,true,T.aN,T.ou,cf ?_⟩;refine⟨_,rfl,ea,od,_,_,_,_,_,rfl,hx,T.aN,T.iu,mC T.aN T.xa T.rn,false,rfl,d5 ?_⟩;refine⟨_,rfl,ea,od,_,_,_,_,_,rfl,hx,T.aN,T.iu,mC T.aN T.vT T.pF,?_⟩;refine⟨_,rfl,d5 ?_⟩;refine⟨_,rfl,ea,od,_,_,_,_,_,rfl,hx,T.aN,T.iu,mC T.aN T.aN T.qp,true,rfl,cf ?_⟩;exact⟨_,rfl,ea,od,_,_,_,_,_,rfl,hx,T.aN,T.iu,uL T.aN,q H' hs⟩
def Tx (H:Hp) (Q:VK) (n m:Nat):Prop:=∀(H':Hp) (l:Addr) (ws:List Str),Same H H'->H' l=some (.lst (ws.map V.str))->ws.length<=n->(∀x∈ws,x.length<=m)->Q (.ref l) H'
def lY (K:PySem.W.Frag):Sp:=λvs H Q _=>∃(a:Addr) (ns:List Int),vs=[.ref a]/\SqL K H a (ns.map V.int)/\Tx H Q 8 200
def iY:Sp:=λvs H Q _=>∃(l:Addr) (ws:List Str) (c:Int),vs=[.ref l,.int c]/\H l=some (.lst (ws.map V.str))/\ws.length<=8/\(∀x∈ws,x.length<=200)/\0<=c/\Tx H Q 9 200
def iw:Sp:=λvs H Q _=>∃(l:Addr) (ws:List Str) (c:Int),vs=[.ref l,.int c]/\H l=some (.lst (ws.map V.str))/\1<=ws.length/\ws.length<=8/\(∀x∈ws,x.length<=200)/\0<=c/\∀(H':Hp) (l':Addr) (us:List Str),Same H H'->H' l'=some (.lst (us.map V.str))->us.length<=9->(us.map (·.length)).sum<=2700->Q (.ref l') H'
def rH (K:PySem.W.Frag):Sp:=λvs H Q _=>∃(a:Addr) (ns:List Int),vs=[.ref a]/\SqL K H a (ns.map V.int)/\ns.length<=63/\∀H',Q (.bl true) H'
theorem mj (T:Txt K mg t):a6 P w K mg base CX0 2 t.iU t.fJ ["_law_script"] (lY K):=by
 refine T.oq.okl sc__law_rows λ_ _ _ s H vs Q E hr h=>?_;obtain⟨sc,ns,rfl,hS,q⟩:=h;refine⟨_,(af (ar (i:=1) sc__law_rows.nd rfl (Or.inl rfl) (bp ah))
   (af (ar (i:=2) sc__law_rows.nd rfl (Or.inl rfl) (aq bg (aq bI (aE (fj T) hr.mo (by rfl) T.bh T.a7.kp T.bj .nil aF (aa (pv 0) (aa ai ah))) ai) ai))
   (af (jM PassesOwn.never rfl (kZ (by rfl) T.t5 (aa (aq bg (aE (fj T) hr.mo (by rfl) T.bh T.a7.kp T.bj .nil aF (aa (pv 0) (aa ai ah))) ai) ah)) (eM (i:=3) sc__law_rows.nd rfl (Or.inl rfl))
   (af (ar (i:=4) sc__law_rows.nd rfl (Or.inl rfl) (aE (fj T) hr.mo (by rfl) T.bh T.a7.kp T.bj .nil aF (aa (pv 0) (aa (aq cm ai (pv 3)) ah))))
   (af (ar (i:=5) sc__law_rows.nd rfl (Or.inl rfl) (bu aP (bp (aa (aq jP (aq bg (aq bI (pv 4) ai) ai) ai) (aa (aq jP (aq bg (pv 4) (aq jP (aq iA ai (aq mh ai ai)) ai)) (aq jP (aq mh ai ai) ai)) ah))) (aq bg (aE (gl T) hr.mo (by rfl) T.eQ T.cN.kp T.fc .nil aF (aa (pv 4) (aa ai ah))) ai) (λ_ _=>rfl)))
   (af (bq (bW zH zP zQ cn (pv 1) (aa (aq jQ (aq jQ (fZ hX (by rfl) T.rs mN (aa (pv 2) ah)) aZ) (fZ hX (by rfl) T.rs mN (aa (pv 5) ah))) ah)))
   (aj (ar (i:=2) sc__law_rows.nd rfl (Or.inl rfl) (aq cm (aq cm (pv 2) ai) (bu aP (bp (aa (aq bg (aq bI (pv 4) ai) ai) (aa (aq bg (pv 4) (aq mh ai ai)) ah))) (aq bg (aE (gl T) hr.mo (by rfl) T.eQ T.cN.kp T.fc .nil aF (aa (pv 4) (aa ai ah))) ai) (λ_ _=>rfl)))))))))
   (aj (aC (pv 1))))))
  ,?_⟩
 refine⟨(by show 0<=sizeLine;decide),λr nr=>?_⟩;have cS:SqF K (λb=>b=r) (upd H r (.lst [])) sc (ns.map V.int):=(SqF.of (F:=λb=>b=r) hS λo e z=>by rw[z,nr]at e;cases e).fr (Fr.of_same (ak nr));have s1:=ak (o:= .lst []) nr;have h1:upd H r (.lst []) r=some (.lst []):=ag
 (try dsimp only)
 generalize upd H r (.lst [])=H1 at cS s1 h1⊢;obtain⟨c0,ec0⟩:∃c:Int,ns.getD (0:Int).toNat 0=c:=⟨_,rfl⟩;refine⟨_,rfl,sc,ns,0,rfl,cS.sq,by decide,?_⟩;rw[ec0];refine⟨_,_,rfl,rfl,⟨by decide,by decide⟩,_,_,rfl,rfl,(by show(0:Int)<10;decide),?_⟩
 (try dsimp only)
 have k0:=zz (c0/9) (show(10:Int)≠0 by decide);have k1:=zB (c0/9) (show(0:Int)<10 by decide);generalize c0/9%10=key at k0 k1⊢;have m0:=zz c0 (show(9:Int)≠0 by decide);have m1:=zB c0 (show(0:Int)<9 by decide);refine⟨_,rfl,sc,ns,0,rfl,cS.sq,by decide,?_⟩;rw[ec0];refine⟨_,_,rfl,rfl,(by show(0:Int)<9;decide),c0%9,rfl,by lia,by lia,?_⟩;generalize c0%9=m at m0 m1⊢;refine pe (n:=m.toNat) (λi σ H'=>∃(ws:List Str) (key:Int) (v3 v4 v5:Option V),σ=[some (.ref sc),some (.ref r),some (.int key),v3,v4,v5]/\H' r=some (.lst (ws.map V.str))/\ws.length=i/\(∀x∈ws,x.length<=200)/\0<=key/\key<10+(i:Int)*(10^59+1)/\∀b o,b≠r->H1 b=some o->H' b=some o) ⟨[],key,none,none,none,rfl,h1,rfl,(λx hx=>absurd hx y8),k0,by lia,λb o _ e=>e⟩ (λi σ H2 hi w=>?_) (λσ H2 w=>?_)
 .obtain⟨ws,key,v3,v4,v5,rfl,hr2,lw,wl,k0,k1,kp⟩:=w;have cS2:SqF K (λb=>b=r) H2 sc (ns.map V.int):=cS.fr λb o n e=>⟨kp b o n e,n⟩;unfold iQ
  (try dsimp only)
  refine⟨_,rfl,_,rfl,_,_,rfl,rfl,sc,ns,_,rfl,cS2.sq,by lia,?_⟩
  (try dsimp only)
  generalize ns.getD (4+(0+(i:Int))).toNat 0=c;have p60:(10:Int)^(60:Int).toNat=10^60:=rfl;have p59:(10:Int)^(59:Int).toNat=10^59:=rfl;have q60:(0:Int)<2*10^(60:Int).toNat-1:=by decide
  have q59:(0:Int)<10^(59:Int).toNat:=by decide
  obtain⟨v,hv,v0,v1⟩:=vD (c:=drw c 1) (n:=2) (L:=[.int (c/2%7-3),.int (c%(2*10^(60:Int).toNat-1)-(10^(60:Int).toNat-1))]) (P:=λm=> -(10^60)<m/\m<10^60) ⟨by
   have a0:=zz (c/2) (show(7:Int)≠0 by decide);have a1:=zB (c/2) (show(0:Int)<7 by decide);constructor<;>lia,by
   have a0:=zz c (yJ q60);have a1:=zB c q60;rw[p60]at a0 a1⊢;constructor<;>lia,trivial⟩ rfl (by decide)
  obtain⟨d,hd,d0,d1⟩:=vD (c:=drw c 2) (n:=2) (L:=[.int (c/2%9),.int (c%10^(59:Int).toNat)]) (P:=λm=>0<=m/\m<10^59) ⟨by
   have a0:=zz (c/2) (show(9:Int)≠0 by decide);have a1:=zB (c/2) (show(0:Int)<9 by decide);constructor<;>lia,by
   have a0:=zz c (yJ q59);have a1:=zB c q59;rw[p59]at a0 a1⊢;constructor<;>lia,trivial⟩ rfl (by decide)
  refine⟨_,rfl,_,_,rfl,rfl,⟨by decide,by decide⟩,_,_,rfl,rfl,(by show(0:Int)<7;decide),_,_,rfl,rfl,_,rfl,_,_,rfl,rfl,⟨by decide,by decide,by decide⟩,_,_,rfl,rfl,.inl ⟨by decide,by decide⟩,_,_,rfl,rfl,_,_,rfl,rfl,q60,_,_,rfl,rfl,⟨by decide,by decide,by decide⟩,_,_,rfl,rfl,_,_,rfl,rfl,(by show 2<=sizeLine;decide),λp np=>?_⟩;have s3:=ak (o:= .lst [.int (c/2%7-3),.int (c%(2*10^(60:Int).toNat-1)-(10^(60:Int).toNat-1))]) np;refine⟨_,rfl,c,1,rfl,_,_,rfl,rfl,(by show(0:Int)<2;decide),p,_,_,_,rfl,rfl,SqL.of ag,hv,?_⟩;generalize upd H2 p (.lst [.int (c/2%7-3),.int (c%(2*10^(60:Int).toNat-1)-(10^(60:Int).toNat-1))])=H3 at s3⊢;have hr3:=s3 _ _ hr2
  (try dsimp only)
  have kb:key<10^60:=by
   have:(i:Int)<=7:=by lia
   lia
  have l1:=jd (i:=key) (by lia) kb;have l2:=jd v0 v1;have l3:(" ":Str).length=1:=by decide+kernel
  have big:1000<=sizeLine:=by decide
  refine⟨_,rfl,.inl ⟨rfl,_,SqL.of hr3⟩,_,rfl,key,rfl,jc (by lia) kb,_,_,rfl,rfl,by lia,_,rfl,v,rfl,jc v0 v1,_,_,rfl,rfl,(by rw[cQ];lia),r,_,_,rfl,rfl,hr3,bO (by rw[z8];lia),?_⟩;have hr4:upd H3 r (.lst (ws.map V.str++ [.str (Str.ofString (toString key)++(" ":Str)++Str.ofString (toString v))])) r=some (.lst ((ws++ [Str.ofString (toString key)++(" ":Str)++Str.ofString (toString v)]).map V.str)):=by rw[ag,zo];rfl
  have kp4:∀b o,b≠r->H1 b=some o->upd H3 r (.lst (ws.map V.str++ [.str (Str.ofString (toString key)++(" ":Str)++Str.ofString (toString v))])) b=some o:=λb o n e=>by rw[ae n];exact s3 _ _ (kp b o n e)
  generalize upd H3 r (.lst (ws.map V.str++ [.str (Str.ofString (toString key)++(" ":Str)++Str.ofString (toString v))]))=H4 at hr4 kp4⊢
  (try dsimp only)
  refine⟨_,rfl,_,_,rfl,rfl,_,rfl,_,_,rfl,rfl,⟨by decide,by decide⟩,_,_,rfl,rfl,(by show(0:Int)<9;decide),_,rfl,_,_,rfl,rfl,⟨by decide,by decide,by decide⟩,_,_,rfl,rfl,q59,(by show 2<=sizeLine;decide),λp2 np2=>?_⟩;have s5:=ak (o:= .lst [.int (c/2%9),.int (c%10^(59:Int).toNat)]) np2;refine⟨_,rfl,c,2,rfl,_,_,rfl,rfl,(by show(0:Int)<2;decide),p2,_,_,_,rfl,rfl,SqL.of ag,hd,_,_,rfl,rfl,?_⟩;refine⟨_,key+1+d,_,_,_,rfl,s5 _ _ hr4,by rw[zk,lw];rfl,λx hx=>?_,by lia,by rw[Int.natCast_add,Int.add_mul];lia,λb o n e=>s5 _ _ (kp4 b o n e)⟩;rcases zd.mp hx with hx|hx
  .exact wl x hx
  .rw[zf.mp hx,cQ,cQ];lia
 .obtain⟨ws,key,v3,v4,v5,rfl,hr2,lw,wl,k0,k1,kp⟩:=w;exact⟨_,rfl,q H2 r ws (λb o e=>kp b o (am e nr) (s1 _ _ e)) hr2 (by lia) wl⟩
theorem vC {c n:Int} {L:List V} {b:Nat} (M:List Str) (e:L=M.map V.str) (hn:(L.length:Int)=n) (h0:0<n) (hl:∀x∈M,x.length<=b):∃x:Str,atI L (c%n)=some (.str x)/\x.length<=b:=by
 obtain⟨v,hv,vm⟩:=vB (c:=c) (n:=n) (L:=L) hn h0;rw[e]at vm;obtain⟨x,hx,rfl⟩:=zx.mp vm;exact⟨x,hv,hl x hx⟩
theorem ji (ws:List Str) (lo hi:Option Int):∃us:List Str,c8 (ws.map V.str) lo hi=us.map V.str/\us.length=min (HT.sIx ws.length ws.length hi-HT.sIx ws.length 0 lo) (ws.length-HT.sIx ws.length 0 lo)/\∀x∈us,x∈ws:=by
 refine⟨(ws.drop (HT.sIx ws.length 0 lo)).take (HT.sIx ws.length ws.length hi-HT.sIx ws.length 0 lo),?_,?_,λx hx=>?_⟩
 .unfold c8;rw[yO,Q0,z8]
 .rw[zu,zG]
 .exact yz (yy hx)
theorem pH {d:Nat} {p:Int} (h0:0<=p) (h1:p<=n):HT.sIx n d (some p)=p.toNat:=by
 show(if p<0 then(p+(n:Int)).toNat else min p.toNat n)=p.toNat;rw[if_neg (by lia)];lia
theorem m7 {d:Nat}:HT.sIx n d (some (-1))=n-1:=by
 show(if(-1:Int)<0 then(-1+(n:Int)).toNat else min (-1:Int).toNat n)=n-1;rw[if_pos (by decide)];lia
theorem sQ (ws:List Str) {p:Int} (h0:0<=p) (h1:p<=ws.length):∃us:List Str,c8 (ws.map V.str) none (some p)=us.map V.str/\us.length=p.toNat/\∀x∈us,x∈ws:=by
 obtain⟨us,e,l,m⟩:=ji ws none (some p);rw[pH h0 h1,HT.sIx_none]at l;exact⟨us,e,by lia,m⟩
theorem n9 (ws:List Str) {p:Int} (h0:0<=p) (h1:p<=ws.length):∃us:List Str,c8 (ws.map V.str) (some p) none=us.map V.str/\us.length=ws.length-p.toNat/\∀x∈us,x∈ws:=by
 obtain⟨us,e,l,m⟩:=ji ws (some p) none;rw[pH h0 h1,HT.sIx_none]at l;exact⟨us,e,by lia,m⟩
theorem sS (ws:List Str):∃us:List Str,c8 (ws.map V.str) none (some (-1))=us.map V.str/\us.length=ws.length-1/\∀x∈us,x∈ws:=by
 obtain⟨us,e,l,m⟩:=ji ws none (some (-1));rw[m7,HT.sIx_none]at l;exact⟨us,e,by lia,m⟩
theorem sR (ws:List Str):∃us:List Str,c8 (ws.map V.str) (some (-1)) none=us.map V.str/\us.length<=1/\∀x∈us,x∈ws:=by
 obtain⟨us,e,l,m⟩:=ji ws (some (-1)) none;rw[m7,HT.sIx_none]at l;exact⟨us,e,by lia,m⟩
theorem bD {l1 p2:Addr} {A B:List Str} {Q:VK} (h1:H l1=some (.lst (A.map V.str))) (n2:H p2=none) (hz:A.length+B.length<=1000) (k:∀H' l',Same H H'->H' l'=some (.lst ((A++B).map V.str))->Q (.ref l') H'):
  rCat (.ref l1) (.ref p2) (upd H p2 (.lst (B.map V.str))) Q:=
 ⟨l1,p2,_,_,rfl,rfl,ak n2 _ _ h1,ag,by rw[z8,z8];exact zC hz (by decide),λp3 n3=>k _ p3 ((ak n2).trans (ak n3)) (by rw[ag,zo])⟩
theorem sZ (h0:0<=k) (h1:k<ws.length):∃y:Str,atI (ws.map V.str) k=some (.str y)/\y∈ws:=by
 obtain⟨j,rfl⟩:∃j:Nat,k=(j:Int):=⟨k.toNat,by lia⟩;have hj:j<ws.length:=by lia
 exact⟨ws[j],ia (by rw[zD,zc hj];rfl),yM hj⟩
theorem i7 (T:Txt K mg t):a6 P w K mg base CX0 1 t.fR t.cY ["_law_rows_here","_law_cell"] iY:=by
 refine T.kq.okl sc__law_by_rows λ_ _ _ s H vs Q E hr h=>?_;obtain⟨l,ws,c,rfl,hl,n2,hw,c0,q⟩:=h;refine⟨_,(af (ar (i:=2) sc__law_by_rows.nd rfl (Or.inl rfl) (aq bg (aq bI (pv 1) ai) (aq cm (aB ax (by rfl) T.bE be (aa (pv 0) ah)) ai)))
   (af (ar (i:=3) sc__law_by_rows.nd rfl (Or.inl rfl) (aq bg (pv 1) ai))
   (af (aY (PW.pt (fA (az cw (pv 3) ai (aD _)) (db (az (wn K rfl hr.u20) (pv 0) (bp ah) (aD _)))))
   (af (ar (i:=4) sc__law_by_rows.nd rfl (Or.inl rfl) (bu aP (pv 0) (aq bg (aq bI (pv 1) ai) (aB ax (by rfl) T.bE be (aa (pv 0) ah))) (λ_ _=>rfl)))
   (aj (aC (aq b6 (aq b6 (aO a8 (pv 0) aX (aW (pv 2))) (bp (aa (pv 4) ah))) (aO a8 (pv 0) (aW (pv 2)) aX)))))
   aG)
   (af (aY (az cw (pv 3) ai (aD _))
   (aj (aC (aq b6 (aq b6 (aO a8 (aO a8 (pv 0) aX (aW (pv 2))) aX (aW (nC jk ai))) (aO a8 (pv 0) (aW (pv 2)) aX)) (aO a8 (aO a8 (pv 0) aX (aW (pv 2))) (aW (nC jk ai)) aX))))
   aG)
   (af (aY (az cw (pv 3) ai (aD _))
      (@af _ _ _ _ _ (@ar _ _ 5 _ _ _ _ sc__law_by_rows.nd rfl (Or.inl rfl) (@bp _ _ _ _ (@bG _ _ _ _ _ _ (@bG _ _ _ _ _ _ (@bG _ _ _ _ _ _ (@bG _ _ _ _ _ _ (@bG _ _ _ _ _ _ (@bG _ _ _ _ _ _ ah))))))) (by rfl) (by first|exact .inl rfl|exact .inr rfl))
   (aj (aC (aq b6 (aq b6 (aO a8 (pv 0) aX (aW (pv 2))) (bp (aa (bu aP (pv 5) (aq bg (aq bI (pv 1) ai) ai) (λ_ _=>rfl)) ah))) (aO a8 (pv 0) (aW (pv 2)) aX)))))
   aG)
   (aj (aC (aq b6 (pv 0) (bp (aa aZ ah))))))))))
  ,?_⟩
 have big:1000<=sizeLine:=by decide
 have lw:((ws.map V.str).length:Int)=ws.length:=by rw[z8]
 have wl:(0:Int)<((ws.map V.str).length:Int)+1:=by lia
 have i0:=zz (c/5) (yJ wl);have i1:=zB (c/5) wl;refine⟨_,rfl,_,_,rfl,rfl,⟨by decide,by decide⟩,_,rfl,l,_,rfl,.inl (SqL.of hl),_,_,rfl,rfl,_,_,rfl,rfl,wl,?_⟩
 (try dsimp only)
 generalize c/5%(((ws.map V.str).length:Int)+1)=pl at i0 i1⊢;rw[lw]at i1;refine⟨_,rfl,_,_,rfl,rfl,(by show(0:Int)<5;decide),?_⟩
 (try dsimp only)
 generalize c%5=way;obtain⟨A,eA,lA,mA⟩:=sQ ws i0 (by lia);obtain⟨B,eB,lB,mB⟩:=n9 ws i0 (by lia);have three:∀(w:Str) (H':Hp) (l':Addr),w.length<=200->Same H H'->H' l'=some (.lst ((A++ [w]++B).map V.str))->Q (.ref l') H':=λw H' l' hw' s' e'=>
  q H' l' _ s' e' (by simp;lia) λx hx=>by
   rcases zd.mp hx with h|h
   .rcases zd.mp h with h|h
    .exact hw x (mA x h)
    .rw[zf.mp h];exact hw'
   .exact hw x (mB x h)
 refine gW (λσ' H'=>σ'=[some (.ref l),some (.int c),some (.int pl),some (.int way),none,none]/\Same H H') (λnx go=>?_) (λσ' H1 w=>?_)
 .refine⟨_,rfl,rfl,_,rfl,dE (λ_=>?_) (λ_=>go _ _ ⟨rfl,Same.refl _⟩)⟩;refine⟨_,rfl,(by show 0<=sizeLine;decide),λe ne=>⟨l,e,_,rfl,rfl,SqL.of (ak ne _ _ hl),SqL.of ag,_,rfl,?_⟩⟩;have se:=ak (o:= .lst []) ne;generalize upd H e (.lst [])=He at se⊢;have he:=se _ _ hl;cases hws:(ws.map V.str).isEmpty with
  |true=>exact d5 (go _ _ ⟨rfl,se⟩)
  |false=>
   have wp:(0:Int)<(ws.map V.str).length:=by
    cases ws with
    |nil=>cases hws
    |cons a r=>simp
   obtain⟨y,hy,ym⟩:=sZ (ws:=ws) (k:=c/100%((ws.map V.str).length:Int)) (zz _ (yJ wp)) (by have:=zB (c/100) wp;lia);refine cf ⟨_,rfl,_,rfl,_,_,rfl,rfl,⟨by decide,by decide⟩,_,rfl,l,_,rfl,.inl (SqL.of he),_,_,rfl,rfl,wp,l,_,_,_,rfl,rfl,SqL.of he,hy,?_⟩
   (try dsimp only)
   refine⟨_,rfl,_,rfl,_,rfl,l,_,rfl,SqL.of he,λp1 n1=>⟨_,rfl,(by show 1<=sizeLine;decide),λp2 n2=>?_⟩⟩;rw[eA]at n2⊢;refine bD (B:=[y]) ag n2 (by simp;lia) λH3 p3 s3 e3=>⟨_,rfl,_,rfl,_,rfl,l,_,rfl,SqL.of (s3 _ _ (ak n1 _ _ he)),λp4 n4=>?_⟩;rw[eB];exact bD e3 n4 (by simp;lia) λH' l' s' e'=>three y H' l' (hw y ym) (se.trans (((ak n1).trans s3).trans s')) e'
 obtain⟨rfl,s1⟩:=w;have h1:=s1 _ _ hl;refine⟨_,rfl,rfl,_,rfl,dE (λ_=>?_) (λ_=>?_)⟩
 .obtain⟨F,eF,lF,mF⟩:=sS A;obtain⟨G,eG,lG,mG⟩:=sR A;refine⟨_,rfl,_,rfl,_,rfl,l,_,rfl,SqL.of h1,λp1 n1=>?_⟩;rw[eA];refine⟨_,rfl,_,rfl,p1,_,rfl,SqL.of ag,λp2 n2=>?_⟩;rw[eF];refine⟨_,rfl,_,rfl,_,rfl,l,_,rfl,SqL.of (ak n2 _ _ (ak n1 _ _ h1)),λp3 n3=>?_⟩;rw[eB];refine bD ag n3 (by lia) λH4 q4 s4 e4=>⟨_,rfl,_,rfl,_,rfl,l,_,rfl,SqL.of (s4 _ _ (ak n2 _ _ (ak n1 _ _ h1))),λp5 n5=>?_⟩;rw[eA];refine⟨_,rfl,_,rfl,p5,_,rfl,SqL.of ag,λp6 n6=>?_⟩;rw[eG];refine bD (ak n5 _ _ e4) n6 (by simp;lia) λH' l' s' e'=>q H' l' (F++B++G) (s1.trans ((((ak n1).trans (ak n2)).trans s4).trans ((ak n5).trans s'))) e' (by simp;lia) λx hx=>?_;rcases zd.mp hx with h|h
  .rcases zd.mp h with h|h
   .exact hw x (mA x (mF x h))
   .exact hw x (mB x h)
  .exact hw x (mA x (mG x h))
 (try dsimp only)
 refine⟨_,rfl,rfl,_,rfl,dE (λ_=>?_) (λ_=>?_)⟩
 .obtain⟨x,hx,xl⟩:=vC (b:=200) (c:=c/100) (n:=6) (L:=[.str "",.str " ",.str "7",.str "1 1 1",.str "a 1",.str "1  1"]) [""," ","7","1 1 1","a 1","1  1"] rfl rfl (by decide) (by decide+kernel);refine⟨(by show 6<=sizeLine;decide),λpo no=>?_⟩;have so:=ak (o:= .lst [.str "",.str " ",.str "7",.str "1 1 1",.str "a 1",.str "1  1"]) no;have eo:upd H1 po (.lst [.str "",.str " ",.str "7",.str "1 1 1",.str "a 1",.str "1  1"]) po=some (.lst [.str "",.str " ",.str "7",.str "1 1 1",.str "a 1",.str "1  1"]):=ag
  (try dsimp only)
  generalize upd H1 po (.lst [.str "",.str " ",.str "7",.str "1 1 1",.str "a 1",.str "1  1"])=Ho at so eo⊢;have ho:=so _ _ h1;refine⟨_,rfl,_,rfl,_,rfl,l,_,rfl,SqL.of ho,λp1 n1=>⟨_,rfl,_,rfl,_,_,rfl,rfl,⟨by decide,by decide⟩,_,_,rfl,rfl,(by show(0:Int)<6;decide),po,_,_,_,rfl,rfl,SqL.of (ak n1 _ _ eo),hx,(by show 1<=sizeLine;decide),λp2 n2=>?_⟩⟩;rw[eA]at n2⊢;refine bD (B:=[x]) ag n2 (by simp;lia) λH3 p3 s3 e3=>⟨_,rfl,_,rfl,_,rfl,l,_,rfl,SqL.of (s3 _ _ (ak n1 _ _ ho)),λp4 n4=>?_⟩;rw[eB];exact bD e3 n4 (by simp;lia) λH' l' s' e'=>three x H' l' xl ((s1.trans so).trans (((ak n1).trans s3).trans s')) e'
 .refine⟨_,rfl,(by show 1<=sizeLine;decide),λp1 n1=>?_⟩;exact bD (B:=[""]) h1 n1 (by simp;lia) λH' l' s' e'=>q H' l' _ (s1.trans s') e' (by simp;lia) λx hx=>by
   rcases zd.mp hx with h|h
   .exact hw x h
   .rw[zf.mp h];decide+kernel
theorem oa {f:α->V} {ms:List α} {g:Int} (h:0<=g):c8 (ms.map f) (some g) none=(ms.drop g.toNat).map f:=by
 unfold c8 HT.sIx;dsimp only;rw[if_neg (by lia),Q0];rcases Nat.le_total g.toNat (ms.map f).length with c|c
 .rw[Nat.min_eq_left c];exact zA (by rw[zG];lia)
 .rw[Nat.min_eq_right c,List.drop_of_length_le c,List.drop_of_length_le (zg _),List.take_nil]
theorem gR:∀{us ws:List Str},us.Sublist ws->(us.map (·.length)).sum<=(ws.map (·.length)).sum
 |_,_,.slnil=>zg _
 |_,_,.cons a h=>by
  have:=gR h;rw[zr,yP];lia
 |_,_,.cons_cons a h=>by
  have:=gR h;rw[zr,yP,zr,yP];lia
theorem pW {d:Str} (s1:d.length=1) (ws:List Str):(Txt.join d ws).length<=(ws.map (·.length)).sum+ws.length:=by
 rw[pX];cases ws with
 |nil=>exact yA rfl
 |cons a r=>
  rw[PyProof.Rows.len_join_cons,s1];simp only[zr,yP,zp];lia
theorem eh (A B:List Str):((A++B).map (·.length)).sum=(A.map (·.length)).sum+(B.map (·.length)).sum:=by rw[zo,List.sum_append]
theorem iB (T:Txt K mg t):a6 P w K mg base CX0 1 t.fm t.cI ["_law_rows_here","_law_cell"] iw:=by
 refine T.jb.okl sc__law_by_words λ_ _ _ s H vs Q E hr h=>?_;obtain⟨l,ws,c,rfl,hl,n1,n2,hw,c0,q⟩:=h;refine⟨_,(af (ar (i:=2) sc__law_by_words.nd rfl (Or.inl rfl) (aq bg (aq bI (pv 1) ai) (aB ax (by rfl) T.bE be (aa (pv 0) ah))))
   (af (ar (i:=3) sc__law_by_words.nd rfl (Or.inl rfl) (bW zE yr yt fG (bu aP (pv 0) (pv 2) (λ_ _=>rfl)) (aa aZ ah)))
      (@af _ _ _ _ _ (@ar _ _ 4 _ _ _ _ sc__law_by_words.nd rfl (Or.inl rfl) (@bp _ _ _ _ (@bG _ _ _ _ _ _ (@bG _ _ _ _ _ _ (@bG _ _ _ _ _ _ (@bG _ _ _ _ _ _ (@bG _ _ _ _ _ _ (aa (aq oO aZ ai) (@bG _ _ _ _ _ _ (@bG _ _ _ _ _ _ (@bG _ _ _ _ _ _ (@bG _ _ _ _ _ _ (@bG _ _ _ _ _ _ (@bG _ _ _ _ _ _ ah))))))))))))) (by rfl) (by first|exact .inl rfl|exact .inr rfl))
   (af (ar (i:=5) sc__law_by_words.nd rfl (Or.inl rfl) (bu aP (pv 4) (aq bg (aq bI (pv 1) ai) ai) (λ_ _=>rfl)))
   (af (ar (i:=6) sc__law_by_words.nd rfl (Or.inl rfl) (aq bg (aq bI (pv 1) ai) ai))
   (af (ar (i:=7) sc__law_by_words.nd rfl (Or.inl rfl) (aq bg (pv 1) ai))
   (af (aY (az cw (pv 7) ai (aD _))
   (aj (ar (i:=3) sc__law_by_words.nd rfl (Or.inl rfl) (aq b6 (aO a8 (pv 3) aX (aW (pv 6))) (aO a8 (pv 3) (aW (aq cm (pv 6) ai)) aX))))
   (aj (aY (az cw (pv 7) ai (aD _))
   (aj (ar (i:=3) sc__law_by_words.nd rfl (Or.inl rfl) (aq b6 (aq b6 (aO a8 (pv 3) aX (aW (pv 6))) (bp (aa (pv 5) ah))) (aO a8 (pv 3) (aW (pv 6)) aX))))
   (aj (ar (i:=3) sc__law_by_words.nd rfl (Or.inl rfl) (aq b6 (aq b6 (aO a8 (pv 3) aX (aW (pv 6))) (bp (aa (pv 5) ah))) (aO a8 (pv 3) (aW (aq cm (pv 6) ai)) aX)))))))
   (aj (aC (aq b6 (aq b6 (aO a8 (pv 0) aX (aW (pv 2))) (bp (aa (bW zE Q7 Q8 mn aZ (aa (pv 3) ah)) ah))) (aO a8 (pv 0) (aW (aq cm (pv 2) ai)) aX)))))))))))
  ,?_⟩
 have big:1000<=sizeLine:=by decide
 have lw:((ws.map V.str).length:Int)=ws.length:=by rw[z8]
 have wp:(0:Int)<(ws.map V.str).length:=by lia
 have i0:=zz (c/5) (yJ wp);have i1:=zB (c/5) wp;refine⟨_,rfl,_,_,rfl,rfl,⟨by decide,by decide⟩,_,rfl,l,_,rfl,.inl (SqL.of hl),_,_,rfl,rfl,wp,?_⟩
 (try dsimp only)
 generalize c/5%((ws.map V.str).length:Int)=pl at i0 i1⊢;rw[lw]at i1;obtain⟨y,hy,ym⟩:=sZ i0 i1;have yl:=hw y ym;refine⟨_,rfl,_,rfl,l,_,_,_,rfl,rfl,SqL.of hl,hy,rfl,_,_,rfl,rfl,by decide+kernel,by lia,λl2 nl2=>?_⟩;have wt:=PyProof.Rows.split_weight y (" ":Str) (by decide+kernel);rw[show(Str.ofString " ")=(" ":Str) from rfl];generalize Txt.split y (" ":Str)=us at wt⊢;have s2:=ak (o:= .lst (us.map V.str)) nl2;have h2:upd H l2 (.lst (us.map V.str)) l2=some (.lst (us.map V.str)):=ag
 (try dsimp only)
 generalize upd H l2 (.lst (us.map V.str))=H2 at s2 h2⊢;refine⟨"1",61,rfl,rfl,by decide,by decide,by decide+kernel,λnn nl=>⟨(by show 12<=sizeLine;decide),λpo no=>?_⟩⟩;have so:=ak (o:= .lst ([("-1":Str),"-0","007","","0",nn,"+5","5.","x","- 1","100","1_0"].map V.str)) no;have eo:upd H2 po (.lst ([("-1":Str),"-0","007","","0",nn,"+5","5.","x","- 1","100","1_0"].map V.str)) po=some (.lst ([("-1":Str),"-0","007","","0",nn,"+5","5.","x","- 1","100","1_0"].map V.str)):=ag
 (try dsimp only)
 change t9 _ _ _ _ (upd H2 po (.lst ([("-1":Str),"-0","007","","0",nn,"+5","5.","x","- 1","100","1_0"].map V.str)));generalize upd H2 po (.lst ([("-1":Str),"-0","007","","0",nn,"+5","5.","x","- 1","100","1_0"].map V.str))=Ho at so eo⊢;obtain⟨x,hx,xl⟩:=vC (b:=61) (c:=c/100) (n:=12) (L:=([("-1":Str),"-0","007","","0",nn,"+5","5.","x","- 1","100","1_0"].map V.str)) _ rfl rfl (by decide) λx hx=>by
  rcases zd.mp (show x∈[("-1":Str),"-0","007","","0"]++nn::["+5","5.","x","- 1","100","1_0"] from hx)with h|h
  .exact(by decide+kernel:∀x∈[("-1":Str),"-0","007","","0"],x.length<=61) x h
  .rcases zh.mp h with rfl|h
   .rw[nl];decide
   .exact(by decide+kernel:∀x∈[("+5":Str),"5.","x","- 1","100","1_0"],x.length<=61) x h
 refine⟨_,rfl,_,rfl,_,_,rfl,rfl,⟨by decide,by decide⟩,_,_,rfl,rfl,(by show(0:Int)<12;decide),po,_,_,_,rfl,rfl,SqL.of eo,hx,?_⟩;have ho:=so _ _ h2;have hl2:=so _ _ (s2 _ _ hl);have s3:=s2.trans so;clear so eo hx no s2 h2 nl2
 (try dsimp only)
 refine⟨_,rfl,_,_,rfl,rfl,⟨by decide,by decide⟩,_,_,rfl,rfl,(by show(0:Int)<2;decide),?_⟩
 (try dsimp only)
 have pc0:=zz (c/2000) (show(2:Int)≠0 by decide);generalize c/2000%2=pc at pc0⊢;refine⟨_,rfl,_,_,rfl,rfl,(by show(0:Int)<4;decide),?_⟩
 (try dsimp only)
 generalize c%4=way;have tA:=gR (List.take_sublist pc.toNat us);have tB:=gR (List.drop_sublist pc.toNat us);have tC:=gR (List.drop_sublist (pc+1).toNat us);have lA:(us.take pc.toNat).length<=us.length:=by rw[zu];lia
 have lB:(us.drop pc.toNat).length<=us.length:=by rw[zG];lia
 have lC:(us.drop (pc+1).toNat).length<=us.length:=by rw[zG];lia
 have eA:c8 (us.map V.str) none (some pc)=(us.take pc.toNat).map V.str:=by rw[nY pc0,yO]
 have eB:c8 (us.map V.str) (some pc) none=(us.drop pc.toNat).map V.str:=oa pc0;have eC:c8 (us.map V.str) (some (pc+1)) none=(us.drop (pc+1).toNat).map V.str:=oa (by lia);generalize us.take pc.toNat=A at tA lA eA;generalize us.drop pc.toNat=B at tB lB eB;generalize us.drop (pc+1).toNat=C at tC lC eC;refine gW (λσ' H'=>∃(l3:Addr) (vs:List Str),σ'=[some (.ref l),some (.int c),some (.int pl),some (.ref l3),some (.ref po),some (.str x),some (.int pc),some (.int way)]/\Same H H'/\H' l3=some (.lst (vs.map V.str))/\(vs.map (·.length)).sum<=470/\vs.length<=410) (λnx go=>?_) (λσ' H4 w=>?_)
 .have sx:([x].map (·.length)).sum=x.length:=by simp
  refine⟨_,rfl,rfl,_,rfl,dE (λ_=>?_) (λ_=>?_)⟩
  .refine⟨_,rfl,_,rfl,_,rfl,l2,_,rfl,SqL.of ho,λp1 n1=>⟨_,rfl,_,rfl,_,_,rfl,rfl,_,rfl,l2,_,rfl,SqL.of (ak n1 _ _ ho),λp2 n2=>?_⟩⟩;rw[eA]at n2⊢;rw[eC];refine bD ag n2 (by lia) λH' l' s' e'=>go _ _ ⟨l',A++C,rfl,s3.trans ((ak n1).trans s'),e',by rw[eh];lia,by rw[zk];lia⟩
  .refine⟨_,rfl,rfl,_,rfl,dE (λ_=>?_) (λ_=>?_)⟩
   .refine⟨_,rfl,_,rfl,_,rfl,l2,_,rfl,SqL.of ho,λp1 n1=>⟨_,rfl,(by show 1<=sizeLine;decide),λp2 n2=>?_⟩⟩;rw[eA]at n2⊢;refine bD (B:=[x]) ag n2 (by simp;lia) λH3 p3 s4 e3=>⟨_,rfl,_,rfl,_,rfl,l2,_,rfl,SqL.of (s4 _ _ (ak n1 _ _ ho)),λp4 n4=>?_⟩;rw[eB];exact bD e3 n4 (by simp;lia) λH' l' s' e'=>go _ _ ⟨l',A++ [x]++B,rfl,s3.trans (((ak n1).trans s4).trans s'),e',by rw[eh,eh];lia,by simp;lia⟩
   .refine⟨_,rfl,_,rfl,_,rfl,l2,_,rfl,SqL.of ho,λp1 n1=>⟨_,rfl,(by show 1<=sizeLine;decide),λp2 n2=>?_⟩⟩;rw[eA]at n2⊢;refine bD (B:=[x]) ag n2 (by simp;lia) λH3 p3 s4 e3=>⟨_,rfl,_,rfl,_,_,rfl,rfl,_,rfl,l2,_,rfl,SqL.of (s4 _ _ (ak n1 _ _ ho)),λp4 n4=>?_⟩;rw[eC];exact bD e3 n4 (by simp;lia) λH' l' s' e'=>go _ _ ⟨l',A++ [x]++C,rfl,s3.trans (((ak n1).trans s4).trans s'),e',by rw[eh,eh];lia,by simp;lia⟩
 obtain⟨l3,vs,rfl,s4,h3,v1,v2⟩:=w;have h4:=s4 _ _ hl;have jl:=pW (d:=(" ":Str)) (by decide+kernel) vs;obtain⟨A',eA',lA',mA'⟩:=sQ ws i0 (by lia);obtain⟨C',eC',lC',mC'⟩:=n9 ws (p:=pl+1) (by lia) (by lia);have t1:=fo λz hz=>hw z (mA' z hz);have t2:=fo λz hz=>hw z (mC' z hz);refine⟨_,rfl,_,rfl,_,rfl,l,_,rfl,SqL.of h4,λp1 n1=>⟨rfl,_,rfl," ",l3,vs,rfl,rfl,SqL.of (ak n1 _ _ h3),by decide+kernel,by lia,(by show 1<=sizeLine;decide),λp2 n2=>?_⟩⟩;rw[eA']at n2⊢;refine bD (B:=[Txt.join (" ":Str) vs]) ag n2 (by simp;lia) λH5 p3 s5 e5=>⟨_,rfl,_,rfl,_,_,rfl,rfl,_,rfl,l,_,rfl,SqL.of (s5 _ _ (ak n1 _ _ h4)),λp4 n4=>?_⟩;rw[eC'];refine bD e5 n4 (by simp;lia) λH' l' s' e'=>q H' l' _ (s4.trans (((ak n1).trans s5).trans s')) e' (by simp;lia) ?_;rw[eh,eh];have sj:([Txt.join (" ":Str) vs].map (·.length)).sum=(Txt.join (" ":Str) vs).length:=by simp
 lia
theorem wq (T:Txt K mg t):a6 P w K mg base CX0 8 t.vP t.qd ["_law_script"] (rH K):=by
 have G0:=fj (P:=P) (w:=w) (base:=base) T;refine T.xO.okl sc_law λ_ _ _ s H vs Q E hr h=>?_;obtain⟨sc,ns,rfl,hS,hlen,q⟩:=h;refine⟨_,(af (ar (i:=1) sc_law.nd rfl (Or.inl rfl) (aE (mj T) hr.mo (by rfl) T.vG T.oq.kp T.vN .nil aF (aa (pv 0) ah)))
   (af (ar (i:=2) sc_law.nd rfl (Or.inl rfl) (aq bg (aE G0 hr.mo (by rfl) T.bh T.a7.kp T.bj .nil aF (aa (pv 0) (aa ai ah))) ai))
   (af (aY (PW.pt (jK (az cw (pv 2) ai (aD _)) (jK (az cw (pv 2) ai (aD _)) (jJ (PW.pt (fA (az (wo K rfl hr.u20) (pv 1) (bp ah) (aD _)) (db (az nI (pv 2) ai (aD _)))))))))
   (aj (ar (i:=1) sc_law.nd rfl (Or.inl rfl) (aE (i7 T) hr.mo (by rfl) T.sy T.kq.kp T.sX .nil aF (aa (pv 1) (aa (aE (gl T) hr.mo (by rfl) T.eQ T.cN.kp T.fc .nil aF (aa (aE G0 hr.mo (by rfl) T.bh T.a7.kp T.bj .nil aF (aa (pv 0) (aa ai ah))) (aa ai ah))) ah)))))
   (aj (aY (az nI (pv 2) ai (aD _))
   (aj (ar (i:=1) sc_law.nd rfl (Or.inl rfl) (aE (iB T) hr.mo (by rfl) T.rp T.jb.kp T.rq .nil aF (aa (pv 1) (aa (aE (gl T) hr.mo (by rfl) T.eQ T.cN.kp T.fc .nil aF (aa (aE G0 hr.mo (by rfl) T.bh T.a7.kp T.bj .nil aF (aa (pv 0) (aa ai ah))) (aa ai ah))) ah)))))
   aG)))
   (af (ar (i:=3) sc_law.nd rfl (Or.inl rfl) (bW zE Q7 Q8 mn aZ (aa (pv 1) ah)))
   (af (ar (i:=4) sc_law.nd rfl (Or.inl rfl) (bu aP (bp (aa (aq bg (aE G0 hr.mo (by rfl) T.bh T.a7.kp T.bj .nil aF (aa (pv 0) (aa ai ah))) (aq mh ai ai)) (aa jO (aa gj (aa (bp (aa (pv 3) ah)) (aa (pv 1) (aa (oN (aa (pv 3) ah)) ah))))))) (aq bg (aE G0 hr.mo (by rfl) T.bh T.a7.kp T.bj .nil aF (aa (pv 0) (aa ai ah))) ai) (λ_ _=>rfl)))
   (af (aY (fB (cG (aE (i6 T) hr.mo (by rfl) T.j9 T.fV.kp T.km .nil aF (aa (pv 4) ah))))
   (aj (aC gj))
   aG)
   (af (aY (fB (cG (aE (ml T) hr.mo (by rfl) T.vH T.ot.kp T.vO .nil aF (aa (pv 3) ah))))
   (aj (aC (aE (i6 T) hr.mo (by rfl) T.j9 T.fV.kp T.km .nil aF (aa (pv 3) ah))))
   aG)
   (aj (aC (jf cw (aE (sd T) hr.mo (by rfl) T.xP T.vc.kp T.xQ .nil aF (aa (aE (gk T) hr.mo (by rfl) T.mw T.ir.kp T.mP .nil wk (aa (pv 3) ah)) ah)) (pv 3) (aD _)))))))))))
  ,?_⟩
 refine⟨_,rfl,sc,ns,rfl,hS,λH1 l ws s1 hl n8 hw=>?_⟩;have hS1:=s1.seq hS
 (try dsimp only)
 refine⟨_,rfl,sc,ns,1,rfl,hS1,by decide,_,_,rfl,rfl,(by show(0:Int)<5;decide),?_⟩
 (try dsimp only)
 generalize ns.getD (1:Int).toNat 0%5=way;have sw:=fo hw;refine gW (λσ' H'=>∃(l':Addr) (us:List Str),σ'=[some (.ref sc),some (.ref l'),some (.int way),none,none]/\SqL K H' sc (ns.map V.int)/\H' l'=some (.lst (us.map V.str))/\us.length<=9/\(us.map (·.length)).sum<=2700) (λnx go=>?_) (λσ' H2 w=>?_)
 .refine⟨_,rfl,rfl,_,rfl,dE (λ_=>?_) (λ_=>?_)⟩
  .exact cf ⟨_,rfl,_,rfl,sc,ns,2,rfl,hS1,by decide,_,3,rfl,l,ws,_,rfl,hl,n8,hw,uU _ _,λH' l' us s' e' h1 h2=>go _ _ ⟨l',us,rfl,s'.seq hS1,e',h1,by have:=fo h2;lia⟩⟩
  refine⟨_,rfl,rfl,_,rfl,dE (λ_=>?_) (λ_=>?_)⟩
  .exact cf ⟨_,rfl,_,rfl,sc,ns,2,rfl,hS1,by decide,_,3,rfl,l,ws,_,rfl,hl,n8,hw,uU _ _,λH' l' us s' e' h1 h2=>go _ _ ⟨l',us,rfl,s'.seq hS1,e',h1,by have:=fo h2;lia⟩⟩
  refine⟨_,rfl,(by show 0<=sizeLine;decide),λe ne=>⟨l,e,_,rfl,rfl,SqL.of (ak ne _ _ hl),SqL.of ag,_,rfl,?_⟩⟩;have se:=ak (o:= .lst []) ne;generalize upd H1 e (.lst [])=He at se⊢;have he:=se _ _ hl;have hSe:=se.seq hS1;cases hws:(ws.map V.str).isEmpty with
  |true=>
   refine cf ⟨_,rfl,_,_,rfl,rfl,_,rfl,dE (λ_=>?_) (λc=>?_)⟩
   .exact⟨_,rfl,_,rfl,sc,ns,2,rfl,hSe,by decide,_,3,rfl,l,ws,_,rfl,he,n8,hw,uU _ _,λH' l' us s' e' h1 h2=>go _ _ ⟨l',us,rfl,s'.seq hSe,e',h1,by have:=fo h2;lia⟩⟩
   .refine⟨_,rfl,_,_,rfl,rfl,_,rfl,bH (λz=>c (decide_eq_true (by lia))) ?_⟩;exact go _ _ ⟨l,ws,rfl,hSe,he,by lia,by lia⟩
  |false=>
   have wp:1<=ws.length:=by
    cases ws with
    |nil=>cases hws
    |cons a r=>simp
   refine d5 ⟨_,rfl,_,_,rfl,rfl,_,rfl,dE (λ_=>?_) (λ_=>?_)⟩
   .exact⟨_,rfl,_,rfl,sc,ns,2,rfl,hSe,by decide,_,3,rfl,l,ws,_,rfl,he,wp,n8,hw,uU _ _,λH' l' us s' e' h1 h2=>go _ _ ⟨l',us,rfl,s'.seq hSe,e',h1,h2⟩⟩
   .exact go _ _ ⟨l,ws,rfl,hSe,he,by lia,by lia⟩
 obtain⟨l6,us,rfl,hS6,e6,u9,u27⟩:=w;have jl:=pW (d:=("\n":Str)) (by decide+kernel) us
 (try dsimp only)
 refine⟨rfl,_,rfl,"\n",l6,us,rfl,rfl,SqL.of e6,by decide+kernel,by lia,?_⟩
 (try dsimp only)
 generalize Txt.join (Str.ofString "\n") us=z at jl⊢;have zl:z.length<=100000:=by lia
 have zn:(Txt.split z ("\n":Str)).length<=3000:=by
  have w:=PyProof.Rows.split_weight z ("\n":Str) (by decide+kernel);lia
 have t39:(0:Int)<10^(39:Int).toNat:=by decide
 refine⟨_,rfl,sc,ns,_,rfl,hS6,by decide,_,_,rfl,rfl,⟨by decide,by decide,by decide⟩,_,_,rfl,rfl,t39,_,rfl,(by show 1<=sizeLine;decide),λp1 n1=>⟨_,rfl,_,rfl,(by show 1<=sizeLine;decide),λp2 n2=>⟨(by show 6<=sizeLine;decide),λp3 n3=>?_⟩⟩⟩;obtain⟨m,em⟩:∃m:Int,ns.getD (2:Int).toNat 0%10^(39:Int).toNat=m:=⟨_,rfl⟩
 (try dsimp only)
 rw[em];have s3:Same H2 (upd (upd (upd H2 p1 (.lst [.str z])) p2 (.tup [.str z])) p3 (.lst [.int m,.non,.bl true,.ref p1,.ref l6,.ref p2])):=((ak n1).trans (ak n2)).trans (ak n3);have f1:upd (upd (upd H2 p1 (.lst [.str z])) p2 (.tup [.str z])) p3 (.lst [.int m,.non,.bl true,.ref p1,.ref l6,.ref p2]) p1=some (.lst [.str z]):=ak n3 _ _ (ak n2 _ _ ag);have f2:upd (upd (upd H2 p1 (.lst [.str z])) p2 (.tup [.str z])) p3 (.lst [.int m,.non,.bl true,.ref p1,.ref l6,.ref p2]) p2=some (.tup [.str z]):=ak n3 _ _ ag;have f3:upd (upd (upd H2 p1 (.lst [.str z])) p2 (.tup [.str z])) p3 (.lst [.int m,.non,.bl true,.ref p1,.ref l6,.ref p2]) p3=some (.lst [.int m,.non,.bl true,.ref p1,.ref l6,.ref p2]):=ag;generalize upd (upd (upd H2 p1 (.lst [.str z])) p2 (.tup [.str z])) p3 (.lst [.int m,.non,.bl true,.ref p1,.ref l6,.ref p2])=H7 at s3 f1 f2 f3⊢;have hS7:=s3.seq hS6;have f4:=s3 _ _ e6;obtain⟨v,hv,vm⟩:=vB (c:=ns.getD (3:Int).toNat 0) (n:=6) (L:=[V.int m,.non,.bl true,.ref p1,.ref l6,.ref p2]) rfl (by decide);obtain⟨ty,ht,hk⟩:∃ty,TyOf K H7 v ty/\PySem.W.kitOne K ty (.type "str")=some false:=by
  obtain⟨_,k1,k2,k3,k4,k5⟩:=o8 (K:=K);rcases zh.mp vm with rfl|vm
  .exact⟨_,TyOf.int _,k1⟩
  rcases zh.mp vm with rfl|vm
  .exact⟨_,TyOf.non,k2⟩
  rcases zh.mp vm with rfl|vm
  .exact⟨_,TyOf.bl _,k3⟩
  rcases zh.mp vm with rfl|vm
  .exact⟨_,TyOf.lst f1,k4⟩
  rcases zh.mp vm with rfl|vm
  .exact⟨_,TyOf.lst f4,k4⟩
  .rw[zf.mp vm];exact⟨_,TyOf.tup f2,k5⟩
 refine⟨_,rfl,sc,ns,_,rfl,hS7,by decide,_,_,rfl,rfl,(by show(0:Int)<6;decide),p3,_,_,_,rfl,rfl,SqL.of f3,hv,?_⟩
 (try dsimp only)
 refine⟨_,rfl,.inr ⟨v,ty,rfl,ht,hk⟩,λH8 s8=>⟨true,rfl,d5 ?_⟩⟩
 (try dsimp only)
 refine⟨_,rfl,z,rfl,zl,λH9 s9=>⟨_,rfl,?_⟩⟩;cases hz:rdT z with
 |none=>
  refine cf ?_;exact⟨_,rfl,.inl ⟨z,rfl,zl,zn,hz⟩,λH' _=>q H'⟩
 |some ps=>
  refine d5 ?_
  (try dsimp only)
  refine⟨_,rfl,.inl ⟨z,rfl,zl,zn,λps' hz' Ha a F x J o=>?_,λhn=>by rw[hz]at hn;cases hn⟩⟩;rw[hz]at hz';cases hz';obtain⟨ez,_⟩:=rN hz;refine⟨a,F,x,ps,rfl,J,λHb F' J' f'=>⟨_,rfl,rfl,?_⟩⟩;rw[<-ez,decide_eq_true rfl];exact q Hb
end
end SW
namespace ZK
open PySem PySem.W SW L2
theorem fM {P:Params} {x qual:Str} {st:Stmt} {a:Addr} {kV doc pm cdv ct:Value} {an:Option Addr} (l:(K P).lookup a=some (f (D x qual st N kV doc pm an cdv ct)):=by kernel_rfl) (c:codeIn (K P) cdv qual=true:=by kernel_rfl) (k:keepIn (K P) (.ref a)=true:=by kernel_rfl):Fun (K P) x qual st a (D x qual st N kV doc pm an cdv ct):=wI l c k
theorem nA {P:Params} {C:Addr} {x:Str} (h:findIn (K P) (.ref C) x=some none:=by kernel_rfl):NoAttr (K P) C x:=h
end ZK
namespace SW
open PySem L2
set_option maxHeartbeats 0
variable {α:Type} {YP:World->Heap->Prop}
theorem us1 {us:List α} (hl:us.length=1):∃x0,us=[x0]:=by rcases us with _|⟨x0,_|⟨y,t⟩⟩<;>first|exact⟨_,rfl⟩|simp at hl
theorem us2 {us:List α} (hl:us.length=2):∃x0 x1,us=[x0,x1]:=by rcases us with _|⟨x0,_|⟨x1,_|⟨y,t⟩⟩⟩<;>first|exact⟨_,_,rfl⟩|simp at hl
theorem us3 {us:List α} (hl:us.length=3):∃x0 x1 x2,us=[x0,x1,x2]:=by rcases us with _|⟨x0,_|⟨x1,_|⟨x2,_|⟨y,t⟩⟩⟩⟩<;>first|exact⟨_,_,_,rfl⟩|simp at hl
open ZK in
theorem txt {P:Params} {h:Heap} {mg:Str->Option Value} (X:(ZK.K P).In h) (G:h.Ns mainGlobals mg):Txt (ZK.K P) mg ZK.t:=by
 constructor
 case g_PLACES=>exact⟨364,yu X G (by kernel_rfl)⟩
 case g_MOST_IN_LEAF=>exact⟨383,yu X G (by kernel_rfl)⟩
 case g_LEAST_IN_TWO=>exact⟨385,yu X G (by kernel_rfl)⟩
 case g_LEAST_SIZE=>exact⟨562,yu X G (by kernel_rfl)⟩
 case g_GREATEST_SIZE=>exact⟨564,yu X G (by kernel_rfl)⟩
 case g_FIGURES=>exact⟨898,yu X G (by kernel_rfl)⟩
 case g_MOST_FIGURES=>exact⟨900,yu X G (by kernel_rfl)⟩
 all_goals first
  |exact ZK.fM
  |exact yu X G (by kernel_rfl)
  |exact .all λus hl=>by obtain⟨_,rfl⟩:=us1 hl;rfl
  |exact⟨(by kernel_rfl),(by kernel_rfl),(by kernel_rfl)⟩
  |exact .all λus hl=>by obtain⟨_,_,rfl⟩:=us2 hl;rfl
  |exact ZK.nA
  |exact PySem.W.mg_none_of X G (by kernel_rfl)
  |exact⟨(by kernel_rfl),(by kernel_rfl),(by kernel_rfl),(by kernel_rfl)⟩
  |exact⟨⟨_,_,_,_,_,_,_,_,_,_,_,_,_,_,(by rfl)⟩,⟨[ZK.t.a5],rfl⟩,(by kernel_rfl),(by kernel_rfl),(by kernel_rfl),(by kernel_rfl)⟩
  |exact(by kernel_rfl)
  |exact .all λus hl=>by obtain⟨_,_,_,rfl⟩:=us3 hl;rfl
  |exact⟨⟨_,_,_,_,_,_,_,_,_,_,_,_,_,_,(by rfl)⟩,⟨[],rfl⟩,(by kernel_rfl),(by kernel_rfl),(by kernel_rfl),(by kernel_rfl)⟩
theorem walk {l:PySem.W.OpenLaw} {q:Program} {loose:List Str} {XP:(Str->Option Value)->Heap->Prop} {d:DefRec} {K:Params->PySem.W.Frag} (hn:l.most=some 63) (hdf:d.params.defaults=[])
  (hY:∀(w:World) (h:Heap),YP w h->(K w.params).In h) (hd:d.name="law")
  (F:∀(w:World) (mg:Str->Option Value) (h:Heap),(K w.params).In h->h.Ns mainGlobals mg->∃t,Txt (K w.params) mg t):
  PySem.W.WalkO q loose XP YP l.row.toRowW d [] (λf vs=>PySem.call f vs):=by
 refine L2.walk_of (n:=63) (k:=8) (x:="_law_script") (CX:=λ_=>CX0) (sp:=λw=>rH (K w.params)) hn (by decide) hdf ⟨rfl,by decide,by decide⟩ hY (λw mg fa h KX G hfa=>?_) (λ_ _ a ns hl _ hS=>⟨a,ns,rfl,hS,hl,λ_=>rfl⟩) λ_ _ _ _ _ z=>z;obtain⟨t,T⟩:=F w mg h KX G;have e:=hfa.symm.trans ((congrArg mg hd).trans T.xT);cases e;obtain⟨oc,od,kV,doc,pm,an,cdv,ct,osl,e1,lk,hcd⟩:=T.xO.ex;refine⟨t.qd,λs u=>?_,λbase _ _=>wq T⟩;rw[e1];exact .of_eq rfl
end SW
open PySem PySem.W PyProof.Rows
set_option maxRecDepth 100000 in
set_option maxHeartbeats 0 in
theorem PySem.Challenge.cw_staywalk_k65_texts_that_are_no_house_holds : PySem.Challenge.rw_staywalk_k65_texts_that_are_no_house.Holds := by
 w_on
 refine holds_law ZK.said λsaid=>?_;refine holds_open (q:=ZK.q) (loose:=[]) (Xt:=λs=>xlAt ZK.q [] s&&recOk (RowW.records (OpenRow.toRowW (OpenLaw.row PySem.Challenge.rw_staywalk_k65_texts_that_are_no_house))) s) (XP:=XL ZK.q []) (Yf:=Hook.obs ZK.H) (Ya:=Hook.val ZK.H) (YP:=Hook.says ZK.H) ZK.left (Hook.of ZK.H) (Hook.keeps ZK.H) (λs e=>xl_of s (Bool.and_eq_true_iff.mp e).1) XL.keeps (by rfl) (by rfl) (by rfl) (λs e=>recFacts_of (Bool.and_eq_true_iff.mp e).2) (by rfl) (by first|assumption|decide+kernel) (by decide+kernel) ⟨rfl,rfl,rfl,rfl,rfl,by decide+kernel⟩ ?hw ?hc
 (case hw=>w_witness2)
 exact SW.walk (l:=PySem.Challenge.rw_staywalk_k65_texts_that_are_no_house) rfl rfl (λw h Y=>kIn_of Y) rfl λw mg h KX G=>⟨_,SW.txt KX G⟩
#print axioms PySem.Challenge.cw_staywalk_k65_texts_that_are_no_house_holds
