import PyProof.Rows.All
import PySem.Challenge.RW_staywalk_k75_nine_refusals
import KE.KFromBytes
import KE.KIntText
import KE.KItemsList
import KE.KPairComp
import KE.KSortTup
import KE.KIsAll
import KE.KRevIter
import KE.KRevSl
import KE.LcSums
import KE.KDictOf
set_option Elab.async false
set_option linter.all false
set_option maxRecDepth 100000
set_option tactic.hygienic false
set_option compiler.extract_closed false
noncomputable section
local macro_rules (kind:=«term{_}»)|`({$x,*})=>`(⟨$x,*⟩)
local macro_rules|`(tactic|let $p:term:=$e)=>do
 let n:=Lean.Syntax.node .none
 let w:=λs=>n ``Lean.Parser.Tactic.rcasesPatLo #[n ``Lean.Parser.Tactic.rcasesPatMed #[Lean.mkNullNode #[s]],Lean.mkNullNode]
 let r←p.raw.rewriteBottomUpM (m:=Lean.MacroM) λs=>pure (if s.isIdent then w (n ``Lean.Parser.Tactic.rcasesPat.one #[s]) else if s.isOfKind ``Lean.Parser.Term.hole then w (n ``Lean.Parser.Tactic.rcasesPat.ignore #[s[0]]) else if s.isOfKind ``«term{_}» then w (n ``Lean.Parser.Tactic.rcasesPat.tuple s.getArgs) else if s.isOfKind Lean.choiceKind then (s.getArgs.find? (·.isOfKind ``Lean.Parser.Tactic.rcasesPatLo)).getD s else s)
 if r.isOfKind ``Lean.Parser.Tactic.rcasesPatLo then `(tactic|obtain $(⟨r[0]⟩):rcasesPatMed:=$e) else Lean.Macro.throwUnsupported
local macro_rules|`(!$n:num)=>`(nat_lit $n)
local macro_rules|`(tactic|lia)=>`(tactic|omega)
local macro_rules | `(()) => `(by lia)
local macro_rules | `((_)) => `(by decide)
local macro_rules | `(∅) => `(by decide+kernel)
local macro_rules | `({_}) => `(by rfl)
abbrev M:=@rfl
local macro_rules|`(tactic|ac_rfl)=>`(tactic|(first|exact .inl M|exact .inr M|assumption))
local macro_rules|`(tactic|subst_eqs)=>`(tactic|(intro _;rfl))
local macro_rules|`(tactic|and_intros)=>`(tactic|(first|exact Or.inl M|exact Or.inr (Or.inl M)|exact Or.inr<|Or.inr M))
set_option genSizeOf false
set_option maxHeartbeats 0
abbrev Q0:=@List.mem_of_getElem?
abbrev Q2:=@List.length_map
abbrev Q3:=@List.getElem?_eq_some_iff
abbrev Q4:=@Nat.le_refl
abbrev Q5:=@List.getElem?_eq_getElem
abbrev Q6:=@Bool.false_ne_true
abbrev Q7:=@List.mem_cons_of_mem
abbrev Q8:=@List.mem_cons_self
abbrev Q9:=@List.length_cons
abbrev Qa:=@List.size_toArray
abbrev Qb:=@List.mem_append
abbrev Qc:=@List.mem_cons
abbrev Qd:=@List.length_append
abbrev Qe:=@List.mem_singleton
abbrev Qf:=@List.getElem?_set
abbrev Qg:=@List.mem_append_right
abbrev Qh:=@List.mem_map
abbrev Qi:=@List.map_append
abbrev Qj:=@Nat.lt_of_lt_of_le
abbrev Qk:=@List.getElem?_map
abbrev Ql:=@Nat.zero_le
abbrev Qm:=@List.map_cons
abbrev Qn:=@Nat.ne_of_lt
abbrev Qo:=@List.length_take
abbrev Qp:=@Bool.and_eq_true
abbrev Qq:=@PySem.F.plainAttrs_list
abbrev Qr:=@Nat.le_trans
abbrev Qs:=@List.length_set
abbrev Qt:=@List.contains_cons
abbrev Qu:=@List.mem_append_left
abbrev Qv:=@Bool.false_eq_true
abbrev Qw:=@List.take_of_length_le
abbrev Qx:=@Nat.le_of_lt
abbrev Qy:=@List.getD_eq_getElem?_getD
abbrev Qz:=@List.nodup_cons
abbrev QA:=@List.length_drop
abbrev QB:=@List.all_eq_true
abbrev QC:=@List.getElem_of_mem
abbrev QD:=@List.length_pos_iff
abbrev QE:=@PySem.W.kia_one
abbrev QF:=@PySem.W.mg_of
abbrev QG:=@Array.length_toList
abbrev QH:=@PySem.W.callWith_K
abbrev QI:=@List.mem_of_mem_eraseIdx
abbrev QJ:=@List.length_eq_zero_iff
abbrev QK:=@List.take_add_one
abbrev QL:=@List.map_map
abbrev QM:=@Array.getElem?_eq_some_iff
abbrev QN:=@List.length_replicate
abbrev QO:=@List.length_filter_le
abbrev QP:=@List.take_append_drop
abbrev QQ:=@List.getElem?_eq_none_iff
abbrev QR:=@List.ne_nil_of_length_pos
abbrev QS:=@List.mem_or_eq_of_mem_set
abbrev QT:=@Int.le_refl
abbrev QU:=@List.flatten_cons
abbrev QV:=@Nat.lt_irrefl
abbrev QW:=@List.eq_of_mem_replicate
abbrev QX:=@PySem.F.slot_list_append
abbrev QY:=@PySem.F.type_list_append
abbrev QZ:=@Option.bind_some
abbrev Z0:=@List.getElem?_cons_succ
abbrev Z3:=@Nat.le_succ
abbrev Z4:=@Option.map_eq_some_iff
abbrev Z5:=@Bool.or_true
abbrev Z6:=@PySem.F.plainAttrs_str
abbrev Z7:=@List.mem_filter
abbrev Z8:=@Int.emod_nonneg
abbrev Z9:=@List.length_singleton
abbrev Za:=@List.getElem?_append_right
abbrev Zb:=@List.nodup_nil
abbrev Zc:=@List.pairwise_append
abbrev Zd:=@List.filter_cons
abbrev Ze:=@List.lookup_cons
abbrev Zf:=@List.getElem?_append_left
abbrev Zg:=@List.pairwise_iff_getElem
abbrev Zh:=@List.map_congr_left
abbrev Zi:=@List.flatten_append
abbrev Zj:=@List.find?_cons
abbrev Zk:=@Nat.eq_zero_or_pos
abbrev Zl:=@Int.emod_lt_of_pos
abbrev Zm:=@List.pairwise_cons
abbrev Zn:=@Int.eq_ofNat_of_zero_le
abbrev Zo:=@List.pairwise_singleton
abbrev Zp:=@PySem.F.plainAttrs_dict
abbrev Zq:=@Bool.and_false
abbrev Zr:=@Nat.le_of_eq
abbrev Zs:=@Option.isSome_map
abbrev Zt:=@Int.toNat_natCast
abbrev Zu:=@PySem.W.methodCall_KW
abbrev Zv:=@List.concat_eq_append
abbrev Zw:=@Nat.max_eq_right
abbrev Zx:=@List.take_length
abbrev Zy:=@List.any_cons
abbrev Zz:=@List.mem_of_mem_take
abbrev ZA:=@List.mem_of_mem_drop
abbrev ZB:=@Bool.eq_iff_iff
abbrev ZC:=@Nat.lt_of_le_of_lt
abbrev ZD:=@PySem.F.excBase_ValueError
abbrev ZE:=@List.drop_eq_getElem_cons
abbrev ZF:=@PySem.F.slot_list_insert
abbrev ZG:=@PySem.F.type_list_insert
abbrev ZH:=@List.cons_append
abbrev ZI:=@List.getElem_mem
abbrev ZJ:=@List.getElem?_set_self
abbrev ZL:=@PySem.W.cellsFrom_some
abbrev ZM:=@List.drop_eq_nil_of_le
abbrev ZN:=@Int.le_trans
abbrev ZO:=@Int.zero_add
abbrev ZP:=@List.of_mem_zip
abbrev ZQ:=@Option.map_some
abbrev ZR:=@Array.getElem?_toList
abbrev ZS:=@List.getElem?_set_ne
abbrev ZT:=@Bool.false_and
abbrev ZU:=@List.getElem?_append
abbrev ZV:=@List.length_eraseIdx
abbrev ZW:=@List.filterMap_cons
abbrev ZX:=@PySem.W.plainGet_of
abbrev ZY:=@List.map_drop
abbrev ZZ:=@Array.append_assoc
abbrev X0:=@Nat.not_lt
abbrev X1:=@List.getElem?_drop
abbrev X2:=@List.filter_append
abbrev X3:=@Nat.ne_of_gt
abbrev X4:=@List.map_nil
abbrev X5:=@Nat.zero_add
abbrev X6:=@List.append_assoc
abbrev X7:=@List.map_set
abbrev X8:=@List.eraseIdxIfInBounds_toArray
abbrev X9:=@Nat.lt_succ_self
abbrev Xa:=@List.not_mem_nil
abbrev Xb:=@Option.getD_some
abbrev Xc:=@List.mem_flatten
abbrev Xd:=@List.eq_nil_of_length_eq_zero
abbrev Xe:=@List.length_nil
abbrev Xf:=@PySem.F.slot_dict_setdefault
abbrev Xg:=@PySem.F.slot_str_startswith
abbrev Xh:=@PySem.F.type_str_startswith
abbrev Xi:=@List.drop_zero
abbrev Xj:=@PySem.wpAny_bind
abbrev Xk:=@PySem.Heap.get?_push_of_some
abbrev Xl:=@if_neg
abbrev Xm:=@if_pos
abbrev Xn:=@decide_eq_true
abbrev Xo:=@decide_eq_false
abbrev Xp:=@absurd
abbrev Xq:=@Option.some.inj
abbrev Xr:=@PySem.wpAny_pure
abbrev Xs:=@PySem.Heap.lt_size
abbrev Xu:=@PySem.Heap.get?_push_size
abbrev Xv:=@PySem.Heap.get?_update_other
abbrev Xw:=@of_decide_eq_true
abbrev Xx:=@True.intro
abbrev Xy:=@beq_eq_false_iff_ne
abbrev Xz:=@PyProof.Rows.wpS_bind
abbrev XA:=@PySem.wpAny_mono
abbrev XB:=@congrArg
abbrev XD:=@PySem.wpAny_Call_Name_kw
abbrev XE:=@PySem.wpAny_holding
abbrev XF:=@beq_iff_eq
abbrev XG:=@PyProof.Rows.wpS_pure
abbrev XH:=@PySem.wpAny_truthy_bool
abbrev XI:=@beq_self_eq_true
abbrev XJ:=@of_decide_eq_false
abbrev XM:=@PySem.wpAny_passesOwn
abbrev XQ:=@Prod.mk.inj
abbrev XR:=@PySem.PassesOwn.never
abbrev XS:=@List.Pairwise.nil
abbrev XT:=@PyProof.Rows.wpS_forRange
abbrev XU:=@PySem.Heap.get?_none_of_le
abbrev XV:=@PySem.call_meetsIn
namespace L2
open PySem PySem.Spec PyProof.Rows
noncomputable def aT(s:Stmt)(j:Nat):Stmt:=match s with
 | .ClassDef _ _ _ body _ _ _ _ _ _ _=>body.getD j (.Pass {0,0,0,0})
 |_=> .Pass {0,0,0,0}
noncomputable def fF(s:Stmt):Arguments:=match s with
 | .FunctionDef _ a _ _ _ _ _ _ _ _=>a
 |_=>{posonlyargs:=[],args:=[],vararg:=none,kwonlyargs:=[],kw_defaults:=[],kwarg:=none,defaults:=[]}
noncomputable def b4(s:Stmt):List Stmt:=match s with
 | .FunctionDef _ _ b _ _ _ _ _ _ _=>b
 |_=> []
noncomputable def ah(s:Stmt):Scope:=match s with
 | .FunctionDef _ _ _ _ _ _ sc _ _ _=>sc
 |_=>{kind:= .function,names:=[],isGenerator:=false,isCoroutine:=false}
end L2
namespace HD
open PySem PySem.W
abbrev _root_.Mc:=Program
abbrev _root_.Md:=World
abbrev _root_.My:=Option Value
noncomputable def ES(p:Mc)(w:Md)(n₀:Nat)(ann:My):Nat->SharedT->Thread->Option SharedT
 |0,_,_=>none
 |n+1,s,t=>match through t with
  |true=>some s
  |false=>match Fast.tw6613529449190102663 n₀ ann t with
   |false=>none
   |true=>match Fast.tw10156331382660048174 (Fast.tw11892475500146522536 Fast.tw14364793385576792824) p w s t with
    |some (s',t')=>ES p w n₀ ann n s' t'
    |none=>none
def ER{p:Mc}{w:Md}{z:Nat}{G:My}{n:Nat}{s s':SharedT}{t:Thread}(h:ES p w z G n s t=some s'):topRun treeTable p w z G n s.abs t=some s'.abs:=by
 induction n generalizing s t with
 |zero=>cases h
 |succ n O=>
  unfold ES at h;rw[<-Fast.te6613529449190102663,<-Fast.te10156331382660048174,<-Fast.te11892475500146522536,<-Fast.te14364793385576792824]at h;unfold topRun;cases I:through t with
  |true=>rw[I]at h;cases h;rfl
  |false=>
   rw[I]at h;cases hk:stepOk z G t with
   |false=>rw[hk]at h;cases h
   |true=>
    rw[hk]at h;cases hs:stepT (denote treeTable) p w s t with
    |none=>rw[hs]at h;cases h
    |some x=>
     let{s2,S}:=x;rw[hs]at h;show(match step (denote treeTable) p w s.abs t with| .go s' t'=>topRun treeTable p w z G n s' t'| .halt _ _=>none)=_;rw[stepT_spec hs];exact O h
noncomputable def Dk:List Obj->BT->Nat->Option (BT×Nat)
 | [],t,n=>some (t,n)
 |o::r,t,n=>match ((t.ins n o).get n).isSome with
  |true=>Dk r (t.ins n o) (n+1)
  |false=>none
theorem zE{z:Life}:∀{l:List Obj}{t t':BT}{n n':Nat},Dk l t n=some (t',n')->absHeap t' n' z={(absHeap t n z).objs++l.toArray,z}
 | [],t,t',n,n',h=>by
  cases h;rw[Array.append_empty];rfl
 |o::r,t,t',n,n',h=>by
  unfold Dk at h;cases g:((t.ins n o).get n).isSome with
  |false=>rw[g]at h;cases h
  |true=>
   rw[g]at h;rw[zE h,absHeap_ins g];show Heap.mk _ _=Heap.mk _ _;congr 1;show(absHeap t n z).objs.push o++r.toArray=_;rw[<-Array.append_singleton,ZZ];congr 1;simp
abbrev _root_.J':=Shared
def toT(s:J'):Option SharedT:=match Dk s.heap.objs.toList .nil 0 with
 |some (t,n)=>some ⟨t,n,s.heap.life,s.gens,s.drawn,s.toks,s.os⟩
 |none=>none
def GG{s:J'}{S:SharedT}(h:toT s=some S):S.abs=s:=by
 unfold toT at h;cases e:Dk s.heap.objs.toList .nil 0 with
 |none=>rw[e]at h;cases h
 |some x=>
  let{t,n}:=x;rw[e]at h;cases h;let{{G,z},gens,drawn,toks,os}:=s;show Shared.mk (absHeap t n z) _ _ _ _=_;rw[zE e];show Shared.mk (Heap.mk (#[]++G.toList.toArray) z) _ _ _ _=_;rw[Array.toArray_toList,Array.empty_append]
def HE(p:Mc)(w:Md)(N:Nat)(s₀:J'):Option Shared:=match toT s₀ with
 |some S=>(ES p w S.n (s₀.heap.nsMap mainGlobals "__annotations__") N S<|topStub p).map SharedT.abs
 |none=>none
def FL{p:Mc}{w:Md}{N:Nat}{s₀ s₁:J'}(h:HE p w N s₀=some s₁):topRun treeTable p w s₀.heap.objs.size (s₀.heap.nsMap mainGlobals "__annotations__") N s₀ (topStub p)=some s₁:=by
 unfold HE at h;cases e:toT s₀ with
 |none=>rw[e]at h;cases h
 |some S=>
  rw[e]at h;let{G,h1,rfl}:=Z4.mp h;have ea:=GG e;have z:S.n=s₀.heap.objs.size:=by
   rw[<-ea];exact(absHeap_size _ _ _).symm
  rw[z]at h1;have:=ER h1;rw[ea]at this;exact this
def endP(p:Mc)(w:Md)(N:Nat):Option Shared:=((Fast.tw10274390034422433532 Fast.tw14364793385576792824 (opening p) w N (start<|opening p).1 (start<|opening p).2).bind<|Fast.tw14289696077712309145 p).bind λs₀=>match s₀.heap.isNs mainGlobals&&s₀.gens.size==0 with
 |true=>(HE p w N s₀).bind λs₁=>match staticsOk (importedModules p.main.body) s₀.heap s₁.heap&&namesBound p s₁.heap&&gensDone s₁&&laidKept s₀.heap s₁.heap with
  |true=>some s₁
  |false=>none
 |false=>none
noncomputable def gA(q:Mc)(s:J'):=(Fast.tw5160383126252970620 (R.mapR (λx=>x.name)<|Fast.tw3399658132070893891 q) (Fast.tw5991557255702980513 q) [] {s with gens:= #[]},s.heap.bltView)
abbrev _root_.Mf:=List Str
noncomputable def gB(p q:Mc)(loose:Mf)(Xt:Shared->Bool)(s:J'):=(Fast.tw10880121769531294198 s.heap (Fast.tw821141287760084731 q loose) (R.mapR (λx=>x.name)<|Fast.tw3399658132070893891 q) (R.mapR (λx=>x.fst)<|Fast.tw7409074990110511671 q) (R.mapR (λx=>x.name)<|Fast.tw13664370479719496447 q<|Fast.tw821141287760084731 q loose)&&Fast.tw14722251495701143533 s.heap (importedModules p.main.body)&&s.heap.isNs mainGlobals&&s.heap.isNs builtinsNs&&Fast.tw10994771534591457954 q s.heap&&Xt s&&(s.gens.size==0),Fast.tw479339242167458305 q s)
noncomputable def gC(q:Mc)(loose:Mf)(s:J'):=(Fast.tw16090120013241838585 q (Fast.tw3247288618530077131 q) s,Fast.tw2386780881361962483 q (Fast.tw821141287760084731 q loose) s,Fast.tw11698064438423848299 q loose s,Fast.tw7317090234206586261 q s,Fast.tw7369524293546568484 q loose s)
def left_of{p q:Mc}{loose:Mf}{Xt:Shared->Bool}{α:Type}{Yf:Shared->α}{Ya:World->α}{N:Nat}(O:∀w,(endP p w N).map (λs=>((gA q s,gB p q loose Xt s),gC q loose s))=some ((((openGood q loose).1,(openGood q loose).2.1),(true,true)),(openGood q loose).2.2.2.2))(S:∀w,(endP p w N).map Yf=some (Ya w)):LeftO p q loose Xt Yf Ya N:=λw=>by
 let{s₁,e,z}:=Z4.mp (O w);let{ab,c}:=XQ z;let{a,b}:=XQ ab;let{_,G,d}:=Z4.mp (S w);rw[e]at G;cases G;let{U,Y}:=XQ a;let{b1,b2}:=XQ b;have g:Fast.tw4187177175401517315 q loose (importedModules p.main.body) Xt true s₁=openGood q loose:=by
  exact Prod.ext U<|Prod.ext Y (Prod.ext b1<|Prod.ext b2 c)
 rw[<-Fast.te4187177175401517315]at g;unfold endP at e;rw[<-Fast.te10274390034422433532,<-Fast.te14364793385576792824,<-Fast.te14289696077712309145]at e;let{s₀,Z,e}:=Option.bind_eq_some_iff.mp e;unfold openEnds fencedOpening;rw[Z];show(topFrom treeTable p w N s₀).map _=_;unfold topFrom;cases I:(s₀.heap.isNs mainGlobals&&s₀.gens.size==0)with
 |false=>rw[I]at e;cases e
 |true=>
  rw[I]at e;let{s₂,h1,e}:=Option.bind_eq_some_iff.mp e;show Option.map _ ((topRun treeTable p w s₀.heap.objs.size (s₀.heap.nsMap mainGlobals "__annotations__") N s₀<|topStub p).bind _)=_;rw[FL h1];cases hs:(staticsOk (importedModules p.main.body) s₀.heap s₂.heap&&namesBound p s₂.heap&&gensDone s₂&&laidKept s₀.heap s₂.heap)with
  |false=>rw[hs]at e;cases e
  |true=>
   rw[hs]at e;cases e;show Option.map _ (match (staticsOk (importedModules p.main.body) s₀.heap s₁.heap&&namesBound p s₁.heap&&gensDone s₁&&laidKept s₀.heap s₁.heap)with|true=>some s₁|false=>none)=_;rw[hs];show some (_,_)=some (_,_);rw[g,d]
def two{α β:Type}{o:Option Shared}{f:Shared->α}{g:Shared->β}{a:α}{b:β}(h:o.map (λs=>(f s,g s))=some (a,b)):o.map f=some a/\o.map g=some b:=by
 cases o with
 |none=>cases h
 |some s=>
  have h:=XQ (Xq h);exact{XB some h.1,XB some h.2}
end HD
namespace SW
open PySem L2
set_option maxHeartbeats 0
noncomputable def top(i:Nat):Stmt:=PySem.Challenge.pw_staywalk_k75_nine_refusals.main.body.getD i (.Pass {0,0,0,0})
abbrev gZ:=aT (top 8) 0
abbrev gW:=aT (top 9) 0
abbrev fV:=aT (top 10) 0
abbrev eC:=aT (top 11) 0
abbrev oQ:=top 16
abbrev oP:=top 18
abbrev mj:=top 22
abbrev oR:=top 24
abbrev gX:=aT (top 26) 0
abbrev e7:=aT (top 27) 0
abbrev mm:=aT (top 28) 0
abbrev jj:=aT (top 29) 0
abbrev m8:=top 38
abbrev uW:=top 39
abbrev fZ:=aT (top 44) 0
abbrev cR:=aT (top 44) 2
abbrev cz:=aT (top 44) 3
abbrev fW:=aT (top 48) 0
abbrev eO:=aT (top 48) 1
abbrev dF:=aT (top 48) 2
abbrev g8:=aT (top 48) 3
abbrev dE:=aT (top 48) 8
abbrev cP:=aT (top 48) 9
abbrev cy:=aT (top 48) 10
abbrev g7:=aT (top 50) 0
abbrev g6:=aT (top 50) 1
abbrev dD:=aT (top 50) 3
abbrev cx:=aT (top 50) 4
abbrev gH:=top 54
abbrev gY:=aT (top 55) 0
abbrev je:=aT (top 55) 1
abbrev jg:=aT (top 55) 3
abbrev jf:=aT (top 55) 4
abbrev eB:=aT (top 55) 11
abbrev cY:=aT (top 55) 13
abbrev cZ:=aT (top 55) 14
abbrev g9:=aT (top 57) 0
abbrev ji:=aT (top 57) 1
abbrev fY:=aT (top 57) 7
abbrev e6:=aT (top 57) 10
abbrev hJ:=aT (top 57) 11
abbrev fX:=aT (top 57) 12
abbrev jh:=aT (top 57) 13
abbrev eD:=aT (top 57) 14
abbrev hU:=aT (top 57) 15
abbrev b6:=aT (top 57) 16
abbrev cQ:=aT (top 57) 17
abbrev eM:=top 62
abbrev i7:=top 63
abbrev jc:=top 64
abbrev i8:=top 65
abbrev ja:=top 72
abbrev gU:=top 73
abbrev i9:=top 74
abbrev rA:=top 75
abbrev jk:=aT (top 101) 0
abbrev j2:=aT (top 101) 1
abbrev fS:=top 103
abbrev eZ:=top 104
abbrev fR:=top 105
abbrev dC:=top 106
abbrev gV:=top 107
abbrev jd:=top 108
abbrev fw:=top 109
abbrev dB:=top 110
abbrev Cq:=top 111
set_option genInjectivity false in
structure JM where
 iG:Addr
 io:FuncData
 iE:Addr
 ig:FuncData
 gx:Addr
 gk:FuncData
 eK:Addr
 eJ:FuncData
 uJ:Addr
 pA:FuncData
 uI:Addr
 pz:FuncData
 sO:Addr
 mH:FuncData
 uK:Addr
 pB:FuncData
 iF:Addr
 ii:FuncData
 jO:Addr
 cq:FuncData
 sP:Addr
 gj:FuncData
 ou:Addr
 dU:FuncData
 Ab:Addr
 vx:FuncData
 Ac:Addr
 vz:FuncData
 kI:Addr
 dW:FuncData
 ft:Addr
 b5:FuncData
 eX:Addr
 cG:FuncData
 kF:Addr
 gs:FuncData
 lP:Addr
 iw:FuncData
 gR:Addr
 dR:FuncData
 lO:Addr
 iu:FuncData
 gQ:Addr
 dQ:FuncData
 fo:Addr
 cU:FuncData
 eW:Addr
 cE:FuncData
 lN:Addr
 ir:FuncData
 lM:Addr
 iq:FuncData
 gP:Addr
 dP:FuncData
 kE:Addr
 gr:FuncData
 pK:Addr
 kr:FuncData
 lL:Addr
 im:FuncData
 oi:Addr
 jy:FuncData
 ol:Addr
 jA:FuncData
 oj:Addr
 jz:FuncData
 iZ:Addr
 eI:FuncData
 gy:Addr
 de:FuncData
 gE:Addr
 dj:FuncData
 lQ:Addr
 ix:FuncData
 oq:Addr
 jC:FuncData
 kH:Addr
 dS:FuncData
 jN:Addr
 fk:FuncData
 lR:Addr
 iy:FuncData
 kG:Addr
 gu:FuncData
 oo:Addr
 jB:FuncData
 i4:Addr
 cM:FuncData
 lT:Addr
 iz:FuncData
 dz:Addr
 b8:FuncData
 fq:Addr
 cV:FuncData
 lJ:Addr
 ia:FuncData
 nZ:Addr
 js:FuncData
 oa:Addr
 jw:FuncData
 n6:Addr
 jt:FuncData
 n9:Addr
 jv:FuncData
 lI:Addr
 hZ:FuncData
 n8:Addr
 ju:FuncData
 xo:Addr
 sH:FuncData
 oy:Addr
 jD:FuncData
 pL:Addr
 kt:FuncData
 kD:Addr
 gi:FuncData
 jM:Addr
 fj:FuncData
 kC:Addr
 gh:FuncData
 gO:Addr
 dN:FuncData
 lK:Addr
 ie:FuncData
 fH:Addr
 dO:FuncData
 oe:Addr
 jx:FuncData
 gN:Addr
 dM:FuncData
 Gz:Addr
 zS:FuncData
 aX:Addr
 aJ:Addr
 a6:Addr
 a8:Addr
 bb:Addr
 aG:Addr
 bj:Addr
 bq:Addr
 a5:Addr
 aL:Addr
 fG:Addr
 bf:Addr
 gv:Addr
 iA:Addr
 bV:Addr
 bP:Addr
 cO:Addr
 br:Addr
 bi:Addr
 iB:Addr
 FA:Addr
 vc:List (Str×Nat×Addr)
end SW
namespace ZK
open PySem PySem.W SW L2
noncomputable abbrev N:Value:= .none
noncomputable abbrev B(b:Bool):Value:= .bool b
noncomputable abbrev I(i:Int):Value:= .int i 0
noncomputable abbrev S(x:Str)(t:Nat):Value:= .str x t
noncomputable abbrev F(t:Nat):Value:= .str "/claim/cut.py" t
abbrev _root_.G':=Addr
noncomputable abbrev R(a:G'):Value:= .ref a
noncomputable abbrev T(n:String):Value:= .type n
abbrev _root_.K':=Value
noncomputable abbrev E(P:Params)(x:Str)(t:Nat)(v:K'):DictEntry:={PyData.keyHash P x,.str x t,v}
abbrev _root_.Lz:=List Value
noncomputable abbrev c(vs:Lz):Obj:={.type "code",none,.fields vs.toArray, #[]}
abbrev o(n:Str)(a:Nat)(m:Str)(b d:Nat)(e g h i j:Int)(k:G')(l:Int)(r s t u:G')(v w:Int)(x:Nat):Obj:=c [S n a,S m b,F d,I e,I g,I h,I i,I j,R k,B true,I l,R r,N,R s,R t,R u,I v,I w,F x]
abbrev _root_.Me:=Option Addr
abbrev D(nm qn:Str)(s:Stmt)(df kV dc pm:K')(an:Me)(cd ct:K'):FuncData:=fnOf nm qn (fF s) (b4 s) (ah s) df kV dc pm an cd ct
abbrev _root_.Mq:=FuncData
noncomputable abbrev f(d:Mq):Obj:={.type "function",none,.func d, #[]}
abbrev d10:=λx q s r=>D x q s N N N (S "law_staywalk_k75_nine_refusals" 1835) none (R r) N
abbrev d11:=λx q s r=>D x q s N N N (S "staywalk.asks" 618) none (R r) N
abbrev d12:=λx q s r=>D x q s N N N (S "staywalk.bits" 394) none (R r) N
abbrev d13:=λx q s r=>D x q s N N N (S "staywalk.desk" 1567) none (R r) N
abbrev d14:=λx q s r=>D x q s N N N (S "staywalk.errors" 194) none (R r) N
abbrev d15:=λx q s r=>D x q s N N N (S "staywalk.house" 1234) none (R r) N
abbrev d16:=λx q s r=>D x q s N N N (S "staywalk.leaves" 897) none (R r) N
abbrev d17:=λx q s r=>D x q s N N N (S "staywalk.makes" 1010) none (R r) N
abbrev d18:=λx q s r=>D x q s N N N (S "staywalk.orders" 1465) none (R r) N
abbrev d19:=λx q s r=>D x q s N N N (S "staywalk.slots" 1071) none (R r) N
abbrev d20:=λx q s r=>D x q s N N N (S "staywalk.tokens" 458) none (R r) N
abbrev d21:=λx q s r=>D x q s N N N (S "staywalk.words" 1409) none (R r) N
def t:JM:={108,d14 "__init__" "NoKey.__init__" gZ 107,127,d14 "__init__" "Twice.__init__" gW 126,146,d14 "__init__" "TooOld.__init__" fV 145,165,d14 "__init__" "NoMoment.__init__" eC 164,184,d12 "mark_of" "mark_of" oQ 183,198,d12 "slot_of" "slot_of" oP 197,219,D "is_whole" "is_whole" mj N N N (S "staywalk.wholes" 449) none (R 218) N,226,d20 "is_from" "is_from" oR 225,247,d20 "__init__" "Token.__init__" gX 246,276,D "__init__" "BySlots.__init__" e7 (R 269) N N (S "staywalk.tokens" 458) none (R 275) N,303,D "__init__" "Up.__init__" mm (R 296) N N (S "staywalk.tokens" 458) none (R 302) N,330,D "__init__" "Down.__init__" jj (R 323) N N (S "staywalk.tokens" 458) none (R 329) N,384,d11 "parts" "parts" m8 383,391,d11 "bound" "bound" uW 390,462,D "__init__" "Copier.__init__" fZ (R 455) N N (S "staywalk.copier" 686) none (R 461) N,477,D "read_page" "Copier.read_page" cR (R 470) N N (S "staywalk.copier" 686) none (R 476) N,484,D "close_page" "Copier.close_page" cz N N N (S "staywalk.copier" 686) none (R 483) N,568,d16 "__init__" "Leaves.__init__" fW 567,573,d16 "add" "Leaves.add" eO 572,580,d16 "discard" "Leaves.discard" dF 579,587,d16 "has" "Leaves.has" g8 586,616,d16 "leaf_of" "Leaves.leaf_of" dE 615,623,d16 "part_leaf" "Leaves.part_leaf" cP 622,630,d16 "join_small" "Leaves.join_small" cy 629,651,d17 "__init__" "Makes.__init__" g7 650,658,d17 "note" "Makes.note" g6 657,672,d17 "value_at" "Makes.value_at" dD 671,677,d17 "sweep" "Makes.sweep" cx 676,689,d19 "empty_row" "empty_row" gH 688,703,d19 "__init__" "Slots.__init__" gY 702,710,d19 "put" "Slots.put" je 709,724,d19 "get" "Slots.get" jg 723,731,d19 "has" "Slots.has" jf 730,776,d19 "cell_of" "Slots.cell_of" eB 775,790,d19 "move_slot" "Slots.move_slot" cY 789,797,d19 "begin_row" "Slots.begin_row" cZ 796,818,d15 "__init__" "House.__init__" g9 817,825,d15 "put" "House.put" ji 824,868,D "diary" "House.diary" fY (R 861) N N (S "staywalk.house" 1234) none (R 867) N,889,d15 "let_go" "House.let_go" e6 888,896,d15 "held" "House.held" hJ 895,903,d15 "sweep" "House.sweep" fX 902,910,d15 "was" "House.was" jh 909,916,D "page_at" "House.page_at" eD (R 911) N N (S "staywalk.house" 1234) none (R 915) N,923,d15 "done" "House.done" hU 922,930,d15 "refuse_outside" "House.refuse_outside" b6 929,937,d15 "value_then" "House.value_then" cQ 936,949,d21 "are_figures" "are_figures" eM 948,956,d21 "read_whole" "read_whole" i7 955,963,d21 "read_bound" "read_bound" jc 962,970,d21 "read_token" "read_token" i8 969,1012,d18 "read_order" "read_order" ja 1011,1019,d18 "read_things" "read_things" gU 1018,1026,d18 "read_thing" "read_thing" i9 1025,1033,d18 "may_be" "may_be" rA 1032,1200,d13 "__init__" "Desk.__init__" jk 1199,1207,d13 "say" "Desk.say" j2 1206,1221,d10 "_law_cell_at" "_law_cell_at" fS 1220,1228,d10 "_law_of_texts" "_law_of_texts" eZ 1227,1235,d10 "_law_of_keys" "_law_of_keys" fR 1234,1242,d10 "_law_of_moments" "_law_of_moments" dC 1241,1249,d10 "_law_raised" "_law_raised" gV 1248,1256,d10 "_law_field" "_law_field" jd 1255,1261,d10 "_law_right" "_law_right" fw 1260,1268,d10 "_law_token_text" "_law_token_text" dB 1267,1275,d10 "law" "law" Cq 1274,31,44,56,68,80,92,111,130,149,168,257,286,313,340,550,633,680,800,940,1210,983,[("put",1467,984),("drop",1471,985),("get",1474,986),("many",1477,987),("page",1479,988),("hold",1483,989),("free",1485,990),("sweep",1488,991),("now",1490,992),("at",1492,993),("past",1496,994),("copy",1501,995),("open",1504,996),("read",1506,997),("close",1509,998),("follow",1511,999),("show",1514,1000),("covers",1516,1002),("total",1518,1003),("stop",1519,1004),("keep",1520,1005)]}
abbrev ob(n m:Str)(a:Nat)(e g:Int)(k:G')(v:Nat):=o n a m (a+1) (a+2) e g 0 0 3 k 181 (k+1) (k+2) (k+3) (k+4) v e (v+1)
abbrev oa(n:Str):=ob n n
abbrev ea(P:Params)(x:Str)(t:Nat)(a:G'):=E P x t (R a)
def K:Params->Frag:=λP=>(!2,{N,none,.dict #[] 0, #[]})::
(!3,{(T "dict"),none,.dict #[E P "__name__" 165 (S "law_staywalk_k75_nine_refusals" 1835),E P "__doc__" 166 N,E P "__package__" 167 N,E P "__loader__" 168 (.builtin "__main__.__loader__#opaque"),E P "__spec__" 169 N,ea P "__annotations__" 170 6,ea P "__builtins__" 171 4,E P "__file__" 173 (S "/claim/cut.py" 172),E P "__cached__" 174 N,ea P "_wall" 193 21,ea P "WalkError" 213 31,ea P "NoToken" 229 44,ea P "NoText" 245 56,ea P "NoRow" 261 68,ea P "NoPart" 277 80,ea P "OutOfTurn" 293 92,ea P "NoKey" 318 111,ea P "Twice" 343 130,ea P "TooOld" 368 149,ea P "NoMoment" 393 168,E P "BITS" 397 (.int 16 396),E P "PLACES" 399 (.int 65536 398),ea P "turned" 409 177,ea P "mark_of" 416 184,ea P "place_of" 423 191,ea P "slot_of" 431 198,ea P "stretch_of" 440 205,ea P "slot_at" 448 212,ea P "is_whole" 457 219,ea P "is_from" 467 226,ea P "word_of" 474 233,ea P "Token" 514 257,ea P "BySlots" 549 286,ea P "Up" 583 313,ea P "Down" 617 340,E P "STRETCHES_A_KEY" 621 (.int 4 620),ea P "ask" 628 348,ea P "page_by_slots" 641 355,ea P "page_by_keys" 647 360,ea P "keys_of_page" 653 365,ea P "keys_near" 662 372,ea P "token_behind" 670 379,ea P "parts" 676 384,ea P "bound" 685 391,ea P "is_left" 695 398,ea P "change" 703 405,ea P "Page" 763 443,ea P "Copier" 896 550,E P "MOST_IN_LEAF" 900 (.int 8 899),E P "LEAST_IN_TWO" 902 (.int 5 901),ea P "Leaves" 1009 633,ea P "Makes" 1070 680,E P "LEAST_SIZE" 1074 (.int 4 1073),E P "GREATEST_SIZE" 1076 (.int 256 1075),ea P "empty_row" 1082 689,ea P "Slots" 1233 800,ea P "House" 1408 940,E P "FIGURES" 1412 (S "0123456789" 1411),E P "MOST_FIGURES" 1414 (.int 60 1413),E P "WORDS_OF_TOKEN" 1416 (.int 3 1415),ea P "are_figures" 1422 949,ea P "read_whole" 1431 956,ea P "read_bound" 1438 963,ea P "read_token" 1448 970,ea P "row_of" 1458 977,ea P "rows_of" 1464 982,ea P "FORMS" 1525 983,E P "MOST_KEYS" 1527 (.int 100 1526),ea P "read_order" 1537 1012,ea P "read_things" 1549 1019,ea P "read_thing" 1558 1026,ea P "may_be" 1566 1033,ea P "answer_put" 1576 1040,ea P "answer_drop" 1584 1047,ea P "answer_get" 1592 1054,ea P "answer_many" 1600 1061,ea P "page_told" 1606 1066,ea P "answer_page" 1614 1073,ea P "answer_hold" 1622 1080,ea P "answer_free" 1630 1087,ea P "answer_sweep" 1638 1094,ea P "answer_now" 1646 1101,ea P "answer_at" 1655 1108,ea P "answer_past" 1663 1115,ea P "answer_copy" 1671 1122,ea P "answer_open" 1679 1129,ea P "answer_read" 1687 1136,ea P "answer_close" 1695 1143,ea P "answer_follow" 1703 1150,ea P "answer_show" 1709 1155,ea P "answer_covers" 1717 1162,ea P "answer_total" 1725 1169,ea P "answer_stop" 1734 1176,ea P "answer_keep" 1742 1183,ea P "ANSWERS" 1785 1184,ea P "OF_COPIER" 1794 1186,ea P "Desk" 1834 1210,ea P "_law_cell_at" 1844 1221,ea P "_law_of_texts" 1853 1228,ea P "_law_of_keys" 1863 1235,ea P "_law_of_moments" 1875 1242,ea P "_law_raised" 1885 1249,ea P "_law_field" 1892 1256,ea P "_law_right" 1898 1261,ea P "_law_token_text" 1906 1268,ea P "law" 1916 1275] 106, #[]})::
(!30,{(T "dict"),none,.dict #[E P "__module__" 203 (S "staywalk.errors" 194),E P "__firstlineno__" 207 (.int 5 206),ea P "__static_attributes__" 208 29,ea P "__weakref__" 210 32,E P "__doc__" 211 N] 3, #[]})::
(!31,{(T "type"),none,.cls {"WalkError",[(T "ValueError")],[(R 31),(T "ValueError"),(T "Exception"),(T "BaseException"),(T "object")],30,"WalkError",true,[],[(R 44),(R 56),(R 68),(R 80),(R 92),(R 111),(R 130),(R 149),(R 168)],false,none,false}, #[some (R 22),none,some (S "WalkError" 196),some (S "WalkError" 204),some (.builtin "ValueError.__new__"),some (B true)]})::
(!43,{(T "dict"),none,.dict #[E P "__module__" 221 (S "staywalk.errors" 194),E P "__firstlineno__" 225 (.int 7 224),ea P "__static_attributes__" 226 42,E P "__doc__" 227 N] 2, #[]})::
(!44,{(T "type"),none,.cls {"NoToken",[(R 31)],[(R 44),(R 31),(T "ValueError"),(T "Exception"),(T "BaseException"),(T "object")],43,"NoToken",true,[],[],false,none,false}, #[some (R 35),none,some (S "NoToken" 214),some (S "NoToken" 222),some (.builtin "ValueError.__new__"),some (B true)]})::
(!55,{(T "dict"),none,.dict #[E P "__module__" 237 (S "staywalk.errors" 194),E P "__firstlineno__" 241 (.int 9 240),ea P "__static_attributes__" 242 54,E P "__doc__" 243 N] 2, #[]})::
(!56,{(T "type"),none,.cls {"NoText",[(R 31)],[(R 56),(R 31),(T "ValueError"),(T "Exception"),(T "BaseException"),(T "object")],55,"NoText",true,[],[],false,none,false}, #[some (R 47),none,some (S "NoText" 230),some (S "NoText" 238),some (.builtin "ValueError.__new__"),some (B true)]})::
(!67,{(T "dict"),none,.dict #[E P "__module__" 253 (S "staywalk.errors" 194),E P "__firstlineno__" 257 (.int 11 256),ea P "__static_attributes__" 258 66,E P "__doc__" 259 N] 2, #[]})::
(!68,{(T "type"),none,.cls {"NoRow",[(R 31)],[(R 68),(R 31),(T "ValueError"),(T "Exception"),(T "BaseException"),(T "object")],67,"NoRow",true,[],[],false,none,false}, #[some (R 59),none,some (S "NoRow" 246),some (S "NoRow" 254),some (.builtin "ValueError.__new__"),some (B true)]})::
(!79,{(T "dict"),none,.dict #[E P "__module__" 269 (S "staywalk.errors" 194),E P "__firstlineno__" 273 (.int 13 272),ea P "__static_attributes__" 274 78,E P "__doc__" 275 N] 2, #[]})::
(!80,{(T "type"),none,.cls {"NoPart",[(R 31)],[(R 80),(R 31),(T "ValueError"),(T "Exception"),(T "BaseException"),(T "object")],79,"NoPart",true,[],[],false,none,false}, #[some (R 71),none,some (S "NoPart" 262),some (S "NoPart" 270),some (.builtin "ValueError.__new__"),some (B true)]})::
(!91,{(T "dict"),none,.dict #[E P "__module__" 285 (S "staywalk.errors" 194),E P "__firstlineno__" 289 (.int 15 288),ea P "__static_attributes__" 290 90,E P "__doc__" 291 N] 2, #[]})::
(!92,{(T "type"),none,.cls {"OutOfTurn",[(R 31)],[(R 92),(R 31),(T "ValueError"),(T "Exception"),(T "BaseException"),(T "object")],91,"OutOfTurn",true,[],[],false,none,false}, #[some (R 83),none,some (S "OutOfTurn" 278),some (S "OutOfTurn" 286),some (.builtin "ValueError.__new__"),some (B true)]})::
(!107,ob "__init__" "NoKey.__init__" 306 19 2 102 311)::
(!108,f t.io)::
(!110,{(T "dict"),none,.dict #[E P "__module__" 301 (S "staywalk.errors" 194),E P "__firstlineno__" 305 (.int 17 304),ea P "__init__" 313 108,ea P "__static_attributes__" 315 109,E P "__doc__" 316 N] 2, #[]})::
(!111,{(T "type"),none,.cls {"NoKey",[(R 31)],[(R 111),(R 31),(T "ValueError"),(T "Exception"),(T "BaseException"),(T "object")],110,"NoKey",true,[],[],false,none,false}, #[some (R 95),none,some (S "NoKey" 294),some (S "NoKey" 302),some (.builtin "ValueError.__new__"),some (B true)]})::
(!126,ob "__init__" "Twice.__init__" 331 24 2 121 336)::
(!127,f t.ig)::
(!129,{(T "dict"),none,.dict #[E P "__module__" 326 (S "staywalk.errors" 194),E P "__firstlineno__" 330 (.int 22 329),ea P "__init__" 338 127,ea P "__static_attributes__" 340 128,E P "__doc__" 341 N] 2, #[]})::
(!130,{(T "type"),none,.cls {"Twice",[(R 31)],[(R 130),(R 31),(T "ValueError"),(T "Exception"),(T "BaseException"),(T "object")],129,"Twice",true,[],[],false,none,false}, #[some (R 114),none,some (S "Twice" 319),some (S "Twice" 327),some (.builtin "ValueError.__new__"),some (B true)]})::
(!145,ob "__init__" "TooOld.__init__" 356 29 2 140 361)::
(!146,f t.gk)::
(!148,{(T "dict"),none,.dict #[E P "__module__" 351 (S "staywalk.errors" 194),E P "__firstlineno__" 355 (.int 27 354),ea P "__init__" 363 146,ea P "__static_attributes__" 365 147,E P "__doc__" 366 N] 2, #[]})::
(!149,{(T "type"),none,.cls {"TooOld",[(R 31)],[(R 149),(R 31),(T "ValueError"),(T "Exception"),(T "BaseException"),(T "object")],148,"TooOld",true,[],[],false,none,false}, #[some (R 133),none,some (S "TooOld" 344),some (S "TooOld" 352),some (.builtin "ValueError.__new__"),some (B true)]})::
(!164,ob "__init__" "NoMoment.__init__" 381 34 2 159 386)::
(!165,f t.eJ)::
(!167,{(T "dict"),none,.dict #[E P "__module__" 376 (S "staywalk.errors" 194),E P "__firstlineno__" 380 (.int 32 379),ea P "__init__" 388 165,ea P "__static_attributes__" 390 166,E P "__doc__" 391 N] 2, #[]})::
(!168,{(T "type"),none,.cls {"NoMoment",[(R 31)],[(R 168),(R 31),(T "ValueError"),(T "Exception"),(T "BaseException"),(T "object")],167,"NoMoment",true,[],[],false,none,false}, #[some (R 152),none,some (S "NoMoment" 369),some (S "NoMoment" 377),some (.builtin "ValueError.__new__"),some (B true)]})::
(!183,oa "mark_of" 410 47 1 178 414)::
(!184,f t.pA)::
(!197,oa "slot_of" 424 51 2 192 429)::
(!198,f t.pz)::
(!218,oa "is_whole" 451 59 1 213 455)::
(!219,f t.mH)::
(!225,oa "is_from" 460 62 2 220 465)::
(!226,f t.pB)::
(!246,ob "__init__" "Token.__init__" 487 68 4 241 494)::
(!247,f t.ii)::
(!256,{(T "dict"),none,.dict #[E P "__module__" 482 (S "staywalk.tokens" 458),E P "__firstlineno__" 486 (.int 66 485),ea P "__init__" 496 247,ea P "words" 503 254,ea P "__static_attributes__" 507 255,ea P "__dict__" 509 258,ea P "__weakref__" 511 259,E P "__doc__" 512 N] 4, #[]})::
(!257,{(T "type"),none,.cls {"Token",[(T "object")],[(R 257),(T "object")],256,"Token",true,[],[(R 286),(R 313),(R 340)],false,none,false}, #[none,none,some (S "Token" 475),some (S "Token" 483),some (.builtin "object.__new__"),some (B true)]})::
(!269,{(T "tuple"),none,.seq #[(.int 0 527),(.int 65536 528)] 0, #[]})::
(!275,ob "__init__" "BySlots.__init__" 529 77 3 270 535)::
(!276,f t.cq)::
(!285,{(T "dict"),none,.dict #[E P "__module__" 522 (S "staywalk.tokens" 458),E P "__firstlineno__" 526 (.int 75 525),ea P "__init__" 537 276,ea P "holds" 545 283,ea P "__static_attributes__" 546 284,E P "__doc__" 547 N] 2, #[]})::
(!286,{(T "type"),none,.cls {"BySlots",[(R 257)],[(R 286),(R 257),(T "object")],285,"BySlots",true,[],[],false,none,false}, #[some (R 262),none,some (S "BySlots" 515),some (S "BySlots" 523),some (.builtin "object.__new__"),some (B true)]})::
(!296,{(T "tuple"),none,.seq #[(.int 0 562),N] 0, #[]})::
(!302,ob "__init__" "Up.__init__" 563 86 3 297 569)::
(!303,f t.gj)::
(!312,{(T "dict"),none,.dict #[E P "__module__" 557 (S "staywalk.tokens" 458),E P "__firstlineno__" 561 (.int 84 560),ea P "__init__" 571 303,ea P "holds" 579 310,ea P "__static_attributes__" 580 311,E P "__doc__" 581 N] 2, #[]})::
(!313,{(T "type"),none,.cls {"Up",[(R 257)],[(R 313),(R 257),(T "object")],312,"Up",true,[],[],false,none,false}, #[some (R 289),none,some (S "Up" 550),some (S "Up" 558),some (.builtin "object.__new__"),some (B true)]})::
(!323,{(T "tuple"),none,.seq #[N,(.int 0 596)] 0, #[]})::
(!329,ob "__init__" "Down.__init__" 597 95 3 324 603)::
(!330,f t.dU)::
(!339,{(T "dict"),none,.dict #[E P "__module__" 591 (S "staywalk.tokens" 458),E P "__firstlineno__" 595 (.int 93 594),ea P "__init__" 605 330,ea P "holds" 613 337,ea P "__static_attributes__" 614 338,E P "__doc__" 615 N] 2, #[]})::
(!340,{(T "type"),none,.cls {"Down",[(R 257)],[(R 340),(R 257),(T "object")],339,"Down",true,[],[],false,none,false}, #[some (R 316),none,some (S "Down" 584),some (S "Down" 592),some (.builtin "object.__new__"),some (B true)]})::
(!383,c [(S "parts" 671),(S "parts" 672),(F 673),(I 146),(I 2),(I 0),(I 0),(I 3),(R 380),(B true),(I 181),(R 381),N,N,N,(R 382),(I 674),(I 146),(F 675)])::
(!384,f t.vx)::
(!390,oa "bound" 677 152 3 385 683)::
(!391,f t.vz)::
(!455,{(T "tuple"),none,.seq #[N] 0, #[]})::
(!461,ob "__init__" "Copier.__init__" 776 186 4 456 783)::
(!462,f t.dW)::
(!470,{(T "tuple"),none,.seq #[(.int 10 793)] 0, #[]})::
(!476,ob "read_page" "Copier.read_page" 794 204 2 471 800)::
(!477,f t.b5)::
(!483,ob "close_page" "Copier.close_page" 803 211 1 478 808)::
(!484,f t.cG)::
(!549,{(T "dict"),none,.dict #[E P "__module__" 771 (S "staywalk.copier" 686),E P "__firstlineno__" 775 (.int 184 774),ea P "__init__" 785 462,ea P "open_page" 792 469,ea P "read_page" 802 477,ea P "close_page" 810 484,ea P "follow" 820 491,ea P "follow_mark" 829 498,ea P "follow_change" 839 505,ea P "copy" 846 512,ea P "covers" 854 519,ea P "place" 861 526,ea P "left" 868 533,ea P "total" 875 540,ea P "stopped" 882 547,ea P "__static_attributes__" 889 548,ea P "__dict__" 891 551,ea P "__weakref__" 893 552,E P "__doc__" 894 N] 4, #[]})::
(!550,{(T "type"),none,.cls {"Copier",[(T "object")],[(R 550),(T "object")],549,"Copier",true,[],[],false,none,false}, #[none,none,some (S "Copier" 764),some (S "Copier" 772),some (.builtin "object.__new__"),some (B true)]})::
(!567,ob "__init__" "Leaves.__init__" 915 266 1 562 919)::
(!568,f t.gs)::
(!572,c [(S "add" 922),(S "Leaves.add" 923),(F 924),(I 269),(I 2),(I 0),(I 0),(I 3),(R 569),(B true),(I 181),(R 570),N,N,N,(R 571),(I 925),(I 269),(F 926)])::
(!573,f t.iw)::
(!579,ob "discard" "Leaves.discard" 928 281 2 574 934)::
(!580,f t.dR)::
(!586,ob "has" "Leaves.has" 937 292 2 581 943)::
(!587,f t.iu)::
(!615,ob "leaf_of" "Leaves.leaf_of" 971 320 2 610 979)::
(!616,f t.dQ)::
(!622,ob "part_leaf" "Leaves.part_leaf" 982 331 2 617 989)::
(!623,f t.cU)::
(!629,ob "join_small" "Leaves.join_small" 992 337 2 624 998)::
(!630,f t.cE)::
(!632,{(T "dict"),none,.dict #[E P "__module__" 910 (S "staywalk.leaves" 897),E P "__firstlineno__" 914 (.int 264 913),ea P "__init__" 921 568,ea P "add" 927 573,ea P "discard" 936 580,ea P "has" 945 587,ea P "many" 951 592,ea P "all_of" 958 599,ea P "from_on" 964 604,ea P "down_from" 970 609,ea P "leaf_of" 981 616,ea P "part_leaf" 991 623,ea P "join_small" 1000 630,ea P "__static_attributes__" 1002 631,ea P "__dict__" 1004 634,ea P "__weakref__" 1006 635,E P "__doc__" 1007 N] 4, #[]})::
(!633,{(T "type"),none,.cls {"Leaves",[(T "object")],[(R 633),(T "object")],632,"Leaves",true,[],[],false,none,false}, #[none,none,some (S "Leaves" 903),some (S "Leaves" 911),some (.builtin "object.__new__"),some (B true)]})::
(!650,ob "__init__" "Makes.__init__" 1024 347 1 645 1028)::
(!651,f t.ir)::
(!657,ob "note" "Makes.note" 1031 350 3 652 1037)::
(!658,f t.iq)::
(!671,ob "value_at" "Makes.value_at" 1047 356 2 666 1053)::
(!672,f t.dP)::
(!676,c [(S "sweep" 1056),(S "Makes.sweep" 1057),(F 1058),(I 362),(I 2),(I 0),(I 0),(I 3),(R 673),(B true),(I 181),(R 674),N,N,N,(R 675),(I 1059),(I 362),(F 1060)])::
(!677,f t.gr)::
(!679,{(T "dict"),none,.dict #[E P "__module__" 1019 (S "staywalk.makes" 1010),E P "__firstlineno__" 1023 (.int 345 1022),ea P "__init__" 1030 651,ea P "note" 1039 658,ea P "all_told" 1046 665,ea P "value_at" 1055 672,ea P "sweep" 1061 677,ea P "__static_attributes__" 1063 678,ea P "__dict__" 1065 681,ea P "__weakref__" 1067 682,E P "__doc__" 1068 N] 4, #[]})::
(!680,{(T "type"),none,.cls {"Makes",[(T "object")],[(R 680),(T "object")],679,"Makes",true,[],[],false,none,false}, #[none,none,some (S "Makes" 1012),some (S "Makes" 1020),some (.builtin "object.__new__"),some (B true)]})::
(!688,c [(S "empty_row" 1077),(S "empty_row" 1078),(F 1079),(I 373),(I 1),(I 0),(I 0),(I 3),(R 685),(B true),(I 181),(R 686),N,N,N,(R 687),(I 1080),(I 373),(F 1081)])::
(!689,f t.kr)::
(!702,ob "__init__" "Slots.__init__" 1095 377 1 697 1099)::
(!703,f t.im)::
(!709,ob "put" "Slots.put" 1102 382 3 704 1109)::
(!710,f t.jy)::
(!723,ob "get" "Slots.get" 1120 398 2 718 1126)::
(!724,f t.jA)::
(!730,ob "has" "Slots.has" 1129 404 2 725 1134)::
(!731,f t.jz)::
(!775,ob "cell_of" "Slots.cell_of" 1179 433 2 770 1187)::
(!776,f t.eI)::
(!789,ob "move_slot" "Slots.move_slot" 1204 450 1 784 1212)::
(!790,f t.de)::
(!796,ob "begin_row" "Slots.begin_row" 1215 463 1 791 1220)::
(!797,f t.dj)::
(!799,{(T "dict"),none,.dict #[E P "__module__" 1090 (S "staywalk.slots" 1071),E P "__firstlineno__" 1094 (.int 375 1093),ea P "__init__" 1101 703,ea P "put" 1111 710,ea P "drop" 1119 717,ea P "get" 1128 724,ea P "has" 1136 731,ea P "many" 1143 738,ea P "rows" 1149 743,ea P "moved" 1156 750,ea P "cells" 1163 757,ea P "span" 1169 762,ea P "stop" 1178 769,ea P "cell_of" 1189 776,ea P "lying_at" 1203 783,ea P "move_slot" 1214 790,ea P "begin_row" 1222 797,ea P "__static_attributes__" 1226 798,ea P "__dict__" 1228 801,ea P "__weakref__" 1230 802,E P "__doc__" 1231 N] 4, #[]})::
(!800,{(T "type"),none,.cls {"Slots",[(T "object")],[(R 800),(T "object")],799,"Slots",true,[],[],false,none,false}, #[none,none,some (S "Slots" 1083),some (S "Slots" 1091),some (.builtin "object.__new__"),some (B true)]})::
(!817,ob "__init__" "House.__init__" 1248 474 1 812 1252)::
(!818,f t.ix)::
(!824,ob "put" "House.put" 1255 484 3 819 1261)::
(!825,f t.jC)::
(!861,{(T "tuple"),none,.seq #[(.int 0 1302)] 0, #[]})::
(!867,ob "diary" "House.diary" 1303 509 2 862 1308)::
(!868,f t.dS)::
(!888,ob "let_go" "House.let_go" 1326 519 2 883 1331)::
(!889,f t.fk)::
(!895,ob "held" "House.held" 1334 526 1 890 1338)::
(!896,f t.iy)::
(!902,ob "sweep" "House.sweep" 1341 529 1 897 1347)::
(!903,f t.gu)::
(!909,ob "was" "House.was" 1350 536 3 904 1356)::
(!910,f t.jB)::
(!911,{(T "tuple"),none,.seq #[(.int 10 1359)] 0, #[]})::
(!915,c [(S "page_at" 1360),(S "House.page_at" 1361),(F 1362),(I 540),(I 4),(I 0),(I 0),(I 3),(R 912),(B true),(I 181),(R 913),N,N,N,(R 914),(I 1363),(I 540),(F 1364)])::
(!916,f t.cM)::
(!922,ob "done" "House.done" 1366 549 3 917 1373)::
(!923,f t.iz)::
(!929,ob "refuse_outside" "House.refuse_outside" 1376 556 2 924 1381)::
(!930,f t.b8)::
(!936,ob "value_then" "House.value_then" 1384 562 3 931 1390)::
(!937,f t.cV)::
(!939,{(T "dict"),none,.dict #[E P "__module__" 1243 (S "staywalk.house" 1234),E P "__firstlineno__" 1247 (.int 472 1246),ea P "__init__" 1254 818,ea P "put" 1263 825,ea P "drop" 1271 832,ea P "get" 1279 839,ea P "has" 1287 846,ea P "many" 1294 853,ea P "lay_mark" 1301 860,ea P "diary" 1310 868,ea P "makes" 1318 875,ea P "hold" 1325 882,ea P "let_go" 1333 889,ea P "held" 1340 896,ea P "sweep" 1349 903,ea P "was" 1358 910,ea P "page_at" 1365 916,ea P "done" 1375 923,ea P "refuse_outside" 1383 930,ea P "value_then" 1392 937,ea P "__static_attributes__" 1401 938,ea P "__dict__" 1403 941,ea P "__weakref__" 1405 942,E P "__doc__" 1406 N] 4, #[]})::
(!940,{(T "type"),none,.cls {"House",[(T "object")],[(R 940),(T "object")],939,"House",true,[],[],false,none,false}, #[none,none,some (S "House" 1236),some (S "House" 1244),some (.builtin "object.__new__"),some (B true)]})::
(!948,c [(S "are_figures" 1417),(S "are_figures" 1418),(F 1419),(I 568),(I 1),(I 0),(I 0),(I 3),(R 945),(B true),(I 181),(R 946),N,N,N,(R 947),(I 1420),(I 568),(F 1421)])::
(!949,f t.ia)::
(!955,oa "read_whole" 1423 574 1 950 1429)::
(!956,f t.js)::
(!962,oa "read_bound" 1432 582 1 957 1436)::
(!963,f t.jw)::
(!969,oa "read_token" 1439 589 1 964 1446)::
(!970,f t.jt)::
(!983,{(T "dict"),none,.dict #[ea P "put" 1467 984,ea P "drop" 1471 985,ea P "get" 1474 986,ea P "many" 1477 987,ea P "page" 1479 988,ea P "hold" 1483 989,ea P "free" 1485 990,ea P "sweep" 1488 991,ea P "now" 1490 992,ea P "at" 1492 993,ea P "past" 1496 994,ea P "copy" 1501 995,ea P "open" 1504 996,ea P "read" 1506 997,ea P "close" 1509 998,ea P "follow" 1511 999,ea P "show" 1514 1000,ea P "covers" 1516 1002,ea P "total" 1518 1003,ea P "stop" 1519 1004,ea P "keep" 1520 1005] 21, #[]})::
(!984,{(T "tuple"),none,.seq #[(S "KEY" 1468),(S "VALUE" 1469)] 0, #[]})::
(!986,{(T "tuple"),none,.seq #[(S "KEY" 1475)] 0, #[]})::
(!1011,oa "read_order" 1528 613 1 1006 1535)::
(!1012,f t.jv)::
(!1018,oa "read_things" 1538 624 2 1013 1547)::
(!1019,f t.hZ)::
(!1025,oa "read_thing" 1550 634 2 1020 1556)::
(!1026,f t.ju)::
(!1032,oa "may_be" 1559 644 2 1027 1564)::
(!1033,f t.sH)::
(!1199,ob "__init__" "Desk.__init__" 1807 712 1 1194 1811)::
(!1200,f t.jD)::
(!1206,ob "say" "Desk.say" 1814 716 2 1201 1822)::
(!1207,f t.kt)::
(!1209,{(T "dict"),none,.dict #[E P "__module__" 1802 (S "staywalk.desk" 1567),E P "__firstlineno__" 1806 (.int 710 1805),ea P "__init__" 1813 1200,ea P "say" 1824 1207,ea P "__static_attributes__" 1827 1208,ea P "__dict__" 1829 1211,ea P "__weakref__" 1831 1212,E P "__doc__" 1832 N] 4, #[]})::
(!1210,{(T "type"),none,.cls {"Desk",[(T "object")],[(R 1210),(T "object")],1209,"Desk",true,[],[],false,none,false}, #[none,none,some (S "Desk" 1795),some (S "Desk" 1803),some (.builtin "object.__new__"),some (B true)]})::
(!1220,oa "_law_cell_at" 1837 724 2 1215 1842)::
(!1221,f t.gi)::
(!1227,oa "_law_of_texts" 1845 728 3 1222 1851)::
(!1228,f t.fj)::
(!1234,oa "_law_of_keys" 1854 740 3 1229 1861)::
(!1235,f t.gh)::
(!1241,oa "_law_of_moments" 1864 756 4 1236 1873)::
(!1242,f t.dN)::
(!1248,oa "_law_raised" 1876 768 4 1243 1883)::
(!1249,f t.ie)::
(!1255,oa "_law_field" 1886 774 1 1250 1890)::
(!1256,f t.dO)::
(!1260,c [(S "_law_right" 1893),(S "_law_right" 1894),(F 1895),(I 780),(I 4),(I 0),(I 0),(I 3),(R 1257),(B true),(I 181),(R 1258),N,N,N,(R 1259),(I 1896),(I 780),(F 1897)])::
(!1261,f t.jx)::
(!1267,oa "_law_token_text" 1899 796 1 1262 1904)::
(!1268,f t.dM)::
(!1274,oa "law" 1907 802 1 1269 1914)::
(!1275,f t.zS)::[]
noncomputable abbrev as:List Addr:=[2,3,30,31,43,44,55,56,67,68,79,80,91,92,107,108,110,111,126,127,129,130,145,146,148,149,164,165,167,168,183,184,197,198,218,219,225,226,246,247,256,257,269,275,276,285,286,296,302,303,312,313,323,329,330,339,340,383,384,390,391,455,461,462,470,476,477,483,484,549,550,567,568,572,573,579,580,586,587,615,616,622,623,629,630,632,633,650,651,657,658,671,672,676,677,679,680,688,689,702,703,709,710,723,724,730,731,775,776,789,790,796,797,799,800,817,818,824,825,861,867,868,888,889,895,896,902,903,909,910,911,915,916,922,923,929,930,936,937,939,940,948,949,955,956,962,963,969,970,983,984,986,1011,1012,1018,1019,1025,1026,1032,1033,1199,1200,1206,1207,1209,1210,1220,1221,1227,1228,1234,1235,1241,1242,1248,1249,1255,1256,1260,1261,1267,1268,1274,1275]
noncomputable abbrev p:Program:=PySem.Challenge.pw_staywalk_k75_nine_refusals
abbrev q:Program:=view p [111]
abbrev H:Hook:=kHook K as λ_=>rfl
def said:OpenLaw.wellSaid PySem.Challenge.rw_staywalk_k75_nine_refusals=true:=by
 rw[Fast.te9446332074065402090]
 kernel_rfl
noncomputable abbrev M':Nat:=19570
noncomputable abbrev L:List Str:="__name__"::"__doc__"::"__package__"::"__loader__"::"__spec__"::"__annotations__"::"__builtins__"::"__file__"::"__cached__"::"_wall"::"WalkError"::"NoToken"::"NoText"::"NoRow"::"NoPart"::"OutOfTurn"::"NoKey"::"Twice"::"TooOld"::"NoMoment"::"BITS"::"PLACES"::"turned"::"mark_of"::"place_of"::"slot_of"::"stretch_of"::"slot_at"::"is_whole"::"is_from"::"word_of"::"Token"::"BySlots"::"Up"::"Down"::"STRETCHES_A_KEY"::"ask"::"page_by_slots"::"page_by_keys"::"keys_of_page"::"keys_near"::"token_behind"::"parts"::"bound"::"is_left"::"change"::"Page"::"Copier"::"MOST_IN_LEAF"::"LEAST_IN_TWO"::"Leaves"::"Makes"::"LEAST_SIZE"::"GREATEST_SIZE"::"empty_row"::"Slots"::"House"::"FIGURES"::"MOST_FIGURES"::"WORDS_OF_TOKEN"::"are_figures"::"read_whole"::"read_bound"::"read_token"::"row_of"::"rows_of"::"FORMS"::"MOST_KEYS"::"read_order"::"read_things"::"read_thing"::"may_be"::"answer_put"::"answer_drop"::"answer_get"::"answer_many"::"page_told"::"answer_page"::"answer_hold"::"answer_free"::"answer_sweep"::"answer_now"::"answer_at"::"answer_past"::"answer_copy"::"answer_open"::"answer_read"::"answer_close"::"answer_follow"::"answer_show"::"answer_covers"::"answer_total"::"answer_stop"::"answer_keep"::"ANSWERS"::"OF_COPIER"::"Desk"::"_law_cell_at"::"_law_of_texts"::"_law_of_keys"::"_law_of_moments"::"_law_raised"::"_law_field"::"_law_right"::"_law_token_text"::[]
abbrev X:Shared->Bool:=λs=>xlAt q [] s&&recOk [] s
def lAf:∀w:World,(HD.endP p (w.withFollow "special-get-raises" false) M').map (λs=>(((HD.gA q s,HD.gB p q L X s),HD.gC q L s),Hook.obs H s))=some (((((openGood q L).1,(openGood q L).2.1),(true,true)),(openGood q L).2.2.2.2),Hook.val H (w.withFollow "special-get-raises" false)):=λw=>by kernel_rfl
def lAt:∀w:World,(HD.endP p (w.withFollow "special-get-raises" true) M').map (λs=>(((HD.gA q s,HD.gB p q L X s),HD.gC q L s),Hook.obs H s))=some (((((openGood q L).1,(openGood q L).2.1),(true,true)),(openGood q L).2.2.2.2),Hook.val H (w.withFollow "special-get-raises" true)):=λw=>by kernel_rfl
def lA:∀w,(HD.endP p w M').map (λs=>(((HD.gA q s,HD.gB p q L X s),HD.gC q L s),Hook.obs H s))=some (((((openGood q L).1,(openGood q L).2.1),(true,true)),(openGood q L).2.2.2.2),Hook.val H w):=byRow2 "special-get-raises" lAf lAt
def left:LeftO p q L X (Hook.obs H) (Hook.val H) M':=HD.left_of (λw=>(HD.two<|lA w).1) (λw=>(HD.two<|lA w).2)
end ZK
abbrev cj:="self"
abbrev cs:="moment"
abbrev cC:="__init__"
abbrev ew:="key"
abbrev eN:="__debug__"
abbrev ff:="_law_other"
abbrev fx:="_law_key"
abbrev fy:="ValueError.__new__"
abbrev fz:="ValueError.__init__"
abbrev ge:="_law_way"
abbrev gp:="BaseException.__getattribute__"
abbrev gt:="list"
abbrev hL:="object.__class__"
abbrev ib:="ValueError"
abbrev i2:="_law_many"
abbrev i3:="BaseException"
abbrev jb:="tuple"
abbrev j0:="getset_descriptor.__get__"
abbrev kx:="token"
abbrev lg:="type.__call__"
abbrev mu:="_law_script"
abbrev nj:="thing"
abbrev nz:="value"
abbrev nD:="at"
abbrev oh:="isinstance"
abbrev ox:="__getattribute__"
abbrev pp:="many"
abbrev qs:="end"
abbrev ri:="leaves"
abbrev rr:="floor"
abbrev so:="text"
abbrev tt:="0123456789"
abbrev ub:="str"
namespace L2
open PySem PySem.Spec PyProof.Rows
abbrev Key:=Sum Int Str
noncomputable def ko:Key->Value->Bool
 | .inl k,v=>Value.isInt k v
 | .inr x,v=>Value.isStrOf x v
noncomputable def keyH(w:Md):Key->Int
 | .inl k=>hashInt k
 | .inr x=>hashStr w x
def b3:∀{k:Key}{v:K'},ko k v=true->(∃i t,k=Sum.inl i/\v=Value.int i t)\/(∃x t,k=Sum.inr x/\v=Value.str x t)
 | .inl i,v,h=>by
  let{t,e}:=Value.isInt_shape (k:=i) (v:=v) h;exact .inl ⟨i,t,M,e⟩
 | .inr x,v,h=>by
  let{t,e}:=Value.isStrOf_shape (x:=x) (v:=v) h;exact .inr ⟨x,t,M,e⟩
def Bb(i:Int)(t:Tok):ko (.inl i) (.int i t)=true:=by simp[ko,Value.isInt]
def Ba(x:Str)(t:Tok):ko (.inr x) (.str x t)=true:=by simp[ko,Value.isStrOf]
def Hn(a b:Int):decide ((Sum.inl a:Key)=Sum.inl b)=(a==b):=by
 by_cases e:a=b
 .subst e;simp
 .have h:¬(Sum.inl a:Key)=Sum.inl b:=λq=>e (Sum.inl.inj q);rw[Xo h];exact(Xy.mpr e).symm
def Hk(a b:Str):decide ((Sum.inr a:Key)=Sum.inr b)=decide (a=b):=by
 by_cases e:a=b
 .subst e;simp
 .have h:¬(Sum.inr a:Key)=Sum.inr b:=λq=>e (Sum.inr.inj q);rw[Xo h,Xo e]
def Hm(a:Int)(b:Str):decide ((Sum.inl a:Key)=Sum.inr b)=false:=Xo (λq=>nomatch q)
def Hl(a:Str)(b:Int):decide ((Sum.inr a:Key)=Sum.inl b)=false:=Xo (λq=>nomatch q)
def bD(prog:Mc)(w:Md):PySem.KeyKind prog w Key where
 is:=ko
 hash:=keyH w
 inj:=λv a b ha hb=>by
  rcases b3 ha with⟨i,t,rfl,rfl⟩|⟨x,t,rfl,rfl⟩
  .rcases b3 hb with⟨j,u,rfl,e⟩|⟨y,u,rfl,e⟩
   .injection e with e1 _;rw[e1]
   .exact nomatch e
  .rcases b3 hb with⟨j,u,rfl,e⟩|⟨y,u,rfl,e⟩
   .exact nomatch e
   .injection e with e1 _;rw[e1]
 byValue:=λk v h=>by
  rcases b3 h with⟨i,t,rfl,rfl⟩|⟨x,t,rfl,rfl⟩<;>rfl
 pyHash:=λhv h=>by
  rcases b3 hv with⟨i,t,rfl,rfl⟩|⟨x,t,rfl,rfl⟩
  .exact wpAny_pyHash_int h
  .exact wpAny_pyHash_str h
 eqBool:=λhu hv h=>by
  rcases b3 hu with⟨i,t,rfl,rfl⟩|⟨x,t,rfl,rfl⟩
  .rcases b3 hv with⟨j,u,rfl,rfl⟩|⟨y,u,rfl,rfl⟩
   .rw[Hn]at h;exact wpAny_eqBool_int h
   .rw[Hm]at h;exact SeqAt.EqAt.int_str i t y u _ _ _ _ h
  .rcases b3 hv with⟨j,u,rfl,rfl⟩|⟨y,u,rfl,rfl⟩
   .rw[Hl]at h;exact SeqAt.EqAt.str_int x t j u _ _ _ _ h
   .rw[Hk]at h;exact wpAny_eqBool_str h
 «strs»:=λk x t v h=>by
  rcases b3 h with⟨i,u,rfl,e⟩|⟨y,u,rfl,e⟩
  .exact nomatch e
  .injection e with e1 _;subst e1;cases v<;>rfl
def yA(prog:Mc)(w:Md)(k:Key)(v:K'):(bD prog w).is k v=ko k v:=rfl
def wF(prog:Mc)(w:Md)(i:Int)(t:Tok):(bD prog w).is (.inl i) (.int i t)=true:=Bb i t
def kg(prog:Mc)(w:Md)(x:Str)(t:Tok):(bD prog w).is (.inr x) (.str x t)=true:=Ba x t
inductive V where
 |non|bl (b:Bool)|int (i:Int)|str (x:Str)|byt (b:Array UInt8)|flt (b:UInt64)|ref (a:G')|ty (n:String)
 deriving DecidableEq
abbrev _root_.L':=List V
variable{a b:G'}{o u:HO}{h':Heap}{H:Hp}{xs:L'}{us:Lz}{P:Mc}{x:V}{w:Md}
def RelV:V->Value->Prop
 | .non,u=>u=Value.none
 | .bl b,u=>u=Value.bool b
 | .int i,u=>∃t,u=Value.int i t
 | .str x,u=>∃t,u=Value.str x t
 | .byt b,u=>∃t,u=Value.bytes b t
 | .flt b,u=>∃t,u=Value.float b t
 | .ref a,u=>u=Value.ref a
 | .ty n,u=>u=Value.type n
abbrev J8:List V->List Value->Prop:=Paired RelV
def J8.length(r:J8 xs us):xs.length=us.length:=Paired.length r
def J8.get{i:Nat}(h:J8 xs us)(e:xs[i]?=some x):∃u,us[i]?=some u/\RelV x u:=by
 induction h generalizing i with
 |nil=>cases e
 |cons r t z=>cases i with
  |zero=>cases e;exact{_,M,r}
  |succ i=>exact z e
def J8.set{u:K'}(r:RelV x u)(i:Nat)(h:J8 xs us):J8 (xs.set i x) (us.set i u):=by
 induction h generalizing i with
 |nil=>exact .nil
 |cons q t z=>cases i with
  |zero=>exact .cons r t
  |succ i=>exact .cons q<|z i
def J8.append{ys:L'}{z:Lz}(h:J8 xs us)(s:J8 ys z):J8 (xs++ys) (us++z):=by
 induction h with
 |nil=>exact s
 |cons r t G=>exact .cons r G
theorem J8.take:∀{xs:L'}{us:Lz}(n:Nat),J8 xs us->J8 (xs.take n) (us.take n)
 |_,_,0,_=> .nil
 |_,_,_+1,.nil=> .nil
 |_,_,n+1,.cons r t=> .cons r (J8.take n t)
theorem J8.drop:∀{xs:L'}{us:Lz}(n:Nat),J8 xs us->J8 (xs.drop n) (us.drop n)
 |_,_,0,r=>r
 |_,_,_+1,.nil=> .nil
 |_,_,n+1,.cons _ t=>J8.drop n t
def K2:Option V->Option Value->Prop
 |some v,some u=>RelV v u
 |none,none=>True
 |_,_=>False
def KV{κ:Type}:List (κ×V)->List (κ×Value)->Prop:=Paired λ(p:κ×V)(q:κ×Value)=>p.1=q.1/\RelV p.2 q.2
noncomputable def kV:Key->V
 | .inl i=> .int i
 | .inr x=> .str x
abbrev _root_.Mn:=Array Value
abbrev _root_.Mo:=List (Str×V)
abbrev _root_.Mr:=List (Key×V)
abbrev _root_.Mz:=List (List Key×V)
inductive HO where
 |lst(xs:L')
 |tup(xs:L')
 |dK (kvs:Mr)|dT (kvs:Mz)
 |set(S:Int->Bool)(n:Nat)
 |ins(C dx:G')(fs:Mo)
 |own(x:G')
 |xd(fs:Mo)
 |met(f x:G')
 |rng(lo hi:Int)
 |frz(o:Obj)(u:HO)
 |tbl(ps:Mn)
 |ext(φ:Heap->Prop)
abbrev Hp:=Addr->Option HO
def upd(H:Hp)(a:G')(o:HO):Hp:=λb=>if b=a then some o else H b
def I0:upd H a o a=some o:=by unfold upd;rw[Xm M]
def ae(h:b≠a):upd H a o b=H b:=by unfold upd;rw[Xl h]
def bW:upd (upd H a o) a u=upd H a u:=by
 funext b;unfold upd;split<;>rfl
def cm(h:H a=some o)(h':H b=some u)(d:o≠u):a≠b:=by
 intro e;subst e;rw[h]at h';exact d<|Xq h'
def ai(h:H a=some o)(h':H b=none):a≠b:=by
 intro e;subst e;rw[h]at h';cases h'
section
variable(P:Mc)(w:Md)
def JE(H:Hp)(h:Heap)(a:G'):HO->Prop
 | .lst xs=>xs.length<=sizeLine/\∃(its:Lz)(n:Nat),J8 xs its/\h.get? a=some {cls:= .type gt,data:= .seq its.toArray n}
 | .tup xs=>xs.length<=sizeLine/\∃its:List Value,J8 xs its/\IsTup h a its.toArray
 | .dK kvs=>kvs.length<=sizeLine/\(a==sysModules)=false/\∃vs,KV kvs vs/\h.DictOf (bD P w) a vs
 | .dT kvs=>kvs.length<=sizeLine/\(a==sysModules)=false/\∃xs:List (List Key×Addr×Value),
   Paired (λ(p:List Key×V)(q:List Key×Addr×Value)=>p.1=q.1/\H q.2.1=some (.tup<|p.1.map kV)/\RelV p.2 q.2.2) kvs xs/\
   ∃o es ep,h.get? a=some o/\o.ExactDict/\o.data= .dict es ep/\es.toList=xs.map (entryOfKey<|tupleKind<|bD P w)/\(xs.map (·.1)).Nodup
 | .set S n=>h.SetOf (intKind P w) a S n
 | .ins C dx fs=>H dx=some (.own a)/\fs.length<=1000/\dx≠a/\h.get? a=some (PySem.W.instObj C dx)/\
   ∃mA,h.Ns1 dx mA/\(∀f,K2 (fs.lookup f) (mA f))/\PySem.Within mA (fs.map (·.1))
 | .own _=>∃o,h.get? a=some o
 | .xd fs=>∃mA,h.Ns1 a mA/\∀f,K2 (fs.lookup f) (mA f)
 | .rng lo hi=>∃t u v,h.get? a=some {cls:= .type "range",data:= .fields #[.int lo t,.int hi u,.int 1 v]}
 | .frz o u=>h.get? a=some o/\JE H h a u
 | .tbl ps=>h.get? a=some {cls:= .none,data:= .fields ps}
 | .met f x=>h.get? a=some (PySem.W.methodObj (.ref f)<|.ref x)
 | .ext φ=>φ h/\(∃o,h.get? a=some o)/\∀h1 h2:Heap,φ h1->(∀o,h1.get? a=some o->h2.get? a=some o)->φ h2
def JZ(H:Hp)(h:Heap):Prop:=∀a o,H a=some o->JE P w H h a o
end
section
variable{H':Hp}{h:Heap}
def JE.lt(x:JE P w H h a o):a<h.objs.size:=by
 cases o with
 |lst xs=>let{_,_,_,_,e}:=x;exact Xs e
 |tup xs=>let{_,_,_,p}:=x;exact p.lt
 |dK kvs=>let{_,_,_,_,o,_,_,e,_}:=x;exact Xs e
 |dT kvs=>let{_,_,_,_,o,_,_,e,_}:=x;exact Xs e
 |set S n=>let{o,_,_,_,e,_}:=x;exact Xs e
 |ins C dx fs=>let{_,_,_,e,_}:=x;exact Xs e
 |own y=>let{_,e}:=x;exact Xs e
 |xd fs=>let{_,{_,_,_,e,_},_}:=x;exact Xs e
 |rng lo hi=>let{_,_,_,e}:=x;exact Xs e
 |frz ob u=>let{e,_}:=x;exact Xs e
 |tbl ps=>exact Xs<|show h.get? a=some _ from x
 |met f y=>exact Xs<|show h.get? a=some _ from x
 |ext φ=>let{_,{_,e},_}:=x;exact Xs e
def Paired.mapP{α β:Type}{F G:α->β->Prop}{z:List α}{l₂:List β}(h:Paired F z l₂)(f:∀a b,F a b->G a b):Paired G z l₂:=by
 induction h with
 |nil=>exact .nil
 |cons r t I=>exact .cons (f _ _ r) I
def JE.stay(x:JE P w H h a o)(k:∀b u,(b=a\/H b=some (.own a))->h.get? b=some u->h'.get? b=some u)
  (ho:∀b,H b=some (.own a)->H' b=some (.own a)) (G:∀b xs,H b=some (.tup xs)->H' b=some (.tup xs)):JE P w H' h' a o:=by
 induction o with
 |lst xs=>let{z,its,n,r,e}:=x;exact{z,its,n,r,k _ _ (.inl M) e}
 |tup xs=>let{z,its,r,ob,e,c}:=x;exact{z,its,r,ob,k _ _ (.inl M) e,c}
 |dK kvs=>let{z,y,vs,r,ob,es,ep,e,c}:=x;exact{z,y,vs,r,ob,es,ep,k _ _ (.inl M) e,c}
 |dT kvs=>
  let{z,y,xs,r,ob,es,ep,e,c}:=x;exact{z,y,xs,Paired.mapP r λp q z=>{z.1,G _ _ z.2.1,z.2.2},ob,es,ep,k _ _ (.inl M) e,c}
 |set S n=>let{ob,es,ep,t,e,c}:=x;exact{ob,es,ep,t,k _ _ (.inl M) e,c}
 |ins C dx fs=>
  let{d,z,ne,e,mA,{od,es,ep,e2,c},r}:=x;exact{ho _ d,z,ne,k _ _ (.inl M) e,mA,{od,es,ep,k _ _ (.inr d) e2,c},r}
 |own y=>let{ob,e}:=x;exact{ob,k _ _ (.inl M) e}
 |xd fs=>let{mA,{od,es,ep,e,c},r}:=x;exact{mA,{od,es,ep,k _ _ (.inl M) e,c},r}
 |rng lo hi=>let{t,u,v,e}:=x;exact{t,u,v,k _ _ (.inl M) e}
 |frz ob u I=>let{e,q}:=x;exact{k _ _ (.inl M) e,I q}
 |tbl ps=>
  have e:h.get? a=some {cls:= .none,data:= .fields ps}:=x;show h'.get? a=some {cls:= .none,data:= .fields ps};exact k a _ (.inl M) e
 |met f y=>
  have e:h.get? a=some (PySem.W.methodObj (.ref f)<|.ref y):=x;show h'.get? a=some (PySem.W.methodObj (.ref f)<|.ref y);exact k a _ (.inl M) e
 |ext φ=>let{p,{o,e},st}:=x;exact{st _ _ p λo q=>k _ _ (.inl M) q,{o,k _ _ (.inl M) e},st}
def JZ.lt(x:JZ P w H h)(e:H a=some o):a<h.objs.size:=(x a o e).lt
def JZ.fresh(x:JZ P w H h)(e:h.objs.size<=a):H a=none:=by
 cases q:H a with
 |none=>rfl
 |some u=>exact Xp (Qj (x.lt q) e)<|QV _
def JZ.kept(x:JZ P w H h)(k:∀b u,h.get? b=some u->h'.get? b=some u):JZ P w H h':=λa o e=>
 (x a o e).stay (λb u _ q=>k b u q) (λ_ q=>q) λ_ _ q=>q
def JZ.laid(x:JZ P w H h)(k:∀b u,h.get? b=some u->h'.get? b=some u)(hp:h.objs.size<=a)(new:JE P w (upd H a o) h' a o):JZ P w (upd H a o) h':=λb u e=>by
 have z:=x.fresh hp;by_cases hb:b=a
 .subst hb;rw[I0]at e;cases e;exact new
 .rw[ae hb]at e;exact(x b u e).stay (λc v _ q=>k c v q) (λc q=>by rw[ae (ai q z)];exact q) λc xs q=>by rw[ae (ai q z)];exact q
end
def Rd(H:Hp)(a:G')(u:HO):Prop:=H a=some u\/∃o,H a=some (.frz o u)
def Rd.ok{h:Heap}(r:Rd H a u)(x:JZ P w H h):JE P w H h a u:=by
 rcases r with r|⟨o,r⟩
 .exact x a u r
 .let{_,q}:=x a _ r;exact q
def Mut:Option HO->Prop
 |some (.lst _)=>True
 |some (.dK _)=>True
 |some (.dT _)=>True
 |some (.set _ _)=>True
 |some (.ins _ _ _)=>True
 |some (.ext _)=>True
 |_=>False
section
variable{h:Heap}{x e:G'}{o':HO}
def JZ.write(ok:JZ P w H h)(S:Mut (H x))(he:e=x\/H e=some (.own x))(k:∀b u,b≠e->h.get? b=some u->h'.get? b=some u)(U:∃u,h'.get? e=some u)
  (new:JE P w (upd H x o') h' x o'):JZ P w (upd H x o') h':=λb u q=>by
 have I:∀c y,H c=some (.own y)->c≠x:=λc y r z=>by subst z;rw[r]at S;exact S
 have O:∀c xs,H c=some (.tup xs)->c≠x:=λc xs r z=>by subst z;rw[r]at S;exact S
 by_cases hb:b=x
 .subst hb;rw[I0]at q;cases q;exact new
 .rw[ae hb]at q;by_cases G:b=e
  .have q':H b=some (.own x):=by
    rcases he with z|z
    .exact Xp (G.trans z) hb
    .rwa[G]
   rw[q]at q';cases q';let{v,Y}:=U;exact{v,by rwa[G]}
  .refine(ok b u q).stay (λc v hc r=>k c v ?_ r) (λc r=>by rwa[ae (I c b r)]) λc xs r=>by rwa[ae (O c xs r)]
   rcases hc with rfl|hc
   .exact G
   .rintro rfl;rcases he with z|z
    .exact I c b hc z
    .rw[hc]at z;cases z;exact hb M
end
abbrev _root_.Mh:=List Addr
structure Un(fs ex:Mh)(H H':Hp)(h h':Heap):Prop where
 keep:∀b o,h.get? b=some o->H b=none->b∉fs->b∉ex->h'.get? b=some o
 slot:∀b o,h.get? b=some o->H b=none->b∈fs->b∉ex->∃sl,h'.get? b=some {o with slots:=sl}
 free:∀b o,h.get? b=some o->H b=none->b∉ex->H' b=none
 there:∀b o,h.get? b=some o->b∉ex->∃o',h'.get? b=some o'
 tups:∀b xs,H b=some (.tup xs)->H' b=some (.tup xs)
 frzs:∀b o u,H b=some (.frz o u)->H' b=some (.frz o u)
 tbls:∀b ps,H b=some (.tbl ps)->∃more,H' b=some (.tbl<|ps++more)
section
variable{fs fs' ex ex':Mh}{H1 H2:Hp}{h h1 h2:Heap}{x e:G'}
def Un.any(u:Un fs ex H H1 h h1){ob:Obj}(q:h.get? b=some ob)(n:H b=none)(hx:b∉ex):∃z,h1.get? b=some {ob with slots:=z}:=by
 by_cases hb:b∈fs
 .exact u.slot b ob q n hb hx
 .exact{ob.slots,u.keep b ob q n hb hx}
def Un.kept(k:∀b u,h.get? b=some u->h'.get? b=some u):Un fs ex H H h h':=
 {λb ob q _ _ _=>k b ob q,λb ob q _ _ _=>{ob.slots,k b ob q},λ_ _ _ n _=>n,λb ob q _=>{ob,k b ob q},λ_ _ q=>q,λ_ _ _ q=>q,λ_ ps q=>{#[],by rw[q];simp}}
def Un.refl:Un fs ex H H h h:=Un.kept λ_ _ q=>q
def Un.laid(k:∀b u,h.get? b=some u->h'.get? b=some u)(hp:h.objs.size<=a)(z:H a=none):Un fs ex H (upd H a o) h h' where
 keep:=λb u q _ _ _=>k b u q
 slot:=λb u q _ _ _=>{u.slots,k b u q}
 free:=λb u q n _=>by rwa[ae (Qn<|Qj (Xs q) hp)]
 there:=λb u q _=>{u,k b u q}
 tups:=λb xs q=>by rw[ae (ai q z)];exact q
 frzs:=λb u xs q=>by rw[ae (ai q z)];exact q
 tbls:=λb ps q=>{#[],by rw[ae (ai q z),q];simp}
def Un.write(I:Mut (H x))(he:e=x\/H e=some (.own x))(k:∀b u,b≠e->h.get? b=some u->h'.get? b=some u)(O:∃u,h'.get? e=some u):Un fs ex H (upd H x o) h h':=by
 have hx:∀b,H b=none->b≠x:=λb n z=>by subst z;rw[n]at I;exact I
 have hb:∀b,H b=none->b≠e:=λb n z=>by
  subst z;rcases he with r|r
  .exact hx b n r
  .rw[n]at r;cases r
 have S:∀b u,H b=some u->¬Mut (some u)->b≠x:=λb u q nm z=>by subst z;rw[q]at I;exact nm I
 refine{λb u q n _ _=>k b u (hb b n) q,λb u q n _ _=>{u.slots,k b u (hb b n) q},λb u q n _=>by rwa[ae (hx b n)],λb u q _=>?_,
  λb xs q=>by rw[ae (S b _ q λz=>z)];exact q,λb u xs q=>by rw[ae (S b _ q λz=>z)];exact q,λb ps q=>{#[],by rw[ae (S b _ q λz=>z),q];simp}}
 by_cases G:b=e
 .subst G;exact O
 .exact{u,k b u G q}
end
def Ln(h:Heap)(H:Hp):List Addr:=(List.range h.objs.size).filter λa=>(H a).isSome
def vv(h:Heap)(H:Hp):Heap:=PySem.W.hideAll h (Ln h H)
def Bh(h:Heap)(H:Hp):(vv h H).objs.size=h.objs.size:=PySem.W.hideAll_size _ _
def Dz{h:Heap}{o:Obj}(e:h.get? b=some o)(n:H b=none):(vv h H).get? b=some o:=
 PySem.W.hideAll_get _ e λz=>by
  have q:(H b).isSome=true:=(Z7.mp z).2;rw[n]at q;simp at q
def Fd{h:Heap}{o:Obj}(e:(vv h H).get? b=some o):h.get? b=some o/\H b=none:=by
 have G:h.get? b=some o:=PySem.W.of_hideAll (Ln h H) e;refine{G,?_};cases q:H b with
 |none=>rfl
 |some x=>
  have I:b∈Ln h H:=Z7.mpr {List.mem_range.mpr<|Xs G,by simp[q]};have z:(vv h H).get? b=none:=PySem.W.hideAll_none (Ln h H) I;rw[z]at e;cases e
abbrev J4:=PySem.W.Frag
abbrev _root_.Ma:=List (Addr×Obj)
abbrev _root_.Mj:=Around
abbrev _root_.Ml:=Value->Shared->Prop
abbrev _root_.Mp:=List Env
abbrev _root_.Ms:=List Expr
abbrev _root_.Mw:=List Stmt
abbrev _root_.MB:=List (Str×Value)
variable{C a b dx it:G'}{A:Mj}{g':Array GenState}{CX:CXT}{op:CmpOp}{X:Cx}{d':Drawn}{D:KN}{c e l tg:Expr}{fd:Mq}{base h':Heap}{H H':Hp}{lo:Int}{g:Int->Int->Int}{J:Ma}{kw:MB}{ch fp:Mh}{outer:Mp}{es:Ms}{body:Mw}{N ps:Mf}{vs xs:L'}{us:Lz}{M':Model}{i n t':Nat}{o:My}{p pos:Pos}{P prog:Mc}{K:J4}{r:R2}{R:Result->Shared->Prop}{scope:Scope}{s s':J'}{sp:Sp}{W:St}{f m name qual x:Str}{t ta te tl:TE}{tb:TS}{tc:TT}{v y:V}{u:K'}{E Q:Ml}{rd:V->V->Hp->VK->Prop}{w:Md}
abbrev _root_.Mm:=Str->Option Value
structure Mod(K:J4)(mg:Mm)(base:Heap):Prop where
 kin:K.In base
 glob:base.Ns mainGlobals mg
 blt:∃mb,base.Ns builtinsNs mb/\∀x:Str,x≠"__name__"->mb x=bootBuiltins x
 nolimit:base.NoLimit
set_option genInjectivity false in
structure Cx where
 prog:Program
 w:World
 K:J4
 mg:Str->Option Value
 base:Heap
 A:Around
 N:List Str
 s₀:Shared
 H₀:Hp
 env:Env
 outer:List Env
 stack:List Env
 ex:List Addr
 fn:Str->Bool
 calm:Bool
 pn:List (Addr×Obj)
 xe:Value->Shared->Prop
noncomputable def Ko(l:Mp):List Addr:=l.filterMap (·.frame)
abbrev Cx.fs(X:Cx):List Addr:=Ko X.outer
def Ly(sc:Scope)(x:Str):Prop:=sc.names.lookup x=some .local\/sc.names.lookup x=some .cell\/sc.names.lookup x=some .free
def Loc(sc:Scope)(x:Str):Prop:=sc.names.lookup x=some .local\/sc.names.lookup x=some .cell
def Look(env:Env)(h:Heap)(m:Mm)(x:Str)(u:K'):Prop:=
 (env.kindOf x=some .local/\m x=some u)\/((env.kindOf x=some .cell\/env.kindOf x=some .free)/\∃c,env.cells.lookup x=some c/\h.IsCell c (some u))
structure Cx.Ok(X:Cx):Prop where
 mod:Mod X.K X.mg X.base
 kind:X.env.scope.kind= .function
 glob:X.env.globals=mainGlobals
 blt:X.env.builtins=builtinsNs
 above:X.s₀.heap.objs.size<=X.env.locals
 inj:∀x y c,X.env.cells.lookup x=some c->X.env.cells.lookup y=some c->x=y
 has:∀x,(X.env.kindOf x=some .cell\/X.env.kindOf x=some .free)->∃c,X.env.cells.lookup x=some c
 cab:∀x c,X.fn x=true->X.env.cells.lookup x=some c->X.s₀.heap.objs.size<=c
 hd:X.calm=true->X.A.handled=none
 frames:X.A.frames=some X.stack
 stk:X.stack=X.outer\/(X.stack=X.env::X.outer/\X.env.frame=some X.env.locals)
 exf:∀b∈X.ex,b≠X.env.locals/\∀x c,X.env.cells.lookup x=some c->c≠b
 bs:∀b o,X.base.get? b=some o->X.s₀.heap.get? b=some o/\X.H₀ b=none
 bsz:X.base.objs.size<=X.s₀.heap.objs.size
 noex:∀b o,X.base.get? b=some o->b∉X.ex
 exfs:∀b∈X.ex,b∉X.fs
 funs:X.s₀.heap.FunFrames X.base X.outer
 frf:∀b∈X.fs,X.H₀ b=none
structure Inv(X:Cx)(J:Ma)(W:List (Option V))(H:Hp)(s:J'):Prop where
 ok:X.Ok
 os:s.os=X.s₀.os
 bare:AllBare s.gens
 base:Un X.fs X.ex X.H₀ H X.s₀.heap s.heap
 loc:∃m,s.heap.Ns X.env.locals m/\∀(i:Nat)(x:Str)(v:V),X.N[i]?=some x->W[i]?=some (some v)->Ly X.env.scope x->∃u,RelV v u/\Look X.env s.heap m x u
 cell:∀x c,X.env.cells.lookup x=some c->∃v,s.heap.IsCell c v
 free:H X.env.locals=none
 freeC:∀x c,X.env.cells.lookup x=some c->H c=none
 pin:∀p∈X.pn++J,s.heap.get? p.1=some p.2/\H p.1=none/\p.1≠X.env.locals/\p.1∉X.fs/\∀v,p.2.data≠ .cell v
 hok:JZ X.prog X.w H s.heap
 len:W.length=X.N.length
section
variable{W:List (Option V)}
def Cx.Ok.nofr(ok:X.Ok){o:Obj}(e:X.base.get? b=some o):b∉X.fs:=λhb=>by
 have:=(ok.funs.mem hb).1;rw[e]at this;cases this
def Inv.bs(I:Inv X J W H s):∀b o,X.base.get? b=some o->s.heap.get? b=some o/\H b=none:=λb o e=>
 {I.base.keep b o (I.ok.bs b o e).1 (I.ok.bs b o e).2 (I.ok.nofr e)<|I.ok.noex b o e,I.base.free b o (I.ok.bs b o e).1 (I.ok.bs b o e).2<|I.ok.noex b o e}
def Inv.bk(I:Inv X J W H s):∀b o,X.base.get? b=some o->s.heap.get? b=some o:=λb o e=>(I.bs b o e).1
def Inv.mod(I:Inv X J W H s):Mod X.K X.mg X.base:=I.ok.mod
def Inv.kIn(I:Inv X J W H s):X.K.In s.heap:=I.ok.mod.kin.keeps I.bk
def Inv.lt(I:Inv X J W H s):X.env.locals<s.heap.objs.size:=by let{_,z,_}:=I.loc;exact z.lt
def Inv.sz(I:Inv X J W H s):X.s₀.heap.objs.size<=s.heap.objs.size:=Qr I.ok.above (Qx I.lt)
def Inv.nofs(I:Inv X J W H s)(h:s.heap.objs.size<=a):a∉X.fs:=λhb=>by
 let{_,o,ho,_}:=I.ok.funs.mem hb;exact Xp (Qj (Xs ho)<|Qr I.sz h)<|QV _
def Inv.cne(I:Inv X J W H s):∀x c,X.env.cells.lookup x=some c->c≠X.env.locals:=λx c e z=>by
 let{v,o,ho,hd}:=I.cell x c e;let{m,{o',es,ep,G,O,_},_}:=I.loc;rw[z,G]at ho;cases ho;rw[O]at hd;cases hd
def Inv.funs(I:Inv X J W H s):s.heap.FunFrames X.base X.outer:=by
 have all:∀(l:Mp),(∀b∈Ko l,b∈X.fs)->X.s₀.heap.FunFrames X.base l->s.heap.FunFrames X.base l:=by
  intro l
  induction l with
  |nil=>intro _ _;trivial
  |cons env r O=>
   intro hs hl;let{hk,{L,o,hf,S,ho,hd},U}:=hl;have G:L∈X.fs:=hs L (by unfold Ko;rw[ZW,hf];exact Q8);let{Y,e}:=I.base.slot L o ho (I.ok.frf L G) G λz=>I.ok.exfs L z G;exact{hk,{L,_,hf,S,e,hd},O (λb hb=>hs b<|by unfold Ko;rw[ZW,hf];exact Q7 _ hb) U}
 exact all X.outer (λ_ hb=>hb) I.ok.funs
def Inv.stack(I:Inv X J W H s):s.heap.FunFrames X.base X.stack:=by
 rcases I.ok.stk with e|⟨e,hf⟩
 .rw[e];exact I.funs
 .rw[e];let{m,z,_}:=I.loc;refine .cons (by rw[I.ok.kind];decide) hf z ?_ I.funs;exact XU<|Qr I.ok.bsz I.ok.above
def Inv.stkSub(I:Inv X J W H s):∀b∈Ko X.stack,b∈X.env.locals::X.fs:=λb hb=>by
 rcases I.ok.stk with e|⟨e,hf⟩
 .rw[e]at hb;exact Q7 _ hb
 .rw[e]at hb;unfold Ko at hb;rw[ZW,hf]at hb;exact hb
def Inv.stkFree(I:Inv X J W H s):∀b∈Ko X.stack,H b=none:=λb hb=>by
 rcases Qc.mp (I.stkSub b hb)with e|hb
 .rw[e];exact I.free
 .let{_,o,ho,_}:=I.ok.funs.mem hb;exact I.base.free b o ho (I.ok.frf b hb) λz=>I.ok.exfs b z hb
def Inv.step(I:Inv X J W H s)
  (G:∀b∈ch,(b∈X.ex\/X.s₀.heap.objs.size<=b)/\b≠X.env.locals/\(∀x c,X.env.cells.lookup x=some c->c≠b)/\∀p∈X.pn++J,p.1≠b)
  (keep:∀b o,b≠X.env.locals->b∉X.fs->b∉ch->s.heap.get? b=some o->H b=none->h'.get? b=some o)
  (slot:∀b o,b≠X.env.locals->b∈X.fs->b∉ch->s.heap.get? b=some o->H b=none->∃sl,h'.get? b=some {o with slots:=sl}) (free:∀b o,b∉ch->s.heap.get? b=some o->H b=none->H' b=none)
  (there:∀b o,b∉ch->s.heap.get? b=some o->∃o',h'.get? b=some o')
  (tups:∀b xs,H b=some (.tup xs)->H' b=some (.tup xs)) (frzs:∀b o u,H b=some (.frz o u)->H' b=some (.frz o u)) (tbls:∀b ps,H b=some (.tbl ps)->∃Z,H' b=some (.tbl<|ps++Z))
  (ns:∀m,s.heap.Ns X.env.locals m->h'.Ns X.env.locals m) (hok:JZ X.prog X.w H' h') (hg:AllBare g'):
  Inv X J W H' {s with heap:=h',gens:=g',drawn:=d',toks:=t'}:=by
 have a0:∀b o,X.s₀.heap.get? b=some o->b≠X.env.locals:=λb o e=>Qn (Qj (Xs e) I.ok.above);have U:∀b o,X.s₀.heap.get? b=some o->b∉X.ex->b∉ch:=λb o e hx hb=>by
  rcases(G b hb).1 with z|z
  .exact hx z
  .exact Xp (Qj (Xs e) z)<|QV _
 have O:∀x c,X.env.cells.lookup x=some c->∀v,s.heap.IsCell c v->h'.IsCell c v:=λx c e v ⟨o,ho,hd⟩=>by
  have S:c∉ch:=λz=>(G c z).2.2.1 x c e M;by_cases hc:c∈X.fs
  .let{sl,q}:=slot c o (I.cne x c e) hc S ho (I.freeC x c e);exact{_,q,hd}
  .exact{o,keep c o (I.cne x c e) hc S ho<|I.freeC x c e,hd}
 refine{I.ok,I.os,hg,{λb o e n hb hx=>?_,λb o e n hb hx=>?_,λb o e n hx=>?_,λb o e hx=>?_,λb xs e=>tups b xs<|I.base.tups b xs e,λb o xs e=>frzs b o xs<|I.base.frzs b o xs e,λb ps e=>?_},?_,λx c e=>?_,?_,λx c e=>?_,λp hp=>?_,hok,I.len}
 .exact keep b o (a0 b o e) hb (U b o e hx) (I.base.keep b o e n hb hx)<|I.base.free b o e n hx
 .let{sl,Y}:=I.base.slot b o e n hb hx;let{a1,e2}:=slot b _ (a0 b o e) hb (U b o e hx) Y (I.base.free b o e n hx);exact⟨a1,e2⟩
 .let{o',Y}:=I.base.there b o e hx;exact free b o' (U b o e hx) Y<|I.base.free b o e n hx
 .let{o',Y}:=I.base.there b o e hx;exact there b o' (U b o e hx) Y
 .let{m1,Y}:=I.base.tbls b ps e;let{m2,e2}:=tbls b _ Y;exact{m1++m2,by rw[e2,ZZ]}
 .let{m,hn,hl}:=I.loc;refine{m,ns m hn,λi x v Y e2 e3=>?_};let{u,r,l}:=hl i x v Y e2 e3;refine{u,r,?_};rcases l with l|⟨k,c,e,z⟩
  .exact .inl l
  .exact .inr {k,c,e,O x c e _ z}
 .let{v,z}:=I.cell x c e;exact{v,O x c e v z}
 .let{m,{o,_,_,ho,_},_}:=I.loc;exact free _ o (λz=>(G _ z).2.1 rfl) ho I.free
 .let{v,o,ho,hd}:=I.cell x c e;exact free c o (λz=>(G c z).2.2.1 x c e M) ho<|I.freeC x c e
 .let{e,n,ne,nf,d}:=I.pin p hp;have S:p.1∉ch:=λz=>(G p.1 z).2.2.2 p hp M;exact{keep p.1 p.2 ne nf S e n,free p.1 p.2 S e n,ne,nf,d}
def Inv.un(I:Inv X J W H s)(u:Un X.fs [] H H' s.heap h')(hok:JZ X.prog X.w H' h'):Inv X J W H' {s with heap:=h',toks:=t'}:=by
 let{m,{o,es,ep,ho,r},_}:=id I.loc;let{Y,S}:=u.any ho I.free (by simp);exact I.step (g':=s.gens) (d':=s.drawn) (ch:=[]) (λ_ z=>nomatch z) (λb o _ hb _ e n=>u.keep b o e n hb<|by simp) (λb o _ hb _ e n=>u.slot b o e n hb<|by simp) (λb o _ e n=>u.free b o e n<|by simp) (λb o _ e=>u.there b o e<|by simp) u.tups u.frzs u.tbls (λm' U=>by
  let{o',es',O,G,r'}:=U;rw[ho]at G;cases G;exact{_,es',O,S,r'}) hok I.bare
def Inv.call(I:Inv X J W H s)(u:Un (Ko X.stack) ch H H' s.heap h')(hok:JZ X.prog X.w H' h')(Y:AllBare g')
  (G:∀b∈ch,(b∈X.ex\/X.s₀.heap.objs.size<=b)/\b≠X.env.locals/\(∀x c,X.env.cells.lookup x=some c->c≠b)/\∀p∈X.pn++J,p.1≠b):
  Inv X J W H' {s with heap:=h',gens:=g',drawn:=d',toks:=t'}:=by
 let{m,{o,es,ep,ho,r},_}:=id I.loc;let{sl,S}:=u.any ho I.free λz=>(G _ z).2.1 rfl;exact I.step (ch:=ch) G (λb o S hb hc e n=>u.keep b o e n (λz=>(Qc.mp<|I.stkSub b z).elim S hb) hc) (λb o _ _ hc e n=>u.any e n hc) (λb o hc e n=>u.free b o e n hc) (λb o hc e=>u.there b o e hc) u.tups u.frzs u.tbls (λm' Z=>by
  let{o',es',U,O,r'}:=Z;rw[ho]at O;cases O;exact{_,es',U,S,r'}) hok Y
def Inv.turned(I:Inv X J W H s)(k:∀b o,b≠it->s.heap.get? b=some o->h'.get? b=some o)(S:H it=none)(O:it≠X.env.locals)
  (h1:it∈X.ex\/X.s₀.heap.objs.size<=it) (h2:∀x c,X.env.cells.lookup x=some c->c≠it) (U:∀p∈X.pn++J,p.1≠it):Inv X J W H {s with heap:=h',toks:=t'}:=by
 have G:∀b u,H b=some u->b≠it:=λb u e z=>by rw[z,S]at e;cases e
 refine I.step (g':=s.gens) (d':=s.drawn) (ch:=[it]) (λb hb=>?_) (λb o _ _ hc e _=>k b o (λz=>hc<|by simp[z]) e) (λb o _ _ hc e _=>{o.slots,k b o (λz=>hc<|by simp[z]) e}) (λ_ _ _ _ n=>n)
  (λb o hc e=>{o,k b o (λz=>hc<|by simp[z]) e}) (λ_ _ e=>e) (λ_ _ _ e=>e) (λb ps e=>{#[],by rw[e];simp}) (λm Y=>?_) (λb u e=>?_) I.bare
 .have e:b=it:=by simpa using hb
  subst e;exact⟨h1,O,h2,U⟩
 .let{o,es,ep,ho,r}:=Y;exact{o,es,ep,k _ o (Ne.symm O) ho,r}
 .refine(I.hok b u e).stay (λc v hc q=>k c v ?_ q) (λ_ q=>q) λ_ _ q=>q;rcases hc with z|z
  .rw[z];exact G b u e
  .exact G c _ z
def Inv.tok(I:Inv X J W H s)(t:Nat):Inv X J W H {s with toks:=t}:=I.un (h':=s.heap) (t':=t) Un.refl I.hok
def Inv.kept(I:Inv X J W H s)(k:∀b u,s.heap.get? b=some u->h'.get? b=some u):Inv X J W H {s with heap:=h',toks:=t'}:=I.un (Un.kept k) (I.hok.kept k)
def Inv.laid{o:HO}(I:Inv X J W H s)(k:∀b u,s.heap.get? b=some u->h'.get? b=some u)(hp:s.heap.objs.size<=a)(new:JE X.prog X.w (upd H a o) h' a o):
  Inv X J W (upd H a o) {s with heap:=h',toks:=t'}:=I.un (Un.laid k hp<|I.hok.fresh hp) (I.hok.laid k hp new)
def Inv.write{x e:G'}{o:HO}(I:Inv X J W H s)(G:Mut (H x))(he:e=x\/H e=some (.own x))(k:∀b u,b≠e->s.heap.get? b=some u->h'.get? b=some u)(z:∃u,h'.get? e=some u)
  (new:JE X.prog X.w (upd H x o) h' x o):Inv X J W (upd H x o) {s with heap:=h',toks:=t'}:=I.un (Un.write G he k z) (I.hok.write G he k z new)
def Inv.pins_of{G:Ma}(I:Inv X J W H s)(h:∀p∈G,s.heap.get? p.1=some p.2/\H p.1=none/\p.1≠X.env.locals/\p.1∉X.fs/\∀v,p.2.data≠ .cell v):Inv X G W H s:=
 {I.ok,I.os,I.bare,I.base,I.loc,I.cell,I.free,I.freeC,λp hp=>(Qb.mp hp).elim (λz=>I.pin p<|Qu _ z)<|h p,I.hok,I.len}
def rW(z:N.Nodup){j:Nat}(a:N[i]?=some x)(b:N[j]?=some x):i=j:=by
 let{h1,G}:=Q3.mp a;let{h2,e2}:=Q3.mp b;exact(List.getElem_inj z).mp<|G.trans e2.symm
abbrev _root_.Mx:=Unit->Shared->Prop
def ua{Q:Mx}(I:Inv X J W H s)(hN:X.N.Nodup)(hi:X.N[i]?=some x)(hx:Loc X.env.scope x)(r:RelV v u)
  (h:∀s',Inv X J (W.set i<|some v) H s'->(∃a,Heap.SameBut a s.heap s'.heap/\(a=X.env.locals\/X.env.cells.lookup x=some a))->Q Unit.unit s') (hf:X.fn x=true\/X.env.scope.names.lookup x=some .local:=by ac_rfl):wpAny M' A (storeName X.env x u) Q E s:=by
 let{m,hn,hl}:=id I.loc;have a0:(X.env.scope.kind== .class||(X.env.scope.kind== .module&&X.env.locals !=X.env.globals))=false:=by rw[I.ok.kind];rfl
 have U:i<W.length:=by rw[I.len];exact(Q3.mp hi).1
 have cne:=I.cne;have G:∀{a:G'}{h':Heap},(∃o,s.heap.get? a=some o/\H a=none)->Heap.SameBut a s.heap h'->JZ X.prog X.w H h':=λ{a h'} ha hs b ob e=>by
  let{_,_,S}:=ha;refine(I.hok b ob e).stay (λc w' hc q=>(hs.2 c ?_).trans q) (λ_ q=>q) λ_ _ q=>q;rintro rfl;rcases hc with rfl|hc
  .rw[S]at e;cases e
  .rw[S]at hc;cases hc
 rcases hx with hk|hk
 .refine wpAny_storeName_local hk hn (λh' a6 hs=>?_) a0;let{oL,_,_,a8,_}:=id hn;refine h _ {I.ok,I.os,I.bare,{λb o e n hb hx=>?_,λb o e n hb hx=>?_,I.base.free,λb o e hx=>?_,I.base.tups,I.base.frzs,I.base.tbls},{_,a6,λj y v' O e2 e3=>?_},λy c e=>?_,I.free,I.freeC,λp hp=>?_,G ⟨oL,a8,I.free⟩ hs,by simpa using I.len} {_,hs,.inl M}
  .exact(hs.2 b<|Qn<|Qj (Xs e) I.ok.above).trans<|I.base.keep b o e n hb hx
  .let{sl,O}:=I.base.slot b o e n hb hx;exact{sl,(hs.2 b<|Qn<|Qj (Xs e) I.ok.above).trans O}
  .let{o',O}:=I.base.there b o e hx;exact{o',(hs.2 b<|Qn<|Qj (Xs e) I.ok.above).trans O}
  .by_cases Y:j=i
   .subst Y;rw[hi]at O;cases O;rw[ZJ U]at e2;cases e2;exact{u,r,.inl {hk,by simp}}
   .rw[ZS (Ne.symm Y)]at e2;let{u',r',q}:=hl j y v' O e2 e3;refine{u',r',?_};rcases q with⟨k,e⟩|⟨k,c,e,z⟩
    .refine .inl {k,?_};have:y≠x:=λe=>Y (rW hN O<|e▸hi);simp[this,e]
    .exact .inr {k,c,e,z.sameBut hs<|cne y c e}
  .let{w',z}:=I.cell y c e;exact{w',z.sameBut hs<|cne y c e}
  .let{e,n,ne,nf,d}:=I.pin p hp;exact{(hs.2 p.1 ne).trans e,n,ne,nf,d}
 .have Z:X.fn x=true:=by
   rcases hf with z|z
   .exact z
   .rw[z]at hk;cases hk
  let{c,hc}:=I.ok.has x (.inl hk);let{w',z}:=I.cell x c hc;refine wpAny_storeName_cell I.ok.kind hk hc z<|λh' a1 hs=>?_;let{oc,a2,a3}:=id z;refine h {s with heap:=h'} {I.ok,I.os,I.bare,{λb o e n hb hx=>?_,λb o e n hb hx=>?_,I.base.free,λb o e hx=>?_,I.base.tups,I.base.frzs,I.base.tbls},{m,hn.sameBut hs<|Ne.symm<|cne x c hc,λj y v' O e2 e3=>?_},λy c' e=>?_,I.free,I.freeC,λp hp=>?_,G {oc,a2,I.freeC x c hc} hs,by simpa using I.len} {c,hs,.inr hc}
  .exact(hs.2 b<|Qn<|Qj (Xs e)<|I.ok.cab x c Z hc).trans<|I.base.keep b o e n hb hx
  .let{sl,O}:=I.base.slot b o e n hb hx;exact{sl,(hs.2 b<|Qn<|Qj (Xs e)<|I.ok.cab x c Z hc).trans O}
  .let{o',O}:=I.base.there b o e hx;exact{o',(hs.2 b<|Qn<|Qj (Xs e)<|I.ok.cab x c Z hc).trans O}
  .by_cases Y:j=i
   .subst Y;rw[hi]at O;cases O;rw[ZJ U]at e2;cases e2;exact{u,r,.inr {.inl hk,c,hc,a1}}
   .rw[ZS (Ne.symm Y)]at e2;let{u',r',q}:=hl j y v' O e2 e3;refine{u',r',?_};rcases q with q|⟨k,c',e,z'⟩
    .exact .inl q
    .refine .inr {k,c',e,z'.sameBut hs ?_};rintro rfl;exact Y<|rW hN O (I.ok.inj _ _ _ e hc▸hi)
  .by_cases a5:c'=c
   .subst a5;exact{_,a1}
   .let{w2,z2}:=I.cell y c' e;exact{w2,z2.sameBut hs a5}
  .let{e,n,ne,nf,d}:=I.pin p hp;refine{(hs.2 p.1 ?_).trans e,n,ne,nf,d};intro q;rw[q,a2]at e;have q':oc=p.2:=Xq e;exact d w'<|by rwa[<-q']
def mV{Q:Mx}(I:Inv X J W H s)(z:X.N.Nodup)(hi:X.N[i]?=some x)(hx:Loc X.env.scope x)(r:RelV v u)
  (h:∀s',Inv X J (W.set i<|some v) H s'->Q Unit.unit s') (hf:X.fn x=true\/X.env.scope.names.lookup x=some .local:=by ac_rfl):wpAny M' A (storeName X.env x u) Q E s:=
 ua I z hi hx r (λs' G _=>h s' G) hf
def Inv.call'(I:Inv X J W H s)(ho:s'.os=s.os)(u:Un (Ko X.stack) ch H H' s.heap s'.heap)(hok:JZ X.prog X.w H' s'.heap)(G:AllBare s'.gens)
  (z:∀b∈ch,(b∈X.ex\/X.s₀.heap.objs.size<=b)/\b≠X.env.locals/\(∀x c,X.env.cells.lookup x=some c->c≠b)/\∀p∈X.pn++J,p.1≠b):Inv X J W H' s':=by
 let{h',g',d',t',o'}:=s';have e:o'=s.os:=ho;subst e;exact I.call (g':=g') (t':=t') (d':=d') u hok G z
end
abbrev XK:=Value->Option Addr->Hp->Prop
abbrev St:=List (Option V)
abbrev VK:=V->Hp->Prop
abbrev TE:=St->Hp->VK->Prop
abbrev TT:=St->Hp->(Bool->Hp->Prop)->Prop
abbrev TA:=St->Hp->(List V->Hp->Prop)->Prop
set_option genInjectivity false in
structure KN where
 nx:St->Hp->Prop
 rt:VK
 bk:St->Hp->Prop:=λ_ _=>False
 ct:St->Hp->Prop:=λ_ _=>False
abbrev TS:=KN->St->Hp->Prop
def EP(X:Cx)(J:Ma)(W:St)(Q:VK)(u:K')(s':J'):Prop:=∃v H',Inv X J W H' s'/\RelV v u/\Q v H'
abbrev _root_.MC:=Bool->Hp->Prop
def TP(X:Cx)(J:Ma)(W:St)(Q:MC)(b:Bool)(s':J'):Prop:=∃H',Inv X J W H' s'/\Q b H'
def AP(X:Cx)(J:Ma)(W:St)(Q:List V->Hp->Prop)(us:Lz)(s':J'):Prop:=∃vs H',Inv X J W H' s'/\J8 vs us/\Q vs H'
def SP(X:Cx)(J:Ma)(D:KN)(f:Flow)(s':J'):Prop:=
 match f with
 | .next=>∃σ' H',Inv X J σ' H' s'/\D.nx σ' H'
 | .brk=>∃σ' H',Inv X J σ' H' s'/\D.bk σ' H'
 | .cont=>∃σ' H',Inv X J σ' H' s'/\D.ct σ' H'
 | .ret u=>∃v σ' H',Inv X J σ' H' s'/\RelV v u/\D.rt v H'
abbrev J5(X:Cx){a}:=@wpAny a (model X.prog X.w) X.A
def PE(X:Cx)(e:Expr)(t:TE):Prop:=
 ∀(J:Ma)(s:J')(W:St)(H:Hp)(Q:VK),Inv X J W H s->t W H Q->J5 X (eval e X.env) (EP X J W Q) X.xe s
def PT(X:Cx)(e:Expr)(t:TT):Prop:=
 ∀(J:Ma)(s:J')(W:St)(H:Hp)(Q:MC),Inv X J W H s->t W H Q->J5 X (isTrue e X.env<|eval e X.env) (TP X J W Q) X.xe s
def PW(X:Cx)(e:Expr)(t:TT):Prop:=
 ∀(whole:Sem Value)(J:Ma)(s:J')(W:St)(H:Hp)(Q:MC),Inv X J W H s->t W H Q->J5 X (isTrue e X.env whole) (TP X J W Q) X.xe s
def PW.pt{t:TT}(h:PW X e t):PT X e t:=h _
def PA(X:Cx)(es:Ms)(t:TA):Prop:=
 ∀(pos:Pos)(J:Ma)(s:J')(W:St)(H:Hp)(Q:List V->Hp->Prop),Inv X J W H s->t W H Q->J5 X (spliced<|backTo pos<|starEach es X.env) (AP X J W Q) X.xe s
def PS(X:Cx)(st:Stmt)(t:TS):Prop:=
 ∀(J:Ma)(s:J')(W:St)(H:Hp)(D:KN),Inv X J W H s->t D W H->J5 X (exec st X.env) (SP X J D) X.xe s
def KH(X:Cx)(st:Mw)(t:TS):Prop:=
 ∀(J:Ma)(s:J')(W:St)(H:Hp)(D:KN),Inv X J W H s->t D W H->J5 X (execs st X.env) (SP X J D) X.xe s
def JD{α:Type}{t:Sem α}{Q Q':α->Shared->Prop}(h:wpAny M' A t Q E s)(z:∀a s,Q a s->Q' a s):wpAny M' A t Q' E s:=XA h z λ_ _ x=>x
section
inductive xQ(i:Nat)(W:St)(H:Hp)(Q:VK):Prop
 |mk(v:_)(_:W[i]?=some (some v))(_:Q v H)
def tC(v:V):TE:=λ_ H Q=>Q v H
def G6{i:Nat}(O:X.N[i]?=some x)(S:Ly X.env.scope x)(hd:(x==(eN:Str))=false:=by decide)(G:(x==("__classdict__":Str))=false:=by decide):PE X (.Name x pos) (xQ i):=by
 intro J s W H Q I h;let{v,e,h}:=h;let{m,U,hl}:=I.loc;let{u,r,l}:=hl i x v O e S;have fin:EP X J W Q u s:=⟨v,H,I,r,h⟩;rcases l with⟨hk,Y⟩|⟨hk,c,hc,z⟩
 .exact wpAny_Name (wpAny_loadName_local I.ok.kind hk U Y fin) hd
 .rcases hk with hk|hk
  .exact wpAny_Name (wpAny_loadName_cell I.ok.kind hk hc z fin) hd
  .exact wpAny_Name (wpAny_loadName_free I.ok.kind hk hc z fin G) hd
def ak{i j pos}:PE X (.Constant (.int i) j pos) (tC<|.int i):=λ_ _ _ H _ I h=>wpAny_Constant_int {.int i,H,I.tok _,{_,M},h}
def rF{b j pos}:PE X (.Constant (.bool b) j pos) (tC<|.bl b):=λ_ _ _ H _ I h=>Constant_bool {.bl b,H,I,M,h}
def bR{j pos}:PE X (.Constant .none j pos) (tC .non):=λ_ _ _ H _ I h=>Constant_none {.non,H,I,M,h}
def a7{x j pos}:PE X (.Constant (.str x) j pos) (tC<|.str x):=λ_ _ _ H _ I h=>Calls.Constant_str {.str x,H,I.tok _,{_,M},h}
def Gl(X:Cx)(x:Str):Prop:=X.env.kindOf x=some .globalImplicit
def cc{W:St}{H:Hp}{Q:Ml}(I:Inv X J W H s)(z:Gl X x)(G:X.mg x=some u)(h:Q u s)
  (hd:(x==(eN:Str))=false:=by decide):J5 X (eval (.Name x pos) X.env) Q E s:=
 Calls.Name_function_global I.ok.kind z (Calls.loadGlobal_global (by rw[I.ok.glob];exact I.mod.glob.keeps I.bk) G h) hd
def pk{W:St}{H:Hp}{Q:Ml}(I:Inv X J W H s)(z:Gl X x)(G:X.mg x=none)(O:bootBuiltins x=some u)(h:Q u s)
  (S:x≠"__name__":=by decide) (hd:(x==(eN:Str))=false:=by decide):J5 X (eval (.Name x pos) X.env) Q E s:=by
 let{U,h1,h2}:=I.mod.blt;exact Calls.Name_function_global I.ok.kind z (Calls.loadGlobal_builtin (by rw[I.ok.glob];exact I.mod.glob.keeps I.bk) G (by rw[I.ok.blt];exact h1.keeps I.bk) ((h2 x S).trans O) h) hd
def bv{v:V}(z:Gl X x)(G:X.mg x=some u)(r:RelV v u)(hd:(x==(eN:Str))=false:=by decide):PE X (.Name x pos) (tC v):=
 λ_ _ _ H _ I h=>cc I z G ⟨v,H,I,r,h⟩ hd
def gI{v:V}(z:Gl X x)(G:X.mg x=none)(O:bootBuiltins x=some u)(r:RelV v u)(S:x≠"__name__":=by decide)(hd:(x==(eN:Str))=false:=by decide):PE X (.Name x pos) (tC v):=
 λ_ _ _ H _ I h=>pk I z G O ⟨v,H,I,r,h⟩ S hd
variable{a b:Expr}{tb:TE}
def PC(X:Cx)(op:CmpOp)(a b:Expr)(t:TE):Prop:=
 ∀(J:Ma)(s:J')(W:St)(H:Hp)(Q:VK),Inv X J W H s->t W H Q->
  J5 X (eval a X.env) (λv s₁=>J5 X (eval b X.env) (λu s₂=>J5 X (compareOp op v u) (EP X J W Q) X.xe s₂) X.xe s₁) X.xe s
inductive tBR(Q:MC)(x:V)(H1:Hp):Prop
 |mk(c:_)(_:x= .bl c)(_:Q c H1)
def tB(t:TE):TT:=λW H Q=>t W H λx H1=>tBR Q x H1
def G7(h:PC X op a b t)(h1:behindInMarks op b=false:=by first|exact nobehind _ (_) (_)|rfl):PE X (.Compare a [op] [b] pos) t:=λJ s W H Q I hw=>wpAny_Compare1 (h J s W H Q I hw) h1
def rB(h:PC X op a b t)(h1:behindInMarks op b=false:=by first|exact nobehind _ (_) (_)|rfl):PT X (.Compare a [op] [b] pos) (tB t):=by
 intro J s W H Q I hw;refine wpAny_isTrue_Compare1 (JD (h J s W H _ I hw) λv s1 h1=>JD h1 λu s2 h2=>JD h2 λc s3 z=>?_) h1;let{x,H1,G,r1,O}:=z;let{d,rfl,q}:=O;cases r1;exact XH ⟨H1,G,q⟩
def bB(h:PE X e t)(he:∀z,isTrue e X.env z=(do let v<-z;standAt e.pos;holding [v] (truthy v)):=by subst_eqs):PT X e (tB t):=by
 intro J s W H Q I hw;refine isTrue_plain (JD (h J s W H _ I hw) λv s1 G=>?_)<|he _;let{x,H1,O,r1,S}:=G;let{d,rfl,q}:=S;cases r1;exact XH ⟨H1,O,q⟩
variable{tA tB':TT}{rest:Ms}
def tAnd(t u:TT):TT:=λW H Q=>t W H λc H1=>if c=true then u W H1 Q else Q false H1
def tOr(t u:TT):TT:=λW H Q=>t W H λc H1=>if c=true then Q true H1 else u W H1 Q
def tNot(t:TT):TT:=λW H Q=>t W H λc H1=>Q (!c) H1
def cv(ha:PT X a tA):PW X (.BoolOp .And [a] pos) tA:=by
 intro z J s W H Q I h;refine isTrue_and<|JD (ha J s W H Q I h) λc s1 e=>?_;cases c with
 |true=>exact isTrue_and_nil e
 |false=>exact e
def j3(ha:PT X a tA):PW X (.BoolOp .Or [a] pos) tA:=by
 intro z J s W H Q I h;refine isTrue_or<|JD (ha J s W H Q I h) λc s1 e=>?_;cases c with
 |false=>exact isTrue_or_nil e
 |true=>exact e
def c6(ha:PT X a tA)(hb:PW X (.BoolOp .And (b::rest) pos) tB'):PW X (.BoolOp .And (a::b::rest) pos) (tAnd tA tB'):=by
 intro O J s W H Q I h;refine isTrue_and<|JD (ha J s W H _ I h) λc s1 zz=>?_;let{H1,z,G}:=zz;cases c with
 |true=>exact hb O J s1 W H1 Q z G
 |false=>exact⟨H1,z,G⟩
def ni(ha:PT X a tA)(hb:PW X (.BoolOp .Or (b::rest) pos) tB'):PW X (.BoolOp .Or (a::b::rest) pos) (tOr tA tB'):=by
 intro O J s W H Q I h;refine isTrue_or<|JD (ha J s W H _ I h) λc s1 zz=>?_;let{H1,z,G}:=zz;cases c with
 |true=>exact⟨H1,z,G⟩
 |false=>exact hb O J s1 W H1 Q z G
def fc(ha:PT X a tA):PT X (.UnaryOp .Not a pos) (tNot tA):=by
 intro J s W H Q I h;exact isTrue_not<|ha J s W H (λc H1=>Q (!c) H1) I h
def Ix(ta tb:TE):TE:=λW H Q=>ta W H λx H1=>∃c,x= .bl c/\if c=true then tb W H1 Q else Q (.bl false) H1
def Ik(ta:TE):TE:=λW H Q=>ta W H λx H1=>∃c,x= .bl c/\Q (.bl<|!c) H1
def u7{op}(h:PE X a t):PE X (.BoolOp op [a] pos) t:=λJ s W H Q I hw=>BoolOp_one (h J s W H Q I hw)
def rG(ha:PE X a ta)(hb:PE X (.BoolOp .And (b::rest) pos) tb):PE X (.BoolOp .And (a::b::rest) pos) (Ix ta tb):=by
 intro J s W H Q I h;refine BoolOp_and<|JD (ha J s W H _ I h) λv s1 G=>?_;let{x,H1,O,r1,z}:=G;let{c,rfl,z}:=z;cases r1;refine XH ?_;cases c with
 |true=>exact hb J s1 W H1 Q O z
 |false=>exact{.bl false,H1,O,M,z}
def rD(ha:PE X a ta):PE X (.UnaryOp .Not a pos) (Ik ta):=by
 intro J s W H Q I h;refine UnaryOp_<|JD (ha J s W H _ I h) λv s1 z=>?_;let{x,H1,O,r1,G}:=z;let{c,rfl,G}:=G;cases r1;exact not_of<|XH {.bl<|!c,H1,O,M,G}
def tIf(t:TT)(ta tb:TE):TE:=λW H Q=>t W H λc H1=>if c=true then ta W H1 Q else tb W H1 Q
def rE(hc:PT X c tA)(ha:PE X a ta)(hb:PE X b tb):PE X (.IfExp c a b pos) (tIf tA ta tb):=by
 intro J s W H Q I h;refine wpAny_IfExp<|JD (hc J s W H _ I h) λd s1 zz=>?_;let{H1,z,G}:=zz;cases d with
 |true=>exact ha J s1 W H1 Q z G
 |false=>exact hb J s1 W H1 Q z G
end
def JC(K:J4)(H:Hp)(a:G')(xs:L'):Prop:=
 Rd H a (.lst xs)\/
  ∃(o:Obj)(its:Mn)(n:Nat),K.lookup a=some o/\o.cls= .type gt/\o.dict=none/\o.data= .seq its n/\its.size<=sizeLine/\J8 xs its.toList
def Kg(K:J4)(H:Hp)(a:G')(xs:L'):Prop:=
 Rd H a (.tup xs)\/
  ∃(o:Obj)(its:Mn)(n:Nat),K.lookup a=some o/\o.cls= .type jb/\o.data= .seq its n/\its.size<=sizeLine/\J8 xs its.toList
noncomputable def absV:Value->Option V
 | .none=>some .non
 | .bool b=>some (.bl b)
 | .int i _=>some (.int i)
 | .str x _=>some (.str x)
 | .bytes b _=>some (.byt b)
 | .float b _=>some (.flt b)
 | .ref a=>some (.ref a)
 | .type n=>some (.ty n)
 |_=>none
def RelV.abs{x:V}(r:RelV x u):absV u=some x:=by
 cases x with
 |non=>cases r;rfl
 |bl _=>cases r;rfl
 |int _=>let{t,rfl}:=r;rfl
 |str _=>let{t,rfl}:=r;rfl
 |byt _=>let{t,rfl}:=r;rfl
 |flt _=>let{t,rfl}:=r;rfl
 |ref _=>cases r;rfl
 |ty _=>cases r;rfl
def RelV.inj{x:V}(r:RelV x u)(q:RelV y u):x=y:=Xq (r.abs.symm.trans q.abs)
def J8.inj{ys:L'}(h:J8 xs us)(h':J8 ys us):xs=ys:=by
 induction h generalizing ys with
 |nil=>cases h';rfl
 |cons r t z=>cases h' with
  |cons r' t'=>rw[r.inj r',z t']
section
variable{ys:L'}
def JC.of(h:H a=some (.lst xs)):JC K H a xs:= .inl (.inl h)
def Kg.of(h:H a=some (.tup xs)):Kg K H a xs:= .inl (.inl h)
def Inv.list(I:Inv X J W H s)(h:JC X.K H a xs):∃its:List Value,J8 xs its/\PlainL s.heap a its.toArray/\xs.length<=sizeLine:=by
 rcases h with h|⟨o,its,n,hk,hc,hd,hs,hz,r⟩
 .let{z,its,n,r,e}:=h.ok I.hok;exact{its,r,{_,n,e,M,M,M},z}
 .refine{its.toList,r,{o,n,I.kIn a o hk,hc,hd,by simpa using hs},?_};have e:=r.length;simp only[QG]at e;lia
def Inv.tuple(I:Inv X J W H s)(h:Kg X.K H a xs):∃its:List Value,J8 xs its/\IsTup s.heap a its.toArray/\xs.length<=sizeLine:=by
 rcases h with h|⟨o,its,n,hk,hc,hs,hz,r⟩
 .let{z,its,r,p}:=h.ok I.hok;exact⟨its,r,p,z⟩
 .refine{its.toList,r,{o,I.kIn a o hk,hc,n,by simpa using hs},?_};have e:=r.length;simp only[QG]at e;lia
def Inv.list_inj(I:Inv X J W H s)(h:JC X.K H a xs)(h':JC X.K H a ys):xs=ys:=by
 let{its,r,{o,n,e,_,_,d},_}:=I.list h;let{its',r',{o',n',z,_,_,d'},_}:=I.list h';rw[e]at z;cases z;rw[d]at d';injection d' with d1 _;have:its=its':=by simpa using XB Array.toList d1
 subst this;exact r.inj r'
def Inv.tuple_inj(I:Inv X J W H s)(h:Kg X.K H a xs)(h':Kg X.K H a ys):xs=ys:=by
 let{its,r,{o,e,_,n,d},_}:=I.tuple h;let{its',r',{o',z,_,n',d'},_}:=I.tuple h';rw[e]at z;cases z;rw[d]at d';injection d' with d1 _;have:its=its':=by simpa using XB Array.toList d1
 subst this;exact r.inj r'
end
abbrev Cx.wish(X:Cx)(E:Ml):Cx:={X with xe:=E}
abbrev Cx.nox(X:Cx):Cx:=X.wish λ_ _=>False
def Cx.Ok.wish(ok:X.Ok)(E:Ml):(X.wish E).Ok:=
 ⟨ok.mod,ok.kind,ok.glob,ok.blt,ok.above,ok.inj,ok.has,ok.cab,ok.hd,ok.frames,ok.stk,ok.exf,ok.bs,ok.bsz,ok.noex,ok.exfs,ok.funs,ok.frf⟩
def Cx.Ok.unwish(ok:(X.wish E).Ok):X.Ok:=
 ⟨ok.mod,ok.kind,ok.glob,ok.blt,ok.above,ok.inj,ok.has,ok.cab,ok.hd,ok.frames,ok.stk,ok.exf,ok.bs,ok.bsz,ok.noex,ok.exfs,ok.funs,ok.frf⟩
def Inv.wish(I:Inv X J W H s)(E:Ml):Inv (X.wish E) J W H s:={I.ok.wish E,I.os,I.bare,I.base,I.loc,I.cell,I.free,I.freeC,I.pin,I.hok,I.len}
def Inv.unwish(I:Inv (X.wish E) J W H s):Inv X J W H s:=⟨I.ok.unwish,I.os,I.bare,I.base,I.loc,I.cell,I.free,I.freeC,I.pin,I.hok,I.len⟩
def SP.unwish{f:Flow}(h:SP (X.wish E) J D f s'):SP X J D f s':=by
 cases f with
 |next=>let{z,H',I,q}:=h;exact⟨z,H',I.unwish,q⟩
 |brk=>let{z,H',I,q}:=h;exact⟨z,H',I.unwish,q⟩
 |cont=>let{z,H',I,q}:=h;exact⟨z,H',I.unwish,q⟩
 |ret u=>let{v,z,H',I,r,q}:=h;exact⟨v,z,H',I.unwish,r,q⟩
def PE.nox(h:PE X.nox e t):PE X e t:=λJ s W H Q I hw=>
 XA (h J s W H Q (I.wish _) hw) (λ_ _ zz=>by let{v,H',G,r,q}:=zz;exact⟨v,H',G.unwish,r,q⟩) λ_ _ z=>False.elim z
def KH.nox{st:Mw}{t:TS}(h:KH X.nox st t):KH X st t:=λJ s W H D I hw=>
 XA (h J s W H D (I.wish _) hw) (λ_ _ q=>q.unwish) λ_ _ z=>False.elim z
section
variable{st:Stmt}{rest:Mw}{t u:TS}
def Il:TS:=λD W H=>D.nx W H
def xR(t u:TS):TS:=λD W H=>t {D with nx:=u D} W H
def ar:KH X [] Il:=λ_ _ W H _ I h=>wpAny_execs_nil ⟨W,H,I,h⟩
def f7(h1:PS X st t)(h2:KH X rest u):KH X (st::rest) (xR t u):=by
 intro J s W H D I h;refine wpAny_execs_cons<|JD (h1 J s W H {D with nx:=u D} I h) λf s1 q=>?_;cases f with
 |next=>
  let{z,H',G,q}:=q;exact h2 J s1 z H' D G q
 |ret v=>exact q
 |brk=>exact q
 |cont=>exact q
def av(h1:PS X st t):KH X [st] t:=by
 intro J s W H D I h;refine wpAny_execs_cons<|JD (h1 J s W H D I h) λf s1 q=>?_;cases f with
 |next=>exact wpAny_execs_nil q
 |ret v=>exact q
 |brk=>exact q
 |cont=>exact q
def Inv.quiet(I:Inv X J W H s):interactive X.env=false:=by simp[interactive,I.ok.kind]
def Iq(te:TE):TS:=λD W H=>te W H λ_ H1=>D.nx W H1
def bc(he:PE X e te)(hs:swapsWith e none pos.line X.env=pure false:=by rfl):PS X (.Expr e pos) (Iq te):=by
 intro J s W H D I h;exact wpAny_Expr_any (JD (he J s W H _ I h) λv s1 zz=>by let{x,H1,z,r1,G}:=zz;exact⟨W,H1,z,G⟩) I.quiet hs
def tRet(te:TE):TS:=λD W H=>te W H D.rt
def aD(he:PE X e te):PS X (.Return (some e) pos) (tRet te):=by
 intro J s W H D I h;exact wpAny_Return_some<|JD (he J s W H _ I h) λv s1 zz=>by let{x,H1,z,r1,G}:=zz;exact⟨x,W,H1,z,r1,G⟩
def Ii:TS:=λD _ H=>D.rt .non H
def nB:PS X (.Return none pos) Ii:=λ_ _ W H _ I h=>wpAny_Return_none {.non,W,H,I,M,h}
def tIfS(c:TT)(t u:TS):TS:=λD W H=>c W H λb H1=>if b=true then t D W H1 else u D W H1
def aU{a b:Mw}(hc:PT X c tc)(ha:KH X a t)(hb:KH X b u):PS X (.If c a b pos) (tIfS tc t u):=by
 intro J s W H D I h;refine wpAny_If<|JD (hc J s W H _ I h) λd s1 zz=>?_;let{H1,z,G}:=zz;cases d with
 |true=>exact ha J s1 W H1 D z G
 |false=>exact hb J s1 W H1 D z G
end
abbrev TG:=V->St->Hp->(St->Hp->Prop)->Prop
abbrev TGs:=List V->St->Hp->(St->Hp->Prop)->Prop
abbrev _root_.MA:=St->Hp->Prop
def PG(X:Cx)(target:Expr)(t:TG):Prop:=
 ∀(J:Ma)(s:J')(W:St)(H:Hp)(v:V)(u:K')(Q:MA),Inv X J W H s->RelV v u->t v W H Q->
  J5 X (assign target X.env u) (λ_ s'=>∃σ' H',Inv X J σ' H' s'/\Q σ' H') X.xe s
def PGs(X:Cx)(ts:Ms)(t:TGs):Prop:=
 ∀(J:Ma)(s:J')(W:St)(H:Hp)(vs:L')(us:Lz)(Q:MA),Inv X J W H s->J8 vs us->t vs W H Q->
  J5 X (assignInOrder ((assignEach ts X.env).map (·.2)) us) (λ_ s'=>∃σ' H',Inv X J σ' H' s'/\Q σ' H') X.xe s
abbrev HN:=V->V->V->Hp->(Hp->Prop)->Prop
def PSet(X:Cx)(t:HN):Prop:=
 ∀(J:Ma)(s:J')(W:St)(H:Hp)(o i v:V)(ov iv u:K')(Q:Hp->Prop),Inv X J W H s->RelV o ov->RelV i iv->RelV v u->t o i v H Q->
  J5 X (setItem ov iv u) (λ_ s'=>∃H',Inv X J W H' s'/\Q H') X.xe s
abbrev TIp:=V->V->Hp->VK->Prop
def PIp(X:Cx)(op:Operator)(t:TIp):Prop:=
 ∀(J:Ma)(s:J')(W:St)(H:Hp)(x y:V)(v u:K')(Q:VK),Inv X J W H s->RelV x v->RelV y u->t x y H Q->
  J5 X (inplaceOp op v u) (EP X J W Q) X.xe s
abbrev lF(i:Nat):TG:=λv W H Q=>Q (W.set i<|some v) H
def zp(z:X.N.Nodup)(hi:X.N[i]?=some x)(hx:Loc X.env.scope x)(hf:X.fn x=true\/X.env.scope.names.lookup x=some .local:=by ac_rfl):PG X (.Name x pos) (lF i):=by
 intro J s W H v u Q I r h;exact wpAny_assign_Name<|mV I z hi hx r (λs' G=>{_,H,G,h}) hf
def gNil:TGs:=λvs W H Q=>vs=[]/\Q W H
inductive Ja(t:TG)(u:TGs)(vs:L')(W:St)(H:Hp)(Q:MA):Prop
 |mk(v r:_)(_:vs=v::r)(_:t v W H λσ' H'=>u r σ' H' Q)
def E7:PGs X [] gNil:=by
 intro J s W H vs us Q I r h;let{e,h}:=h;subst e;cases r;exact assignInOrder_nil ⟨W,H,I,h⟩
def wq{t:TG}{u:TGs}(h1:PG X e t)(h2:PGs X es u)
  (hs:(assignEach (e::es) X.env).map (·.2)=assign e X.env::(assignEach es X.env).map (·.2):=by rfl):PGs X (e::es) (Ja t u):=by
 intro J s W H vs us Q I r h;let{v,Z,O,h}:=h;subst O;cases r with
 |cons r S=>
  rw[hs];refine assignInOrder_cons<|JD (h1 J s W H _ _ _ I r h) λ_ s1 z=>?_;let{G,H1,U,Y}:=z;exact h2 J s1 G H1 _ _ Q U S Y
inductive gTup(K:J4)(n:Nat)(t:TGs)(v:V)(W:St)(H:Hp)(Q:MA):Prop
 |mk(a xs:_)(_:v= .ref a)(_:Kg K H a xs)(_:xs.length=n)(_:t xs W H Q)
def G5{k:Nat}{t:TGs}(hc:X.calm=true)(h:PGs X es t)
  (O:(assignEach es X.env).length=n:=by rfl) (z:(assignEach es X.env).findIdx? (·.1)=none:=by rfl):PG X (.Tuple es k pos) (gTup X.K n t):=by
 intro J s W H v u Q I r hw;let{a,xs,S,hq,hl,hw}:=hw;subst S;cases r;let{its,G,U,hz}:=I.tuple hq;refine assign_Tuple_tuple (I.ok.hd hc) U (by simp[O,<-hl,G.length]) z λh' hx=>?_;have Y:Inv X J W H {s with heap:=h'}:=I.kept (t':=s.toks) λb o e=>hx b o (Qn<|Xs e) e;exact h J _ W H xs _ Q Y (by simpa using G) hw
def gSub(to ti:TE)(t:HN):TG:=λv W H Q=>to W H λo H1=>ti W H1 λi H2=>t o i v H2 λH3=>Q W H3
def yp{o i:Expr}{to S:TE}{t:HN}(ho:PE X o to)(hi:PE X i S)(hs:PSet X t)
  (ha:∀v,assign (.Subscript o i pos) X.env v=(do
   let G<-holding [v] (eval o X.env)
   let O<-holding [v,G] (eval i X.env)
   standAt pos
   holding [v,G,O] (setItem G O v)
   release [v,G,O] []):=by subst_eqs):PG X (.Subscript o i pos) (gSub to S t):=by
 intro J s W H v u Q I r h;rw[ha];refine Xj<|XE (JD (ho J s W H _ I h) λG s1 z=>?_);let{x,H1,U,r1,Y}:=z;refine Xj<|XE (JD (hi J s1 W H1 _ U Y) λO s2 z=>?_);let{y,H2,Z,r2,q2}:=z;refine Xj<|wpAny_standAt (Xj<|XE<|JD (hs J s2 W H2 x y v G O u _ Z r1 r2 r q2) λ_ s3 z=>?_);let{H3,I3,q3}:=z;exact wpAny_release ⟨W,H3,I3,q3⟩
def Ce(te:TE)(g:TG):TS:=λD W H=>te W H λx H1=>g x W H1 D.nx
def yo{g:TG}(he:PE X e te)(G:PG X tg g)(hs:swapsWithSole [tg] e pos.line X.env=pure false:=by rfl)(hw:swappedStores [tg] e X.env=pure none:=by rfl)
  (h1:(assignEach [tg] X.env).map (·.2)=[assign tg X.env]:=by rfl):PS X (.Assign [tg] e pos) (Ce te g):=by
 intro J s W H D I h;refine wpAny_Assign_stores (JD (he J s W H _ I h) λv s1 z=>?_) hs hw;let{x,H1,O,r1,S}:=z;rw[h1];exact JD (G J s1 W H1 x v _ O r1 S) λ_ s2 q=>q
def ym{i:Nat}{x:Str}{e:Expr}{te:TE}{pos':Pos}(G:X.N.Nodup)(hi:X.N[i]?=some x)(hx:Loc X.env.scope x)(he:PE X e te)(hs:swapsWith e (some<|.Name x pos') pos.line X.env=pure false:=by rfl)(hf:X.fn x=true\/X.env.scope.names.lookup x=some .local:=by ac_rfl):
  PS X (.Assign [.Name x pos'] e pos) (Ce te<|lF i):=by
 intro J s W H D I h;refine wpAny_Assign_Name (JD (he J s W H _ I h) λv s1 z=>?_) hs;let{y,H1,O,r1,S}:=z;exact mV O G hi hx r1 (λs2 U=>{_,H1,U,S}) hf
inductive tAug(i:Nat)(te:TE)(ti:TIp)(D:KN)(W:St)(H:Hp):Prop
 |mk(x:_)(_:W[i]?=some (some x))(_:te W H λy H1=>ti x y H1 λz H2=>D.nx (W.set i<|some z) H2)
def CD{op:Operator}{Y:TIp}{pos':Pos}(hN:X.N.Nodup)(hi:X.N[i]?=some x)(hx:Loc X.env.scope x)(he:PE X e te)(ho:PIp X op Y)(hf:X.fn x=true\/X.env.scope.names.lookup x=some .local:=by ac_rfl):
  PS X (.AugAssign (.Name x pos') op e pos) (tAug i te Y):=by
 intro J s W H D I h;let{v,e1,h}:=h;let{m,hn,hl}:=I.loc;have U:Ly X.env.scope x:=by rcases hx with k|k;exact .inl k;exact .inr<|.inl k
 let{u,r,l}:=hl i x v hi e1 U;refine wpAny_AugAssign_Name ?_;have Z:J5 X (eval e X.env) (λw s₂=>J5 X (inplaceOp op u w) (λr S=>J5 X (storeName X.env x r) (λ_=>SP X J D .next) X.xe S) X.xe s₂) X.xe s:=by
  refine JD (he J s W H _ I h) λw s1 G=>?_;let{y,H1,I1,r1,q1}:=G;refine JD (ho J s1 W H1 v y u w _ I1 r r1 q1) λz s2 G=>?_;let{zv,H2,I2,r2,q2}:=G;exact mV I2 hN hi hx r2 (λs3 I3=>{_,H2,I3,q2}) hf
 rcases l with⟨hk,hm⟩|⟨hk,c,hc,O⟩
 .exact wpAny_loadName_local I.ok.kind hk hn hm Z
 .rcases hk with hk|hk
  .exact wpAny_loadName_cell I.ok.kind hk hc O Z
  .rcases hx with k|k
   .have:X.env.scope.names.lookup x=some .free:=hk;rw[k]at this;cases this
   .have:X.env.scope.names.lookup x=some .free:=hk;rw[k]at this;cases this
inductive ipI(f:Int->Int->Int)(x y:V)(H:Hp)(Q:VK):Prop
 |mk(i j:_)(_:x= .int i)(_:y= .int j)(_:Q (.int<|f i j) H)
def Du:PIp X .Add (ipI λi j=>i+j):=by
 intro J s W H x y v u Q I r1 z h;let{i,j,G,e2,q}:=h;subst G;subst e2;let{t,rfl}:=r1;let{t',rfl}:=z;exact iadd_int {.int _,H,I.tok _,{_,M},q}
def GH(c:TT)(tb:TS):TS:=λD W H=>∃J3:Nat->St->Hp->Prop,(∃m,J3 m W H)/\∀m W H,J3 m W H->
 c W H λb H1=>if b=true then ∃N:St->Hp->Prop,(∀σ' H',N σ' H'->∃m',m'<m/\J3 m' σ' H')/\tb {D with nx:=N,ct:=N,bk:=D.nx} W H1 else D.nx W H1
def Cz(hp:PassesOwn (model X.prog X.w) X.A X.env X.xe)(hc:PT X c tc)(hb:KH X body tb):PS X (.While c body [] pos) (GH tc tb):=by
 intro J s W H D I h;let{J3,{m0,w0},O}:=h;refine wpAny_While<|codeAny_whileLoop (λn s'=>∃S H',Inv X J S H' s'/\J3 n S H') ?_ m0 ⟨W,H,I,w0⟩;rintro n s1 ⟨G,H1,I1,w1⟩;refine XM hp<|JD (hc J s1 G H1 _ I1<|O n G H1 w1) λb s2 zz=>?_;let{H2,I2,q2}:=zz;cases b with
 |true=>
  let{N,hN,q2}:=q2;rw[Xm M];refine XM hp<|JD (hb J s2 G H2 _ I2 q2) λf s3 U=>?_;cases f with
  |next=>
   let{z,H3,Y,Z}:=U;let{m',hm,w3}:=hN z H3 Z;exact⟨m',hm,z,H3,Y,w3⟩
  |cont=>
   let{z,H3,Y,Z}:=U;let{m',hm,w3}:=hN z H3 Z;exact⟨m',hm,z,H3,Y,w3⟩
  |brk=>exact U
  |ret v=>exact U
 |false=>
  rw[Xl Q6];exact wpAny_execs_nil ⟨G,H2,I2,q2⟩
set_option genInjectivity false in
structure It where
 go:Nat->Hp->Prop
 yld:Nat->Hp->V->Hp->Prop
 stop:Nat->Hp->Prop
def eY(X:Cx)(J:Ma)(H:Hp)(b:G'):Prop:=
 H b=none/\b≠X.env.locals/\b∉X.fs/\(b∈X.ex\/X.s₀.heap.objs.size<=b)/\(∀x c,X.env.cells.lookup x=some c->c≠b)/\∀p∈X.pn++J,p.1≠b
def Inv.fpOk(I:Inv X J W H s)(hb:s.heap.objs.size<=b)(G:H' b=none):eY X J H' b:=by
 refine{G,X3<|Qj I.lt hb,I.nofs hb,.inr<|Qr I.sz hb,λx c e z=>?_,λp hp z=>?_}
 .let{v,q}:=I.cell x c e;exact Xp (Qj q.lt<|by rwa[z])<|QV _
 .exact Xp (Qj (Xs (I.pin p hp).1)<|by rwa[z]) (QV _)
structure vJ(P:Mc)(w:Md)(K:J4)(tg:Expr)(J0:It)(fp:Mh)(it:G')(tn:Nat->Heap->Prop):Prop where
 mem:it∈fp
 obj:∀i h,tn i h->∀b∈fp,∃o,h.get? b=some o/\∀v,o.data≠ .cell v
 keep:∀i h h',tn i h->(∀b∈fp,∀o,h.get? b=some o->h'.get? b=some o)->tn i h'
 item:∀(X:Cx),X.prog=P->X.w=w->X.K=K->X.calm=true->∀(i:Nat)(J:Ma)(s:J')(W:St)(H:Hp)(E:Ml),Inv X J W H s->(∀b∈fp,eY X J H b)->tn i s.heap->J0.go i H->
  wpAny (model P w) X.A (pyNext<|.ref it) (λr s1=>∃u,r=some u/\
   wpAny (model P w) X.A (letOwnedTupleGo tg (.ref it) u) (λ_ s2=>∃x H',Inv X J W H' s2/\RelV x u/\J0.yld i H x H'/\tn (i+1) s2.heap/\∀b∈fp,H' b=none) E s1) E s
 done:∀(X:Cx),X.prog=P->X.w=w->X.K=K->X.calm=true->∀(i:Nat)(J:Ma)(s:J')(W:St)(H:Hp)(E:Ml),Inv X J W H s->(∀b∈fp,eY X J H b)->tn i s.heap->J0.stop i H->
  wpAny (model P w) X.A (pyNext<|.ref it) (λr s1=>r=none/\Inv X J W H s1) E s
 self:∀(A:Mj)(i:Nat)(s:J')(Q:Ml)(E:Ml),tn i s.heap->Q (.ref it) s->wpAny (model P w) A (pyIter<|.ref it) Q E s
abbrev TI:=St->Hp->(It->Hp->Prop)->Prop
def PIE(X:Cx)(J:Ma)(W:St)(tg:Expr)(R:It->Hp->Prop)(itv:K')(s2:J'):Prop:=
 ∃(it:G')(fp:Mh)(tn:Nat->Heap->Prop)(J0:It)(H':Hp),itv= .ref it/\Inv X J W H' s2/\vJ X.prog X.w X.K tg J0 fp it tn/\tn 0 s2.heap/\(∀b∈fp,eY X J H' b)/\R J0 H'
def PI(X:Cx)(tg iter:Expr)(wi:TI):Prop:=
 ∀(J:Ma)(s:J')(W:St)(H:Hp)(R:It->Hp->Prop),Inv X J W H s->wi W H R->
  J5 X (eval iter X.env) (λv s1=>J5 X (pyIter v) (PIE X J W tg R) X.xe s1) X.xe s
def sy{o:Obj}{n:String}{vs:Mn}{Q:Mx}(ho:s.heap.get? it=some o)(hc:o.cls= .type n)(hd:o.data= .fields vs)
  (G:["enumerate","zip","dict_itemiterator","dict_reverseitemiterator","odict_iterator","itertools.zip_longest","itertools.pairwise"].contains n=false) (z:Q Unit.unit s):wpAny M' A (letOwnedTupleGo tg (.ref it) u) Q E s:=by
 unfold letOwnedTupleGo;cases tg<;>first
  |exact Xr z
  |(cases u<;>first
    |exact Xr z
    |(refine Xj<|wpAny_load ho ?_
      rw[hc,hd];show wpAny M' A (if(["enumerate","zip","dict_itemiterator","dict_reverseitemiterator","odict_iterator","itertools.zip_longest","itertools.pairwise"].contains n&&vs[0]?==some (rawInt _))=true then _ else _) Q E s;rw[Xl (by intro h;rw[G,ZT]at h;cases h)];exact Xr z))
def Ls(K:J4)(a:G'):It:=
 {λi H=>∃xs x,JC K H a xs/\xs[i]?=some x,λi H x H'=>H'=H/\∀xs,JC K H a xs->xs[i]?=some x,λi H=>∃xs,JC K H a xs/\xs.length<=i}
def Lh(K:J4)(a:G'):It:=
 {λi H=>∃xs x,Kg K H a xs/\xs[i]?=some x,λi H x H'=>H'=H/\∀xs,Kg K H a xs->xs[i]?=some x,λi H=>∃xs,Kg K H a xs/\xs.length<=i}
def LS(lo:Int)(n:Nat):It:={λi _=>i<n,λi H x H'=>H'=H/\x= .int (lo+i),λi _=>n<=i}
def Ao(a it:G'):vJ P w K tg (Ls K a) [it] it (λi h=>h.IsListIter it a i) where
 mem:=by simp
 obj:=λi h st b hb=>by
  have e:b=it:=by simpa using hb
  subst e;let{o,e,c,d}:=st;exact{o,e,λv z=>by rw[d]at z;cases z}
 keep:=λi h h' st k=>st.at λo e=>k it (by simp) o e
 item:=by
  intro X O hw hK hc i J s W H E I hf st S;subst O hw hK;let{xs,x,hq,hx}:=S;let{its,U,p,hz}:=I.list hq;let{u,hu,ru}:=U.get hx;let{Y,Z,f2,f3,f4,f5}:=hf it (by simp);refine wpAny_pyNext_list_item st p.isList (x:=u) (by simpa using hu) λh' G sb=>?_;have I1:Inv X J W H {s with heap:=h'}:=I.turned (t':=s.toks) (λb o hb e=>(sb.2 b hb).trans e) Y Z f3 f4 f5;let{o,e,c,d}:=id G;exact{u,M,sy (s:={s with heap:=h'}) e c d (_) {x,H,I1,ru,{M,λys hy=>by rwa[I.list_inj hy hq]},G,λb hb=>(hf b hb).1}}
 done:=by
  intro X O hw hK hc i J s W H E I hf st S;subst O hw hK;let{xs,hq,hx}:=S;let{its,U,p,hz}:=I.list hq;let{Y,Z,f2,f3,f4,f5}:=hf it (by simp);have hl:=U.length;exact wpAny_pyNext_list_end (I.ok.hd hc) st p.isList (by simp;lia) λh' eb=>{M,I.turned (t':=s.toks) (λb o hb e=>eb b o hb e) Y Z f3 f4 f5}
 self:=λ_ _ _ _ _ st h=>wpAny_pyIter_listiter st h
def xM(a it:G'):vJ P w K tg (Lh K a) [it] it (λi h=>h.IsTupleIter it a i) where
 mem:=by simp
 obj:=λi h st b hb=>by
  have e:b=it:=by simpa using hb
  subst e;let{o,e,c,d}:=st;exact{o,e,λv z=>by rw[d]at z;cases z}
 keep:=λi h h' st k=>st.at λo e=>k it (by simp) o e
 item:=by
  intro X O hw hK hc i J s W H E I hf st S;subst O hw hK;let{xs,x,hq,hx}:=S;let{its,U,p,hz}:=I.tuple hq;let{u,hu,ru}:=U.get hx;let{Y,Z,f2,f3,f4,f5}:=hf it (by simp);refine wpAny_pyNext_tuple_item st (show s.heap.IsTuple a its.toArray from p) (x:=u) (by simpa using hu) λh' G sb=>?_;have I1:Inv X J W H {s with heap:=h'}:=I.turned (t':=s.toks) (λb o hb e=>(sb.2 b hb).trans e) Y Z f3 f4 f5;let{o,e,c,d}:=id G;exact{u,M,sy (s:={s with heap:=h'}) e c d (_) {x,H,I1,ru,{M,λys hy=>by rwa[I.tuple_inj hy hq]},G,λb hb=>(hf b hb).1}}
 done:=by
  intro X O hw hK hc i J s W H E I hf st S;subst O hw hK;let{xs,hq,hx}:=S;let{its,U,p,hz}:=I.tuple hq;let{Y,Z,f2,f3,f4,f5}:=hf it (by simp);have hl:=U.length;exact wpAny_pyNext_tuple_end (I.ok.hd hc) st (show s.heap.IsTuple a its.toArray from p) (by simp;lia) λh' eb=>{M,I.turned (t':=s.toks) (λb o hb e=>eb b o hb e) Y Z f3 f4 f5}
 self:=λ_ _ _ _ _ st h=>wpAny_pyIter_tupleiter st h
def xN(it:G')(lo:Int)(n:Nat):vJ P w K tg (LS lo n) [it] it (λi h=>IsRangeIter h it (lo+(i:Nat)*1) ((n:Int)-(i:Nat)) 1) where
 mem:=by simp
 obj:=λi h st b hb=>by
  have e:b=it:=by simpa using hb
  subst e;exact{_,st,λv z=>by
   have z':Data.fields _=Data.cell v:=z;cases z'}
 keep:=λi h h' st k=>k it (by simp) _ st
 item:=by
  intro X O hw hK hc i J s W H E I hf st S;subst O hw hK;let{U,Y,f2,Z,f4,f5}:=hf it (by simp);have J3:=Walks.range (prog:=X.prog) (w:=X.w) (I.ok.hd hc) it lo 1 n;refine J3.item i s _ _ S st λv h' tk hv G kk=>?_;let{t,rfl}:=hv;have I1:Inv X J W H {s with heap:=h',toks:=tk}:=I.turned (λb o hb e=>kk b o (by simpa using hb) e) U Y Z f4 f5;refine{_,M,sy (s:={s with heap:=h',toks:=tk}) (n:="range_iterator") G M M (_) {.int<|lo+i,H,I1,{t,?_},⟨M,M⟩,G,λb hb=>(hf b hb).1}};rw[Int.mul_one]
 done:=by
  intro X O hw hK hc i J s W H E I hf st S;subst O hw hK;let{U,Y,f2,Z,f4,f5}:=hf it (by simp);exact wpAny_pyNext_range_end (I.ok.hd hc) st (by have:n<=i:=S;lia) λh' eb=>{M,I.turned (t':=s.toks) (λb o hb e=>eb b o hb e) U Y Z f4 f5}
 self:=λ_ _ _ _ _ st h=>wpAny_pyIter_rangeiter st h
inductive Hw(K:J4)(R:It->Hp->Prop)(x:V)(H1:Hp):Prop
 |mk(a:_)(_:x= .ref a)(_:(∃xs,JC K H1 a xs))(_:R (Ls K a) H1)
def IW(K:J4)(tl:TE):TI:=λW H R=>tl W H λx H1=>Hw K R x H1
inductive IU(K:J4)(R:It->Hp->Prop)(x:V)(H1:Hp):Prop
 |mk(a:_)(_:x= .ref a)(_:(∃xs,Kg K H1 a xs))(_:R (Lh K a) H1)
def iTup(K:J4)(tl:TE):TI:=λW H R=>tl W H λx H1=>IU K R x H1
def uZ(hl:PE X l tl):PI X tg l (IW X.K tl):=by
 intro J s W H R I h;refine JD (hl J s W H _ I h) λv s1 G=>?_;let{x,H1,z,r1,O}:=G;let{a,e,{xs,hq},q}:=O;subst e;cases r1;let{its,S,p,hz}:=z.list hq;refine wpAny_pyIter_list p.isList ?_;refine{s1.heap.objs.size,[s1.heap.objs.size],_,_,H1,M,z.kept (t':=s1.toks) λb o e=>Xk _ e,Ao a _,{_,Xu _ M,M,M},λb hb=>?_,q};have e:b=s1.heap.objs.size:=by simpa using hb
 subst e;exact z.fpOk (Q4 _)<|z.hok.fresh (Q4 _)
def G2(hl:PE X l tl):PI X tg l (iTup X.K tl):=by
 intro J s W H R I h;refine JD (hl J s W H _ I h) λv s1 G=>?_;let{x,H1,z,r1,O}:=G;let{a,e,{xs,hq},q}:=O;subst e;cases r1;let{its,S,p,hz}:=z.tuple hq;refine wpAny_pyIter_tuple (show s1.heap.IsTuple a its.toArray from p) ?_;refine{s1.heap.objs.size,[s1.heap.objs.size],_,_,H1,M,z.kept (t':=s1.toks) λb o e=>Xk _ e,xM a _,{_,Xu _ M,M,M},λb hb=>?_,q};have e:b=s1.heap.objs.size:=by simpa using hb
 subst e;exact z.fpOk (Q4 _)<|z.hok.fresh (Q4 _)
def Ct{R:It->Hp->Prop}{hi:Int}{t u v:Tok}{tk:Nat}(I:Inv X J W H s)(h1: -(2^62)<=lo)(h2:lo<2^62)(G: -(2^62)<=hi)(O:hi<2^62)
  (q:R (LS lo (hi-lo).toNat) H):J5 X (pyIter<|.ref s.heap.objs.size) (PIE X J W tg R) E {s with heap:=s.heap.push {cls:= .type "range",data:= .fields #[.int lo t,.int hi u,.int 1 v]},toks:=tk}:=by
 refine wpAny_pyIter_range (IsRange.new ..) (small_one h1 h2 G O) ?_;have z:Inv X J W H {s with heap:=s.heap.push {cls:= .type "range",data:= .fields #[.int lo t,.int hi u,.int 1 v]},toks:=tk}:=I.kept λb o e=>Xk _ e;refine{(s.heap.push {cls:= .type "range",data:= .fields #[.int lo t,.int hi u,.int 1 v]}).objs.size,[(s.heap.push {cls:= .type "range",data:= .fields #[.int lo t,.int hi u,.int 1 v]}).objs.size],_,_,H,M,
  z.kept (t':=tk) λb o e=>Xk _ e,xN _ lo (hi-lo).toNat,?_,λb hb=>?_,q}
 .have S:lo+((0:Nat):Int)*1=lo:=by simp
  have e2:(((hi-lo).toNat:Nat):Int)-((0:Nat):Int)=Builtin.Range.rangeSize lo hi 1:=by rw[rangeSize_one];split<;>lia
  show IsRangeIter _ _ (lo+((0:Nat):Int)*1) ((((hi-lo).toNat:Nat):Int)-((0:Nat):Int)) 1;rw[S,e2];exact Xu _ M
 .have e:b=(s.heap.push {cls:= .type "range",data:= .fields #[.int lo t,.int hi u,.int 1 v]}).objs.size:=by simpa using hb
  subst e;exact z.fpOk (Q4 _) (z.hok.fresh<|Q4 _)
inductive Hv(R:It->Hp->Prop)(vs:L')(H1:Hp):Prop
 |mk(j:Int)(_:vs=[.int j])(_: -(2^62)<=j)(_:j<2^62)(_:R (LS 0 j.toNat) H1)
def IV(ta:TA):TI:=λW H R=>ta W H λvs H1=>Hv R vs H1
def fK{a:Expr}{ta:TA}(O:Gl X "range")(S:X.mg "range"=none)(ha:PA X [a] ta)(hs:starEach [a] X.env=[(false,eval a X.env)]:=by rfl):PI X tg (.Call (.Name "range" p) [a] [] pos) (IV ta):=by
 intro J s W H R I h;refine Call_<|pk I O S boot_range (PyProof.Rows.callWith_type1 (JD (ha pos J s W H _ I h) λus s1 z=>?_) hs M);let{vs,H1,U,r1,G}:=z;let{j,e,G,q2,q}:=G;subst e;cases r1 with
 |cons r Y=>
  cases Y;let{t,rfl}:=r;exact call_range_1<|Ct U () () G q2 (by simpa using q)
def tFor(wi:TI)(g:TG)(tb:TS):TS:=λD W H=>wi W H λJ0 H1=>∃J3:Nat->Nat->St->Hp->Prop,(∃m,J3 0 m W H1)/\∀i m W H,J3 i m W H->
 (J0.stop i H/\D.nx W H)\/(J0.go i H/\∃N:St->Hp->Prop,(∀σ' H',N σ' H'->∃m',m'<m/\J3 (i+1) m' σ' H')/\∀x H',J0.yld i H x H'->g x W H' λσ2 H2=>tb {D with nx:=N,ct:=N,bk:=D.nx} σ2 H2)
def rC(fp:Mh)(h:Heap):List (Addr×Obj):=fp.filterMap λb=>(h.get? b).map λo=>(b,o)
def jq{h:Heap}{o:Obj}(hb:b∈fp)(e:h.get? b=some o):(b,o)∈rC fp h:=List.mem_filterMap.mpr {b,hb,by rw[e];rfl}
def AL{h:Heap}{p:Addr×Obj}(hp:p∈rC fp h):p.1∈fp/\h.get? p.1=some p.2:=by
 let{b,hb,e}:=List.mem_filterMap.mp hp;cases q:h.get? b with
 |none=>rw[q]at e;cases e
 |some o=>
  rw[q]at e;have z:(b,o)=p:=Xq e;subst z;exact⟨hb,q⟩
def Inv.pinned(I:Inv X J W H s)(hf:∀b∈fp,eY X J H b)(ho:∀b∈fp,∃o,s.heap.get? b=some o/\∀v,o.data≠ .cell v):Inv X (J++rC fp s.heap) W H s:=
 I.pins_of λp hp=>(Qb.mp hp).elim (λz=>I.pin p<|Qg _ z) λz=>by
  let{hb,e}:=AL z;let{O,S,U,_}:=hf p.1 hb;let{o,G,d}:=ho p.1 hb;rw[e]at G;cases G;exact⟨e,O,S,U,d⟩
def Inv.unpinned{pl:Ma}(I:Inv X (J++pl) W H s):Inv X J W H s:=I.pins_of λp hp=>I.pin p (Qg _<|Qu _ hp)
def oV{iter:Expr}{wi:TI}{g:TG}(hp:PassesOwn (model X.prog X.w) X.A X.env X.xe)(hc:X.calm=true)(hi:PI X tg iter wi)(hg:PG X tg g)(hb:KH X body tb)
  (hs:∀x,foldedSetIterable iter X.env x=pure x:=by subst_eqs):PS X (.For tg iter body [] pos) (tFor wi g tb):=by
 intro J s W H D I h;refine wpAny_For (JD (hi J s W H _ I h) λv s1 h1=>JD h1 λan s2 h2=>?_) hs;let{it,fp,tn,J0,H2,e,I2,T,a8,f2,J3,{m0,w0},a2}:=h2;subst e;have G:∀{H':Hp},(∀b∈fp,H' b=none)->∀b∈fp,eY X J H' b:=λhn b hb=>{hn b hb,(f2 b hb).2};refine codeAny_forLoop_any (λn s'=>∃i O H',Inv X J O H' s'/\tn i s'.heap/\(∀b∈fp,H' b=none)/\J3 i n O H') ?_ m0 {0,W,H2,I2,a8,λb hb=>(f2 b hb).1,w0};rintro n s3 ⟨i,S,H3,I3,a3,a5,w3⟩;rcases a2 i n S H3 w3 with⟨a6,qn⟩|⟨go,N,hN,step⟩
 .refine XM hp<|JD (T.done X M M M hc i J s3 S H3 X.xe I3 (G a5) a3 a6) λr s4 zz=>?_;let{hr,I4}:=zz;subst hr;exact wpAny_execs_nil ⟨S,H3,I4,qn⟩
 .refine XM hp<|JD (T.item X M M M hc i J s3 S H3 X.xe I3 (G a5) a3 go) λr s4 zz=>?_;let{u,hr,h4}:=zz;subst hr;refine XM hp<|JD h4 λ_ s5 a0=>?_;let{x,H5,I5,r5,y5,a1,ac}:=a0;have al:=I5.pinned (G ac) (T.obj _ _ a1);refine XM hp<|JD (hg _ s5 S H5 x u _ al r5<|step x H5 y5) λ_ s6 a0=>?_;let{am,H6,I6,q6}:=a0;refine XM hp<|JD (hb _ s6 am H6 _ I6 q6) λf s7 Z=>?_;have again:∀{z:St}{U:Hp},Inv X (J++rC fp s5.heap) z U s7->N z U->∃m,m<n/\∃i O H',Inv X J O H' s7/\tn i s7.heap/\(∀b∈fp,H' b=none)/\J3 i m O H':=λ{z U} Y n7=>by
   let{m',hm,w7}:=hN z U n7;refine{m',hm,i+1,z,U,Y.unpinned,T.keep _ _ _ a1 λb hb o e=>(Y.pin (b,o)<|Qg _<|Qg _<|jq hb e).1,λb hb=>?_,w7};let{o,e,d}:=T.obj _ _ a1 b hb;exact(Y.pin (b,o)<|Qg _<|Qg _<|jq hb e).2.1
  cases f with
  |next=>let{z,U,Y,n7}:=Z;exact again Y n7
  |cont=>let{z,U,Y,n7}:=Z;exact again Y n7
  |brk=>let{z,U,Y,Z}:=Z;exact⟨z,U,Y.unpinned,Z⟩
  |ret v=>let{x7,z,U,Y,r7,Z}:=Z;exact⟨x7,z,U,Y.unpinned,r7,Z⟩
abbrev _root_.MD:=Nat->St->Hp->Prop
def FF{g:TG}(Pv:MD)(O:Pv 0 W H)(hl:∀i W H,i<=xs.length->Pv i W H->Kg K H a xs)
  (hs:∀i x W H,xs[i]?=some x->Pv i W H->g x W H λz H2=>tb {D with nx:=Pv (i+1),ct:=Pv (i+1),bk:=D.nx} z H2) (hd:∀W H,Pv xs.length W H->D.nx W H):
  ∃J3:Nat->Nat->St->Hp->Prop,(∃m,J3 0 m W H)/\∀i m W H,J3 i m W H->
   ((Lh K a).stop i H/\D.nx W H)\/((Lh K a).go i H/\∃N:St->Hp->Prop,(∀G H',N G H'->∃m',m'<m/\J3 (i+1) m' G H')/\∀x H',(Lh K a).yld i H x H'->g x W H' λz H2=>tb {D with nx:=N,ct:=N,bk:=D.nx} z H2):=by
 refine{λi m W H=>m=xs.length-i/\i<=xs.length/\Pv i W H,{xs.length,by simp,Ql _,O},?_};rintro i m W H ⟨rfl,hi,p⟩;have q:=hl i W H hi p;by_cases I:i<xs.length
 .refine .inr {{xs,xs[i],q,by simp[I]},Pv<|i+1,λG H' S=>{xs.length-(i+1),(),M,I,S},λx H' y=>?_};let{e,y}:=y;subst e;exact hs i x W _ (y xs q) p
 .have e:i=xs.length:=();subst e;exact .inl {{xs,q,Q4 _},hd W H p}
def Bi{g:TG}(Pv:MD)(O:Pv 0 W H)
  (hs:∀i W H,i<n->Pv i W H->g (.int<|lo+i) W H λz H2=>tb {D with nx:=Pv (i+1),ct:=Pv (i+1),bk:=D.nx} z H2) (hd:∀W H,Pv n W H->D.nx W H):
  ∃J3:Nat->Nat->St->Hp->Prop,(∃m,J3 0 m W H)/\∀i m W H,J3 i m W H->
   ((LS lo n).stop i H/\D.nx W H)\/((LS lo n).go i H/\∃N:St->Hp->Prop,(∀G H',N G H'->∃m',m'<m/\J3 (i+1) m' G H')/\∀x H',(LS lo n).yld i H x H'->g x W H' λz H2=>tb {D with nx:=N,ct:=N,bk:=D.nx} z H2):=by
 refine{λi m W H=>m=n-i/\i<=n/\Pv i W H,{n,by simp,Ql _,O},?_};rintro i m W H ⟨rfl,hi,p⟩;by_cases I:i<n
 .refine .inr {I,Pv<|i+1,λG H' S=>{n-(i+1),(),M,I,S},λx H' y=>?_};let{e,y}:=y;subst e y;exact hs i W _ I p
 .have e:i=n:=();subst e;exact .inl {Q4 _,hd W H p}
abbrev R2:=V->V->Hp->VK->Prop
abbrev _root_.MH:=Value->Value->Sem Value
def Kl(X:Cx)(f:MH)(r:R2):Prop:=
 ∀(J:Ma)(s:J')(W:St)(H:Hp)(x y:V)(v u:K')(Q:VK),Inv X J W H s->RelV x v->RelV y u->r x y H Q->
  J5 X (f v u) (EP X J W Q) X.xe s
def UnR(X:Cx)(f:Value->Sem Value)(r:V->Hp->VK->Prop):Prop:=
 ∀(J:Ma)(s:J')(W:St)(H:Hp)(x:V)(v:K')(Q:VK),Inv X J W H s->RelV x v->r x H Q->
  J5 X (f v) (EP X J W Q) X.xe s
def fu(X:Cx)(f:K')(r:List V->Hp->VK->Prop):Prop:=
 ∀(J:Ma)(s:J')(W:St)(H:Hp)(xs:L')(us:Lz)(Q:VK),Inv X J W H s->J8 xs us->r xs H Q->
  J5 X (call f us) (EP X J W Q) X.xe s
def tOp(r:R2)(ta tb:TE):TE:=λW H Q=>ta W H λx H1=>tb W H1 λy H2=>r x y H2 Q
def tUn(r:V->Hp->VK->Prop)(ta:TE):TE:=λW H Q=>ta W H λx H1=>r x H1 Q
inductive rI(C:Int->Int->Prop)(g:Int->Int->V)(x y:V)(H:Hp)(Q:VK):Prop
 |mk(i j:_)(_:x= .int i)(_:y= .int j)(_:C i j)(_:Q (g i j) H)
inductive Lg(g:Int->Int->V)(x y:V)(H:Hp)(Q:VK):Prop
 |mk(i j:_)(_:x= .int i)(_:y= .int j)(_:Q (g i j) H)
inductive rU(g:Int->V)(x:V)(H:Hp)(Q:VK):Prop
 |mk(i:_)(_:x= .int i)(_:Q (g i) H)
section
variable{a b:Expr}{tb tc:TE}
def HL(ha:PE X a ta)(hb:PE X b tb){R:V->V->Hp->Prop}(I:Inv X J W H s)
  (h:ta W H λx H1=>tb W H1 λy H2=>R x y H2) {f:MH}
  (hf:∀v u s2 x y H2,Inv X J W H2 s2->RelV x v->RelV y u->R x y H2->J5 X (f v u) Q X.xe s2):
  J5 X (eval a X.env) (λv s₁=>J5 X (eval b X.env) (λu s₂=>J5 X (f v u) Q X.xe s₂) X.xe s₁) X.xe s:=by
 refine JD (ha J s W H _ I h) λv s1 z=>?_;let{x,H1,G,r1,O}:=z;refine JD (hb J s1 W H1 _ G O) λu s2 z=>?_;let{y,H2,S,U,q2}:=z;exact hf v u s2 x y H2 S r1 U q2
def bd{op:Operator}(ho:Kl X (binaryOp op) r)(ha:PE X a ta)(hb:PE X b tb):PE X (.BinOp a op b pos) (tOp r ta tb):=by
 intro J s W H Q I h;exact wpAny_BinOp<|HL ha hb I h λv u s2 x y H2 z G O q=>ho J s2 W H2 x y v u Q z G O q
def CH{op:UnaryOp}{r:V->Hp->VK->Prop}(ho:UnR X (unaryOp op) r)(ha:PE X a ta):PE X (.UnaryOp op a pos) (tUn r ta):=by
 intro J s W H Q I h;exact UnaryOp_<|JD (ha J s W H _ I h) λv s1 zz=>by let{x,H1,z,r1,G}:=zz;exact ho J s1 W H1 x v Q z r1 G
def opI{f:MH}{C:Int->Int->Prop} 
  (rule:∀(i j:Int)(t u:Tok)(s:J')(Q:Ml)(E:Ml),C i j->Q (.int (g i j) s.toks) {s with toks:=s.toks+1}->J5 X (f (.int i t)<|.int j u) Q E s):
  Kl X f (rI C λi j=> .int<|g i j):=by
 intro J s W H x y v u Q I z G h;let{i,j,rfl,rfl,hc,q}:=h;let{t,rfl}:=z;let{t',rfl}:=G;exact rule i j t t' s _ _ hc {.int<|g i j,H,I.tok _,{_,M},q}
def opI0{f:MH} 
  (rule:∀(i j:Int)(t u:Tok)(s:J')(Q:Ml)(E:Ml),Q (.int (g i j) s.toks) {s with toks:=s.toks+1}->J5 X (f (.int i t)<|.int j u) Q E s):
  Kl X f (Lg λi j=> .int<|g i j):=by
 intro J s W H x y v u Q I z G h;let{i,j,rfl,rfl,q}:=h;let{t,rfl}:=z;let{t',rfl}:=G;exact rule i j t t' s _ _ {.int<|g i j,H,I.tok _,{_,M},q}
def Fb{f:MH}{g:Int->Int->Bool}
  (rule:∀(i j:Int)(t u:Tok)(s:J')(Q:Ml)(E:Ml),Q (.bool<|g i j) s->J5 X (f (.int i t)<|.int j u) Q E s):
  Kl X f (Lg λi j=> .bl<|g i j):=by
 intro J s W H x y v u Q I z G h;let{i,j,rfl,rfl,q}:=h;let{t,rfl}:=z;let{t',rfl}:=G;exact rule i j t t' s _ _ {.bl<|g i j,H,I,M,q}
def CDiv(i j:Int):Prop:=0<j/\j<1073741824
def CPow(i j:Int):Prop:=0<=j/\j<=1000000/\i.natAbs<2^64
def Lk(i j:Int):Prop:=(-(2^64)<i/\i<2^64)\/(-(2^64)<j/\j<2^64)
def Lk.ok{i j:Int}(h:Lk i j):IntMulOk i j:=by
 rcases h with⟨h1,h2⟩|⟨h1,h2⟩
 .exact .of_left<|intBits_le_64 h1 h2
 .exact .of_right<|intBits_le_64 h1 h2
def b9:Kl X (binaryOp .Add) (Lg λi j=> .int<|i+j):=opI0 λ_ _ _ _ _ _ _ q=>add_int q
def mt:Kl X (binaryOp .Sub) (Lg λi j=> .int<|i-j):=opI0 λ_ _ _ _ _ _ _ q=>sub_int q
def yr:Kl X (binaryOp .Mult) (rI Lk λi j=> .int<|i*j):=opI λ_ _ _ _ _ _ _ hc q=>mul_int q hc.ok
def nI:Kl X (binaryOp .FloorDiv) (rI CDiv λi j=> .int<|i/j):=opI λi j _ _ _ _ _ hc q=>by
 have h1:(0:Int)<j:=hc.1;have h2:j<1073741824:=hc.2;exact floordiv_int () (by rw[Int.fdiv_eq_ediv_of_nonneg i ()];exact q)<|.inl (PyProof.noPylong_small ())
def hV:Kl X (binaryOp .Mod) (rI (λ_ j=>0<j) λi j=> .int<|i%j):=opI λi j _ _ _ _ _ hc q=>by
 have h1:(0:Int)<j:=hc;exact mod_int' ()<|by rw[Int.fmod_eq_emod_of_nonneg i ()];exact q
def G9:Kl X (binaryOp .Pow) (rI CPow λi j=> .int<|i^j.toNat):=opI λ_ _ _ _ _ _ _ hc q=>pow_int_small hc.1 hc.2.1 hc.2.2 q
def unI{f:Value->Sem Value}{g:Int->Int}
  (rule:∀(i:Int)(t:Tok)(s:J')(Q:Ml)(E:Ml),Q (.int (g i) s.toks) {s with toks:=s.toks+1}->J5 X (f<|.int i t) Q E s):
  UnR X f (rU λi=> .int<|g i):=by
 intro J s W H x v Q I z h;let{i,rfl,q}:=h;let{t,rfl}:=z;exact rule i t s _ _ {.int<|g i,H,I.tok _,{_,M},q}
def xL:UnR X (unaryOp .USub) (rU λi=> .int<|-i):=unI λ_ _ _ _ _ q=>neg_int q
end
noncomputable def scal:V->V->Bool
 | .non,.non=>true| .non,.int _=>true| .int _,.non=>true| .non,.bl _=>true| .bl _,.non=>true| .non,.str _=>true| .str _,.non=>true
 | .int _,.int _=>true| .bl _,.bl _=>true| .str _,.str _=>true| .byt _,.byt _=>true
 | .int _,.str _=>true| .str _,.int _=>true| .bl _,.str _=>true| .str _,.bl _=>true
 |_,_=>false
def rEq:R2:=λx y H Q=>scal x y=true/\Q (.bl<|decide (x=y)) H
def rNe:R2:=λx y H Q=>scal x y=true/\Q (.bl<|!decide (x=y)) H
def zQ{i j:Int}:decide (V.int i=V.int j)=(i==j):=by
 rw[ZB];simp
def DK{i j:Bool}:decide (V.bl i=V.bl j)=(i==j):=by
 rw[ZB];simp
def zP{i j:Str}:decide (V.str i=V.str j)=(i==j):=by
 rw[ZB];simp
def zR{i j:Array UInt8}:decide (V.byt i=V.byt j)=(i.toList==j.toList):=by
 rw[ZB];cases i;cases j;simp
section
variable{a b:Expr}{tb tc:TE}
def bw{Q:VK}{k z:Bool}(I:Inv X J W H s)(q:Q (.bl k) H)(e:k=z):EP X J W Q (.bool z) s:=by
 subst e;exact{.bl k,H,I,M,q}
def bX:Kl X (compareOp .Eq) rEq:=by
 intro J s W H x y v u Q I G z h;let{hs,q}:=h;cases x with
 |non=>
  cases G;cases y with
  |non=>cases z;exact PySem.EqNone.eq_none_none<|bw I q (by simp)
  |bl j=>cases z;exact PySem.EqNone.eq_none_bool<|bw I q (by simp)
  |int j=>let{t',rfl}:=z;exact PySem.EqNone.eq_none_int<|bw I q (by simp)
  |str j=>let{t',rfl}:=z;exact PySem.EqNone.eq_none_str<|bw I q (by simp)
  |_=>exact Xp (show false=true from hs) Q6
 |bl i=>
  cases G;cases y with
  |non=>cases z;exact PySem.EqNone.eq_bool_none<|bw I q (by simp)
  |bl j=>cases z;exact eq_bool<|bw I q DK
  |str j=>let{t',rfl}:=z;exact PySem.EqMixed.eq_bool_str<|bw I q (by simp)
  |_=>exact Xp (show false=true from hs) Q6
 |int i=>
  let{t,rfl}:=G;cases y with
  |non=>cases z;exact PySem.EqNone.eq_int_none<|bw I q (by simp)
  |int j=>let{t',rfl}:=z;exact eq_int<|bw I q zQ
  |str j=>let{t',rfl}:=z;exact PySem.EqMixed.eq_int_str<|bw I q (by simp)
  |_=>exact Xp (show false=true from hs) Q6
 |str i=>
  let{t,rfl}:=G;cases y with
  |non=>cases z;exact PySem.EqNone.eq_str_none<|bw I q (by simp)
  |bl j=>cases z;exact PySem.EqMixed.eq_str_bool<|bw I q (by simp)
  |int j=>let{t',rfl}:=z;exact PySem.EqMixed.eq_str_int<|bw I q (by simp)
  |str j=>let{t',rfl}:=z;exact eq_str<|bw I q zP
  |_=>exact Xp (show false=true from hs) Q6
 |byt i=>
  let{t,rfl}:=G;cases y with
  |byt j=>let{t',rfl}:=z;exact PySem.W.eq_bytes<|bw I q zR
  |_=>exact Xp (show false=true from hs) Q6
 |_=>cases y<;>exact Xp (show false=true from hs) Q6
def CP:Kl X (compareOp .NotEq) rNe:=by
 intro J s W H x y v u Q I G z h;let{hs,q}:=h;cases x with
 |non=>
  cases G;cases y with
  |non=>cases z;exact PySem.EqNone.ne_none_none<|bw I q (by simp)
  |bl j=>cases z;exact PySem.EqNone.ne_none_bool<|bw I q (by simp)
  |int j=>let{t',rfl}:=z;exact PySem.EqNone.ne_none_int<|bw I q (by simp)
  |str j=>let{t',rfl}:=z;exact PySem.EqNone.ne_none_str<|bw I q (by simp)
  |_=>exact Xp (show false=true from hs) Q6
 |bl i=>
  cases G;cases y with
  |non=>cases z;exact PySem.EqNone.ne_bool_none<|bw I q (by simp)
  |bl j=>cases z;exact ne_bool<|bw I q (XB not DK)
  |str j=>let{t',rfl}:=z;exact PySem.EqMixed.ne_bool_str<|bw I q (by simp)
  |_=>exact Xp (show false=true from hs) Q6
 |int i=>
  let{t,rfl}:=G;cases y with
  |non=>cases z;exact PySem.EqNone.ne_int_none<|bw I q (by simp)
  |int j=>let{t',rfl}:=z;exact ne_int<|bw I q (XB not zQ)
  |str j=>let{t',rfl}:=z;exact PySem.EqMixed.ne_int_str<|bw I q (by simp)
  |_=>exact Xp (show false=true from hs) Q6
 |str i=>
  let{t,rfl}:=G;cases y with
  |non=>cases z;exact PySem.EqNone.ne_str_none<|bw I q (by simp)
  |bl j=>cases z;exact PySem.EqMixed.ne_str_bool<|bw I q (by simp)
  |int j=>let{t',rfl}:=z;exact PySem.EqMixed.ne_str_int<|bw I q (by simp)
  |str j=>let{t',rfl}:=z;exact ne_str<|bw I q (XB not zP)
  |_=>exact Xp (show false=true from hs) Q6
 |byt i=>
  let{t,rfl}:=G;cases y with
  |byt j=>let{t',rfl}:=z;exact PySem.W.ne_bytes<|bw I q (XB not zR)
  |_=>exact Xp (show false=true from hs) Q6
 |_=>cases y<;>exact Xp (show false=true from hs) Q6
def jI:Kl X (compareOp .Lt) (Lg λi j=> .bl<|decide (i<j)):=Fb λ_ _ _ _ _ _ _ q=>lt_int q
def ww:Kl X (compareOp .LtE) (Lg λi j=> .bl<|decide (i<=j)):=Fb λ_ _ _ _ _ _ _ q=>le_int q
def uh:Kl X (compareOp .Gt) (Lg λi j=> .bl<|decide (j<i)):=Fb λ_ _ _ _ _ _ _ q=>gt_int q
def CQ:Kl X (compareOp .GtE) (Lg λi j=> .bl<|decide (j<=i)):=Fb λ_ _ _ _ _ _ _ q=>ge_int q
def AI:Kl X (compareOp .In) (λx y H Q=>∃i j,x= .str i/\y= .str j/\Q (.bl<|!(Builtin.Str.occurrences j i 0 j.length 1).isEmpty) H):=by
 intro J s W H x y v u Q I z G h;let{i,j,rfl,rfl,q}:=h;let{t,rfl}:=z;let{t',rfl}:=G;exact in_str<|bw I q M
def j5:Kl X (compareOp .Is) (λx y H Q=>y= .non/\Q (.bl<|decide (x= .non)) H):=by
 intro J s W H x y v u Q I z G h;let{rfl,q}:=h;cases G;refine is_none_gen<|bw I q ?_;cases x<;>first
  |(cases z;rfl)
  |(let{t,rfl}:=z;rfl)
def qr:Kl X (compareOp .IsNot) (λx y H Q=>y= .non/\Q (.bl<|!decide (x= .non)) H):=by
 intro J s W H x y v u Q I z G h;let{rfl,q}:=h;cases G;refine isnot_none_gen<|bw I q ?_;cases x<;>first
  |(cases z;rfl)
  |(let{t,rfl}:=z;rfl)
def aC(b:Expr)(h:op≠ .In:=by decide)(h2:op≠ .NotIn:=by decide):behindInMarks op b=false:=by
 have z:(op==CmpOp.In)=false:=by cases op<;>first|rfl|exact Xp M h
 have e2:(op==CmpOp.NotIn)=false:=by cases op<;>first|rfl|exact Xp M h2
 cases b with
 |Set x k y=>
  show(k==0&&(op== .In||op== .NotIn)&&_)=false;rw[z,e2,Bool.or_false,Zq,ZT]
 |_=>rfl
def fA(ho:Kl X (compareOp op) r)(ha:PE X a ta)(hb:PE X b tb)(z:behindInMarks op b=false):PE X (.Compare a [op] [b] pos) (tOp r ta tb):=by
 intro J s W H Q I h;exact wpAny_Compare1 (HL ha hb I h λv u s2 x y H2 G O S q=>ho J s2 W H2 x y v u Q G O S q) z
inductive GI(Q:MC)(x:V)(H':Hp):Prop
 |mk(k:_)(_:x= .bl k)(_:Q k H')
def Gh(t:TE):TT:=λW H Q=>t W H λx H'=>GI Q x H'
def az(ho:Kl X (compareOp op) r)(ha:PE X a ta)(hb:PE X b tb)(G:behindInMarks op b=false):PT X (.Compare a [op] [b] pos) (Gh<|tOp r ta tb):=by
 intro J s W H Q I h;refine wpAny_isTrue_Compare1 (JD (ha J s W H _ I h) λv s1 zz=>?_) G;let{x,H1,O,r1,S}:=zz;refine JD (hb J s1 W H1 _ O S) λu s2 zz=>?_;let{y,H2,U,Y,q2}:=zz;refine JD (ho J s2 W H2 x y v u _ U r1 Y q2) λc s3 zz=>?_;let{z,H3,Z,r3,k,e,q3}:=zz
 subst e;cases r3;exact XH ⟨H3,Z,q3⟩
def GO(r r':R2)(ta tb tc:TE):TE:=λW H Q=>ta W H λx H1=>tb W H1 λy H2=>r x y H2 λz H3=>∃k,z= .bl k/\
 (if k=true then tc W H3 λw' H4=>r' y w' H4 Q else Q (.bl false) H3)
def Cy{G:CmpOp}{r':R2}(ho:Kl X (compareOp op) r)(O:Kl X (compareOp G) r')(ha:PE X a ta)(hb:PE X b tb)(hc:PE X c tc)
  (hm:lastMarks [op,G] [b,c]=false:=by with_unfolding_all rfl):PT X (.Compare a [op,G] [b,c] pos) (Gh<|GO r r' ta tb tc):=by
 intro J s W H Q I h;refine isTrue_chain (JD (ha J s W H _ I h) λv s1 zz=>?_) hm;let{x,H1,I1,r1,q1}:=zz;refine test_link (JD (hb J s1 W H1 _ I1 q1) λu s2 zz=>?_);let{y,H2,I2,U,q2}:=zz;refine JD (ho J s2 W H2 x y v u _ I2 r1 U q2) λd s3 zz=>?_;let{z,H3,Y,r3,k,e,Z}:=zz
 subst e;cases r3;refine XH ?_;cases k with
 |false=>
  let{k',e',q'}:=Z;cases e';exact ite_ff ⟨H3,Y,q'⟩
 |true=>
  refine ite_tt<|test_last (JD (hc J s3 W H3 _ Y Z) λw' s4 zz=>?_);let{z',H4,I4,r4,q4}:=zz;refine JD (O J s4 W H4 y z' u w' _ I4 U r4 q4) λd' s5 S=>?_;let{z2,H5,I5,r5,k2,e2,q5}:=S;subst e2;cases r5;exact XH ⟨H5,I5,q5⟩
def pf:(sizeLine:Nat)<2^63:=by rw[sizeLine_eq];decide
def c7:Kl X (binaryOp .Add) (λx y H Q=>∃i j,x= .str i/\y= .str j/\i.length+j.length<=sizeLine/\Q (.str<|i++j) H):=by
 intro J s W H x y v u Q I z G h;let{i,j,rfl,rfl,hz,q}:=h;let{t,rfl}:=z;let{t',rfl}:=G;exact add_str (λt' tk=>{.str<|i++j,H,I.tok _,{_,M},q}) hz
def mN{x:V}(r:J8 [x] us):∃u,us=[u]/\RelV x u:=by
 cases r with
 |cons r1 z=>cases z;exact{_,M,r1}
def qC{x:V}(r:J8 [x,y] us):∃u w',us=[u,w']/\RelV x u/\RelV y w':=by
 cases r with
 |cons r1 z=>
  cases z with
  |cons G I=>cases I;exact{_,_,M,r1,G}
def Bp(hc:X.calm=true):fu X (.builtin "max") (λxs H Q=>∃i j,xs=[.int i,.int j]/\Q (.int<|if j>i then j else i) H):=by
 intro J s W H xs us Q I r h;let{i,j,rfl,q}:=h;let{u,w',rfl,{t,rfl},{t',rfl}}:=qC r;refine max_two_ints (I.ok.hd hc) λh' tk k=>{_,H,I.kept k,?_,q};by_cases z:j>i
 .rw[Xm z,Xm z];exact{_,M}
 .rw[Xl z,Xl z];exact{_,M}
def Bo(hc:X.calm=true):fu X (.builtin "min") (λxs H Q=>∃i j,xs=[.int i,.int j]/\Q (.int<|if j<i then j else i) H):=by
 intro J s W H xs us Q I r h;let{i,j,rfl,q}:=h;let{u,w',rfl,{t,rfl},{t',rfl}}:=qC r;refine min_two_ints (I.ok.hd hc) λh' tk k=>{_,H,I.kept k,?_,q};by_cases z:j<i
 .rw[Xm z,Xm z];exact{_,M}
 .rw[Xl z,Xl z];exact{_,M}
def dY:fu X (.type ub) (λxs H Q=>∃i,xs=[.int i]/\i.natAbs.log2<1920/\Q (.str<|toString i) H):=by
 intro J s W H xs us Q I r h;let{i,rfl,hz,q}:=h;let{u,rfl,t,rfl}:=mN r;exact PySem.P.str_of_int hz {.str _,H,I.tok _,{_,M},q}
end
structure LK(h:Heap)(x dx C:G')(mA:Mm):Prop where
 obj:h.get? x=some (PySem.W.instObj C dx)
 ns:h.Ns1 dx mA
 ne:dx≠x
set_option tactic.hygienic true in
def uq{h:Heap}{mA:Mm}(n:h.Ns1 dx mA):∃od,h.get? dx=some od/\∀name,PySem.W.lookIn name od=some (mA name):=by
 let{o,es,ep,ho,hd,hk,_,I}:=n;refine{o,ho,λname=>?_};have e:=I name;unfold nsFind findBy at e;rw[<-Array.find?_toList]at e;unfold PySem.W.lookIn;rw[hd];dsimp only;split
 .rename_i y q
  rw[q]at e;exact XB some e
 .rename_i q
  rw[q]at e;have a:es.toList.any (·.refKey)=false:=by
   rw[List.any_eq_false];intro y hy;let{z,t,G}:=hk y (Array.mem_toList_iff.mp hy);simp[DictEntry.refKey,G]
  have O:¬es.toList.any (·.refKey)=true:=by rw[a];exact Q6
  rw[Xl O];exact XB some e
def LK.look{h:Heap}{x:G'}{mA:Mm}(I:LK h x dx C mA):∃od,PySem.W.InstAt h x (PySem.W.instObj C dx) C (some od)/\∀name,PySem.W.lookIn name od=some (mA name):=
 let⟨od,ho,hl⟩:=uq I.ns
 {od,⟨I.obj,M,M,ho⟩,hl}
section
variable{x f:G'}{mA:Mm}{v:K'}
def FC{expr:Bool}(X:K.In s.heap)(I:LK s.heap x dx C mA)(G:PySem.W.plainGet K C name=true)(O:PySem.W.hasDictIn K C=true)
  (ha:PySem.W.findIn K (.ref C) name=some none) (S:mA name=some v) (z:PySem.W.handedIn v=true) (h:Q v {s with toks:=s.toks+1}):
  wpAny (model prog w) A (getAttr (.ref x) name expr) Q E s:=by
 let{od,J0,hl}:=I.look;exact PySem.W.get_value X J0 (ZX G).1 (PySem.W.findObj_own O ha M<|by rw[hl,S]) z h
def DA{pl:Sem Bool}{Q:Value×List Value->Shared->Prop}(X:K.In s.heap)(I:LK s.heap x dx C mA)(z:PySem.W.plainGet K C name=true)
  (hf:PySem.W.findIn K (.ref C) name=some (some<|.ref f)) (G:PySem.W.isFn K (.ref f)=true) (O:mA name=none) (h:Q (.ref f,[.ref x]) s):
  wpAny (model prog w) A (getMethod (.ref x) name pl) Q E s:=by
 let{od,J0,hl}:=I.look;exact PySem.W.method_fn X J0 (ZX z).1 (ZX z).2 hf (XF.mp G) (by show(PySem.W.lookIn name od).map (·.isSome)=some false;rw[hl,O];rfl) h
def EL{ns:Mf}{Q:Mx}(X:K.In s.heap)(I:LK s.heap x dx C mA)
  (hs:PySem.W.findIn K (.ref C) "__setattr__"=some (some<|.builtin "object.__setattr__")) (hp:PySem.W.plainOver K C=true) (Z:PySem.W.takerIn K C name=some none) (hh:PySem.W.hasDictIn K C=true)
  (hw:PySem.Within mA ns) (hsz:ns.length<=sizeLine)
  (h:∀h',LK h' x dx C (λy=>if y=name then some v else mA y)->Heap.SameBut dx s.heap h'->Q Unit.unit {s with heap:=h',toks:=s.toks+2}):
  wpAny (model prog w) A (setAttr (.ref x) name v) Q E s:=by
 let{od,J0,hl}:=I.look;refine PySem.W.set_plain X J0 hs<|PySem.W.osa_open (s:={s with toks:=s.toks+1}) (r:=none) X J0 hp Z λb=>?_;let{cd,hc,O}:=PySem.W.any_some hh;have hx:s.heap.get? x=some {.ref C,some dx,.plain, #[]}:=I.obj;refine Xj<|Xr (Xj<|Xj<|wpAny_loadPart hx<|Xj<|PySem.W.Looks.here (s:={s with toks:=s.toks+1}) (PySem.W.looks_clsIn X hc) ?_);rw[O];refine Xr (a:=some dx)<|Xj (Xr<|Xj ?_);refine wpAny_nsSet1 (s:={s with toks:=s.toks+1}) I.ns λh' z G=>?_;let{oD,a0,a1,S,U,Y}:=z.count (PySem.Within.cons name v hw);refine Xj<|wpAny_lookBehind S (by rw[U];exact pastItsLine_dict<|Qr Y<|by rw[Q9];lia) ?_;exact Xr<|h _ {(G.2 _<|Ne.symm I.ne).trans I.obj,z,I.ne} G
def Dh{vs:Lz}(X:K.In s.heap)(z:PySem.W.makesIn K C=true)
  (hi:PySem.W.findIn K (.ref C) cC=some (some<|.ref f)) (hf:PySem.W.typeIn K (.ref f)=some (.type "function"))
  (h:codeAny (model prog w) (A.under<|.builtin lg {.ref C::vs,kw}) (.call (.ref f) {.ref (s.heap.objs.size+1)::vs,kw}) (PySem.W.InitBack (s.heap.objs.size+1) R)
   {s with heap:=(s.heap.push PySem.W.emptyDict).push (PySem.W.instObj C s.heap.objs.size)}):
  codeAny (model prog w) A (.call (.ref C) ⟨vs,kw⟩) R s:=by
 let{G,g,d,t,os}:=s;exact PySem.W.make_core (PySem.W.makes_of X z) (PySem.W.looks_findIn X hi) (λself=>PySem.W.bind_fn X self hf) (.inl M) h
end
def bT(f:Str)(v:V):List (Str×V)->List (Str×V)
 | []=> [(f,v)]
 |(g,x)::r=>if g=f then(g,v)::r else(g,x)::bT f v r
theorem bx(f g:Str)(v:V):∀fs:List (Str×V),(bT f v fs).lookup g=if g=f then some v else fs.lookup g
 | []=>by
  show List.lookup g [(f,v)]=_;by_cases h:g=f
  .have hb:(g==f)=true:=XF.mpr h;simp only[List.lookup,hb,Xm h]
  .have hb:(g==f)=false:=Xy.mpr h;simp only[List.lookup,hb,Xl h]
 |(k,x)::r=>by
  have z:=bx f g v r;rw[show bT f v ((k,x)::r)=(if k=f then(k,v)::r else(k,x)::bT f v r) from rfl];by_cases hk:k=f
  .rw[Xm hk];by_cases h:g=k
   .have hb:(g==k)=true:=XF.mpr h;simp only[List.lookup,hb,Xm (h.trans hk)]
   .have hb:(g==k)=false:=Xy.mpr h;simp only[List.lookup,hb,Xl (λe:g=f=>h<|e.trans hk.symm)]
  .rw[Xl hk];by_cases h:g=k
   .have hb:(g==k)=true:=XF.mpr h;simp only[List.lookup,hb,Xl (λe:g=f=>hk<|h.symm.trans e)]
   .have hb:(g==k)=false:=Xy.mpr h;simp only[List.lookup,hb];exact z
theorem pq(f:Str)(v:V):∀fs:List (Str×V),f∈(bT f v fs).map (·.1)/\∀g,g∈fs.map (·.1)->g∈(bT f v fs).map (·.1)
 | []=>{by simp[bT],λg h=>by simp at h}
 |(k,x)::r=>by
  let{z,G}:=pq f v r;rw[show bT f v ((k,x)::r)=(if k=f then(k,v)::r else(k,x)::bT f v r) from rfl];by_cases hk:k=f
  .rw[Xm hk];subst hk;exact{by simp,λg h=>by simpa using h}
  .rw[Xl hk];refine{?_,λg h=>?_}
   .rw[Qm];exact Q7 _ z
   .rw[Qm]at h⊢;rcases Qc.mp h with e|e
    .exact Qc.mpr<|.inl e
    .exact Q7 _<|G g e
theorem pG(f:Str)(v:V):∀fs:List (Str×V),(bT f v fs).length<=fs.length+1
 | []=>by simp[bT]
 |(k,x)::r=>by
  have z:=pG f v r;rw[show bT f v ((k,x)::r)=(if k=f then(k,v)::r else(k,x)::bT f v r) from rfl];by_cases hk:k=f
  .rw[Xm hk,Q9,Q9];lia
  .rw[Xl hk,Q9,Q9];lia
def K2.some_of(r:K2 (some v) o):∃u,o=some u/\RelV v u:=by
 cases o with
 |none=>exact(show False from r).elim
 |some u=>exact⟨u,M,r⟩
def K2.none_of(r:K2 none o):o=none:=by
 cases o with
 |none=>rfl
 |some u=>exact(show False from r).elim
def uv(r:RelV v u):PySem.W.handedIn u=true:=by
 cases v with
 |non=>cases (show u=Value.none from r);rfl
 |bl b=>cases (show u=Value.bool b from r);rfl
 |int i=>let{t,e}:=(show ∃t,u=Value.int i t from r);cases e;rfl
 |str x=>let{t,e}:=(show ∃t,u=Value.str x t from r);cases e;rfl
 |byt b=>let{t,e}:=(show ∃t,u=Value.bytes b t from r);cases e;rfl
 |flt b=>let{t,e}:=(show ∃t,u=Value.float b t from r);cases e;rfl
 |ref a=>cases (show u=Value.ref a from r);rfl
 |ty n=>cases (show u=Value.type n from r);rfl
section
variable{h:Heap}{fs fs':Mo}
def Jt(hok:JZ P w H h)(e:H a=some (.ins C dx fs)):∃mA,LK h a dx C mA/\(∀f,K2 (fs.lookup f) (mA f))/\PySem.Within mA (fs.map (·.1))/\fs.length<=1000/\H dx=some (.own a):=by
 let{d,z,ne,ob,mA,n,r,q}:=(show JE P w H h a (.ins C dx fs) from hok a _ e);exact{mA,⟨ob,n,ne⟩,r,q,z,d}
end
structure L3(K:J4)(C:G'):Prop where
 pg:PySem.W.plainGet K C Str.empty=true
 hd:PySem.W.hasDictIn K C=true
 po:PySem.W.plainOver K C=true
 sa:PySem.W.findIn K (.ref C) "__setattr__"=some (some<|.builtin "object.__setattr__")
def L3.get(c:L3 K C)(f:Str):PySem.W.plainGet K C f=true:=c.pg
def J6(K:J4)(C:G')(f:Str):Prop:=PySem.W.findIn K (.ref C) f=some none
def J6.taker(n:J6 K C f):PySem.W.takerIn K C f=some none:=by
 unfold PySem.W.takerIn;rw[show PySem.W.findIn K (.ref C) f=some none from n];rfl
structure dq(K:J4)(C:G')(m:Str)(f:G'):Prop where
 at_:PySem.W.findIn K (.ref C) m=some (some<|.ref f)
 fn:PySem.W.isFn K (.ref f)=true
 kp:PySem.W.keepIn K (.ref f)=true
section
variable{fs:Mo}
def sD{b:Bool}(I:Inv X J W H s)(e:H a=some (.ins C dx fs))(c:L3 X.K C)(n:J6 X.K C f)(l:fs.lookup f=some v)
  (h:∀u s',Inv X J W H s'->RelV v u->Q u s'):wpAny (model X.prog X.w) A (getAttr (.ref a) f b) Q E s:=by
 let{mA,O,r,_,_,_}:=Jt I.hok e;let{u,hu,z}:=K2.some_of (v:=v) (o:=mA f) (by rw[<-l];exact r f);exact FC I.kIn O (c.get f) c.hd n hu (uv z)<|h u _ (I.tok _) z
def sC{g:G'}{pl:Sem Bool}{Q:Value×List Value->Shared->Prop}(I:Inv X J W H s)(e:H a=some (.ins C dx fs))(c:L3 X.K C)(k:dq X.K C m g)(l:fs.lookup m=none)
  (h:Q (.ref g,[.ref a]) s):wpAny (model X.prog X.w) A (getMethod (.ref a) m pl) Q E s:=by
 let{mA,O,r,_,_,_}:=Jt I.hok e;have z:mA m=none:=K2.none_of (by rw[<-l];exact r m);exact DA I.kIn O (c.get m) k.at_ k.fn z h
def qY{Q:Mx}(I:Inv X J W H s)(e:H a=some (.ins C dx fs))(c:L3 X.K C)(n:J6 X.K C f)(hl:fs.length<1000)(S:RelV y u)
  (h:∀s',Inv X J W (upd H a<|.ins C dx<|bT f y fs) s'->Q Unit.unit s'):wpAny (model X.prog X.w) A (setAttr (.ref a) f u) Q E s:=by
 let{mA,O,r,wi,_,ho}:=Jt I.hok e;have hz:(fs.map (·.1)).length<=sizeLine:=by rw[Q2,sizeLine_eq];lia
 refine EL I.kIn O c.sa c.po n.taker c.hd wi hz λh' G U=>h _ ?_;have hd:∃o,h'.get? dx=some o:=by let{o,_,_,Y,_}:=G.ns;exact⟨o,Y⟩
 refine I.write (x:=a) (e:=dx) (by rw[e];exact Xx) (.inr ho) (λb q hb z=>(U.2 b hb).trans z) hd ?_;refine{by rwa[ae O.ne],?_,O.ne,G.obj,_,G.ns,λg=>?_,λg Z=>?_}
 .have:=pG f y fs;lia
 .show K2 ((bT f y fs).lookup g) (if g=f then some u else mA g);rw[bx];by_cases q:g=f
  .rw[Xm q,Xm q];exact S
  .rw[Xl q,Xl q];exact r g
 .by_cases q:g=f
  .rw[q];exact(pq f y fs).1
  .refine(pq f y fs).2 g<|wi g λz=>Z ?_;show(if g=f then some u else mA g)=none;rwa[Xl q]
def Inv.made(I:Inv X J W H s):Inv X J W (upd (upd H s.heap.objs.size<|.own<|s.heap.objs.size+1) (s.heap.objs.size+1)<|.ins C s.heap.objs.size [])
  {s with heap:=(s.heap.push PySem.W.emptyDict).push (PySem.W.instObj C s.heap.objs.size)}:=by
 have z:(s.heap.push PySem.W.emptyDict).get? s.heap.objs.size=some PySem.W.emptyDict:=Xu s.heap M;have e2:((s.heap.push PySem.W.emptyDict).push<|PySem.W.instObj C s.heap.objs.size).get? (s.heap.objs.size+1)=some (PySem.W.instObj C s.heap.objs.size):=by
  have:=Xu (s.heap.push PySem.W.emptyDict) (o:=PySem.W.instObj C s.heap.objs.size) M;rwa [Heap.size_push]at this
 have G:(s.heap.push PySem.W.emptyDict).Ns s.heap.objs.size (λ_=>none):={PySem.W.emptyDict, #[],_,z,M,(λe he=>Xp he<|by simp),λ_=>M};have O:=I.laid (a:=s.heap.objs.size) (o:= .own<|s.heap.objs.size+1) (h':=s.heap.push PySem.W.emptyDict) (t':=s.toks) (λb u q=>Xk _ q) (Q4 _) {_,z};refine O.laid (a:=s.heap.objs.size+1) (o:= .ins C s.heap.objs.size []) (t':=s.toks) (λb u q=>Xk _ q) (Zr<|Heap.size_push _ _) ?_;have ne:s.heap.objs.size≠s.heap.objs.size+1:=Qn (X9 _);refine{by rw[ae ne,I0],Ql _,ne,e2,λ_=>none,(Heap.Ns1.of_empty G).at λo q=>Xk _ q,λ_=>Xx,λy hy=>Xp M hy}
def zZ{env:Env}(hb:attributeBase e f env (eval e env)=eval e env)
  (h:wpAny (model prog w) A (eval e env) (λo s₁=>wpAny (model prog w) A (getAttr o f true) Q E s₁) E s):wpAny (model prog w) A (eval (.Attribute e f pos) env) Q E s:=
 Attribute_any_ h (by rw[arm_eval_Attribute,hb])
end
inductive Ip(K:J4)(f:Str)(Q:VK)(x:V)(H1:Hp):Prop
 |mk(a C dx fs v:_)(_:x= .ref a)(_:H1 a=some (.ins C dx fs))(_:L3 K C)(_:J6 K C f)(_:fs.lookup f=some v)(_:Q v H1)
def tFld(K:J4)(ta:TE)(f:Str):TE:=λW H Q=>ta W H λx H1=>Ip K f Q x H1
inductive IB(K:J4)(f:Str)(D:KN)(W:St)(y x:V)(H2:Hp):Prop
 |mk(a C dx fs:_)(_:x= .ref a)(_:H2 a=some (.ins C dx fs))(_:L3 K C)(_:J6 K C f)(_:fs.length<1000)(_:D.nx W (upd H2 a<|.ins C dx<|bT f y fs))
def sFld(K:J4)(ta tv:TE)(f:Str):TS:=λD W H=>tv W H λy H1=>ta W H1 λx H2=>IB K f D W y x H2
def F6(X:Cx)(op:Operator)(rd:V->V->Hp->VK->Prop):Prop:=
 ∀(J:Ma)(s:J')(W:St)(H:Hp)(x y:V)(u v:K')(Q:VK),Inv X J W H s->RelV x u->RelV y v->rd x y H Q->J5 X (inplaceOp op u v) (EP X J W Q) X.xe s
inductive Cr(K:J4)(tv:TE)(rd:V->V->Hp->VK->Prop)(f:Str)(D:KN)(W:St)(x:V)(H1:Hp):Prop
 |mk(a C dx fs v:_)(_:x= .ref a)(_:H1 a=some (.ins C dx fs))(_:L3 K C)(_:J6 K C f)(_:fs.lookup f=some v)(_:tv W H1 λy H2=>rd v y H2 λz H3=>∃dx' fs',H3 a=some (.ins C dx' fs')/\fs'.length<1000/\D.nx W (upd H3 a<|.ins C dx'<|bT f z fs'))
def EN(K:J4)(ta tv:TE)(rd:V->V->Hp->VK->Prop)(f:Str):TS:=λD W H=>ta W H λx H1=>Cr K tv rd f D W x H1
section
variable{o value:Expr}{pos' tpos:Pos}{tv:TE}
def aE(he:PE X e ta)(hb:attributeBase e f X.env (eval e X.env)=eval e X.env):PE X (.Attribute e f pos) (tFld X.K ta f):=by
 intro J s W H Q I h;refine zZ hb<|JD (he J s W H _ I h) λu s1 z=>?_;let{x,H1,G,O,a,C,dx,fs,v,ex,ea,c,n,l,q}:=z;subst ex;obtain rfl:u=Value.ref a:=O;exact sD G ea c n l λY s2 S U=>⟨v,H1,S,U,q⟩
def bK(ha:PE X o ta)(G:PE X value tv)(hs:swapsWith value (some<|.Attribute o f pos') pos.line X.env=pure false):PS X (.Assign [.Attribute o f pos'] value pos) (sFld X.K ta tv f):=by
 intro J s W H D I h;refine plainObj_wpAny_Assign_Attribute (JD (G J s W H _ I h) λu s1 zz=>?_) hs;let{y,H1,O,S,q}:=zz;refine JD (ha J s1 W H1 _ O q) λU s2 z=>?_;let{x,H2,Y,Z,a,C,dx,fs,ex,ea,c,n,l,q2}:=z;subst ex;obtain rfl:U=Value.ref a:=Z;exact qY Y ea c n l S λs3 I3=>{W,_,I3,q2}
def oW{op:Operator}(ha:PE X o ta)(S:PE X value tv)(O:F6 X op rd):PS X (.AugAssign (.Attribute o f tpos) op value pos) (EN X.K ta tv rd f):=by
 intro J s W H D I h;refine wpAny_AugAssign_AttributeAny<|JD (ha J s W H _ I h) λU s1 G=>?_;let{x,H1,Y,Z,a,C,dx,fs,v,ex,ea,c,n,l,q}:=G;subst ex;obtain rfl:U=Value.ref a:=Z;refine sD Y ea c n l λu s2 I2 ru=>JD (S J s2 W H1 _ I2 q) λw3 s3 zz=>?_;let{y,H2,I3,ry,q3}:=zz;refine JD (O J s3 W H2 v y u w3 _ I3 ru ry q3) λw4 s4 G=>?_;let{z,H3,I4,rz,a0,fs',ea',l',q4}:=G;exact qY I4 ea' c n l' rz λs5 I5=>{W,_,I5,q4}
inductive rAdd(x y:V)(H:Hp)(Q:VK):Prop
 |mk(i j:_)(_:x= .int i)(_:y= .int j)(_:Q (.int<|i+j) H)
inductive rSub(x y:V)(H:Hp)(Q:VK):Prop
 |mk(i j:_)(_:x= .int i)(_:y= .int j)(_:Q (.int<|i-j) H)
def yJ:F6 X .Add rAdd:=by
 rintro J s W H x y u v Q I z G ⟨i,j,rfl,rfl,q⟩;let{t,rfl}:=(show ∃t,u=Value.int i t from z);let{t',rfl}:=(show ∃t',v=Value.int j t' from G);exact PyProof.Rows.iadd_int {.int<|i+j,H,I.tok _,{_,M},q}
def Hu:F6 X .Sub rSub:=by
 rintro J s W H x y u v Q I z G ⟨i,j,rfl,rfl,q⟩;let{t,rfl}:=(show ∃t,u=Value.int i t from z);let{t',rfl}:=(show ∃t',v=Value.int j t' from G);exact PyProof.Rows.isub_int {.int<|i-j,H,I.tok _,{_,M},q}
end
section
variable{c:K'}{b:Bool}
inductive JP(K:J4)(H:Hp):V->Value->Prop where
 |non:JP K H .non (.type "NoneType")
 |bl(x:Bool):JP K H (.bl x) (.type "bool")
 |int(i:Int):JP K H (.int i) (.type "int")
 |str(x:Str):JP K H (.str x) (.type ub)
 |flt(x:UInt64):JP K H (.flt x) (.type "float")
 |lst{a:G'}{xs:L'}(e:H a=some (.lst xs)):JP K H (.ref a) (.type gt)
 |frz{a:G'}{o:Obj}{xs:L'}(e:H a=some (.frz o<|.lst xs)):JP K H (.ref a) (.type gt)
 |tup{a:G'}{xs:L'}(e:H a=some (.tup xs)):JP K H (.ref a) (.type jb)
 |dK{a:G'}{kvs:Mr}(e:H a=some (.dK kvs)):JP K H (.ref a) (.type "dict")
 |dT{a:G'}{kvs:Mz}(e:H a=some (.dT kvs)):JP K H (.ref a) (.type "dict")
 |ins{a C dx:G'}{fs:Mo}(e:H a=some (.ins C dx fs))(cl:L3 K C)(ha:PySem.W.findIn K (.ref C) "__class__"=some (some<|.builtin hL))
   (hn:PySem.W.specialIn K (.builtin hL) "__get__"=some (some<|.builtin j0)) (htk:PySem.W.takesIn K (.builtin hL)=some true)
   (hm:PySem.W.mroIn K C (.type "object")=some true):JP K H (.ref a) (.ref C)
def ut{x:V}{t:K'}(I:Inv X J W H s)(G:RelV x u)(ty:JP X.K H x t)(e:PySem.W.kitOne X.K t c=some b)(h:∀tk,Q (.bool b) {s with toks:=tk}):
  wpAny (model X.prog X.w) A (call (.builtin oh) [u,c]) Q E s:=by
 cases ty with
 |non=>cases (show u=Value.none from G);exact QE PySem.W.kitx_none I.kIn Xx e (λz=>nomatch z) h
 |bl y=>cases (show u=Value.bool y from G);exact QE PySem.W.kitx_bool I.kIn Xx e (λz=>nomatch z) h
 |int i=>let{t,q}:=(show ∃t,u=Value.int i t from G);cases q;exact QE PySem.W.kitx_int I.kIn Xx e (λz=>nomatch z) h
 |str y=>let{t,q}:=(show ∃t,u=Value.str y t from G);cases q;exact QE PySem.W.kitx_str I.kIn Xx e (λz=>nomatch z) h
 |flt y=>let{t,q}:=(show ∃t,u=Value.float y t from G);cases q;exact QE PySem.W.kitx_float I.kIn Xx e (λz=>nomatch z) h
 | @lst a xs ea=>
  cases (show u=Value.ref a from G);let{_,_,n,_,h1}:=(show JE X.prog X.w H s.heap a (.lst xs) from I.hok a _ ea);exact QE PySem.W.kitx_list I.kIn {_,h1,M} e (λz=>nomatch z) h
 | @frz a ob xs ea=>
  cases (show u=Value.ref a from G);let{_,_,_,n,_,h1}:=(show JE X.prog X.w H s.heap a (.frz ob<|.lst xs) from I.hok a _ ea);exact QE PySem.W.kitx_list I.kIn {_,h1,M} e (λz=>nomatch z) h
 | @tup a xs ea=>
  cases (show u=Value.ref a from G);let{_,_,_,p}:=(show JE X.prog X.w H s.heap a (.tup xs) from I.hok a _ ea);let{o,h1,h2,_}:=p;exact QE PySem.W.kitx_tuple I.kIn ⟨o,h1,h2⟩ e (λz=>nomatch z) h
 | @dK a kvs ea=>
  cases (show u=Value.ref a from G);let{_,_,vs,_,p}:=(show JE X.prog X.w H s.heap a (.dK kvs) from I.hok a _ ea);let{o,es,ep,h1,h2,_}:=p;exact QE PySem.W.kitx_dict I.kIn ⟨o,h1,h2.1⟩ e (λz=>nomatch z) h
 | @dT a kvs ea=>
  cases (show u=Value.ref a from G);let{_,_,xs,_,o,es,ep,h1,h2,_}:=(show JE X.prog X.w H s.heap a (.dT kvs) from I.hok a _ ea);exact QE PySem.W.kitx_dict I.kIn ⟨o,h1,h2.1⟩ e (λz=>nomatch z) h
 | @ins a C dx fs ea cl ha U S Y=>
  cases (show u=Value.ref a from G);let{mA,O,_}:=Jt I.hok ea;let{od,J0,_}:=O.look;exact QE (PySem.W.kitx_own (cl.get _) cl.hd ha U S Y) I.kIn J0 e (λz=>nomatch z) h
end
structure JI(k:Nat)(A:Mj):Prop where
 hd:A.handled=none
 dp:A.depth+3*k+5<recursionLimit
 un:A.units+16*k+200<cLine
def JI.mono{j k:Nat}(r:JI k A)(h:j<=k):JI j A:={r.hd,by have:=r.dp;lia,by have:=r.un;lia}
def JI.deeper{k:Nat}(r:JI (k+1) A)(env:Env):JI k (A.deeper env):=
 {r.hd,by have:=r.dp;show A.depth+1+3*k+5<_;lia,by have:=r.un;show A.units+3+16*k+200<_;lia}
def yF:(A.under<|.builtin lg {.ref C::us,kw}).depth=A.depth+1:=by
 first|rfl|simp[Around.under,Code.weight,Code.isCreation,Code.isGuard,Code.isCaller,Code.frames,Code.isFrame,guardIds]
def yE:(A.under<|.builtin lg {.ref C::us,kw}).units=A.units+1:=by
 first|rfl|simp[Around.under,Code.cUnits,Code.frames,Code.isFrame]
def JI.make{k:Nat}(r:JI (k+1) A)(C:G')(us:Lz)(kw:MB):JI k (A.under<|.builtin lg {.ref C::us,kw}):=
 {r.hd,by have:=r.dp;rw[yF];lia,by have:=r.un;rw[yE];lia}
def JI.depth{k:Nat}(r:JI k A):A.depth<recursionLimit:=by have:=r.dp;lia
def JI.units{k:Nat}(r:JI k A):A.units+64<cLine:=by have:=r.un;lia
def vZ:TA:=λ_ H Q=>Q [] H
def qE(ta:TE)(tr:TA):TA:=λW H Q=>ta W H λx H1=>tr W H1 λxs H2=>Q (x::xs) H2
section
variable{t:TA}
def af:PA X [] vZ:=λ_ _ _ _ H Q I h=>Calls.spliced_nil {[],H,I,.nil,h}
def aa(ha:PE X e te)(G:PA X es t)(hs:starEach (e::es) X.env=(false,eval e X.env)::starEach es X.env:=by rfl):PA X (e::es) (qE te t):=by
 intro pos J s W H Q I h;rw[hs];show wpAny _ _ (spliced ((false,eval e X.env)::backTo pos (starEach es X.env))) _ _ s;refine Calls.spliced_cons<|JD (ha J s W H _ I h) λu s1 z=>?_;let{x,H1,O,r1,S}:=z;exact JD (G pos J s1 W H1 _ O S) λus s2 zz=>by let{xs,H2,U,Y,q2}:=zz;exact{x::xs,H2,U,.cons r1 Y,q2}
def tTup(t:TA):TE:=λW H Q=>t W H λxs H1=>xs.length<=sizeLine/\∀p,H1 p=none->Q (.ref p) (upd H1 p<|.tup xs)
def tLst(t:TA):TE:=λW H Q=>t W H λxs H1=>xs.length<=sizeLine/\∀p,H1 p=none->Q (.ref p) (upd H1 p<|.lst xs)
def yq{x1}(h:PA X es t):PE X (.Tuple es x1 pos) (tTup t):=by
 intro J s W H Q I hq;refine wpAny_Tuple_spliced<|JD (h pos J s W H _ I hq) λus s1 zz=>?_;let{xs,H1,G,r,z,q}:=zz;refine{by rwa[<-r.length],?_};have hf:H1 s1.heap.objs.size=none:=G.hok.fresh (Q4 _);refine{.ref s1.heap.objs.size,upd H1 s1.heap.objs.size<|.tup xs,G.laid (t':=s1.toks) (λb u e=>Xk _ e) (Q4 _) ?_,M,q _ hf};exact{z,us,r,{_,Xu _ M,M,_,M}}
def fe(h:PA X es t):PE X (.List es pos) (tLst t):=by
 intro J s W H Q I hq;refine wpAny_List_spliced<|JD (h pos J s W H _ I hq) λus s1 zz=>?_;let{xs,H1,G,r,z,q}:=zz;refine{by rwa[<-r.length],?_};have hf:H1 s1.heap.objs.size=none:=G.hok.fresh (Q4 _);refine{.ref s1.heap.objs.size,upd H1 s1.heap.objs.size<|.lst xs,G.laid (t':=s1.toks) (λb u e=>Xk _ e) (Q4 _) ?_,M,q _ hf};exact{z,us,0,r,Xu _ M}
end
abbrev Sp:=List V->Hp->VK->XK->Prop
abbrev CXT:=List Env->Hp->Shared->XK->Value->Shared->Prop
structure L8(P:Mc)(w:Md)(K:J4)(mg:Mm)(base:Heap)(A:Mj)(outer:Mp)(s:J')(H:Hp):Prop where
 frames:A.frames=some outer
 mod:Mod K mg base
 bs:∀b o,base.get? b=some o->s.heap.get? b=some o/\H b=none
 bsz:base.objs.size<=s.heap.objs.size
 funs:s.heap.FunFrames base outer
 frf:∀b∈Ko outer,H b=none
 hok:JZ P w H s.heap
 bare:AllBare s.gens
def CE(outer:Mp)(P:Mc)(w:Md)(H:Hp)(s:J')(Q:VK)(u:K')(s':J'):Prop:=
 ∃v H',s'.os=s.os/\AllBare s'.gens/\Un (Ko outer) [] H H' s.heap s'.heap/\JZ P w H' s'.heap/\RelV v u/\Q v H'
def CR(CX:CXT)(outer:Mp)(P:Mc)(w:Md)(H:Hp)(s:J')(Q:VK)(E:XK)(r:Result)(s':J'):Prop:=
 match r with
 | .ok (.ret u)=>CE outer P w H s Q u s'
 | .ok _=>False
 | .error e=>CX outer H s E e s'
structure J9(P:Mc)(w:Md)(K:J4)(mg:Mm)(base:Heap)(CX:CXT)(k:Nat)(f:G')(fd:Mq)(ps:Mf)(sp:Sp):Prop where
 len:∀vs H Q E,sp vs H Q E->vs.length=ps.length
 run:∀(A:Mj)(outer:Mp)(s:J')(H:Hp)(args:Args)(us:Lz)(vs:L')(Q:VK)(E:XK),JI k A->L8 P w K mg base A outer s H->BindsTo s fd args (ps.zip us)->J8 vs us->sp vs H Q E->
  codeAny (model P w) A (.call (.ref f) args) (CR CX outer P w H s Q E) s
def L8.make{mg:Mm}(e:L8 P w K mg base A outer s H)(C:G')(us:Lz)(kw:MB):
  L8 P w K mg base (A.under<|.builtin lg {.ref C::us,kw}) outer s H:={by first|exact e.frames|(simpa[Around.under,Code.envs,Code.isFrame,pushEnvs]using e.frames),e.mod,e.bs,e.bsz,e.funs,e.frf,e.hok,e.bare}
def Inv.env0(I:Inv X J W H s):L8 X.prog X.w X.K X.mg X.base X.A X.stack s H:=
 {I.ok.frames,I.ok.mod,I.bs,Qr I.ok.bsz I.sz,I.stack,I.stkFree,I.hok,I.bare}
def Inv.after{Q:VK}(I:Inv X J W H s)(h:CE X.stack X.prog X.w H s Q u s'):EP X J W Q u s':=by
 let{v,H',os,bare,un,hok,r,q}:=h;let{O,g,d,t,G}:=s';obtain rfl:G=s.os:=os;exact{v,H',I.call (h':=O) (g':=g) (d':=d) (t':=t) (ch:=[]) un hok bare<|λb z=>Xp z (by simp),r,q}
def Cd(sp:Sp)(dvs:L')(E:XK)(t:TA):TE:=λW H Q=>t W H λvs H1=>sp (vs++dvs) H1 Q E
inductive GK(C:G')(m:Str)(sp:Sp)(dvs:L')(E:XK)(t:TA)(W:St)(Q:VK)(x:V)(H1:Hp):Prop
 |mk(a dx fs:_)(_:x= .ref a)(_:H1 a=some (.ins C dx fs))(_:fs.lookup m=none)(_:t W H1 λvs H2=>sp (x::(vs++dvs)) H2 Q E)
def Gi(C:G')(m:Str)(sp:Sp)(dvs:L')(E:XK)(ta:TE)(t:TA):TE:=λW H Q=>ta W H λx H1=>GK C m sp dvs E t W Q x H1
def Gj(C:G')(sp:Sp)(dvs:L')(E:XK)(t:TA):TE:=λW H Q=>t W H λvs H1=>∀x dx,H1 x=none->H1 dx=none->dx≠x->
 sp (.ref x::(vs++dvs)) (upd (upd H1 dx<|.own x) x<|.ins C dx []) (λv H2=>v= .non/\Q (.ref x) H2) E
def Binds(K:J4)(fd:Mq)(ps:Mf)(ds:Lz):Prop:=
 ∀(s:J')(us:Lz),K.In s.heap->(us++ds).length=ps.length->BindsTo s fd {us,[]} (ps.zip<|us++ds)
def Binds.all(h:∀us:List Value,us.length=ps.length->bindArgs fd {us,[]}=pure (ps.zip us)):Binds K fd ps []:=λs us _ hl=>by
 rw[List.append_nil]at hl⊢;exact .of_eq<|h us hl
def eL(CX:CXT)(X:Cx)(E:XK):Prop:=∀(J:Ma)(W:St)(H:Hp)(s:J')(e:K')(s':J'),Inv X J W H s->CX X.stack H s E e s'->X.xe e s'
section
variable{k:Nat}{f:G'}{dvs:L'}{ds:Lz}{E:XK}{apos:Pos}{o:Expr}{t:TA}
def uX{Q:VK}(F:J9 X.prog X.w X.K X.mg X.base CX k f fd ps sp)(G:JI k X.A)(hb:Binds X.K fd ps ds)(hd:J8 dvs ds)(hx:eL CX X E)
  (I:Inv X J W H s) (r:J8 vs us) (h:sp (vs++dvs) H Q E):J5 X (call (.ref f) us) (EP X J W Q) X.xe s:=by
 have z:J8 (vs++dvs) (us++ds):=r.append hd;have hl:(us++ds).length=ps.length:=by rw[<-z.length];exact F.len _ _ _ _ h
 refine wpAny_call<|codeAny_mono (F.run X.A X.stack s H {us,[]} (us++ds) (vs++dvs) Q E G I.env0 (hb s us I.kIn hl) z h) λr s' hq=>?_;cases r with
 |error e=>exact hx J W H s e s' I hq
 |ok fl=>
  cases fl with
  |ret u=>exact I.after hq
  |next=>exact False.elim hq
  |brk=>exact False.elim hq
  |cont=>exact False.elim hq
def a4(F:J9 X.prog X.w X.K X.mg X.base CX k f fd ps sp)(S:JI k X.A)(U:Gl X x)(Y:X.mg x=some (.ref f))(hk:PySem.W.keepIn X.K (.ref f)=true)(hb:Binds X.K fd ps ds)(hd:J8 dvs ds)(hx:eL CX X E)
  (ha:PA X (e::es) t) (z:(x==(eN:Str))=false:=by decide) (he:starEach (e::es) X.env=(false,eval e X.env)::starEach es X.env:=by rfl) (G:(backTo pos<|starEach es X.env).any (·.1)=false:=by rfl):
  PE X (.Call (.Name x p) (e::es) [] pos) (Cd sp dvs E t):=by
 intro J s W H Q I h;refine XD<|cc I U Y ?_ z;refine QH (h₀:=X.base) I.ok.mod.kin hk (JD (ha pos J s W H _ I h) λus s1 zz=>?_) he G;let{vs,H1,O,r,q}:=zz;refine{O.kIn,?_};exact uX F S hb hd hx O r q
def bg{pl:Sem Bool}(he:PE X o ta)(c:L3 X.K C)(S:dq X.K C m f)(F:J9 X.prog X.w X.K X.mg X.base CX k f fd ps sp)(Z:JI k X.A)(hb:Binds X.K fd ps ds)(hd:J8 dvs ds)(hx:eL CX X E)(ha:PA X (e::es) t)
  (z:starEach (e::es) X.env=(false,eval e X.env)::starEach es X.env:=by rfl) (G:(backTo pos<|starEach es X.env).any (·.1)=false:=by rfl)
  (ht:eval (.Call (.Attribute o m apos) (e::es) [] pos) X.env=(do
   let ov<-eval o X.env
   standAt apos.atName
   let(f,first)<-holding [ov] (getMethod ov m pl)
   callWith pos f first (backTo pos<|starEach (e::es) X.env) (backToKw pos<|keywordEach [] X.env)):=by rfl):
  PE X (.Call (.Attribute o m apos) (e::es) [] pos) (Gi C m sp dvs E ta t):=by
 intro J s W H Q I h;refine Zu (pl:=pl) (JD (he J s W H _ I h) λu s1 O=>?_) ht;let{x,H1,U,rx,a,dx,fs,ex,ea,l,q}:=O;subst ex;obtain rfl:u=Value.ref a:=rx;refine sC U ea c S l ?_;refine QH (first:=[.ref a]) (h₀:=X.base) I.ok.mod.kin S.kp (JD (ha pos J s1 W H1 _ U q) λus s2 zz=>?_) z G;let{vs,H2,Y,r,q2}:=zz;refine{Y.kIn,?_};exact uX (us:= .ref a::us) (vs:= .ref a::vs) F Z hb hd hx Y (.cons M r) q2
def f8{pl:Sem Bool}(he:PE X o ta)(c:L3 X.K C)(O:dq X.K C m f)(F:J9 X.prog X.w X.K X.mg X.base CX k f fd ps sp)(S:JI k X.A)(hb:Binds X.K fd ps ds)(hd:J8 dvs ds)(hx:eL CX X E)
  (U:eval (.Call (.Attribute o m apos) [] [] pos) X.env=(do
   let ov<-eval o X.env
   standAt apos.atName
   let(f,first)<-holding [ov] (getMethod ov m pl)
   callWith pos f first (backTo pos<|starEach [] X.env) (backToKw pos<|keywordEach [] X.env)):=by rfl):
  PE X (.Call (.Attribute o m apos) [] [] pos) (Gi C m sp dvs E ta vZ):=by
 intro J s W H Q I h;refine Zu (pl:=pl) (JD (he J s W H _ I h) λu s1 z=>?_) U;let{x,H1,G,Y,a,dx,fs,ex,ea,l,q}:=z;subst ex;obtain rfl:u=Value.ref a:=Y;refine sC G ea c O l ?_;exact PySem.W.callWith_K0 (first:=[.ref a]) G.kIn O.kp (uX (us:=[.ref a]) (vs:=[.ref a]) F S hb hd hx G (.cons M .nil) q)
structure Mk(K:J4)(C f:G'):Prop where
 makes:PySem.W.makesIn K C=true
 init:PySem.W.findIn K (.ref C) cC=some (some<|.ref f)
 fn:PySem.W.isFn K (.ref f)=true
 kp:PySem.W.keepIn K (.ref C)=true
def wk{Q:VK}(M':Mk X.K C f)(F:J9 X.prog X.w X.K X.mg X.base CX k f fd ps sp)(S:JI (k+1) X.A)(hb:Binds X.K fd ps ds)(hd:J8 dvs ds)
  (hx:eL CX X E) (I:Inv X J W H s) (r:J8 vs us)
  (h:∀x dx,H x=none->H dx=none->dx≠x->sp (.ref x::(vs++dvs)) (upd (upd H dx<|.own x) x<|.ins C dx []) (λv H2=>v= .non/\Q (.ref x) H2) E):
  J5 X (call (.ref C) us) (EP X J W Q) X.xe s:=by
 have hq:=h (s.heap.objs.size+1) s.heap.objs.size (I.hok.fresh<|Z3 _) (I.hok.fresh<|Q4 _) (Qn<|X9 _);have G:=Inv.made (C:=C) I;have O:J8 (V.ref (s.heap.objs.size+1)::(vs++dvs)) (Value.ref (s.heap.objs.size+1)::(us++ds)):= .cons M (r.append hd);have hl:(Value.ref (s.heap.objs.size+1)::us++ds).length=ps.length:=by
  have e:=O.length;rw[F.len _ _ _ _ hq]at e;exact e.symm
 refine wpAny_call (Dh (f:=f) I.kIn M'.makes M'.init (XF.mp M'.fn) (codeAny_mono (F.run _ X.stack _ _ {Value.ref (s.heap.objs.size+1)::us,[]} (Value.ref (s.heap.objs.size+1)::(us++ds)) _ _ E (S.make C us [])
  (G.env0.make C us []) (hb _ (Value.ref (s.heap.objs.size+1)::us) G.kIn hl) O hq) λr s' z=>?_))
 cases r with
 |error e=>exact hx J W _ _ e s' G z
 |ok fl=>
  cases fl with
  |ret u=>
   let{v,H',U,Y,Z,q3}:=G.after z;subst Z;exact{Y,{V.ref<|s.heap.objs.size+1,H',U,M,q3}}
  |next=>exact False.elim z
  |brk=>exact False.elim z
  |cont=>exact False.elim z
def cJ(M':Mk X.K C f)(F:J9 X.prog X.w X.K X.mg X.base CX k f fd ps sp)(S:JI (k+1) X.A)(U:Gl X x)(Y:X.mg x=some (.ref C))(hb:Binds X.K fd ps ds)(hd:J8 dvs ds)(hx:eL CX X E)
  (ha:PA X (e::es) t) (z:(x==(eN:Str))=false:=by decide) (he:starEach (e::es) X.env=(false,eval e X.env)::starEach es X.env:=by rfl) (G:(backTo pos<|starEach es X.env).any (·.1)=false:=by rfl):
  PE X (.Call (.Name x p) (e::es) [] pos) (Gj C sp dvs E t):=by
 intro J s W H Q I h;refine XD<|cc I U Y ?_ z;refine QH (h₀:=X.base) I.ok.mod.kin M'.kp (JD (ha pos J s W H _ I h) λus s1 zz=>?_) he G;let{vs,H1,O,r,q}:=zz;refine{O.kIn,?_};exact wk M' F S hb hd hx O r q
def cf(M':Mk X.K C f)(F:J9 X.prog X.w X.K X.mg X.base CX k f fd ps sp)(G:JI (k+1) X.A)(O:Gl X x)(S:X.mg x=some (.ref C))(hb:Binds X.K fd ps ds)(hd:J8 dvs ds)(hx:eL CX X E)
  (z:(x==(eN:Str))=false:=by decide):PE X (.Call (.Name x p) [] [] pos) (Gj C sp dvs E vZ):=by
 intro J s W H Q I h;refine XD<|cc I O S ?_ z;exact PySem.W.callWith_K0 I.kIn M'.kp<|wk (us:=[]) M' F G hb hd hx I .nil h
end
structure ao(N P:Mf)(sc:Scope):Prop where
 kind:sc.kind= .function
 co:sc.isCoroutine=false
 gen:sc.isGenerator=false
 nd:N.Nodup
 pre:N.take P.length=P
 par:∀x∈P,sc.names.lookup x=some .local\/sc.names.lookup x=some .cell
 nofree:∀y∈sc.names,y.2≠ .free
theorem uD{kindOf:Str->Option NameKind}{x:Str}:∀{z:MB}{m:Mm},(∀v,(x,v)∉z)->bindL kindOf z m x=m x
 | [],_,_=>rfl
 |(n,v)::r,m,h=>by
  unfold bindL;rw[uD λw hw=>h w (Q7 _ hw)];split
  .have:x≠n:=by rintro rfl;exact h v Q8
   simp[this]
  .rfl
theorem uF{kindOf:Str->Option NameKind}{x:Str}:∀{z:MB}{m:Mm},(∀v,(x,v)∉z)->bindC kindOf z m x=m x
 | [],_,_=>rfl
 |(n,v)::r,m,h=>by
  unfold bindC;rw[uF λw hw=>h w (Q7 _ hw)];split
  .rfl
  .have:x≠n:=by rintro rfl;exact h v Q8
   simp[this]
theorem uE{kindOf:Str->Option NameKind}{x:Str}{v:K'}:∀{P:Mf}{vs:Lz}{i:Nat}{m:Mm},P.Nodup->P[i]?=some x->vs[i]?=some v->kindOf x=some .local->
  bindL kindOf (P.zip vs) m x=some v
 | [],_,_,_,_,h,_,_=>by simp at h
 |_::_,[],_,_,_,_,h,_=>by simp at h
 |p::P,w::vs,0,m,nd,h1,h2,hk=>by
  simp at h1 h2;subst h1;subst h2;show bindL kindOf ((p,w)::P.zip vs) m p=_;unfold bindL;rw[uD λv z=>(Qz.mp nd).1 (ZP z).1,Xm hk];simp
 |p::P,w::vs,i+1,m,nd,h1,h2,hk=>by
  show bindL kindOf ((p,w)::P.zip vs) m x=_;unfold bindL;exact uE (i:=i) (Qz.mp nd).2 (by simpa using h1) (by simpa using h2) hk
theorem uG{kindOf:Str->Option NameKind}{x:Str}{v:K'}:∀{P:Mf}{vs:Lz}{i:Nat}{m:Mm},P.Nodup->P[i]?=some x->vs[i]?=some v->kindOf x≠some .local->
  bindC kindOf (P.zip vs) m x=some v
 | [],_,_,_,_,h,_,_=>by simp at h
 |_::_,[],_,_,_,_,h,_=>by simp at h
 |p::P,w::vs,0,m,nd,h1,h2,hk=>by
  simp at h1 h2;subst h1;subst h2;show bindC kindOf ((p,w)::P.zip vs) m p=_;unfold bindC;rw[uF λv z=>(Qz.mp nd).1 (ZP z).1,Xl hk];simp
 |p::P,w::vs,i+1,m,nd,h1,h2,hk=>by
  show bindC kindOf ((p,w)::P.zip vs) m x=_;unfold bindC;exact uG (i:=i) (Qz.mp nd).2 (by simpa using h1) (by simpa using h2) hk
def start(N:Mf)(vs:L'):St:=vs.map some++List.replicate (N.length-vs.length) none
def gF(CX:CXT)(P:Mc)(w:Md)(K:J4)(mg:Mm)(base:Heap)(N:Mf)(qual:Str)(scope:Scope)(f:G')(cd:K')(A:Mj)(outer:Mp)(s:J')(H:Hp)(E:XK):Cx where
 prog:=P
 w:=w
 K:=K
 mg:=mg
 base:=base
 A:=A.deeper (envOfC qual scope s.heap.objs.size f cd)
 N:=N
 s₀:=s
 H₀:=H
 env:=envOfC qual scope s.heap.objs.size f cd
 outer:=outer
 stack:=envOfC qual scope s.heap.objs.size f cd::outer
 ex:=[]
 calm:=true
 fn:=λ_=>true
 pn:=[]
 xe:=λe s'=>wpAny (model P w) (A.deeper<|envOfC qual scope s.heap.objs.size f cd) (leaving (envOfC qual scope s.heap.objs.size f cd) e) (λ_ s''=>CX outer H s E e s'') (λe' s''=>CX outer H s E e' s'') s'
def xg{sc:Scope}(h:sc.names.lookup x=some .cell):∃c,(cellsFrom n sc.names []).lookup x=some c:=by
 have q:=ZL sc.names n [] (.inl h);exact Option.isSome_iff_exists.mp q
def uu{mg:Mm}{f:G'}{cd:K'}{s1:J'}{E:XK} 
  (S:ao N ps scope) (hd:A.handled=none) (G:L8 P w K mg base A outer s H) (hl:vs.length=ps.length) (r:J8 vs us)
  (x:InCallC s s.heap.objs.size (bindL (envOfC qual scope s.heap.objs.size f cd).kindOf (ps.zip us) λ_=>none) (cellsFrom (s.heap.objs.size+1) scope.names []) (bindC (envOfC qual scope s.heap.objs.size f cd).kindOf (ps.zip us) λ_=>none) s1):
  Inv (gF CX P w K mg base N qual scope f cd A outer s H E) [] (start N vs) H s1:=by
 have U:ps.length<=N.length:=by have:=XB List.length S.pre;rw[Qo]at this;lia
 let{h1,tk,rfl,hk}:=x.done;have I:∀b:Addr,b∉(gF CX P w K mg base N qual scope f cd A outer s H E).ex:=λb z=>Xp (show b∈([]:Mh) from z) (by simp);refine{{G.mod,S.kind,M,M,Q4 _,λy z c h1 h2=>?_,λy hy=>?_,λy c _ h=>?_,λ_=>hd,Around.frames_deeper G.frames,.inr ⟨M,M⟩,λb z=>Xp z<|I b,G.bs,G.bsz,λb _ _=>I b,λb z=>Xp z<|I b,G.funs,G.frf},
  rfl,G.bare,Un.kept hk,{_,x.toInCall.ns,λi y v h1 h2 Z=>?_},λy c h=>{_,x.cell y c h},G.hok.fresh<|Q4 _,λy c h=>?_,λp hp=>Xp (show p∈([]:Ma) from hp) (by simp),G.hok.kept hk,?_}
 .exact name_of_addr x.apart (PySem.mem_of_lookup h1)<|PySem.mem_of_lookup h2
 .have hy:scope.names.lookup y=some .cell\/scope.names.lookup y=some .free:=hy;rcases hy with hy|hy
  .exact xg hy
  .exact Xp M<|S.nofree _ (PySem.mem_of_lookup hy)
 .exact Qx<|x.above y c (PySem.mem_of_lookup h)
 .have hi:i<vs.length:=by
   unfold start at h2;by_cases hi:i<vs.length
   .exact hi
   .rw[Za (by simpa using hi)]at h2;rw[List.getElem?_replicate]at h2;split at h2<;>cases h2
  have ha:vs[i]?=some v:=by
   unfold start at h2;rw[Zf (by simpa using hi),Qk]at h2;cases e:vs[i]? with
   |none=>rw[e]at h2;cases h2
   |some a=>rw[e]at h2;cases h2;rfl
  let{u,hu,Y}:=r.get ha;have hp:ps[i]?=some y:=by
   rwa[<-S.pre,List.getElem?_take_of_lt ()]
  have O:ps.Nodup:=by rw[<-S.pre];exact S.nd.sublist<|List.take_sublist _ _
  refine{u,Y,?_};rcases S.par y (Q0 hp)with k|k
  .exact .inl {k,uE O hp hu k}
  .let{c,e}:=xg (n:=s.heap.objs.size+1) k;refine .inr {.inl k,c,e,?_};have q:=x.cell y c e;rw[uG O hp hu (by show scope.names.lookup y≠_;rw[k];decide)]at q;exact q
 .exact G.hok.fresh<|Qx (x.above y c<|PySem.mem_of_lookup h)
 .unfold start;show _=N.length;rw[Qd,Q2,QN];lia
abbrev _root_.ME:=Array (Option Value)
def wV{mg:Mm}{k:Nat}{f:G'}{G:Arguments}{dV kV Z pm z ct oc:K'}{an od:Me}
  {a1:ME} (lk:K.lookup f=some {oc,od,.func<|PySem.W.fnOf name qual G body scope dV kV Z pm an z ct,a1}) (a2:PySem.W.codeIn K z qual=true) (S:ao N ps scope)
  (len:∀vs H Q E,sp vs H Q E->vs.length=ps.length)
  (U:∀(A:Mj)(outer:Mp)(s:J')(H:Hp)(vs:L')(Q:VK)(E:XK),JI k (A.deeper<|envOfC qual scope s.heap.objs.size f z)->sp vs H Q E->
   ∃t,KH (gF CX P w K mg base N qual scope f z A outer s H E) body t/\t {nx:=λ_ H'=>Q .non H',rt:=Q} (start N vs) H):
  J9 P w K mg base CX (k+1) f (PySem.W.fnOf name qual G body scope dV kV Z pm an z ct) ps sp:=by
 refine{len,λA outer s H args us vs Q E hr e0 hb r a0=>?_};have hl:=len _ _ _ _ a0;have KX:K.In s.heap:=e0.mod.kin.keeps λb o e=>(e0.bs b o e).1;have a3:s.heap.NoLimit:=e0.mod.nolimit.keeps λb o e=>(e0.bs b o e).1;have Y:∀y∈ps.zip us,scope.names.lookup y.1=some .local\/(scope.names.lookup y.1=some .cell/\((cellsFrom (s.heap.objs.size+1) scope.names []).lookup y.1).isSome=true):=λ⟨n,v⟩ hy=>by
  rcases S.par n (ZP hy).1 with q|q
  .exact .inl q
  .exact .inr {q,ZL _ _ _<|.inl q}
 refine codeAny_call_function hr.depth (KX _ _ lk) M S.co S.gen M (PySem.W.codeRec_of KX a2)<|hb _ _ _ _ ?_;refine wpAny_newFunctionEnv_cells S.kind Y λenv he s1 x=>?_;subst he;refine{a3.keeps x.toInCall.keep,codeAny_func ?_};let{t,ht,hq}:=U A outer s H vs Q E (hr.deeper _) a0;have I:Inv (gF CX P w K mg base N qual scope f z A outer s H E) [] (start N vs) H s1:=uu S hr.hd e0 hl r x;refine XA (ht [] s1 (start N vs) H _ I hq) (λfl s' hs=>?_) λe s' hs=>hs;have fin:∀{O:St}{H':Hp}{v:V}{u:K'},Inv (gF CX P w K mg base N qual scope f z A outer s H E) [] O H' s'->RelV v u->Q v H'->CE outer P w H s Q u s':=
  λ{O H' v u} J0 rv q=>⟨v,H',J0.os,J0.bare,J0.base,J0.hok,rv,q⟩
 cases fl with
 |ret u=>
  let{v,O,H',J0,rv,q}:=hs;exact fin J0 rv q
 |next=>
  let{O,H',J0,q}:=hs;exact fin (v:=V.non) (u:=Value.none) J0 M q
 |brk=>
  let{_,_,_,q}:=hs;exact False.elim q
 |cont=>
  let{_,_,_,q}:=hs;exact False.elim q
section
variable{t:TA}{id T:String}{r:List V->Hp->VK->Prop}
def tCB(r:List V->Hp->VK->Prop)(t:TA):TE:=λW H Q=>t W H λvs H1=>r vs H1 Q
def ay(hc:fu X (.builtin id) r)(O:Gl X x)(S:X.mg x=none)(U:bootBuiltins x=some (.builtin id))(ha:PA X (e::es) t)(Y:x≠"__name__":=by decide)(z:(x==(eN:Str))=false:=by decide)
  (he:starEach (e::es) X.env=(false,eval e X.env)::starEach es X.env:=by rfl) (G:(backTo pos<|starEach es X.env).any (·.1)=false:=by rfl):PE X (.Call (.Name x p) (e::es) [] pos) (tCB r t):=by
 intro J s W H Q I h;refine XD<|pk I O S U ?_ Y z;exact PyProof.Rows.callWith_builtin1 (JD (ha pos J s W H _ I h) λus s1 zz=>by let{vs,H1,Z,r1,q1}:=zz;exact hc J s1 W H1 vs us Q Z r1 q1) he G
def dt(hc:fu X (.type T) r)(O:Gl X x)(S:X.mg x=none)(U:bootBuiltins x=some (.type T))(ha:PA X (e::es) t)(Y:x≠"__name__":=by decide)(z:(x==(eN:Str))=false:=by decide)
  (he:starEach (e::es) X.env=(false,eval e X.env)::starEach es X.env:=by rfl) (G:(backTo pos<|starEach es X.env).any (·.1)=false:=by rfl):PE X (.Call (.Name x p) (e::es) [] pos) (tCB r t):=by
 intro J s W H Q I h;refine XD<|pk I O S U ?_ Y z;exact PyProof.Rows.callWith_type1 (JD (ha pos J s W H _ I h) λus s1 zz=>by let{vs,H1,Z,r1,q1}:=zz;exact hc J s1 W H1 vs us Q Z r1 q1) he G
end
end L2
namespace HT
open PySem PyProof.Rows
variable{E:Ml}
noncomputable def lexLt:List Int->List Int->Bool
 | [],[]=>false
 | [],_::_=>true
 |_::_,[]=>false
 |x::xs,y::ys=>if x=y then lexLt xs ys else decide (x<y)
abbrev _root_.Mb:=List Int
def lexLt_cons(x y:Int)(xs ys:Mb):lexLt (x::xs) (y::ys)=if x=y then lexLt xs ys else decide (x<y):=rfl
def lexLt_nil_nil:lexLt [] []=false:=rfl
def lexLt_nil_cons(y:Int)(ys:Mb):lexLt [] (y::ys)=true:=rfl
def lexLt_cons_nil(x:Int)(xs:Mb):lexLt (x::xs) []=false:=rfl
section
variable{prog:Mc}{w:Md}{A:Mj}{s:J'}
noncomputable def sIx(n d:Nat):Option Int->Nat
 |none=>d
 |some v=>if v<0 then(v+(n:Int)).toNat else min v.toNat n
end
end HT
namespace L2
open PySem PySem.Spec PyProof.Rows
variable{a b:G'}{A:Mj}{X:Cx}{e:Expr}{h':Heap}{H H':Hp}{i:Int}{J:Ma}{kvs:Mr}{vs:List (Key×Value)}{xs:L'}{its its':Lz}{j n t':Nat}{o:Option V}{pos:Pos}{P:Mc}{s:J'}{W:St}{T:String}{α:Type}{x y:V}{u v:K'}{E Q:Ml}{rd:V->V->Hp->VK->Prop}{w:Md}
abbrev TO:=St->Hp->(Option Int->Hp->Prop)->Prop
def PO(X:Cx)(e:Option Expr)(t:TO):Prop:=
 ∀(J:Ma)(s:J')(W:St)(H:Hp)(Q:Option Int->Hp->Prop),Inv X J W H s->t W H Q->
  J5 X (evalPart e X.env) (λu s'=>∃o H',Inv X J W H' s'/\IsPart u o/\Q o H') X.xe s
def EH:TO:=λ_ H Q=>Q none H
inductive GJ(Q:Option Int->Hp->Prop)(x:V)(H1:Hp):Prop
 |mk(i:_)(_:x= .int i)(_:Q (some i) H1)
def Ij(t:TE):TO:=λW H Q=>t W H λx H1=>GJ Q x H1
def su{ns:Mb}:∀{us:Lz},J8 (ns.map V.int) us->IntsAre us ns:=by
 induction ns with
 |nil=>intro us r;rw[X4]at r;cases r;exact .nil
 |cons n ns z=>
  intro us r;rw[Qm]at r;cases r with
  |cons r1 G=>
   let{t,e}:=r1;subst e;exact .cons n t<|z G
section
variable{te:TE}{lo hi:Option Expr}{tl th:TO}{p2:Pos}
def nC:PO X none EH:=by
 intro J s W H Q I h;rw[evalPart_none];exact Xr {none,H,I,.none,h}
def jm(h:PE X e te):PO X (some e) (Ij te):=by
 intro J s W H Q I hw;rw[evalPart_some];refine JD (h J s W H _ I hw) λu s1 z=>?_;let{x,H1,G,r1,O}:=z;let{i,rfl,q}:=O;let{t,rfl}:=r1;exact{some i,H1,G,.int i t,q}
def SlR(X:Cx)(r:V->Option Int->Option Int->Hp->VK->Prop):Prop:=
 ∀(J:Ma)(s:J')(W:St)(H:Hp)(x:V)(v vl vu:K')(lo hi:Option Int)(sl:G')(Q:VK),Inv X J W H s->RelV x v->s.heap.IsSliceOf sl vl vu .none->IsPart vl lo->IsPart vu hi->r x lo hi H Q->
  ∃T id,typeLookup (.type T) "__getitem__"=pure (some<|.builtin id)/\s.TypeIs v T/\J5 X (getItem v<|.ref sl) (EP X J W Q) X.xe s
def tSl(r:V->Option Int->Option Int->Hp->VK->Prop)(te:TE)(tl th:TO):TE:=λW H Q=>te W H λx H1=>tl W H1 λl H2=>th W H2 λu H3=>r x l u H3 Q
def iM{r:V->Option Int->Option Int->Hp->VK->Prop}(S:SlR X r)(he:PE X e te)(hl:PO X lo tl)(hu:PO X hi th):PE X (.Subscript e (.Slice lo hi none p2) pos) (tSl r te tl th):=by
 intro J s W H Q I h;refine Subscript_<|JD (he J s W H _ I h) λv s1 z=>?_;let{x,H1,U,r1,Y}:=z;refine wpAny_Slice<|JD (hl J s1 W H1 _ U Y) λG s2 zz=>?_;let{l,H2,Z,pl,q2}:=zz;refine JD (hu J s2 W H2 _ Z q2) λO s3 z=>?_;let{u,H3,I3,pu,q3}:=z;rw[evalPart_none];refine Xr ?_;have I4:Inv X J W H3 {s3 with heap:=s3.heap.push {cls:= .type "slice",data:= .fields #[G,O,.none]}}:=I3.kept (t':=s3.toks) λb ob q=>Xk _ q;let{T,id,hT,ht,hg}:=S J {s3 with heap:=s3.heap.push {cls:= .type "slice",data:= .fields #[G,O,.none]}} W H3 x v G O l u s3.heap.objs.size Q I4 r1 (Heap.IsSliceOf.new ..) pl pu q3;show J5 X (subscriptTail e (.Slice lo hi none p2) v<|.ref s3.heap.objs.size) (EP X J W Q) X.xe {s3 with heap:=s3.heap.push {cls:= .type "slice",data:= .fields #[G,O,.none]}};exact tail_any (ops:=[.ref s3.heap.objs.size,v]) ht hT hg (by with_unfolding_all rfl)
def lu(xs:L')(lo hi:Option Int):List V:=(xs.drop<|HT.sIx xs.length 0 lo).take (HT.sIx xs.length xs.length hi-HT.sIx xs.length 0 lo)
def xf(xs:L')(lo hi:Option Int):(lu xs lo hi).length<=xs.length:=by
 unfold lu;rw[Qo,QA];lia
end
noncomputable def LL(n:Nat)(i:Int):Option Nat:=if 0<=i then(if i<n then some i.toNat else none)else if-(n:Int)<=i then some (i+n).toNat else none
def LB{α:Type}(xs:List α)(i:Int):Option α:=(LL xs.length i).bind λj=>xs[j]?
def zI(h:LL n i=some j):seqIndex? i n=some j/\j<n/\-(n:Int)<=i/\i<n:=by
 unfold LL at h;by_cases z:0<=i
 .rw[Xm z]at h;by_cases h1:i<n
  .rw[Xm h1]at h;have e:i.toNat=j:=Xq h;exact{by rw[seqIndex_of z h1,e],(),(),h1}
  .rw[Xl h1]at h;cases h
 .rw[Xl z]at h;by_cases h1: -(n:Int)<=i
  .rw[Xm h1]at h;have e:(i+n).toNat=j:=Xq h;exact{by rw[seqIndex_neg () h1,e],(),h1,()}
  .rw[Xl h1]at h;cases h
def z8{xs:List α}{v:α}(h:LB xs i=some v):∃j,seqIndex? i xs.length=some j/\xs[j]?=some v/\j<xs.length/\-(xs.length:Int)<=i/\i<xs.length:=by
 unfold LB at h;cases e:LL xs.length i with
 |none=>rw[e]at h;cases h
 |some j=>
  rw[e]at h;let{h1,h2,z,G}:=zI e;exact⟨j,h1,h,h2,z,G⟩
def qy{xs:List α}{v:α}(h:xs[j]?=some v):LB xs (j:Int)=some v:=by
 have z:j<xs.length:=(Q3.mp h).1;have e:LL xs.length (j:Int)=some j:=by
  unfold LL;rw[Xm (),Xm ()];simp
 unfold LB;rwa[e]
def DW(xs:List α)(v:α):LB (xs++ [v]) (-1)=some v:=by
 have hl:(xs++ [v]).length=xs.length+1:=by simp
 have e:LL (xs++ [v]).length (-1)=some xs.length:=by
  unfold LL;rw[hl,Xl (_),Xm ()];congr 1;lia
 unfold LB;rw[e];show(xs++ [v])[xs.length]?=some v;simp
def F5(b:Expr):Prop:=∀o i,subscripted b false o i=operate [o,i] (getItem o i)
def IxR(X:Cx)(r:R2):Prop:=
 ∀(value slice:Expr)(J:Ma)(s:J')(W:St)(H:Hp)(x y:V)(v u:K')(Q:VK),Inv X J W H s->RelV x v->RelV y u->r x y H Q->
  subscripted slice false v u=operate [v,u] (getItem v u)->J5 X (subscriptTail value slice v u) (EP X J W Q) X.xe s
def Lc(X:Cx)(id:String)(r:V->List V->Hp->VK->Prop):Prop:=
 ∀(J:Ma)(s:J')(W:St)(H:Hp)(x:V)(xs:L')(v:K')(us:Lz)(Q:VK),Inv X J W H s->RelV x v->J8 xs us->r x xs H Q->
  J5 X (call (.builtin id) (v::us)) (EP X J W Q) X.xe s
section
variable{a b:Expr}{ta tb:TE}
def bI{r:R2}(z:IxR X r)(ha:PE X a ta)(hb:PE X b tb)(hs:F5 b):PE X (.Subscript a b pos) (tOp r ta tb):=by
 intro J s W H Q I h;exact Subscript_ (HL ha hb I h λv u s2 x y H2 G O S q=>z a b J s2 W H2 x y v u Q G O S q<|hs _ _)
inductive rIxL(K:J4)(x y:V)(H:Hp)(Q:VK):Prop
 |mk(p xs i v:_)(_:x= .ref p)(_:y= .int i)(_:JC K H p xs)(_:LB xs i=some v)(_:Q v H)
inductive rIxT(K:J4)(x y:V)(H:Hp)(Q:VK):Prop
 |mk(p xs i v:_)(_:x= .ref p)(_:y= .int i)(_:Kg K H p xs)(_:LB xs i=some v)(_:Q v H)
def bp:IxR X (rIxL X.K):=by
 intro value G J s W H x y v u Q I Z ry h hs;let{p,xs,i,z,rfl,rfl,hq,he,q}:=h;cases Z;let{t,rfl}:=ry;let{its,r,pl,hz}:=I.list hq;let{j,h1,h2,h3,h4,h5}:=z8 he;let{w,U,O}:=r.get h2;have hl:=r.length;have hn:=pf;have fin:EP X J W Q w s:=⟨z,H,I,O,q⟩;by_cases Y:0<=i
 .have S:i.toNat=j:=by
   rw[seqIndex_of Y h5]at h1;exact Xq h1
  exact item_listR pl.isList Y () (by rw[S];simpa using U) fin hs
 .have S:(i+(its.toArray.size:Int)).toNat=j:=by
   rw[seqIndex_neg () h4]at h1;rw[Qa,<-hl];exact Xq h1
  exact subscriptTail_builtinR (x:=w) pl.isList.typeIs slot_list_getitem.lookup
   (wpAny_getItem_list_neg (Q:=λr s'=>r=w/\EP X J W Q r s') pl.isList () (by rw[Qa]<;>lia) () (by rw[S];simpa using U) ⟨M,fin⟩) hs
def kq:IxR X (rIxT X.K):=by
 intro value G J s W H x y v u Q I S U h hs;let{p,xs,i,z,rfl,rfl,hq,he,q}:=h;cases S;let{t,rfl}:=U;let{its,r,pl,hz}:=I.tuple hq;let{j,h1,h2,Z,h4,h5}:=z8 he;let{w,Y,O}:=r.get h2;have hl:=r.length;have hn:=pf;have fin:EP X J W Q w s:=⟨z,H,I,O,q⟩;exact subscriptTail_builtinR (x:=w) pl.typeIs slot_tuple_getitem.lookup
  (getItem_tuple (j:=j) (Q:=λr s'=>r=w/\EP X J W Q r s') pl () () (by rwa[Qa,<-hl]) (by simpa using Y) ⟨M,fin⟩) hs
def yD(its:Lz)(n j:Nat)(u:K'):Obj.mapSeq (·.setIfInBounds j u) {cls:= .type gt,data:= .seq its.toArray n}={cls:= .type gt,data:= .seq (its.set j u).toArray n}:=by
 simp[Obj.mapSeq]
def Inv.lst{J:Ma}{W:St}{H:Hp}{s:J'}{p:G'}{xs:L'}(I:Inv X J W H s)(h:H p=some (.lst xs)):
  ∃(its:Lz)(n:Nat),J8 xs its/\s.heap.get? p=some {cls:= .type gt,data:= .seq its.toArray n}/\xs.length<=sizeLine:=by
 let{z,its,n,r,e}:=I.hok p _ h;exact⟨its,n,r,e,z⟩
def Inv.lstUpd{p:G'}{ys:L'}{n':Nat}{f:Obj->Obj}(I:Inv X J W H s)(h:H p=some (.lst xs))
  (ho:s.heap.get? p=some {cls:= .type gt,data:= .seq its.toArray n}) (hf:f {cls:= .type gt,data:= .seq its.toArray n}={cls:= .type gt,data:= .seq its'.toArray n'}) (r:J8 ys its') (hz:ys.length<=sizeLine) (t:Nat):
  Inv X J W (upd H p<|.lst ys) {s with heap:=s.heap.update p f,toks:=t}:=by
 have e:(s.heap.update p f).get? p=some {cls:= .type gt,data:= .seq its'.toArray n'}:=by
  rw[Heap.get?_update_self f ho (by rw[hf]<;>rfl),hf]
 refine I.write (x:=p) (e:=p) (by rw[h];trivial) (.inl M) (λb u hb q=>(Xv _ _<|Ne.symm hb).trans q) {_,e} ?_;exact⟨hz,its',n',r,e⟩
inductive IF(o i v:V)(H:Hp)(Q:Hp->Prop):Prop
 |mk(p xs k j:_)(_:o= .ref p)(_:i= .int k)(_:H p=some (.lst xs))(_:LL xs.length k=some j)(_:Q (upd H p<|.lst<|xs.set j v))
def qZ:PSet X IF:=by
 intro J s W H o i v ov iv u Q I U Y Z h;let{p,xs,k,j,rfl,rfl,hp,hj,q}:=h;cases U;let{t,rfl}:=Y;let{its,n,r,ho,hz}:=I.lst hp;let{h1,h2,z,G}:=zI hj;have hl:=r.length;have hn:=pf;have O:Inv X J W (upd H p<|.lst<|xs.set j v) {s with heap:=s.heap.update p (Obj.mapSeq (·.setIfInBounds j u))}:=
  I.lstUpd hp ho (yD its n j u) (r.set Z j) (by rwa[Qs]) s.toks
 by_cases S:0<=k
 .have hk:k.toNat=j:=by
   rw[seqIndex_of S G]at h1;exact Xq h1
  exact PySem.W.ki_setAt ho S () (by rwa[Qa,<-hl])<|by rw[hk];exact{_,O,q}
 .have hk:(k+(its.toArray.size:Int)).toNat=j:=by
   rw[seqIndex_neg () z]at h1;rw[Qa,<-hl];exact Xq h1
  exact PySem.W.ki_setBack ho () (by rwa[Qa,<-hl]) ()<|by rw[hk];exact{_,O,q}
def uS(lo hi:Option Int)(n:Nat):(sliceBounds lo hi none n).1=((HT.sIx n 0 lo:Nat):Int)/\(sliceBounds lo hi none n).2.1=((HT.sIx n n hi:Nat):Int)/\(sliceBounds lo hi none n).2.2=1:=by
 refine{?_,?_,M}
 .cases lo with
  |none=>simp[sliceBounds,HT.sIx]
  |some i=>
   simp only[sliceBounds,HT.sIx,Option.getD_none,show(1:Int)>0 by decide,if_true];by_cases h:i<0
   .simp only[h,if_true]<;>lia
   .simp only[h,if_false]<;>lia
 .cases hi with
  |none=>simp[sliceBounds,HT.sIx]
  |some i=>
   simp only[sliceBounds,HT.sIx,Option.getD_none,show(1:Int)>0 by decide,if_true];by_cases h:i<0
   .simp only[h,if_true]<;>lia
   .simp only[h,if_false]<;>lia
def tx(its:Lz)(lo hi:Option Int):slicePick its.toArray lo hi none=((its.drop<|HT.sIx its.length 0 lo).take<|HT.sIx its.length its.length hi-HT.sIx its.length 0 lo).toArray:=by
 let{h1,h2,z}:=uS lo hi its.toArray.size;unfold slicePick;rw[h1,h2,z];simp only[sliceRange_one,pick_run,Qa]<;>rfl
inductive rSlL(K:J4)(x:V)(lo hi:Option Int)(H:Hp)(Q:VK):Prop
 |mk(a xs:_)(_:x= .ref a)(_:JC K H a xs)(_:∀p,H p=none->Q (.ref p) (upd H p<|.lst<|lu xs lo hi))
def mZ:SlR X (rSlL X.K):=by
 intro J s W H x v U Y lo hi Z Q I O hs pl S h;let{a,xs,rfl,hx,q}:=h;cases O;let{its,r,G,hz}:=I.list hx;have z:=r.length;refine{gt,_,slot_list_getitem.lookup,G.isList.typeIs,?_};refine wpAny_getItem_list_slice G.isList hs pl S .none (by simp) ?_ (by rw[Qa]<;>lia);rw[tx,<-z];refine{.ref s.heap.objs.size,_,I.laid (t':=s.toks) (o:= .lst<|lu xs lo hi) (λb ob q=>Xk _ q) (Q4 _) ?_,M,q _<|I.hok.fresh (Q4 _)};exact{Qr (xf xs lo hi) hz,_,0,(r.drop<|HT.sIx xs.length 0 lo).take<|HT.sIx xs.length xs.length hi-HT.sIx xs.length 0 lo,Xu _ M}
noncomputable def nV:V->Bool
 | .non=>true
 | .bl _=>true
 | .int _=>true
 | .str _=>true
 |_=>false
noncomputable def Lb:V->V->Bool
 | .non,.non=>true
 | .bl a,.bl b=>a==b
 | .bl a,.int b=>(if a then 1 else 0)==b
 | .int a,.bl b=>a==(if b then 1 else 0)
 | .int a,.int b=>a==b
 | .str a,.str b=>a==b
 |_,_=>false
def HC(G:RelV y u)(z:RelV x v)(O:nV y=true)(I:nV x=true):SeqAt.EqAt A s u v (Lb y x):=by
 cases y with
 |non=>
  cases G;cases x with
  |non=>cases z;exact SeqAt.EqAt.same _
  |bl b=>cases z;exact SeqAt.EqAt.none_bool b
  |int b=>let{t,rfl}:=z;exact SeqAt.EqAt.none_int b t
  |str b=>let{t,rfl}:=z;exact SeqAt.EqAt.none_str b t
  |_=>exact Xp (show false=true from I) Q6
 |bl a=>
  cases G;cases x with
  |non=>cases z;exact SeqAt.EqAt.bool_none a
  |bl b=>cases z;exact SeqAt.EqAt.bool_bool a b
  |int b=>let{t,rfl}:=z;exact SeqAt.EqAt.bool_int a b t
  |str b=>let{t,rfl}:=z;exact SeqAt.EqAt.bool_str a b t
  |_=>exact Xp (show false=true from I) Q6
 |int a=>
  let{t',rfl}:=G;cases x with
  |non=>cases z;exact SeqAt.EqAt.int_none a t'
  |bl b=>cases z;exact SeqAt.EqAt.int_bool a t' b
  |int b=>let{t,rfl}:=z;exact SeqAt.EqAt.int_int a t' b t
  |str b=>let{t,rfl}:=z;exact SeqAt.EqAt.int_str a t' b t
  |_=>exact Xp (show false=true from I) Q6
 |str a=>
  let{t',rfl}:=G;cases x with
  |non=>cases z;exact SeqAt.EqAt.str_none a t'
  |bl b=>cases z;exact SeqAt.EqAt.str_bool a t' b
  |int b=>let{t,rfl}:=z;exact SeqAt.EqAt.str_int a t' b t
  |str b=>let{t,rfl}:=z;exact SeqAt.EqAt.str_str a t' b t
  |_=>exact Xp (show false=true from I) Q6
 |_=>exact Xp (show false=true from O) Q6
def La(x:V)(u:K'):Bool:=match u with
 | .none=>Lb .non x
 | .bool b=>Lb (.bl b) x
 | .int i _=>Lb (.int i) x
 | .str z _=>Lb (.str z) x
 |_=>false
def DH(r:RelV y u)(f:nV y=true):La x u=Lb y x:=by
 cases y with
 |non=>cases r;rfl
 |bl b=>cases r;rfl
 |int i=>let{t,rfl}:=r;rfl
 |str z=>let{t,rfl}:=r;rfl
 |_=>exact Xp (show false=true from f) Q6
def Aa{us:Lz}(h:J8 xs us)(f:xs.all nV=true):us.any (La x)=xs.any λy=>Lb y x:=by
 induction h with
 |nil=>rfl
 |cons r t z=>
  rw[List.all_cons,Qp]at f;rw[Zy,Zy,DH r f.1,z f.2]
def wJ(z:RelV x v)(G:nV x=true):∀{xs:L'}{us:Lz},J8 xs us->xs.all nV=true->∀u∈us,SeqAt.EqAt A s u v (La x u):=λ{xs us} h=>by
 induction h with
 |nil=>exact λ_ u hu=>by cases hu
 |cons r t I=>
  intro f O hu;rw[List.all_cons,Qp]at f;rcases Qc.mp hu with rfl|hu
  .rw[DH r f.1];exact HC r z f.1 G
  .exact I f.2 O hu
def inV(x:V)(xs:L'):Bool:=xs.any λy=>Lb y x
inductive rIn(K:J4)(neg:Bool)(x y:V)(H:Hp)(Q:VK):Prop
 |mk(p xs:_)(_:y= .ref p)(_:(JC K H p xs\/Kg K H p xs))(_:nV x=true)(_:xs.all nV=true)(_:Q (.bl<|if neg then !inV x xs else inV x xs) H)
def AJ:Kl X (compareOp .In) (rIn X.K false):=by
 intro J s W H x y v u Q I z O h;let{p,xs,rfl,hq,G,fs,q}:=h;cases O;rcases hq with hq|hq
 .let{its,r,pl,hz}:=I.list hq;refine SeqAt.in_listAt (La x) pl.isList (λw hw=>wJ z G r fs w<|by simpa using hw) {.bl _,H,I,M,?_};rw[show its.toArray.any (La x)=its.any (La x) by simp,Aa r fs];exact q
 .let{its,r,pl,hz}:=I.tuple hq;refine SeqAt.in_tupleAt (La x) pl (λw hw=>wJ z G r fs w<|by simpa using hw) {.bl _,H,I,M,?_};rw[show its.toArray.any (La x)=its.any (La x) by simp,Aa r fs];exact q
def aN:fu X (.builtin "len") (λxs H Q=>∃p ys,xs=[.ref p]/\(JC X.K H p ys\/Kg X.K H p ys)/\Q (.int ys.length) H):=by
 intro J s W H xs us Q I r h;let{p,ys,rfl,hq,q}:=h;let{u,rfl,G}:=mN r;cases G;have O:=pf;rcases hq with hq|hq
 .let{its,r',pl,hz}:=I.list hq;have z:=r'.length;exact Calls.call_len_list pl.isList (by simp only[Qa]<;>lia) {.int ys.length,H,I.tok _,{s.toks+1,by rw[Qa,z]},q}
 .let{its,r',pl,hz}:=I.tuple hq;have z:=r'.length;exact len_tuple pl (by simp only[Qa]<;>lia) {.int ys.length,H,I.tok _,{s.toks+1,by rw[Qa,z]},q}
def vC:fu X (.builtin "len") (λxs H Q=>∃z,xs=[.str z]/\z.length<=sizeLine/\Q (.int z.length) H):=by
 intro J s W H xs us Q I r h;let{z,rfl,hz,q}:=h;let{u,rfl,t,rfl}:=mN r;have G:=pf;exact len_str () {.int z.length,H,I.tok _,{_,M},q}
def tyV(K:J4)(T:String)(x:V)(H:Hp):Prop:=match x with
 | .str _=>T=ub
 | .int _=>T="int"
 | .ref p=>(T=gt/\∃xs,JC K H p xs)\/(T=jb/\∃o,K.lookup p=some o/\o.cls= .type jb/\o.dict=none)\/
   (T="dict"/\((∃kvs,H p=some (.dK kvs))\/∃kvs,H p=some (.dT kvs)))\/(T="set"/\∃S n,H p=some (.set S n))
 |_=>False
def B8(I:Inv X J W H s)(r:RelV x v)(ty:tyV X.K T x H):
  s.TypeIs v T/\∀a,v= .ref a->∃ob,s.heap.get? a=some ob/\ob.dict=none:=by
 cases x with
 |str z=>
  let{t,rfl}:=r;cases (show T=ub from ty);exact{typeIs_str s z t,λ_ e=>nomatch e}
 |int i=>
  let{t,rfl}:=r;cases (show T="int" from ty);exact{typeIs_int s i t,λ_ e=>nomatch e}
 |ref p=>
  cases r;rcases ty with⟨rfl,xs,hq⟩|⟨rfl,o,hk,hc,hd⟩|⟨rfl,hk⟩|⟨rfl,S,n,hk⟩
  .let{its,_,pl,_}:=I.list hq;refine{pl.isList.typeIs,λa e=>?_};cases e;let{o,n,e,c,hd,_}:=pl;exact⟨o,e,hd⟩
  .refine{{o,I.kIn p o hk,hc},λa e=>?_};cases e;exact{o,I.kIn _ o hk,hd}
  .have z:∃o,s.heap.get? p=some o/\o.ExactDict:=by
    rcases hk with⟨kvs,hk⟩|⟨kvs,hk⟩
    .let{_,_,_,_,o,_,_,e,ex,_}:=I.hok p _ hk;exact⟨o,e,ex⟩
    .let{_,_,_,_,o,_,_,e,ex,_}:=I.hok p _ hk;exact⟨o,e,ex⟩
   let{o,e,ex}:=z;refine{⟨o,e,ex.1⟩,λa e2=>?_};cases e2;exact⟨o,e,ex.2.1⟩
  .let{o,_,_,_,e,ex,_}:=I.hok p _ hk;refine{⟨o,e,ex.1⟩,λa e2=>?_};cases e2;exact⟨o,e,ex.2.1⟩
 |_=>exact False.elim ty
def tBM0(K:J4)(T:String)(r:V->List V->Hp->VK->Prop)(to:TE):TE:=λW H Q=>to W H λx H1=>tyV K T x H1/\r x [] H1 Q
def tBM(K:J4)(T:String)(r:V->List V->Hp->VK->Prop)(to:TE)(t:TA):TE:=λW H Q=>to W H λx H1=>tyV K T x H1/\t W H1 λxs H2=>r x xs H2 Q
variable{o:Expr}{es:Ms}{to:TE}{t:TA}{name:Str}{apos cpos:Pos}{id:String}{r:V->List V->Hp->VK->Prop}
def CK(pa:PlainAttrs T)(slot:Slot T name id)(O:typeOf (.builtin id)=pure (.type "method_descriptor"))(Y:Lc X id r)(ho:PE X o to)
  (z:attributeBase o name X.env (eval o X.env)=eval o X.env:=by rfl) (G:(apos.endLine==cpos.line)=true:=by rfl):PE X (.Call (.Attribute o name apos) [] [] cpos) (tBM0 X.K T r to):=by
 intro J s W H Q I h;refine wpAny_Call_method0_late z G<|JD (ho J s W H _ I h) λv s1 S=>?_;let{x,H1,U,r1,ty,Z}:=S;let{h1,h2}:=B8 U r1 ty;exact{T,id,pa,slot,O,h1,h2,Calls.callWith_builtin M<|PySem.evalArgs_none (Y J s1 W H1 x [] v [] Q U r1 .nil Z)}
def eu(pa:PlainAttrs T)(slot:Slot T name id)(U:typeOf (.builtin id)=pure (.type "method_descriptor"))(hm:Lc X id r)(ho:PE X o to)(ha:PA X (e::es) t)
  (G:attributeBase o name X.env (eval o X.env)=eval o X.env:=by rfl)
  (S:((backTo cpos<|starEach (e::es) X.env).all (λx=>!x.1)&&(backToKw cpos<|keywordEach [] X.env).all (λx=>x.1.isSome)
   &&decide ((e::es).length+([]:List Keyword).length+(if([]:List Keyword).isEmpty then 0 else 1)<30))=true:=by rfl)
  (O:(apos.endLine==cpos.line)=true:=by rfl) (hs:starEach (e::es) X.env=(false,eval e X.env)::starEach es X.env:=by rfl) (z:(backTo cpos<|starEach es X.env).any (·.1)=false:=by rfl):
  PE X (.Call (.Attribute o name apos) (e::es) [] cpos) (tBM X.K T r to t):=by
 intro J s W H Q I h;refine wpAny_Call_method_late G S O M<|JD (ho J s W H _ I h) λv s1 Y=>?_;let{x,H1,Z,r1,ty,q1}:=Y;let{h1,h2}:=B8 Z r1 ty;refine{T,id,pa,slot,U,h1,h2,?_};have hA:=ha cpos J s1 W H1 _ Z q1;rw[hs]at hA⊢;refine Calls.callWith_builtin (by show(false||(backTo cpos<|starEach es X.env).any (·.1))=false;rw[z]<;>rfl)<|Calls.evalArgs_plain ?_;exact JD hA λus s2 zz=>by let{vs,H2,I2,r2,q2}:=zz;exact hm J s2 W H2 x vs v us Q I2 r1 r2 q2
end
def MtM(X:Cx)(id:String)(r:V->List V->Hp->VK->Prop):Prop:=
 ∀(J:Ma)(s:J')(W:St)(H:Hp)(x:V)(xs:L')(v:K')(us:Lz)(Q:VK),Inv X J W H s->RelV x v->J8 xs us->r x xs H Q->
  J5 X (call (.builtin id) (v::us)) (EP X J W Q) X.xe s
def J8.one:∀{x:V}{us:Lz},J8 [x] us->∃u,us=[u]/\RelV x u
 :=λh=>by
  cases h with
  |cons r h=>cases h;exact{_,M,r}
def J8.two:∀{x y:V}{us:Lz},J8 [x,y] us->∃u v,us=[u,v]/\RelV x u/\RelV y v
 :=λh=>by
  cases h with
  |cons r h=>cases h with
   |cons q h=>cases h;exact{_,_,M,r,q}
theorem J8.eraseIdx:∀{xs:L'}{us:Lz}(i:Nat),J8 xs us->J8 (xs.eraseIdx i) (us.eraseIdx i)
 |_,_,_,.nil=> .nil
 |_,_,0,.cons _ t=>t
 |_,_,i+1,.cons r t=> .cons r (J8.eraseIdx i t)
theorem pj{α:Type}:∀(l:List α)(i:Nat),(l.eraseIdx i).length<=l.length
 | [],_=>Q4 _
 |_::_,0=>Z3 _
 |_::r,i+1=>Nat.succ_le_succ (pj r i)
section
variable{l:G'}{ys zs:L'}
def Inv.lset{f:Array Value->Array Value}(I:Inv X J W H s)(z:H l=some (.lst xs))
  (e:s.heap.get? l=some {cls:= .type gt,data:= .seq its.toArray n}) (hf:f its.toArray=its'.toArray) (G:J8 ys its') (hz:ys.length<=sizeLine):
  Inv X J W (upd H l<|.lst ys) {s with heap:=s.heap.update l (Obj.mapSeq f),toks:=t'}:=by
 have q:=PySem.IsL.update e f;rw[hf]at q;refine I.write (x:=l) (e:=l) (by rw[z];exact trivial) (.inl M) (λb' u hb hu=>(Xv s.heap (Obj.mapSeq f)<|Ne.symm hb).trans hu) {_,q} ?_;exact{hz,its',_,G,q}
def Inv.lnew(I:Inv X J W H s)(z:J8 ys its)(hz:ys.length<=sizeLine):
  Inv X J W (upd H s.heap.objs.size<|.lst ys) {s with heap:=s.heap.push {cls:= .type gt,data:= .seq its.toArray},toks:=t'}:=
 I.laid (λ_ _ q=>Xk _ q) (Q4 _) {hz,its,0,z,Xu _ M}
def Inv.fresh(I:Inv X J W H s):H s.heap.objs.size=none:=I.hok.fresh (Q4 _)
def Inv.lstM(I:Inv X J W H s)(G:H l=some (.lst xs)):xs.length<=sizeLine/\∃(its:Lz)(n:Nat),J8 xs its/\xs.length=its.length/\s.heap.get? l=some {cls:= .type gt,data:= .seq its.toArray n}:=by
 let{z,its,n,r,e}:=I.hok l _ G;exact⟨z,its,n,r,r.length,e⟩
end
inductive E1(x:V)(vs:L')(H:Hp)(Q:VK):Prop
 |mk(l xs y:_)(_:x= .ref l)(_:vs=[y])(_:H l=some (.lst xs))(_:xs.length<sizeLine)(_:Q .non (upd H l<|.lst<|xs++ [y]))
def fL:MtM X "list.append" E1:=by
 intro J s W H x vs v us Q I O S h;let{l,xs,y,rfl,rfl,G,hz,q}:=h;cases O;let{u,rfl,U}:=S.one;let{z,its,n,r,hl,e}:=I.lstM G;refine call_meets F.slot_list_append {_,e,M} F.entry_list_append (F.args_list_append_2 _ _) (PySem.list_append l its.toArray n u<|by rw[Qa];lia) {e,?_};refine{.non,_,I.lset (its':=its++ [u]) G e (by simp) (r.append<|.cons U .nil) ?_,M,q};rw[Qd,Z9];lia
inductive GZ(x:V)(vs:L')(H:Hp)(Q:VK):Prop
 |mk(l xs i k y:_)(_:x= .ref l)(_:vs=[.int i])(_:H l=some (.lst xs))(_: -(2^63)<=i)(_:i<2^63)(_:seqIndex? i xs.length=some k)(_:xs[k]?=some y)(_:Q y (upd H l<|.lst<|xs.eraseIdx k))
def wB:MtM X "list.pop" GZ:=by
 intro J s W H x vs v us Q I S U h;let{l,xs,i,k,y,rfl,rfl,O,h1,h2,hk,hy,q}:=h;cases S;let{u,rfl,Y}:=U.one;let{t,rfl}:=Y;let{z,its,n,r,hl,e}:=I.lstM O;let{w,hw,G}:=r.get hy;refine call_meets F.slot_list_pop {_,e,M} F.entry_list_pop (F.args_list_pop_2 _ _)
  (MeetsSeq.list_pop_at l its.toArray n i t k w (fitsIndex_both h1 h2) (by rwa[Qa,<-hl]) (by rwa[<-ZR])<|by rw[Qa];lia) {e,?_}
 refine{y,_,I.lset (its':=its.eraseIdx k) O e ?_ (r.eraseIdx k) ?_,G,q}
 .show its.toArray.eraseIdxIfInBounds k=(its.eraseIdx k).toArray;rw[X8]
 .have:=pj xs k;lia
inductive rCat(x y:V)(H:Hp)(Q:VK):Prop
 |mk(l b xs zs:_)(_:x= .ref l)(_:y= .ref b)(_:H l=some (.lst xs))(_:H b=some (.lst zs))(_:xs.length+zs.length<=sizeLine)(_:∀p,H p=none->Q (.ref p) (upd H p<|.lst<|xs++zs))
def yt:Kl X (binaryOp .Add) rCat:=by
 intro J s W H x y v u Q I O S h;let{l,b,xs,zs,rfl,rfl,U,Y,hz,q}:=h;cases O;cases S;let{z,its,n,r,hl,e}:=I.lstM U;let{z2,G,n2,Z,a0,e2}:=I.lstM Y;refine PySem.P.add_list e e2 ?_ (by rw[Qa,Qa];lia);have ea:its.toArray++G.toArray=(its++G).toArray:=by simp
 rw[ea];exact{.ref _,_,I.lnew (t':=s.toks) (r.append Z) (by rw[Qd];lia),M,q _ I.fresh}
section
variable{κ:Type}[DecidableEq κ]
noncomputable def a9(kvs:List (κ×V))(k:κ):Option V:=(kvs.find? λkv=>decide (kv.1=k)).map (·.2)
noncomputable def bF(kvs:List (κ×V))(k:κ)(v:V):List (κ×V):=
 if(kvs.any λkv=>decide (kv.1=k))=true then kvs.map (λkv=>if kv.1=k then(kv.1,v)else kv)else kvs++ [(k,v)]
noncomputable def jK(kvs:List (κ×V))(k:κ):List (κ×V):=kvs.filter λkv=>decide (kv.1≠k)
def mO{k:κ}:a9 ([]:List (κ×V)) k=none:=rfl
def bM{p:κ×V}{r:List (κ×V)}{k:κ}(e:p.1=k):a9 (p::r) k=some p.2:=by simp[a9,Zj,e]
def bN{p:κ×V}{r:List (κ×V)}{k:κ}(e:¬p.1=k):a9 (p::r) k=a9 r k:=by simp[a9,Zj,e]
theorem cw(k:κ):∀kvs:List (κ×V),(kvs.any λkv=>decide (kv.1=k))=(a9 kvs k).isSome
 | []=>rfl
 |p::r=>by
  rw[Zy];by_cases e:p.1=k
  .simp only[bM e,Xn e,Bool.true_or,Option.isSome_some]
  .rw[bN e,Xo e,Bool.false_or];exact cw k r
theorem vX(k j:κ)(y:V):∀kvs:List (κ×V),a9 (kvs.map λkv=>if kv.1=k then(kv.1,y)else kv) j=(a9 kvs j).map λx=>if j=k then y else x
 | []=>rfl
 |p::r=>by
  have G:=vX k j y r;rw[Qm];by_cases h:p.1=k
  .rw[Xm h];by_cases e:p.1=j
   .rw[bM (p:=(p.1,y)) e,bM e,ZQ,Xm (e.symm.trans h)]
   .rw[bN (p:=(p.1,y)) e,bN e,G]
  .rw[Xl h];by_cases e:p.1=j
   .rw[bM (p:=p) e,bM e,ZQ,Xl (λz=>h<|e.trans z)]
   .rw[bN (p:=p) e,bN e,G]
theorem t8(k j:κ)(y:V):∀kvs:List (κ×V),a9 kvs k=none->a9 (kvs++ [(k,y)]) j=if j=k then some y else a9 kvs j
 | [],_=>by
  by_cases e:k=j
  .rw[Xm e.symm];exact bM (p:=(k,y)) e
  .rw[Xl (λz=>e z.symm)];exact bN (p:=(k,y)) e
 |p::r,hn=>by
  rw[ZH];have hk:¬p.1=k:=λz=>by rw[bM z]at hn;cases hn
  rw[bN hk]at hn;have G:=t8 k j y r hn;by_cases e:p.1=j
  .rw[bM e,bM e,Xl (λz=>hk<|e.trans z)]
  .rw[bN e,bN e,G]
def eR(kvs:List (κ×V))(k j:κ)(y:V):a9 (bF kvs k y) j=if j=k then some y else a9 kvs j:=by
 unfold bF;by_cases a:(kvs.any λkv=>decide (kv.1=k))=true
 .rw[Xm a,vX];rw[cw]at a;by_cases e:j=k
  .let{x,hx}:=Option.isSome_iff_exists.mp a;rw[Xm e,e,hx,ZQ,Xm M]
  .rw[Xl e];cases a9 kvs j with
   |none=>rfl
   |some x=>rw[ZQ,Xl e]
 .rw[Xl a];refine t8 k j y kvs ?_;rw[cw]at a;cases q:a9 kvs k with
  |none=>rfl
  |some x=>rw[q]at a;exact(a M).elim
def eU(kvs:List (κ×V))(k:κ)(v:V):(bF kvs k v).length<=kvs.length+1:=by
 unfold bF;split
 .rw[Q2];lia
 .rw[Qd,Q9,Xe];lia
def Cw{kvs:List (κ×V)}{k:κ}(v:V)(h:a9 kvs k=none):bF kvs k v=kvs++ [(k,v)]:=by
 unfold bF;rw[cw,h];exact Xl (_)
def K2.isSome_eq{u:My}(r:K2 o u):o.isSome=u.isSome:=by
 cases o with
 |none=>cases u with
  |none=>rfl
  |some _=>exact(show False from r).elim
 |some _=>cases u with
  |none=>exact(show False from r).elim
  |some _=>rfl
def KV.val{kvs:List (κ×V)}{vs:List (κ×Value)}(r:KV kvs vs)(k:κ):K2 (a9 kvs k) (valueAt vs k):=by
 unfold KV at r
 induction r with
 |nil=>exact Xx
 | @cons p q ps G h t O=>
  let{h1,h2}:=h;by_cases e:p.1=k
  .have I:q.1=k:=h1.symm.trans e;have b:valueAt (q::G) k=some q.2:=by simp[valueAt,Zj,I]
   rwa[bM e,b]
  .have I:¬q.1=k:=λz=>e (h1.trans z);have b:valueAt (q::G) k=valueAt G k:=by simp[valueAt,Zj,I]
   rwa[bN e,b]
def KV.any{kvs:List (κ×V)}{vs:List (κ×Value)}(r:KV kvs vs)(k:κ):(kvs.any λkv=>decide (kv.1=k))=vs.any λkv=>decide (kv.1=k):=by
 unfold KV at r
 induction r with
 |nil=>rfl
 |cons h t z=>rw[Zy,Zy,z,h.1]
def KV.repl{kvs:List (κ×V)}{vs:List (κ×Value)}(r:KV kvs vs)(k:κ)(G:RelV y u):
  KV (kvs.map λkv=>if kv.1=k then(kv.1,y)else kv) (vs.map λkv=>if kv.1=k then(kv.1,u)else kv):=by
 unfold KV at r⊢
 induction r with
 |nil=>exact .nil
 | @cons p q ps O h t I=>
  rw[Qm,Qm];refine .cons ?_ I;let{h1,h2}:=h;by_cases e:p.1=k
  .rw[Xm e,Xm (h1.symm.trans e)];exact⟨h1,G⟩
  .rw[Xl e,Xl (λz=>e<|h1.trans z)];exact⟨h1,h2⟩
def KV.put{kvs:List (κ×V)}{vs:List (κ×Value)}(r:KV kvs vs)(k:κ)(z:RelV y u):KV (bF kvs k y) (stored vs k u):=by
 unfold bF stored;rw[r.any k];by_cases e:(vs.any λkv=>decide (kv.1=k))=true
 .rw[Xm e,Xm e];exact r.repl k z
 .rw[Xl e,Xl e];exact Paired.snoc r ⟨M,z⟩
def KV.drop{kvs:List (κ×V)}{vs:List (κ×Value)}(r:KV kvs vs)(k:κ):KV (jK kvs k) (without vs k):=by
 unfold KV at r⊢;unfold jK without
 induction r with
 |nil=>exact .nil
 | @cons p q ps O h t G=>
  let{h1,h2}:=h;rw[Zd,Zd];by_cases e:p.1=k
  .have a:¬decide (p.1≠k)=true:=by simp[e]
   have b:¬decide (q.1≠k)=true:=by simp[h1.symm.trans e]
   rwa[Xl a,Xl b]
  .have I:¬q.1=k:=λz=>e (h1.trans z);have a:decide (p.1≠k)=true:=by simp[e]
   have b:decide (q.1≠k)=true:=by simp[I]
   rw[Xm a,Xm b];exact .cons ⟨h1,h2⟩ G
def KV.length{kvs:List (κ×V)}{vs:List (κ×Value)}(r:KV kvs vs):kvs.length=vs.length:=Paired.length r
def DI(kvs:List (κ×V))(k:κ):(jK kvs k).length<=kvs.length:=QO _ _
end
def nP{k:Key}(r:RelV (kV k) u):(bD P w).is k u=true:=by
 cases k with
 |inl i=>let{t,e}:=(show ∃t,u=Value.int i t from r);subst e;exact wF P w i t
 |inr x=>let{t,e}:=(show ∃t,u=Value.str x t from r);subst e;exact kg P w x t
theorem ur{P:Mc}{w:Md}:∀{ks:List Key}{us:Lz},J8 (ks.map kV) us->ItemsAre (bD P w) ks us
 | [],_,r=>by rw[X4]at r;cases r;exact .nil
 |k::ks,_,r=>by
  rw[Qm]at r;cases r with
  |cons h t=>exact .cons (nP h)<|ur t
abbrev KT(H:Hp):List (List Key×V)->List (List Key×Addr×Value)->Prop:=Paired λp q=>p.1=q.1/\H q.2.1=some (.tup<|p.1.map kV)/\RelV p.2 q.2.2
abbrev _root_.MI:=List (List Key×Addr×Value)
def KT.val{kvs:Mz}{xs:MI}(r:KT H kvs xs)(k:List Key):K2 (a9 kvs k) ((atKey xs k).map (·.2)):=by
 induction r with
 |nil=>exact Xx
 | @cons p q ps G h t O=>
  let{h1,_,h2}:=h;by_cases e:p.1=k
  .have I:q.1=k:=h1.symm.trans e;have b:atKey (q::G) k=some q.2:=by simp[atKey,Zj,I]
   rwa[bM e,b]
  .have I:¬q.1=k:=λz=>e (h1.trans z);have b:atKey (q::G) k=atKey G k:=by simp[atKey,Zj,I]
   rwa[bN e,b]
def KT.repl{kvs:Mz}{xs:MI}(r:KT H kvs xs)(k:List Key)(G:RelV y u):
  KT H (kvs.map λkv=>if kv.1=k then(kv.1,y)else kv) (xs.map<|putAt k u):=by
 induction r with
 |nil=>exact .nil
 | @cons p q ps S h t I=>
  rw[Qm,Qm];refine .cons ?_ I;let{h1,h2,O}:=h;unfold putAt;by_cases e:p.1=k
  .rw[Xm e,Xm (h1.symm.trans e)];exact⟨h1,h2,G⟩
  .rw[Xl e,Xl (λz=>e<|h1.trans z)];exact⟨h1,h2,O⟩
def KT.put{kvs:Mz}{xs:MI}(r:KT H kvs xs)(k:List Key)(hb:H b=some (.tup<|k.map kV))(z:RelV y u):
  KT H (bF kvs k y) (storedH xs k b u):=by
 have e:(kvs.any λkv=>decide (kv.1=k))=(atKey xs k).isSome:=by
  rw[cw,(r.val k).isSome_eq,Zs]
 unfold bF storedH;rw[e];by_cases q:(atKey xs k).isSome=true
 .rw[Xm q,Xm q];exact r.repl k z
 .rw[Xl q,Xl q];exact Paired.snoc r ⟨M,hb,z⟩
def KT.keeps{kvs:Mz}{xs:MI}(r:KT H kvs xs)(G:∀b ys,H b=some (.tup ys)->H' b=some (.tup ys)):KT H' kvs xs:=
 Paired.mapP r λ_ _ z=>{z.1,G _ _ z.2.1,z.2.2}
section
variable{h:Heap}
def Go{u:HO}(ok:JZ P w H h)(e:Rd H a u):JE P w H h a u:=e.ok ok
def uy(ok:JZ P w H h)(e:Rd H a (.dK kvs)):kvs.length<=sizeLine/\(a==sysModules)=false/\∃vs,KV kvs vs/\h.DictOf (bD P w) a vs:=
 show JE P w H h a (.dK kvs) from Go ok e
def pI(ok:JZ P w H h)(e:H a=some (.dK kvs)):kvs.length<=sizeLine/\(a==sysModules)=false/\∃vs,KV kvs vs/\h.DictOf (bD P w) a vs:=uy ok (.inl e)
def sk{ks:List Key}(ok:JZ P w H h)(e:H a=some (.tup<|ks.map kV)):(tupleKind<|bD P w).is h ks a:=by
 let{_,its,r,o,h1,h2,n,z}:=(show JE P w H h a (.tup<|ks.map kV) from ok a _ e);exact{o,its.toArray,n,h1,h2,z,by simpa using ur r}
def w6{kvs:Mz}(ok:JZ P w H h)(e:Rd H a (.dT kvs)):kvs.length<=sizeLine/\(a==sysModules)=false/\
  ∃xs,KT H kvs xs/\h.DictOfH (tupleKind<|bD P w) a xs:=by
 let{z,y,xs,r,o,es,ep,h1,h2,G,I,O}:=(show JE P w H h a (.dT kvs) from Go ok e);refine{z,y,xs,r,o,es,ep,h1,h2,G,I,λx hx=>?_,O};have all:∀{l:Mz}{m:MI},KT H l m->∀x∈m,(tupleKind<|bD P w).is h x.1 x.2.1:=by
  intro l m q
  induction q with
  |nil=>intro x hx;exact nomatch hx
  | @cons p q ps U hq t S=>
   intro x hx;rcases Qc.mp hx with e|hx
   .subst e;exact sk ok<|by rw[<-hq.1];exact hq.2.1
   .exact S x hx
 exact all r x hx
def Jb{kvs:Mz}(ok:JZ P w H h)(e:H a=some (.dT kvs)):kvs.length<=sizeLine/\(a==sysModules)=false/\
  ∃xs,KT H kvs xs/\h.DictOfH (tupleKind<|bD P w) a xs:=w6 ok (.inl e)
end
def KJ(H:Hp)(a:G')(y:V)(r:Option V):Prop:=
 (∃kvs k,Rd H a (.dK kvs)/\y=kV k/\r=a9 kvs k)\/∃kvs k b,Rd H a (.dT kvs)/\y= .ref b/\H b=some (.tup<|k.map kV)/\r=a9 kvs k
def L4(H:Hp)(a:G')(y v:V)(H':Hp):Prop:=
 (∃kvs k,H a=some (.dK kvs)/\y=kV k/\kvs.length<sizeLine/\H'=upd H a (.dK<|bF kvs k v))\/
 ∃kvs k b,H a=some (.dT kvs)/\y= .ref b/\H b=some (.tup<|k.map kV)/\kvs.length<sizeLine/\H'=upd H a (.dT<|bF kvs k v)
def KJ.k{k:Key}(e:H a=some (.dK kvs)):KJ H a (kV k) (a9 kvs k):= .inl {kvs,k,.inl e,M,M}
def L4.k{k:Key}{v:V}(e:H a=some (.dK kvs))(hl:kvs.length<sizeLine):L4 H a (kV k) v (upd H a<|.dK<|bF kvs k v):= .inl ⟨kvs,k,e,M,hl,M⟩
section
variable{v:V}{r:K'}
def Inv.big(I:Inv X J W H s):sysModules<s.heap.objs.size:=by
 have h:mainGlobals<s.heap.objs.size:=(I.mod.glob.keeps I.bk).lt;exact Nat.lt_trans (_) h
def uB(hu:A.units+1<cLine)(I:Inv X J W H s)(g:KJ H a y (some v))(Y:RelV y u)(h:∀w' s',Inv X J W H s'->RelV v w'->Q w' s'):
  wpAny (model X.prog X.w) A (getItem (.ref a) u) Q E s:=by
 rcases g with⟨kvs,k,e,S,l⟩|⟨kvs,k,b,e,S,Z,l⟩
 .subst S;let{z,hd,vs,G,dd}:=uy I.hok e;let{w',hw,O}:=K2.some_of (v:=v) (o:=valueAt vs k) (by rw[l];exact G.val k);exact wpAny_getItem_of (nP Y) dd.mapOf hw<|h w' _ (I.tok _) O
 .subst S;cases (show u=Value.ref b from Y);let{z,hd,xs,G,dd}:=w6 I.hok e;let{w',hw,O}:=K2.some_of (v:=v) (o:=(atKey xs k).map (·.2)) (by rw[l];exact G.val k);let{p,hp,U}:=Z4.mp hw;refine wpAny_getItem_heap (tupleKind_room_in1 hu) (sk I.hok Z) dd hp ?_;rw[U];exact h w' _ (I.tok _) O
def d_in(hu:A.units+1<cLine)(I:Inv X J W H s)(g:KJ H a y o)(S:RelV y u)(h:∀s',Inv X J W H s'->Q (.bool o.isSome) s'):
  wpAny (model X.prog X.w) A (compareOp .In u<|.ref a) Q E s:=by
 rcases g with⟨kvs,k,e,O,l⟩|⟨kvs,k,b,e,O,U,l⟩
 .subst O;let{z,hd,vs,G,dd}:=uy I.hok e;refine wpAny_in_of (nP S) hd dd.mapOf ?_;rw[<-(G.val k).isSome_eq,<-l];exact h _<|I.tok _
 .subst O;cases (show u=Value.ref b from S);let{z,hd,xs,G,dd}:=w6 I.hok e;refine wpAny_in_heap (tupleKind_room_in1 hu) (sk I.hok U) hd dd ?_;have q:=(G.val k).isSome_eq;rw[Zs]at q;rw[<-q,<-l];exact h _<|I.tok _
def FM(hu:A.units+1<cLine)(I:Inv X J W H s)(g:KJ H a y o)(S:RelV y u)(h:∀s',Inv X J W H s'->Q (.bool<|!o.isSome) s'):
  wpAny (model X.prog X.w) A (compareOp .NotIn u<|.ref a) Q E s:=by
 rcases g with⟨kvs,k,e,O,l⟩|⟨kvs,k,b,e,O,U,l⟩
 .subst O;let{z,hd,vs,G,dd}:=uy I.hok e;refine wpAny_notIn_of (nP S) hd dd.mapOf ?_;rw[<-(G.val k).isSome_eq,<-l];exact h _<|I.tok _
 .subst O;cases (show u=Value.ref b from S);let{z,hd,xs,G,dd}:=w6 I.hok e;refine wpAny_notIn_heap (tupleKind_room_in1 hu) (sk I.hok U) hd dd ?_;have q:=(G.val k).isSome_eq;rw[Zs]at q;rw[<-q,<-l];exact h _<|I.tok _
def qw{ob:HO}(I:Inv X J W H s)(G:Mut (H a))(hs:Heap.SameBut a s.heap h')(he:∃q,h'.get? a=some q)(new:JE X.prog X.w (upd H a ob) h' a ob):
  Inv X J W (upd H a ob) {s with heap:=h',toks:=t'}:=
 I.write (x:=a) (e:=a) G (.inl M) (λb q hb z=>(hs.2 b hb).trans z) he new
def yN(z:kvs.length<=sizeLine)(hd:(a==sysModules)=false)(G:KV kvs vs)(dd:h'.DictOf (bD P w) a vs):
  JE P w H' h' a (.dK kvs):=⟨z,hd,vs,G,dd⟩
def uA{Q:Mx}(hu:A.units+1<cLine)(I:Inv X J W H s)(g:L4 H a y v H')(U:RelV y u)(Y:RelV v r)(h:∀s',Inv X J W H' s'->Q Unit.unit s'):
  wpAny (model X.prog X.w) A (setItem (.ref a) u r) Q E s:=by
 rcases g with⟨kvs,k,e,O,l,S⟩|⟨kvs,k,b,e,O,Z,l,S⟩
 .subst O S;let{z,hd,vs,G,dd}:=pI I.hok e;have hz:vs.length<=sizeLine:=by rwa[<-G.length]
  have hl:(bF kvs k v).length<=sizeLine:=by have:=eU kvs k v;lia
  refine wpAny_setItem_pairs (hsz:=hz) (nP U) dd λh' dd' hs=>h _ ?_;have he:∃q,h'.get? a=some q:=by let{q,_,_,hq,_}:=dd';exact⟨q,hq⟩
  exact qw I (by rw[e];exact Xx) hs he<|yN hl hd (G.put k Y) dd'
 .subst O S;cases (show u=Value.ref b from U);let{z,hd,xs,G,dd}:=Jb I.hok e;have hz:xs.length<=sizeLine:=by rwa[<-Paired.length G]
  have hl:(bF kvs k v).length<=sizeLine:=by have:=eU kvs k v;lia
  refine wpAny_setItem_heap (hsz:=hz) (tupleKind_room_in1 hu) (sk I.hok Z) dd λh' dd' hs=>h _ ?_;let{q,es,ep,hq,h2,h3,h4,_,h5}:=dd';refine qw I (by rw[e];exact Xx) hs ⟨q,hq⟩ {hl,hd,_,(G.put k Z Y).keeps λc ys ec=>?_,q,es,ep,hq,h2,h3,h4,h5};rwa[ae (cm ec e<|λz=>nomatch z)]
end
section
variable{k:Key}
def Jd{v:V}{G:Lz}(I:Inv X J W H s)(e:H a=some (.dK kvs))(S:RelV (kV k) u)(l:a9 kvs k=some v)(Y:G=[]\/∃x,G=[x])
  (h:∀w' s',Inv X J W (upd H a<|.dK<|jK kvs k) s'->RelV v w'->Q w' s'):wpAny (model X.prog X.w) A (call (.builtin "dict.pop") (.ref a::u::G)) Q E s:=by
 let{z,hd,vs,O,dd}:=pI I.hok e;let{w',hw,U}:=K2.some_of (v:=v) (o:=valueAt vs k) (by rw[<-l];exact O.val k);have hp:(keyPart u).isSome=true:=by
  cases k with
  |inl i=>let{t,q}:=(show ∃t,u=Value.int i t from S);subst q;rfl
  |inr x=>let{t,q}:=(show ∃t,u=Value.str x t from S);subst q;rfl
 have ha:argsOk "dict.pop" {.ref a::u::G,[]}:=by
  rcases Y with q|⟨x,q⟩
  .subst q;exact PySem.F.args_dict_pop_2 _ _
  .subst q;exact PySem.F.args_dict_pop_3 _ _ _
 refine XV PySem.F.slot_dict_pop dd.typeIs PySem.F.entry_dict_pop ha (meets_dict_pop_there (bD X.prog X.w) a (nP S) G Y hp)
  {vs,w',dd,by rwa[<-O.length],hw,λh' dd' hs=>h w' _ ?_ U}
 have he:∃q,h'.get? a=some q:=by let{q,_,_,hq,_}:=dd';exact⟨q,hq⟩
 exact qw I (by rw[e];exact Xx) hs he<|yN (Qr (DI kvs k) z) hd (O.drop k) dd'
end
def HU(i:Expr):Prop:=∀ov iv,subscripted i false ov iv=operate [ov,iv] (getItem ov iv)
def zb{prog:Mc}{env:Env}{value z:Expr}{id:String} 
  (hl:typeLookup (.type T) "__getitem__"=pure (some<|.builtin id)) (hs:HU z)
  (h:wpAny (model prog w) A (eval value env) (λo s₁=>wpAny (model prog w) A (eval z env) (λi s₂=>s₂.TypeIs o T/\wpAny (model prog w) A (getItem o i) Q E s₂) E s₁) E s):
  wpAny (model prog w) A (eval (.Subscript value z pos) env) Q E s:=by
 refine Subscript_<|XA h (λo s₁ h₁=>XA h₁ (λi s₂ G=>?_) λ_ _ x=>x) λ_ _ x=>x;let{S,G}:=G;unfold subscriptTail;refine Xj ?_;rw[getitemInPython_of_ne S.not_modules];refine Xj<|wpAny_specialOf S hl ?_;have fin:wpAny (model prog w) A (subscripted z false o i) (λr I=>wpAny (model prog w) A (letTemporaryGo value o r>>=λ_=>pure r) Q E I) E s₂:=by
  rw[hs o i];exact wpAny_operating (XA G (λr I O=>Xj<|wpAny_letTemporaryGo<|Xr O) λ_ _ x=>x)
 first
  |exact Xr<|Xj fin
  |exact Xj<|Xr (Xj fin)
  |exact Xj fin
def xa(I:Inv X J W H s)(g:KJ H a y o):s.TypeIs (.ref a) "dict":=by
 rcases g with⟨kvs,k,e,_,_⟩|⟨kvs,k,b,e,_,_,_⟩
 .let{_,_,vs,_,dd}:=uy I.hok e;exact dd.typeIs
 .let{_,_,xs,_,dd}:=w6 I.hok e;exact dd.typeIs
inductive GN(Q:VK)(x y:V)(H2:Hp):Prop
 |mk(a v:_)(_:x= .ref a)(_:KJ H2 a y (some v))(_:Q v H2)
def Iu(td ty:TE):TE:=λW H Q=>td W H λx H1=>ty W H1 λy H2=>GN Q x y H2
inductive Ir(Q:VK)(y x:V)(H2:Hp):Prop
 |mk(a o:_)(_:x= .ref a)(_:KJ H2 a y o)(_:Q (.bl o.isSome) H2)
def tDIn(ty td:TE):TE:=λW H Q=>ty W H λy H1=>td W H1 λx H2=>Ir Q y x H2
def EJ(ty td:TE):TE:=λW H Q=>ty W H λy H1=>td W H1 λx H2=>∃a o,x= .ref a/\KJ H2 a y o/\Q (.bl<|!o.isSome) H2
inductive GX(D:KN)(W:St)(v x y:V)(H3:Hp):Prop
 |mk(a H4:_)(_:x= .ref a)(_:L4 H3 a y v H4)(_:D.nx W H4)
def IC(td ty tv:TE):TS:=λD W H=>tv W H λv H1=>td W H1 λx H2=>ty W H2 λy H3=>GX D W v x y H3
def ID(td ty tv:TE)(rd:V->V->Hp->VK->Prop):TS:=λD W H=>td W H λx H1=>ty W H1 λy H2=>∃a v,x= .ref a/\KJ H2 a y (some v)/\
 tv W H2 λy2 H3=>rd v y2 H3 λz H4=>∃H5,L4 H4 a y z H5/\D.nx W H5
section
variable{o i value:Expr}{pos' tpos:Pos}{td ty tv:TE}
def u8(hu:X.A.units+1<cLine)(ho:PE X o td)(hi:PE X i ty)(hs:HU i):PE X (.Subscript o i pos) (Iu td ty):=by
 intro J s W H Q I h;refine zb PySem.F.slot_dict_getitem.lookup hs<|JD (ho J s W H _ I h) λu s1 zz=>?_;let{x,H1,S,U,Y}:=zz;refine JD (hi J s1 W H1 _ S Y) λiv s2 z=>?_;let{y,H2,O,Z,a,v,ex,g,q2}:=z;subst ex;obtain rfl:u=Value.ref a:=U;exact{xa O g,uB hu O g Z λw' s3 I3 G=>⟨v,H2,I3,G,q2⟩}
def CL(hu:X.A.units+1<cLine)(hi:PE X i ty)(ho:PE X o td):PC X .In i o (tDIn ty td):=by
 intro J s W H Q I h;refine JD (hi J s W H _ I h) λiv s1 zz=>?_;let{y,H1,G,O,S}:=zz;refine JD (ho J s1 W H1 _ G S) λu s2 z=>?_;let{x,H2,U,Y,a,Z,ex,g,q2}:=z;subst ex;obtain rfl:u=Value.ref a:=Y;exact d_in hu U g O λs3 I3=>{.bl Z.isSome,H2,I3,M,q2}
def oX(hu:X.A.units+1<cLine)(hi:PE X i ty)(ho:PE X o td):PC X .NotIn i o (EJ ty td):=by
 intro J s W H Q I h;refine JD (hi J s W H _ I h) λiv s1 zz=>?_;let{y,H1,G,O,S}:=zz;refine JD (ho J s1 W H1 _ G S) λu s2 z=>?_;let{x,H2,U,Y,a,Z,ex,g,q2}:=z;subst ex;obtain rfl:u=Value.ref a:=Y;exact FM hu U g O λs3 I3=>{.bl<|!Z.isSome,H2,I3,M,q2}
def uY(hu:X.A.units+1<cLine)(ho:PE X o td)(hi:PE X i ty)(G:PE X value tv)(hs:swapsWith value (some<|.Subscript o i pos') pos.line X.env=pure false):
  PS X (.Assign [.Subscript o i pos'] value pos) (IC td ty tv):=by
 intro J s W H D I h;refine wpAny_Assign_Subscript (JD (G J s W H _ I h) λr s1 zz=>?_) hs;let{v,H1,O,S,U}:=zz;refine JD (ho J s1 W H1 _ O U) λu s2 zz=>?_;let{x,H2,Y,Z,q2}:=zz;refine JD (hi J s2 W H2 _ Y q2) λiv s3 z=>?_;let{y,H3,I3,ry,a,H4,ex,g,q3}:=z;subst ex;obtain rfl:u=Value.ref a:=Z;exact uA hu I3 g ry S λs4 I4=>⟨W,H4,I4,q3⟩
def E5{op:Operator}(hu:X.A.units+1<cLine)(ho:PE X o td)(hi:PE X i ty)(hv:PE X value tv)(U:F6 X op rd)
  (ha:∀S O new,augStore i S O new=(do holding [new,S,O] (setItem S O new);release [new,S,O] [];pure .next)):PS X (.AugAssign (.Subscript o i tpos) op value pos) (ID td ty tv rd):=by
 intro J s W H D I h;refine wpAny_AugAssign_SubscriptAny (JD (ho J s W H _ I h) λu s1 zz=>?_) ha;let{x,H1,I1,rx,q1}:=zz;refine JD (hi J s1 W H1 _ I1 q1) λO s2 G=>?_;let{y,H2,I2,ry,a,v,ex,g,q2}:=G;subst ex;obtain rfl:u=Value.ref a:=rx;refine uB hu I2 g ry λw' s3 I3 Y=>JD (hv J s3 W H2 _ I3 q2) λw2 s4 zz=>?_;let{y2,H3,I4,Z,q3}:=zz;refine JD (U J s4 W H3 v y2 w' w2 _ I4 Y Z q3) λw3 s5 G=>?_;let{z,H4,I5,rz,H5,g5,q4}:=G;exact uA hu I5 g5 ry rz λs6 I6=>⟨W,H5,I6,q4⟩
end
def w9(h:Heap)(hb:sysModules<h.objs.size):JE P w H (h.push {cls:= .type "dict",data:= .dict #[]}) h.objs.size (.dK []):=
 {Ql _,Xy.mpr<|Ne.symm<|Qn hb,[],.nil,Heap.DictOf.new h}
def GM:TE:=λ_ H Q=>∀p,H p=none->Q (.ref p) (upd H p<|.dK [])
def iO:PE X (.Dict [] [] pos) GM:=λJ s W H Q I h=>
 wpAny_Dict_empty {.ref s.heap.objs.size,_,I.laid (a:=s.heap.objs.size) (o:= .dK []) (t':=s.toks) (λ_ _ q=>Xk _ q) (Q4 _)<|w9 s.heap I.big,M,h _<|I.hok.fresh (Q4 _)}
end L2
namespace Att
open PySem PySem.W PySem.Calls PyProof.Rows
variable{h:Heap}{n:Nat}{l:OpenLaw}{P:Params}{YP:World->Heap->Prop}
def qi:∀(ns:Mb)(vs:Lz),WellAll P h vs (ns.map WData.int)->IntsAre vs ns:=by
 intro ns
 induction ns with
 |nil=>
  intro vs w;rw[X4]at w;cases w;exact .nil
 |cons n ns z=>
  intro vs w;rw[Qm]at w;cases w with
  |cons a b=>
   cases a;exact .cons _ _<|z _ b
def AC(hn:l.most=some n){args:List WData}{z:Lz}
  (G:l.row.toRowW.claim.pre args=true) (Y:WellAll P h z args):
  ∃a vs ns,z=[Value.ref a]/\args=[WData.list (ns.map WData.int)]/\h.get? a=some {cls:= .type gt,data:= .seq vs.toArray}/\IntsAre vs ns/\ns.length<=n:=by
 have Z:WShape.hasAll [] args [.list .int]=true:=(pre_splitW G).1;have hc:l.pre.holds [] {args:=args}=true:=(pre_splitW G).2;let{d,r,rfl,h1,h2}:=hasAllW_cons Z;obtain rfl:=hasAllW_nil h2;let{xs,rfl,h3}:=hasW_list h1;let{ns,rfl}:=items_int h3;have I:ns.length<=n:=by
  unfold OpenLaw.pre at hc;have S:(WTm.not<|.lt (.lit<|.int (n:Int))<|.len<|.arg 0).holds [] {args:=[.list (ns.map .int)]}=true:=by
   have S:=(holds_andW hc).1;rw[hn]at S;exact S
  have U:=condW_of S (w_not<|w_lt w_lit<|w_len_list<|w_arg M);rw[Q2]at U;refine Nat.le_of_not_lt λq=>?_;have q':(n:Int)<((ns.length:Nat):Int):=()
  first
   |(rw[Xn q']at U;exact Xp U (_))
   |(simp at U;lia)
 cases Y with
 |cons w1 w2=>
  cases w2;cases w1 with
  |list ho O=>exact{_,_,ns,M,M,ho,qi ns _ O,I}
def AF(l:OpenLaw)(args:List WData):l.row.toRowW.claim.post args (.bool true) args=true:=
 postW_of (r:=l.row.toRowW) (X:=(true==true))
  (show WShape.has [] (.bool true) .bool=true by first|rfl|decide|simp[WShape.has,WShape.arms,WShape.armsAll])
  (show(WTm.eq .res<|.lit<|.bool true).value [] {args:=args,res:=some (.bool true),after:=args}=some (.bool<|true==true) from w_eq_bool (w_res M) w_lit) M
def attach_call{q:Mc}{loose:Mf}{XP:(Str->Option Value)->Heap->Prop}{d:DefRec}
  (hn:l.most=some n) (a0:d.params.defaults=[])
  (call:∀(w:Md)(s₀ s₁:J')(mg mb:Mm)(O:G')(o:Obj)(pm cd z:K')(a:G')(vs:Lz)(ns:Mb),
   Ground q loose [] XP w s₀ mg mb s₁.heap->YP w s₁.heap->
   s₁.heap.get? O=some o->o.data= .func (docDef d.name d.params d.body d.scope pm cd z)->s₁.heap.CodeRec cd d.name->mg d.name=some (.ref O)->
   s₁.heap.get? a=some {cls:= .type gt,data:= .seq vs.toArray}->IntsAre vs ns->ns.length<=n->s₁.gens= #[]->
   codeAny (model l.prog w) callerA (.call (.ref O) {[.ref a],[]}) (λr s'=>r= .ok (.ret<|.bool true)/\OldK s₁.heap s'.heap/\s'.os=s₁.os/\AllBare s'.gens) s₁):
  WalkO q loose XP YP l.row.toRowW d [] (λf vs=>PySem.call f vs):=by
 intro w s₀ s₁ mg mb G Y O o pm cd z dV kV ho hd a1 hD a2 hg args a5 as S a6 a8 a3 ac;obtain rfl:dV= .none:=Dflts.none hD a0;obtain rfl:kV= .none:=Dflts.noKw hD;let{a,vs,ns,rfl,rfl,U,I,Z}:=AC hn S a3;refine enter_call<|codeAny_mono (call w s₀ s₁ mg mb O o pm cd z a vs ns G Y ho (fd_plain hd) a1 a2 U I Z hg) λr s' hq=>?_;let{rfl,h2,h3,h4}:=hq;exact{.inl {.bool true,.bool true,[],M,λ_=>M,.bool true,AF l _,λ_=>{XS,λ_ hm=>(nomatch hm)}},h2,h3,h4}
end Att
namespace L2
open PySem PySem.Spec PyProof.Rows
variable{a f:G'}{X:Cx}{fd:Mq}{base:Heap}{H:Hp}{ns:Mb}{N:Mf}{vs:Lz}{n:Nat}{P:Mc}{A B c:Prop}{K:J4}{sp:Sp}{W:St}{st:Stmt}{qual x:Str}{nx:MA}{g:TG}{tb:TS}{Φ:TS->Prop}{F:TS->TS}{rt:VK}{w:Md}{YP:World->Heap->Prop}
def Al(h:IntsAre vs ns):J8 (ns.map V.int) vs:=by
 induction h with
 |nil=>exact .nil
 |cons n t h z=>exact .cons ⟨t,M⟩ z
def HS(H:Hp):Prop:=∀b,H b=none\/∃o xs,H b=some (.frz o<|.lst xs)
def Dl{mg mb:Mm}{CX:CXT}{k:Nat}{fa:G'}{s₁:J'} 
  (KX:K.In s₁.heap) (U:s₁.heap.Ns mainGlobals mg) (hb:s₁.heap.Ns builtinsNs mb) (a2:∀x:Str,x≠"__name__"->mb x=bootBuiltins x) (Y:s₁.heap.NoLimit) (hg:s₁.gens= #[])
  (ha:s₁.heap.get? a=some {cls:= .type gt,data:= .seq vs.toArray}) (hi:IntsAre vs ns) (hl:ns.length<=sizeLine) (hr:JI k callerA)
  (F:∀base:Heap,K.In base->base.Ns mainGlobals mg->J9 P w K mg base CX k fa fd [x] sp) (S:∀(s:J')(u:K'),BindsTo s fd {[u],[]} [(x,u)])
  (a3:∀H:Hp,HS H->JC K H a (ns.map V.int)->sp [.ref a] H (λv _=>v= .bl true) λ_ _ _=>False)
  (a5:∀H e s',CX [] H s₁ (λ_ _ _=>False) e s'->False):
  codeAny (model P w) callerA (.call (.ref fa) {[.ref a],[]}) (λr s'=>r= .ok (.ret<|.bool true)/\OldK s₁.heap s'.heap/\s'.os=s₁.os/\AllBare s'.gens) s₁:=by
 have rv:=Al hi;have Z:=hi.length;have O:∀H:Hp,HS H->JC K H a (ns.map V.int)->JZ P w H s₁.heap->(∀b,H b≠none->b=a)->(H a≠none->K.lookup a=none)->
   codeAny (model P w) callerA (.call (.ref fa) {[.ref a],[]}) (λr s'=>r= .ok (.ret<|.bool true)/\OldK s₁.heap s'.heap/\s'.os=s₁.os/\AllBare s'.gens) s₁:=by
  intro H hO hS hok hA hK;have G:∀{b:G'}{o:Obj},s₁.heap.get? b=some o->H b=none->(vv s₁.heap H).get? b=some o:=λe n=>Dz e n;have a6:∀{b:G'}{o:Obj}{es:Array DictEntry}{ep:Nat},s₁.heap.get? b=some o->o.data= .dict es ep->H b=none:=λ{b o es ep} e d=>by
   cases q:H b with
   |none=>rfl
   |some u=>
    have e':b=a:=hA b (by rw[q];simp);subst e';rw[ha]at e;cases e;have d':Data.seq vs.toArray _=Data.dict es ep:=d;cases d'
  have I:∀{b:G'}{m:Mm},s₁.heap.Ns b m->(vv s₁.heap H).Ns b m:=λ{b m} ⟨o,es,ep,e,d,r⟩=>{o,es,ep,G e<|a6 e d,d,r};have a0:K.In (vv s₁.heap H):=λb o e=>G (KX b o e) (by
   cases q:H b with
   |none=>rfl
   |some u=>
    have e':b=a:=hA b (by rw[q];simp);subst e';rw[hK (by rw[q];simp)]at e;cases e)
  have hM:Mod K mg (vv s₁.heap H):={a0,I U,{mb,I hb,a2},let⟨mc,h1,h2⟩:=Y;{mc,I h1,h2}};have e0:L8 P w K mg (vv s₁.heap H) callerA [] s₁ H:={M,hM,λb o e=>Fd e,Zr<|Bh _ _,trivial,λb hb=>Xp (show b∈([]:Mh) from hb) (by simp),hok,.of_eq hg};refine codeAny_mono ((F _ a0<|I U).run callerA [] s₁ H {[.ref a],[]} [.ref a] [.ref a] _ _ hr e0 (S s₁<|.ref a) (.cons M .nil)<|a3 H hO hS) λr s' h=>?_;cases r with
  |error e=>exact(a5 H e s' h).elim
  |ok fl=>
   cases fl with
   |next=>exact False.elim h
   |brk=>exact False.elim h
   |cont=>exact False.elim h
   |ret u=>
    let{v,H',os,bare,un,a1,r',q}:=h;have q':v= .bl true:=q;subst q';obtain rfl:u=Value.bool true:=r';refine{M,OldK.of_keep λb o e=>?_,os,bare};cases q:H b with
    |none=>exact un.keep b o e q (by intro z;exact Xp (show b∈([]:Mh) from z)<|by simp)<|by simp
    |some u=>
     rcases hO b with z|⟨ob,xs,z⟩
     .rw[q]at z;cases z
     .have z2:=un.frzs b ob _ z;let{e1,_}:=hok b _ z;let{e2,_}:=a1 b _ z2;rw[e]at e1;cases e1;exact e2
 cases hk:K.lookup a with
 |some o=>
  have e:=KX a o hk;rw[ha]at e;cases e;refine O (λ_=>none) (λ_=> .inl M) (.inr {_,vs.toArray,_,hk,M,M,M,by rwa[Qa,Z],by simpa using rv}) (λb u z=>by have z':(none:Option HO)=some u:=z;cases z') (λb z=>Xp M z) λz=>Xp M z
 |none=>
  refine O (λb=>if b=a then some (.frz {cls:= .type gt,data:= .seq vs.toArray} (.lst<|ns.map V.int))else none) (λb=>?_) (.inl<|.inr {{cls:= .type gt,data:= .seq vs.toArray},Xm M}) (λb u z=>?_) (λb z=>?_) λ_=>hk
  .by_cases hb:b=a
   .exact .inr {_,_,Xm hb}
   .exact .inl<|Xl hb
  .by_cases hb:b=a
   .have z':=(Xm hb).symm.trans z;cases z';subst hb;exact{ha,by rwa[Q2],vs,_,rv,ha}
   .have z':=(Xl hb).symm.trans z;cases z'
  .by_cases hb:b=a
   .exact hb
   .exact Xp (Xl hb) z
def walk_of{l:PySem.W.OpenLaw}{k:Nat}{q:Mc}{loose:Mf}{XP:(Str->Option Value)->Heap->Prop}{d:DefRec}{K:Params->J4}{CX:World->CXT}{sp:World->Sp} 
  (hn:l.most=some n) (U:n<=sizeLine) (Z:d.params.defaults=[]) (hr:JI k callerA)
  (hY:∀(w:World)(h:Heap),YP w h->(K w.params).In h)
  (F:∀(w:Md)(mg:Mm)(S:G')(h:Heap),(K w.params).In h->h.Ns mainGlobals mg->mg d.name=some (.ref S)->
   ∃fd:FuncData,(∀(s:J')(u:K'),BindsTo s fd {[u],[]} [(x,u)])/\
    ∀base:Heap,(K w.params).In base->base.Ns mainGlobals mg->J9 l.prog w (K w.params) mg base (CX w) k S fd [x] (sp w))
  (a0:∀(w:Md)(H:Hp)(a:G')(ns:Mb),ns.length<=n->HS H->JC (K w.params) H a (ns.map V.int)->sp w [.ref a] H (λv _=>v= .bl true) λ_ _ _=>False)
  (a1:∀(w:Md)(H:Hp)(s:J')(e:K')(s':J'),CX w [] H s (λ_ _ _=>False) e s'->False):
  PySem.W.WalkO q loose XP YP l.row.toRowW d [] (λf vs=>PySem.call f vs):=by
 refine Att.attach_call hn Z λw s₀ s₁ mg mb S o pm cd a3 a vs ns G Y ho hd a5 a2 O I z hg=>?_;have KX:=hY w _ Y;let{fd,hb,hF}:=F w mg S _ KX G.T.g a2;exact Dl KX G.T.g G.T.b G.T.builtins G.T.nolimit hg O I (Qr z U) hr hF hb (λH hO hS=>a0 w H a ns z hO hS) λH e s'=>a1 w H s₁ e s'
abbrev JT:CXT:=λ_ _ _ _ _ _=>False
abbrev E0:XK:=λ_ _ _=>False
def aS:eL JT X E0:=λ_ _ _ _ _ _ _ h=>h.elim
structure JN(K:J4)(x qual:Str)(st:Stmt)(f:G')(fd:Mq):Prop where
 ex:∃(oc:K')(od:Me)(kV doc pm:K')(an:Me)(cdv ct:K')(osl:ME),
  fd=PySem.W.fnOf x qual (fF st) (b4 st) (ah st) .none kV doc pm an cdv ct/\K.lookup f=some {oc,od,.func fd,osl}/\PySem.W.codeIn K cdv qual=true
 kp:PySem.W.keepIn K (.ref f)=true
section
variable{mg:Mm}
def JN.ok{ps:Mf}{k:Nat}(F:JN K x qual st f fd)(S:ao N ps (ah st))(len:∀vs H Q E,sp vs H Q E->vs.length=ps.length)
  (G:∀(z:K')(A:Mj)(outer:Mp)(s:J')(H:Hp)(vs:L')(Q:VK)(E:XK),JI k (A.deeper<|envOfC qual (ah st) s.heap.objs.size f z)->sp vs H Q E->
   ∃t,KH (gF JT P w K mg base N qual (ah st) f z A outer s H E).nox (b4 st) t/\t {nx:=λ_ H'=>Q .non H',rt:=Q} (start N vs) H):J9 P w K mg base JT (k+1) f fd ps sp:=by
 let{oc,od,kV,U,pm,an,z,ct,Y,rfl,lk,I}:=F.ex;refine wV lk I S len λA outer s H vs Q E Z O=>?_;let{t,h,q}:=G z A outer s H vs Q E Z O;exact⟨t,h.nox,q⟩
def Hz{U:K'}{od O:Me}{I:ME}{kV G S z ct:K'}(l:K.lookup f=some {U,od,.func<|PySem.W.fnOf x qual (fF st) (b4 st) (ah st) .none kV G S O z ct,I})
  (c:PySem.W.codeIn K z qual=true) (k:PySem.W.keepIn K (.ref f)=true):JN K x qual st f (PySem.W.fnOf x qual (fF st) (b4 st) (ah st) .none kV G S O z ct):={⟨U,od,kV,G,S,O,z,ct,I,M,l,c⟩,k}
end
def jJ{A:Mj}{k:Nat}(z:JI k A):A.units+1<cLine:=ZC (Nat.add_le_add_left (by decide:1<=64) _) z.units
def bn(h:n<=1000):n<sizeLine:=ZC h (_)
def pv(i:Nat){x:Str}{pos:Pos}(G:X.N[i]?=some x:=by rfl)(I:Ly X.env.scope x:=by and_intros)(hd:(x==(eN:Str))=false:=by decide)
  (z:(x==("__classdict__":Str))=false:=by decide):PE X (.Name x pos) (xQ i):=G6 G I hd z
def bu(h:B):if false=true then A else B:=by
 rwa[Xl Q6]
def bL(h:A):if true=true then A else B:=by
 rwa[Xm M]
def nQ[Decidable c](h1:c->A)(h2:¬c->B):if c then A else B:=by
 by_cases h:c
 .rw[Xm h];exact h1 h
 .rw[Xl h];exact h2 h
def JA(H H':Hp):Prop:=∀b o,H b=some o->H' b=some o
def JA.refl(H:Hp):JA H H:=λ_ _ h=>h
def JA.trans{H1 H2:Hp}(a:JA H H1)(b:JA H1 H2):JA H H2:=λc o h=>b c o (a c o h)
section
variable{κ:Type}[DecidableEq κ]
def B6{kvs:List (κ×V)}{k:κ}(h:a9 kvs k=none):¬k∈kvs.map (·.1):=by
 intro m;let{p,hp,e}:=Qh.mp m;have q:(kvs.any λkv=>decide (kv.1=k))=true:=List.any_eq_true.mpr {p,hp,Xn e};rw[cw,h]at q;exact Xp q<|by simp
def uM{kvs:List (κ×V)}{k:κ}{v:V}(h:a9 kvs k=some v):k∈kvs.map (·.1):=by
 have q:(kvs.any λkv=>decide (kv.1=k))=true:=by
  rw[cw,h]
  all_goals rfl
 let{p,hp,e}:=List.any_eq_true.mp q;exact Qh.mpr {p,hp,Xw e}
theorem zt:∀{l:List κ}{k:κ},l.Nodup->¬k∈l->(l++ [k]).Nodup
 | [],k,_,_=>by simp
 |a::r,k,h,hk=>by
  let{h1,h2}:=Qz.mp h;show(a::(r++ [k])).Nodup;refine Qz.mpr {λm=>?_,zt h2 λm=>hk<|Qc.mpr (Or.inr m)};rcases Qb.mp m with q|q
  .exact h1 q
  .exact hk<|Qc.mpr (Or.inl (Qe.mp q).symm)
def Fe{kvs:List (κ×V)}{k:κ}(v:V)(z:(kvs.map (·.1)).Nodup)(h:a9 kvs k=none):((bF kvs k v).map (·.1)).Nodup:=by
 rw[Cw v h,Qi];exact zt z<|B6 h
end
def bO:bootBuiltins "len"=some (.builtin "len"):=by decide+kernel
def aF:bootBuiltins oh=some (.builtin oh):=by decide+kernel
def DQ:bootBuiltins "min"=some (.builtin "min"):=by decide+kernel
def Br:bootBuiltins "sorted"=some (.builtin "sorted"):=by decide+kernel
def vE:bootBuiltins "int"=some (.type "int"):=by decide+kernel
def zU:bootBuiltins "bool"=some (.type "bool"):=by decide+kernel
def ku:bootBuiltins ub=some (.type ub):=by decide+kernel
def HJ:bootBuiltins "max"=some (.builtin "max"):=by decide+kernel
def FO:bootBuiltins "dict"=some (.type "dict"):=by decide+kernel
def tW:bootBuiltins ib=some (.type ib):=by decide+kernel
def Do:PySem.W.kitOne K (.type "int") (.type "int")=some true:=by kernel_rfl
def Dp:PySem.W.kitOne K (.type "int") (.type "bool")=some false:=by kernel_rfl
def Hh:PySem.W.kitOne K (.type "bool") (.type "int")=some true:=by kernel_rfl
def Hi:PySem.W.kitOne K (.type "bool") (.type "bool")=some true:=by kernel_rfl
def Hg:PySem.W.kitOne K (.type "NoneType") (.type "int")=some false:=by kernel_rfl
def Hf:PySem.W.kitOne K (.type ub) (.type "int")=some false:=by kernel_rfl
def cn[Decidable c](hc:c)(h:A):if decide c=true then A else B:=by
 rw[Xn hc];exact bL h
def bC[Decidable c](hc:¬c)(h:B):if decide c=true then A else B:=by
 rw[Xo hc];exact bu h
def DF{xs:L'}(Pv:MD)(I:Pv 0 W H)(hl:∀i W H,i<=xs.length->Pv i W H->Kg K H a xs)
  (hs:∀i x W H,xs[i]?=some x->Pv i W H->g x W H λz H2=>tb {Pv<|i+1,rt,nx,Pv<|i+1} z H2) (hd:∀W H,Pv xs.length W H->nx W H):
  ∃J3:Nat->Nat->St->Hp->Prop,(∃m,J3 0 m W H)/\∀i m W H,J3 i m W H->
   ((Lh K a).stop i H/\nx W H)\/((Lh K a).go i H/\∃N:St->Hp->Prop,(∀G H',N G H'->∃m',m'<m/\J3 (i+1) m' G H')/\∀x H',(Lh K a).yld i H x H'->g x W H' λz H2=>tb ⟨N,rt,nx,N⟩ z H2):=
 FF (D:={nx,rt,λ_ _=>False,λ_ _=>False}) Pv I hl hs hd
def sF{lo:Int}(Pv:MD)(I:Pv 0 W H)
  (hs:∀i W H,i<n->Pv i W H->g (.int<|lo+i) W H λz H2=>tb {Pv<|i+1,rt,nx,Pv<|i+1} z H2) (hd:∀W H,Pv n W H->nx W H):
  ∃J3:Nat->Nat->St->Hp->Prop,(∃m,J3 0 m W H)/\∀i m W H,J3 i m W H->
   ((LS lo n).stop i H/\nx W H)\/((LS lo n).go i H/\∃N:St->Hp->Prop,(∀G H',N G H'->∃m',m'<m/\J3 (i+1) m' G H')/\∀x H',(LS lo n).yld i H x H'->g x W H' λz H2=>tb ⟨N,rt,nx,N⟩ z H2):=
 Bi (D:={nx,rt,λ_ _=>False,λ_ _=>False}) Pv I hs hd
def DP{k:Int}(G:0<=k)(h:k<(ns.length:Int)):LB (ns.map V.int) k=some (.int<|ns.getD k.toNat 0):=by
 let{j,rfl}:=Zn G;refine qy ?_;have z:j<ns.length:=();rw[Qk,Q5 z,Zt,Qy,Q5 z];rfl
def DO{k:Int}(h:¬k<(ns.length:Int)):ns.getD k.toNat 0=0:=by
 rw[Qy,List.getElem?_eq_none ()];rfl
def cH:fu X (.builtin oh) (λxs H Q=>∃x n t b,xs=[x,.ty n]/\JP X.K H x t/\PySem.W.kitOne X.K t (.type n)=some b/\Q (.bl b) H):=by
 intro J s W H xs us Q I r h;let{x,n,t,b,rfl,ty,e,q}:=h;let{u,w',rfl,G,z}:=qC r;cases (show w'=Value.type n from z);exact ut I G ty e λtk=>{.bl b,H,I.tok _,M,q}
def JQ{P:Mf}{sc:Scope}(a:sc.kind= .function:=by rfl)(b:sc.isCoroutine=false:=by rfl)(c:sc.isGenerator=false:=by rfl)(d:N.Nodup:=by decide+kernel)(e:N.take P.length=P:=by rfl)(f:∀x∈P,sc.names.lookup x=some .local\/sc.names.lookup x=some .cell:=by decide+kernel)(g:∀y∈sc.names,y.2≠ .free:=by decide+kernel):ao N P sc:=⟨a,b,c,d,e,f,g⟩
def JI.mo{j k:Nat}{A:Mj}(r:JI k A)(h:j<=k:=by decide):JI j A:=r.mono h
def JN.okl{mg:Mm}{ps:Mf}{k:Nat}(F:JN K x qual st f fd)(S:ao N ps (ah st))
  (G:∀{z:K'}{A:Mj}{outer:Mp}(s:J')(H:Hp)(vs:L')(Q:VK)(E:XK),JI k (A.deeper<|envOfC qual (ah st) s.heap.objs.size f z)->sp vs H Q E->
   N.Nodup->let X:=(gF JT P w K mg base N qual (ah st) f z A outer s H E).nox
   ∃t,KH X (b4 st) t/\t {nx:=λ_ H'=>Q .non H',rt:=Q} (start N vs) H)
  (len:∀vs H Q E,sp vs H Q E->vs.length=ps.length:=by intro _ _ _ _ h;repeat (first|(let{rfl,_}:=h;exact M)|let{_,h}:=h)):J9 P w K mg base JT (k+1) f fd ps sp:=F.ok S len λz A outer s H vs Q E I h=>G s H vs Q E I h S.nd
section
variable{pos:Pos}
abbrev J7{X:Cx}:= @pv X 0
abbrev JB{X:Cx}:= @pv X 1
abbrev JG{X:Cx}:= @pv X 2
abbrev K3{X:Cx}:= @pv X 3
abbrev L9{X:Cx}:= @pv X 4
abbrev Lf{X:Cx}:= @pv X 5
abbrev LY{X:Cx}:= @pv X 6
abbrev pv7{X:Cx}:= @pv X 7
def Lj(i:Nat)(z:X.N.Nodup:=by assumption)(hi:X.N[i]?=some x:=by rfl)(hx:Loc X.env.scope x:=by exact Or.inl M)(hf:X.fn x=true\/X.env.scope.names.lookup x=some .local:=by ac_rfl):PG X (.Name x pos) (lF i):=zp z hi hx hf
def Ju(i:Nat){e:Expr}{te:TE}{pos':Pos}(he:PE X e te)(z:X.N.Nodup:=by assumption)(hi:X.N[i]?=some x:=by rfl)(hx:Loc X.env.scope x:=by exact Or.inl M)(hs:swapsWith e (some<|.Name x pos') pos.line X.env=pure false:=by rfl)(hf:X.fn x=true\/X.env.scope.names.lookup x=some .local:=by ac_rfl):PS X (.Assign [.Name x pos'] e pos) (Ce te<|lF i):=ym z hi hx he hs hf
end
section
variable{rest A B:Mw}{t:TS}
def aw(h:PS X st t)(k:Φ t):∃v,KH X [st] v/\Φ v:={_,av h,k}
def ag(h:PS X st t)(k:∃u,KH X rest u/\(let B:=u;Φ (xR t B))):∃v,KH X (st::rest) v/\Φ v:=by
 let{u,hu,k}:=k;exact{_,f7 h hu,k}
def CZ(z:∀{x},KH X A x->PS X st (F x))(k:∃a,KH X A a/\(let b:=a;Φ (F b))):∃v,KH X [st] v/\Φ v:=by
 let{a,ha,k}:=k;exact{_,av<|z ha,k}
def bZ(z:∀{x},KH X A x->PS X st (F x))(k:∃a,KH X A a/\(let b:=a;∃u,KH X rest u/\(let B:=u;Φ (xR (F b) B)))):∃v,KH X (st::rest) v/\Φ v:=by
 let{a,ha,u,hu,k}:=k;exact{_,f7 (z ha) hu,k}
def IL{F:TS->TS->TS}(z:∀{x y},KH X A x->KH X B y->PS X st (F x y))(k:∃a,KH X A a/\(let b:=a;∃c,KH X B c/\(let d:=c;Φ (F b d)))):∃v,KH X [st] v/\Φ v:=by
 let{a,ha,c,hc,k}:=k;exact{_,av<|z ha hc,k}
end
end L2
namespace SW
end SW
namespace L2
open PySem PySem.Spec PyProof.Rows
abbrev _root_.Mi:=Addr->Prop
variable{C T f:G'}{old:Mi}{A:Mj}{g:Array GenState}{vs:Mn}{ab:Bool}{d:Drawn}{base:Heap}{φ:Heap->Prop}{H:Hp}{l:Mh}{outer:Mp}{N sn:Mf}{bm sub us:Lz}{M':Model}{t:Nat}{dd od:Me}{col:Option Bool}{os:OsState}{P prog:Mc}{K:J4}{R:Result->Shared->Prop}{s s':J'}{qual:Str}{Q:Mx}{e:K'}{E J3:Ml}{w:Md}
abbrev aH(C:G')(od:Me)(vs:Mn):Obj:={cls:= .ref C,dict:=od,data:= .fields vs}
def Kt(h:Heap)(e:G')(vs:Mn)(T:G')(fl:K'):Prop:=
 vs[1]?=some (.ref T)/\T≠e/\∃oT ts,h.get? T=some oT/\oT.data= .fields ts/\ts[3]?=some fl
structure Jq(l:Mh)(e:G')(old:Mi)(h h':Heap):Prop where
 keep:∀b o,h.get? b=some o->b∉l->b≠e->¬old b->h'.get? b=some o
 slot:∀b o,h.get? b=some o->b∈l->b≠e->¬old b->∃sl,h'.get? b=some {o with slots:=sl}
 there:∀b o,h.get? b=some o->∃o',h'.get? b=some o'
section
variable{env:Env}{L e:G'}
def HA(hl:s.heap.FunFrames base (env::outer))(he:s.heap.get? e=some (aH C od vs)):e∉Ko (env::outer):=λz=>by
 let{_,o,ho,G}:=hl.mem z;cases he.symm.trans ho;exact G vs M
def rT{G:K'}{Y:Bool}(Z:A.frames=some (env::outer))(hl:s.heap.FunFrames base (env::outer))(hf:env.frame=some L)(he:s.heap.get? e=some (aH C od vs))(hsz:1<vs.size)
  (q:∀h' T I,Jq (Ko (env::outer)) e (λ_=>False) s.heap h'->h'.get? e=some (aH C od I)->(I.size=vs.size/\I[2]?=vs[2]?)->s.heap.objs.size<=T->Kt h' e I T (rawInt L)->Q Unit.unit {s with heap:=h'}):
  wpAny M' A (do let a<-frameOf env;let pl<-entryPlaceOf L Y;let b<-EntryCells.newEntry G a .none (rawInt L) .none pl;setField (.ref e) 1 b) Q E s:=by
 have nf:e∉(env::outer).filterMap (·.frame):=HA hl he;refine Xj<|wpAny_frameOf_fun Z hl hf λh1 O=>?_;refine Xj<|wpAny_entryPlaceOf λpl ip=>?_;unfold EntryCells.newEntry newFields;refine Xj<|wpAny_newObj_type ?_ (ip.sizeOk5 _ _ _ _ _);have e1:h1.get? e=some (aH C od vs):=(O.2.1 e nf).trans he;have big:3<([G,Value.ref L,.none,rawInt L,.none]++(if pl.isEmpty then List.replicate 6 Value.none else pl)).toArray.size:=by
  simp only[Qa,Qd,Q9,Xe];lia
 have S:([G,Value.ref L,.none,rawInt L,.none]++(if pl.isEmpty then List.replicate 6 Value.none else pl)).toArray[3]?=some (rawInt L):=by simp
 generalize ([G,Value.ref L,.none,rawInt L,.none]++(if pl.isEmpty then List.replicate 6 Value.none else pl)).toArray=ts at big S;generalize eo:({cls:= .type "traceback",dict:=none,data:= .fields ts}:Obj)=oT;have e2:(h1.push oT).get? e=some (aH C od vs):=Xk _ e1;have ne:h1.objs.size≠e:=X3 (Xs e1);refine wpAny_setField e2 M hsz<|q _ h1.objs.size (vs.setIfInBounds 1<|.ref h1.objs.size) {λb o U g2 g3 _=>?_,λb o U _ g3 _=>?_,λb o U=>?_} ?_ {Array.size_setIfInBounds,by simp} (Zr O.1.symm) {by simp[hsz],ne,oT,ts,?_,by rw[<-eo],S}
 .rw[Xv _ _ (Ne.symm g3)];exact Xk _<|(O.2.1 b g2).trans U
 .let{sl,r}:=O.2.2 b o U;exact{sl,(Xv _ _<|Ne.symm g3).trans<|Xk _ r}
 .by_cases z:b=e
  .subst z;exact{_,Heap.get?_update_self _ e2 M}
  .let{sl,r}:=O.2.2 b o U;exact{_,(Xv _ _<|Ne.symm z).trans<|Xk _ r}
 .exact Heap.get?_update_self _ e2 M
 .rw[Xv _ _ (Ne.symm ne),<-eo];exact Xu h1 M
def rS(G:A.frames=some (env::outer))(hl:s.heap.FunFrames base (env::outer))(hf:env.frame=some L)(he:s.heap.get? e=some (aH C od vs))(h1:vs[1]?=some .none)
  (q:∀h' T z,Jq (Ko (env::outer)) e (λ_=>False) s.heap h'->h'.get? e=some (aH C od z)->(z.size=vs.size/\z[2]?=vs[2]?)->s.heap.objs.size<=T->Kt h' e z T (rawInt L)->Q Unit.unit {s with heap:=h'}):
  wpAny M' A (noteFrame (.ref e) env) Q E s:=by
 unfold noteFrame;simp only[hf];refine Xj<|wpAny_field he M h1 ?_;rw[Xl (_)];exact rT G hl hf he (QM.mp h1).1 q
def AM(Y:A.frames=some (env::outer))(hl:s.heap.FunFrames base (env::outer))(hf:env.frame=some L)(he:s.heap.get? e=some (aH C od vs))(tr:Kt s.heap e vs T .none)
  (q:∀h' T' G,Jq (Ko (env::outer)) e (· =T) s.heap h'->h'.get? e=some (aH C od G)->(G.size=vs.size/\G[2]?=vs[2]?)->s.heap.objs.size<=T'->Kt h' e G T' (rawInt L)->Q Unit.unit {s with heap:=h'}):
  wpAny M' A (noteFrame (.ref e) env) Q E s:=by
 let{h1,ne,oT,ts,U,hd,h3}:=tr;unfold noteFrame;simp only[hf];refine Xj<|wpAny_field he M h1 ?_;rw[Xm (show(Value.ref T !=Value.none)=true by simp)];refine Xj<|wpAny_field U hd h3 ?_;rw[Xl (show ¬(Value.none==rawInt L)=true by simp[rawInt])];have I:∀b,b≠T->(s.heap.update T (Obj.mapFields (·.setIfInBounds 3 Value.none))).get? b=s.heap.get? b:=λb z=>Xv _ _ (Ne.symm z);have nofr:∀b o,s.heap.get? b=some o->(∀ws,o.data≠ .fields ws)->b≠T:=λb o O S z=>by
  subst z;cases U.symm.trans O;exact S ts hd
 refine Xj<|wpAny_setField U hd (QM.mp h3).1 ?_;refine rT Y (hl.of_keeps λb o O S=>{o,(I b<|nofr b o O S).trans O,M}) hf ((I e<|Ne.symm ne).trans he) (QM.mp h1).1 λh' T' G n O S g3 g4=>?_;refine q h' T' G {λb o k1 k2 k3 Z=>n.keep b o ((I b Z).trans k1) k2 k3 id,λb o k1 k2 k3 Z=>n.slot b o ((I b Z).trans k1) k2 k3 id,λb o k1=>?_} O S (by rw[Heap.size_after_update]at g3;exact g3) g4;by_cases z:b=T
 .subst z;exact n.there b _<|Heap.get?_update_self _ U (Obj.isFreed_of_fields<|Obj.data_mapFields hd _)
 .exact n.there b o<|(I b z).trans k1
def gg{l:Mh}{fl:K'}(he:s.heap.get? e=some (aH C od vs))(tr:Kt s.heap e vs T fl)
  (q:∀h',(∀b o,b≠T->s.heap.get? b=some o->h'.get? b=some o)->h'.get? e=some (aH C od vs)->(∃o,h'.get? T=some o)->h'.objs.size=s.heap.objs.size->Kt h' e vs T .none->Q Unit.unit {s with heap:=h'}):
  wpAny M' A (setFlight (.ref e) none) Q E s:=by
 let{h1,ne,S,ts,I,hd,O}:=tr;have big:3<ts.size:=(QM.mp O).1;unfold setFlight;refine Xj<|wpAny_field he M h1 ?_;rw[Xm (show(Value.ref T !=Value.none)=true by simp)];have G:∀b,b≠T->(s.heap.update T (Obj.mapFields (·.setIfInBounds 3 ((none:Me).elim Value.none λf=>rawInt f)))).get? b=s.heap.get? b:=λb z=>Xv _ _ (Ne.symm z);have new:=Heap.get?_update_self (Obj.mapFields (·.setIfInBounds 3 ((none:Me).elim Value.none λf=>rawInt f))) I (Obj.isFreed_of_fields<|Obj.data_mapFields hd _);exact wpAny_setField I hd big<|q _ (λb o z g=>(G b z).trans g) ((G e<|Ne.symm ne).trans he) {_,new} (Heap.size_after_update ..) {h1,ne,_,_,new,Obj.data_mapFields hd _,by simp[big]}
end
def XN(e C:G')(od:Me):HO:= .ext λh=>∃t,h.get? e=some (aH C od #[.ref t,.none,.none,.none,.bool false,.none])
noncomputable def XO(e C:G')(od:Me):HO:= .ext λh=>∃vs,h.get? e=some (aH C od vs)/\1<vs.size
section
variable{h h':Heap}{e:G'}
def BV{t:G'}(k:h.get? e=some (aH C od #[.ref t,.none,.none,.none,.bool false,.none])):JE P w H h e (XN e C od):=
 {⟨t,k⟩,{_,k},λ_ _ zz st=>by let{t,k}:=zz;exact{t,st _ k}}
def yY(k:h.get? e=some (aH C od vs))(z:1<vs.size):JE P w H h e (XO e C od):=
 {⟨vs,k,z⟩,{_,k},λ_ _ zz st=>by let{vs,k,z}:=zz;exact{vs,st _ k,z}}
def vS(ok:JZ P w H h)(q:H e=some (XN e C od)):∃t,h.get? e=some (aH C od #[.ref t,.none,.none,.none,.bool false,.none]):=(ok e _ q).1
def vR(ok:JZ P w H h)(q:H e=some (XO e C od)):∃vs,h.get? e=some (aH C od vs)/\1<vs.size:=(ok e _ q).1
def Jq.hok(n:Jq l e old h h')(ok:JZ P w H h)(hl:∀b∈l,H b=none)(ho:∀b,old b->H b=none)(he:H e=some (.ext φ))
  (new:h'.get? e=some (aH C od vs)) (z:1<vs.size):JZ P w (upd H e<|XO e C od) h':=λb u q=>by
 by_cases hb:b=e
 .subst hb;rw[I0]at q;cases q;exact yY new z
 .rw[ae hb]at q;have G:∀c v,H c=some v->c≠e->∀o,h.get? c=some o->h'.get? c=some o:=λc v r ne o g=>
   n.keep c o g (λm=>by rw[hl c m]at r;cases r) ne λm=>by rw[ho c m]at r;cases r
  refine(ok b u q).stay (λc v hc r=>?_) (λc r=>?_) λc xs r=>?_
  .rcases hc with rfl|hc
   .exact G _ _ q hb v r
   .exact G _ _ hc (λm=>by rw[m,he]at hc;cases hc) v r
  .rwa[ae (λm=>by rw[m,he]at r;cases r)]
  .rwa[ae (λm=>by rw[m,he]at r;cases r)]
def Jq.un{ch:Mh}{o':HO}(n:Jq l e old h h')(hc:∀b,old b->b∈ch)(he:H e=some (.ext φ)):Un l ch H (upd H e o') h h':=by
 have ne:∀b,H b=none->b≠e:=λb r z=>by rw[z,he]at r;cases r
 refine{λb o g r m k=>n.keep b o g m (ne b r) λz=>k<|hc b z,λb o g r m k=>n.slot b o g m (ne b r) λz=>k<|hc b z,λb o _ r _=>by rwa[ae (ne b r)],λb o g _=>n.there b o g,λb xs r=>?_,λb o u r=>?_,λb ps r=>{#[],?_}}
 .rwa[ae (λm=>by rw[m,he]at r;cases r)]
 .rwa[ae (λm=>by rw[m,he]at r;cases r)]
 .rw[ae (λm=>by rw[m,he]at r;cases r),r];simp
end
def K9(P:Mc)(w:Md):CXT:=λouter H s E e s'=>∃(ea C:G')(od:Me)(vs:Mn)(T:G')(H':Hp),
 e= .ref ea/\s'.os=s.os/\AllBare s'.gens/\Un (Ko outer) [] H H' s.heap s'.heap/\JZ P w H' s'.heap/\H' ea=some (XO ea C od)/\s'.heap.get? ea=some (aH C od vs)/\1<vs.size/\
 Kt s'.heap ea vs T .none/\H' T=none/\s.heap.objs.size<=T/\E (.ref ea) od H'
def mP{a:G'}{o:HO}(h:H a=some o):upd H a o=H:=by
 funext b;by_cases z:b=a
 .subst z;rw[I0,h]
 .rw[ae z]
def Af(X:Cx)(E:St->XK)(e:K')(s:J'):Prop:=∃(J:Ma)(W:St)(H:Hp)(ea C:G')(od:Me)(vs:Mn)(φ:Heap->Prop),
 e= .ref ea/\Inv X J W H s/\H ea=some (.ext φ)/\s.heap.get? ea=some (aH C od vs)/\1<vs.size/\(vs[1]?=some .none\/∃T,Kt s.heap ea vs T .none/\eY X J H T)/\E W (.ref ea) od (upd H ea<|XO ea C od)
section
variable{X:Cx}{J:Ma}{W:St}
def gd{ea:G'}(I:Inv X J W H s)(O:X.stack=X.env::X.outer)(hf:X.env.frame=some X.env.locals)(hA:A.frames=some X.stack)
  (hx:H ea=some (.ext φ)) (Z:s.heap.get? ea=some (aH C od vs)) (hz:1<vs.size) (ht:vs[1]?=some .none\/(∃T,Kt s.heap ea vs T .none/\eY X J H T)\/∃T,Kt s.heap ea vs T (rawInt X.env.locals)/\eY X J H T)
  (q:∀s' G T,Inv X J W (upd H ea<|XO ea C od) s'->s'.heap.get? ea=some (aH C od G)->1<G.size->Kt s'.heap ea G T .none->eY X J (upd H ea<|XO ea C od) T->G[2]?=vs[2]?->Q Unit.unit s'):
  wpAny M' A (noteFrame (.ref ea) X.env) (λ_ s1=>wpAny M' A (setFlight (.ref ea) none) Q J3 s1) J3 s:=by
 rw[O]at hA;have hl:s.heap.FunFrames X.base (X.env::X.outer):=O▸I.stack;have S:∀b∈Ko (X.env::X.outer),H b=none:=O▸I.stkFree;have fin:∀(old:Mi)(ch:Mh)(h1:Heap)(T':G')(G:Mn),(∀b,old b↔b∈ch)->(∀b∈ch,eY X J H b)->Jq (Ko (X.env::X.outer)) ea old s.heap h1->h1.get? ea=some (aH C od G)->(G.size=vs.size/\G[2]?=vs[2]?)->
   s.heap.objs.size<=T'->Kt h1 ea G T' (rawInt X.env.locals)->wpAny M' A (setFlight (.ref ea) none) Q J3 {s with heap:=h1}:=by
  intro old ch h1 T' G a0 a1 n g1 U Y g4;refine gg (l:=[]) (s:={s with heap:=h1}) g1 g4 λh2 k1 k2 k3 k4 k5=>?_;have nT:∀b o,s.heap.get? b=some o->b≠T':=λb o g z=>Xp (Xs g) (X0.mpr<|z▸Y);have n2:Jq (Ko (X.env::X.outer)) ea old s.heap h2:={λb o r1 r2 r3 r4=>k1 b o (nT b o r1)<|n.keep b o r1 r2 r3 r4,λb o r1 r2 r3 r4=>by
    let{sl,r}:=n.slot b o r1 r2 r3 r4;exact{sl,k1 b _ (nT b o r1) r},λb o r1=>by
    let{o',r}:=n.there b o r1;exact{o',k1 b _ (nT b o r1) r}}
  have a2:JZ X.prog X.w (upd H ea<|XO ea C od) h2:=n2.hok I.hok S (λb z=>(a1 b<|(a0 b).mp z).1) hx k2 (U.1▸hz);have a3:Un (Ko X.stack) ch H (upd H ea<|XO ea C od) s.heap h2:=by
   rw[O];exact n2.un (λb z=>(a0 b).mp z) hx
  have I2:Inv X J W (upd H ea<|XO ea C od) {s with heap:=h2}:=I.call' (s':={s with heap:=h2}) M a3 a2 I.bare λb hb=>by
   let{z1,z2,z3,z4,z5,z6}:=a1 b hb;exact⟨z4,z2,z5,z6⟩
  refine q _ G T' I2 k2 (U.1▸hz) k5 (I.fpOk Y ?_) U.2;have neT:T'≠ea:=Ne.symm (nT ea _ Z);rw[ae neT];exact I.hok.fresh Y
 rcases ht with h1|⟨T,tr,fp⟩|⟨T,tr,fp⟩
 .exact rS hA hl hf Z h1 λh1 T' G n g1 U Y g4=>fin (λ_=>False) [] h1 T' G (λb=>by simp) (λb z=>nomatch z) n g1 U Y g4
 .exact AM hA hl hf Z tr λh1 T' G n g1 U Y g4=>fin (· =T) [T] h1 T' G (λb=>by simp) (λb z=>by rwa[Qe.mp z]) n g1 U Y g4
 .let{h1,ne,oT,ts,hT,hd,h3}:=id tr;refine wpAny_noteFrame_inFlight hf Z M h1 hT hd h3 ?_;refine gg (l:=[]) Z tr λh' k1 k2 k3 k4 k5=>?_;have I1:Inv X J W H {s with heap:=h'}:=I.turned (t':=s.toks) (it:=T) k1 fp.1 fp.2.1 fp.2.2.2.1 fp.2.2.2.2.1 fp.2.2.2.2.2;have I2:Inv X J W (upd H ea<|XO ea C od) {s with heap:=h'}:=I1.write (x:=ea) (e:=ea) (t':=s.toks) (by rw[hx];exact Xx) (.inl M) (λ_ _ _ e=>e) {_,k2} (yY k2 hz);exact q _ vs T I2 k2 hz k5 {by rw[ae ne];exact fp.1,fp.2.1,fp.2.2.1,fp.2.2.2.1,fp.2.2.2.2.1,fp.2.2.2.2.2} M
def ui{ea:G'}(I:Inv X J W H s)(O:X.stack=X.env::X.outer)(hf:X.env.frame=some X.env.locals)(S:A.frames=some X.stack)
  (hx:H ea=some (.ext φ)) (U:s.heap.get? ea=some (aH C od vs)) (hz:1<vs.size) (Y:vs[1]?=some .none\/∃T,Kt s.heap ea vs T .none/\eY X J H T)
  (q:∀s' G T,Inv X J W (upd H ea<|XO ea C od) s'->s'.heap.get? ea=some (aH C od G)->1<G.size->Kt s'.heap ea G T .none->eY X J (upd H ea<|XO ea C od) T->Q Unit.unit s'):
  wpAny M' A (noteFrame (.ref ea) X.env) (λ_ s1=>wpAny M' A (setFlight (.ref ea) none) Q J3 s1) J3 s:=
 gd I O hf S hx U hz (Y.imp id .inl) λs' G T Z r z t f _=>q s' G T Z r z t f
def Inv.thrown{E:XK}(I:Inv X J W H s)(h:K9 X.prog X.w X.stack H s E e s'):∃(ea C:G')(od:Me)(vs:Mn)(H':Hp),e= .ref ea/\Inv X J W H' s'/\H' ea=some (XO ea C od)/\
  s'.heap.get? ea=some (aH C od vs)/\1<vs.size/\(∃T,Kt s'.heap ea vs T .none/\eY X J H' T)/\E (.ref ea) od H':=by
 let{ea,C,od,vs,T,H',rfl,os,bare,un,hok,hx,G,hz,tr,O,S,q}:=h;exact{ea,C,od,vs,H',M,I.call' os un hok bare λb z=>Xp z (by simp),hx,G,hz,{T,tr,I.fpOk S O},q}
def Inv.flies{E:XK}{F:St->XK}(I:Inv X J W H s)(h:K9 X.prog X.w X.stack H s E e s')(k:∀v od H',E v od H'->F W v od H'):Af X F e s':=by
 let{ea,C,od,vs,H',rfl,z,hx,G,hz,O,q}:=I.thrown h;exact{J,W,H',ea,C,od,vs,_,M,z,hx,G,hz,.inr O,by rw[mP hx];exact k _ _ _ q}
end
section
variable{mg:Mm}{scope:Scope}{cd:K'}{E:XK}
def wN(h:Af (gF (K9 P w) P w K mg base N qual scope f cd A outer s H E) (λ_=>E) e s'):(gF (K9 P w) P w K mg base N qual scope f cd A outer s H E).xe e s':=by
 let{J,W,H1,ea,C,od,vs,φ,rfl,I,hx,U,hz,Y,q}:=h;show wpAny _ _ (leaving _<|.ref ea) _ _ s';unfold leaving;refine Xj<|ui I M M I.ok.frames hx U hz Y λs2 O T G Z z2 t2 S=>?_;refine{ea,C,od,O,T,_,M,G.os,G.bare,G.base,G.hok,I0,Z,z2,t2,S.1,?_,q};rcases S.2.2.2.1 with z|z
 .exact Xp (show T∈([]:Mh) from z)<|by simp
 .exact z
def bJ:eL (K9 P w) (gF (K9 P w) P w K mg base N qual scope f cd A outer s H E) E:=
 λ_ _ _ _ _ _ I h=>wN (I.flies h λ_ _ _ q=>q)
def JN.okX{x:Str}{st:Stmt}{fd:Mq}{ps:Mf}{k:Nat}{sp:Sp}(F:JN K x qual st f fd)(S:ao N ps (ah st))(len:∀vs H Q E,sp vs H Q E->vs.length=ps.length)
  (G:∀(z:K')(A:Mj)(outer:Mp)(s:J')(H:Hp)(vs:L')(Q:VK)(E:XK),JI k (A.deeper<|envOfC qual (ah st) s.heap.objs.size f z)->sp vs H Q E->
   ∃t,KH (gF (K9 P w) P w K mg base N qual (ah st) f z A outer s H E) (b4 st) t/\t {nx:=λ_ H'=>Q .non H',rt:=Q} (start N vs) H):J9 P w K mg base (K9 P w) (k+1) f fd ps sp:=by
 let{oc,od,kV,U,pm,an,z,ct,Y,rfl,lk,I}:=F.ex;exact wV lk I S len λA outer s H vs Q E Z O=>G z A outer s H vs Q E Z O
end
abbrev KG:List Value:=[.type ib,.type "Exception",.type i3,.type "object"]
def JH(bm:Lz):Prop:=∃ups:List Addr,bm=ups.map Value.ref++KG
def JH.typ(B:JH bm)(T:String):bm.contains (.type T)=KG.contains (.type T):=by
 let{z,rfl}:=B
 induction z with
 |nil=>rfl
 |cons a r G=>rw[Qm,ZH,Qt,G];rfl
def JH.val(B:JH bm):bm.contains (.type ib)=true:=(B.typ _).trans ∅
def JH.bas(B:JH bm):bm.contains (.type i3)=true:=(B.typ _).trans ∅
def JH.att(B:JH bm):bm.contains (.type "AttributeError")=false:=(B.typ _).trans ∅
def JH.nam(B:JH bm):bm.contains (.type "NameError")=false:=(B.typ _).trans ∅
def JH.obj(B:JH bm):bm.contains (.type "object")=true:=(B.typ _).trans ∅
def JH.pass(B:JH bm)(self:K'):refuseLoop self "__setattr__" bm=pure Unit.unit:=by
 let{z,rfl}:=B
 induction z with
 |nil=>exact PySem.F.store_ValueError.passes self
 |cons a r G=>rwa[Qm,ZH,refuseLoop_ref]
structure JF(K:J4)(C:G')(bm:Lz):Prop where
 ob:∃nm q N bs sn sub ab col dd k0 k1 k2 k3 k5,K.lookup C=some (excClassObj nm q C N bs bm true sn sub ab col dd k0 k1 k2 k3 k5 fy)
 mro:JH bm
 kp:PySem.W.keepIn K (.ref C)=true
 ga:PySem.W.findIn K (.ref C) ox=some (some<|.builtin gp)
 gn:PySem.W.findIn K (.ref C) "__getattr__"=some none
 sa:PySem.W.findIn K (.ref C) "__setattr__"=some (some<|.builtin "object.__setattr__")
section
variable{h:Heap}
variable{nm q:Str}{N:G'}{bs:Lz}{k0 k1 k2 k3 k5:My}
abbrev cK(C t:G'):Obj:=aH C none #[.ref t,.none,.none,.none,.bool false,.none]
abbrev i5(us:Lz):Obj:={cls:= .type jb,data:= .seq us.toArray}
def FJ{rest:Lz}(B:JH bm)(z:h.get? C=some (excClassObj nm q C N bs bm true sn sub ab col dd k0 k1 k2 k3 k5 fy))(hz:rest.length<=sizeLine)
  (hq:R (.ok<|.ret<|.ref<|h.objs.size+1) {(h.push<|i5 rest).push<|cK C h.objs.size,g,d,t,os}):
  codeAny (model prog w) A (.call (.builtin fy) {.ref C::rest,[]}) R ⟨h,g,d,t,os⟩:=by
 have F:=ZD;have I:(Value.ref C::bm).contains (.type ib)=true:=by rw[Qt,B.val,Z5]
 have O:(Value.ref C::bm).contains (.type "AttributeError")=false:=by rw[Qt,B.att];rfl
 have S:(Value.ref C::bm).contains (.type "NameError")=false:=by rw[Qt,B.nam];rfl
 have st:=F.noStar;have U:=F.ends;refine codeAny_call_builtin_code (Code.quiet_builtin _ F.quiet) ?_;simp only[checkBuiltinCall,F.newKind,F.newSplit,F.newRow]
 repeat (first|refine wpAny_loadPart_at z ?_|(refine wpAny_isSubtype_exc z ?_;rw[I])|refine wpAny_staticBase_exc z ?_|refine wpAny_madeBy_exc z ?_|simp only[bne_self_eq_false,Qv,if_false]|wp_step)
 refine codeAny_builtinAt F.entry ?_;unfold Builtin.«BaseException.__new__»;refine PySem.wpAt_bind ?_;show PySem.wpAt _ _ _ (stack>>=_) _ _ _;refine PySem.wpAt_bind (PySem.wpAt_stack λp G=>PySem.wpAt_of_wpAny ?_)
 wp_walk
 refine PySem.wpAt_of_wpAny ?_;rw[F.owner]
 repeat (first|with_reducible refine wpAny_madeHere_exc F.canon z ?_|with_reducible refine wpAny_loadPart_at z ?_|(with_reducible refine wpAny_isSubtype_exc z ?_;first|rw[I]|rw[O]|rw[S])|wp_step)
 show R _ _;rwa[Heap.size_push]
open PySem.W in
def wY{I:K'}(X:K.In h)(Y:JF K C bm)(hz:us.length<=sizeLine)(hi:findIn K (.ref C) cC=some (some I))(hf:∀self,Looks (model prog w) h (bindSpecial I self) (I,[self]))
  (hq:codeAny (model prog w) (A.under<|.builtin lg {.ref C::us,[]}) (.call I {.ref (h.objs.size+1)::us,[]}) (InitBack (h.objs.size+1) R) {(h.push<|i5 us).push<|cK C h.objs.size,g,d,t,os}):
  codeAny (model prog w) A (.call (.ref C) {us,[]}) R ⟨h,g,d,t,os⟩:=by
 let{nm,q,N,bs,sn,sub,ab,col,dd,k0,k1,k2,k3,k5,hK}:=Y.ob;have G:=X _ _ hK;have B:=Y.mro;have S:(Value.ref C::bm).contains (.ref C)=true:=by simp
 have hl:=looks_findIn (M:=model prog w) X hi;have f1:=tc_lookup;have f2:=tc_bind (.ref C);have hT:(⟨h,g,d,t,os⟩:J').TypeIs (.ref C) "type":={_,G,M};refine codeAny_of_tree ?_;show wpAny _ _ (callAny (.ref C) _) _ _ _
 repeat (any_goals (first|assumption|with_reducible refine wpAny_loadPart_at G ?_|wp_step))
 refine{M,?_};refine codeAny_call_builtin_at (Code.quiet_builtin _ ∅) entry_typeCall (wpAny_check_type_call_sub G ?_)
 repeat (first|with_reducible refine wpAny_loadPart_at G ?_|with_reducible refine wpAny_madeBy_exc G ?_|wp_step)
 refine FJ B G hz ?_;show wpAny _ (A.under<|.builtin lg {.ref C::us,[]}) _ _ _ {(h.push<|i5 us).push<|cK C h.objs.size,g,d,t,os};have k:∀b o,h.get? b=some o->((h.push<|i5 us).push<|cK C h.objs.size).get? b=some o:=λb o e=>Xk _ (Xk _ e);have he:((h.push<|i5 us).push<|cK C h.objs.size).get? (h.objs.size+1)=some (cK C h.objs.size):=by heap_get
 have O:=k _ _ G;have U:=hl.keeps k;have fb:=(hf<|.ref<|h.objs.size+1).keeps k;have t1:Looks (model prog w) ((h.push<|i5 us).push<|cK C h.objs.size) (typeOf<|.ref<|h.objs.size+1) (.ref C):=(Looks.ld he).andThen .now;have s1:Looks (model prog w) ((h.push<|i5 us).push<|cK C h.objs.size) (isSubtype (.ref C)<|.ref C) true:=λA' Q' E' s' Z z=>by
  let{hp,g',d',t',a0}:=s';exact wpAny_isSubtype_exc (Z _ _ O)<|by rwa[S]
 unfold isInstance callSpecial? specialOf
 repeat (first|simp only[S,Bool.not_true,Qv,if_false]|with_reducible refine wpAny_call ?_|lk)
 refine codeAny_mono hq λr s' z=>?_;rcases r with e|(v|_|_|_)<;>first|exact z|exact z.elim|skip
 let{rfl,z}:=z;exact Xr<|Xr z
end
section
variable{h:Heap}
variable{nm q:Str}{N:G'}{bs:Lz}{k0 k1 k2 k3 k5:My}
def wZ{e:G'}{t0:G'}(B:JH bm)(I:h.get? C=some (excClassObj nm q C N bs bm true sn sub ab col dd k0 k1 k2 k3 k5 fy))
  (he:h.get? e=some (aH C od #[.ref t0,.none,.none,.none,.bool false,.none])) (hz:us.length<=sizeLine)
  (hq:∀h',(∀b o,b≠e->h.get? b=some o->h'.get? b=some o)->h'.get? e=some (aH C od #[.ref h.objs.size,.none,.none,.none,.bool false,.none])->R (.ok<|.ret .none) ⟨h',g,d,t,os⟩):
  codeAny (model prog w) A (.call (.builtin fz) {.ref e::us,[]}) R ⟨h,g,d,t,os⟩:=by
 have F:=ZD;have O:(Value.ref C::bm).contains (.type ib)=true:=by rw[Qt,B.val,Z5]
 have st:=F.noStar;refine codeAny_call_builtin F.init.plain F.initEntry ?_;simp only[checkBuiltinCall,F.initKind,F.initSplit,F.initRow]
 repeat (first|with_reducible refine wpAny_loadPart_at he ?_|with_reducible refine wpAny_loadPart_at I ?_|(with_reducible refine wpAny_isSubtype_exc I ?_;rw[O])|wp_step)
 refine wpAny_onRaise ?_;rw[show ∀(a b:String)(n:Nat),Bind.check {.positional,"*",ib,.self,[{"args",.varPos,false}]} a b n (List.map (λx=>x.fst) ({pos:=Value.ref e::us}:Args).kw)=pure Unit.unit from λa b n=>check_star_args _ _ _ _ _ _];refine Xr ?_
 wp_walk
 have G:(h.push<|i5 us).get? e=some (aH C od #[.ref t0,.none,.none,.none,.bool false,.none]):=Xk _ he;refine hq _ (λb o z k=>?_) ?_
 .rw[Xv _ _ (Ne.symm z)];exact Xk _ k
 .exact Heap.get?_update_self _ G M
end
open PySem.W
variable{vs:Mn}{Q:Mx}{E:Ml}
section
variable{prog:Mc}{w:Md}{A:Mj}{s:J'}{K:J4}{e C:G'}{bm:Lz}
def JF.cd(Y:JF K C bm):∃cd,clsIn K C=some cd/\cd.mro= .ref C::bm/\cd.hasDict=true:=by
 let{nm,q,N,bs,sn,sub,ab,col,dd,k0,k1,k2,k3,k5,hK}:=Y.ob;exact{_,by unfold clsIn;rw[hK],M,M}
def JF.inst(Y:JF K C bm)(X:K.In s.heap){od:Me}(he:s.heap.get? e=some (aH C od vs))(T:String)(G:bm.contains (.type T)=true):Looks (model prog w) s.heap (isInstance (.ref e)<|.type T) true:=by
 let{cd,hc,z,_}:=Y.cd;refine((Looks.ld he).andThen .now:Looks (model prog w) s.heap (typeOf<|.ref e) (.ref C)).andThen<|looks_mroIn X ?_;unfold mroIn;rw[hc,QZ,Xl (by rw[z];exact Q6),z,Qt,G,Z5]
def FI{name:Str}{v:K'}(X:K.In s.heap)(Y:JF K C bm)(hn:findIn K (.ref C) name=some none)(he:s.heap.get? e=some (aH C none vs))
  (hq:∀h' tk,(∀b o,b≠e->s.heap.get? b=some o->h'.get? b=some o)->h'.get? e=some (aH C (some s.heap.objs.size) vs)->h'.Ns1 s.heap.objs.size (λy=>if y=name then some v else none)->Q Unit.unit {s with heap:=h',toks:=tk}):
  wpAny (model prog w) A (setAttr (.ref e) name v) Q E s:=by
 have G:=PySem.F.store_object;let{cd,hc,hm,hd}:=Y.cd;have I:InstAt s.heap e (aH C none vs) C none:=⟨he,M,M,Xx⟩;have ty:Looks (model prog w) s.heap (typeOf<|.ref e) (.ref C):=I.type;have mo:Looks (model prog w) s.heap (mroOf<|.ref C) (.ref C::bm):=hm▸(looks_clsIn X hc).andThen .now;refine set_plain X I Y.sa<|codeAny_call_builtin G.slot.plain G.entry (@check_slot (model prog w) _ _ {s with toks:=s.toks+1} "object.__setattr__" "object" "__setattr__" (.ref e) [.str name s.toks,v] [] _ G.kind G.split (Y.inst X he "object" Y.mro.obj) (G.args (.ref e) (.str name s.toks) v) ?_);let{h,g,d,t,os}:=s;rw[osa_eq,refuse_eq];refine Xj<|Xj (ty.at<|Xj<|mo.at ?_);rw[refuseLoop_ref,Y.mro.pass];have O:=looks_findIn (M:=model prog w) (h:=h) X hn;refine Xr<|Xj (ty.at<|Xj<|O.at<|Xj<|Xr ?_);have e1:(h.push {cls:= .type "dict",data:= .dict #[]}).get? e=some (aH C none vs):=Xk _ he;have ne:e≠h.objs.size:=Qn (Xs he);have C1:=looks_clsIn (M:=model prog w) (h:=h) X hc;show wpAny _ _ (Builtin.ObjectAttr.storeInOwnDict _ _ _ _ _ _) _ _ _;unfold Builtin.ObjectAttr.storeInOwnDict Builtin.ObjectAttr.ownDictForStores
 repeat (first|with_reducible refine wpAny_loadPart_at he ?_|lk|wp_step)
 have eg:((h.push {cls:= .type "dict",data:= .dict #[]}).update e λo=>{cls:=o.cls,dict:=some h.objs.size,data:=o.data,slots:=o.slots}).get? h.objs.size=some {cls:= .type "dict",data:= .dict #[]}:=
  (Heap.get?_update_ne _ _ _ _ ne.symm).trans (Heap.get?_push_at M M)
 have en:((h.push {cls:= .type "dict",data:= .dict #[]}).update e λo=>{cls:=o.cls,dict:=some h.objs.size,data:=o.data,slots:=o.slots}).Ns h.objs.size (λ_=>none):=
  {_, #[],_,eg,M,λx hx=>Xp hx (by simp),λ_=>M}
 have ee:((h.push {cls:= .type "dict",data:= .dict #[]}).update e λo=>{cls:=o.cls,dict:=some h.objs.size,data:=o.data,slots:=o.slots}).get? e=some (aH C (some h.objs.size) vs):=Heap.get?_update_self _ e1 M;refine wpAny_update' e1 ?_;refine Xr ?_;show wpAny _ _ (Builtin.ObjectAttr.storeInDict h.objs.size (.str name t) name v) _ _ _;unfold Builtin.ObjectAttr.storeInDict Builtin.ObjectAttr.newKeyGuard;refine Xj<|Xr (Xj<|wpAny_nsSet1 (Heap.Ns1.of_empty en) λh2 n2 sb=>?_);let{oD,a0,a1,S,U,Z}:=n2.count (Within.cons name v Within.nil);refine Xj<|wpAny_lookBehind S (by rw[U];exact pastItsLine_dict<|Qr Z<|by rw[Q9,Xe,sizeLine_eq];lia) (Xr ?_);exact hq h2 _ (λb o z k=>(sb.2 b<|Qn<|Xs k).trans<|(Heap.get?_update_ne _ _ _ _ z).trans<|Xk _ k) ((sb.2 e ne).trans ee) n2
end
variable{vs:Mn}{expr:Bool}{r:Builtin.ObjectAttr.Found}{odx:Me}{od:Option Obj}{name:Str}{E Q:Ml}
section
variable{prog:Mc}{w:Md}{A:Mj}{s:J'}{K:J4}{e C:G'}{bm:Lz}
def LH:Slot ib ox gp:=
 .of (owner:=i3) (n:=ox) (by rw[typeLookup_type,builtinLookup_eq_fast];kernel_rfl) ∅ ∅ ∅
  (by first|exact .inl ∅|exact .inr ∅) (by rw[isSubtype_type];kernel_rfl)
def wX{fill:Bool}{tk:Tok}(X:K.In s.heap)(Y:JF K C bm)(I:InstAt s.heap e (aH C odx vs) C od)
  (hf:findObj K C od name=some r)
  (hq:wpAny (model prog w) A.in1 (match r with| .value v=>ret v| .bind g a=>Builtin.ObjectAttr.bindTo g a (.ref e) (.ref C)| .missing=>ret .none) (λfin s'=>match fin with| .done (.ret v)=>wpAny (model prog w) A (handedOut v) Q E s'|_=>False) (λ_ _=>False) s)
  (O:r≠ .missing):wpAny (model prog w) A (getAttrBy (.ref e) (.str name tk) fill expr) Q E s:=by
 let{h,g,d,t,os}:=s;have G:=I.type (M:=model prog w);have S:=looks_findIn (M:=model prog w) (h:=h) X Y.ga;have U:=looks_findIn (M:=model prog w) (h:=h) X Y.gn;have Z:=looks_find (M:=model prog w) (h:=h) X I hf;unfold getAttrBy;refine XE<|Xj (G.at<|Xj<|S.at ?_);dsimp only;have n2:(Value.builtin gp==Value.builtin "object.__getattribute__")=false:=by decide+kernel
 rw[n2,Zq,Xl Q6];unfold getAttrByItsOwn hookBefore;rw[Xm (show onTheHeap (.ref C)=true from rfl)];refine Xj<|U.at (Xj<|wpAny_attempt<|XE ?_);unfold callGetattribute;rw[show(expr&&onTheHeap (Value.builtin gp))=false from Zq _,Xl Q6];unfold boundAndCalled;rw[LH.bind];refine Xj<|Xr ?_;show wpAny _ _ (call (.builtin gp) [.ref e,.str name tk]) _ _ _;refine wpAny_call<|codeAny_call_builtin LH.plain PySem.F.entry_bexc_ga (@check_slot (model prog w) _ _ ⟨h,g,d,t,os⟩ gp i3 ox (.ref e) [.str name tk] [] _ ∅ ∅ (Y.inst (s:=⟨h,g,d,t,os⟩) X I.at_ i3 Y.mro.bas) (PySem.F.args_bexc_ga _ _) ?_);unfold Builtin.«object.__getattribute__»;refine Xj<|Xr (Xj<|Xr<|Xj<|G.at<|Xj<|Z.at ?_);cases r with
 |missing=>exact Xp M O
 |value v=>
  refine XA hq (λfin s' z=>?_) λ_ _ z=>z.elim;rcases fin with(_|_|_|_)|_<;>first|exact z|exact z.elim
 |bind g' a=>
  refine XA hq (λfin s' z=>?_) λ_ _ z=>z.elim;rcases fin with(_|_|_|_)|_<;>first|exact z|exact z.elim
def FK{dx:G'}{mA:Mm}{v:K'}(X:K.In s.heap)(Y:JF K C bm)(O:findIn K (.ref C) name=some none)(he:s.heap.get? e=some (aH C (some dx) vs))
  (hd:s.heap.Ns1 dx mA) (S:mA name=some v) (U:handedIn v=true) (hq:Q v {s with toks:=s.toks+1}):wpAny (model prog w) A (getAttr (.ref e) name expr) Q E s:=by
 let{cd,hc,Z,G}:=Y.cd;let{od,ho,hl}:=uq hd;have I:InstAt s.heap e (aH C (some dx) vs) C (some od):=⟨he,M,M,ho⟩;refine Xj<|wpAny_mkText ?_;refine wX (s:={s with toks:=s.toks+1}) (od:=some od) X Y I (findObj_own (by show(clsIn K C).any (·.hasDict)=true;rwa[hc]) O M<|by rw[hl,S]) ?_ (by intro z;cases z);exact Xr (by show wpAny _ _ (handedOut v) _ _ _;rw[handedOut_of U];exact Xr hq)
structure LA(K:J4)(C:G'):Prop where
 ha:findIn K (.ref C) "__class__"=some (some<|.builtin hL)
 hn:specialIn K (.builtin hL) "__get__"=some (some<|.builtin j0)
 tk:takesIn K (.builtin hL)=some true
 hm:mroIn K C (.type "object")=some true
def Bl{Q:Option Value->Shared->Prop}(X:K.In s.heap)(Y:JF K C bm)(Z:LA K C)(I:InstAt s.heap e (aH C odx vs) C od)(h:Q (some<|.ref C) {s with toks:=s.toks+1}):
  wpAny (model prog w) A (getAttr? (.ref e) "__class__") Q E s:=by
 let{cd,hc,O,G}:=Y.cd;have hf:findObj K C od "__class__"=some (.bind (.builtin j0)<|.builtin hL):=by
  unfold findObj;rw[hc,QZ,Z.ha,QZ];dsimp only;rw[Z.hn,QZ];dsimp only;rw[Z.tk];rfl
 unfold getAttr? getAttrBy?;refine Xj<|wpAny_mkText (Xj<|wpAny_attempt ?_);refine wX (s:={s with toks:=s.toks+1}) X Y I hf ?_ (by intro z;cases z);show wpAny _ _ (holding [.builtin hL] (call (.builtin j0) [.builtin hL,.ref e,.ref C])>>=ret) _ _ _;refine Xj<|XE (wpAny_call<|class_get (s:={s with toks:=s.toks+1}) X I Z.hm ?_);exact Xr<|by show wpAny _ _ (handedOut _) _ _ _;rw[handedOut_of M];exact Xr (Xr h)
def wO(Y:JF K C bm)(Z:LA K C):KitX K (.ref e) (.ref C) (λh=>InstAt h e (aH C odx vs) C od) where
 ty:=λ_ _ _ I=>I.type
 it:=λ_ _ X _=>by
  let{nm,q,N,bs,sn,sub,ab,col,dd,k0,k1,k2,k3,k5,hK}:=Y.ob;intro O Q' S s' k q;unfold isType loadHead;exact Xj (wpAny_loadPart (k _ _<|X _ _ hK)<|Xr q)
 ne:=λh tp dd its n U X G=>by
  let{nm,q,N,bs,sn,sub,ab,col,dd,k0,k1,k2,k3,k5,hK}:=Y.ob;refine Bool.eq_false_iff.mpr λq=>?_;obtain rfl:C=tp:=Value.ref.inj (XF.mp q);have z:=XB Obj.cls (Xq<|(X _ _ hK).symm.trans G);exact Xp (Value.type.inj z) ∅
 ca:=λX I k=>Bl X Y Z I k
end
variable{C:G'}{bm:Lz}{K:J4}
def Jy(H:Hp)(e:G')(od:Me)(C:G')(fs:Mo):Prop:=H e=some (XO e C od)/\((fs=[]/\od=none)\/∃dx,od=some dx/\H dx=some (.xd fs))
def Rs(H:Hp)(C:G')(fs:Mo)(E:XK):Prop:=∀(ea:G')(od:Me)(H':Hp),Jy H' ea od C fs->JA H H'->E (.ref ea) od H'
section
variable{X:Cx}{J:Ma}{W:St}{H:Hp}{s:J'}
def Jy.inst{e:G'}{od:Me}{fs:Mo}(I:Inv X J W H s)(h:Jy H e od C fs):∃vs odo,InstAt s.heap e (aH C od vs) C odo:=by
 let{h1,h2}:=h;let{vs,r,_}:=vR I.hok h1;rcases h2 with⟨_,rfl⟩|⟨dx,rfl,hd⟩
 .exact⟨vs,none,r,M,M,Xx⟩
 .let{mA,{o,es,ep,ho,_},_}:=(show JE X.prog X.w H s.heap dx (.xd fs) from I.hok dx _ hd);exact{vs,some o,r,M,M,ho}
def aj{D:G'}{bm':Lz}{b:Bool}(Y:JF K C bm)(Z:JF K D bm')(h:subIn K (.ref C) (.ref D)=some b):kitOne K (.ref C) (.ref D)=some b:=by
 unfold kitOne;let{cd,hc,I,_}:=Y.cd;let{O,G,_,_}:=Z.cd;by_cases z:((Value.ref C:K')== .ref D)=true
 .rw[Xm z];obtain rfl:C=D:=Value.ref.inj (XF.mp z);have:subIn K (.ref C) (.ref C)=some true:=by
   show mroIn K C (.ref C)=some true;unfold mroIn;rw[hc,QZ,Xl (by rw[I];exact Q6),I,Qt];simp
  rw[h]at this;rw[this]
 .rw[Xl z];let{nm,q,N,bs,sn,sub,ab,col,dd,k0,k1,k2,k3,k5,hK}:=Z.ob;have S:typeIn K (.ref D)=some (.type "type"):=by
   show(K.lookup D).map (·.cls)=_;rw[hK];rfl
  show(if((clsIn K D).isSome&&typeIn K (.ref D)==some (.type "type"))=true then subIn K (.ref C) (.ref D)else none)=some b;rw[Xm (by rw[G,S];simp),h]
def Fz(Y:JF K C bm):kitOne K (.ref C) (.type ib)=some true:=by
 unfold kitOne;let{cd,hc,G,_}:=Y.cd;rw[Xl (by intro z;cases XF.mp z)];show(if kitMeta ib=true then subIn K (.ref C) (.type ib)else none)=some true;rw[Xm ∅];show mroIn K C (.type ib)=some true;unfold mroIn;rw[hc,QZ,Xl (by rw[G];exact Q6),G,Qt,Y.mro.val,Z5]
def bh(K:J4)(hK:X.K=K):fu X (.builtin oh) (λxs H Q=>∃e od C fs bm D b,xs=[.ref e,.ref D]/\Jy H e od C fs/\JF K C bm/\LA K C/\kitOne K (.ref C) (.ref D)=some b/\Q (.bl b) H):=by
 subst hK;intro J s W H xs us Q I r h;let{e,od,C,fs,bm,D,b,rfl,hx,Y,Z,hk,q}:=h;let{G,O,rfl,r0,r1}:=qC r;cases (show G=Value.ref e from r0);cases (show O=Value.ref D from r1);let{vs,odo,J0}:=hx.inst I;exact kia_one (wO Y Z) I.kIn J0 hk (λz=>by cases z) λtk=>{.bl b,H,I.tok _,M,q}
def tU(K:J4)(hK:X.K=K):fu X (.builtin oh) (λxs H Q=>∃e od C fs bm n b,xs=[.ref e,.ty n]/\Jy H e od C fs/\JF K C bm/\LA K C/\kitOne K (.ref C) (.type n)=some b/\Q (.bl b) H):=by
 subst hK;intro J s W H xs us Q I r h;let{e,od,C,fs,bm,n,b,rfl,hx,Y,Z,hk,q}:=h;let{G,O,rfl,r0,r1}:=qC r;cases (show G=Value.ref e from r0);cases (show O=Value.type n from r1);let{vs,odo,J0}:=hx.inst I;exact kia_one (wO Y Z) I.kIn J0 hk (λz=>by cases z) λtk=>{.bl b,H,I.tok _,M,q}
def nX(K:J4)(hK:X.K=K):fu X (.builtin oh) (λxs H Q=>∃x D t b,xs=[x,.ref D]/\JP K H x t/\kitOne K t (.ref D)=some b/\Q (.bl b) H):=by
 subst hK;intro J s W H xs us Q I r h;let{x,D,t,b,rfl,ty,e,q}:=h;let{u,w',rfl,G,z}:=qC r;cases (show w'=Value.ref D from z);exact ut I G ty e λtk=>{.bl b,H,I.tok _,M,q}
inductive GL(K:J4)(f:Str)(Q:VK)(x:V)(H1:Hp):Prop
 |mk(e C dx fs bm v:_)(_:x= .ref e)(_:H1 e=some (XO e C<|some dx))(_:H1 dx=some (.xd fs))(_:JF K C bm)(_:J6 K C f)(_:fs.lookup f=some v)(_:Q v H1)
def Gk(K:J4)(ta:TE)(f:Str):TE:=λW H Q=>ta W H λx H1=>GL K f Q x H1
def Fa{o:Expr}{ta:TE}{f:Str}{pos:Pos}(he:PE X o ta)(hb:attributeBase o f X.env (eval o X.env)=eval o X.env):PE X (.Attribute o f pos) (Gk X.K ta f):=by
 intro J s W H Q I h;refine zZ hb<|JD (he J s W H _ I h) λu s1 G=>?_;let{x,H1,z,S,e,C,dx,fs,bm,v,ex,ea,U,Y,n,l,q}:=G;subst ex;obtain rfl:u=Value.ref e:=S;let{vs,r,_}:=vR z.hok ea;let{mA,Z,ro}:=(show JE X.prog X.w H1 s1.heap dx (.xd fs) from z.hok dx _ U);let{w',hu,O}:=K2.some_of (v:=v) (o:=mA f) (by rw[<-l];exact ro f);exact FK z.kIn Y n r Z hu (uv O) {v,H1,z.tok _,O,q}
end
variable{C:G'}{φ:Heap->Prop}{us:Lz}
section
variable{X:Cx}{J:Ma}{W:St}{H:Hp}{s:J'}
def Inv.madeX(I:Inv X J W H s):Inv X J W (upd H (s.heap.objs.size+1)<|XN (s.heap.objs.size+1) C none) {s with heap:=(s.heap.push<|i5 us).push (cK C s.heap.objs.size)}:=
 I.laid (t':=s.toks) (λb o e=>Xk _<|Xk _ e) (Z3 _) (BV (t:=s.heap.objs.size)<|by heap_get)
def xS(C:G')(sp:Sp)(dvs:L')(E:XK)(t:TA):TE:=λW H Q=>t W H λvs H1=>vs.length<=1000/\∀e,H1 e=none->sp (.ref e::(vs++dvs)) (upd H1 e<|XN e C none) (λv H2=>v= .non/\Q (.ref e) H2) E
def ql(C:G')(t:TA):TE:=λW H Q=>t W H λvs H1=>vs.length<=1000/\∀e,H1 e=none->Q (.ref e) (upd H1 e<|XN e C none)
variable{CX:CXT}{k:Nat}{f:G'}{fd:Mq}{ps:Mf}{sp:Sp}{dvs:L'}{ds:Lz}{E:XK}{x m:Str}{p pos apos:Pos}{e o:Expr}{es:Ms}{ta:TE}{t:TA}{bm:Lz}
def AE{Q:VK}{vs:L'}(Y:JF X.K C bm)(hi:findIn X.K (.ref C) cC=some (some<|.ref f))(hf:isFn X.K (.ref f)=true)(F:J9 X.prog X.w X.K X.mg X.base CX k f fd ps sp)(hr:JI (k+1) X.A)(hb:Binds X.K fd ps ds)(hd:J8 dvs ds)
  (hx:eL CX X E) (I:Inv X J W H s) (r:J8 vs us) (hz:vs.length<=1000)
  (h:∀e,H e=none->sp (.ref e::(vs++dvs)) (upd H e<|XN e C none) (λv H2=>v= .non/\Q (.ref e) H2) E):J5 X (call (.ref C) us) (EP X J W Q) X.xe s:=by
 have hq:=h (s.heap.objs.size+1) (I.hok.fresh<|Z3 _);have O:=Inv.madeX (C:=C) (us:=us) I;have Z:J8 (V.ref (s.heap.objs.size+1)::(vs++dvs)) (Value.ref (s.heap.objs.size+1)::(us++ds)):= .cons M (r.append hd);have hl:(Value.ref (s.heap.objs.size+1)::us++ds).length=ps.length:=by
  have z:=Z.length;rw[F.len _ _ _ _ hq]at z;exact z.symm
 have U:us.length<=sizeLine:=by rw[<-r.length];exact Qx<|bn hz
 let{S,g0,d0,t0,o0}:=s;refine wpAny_call (wY I.kIn Y U hi (λself=>bind_fn I.kIn self<|XF.mp hf) (codeAny_mono (F.run _ X.stack _ _ {Value.ref (S.objs.size+1)::us,[]} (Value.ref (S.objs.size+1)::(us++ds)) _ _ E (hr.make C us [])
  (O.env0.make C us []) (hb _ (Value.ref (S.objs.size+1)::us) O.kIn hl) Z hq) λr s' G=>?_))
 cases r with
 |error e=>exact hx J W _ _ e s' O G
 |ok fl=>
  cases fl with
  |ret u=>
   let{v,H',I3,rv,ev,q3}:=O.after G;subst ev;exact{rv,{V.ref<|S.objs.size+1,H',I3,M,q3}}
  |next=>exact False.elim G
  |brk=>exact False.elim G
  |cont=>exact False.elim G
def iN(Y:JF X.K C bm)(hi:findIn X.K (.ref C) cC=some (some<|.ref f))(hf:isFn X.K (.ref f)=true)(F:J9 X.prog X.w X.K X.mg X.base CX k f fd ps sp)(S:JI (k+1) X.A)(U:Gl X x)(Z:X.mg x=some (.ref C))(hb:Binds X.K fd ps ds)(hd:J8 dvs ds)(hx:eL CX X E)
  (ha:PA X (e::es) t) (z:(x==(eN:Str))=false:=by decide) (he:starEach (e::es) X.env=(false,eval e X.env)::starEach es X.env:=by rfl) (G:(backTo pos<|starEach es X.env).any (·.1)=false:=by rfl):
  PE X (.Call (.Name x p) (e::es) [] pos) (xS C sp dvs E t):=by
 intro J s W H Q I h;refine XD<|cc I U Z ?_ z;refine QH (h₀:=X.base) I.ok.mod.kin Y.kp (JD (ha pos J s W H _ I h) λus s1 zz=>?_) he G;let{vs,H1,O,r,hz,q}:=zz;refine{O.kIn,?_};exact AE Y hi hf F S hb hd hx O r hz q
def Inv.rewrite{ea:G'}{od:Me}{z:G'}{h':Heap}{tk:Nat}(I:Inv X J W H s)(hx:H ea=some (.ext φ))(k:∀b o,b≠ea->s.heap.get? b=some o->h'.get? b=some o)
  (new:h'.get? ea=some (aH C od #[.ref z,.none,.none,.none,.bool false,.none])):Inv X J W (upd H ea<|XN ea C od) {s with heap:=h',toks:=tk}:=
 I.write (x:=ea) (e:=ea) (by rw[hx];exact Xx) (.inl M) k {_,new} (BV new)
def bE(Y:JF X.K C bm)(hi:findIn X.K (.ref C) cC=some (some<|.builtin fz))(hg:Gl X x)(hm:X.mg x=some (.ref C))
  (ha:PA X (e::es) t) (O:(x==(eN:Str))=false:=by decide) (he:starEach (e::es) X.env=(false,eval e X.env)::starEach es X.env:=by rfl) (S:(backTo pos<|starEach es X.env).any (·.1)=false:=by rfl):
  PE X (.Call (.Name x p) (e::es) [] pos) (ql C t):=by
 intro J s W H Q I h;refine XD<|cc I hg hm ?_ O;refine QH (h₀:=X.base) I.ok.mod.kin Y.kp (JD (ha pos J s W H _ I h) λus s1 zz=>?_) he S;let{vs,H1,G,r,hz,q}:=zz;refine{G.kIn,?_};have z:us.length<=sizeLine:=by rw[<-r.length];exact Qx<|bn hz
 have U:=Inv.madeX (C:=C) (us:=us) G;have q2:=q (s1.heap.objs.size+1) (G.hok.fresh<|Z3 _);let{nm,q',N,bs,sn,sub,ab,col,dd,k0,k1,k2,k3,k5,hK}:=Y.ob;have hC:=U.kIn _ _ hK;let{Z,g0,d0,t0,o0}:=s1;refine wpAny_call<|wY G.kIn Y z hi (λself=>Looks.of_pure<|ZD.init.bind self) ?_;refine wZ Y.mro hC (t0:=Z.objs.size) (by heap_get) z λh' k' n'=>{M,?_};have I3:=U.rewrite (C:=C) (od:=none) (tk:=t0) I0 k' n';rw[bW]at I3;exact{V.ref<|Z.objs.size+1,_,I3,M,q2}
end
variable{f:G'}{A:Mj}{Q:Flow->Shared->Prop}{H:Hp}{pos:Pos}{s:J'}{ta:TE}{J3:Ml}{E:XK}
structure Ae(K:J4)(C:G')(m:Str)(v:K'):Prop where
 sp:specialIn K (.ref C) ox=some (some<|.builtin "type.__getattribute__")
 rd:readsIn K C (.type "type")=true
 at_:findCls K (.ref C) (.type "type") m=some (.val v)
section
variable{X:Cx}{J:Ma}{W:St}
variable{CX:CXT}{k:Nat}{C:G'}{fd:Mq}{ps:Mf}{sp:Sp}{dvs:L'}{ds:Lz}{x m:Str}{p apos:Pos}{e o:Expr}{es:Ms}{t:TA}{bm:Lz}
def u9{pl:Sem Bool}(U:Gl X x)(Y:X.mg x=some (.ref C))(hc:Ae X.K C m (.ref f))(hk:PySem.W.keepIn X.K (.ref f)=true)(F:J9 X.prog X.w X.K X.mg X.base CX k f fd ps sp)(Z:JI k X.A)(hb:Binds X.K fd ps ds)(hd:J8 dvs ds)(hx:eL CX X E)(ha:PA X (e::es) t)
  (z:(x==(eN:Str))=false:=by decide)
  (G:starEach (e::es) X.env=(false,eval e X.env)::starEach es X.env:=by rfl) (O:(backTo pos<|starEach es X.env).any (·.1)=false:=by rfl)
  (ht:eval (.Call (.Attribute (.Name x p) m apos) (e::es) [] pos) X.env=(do
   let ov<-eval (.Name x p) X.env
   standAt apos.atName
   let(f,first)<-holding [ov] (getMethod ov m pl)
   callWith pos f first (backTo pos<|starEach (e::es) X.env) (backToKw pos<|keywordEach [] X.env)):=by rfl):
  PE X (.Call (.Attribute (.Name x p) m apos) (e::es) [] pos) (Cd sp dvs E t):=by
 intro J s W H Q I h;refine Zu (pl:=pl) (cc I U Y ?_ z) ht;refine method_cls I.kIn hc.sp<|cls_value I.kIn hc.rd hc.at_ M ?_;refine QH (first:=[]) (h₀:=X.base) I.ok.mod.kin hk (JD (ha pos J _ W H _ (I.tok _) h) λus s2 zz=>?_) G O;let{vs,H2,S,r,q2}:=zz;refine{S.kIn,?_};exact uX F Z hb hd hx S r q2
def Iw(K:J4)(t:TA):TE:=λW H Q=>t W H λvs H1=>∃ea C od r bm,vs= .ref ea::r/\r.length<=1000/\H1 ea=some (XN ea C od)/\JF K C bm/\Q .non H1
def qp{pl:Sem Bool}(hg:Gl X x)(hm:X.mg x=some (.ref C))(hc:Ae X.K C m (.builtin fz))(ha:PA X (e::es) t)
  (z:(x==(eN:Str))=false:=by decide)
  (G:starEach (e::es) X.env=(false,eval e X.env)::starEach es X.env:=by rfl) (O:(backTo pos<|starEach es X.env).any (·.1)=false:=by rfl)
  (ht:eval (.Call (.Attribute (.Name x p) m apos) (e::es) [] pos) X.env=(do
   let ov<-eval (.Name x p) X.env
   standAt apos.atName
   let(f,first)<-holding [ov] (getMethod ov m pl)
   callWith pos f first (backTo pos<|starEach (e::es) X.env) (backToKw pos<|keywordEach [] X.env)):=by rfl):
  PE X (.Call (.Attribute (.Name x p) m apos) (e::es) [] pos) (Iw X.K t):=by
 intro J s W H Q I h;refine Zu (pl:=pl) (cc I hg hm ?_ z) ht;refine method_cls I.kIn hc.sp<|cls_value I.kIn hc.rd hc.at_ ∅ ?_;have hA:=ha pos J _ W H _ (I.tok<|s.toks+1) h;show wpAny _ _ (callWith pos (.builtin fz) [] (backTo pos<|starEach (e::es) X.env) []) _ _ _;rw[G]at hA⊢;refine Calls.callWith_builtin (by show(false||(backTo pos<|starEach es X.env).any (·.1))=false;rw[O]<;>rfl)<|Calls.evalArgs_plain ?_;refine JD hA λus s2 S=>?_;let{vs,H2,U,r2,ea,C',od,r,bm,ev,hz,hx,Y,q2}:=S;subst ev;let{nm,q',N,bs,sn,sub,ab,col,dd,k0,k1,k2,k3,k5,hK}:=Y.ob;have hC:=U.kIn _ _ hK;cases r2 with
 | @cons _ u _ Z r0 r1=>
  cases (show u=Value.ref ea from r0);let{t0,he}:=vS U.hok hx;let{h0,g0,d0,a0,o0}:=s2;refine wpAny_call<|wZ (us:=Z) Y.mro hC he (by rw[<-r1.length];exact Qx<|bn hz) λh' k' n'=>?_;have I3:=U.rewrite (C:=C') (od:=od) (tk:=a0) hx k' n';rw[mP hx]at I3;exact⟨V.non,H2,I3,M,q2⟩
def Inv.newfld{ea:G'}{t1:G'}{fn:Str}{y:V}{u:K'}{h':Heap}{tk:Nat}(I:Inv X J W H s)(hx:H ea=some (XN ea C none))(k:∀b o,b≠ea->s.heap.get? b=some o->h'.get? b=some o)
  (new:h'.get? ea=some (aH C (some s.heap.objs.size) #[.ref t1,.none,.none,.none,.bool false,.none])) (hn:h'.Ns1 s.heap.objs.size (λz=>if z=fn then some u else none)) (ry:RelV y u):
  Inv X J W (upd (upd H s.heap.objs.size<|.xd [(fn,y)]) ea<|XN ea C<|some s.heap.objs.size) {s with heap:=h',toks:=tk}:=by
 have Z:H s.heap.objs.size=none:=I.hok.fresh (Q4 _);have ne:ea≠s.heap.objs.size:=λz=>by rw[z,Z]at hx;cases hx
 have O:∀b v,H b=some v->b≠ea->upd (upd H s.heap.objs.size<|.xd [(fn,y)]) ea (XN ea C<|some s.heap.objs.size) b=some v:=λb v q z=>by
  rw[ae z,ae (ai q Z)];exact q
 have un:∀b,H b=none->b≠s.heap.objs.size->upd (upd H s.heap.objs.size<|.xd [(fn,y)]) ea (XN ea C<|some s.heap.objs.size) b=none:=λb q z=>by
  rw[ae (λw=>by rw[w,hx]at q;cases q),ae z];exact q
 have S:∀b,H b=none->b≠ea:=λb q z=>by rw[z,hx]at q;cases q
 have lt:∀b o,s.heap.get? b=some o->b≠s.heap.objs.size:=λb o q=>Qn (Xs q);refine I.un (t':=tk) {λb o G U _ _=>k b o (S b U) G,λb o G U _ _=>{o.slots,k b o (S b U) G},λb o G U _=>un b U<|lt b o G,λb o G _=>?_,λb xs G=>O b _ G λz=>(by rw[z,hx]at G;cases G),λb o v G=>O b _ G λz=>(by rw[z,hx]at G;cases G),λb ps G=>{#[],?_}} λb v q=>?_
 .by_cases z:b=ea
  .exact{_,z▸new}
  .exact{o,k b o z G}
 .rw[O b _ G λz=>(by rw[z,hx]at G;cases G)];simp
 .by_cases z:b=ea
  .subst z;rw[I0]at q;cases q;exact BV new
  .rw[ae z]at q;by_cases z2:b=s.heap.objs.size
   .subst z2;rw[I0]at q;cases q;refine{_,hn,λg=>?_};show K2 (List.lookup g [(fn,y)]) (if g=fn then some u else none);by_cases Y:g=fn
    .subst Y;rw[Xm M];show K2 (match g==g with|true=>some y|false=>none) (some u);rwa[XI]
    .rw[Xl Y];show K2 (match g==fn with|true=>some y|false=>none) none;rw[Xy.mpr Y];exact Xx
   .rw[ae z2]at q;refine(I.hok b v q).stay (λc w hc r=>k c w ?_ r) (λc r=>O c _ r λz=>(by rw[z,hx]at r;cases r)) λc xs r=>O c _ r λz=>(by rw[z,hx]at r;cases r);rcases hc with rfl|hc
    .exact z
    .exact λz=>by rw[z,hx]at hc;cases hc
def IA(K:J4)(ta tv:TE)(f:Str):TS:=λD W H=>tv W H λy H1=>ta W H1 λx H2=>∃ea C bm,x= .ref ea/\H2 ea=some (XN ea C none)/\JF K C bm/\J6 K C f/\∀dx,H2 dx=none->D.nx W (upd (upd H2 dx<|.xd [(f,y)]) ea<|XN ea C<|some dx)
def qo{o value:Expr}{tv:TE}{f:Str}{pos':Pos}(ha:PE X o ta)(O:PE X value tv)(hs:swapsWith value (some<|.Attribute o f pos') pos.line X.env=pure false):PS X (.Assign [.Attribute o f pos'] value pos) (IA X.K ta tv f):=by
 intro J s W H D I h;refine plainObj_wpAny_Assign_Attribute (JD (O J s W H _ I h) λu s1 zz=>?_) hs;let{y,H1,S,U,q}:=zz;refine JD (ha J s1 W H1 _ S q) λZ s2 G=>?_;let{x,H2,z,rx,ea,C,bm,ex,hx,Y,n,q2}:=G;subst ex;obtain rfl:Z=Value.ref ea:=rx;let{t1,he}:=vS z.hok hx;refine FI z.kIn Y n he λh' tk k1 k2 k3=>{W,_,z.newfld hx k1 k2 k3 U,q2 _<|z.hok.fresh (Q4 _)}
def ue{env:Env}{y:Sem Value}{M':Model}(I:A.handled=none)
  (h:wpAny M' A y (λv s1=>∃ea C od t nm q N bs bm sn sub ab col dd k0 k1 k2 k3 k5,v= .ref ea/\s1.heap.get? C=some (excClassObj nm q C N bs bm true sn sub ab col dd k0 k1 k2 k3 k5 fy)/\JH bm/\
   s1.heap.get? ea=some (aH C od #[.ref t,.none,.none,.none,.bool false,.none])/\J3 (.ref ea) s1) J3 s):wpAny M' A (raiseStmt env (some y) none) Q J3 s:=by
 unfold raiseStmt;refine Xj<|XA h (λv s1 z=>?_) λ_ _ z=>z;let{ea,C,od,t,nm,q,N,bs,bm,sn,sub,ab,col,dd,k0,k1,k2,k3,k5,rfl,G,B,he,O}:=z;have S:(Value.ref C::bm).contains (.type i3)=true:=by rw[Qt,B.bas,Z5]
 let{hp,g,d,tk,os}:=s1
 repeat (first|with_reducible refine wpAny_loadPart_at he ?_|with_reducible refine wpAny_loadPart_at G ?_|(with_reducible refine wpAny_isSubtype_exc G ?_;rw[S])|wp_step)
 exact wpAny_raiseNew_none I O
def DZ(X:Cx)(E:XK):Prop:=∀e s,Af X (λ_=>E) e s->X.xe e s
def mq(K:J4)(te:TE)(E:XK):TS:=λ_ W H=>te W H λv H1=>∃ea C od bm,v= .ref ea/\H1 ea=some (XN ea C od)/\JF K C bm/\E (.ref ea) od (upd H1 ea<|XO ea C od)
def bH{ex:Expr}{te:TE}(hc:X.calm=true)(hx:DZ X E)(he:PE X ex te):PS X (.Raise (some ex) none pos) (mq X.K te E):=by
 intro J s W H D I h;rw[arm_exec_Raise];refine Xj<|wpAny_standAt (ue (I.ok.hd hc)<|Xj<|JD (he J s W H _ I h) λv s1 zz=>?_);let{y,H1,G,S,ea,C,od,bm,U,O,Y,q}:=zz;refine Xj<|wpAny_standAt<|Xr ?_;subst U;cases (show v=Value.ref ea from S);let{nm,q',N,bs,sn,sub,ab,col,dd,k0,k1,k2,k3,k5,hK}:=Y.ob;let{t,z}:=vS G.hok O;exact{ea,C,od,t,nm,q',N,bs,bm,sn,sub,ab,col,dd,k0,k1,k2,k3,k5,M,G.kIn _ _ hK,Y.mro,z,hx _ _ {J,W,H1,ea,C,od,_,_,M,G,O,z,(by show 1<6;decide),.inl M,q}}
end
def bQ{P:Mc}{w:Md}{K:J4}{mg:Mm}{base:Heap}{N:Mf}{qual:Str}{scope:Scope}{cd:K'}{outer:Mp}:
  DZ (gF (K9 P w) P w K mg base N qual scope f cd A outer s H E) E:=λ_ _ h=>wN h
variable{A:Mj}{Q:Bool->Shared->Prop}{pn:Ma}{M':Model}{s:J'}{J3:Ml}
section
variable{nm q nm' q':Str}{C N C' N':G'}{bs bm bs' bm':Lz}{sn sn':Mf}{sub sub':Lz}{ab ab':Bool}{col col':Option Bool}{dd dd':Me}{k0 k1 k2 k3 k5 k0' k1' k2' k3' k5':My}
def Bk{e:G'}{od:Me}{vs:Mn}{b:Bool}(G:s.heap.get? C=some (excClassObj nm q C N bs bm true sn sub ab col dd k0 k1 k2 k3 k5 fy))
  (z:s.heap.get? C'=some (excClassObj nm' q' C' N' bs' bm' true sn' sub' ab' col' dd' k0' k1' k2' k3' k5' fy)) (B:JH bm') (he:s.heap.get? e=some (aH C od vs)) (hb:(Value.ref C::bm).contains (.ref C')=b)
  (hq:Q b s):wpAny M' A (excMatches (.ref e)<|.ref C') Q J3 s:=by
 have I:(Value.ref C'::bm').contains (.type i3)=true:=by rw[Qt,B.bas,Z5]
 have f:=tc_notTuple;let{hp,g,d,t,os}:=s;unfold excMatches
 repeat (first|with_reducible refine wpAny_loadPart_at he ?_|with_reducible refine wpAny_loadPart_at z ?_|(with_reducible refine wpAny_isSubtype_exc z ?_;rw[I])|(with_reducible refine wpAny_isSubtype_exc G ?_;rw[hb])|wp_step)
 cases b<;>(wp_walk;exact hq)
end
abbrev Cx.sui(X:Cx)(ea:G'):Cx:={X with A:=X.A.mark (some<|.ref ea),calm:=false,xe:=λ_ _=>False}
abbrev Cx.tr(X:Cx)(pn:Ma)(E:St->XK):Cx:={X with pn:=X.pn++pn,xe:=Af {X with pn:=X.pn++pn} E}
section
variable{X:Cx}{J:Ma}{W:St}{H:Hp}
def Cx.Ok.sui(ok:X.Ok)(ea:G'):(X.sui ea).Ok:=
 {ok.mod,ok.kind,ok.glob,ok.blt,ok.above,ok.inj,ok.has,ok.cab,λz=>Xp z Q6,ok.frames,ok.stk,ok.exf,ok.bs,ok.bsz,ok.noex,ok.exfs,ok.funs,ok.frf}
def Inv.sui(I:Inv X J W H s)(ea:G'):Inv (X.sui ea) J W H s:={I.ok.sui ea,I.os,I.bare,I.base,I.loc,I.cell,I.free,I.freeC,I.pin,I.hok,I.len}
def Inv.back{ea:G'}(ok:X.Ok)(I:Inv (X.sui ea) J W H s):Inv X J W H s:=⟨ok,I.os,I.bare,I.base,I.loc,I.cell,I.free,I.freeC,I.pin,I.hok,I.len⟩
def Cx.Ok.tr(ok:X.Ok)(pn:Ma)(E:St->XK):(X.tr pn E).Ok:=
 ⟨ok.mod,ok.kind,ok.glob,ok.blt,ok.above,ok.inj,ok.has,ok.cab,ok.hd,ok.frames,ok.stk,ok.exf,ok.bs,ok.bsz,ok.noex,ok.exfs,ok.funs,ok.frf⟩
def Inv.tr(I:Inv X J W H s)(E:St->XK):Inv (X.tr J E) [] W H s:={I.ok.tr J E,I.os,I.bare,I.base,I.loc,I.cell,I.free,I.freeC,λp hp=>I.pin p (by simpa using hp),I.hok,I.len}
def Inv.untr(ok:X.Ok)(I:Inv {X with pn:=X.pn++pn} J W H s):Inv X pn W H s:=
 {ok,I.os,I.bare,I.base,I.loc,I.cell,I.free,I.freeC,λp hp=>I.pin p<|Qu _ hp,I.hok,I.len}
def Inv.untr'{E:St->XK}(ok:X.Ok)(I:Inv (X.tr pn E) J W H s):Inv X pn W H s:=
 {ok,I.os,I.bare,I.base,I.loc,I.cell,I.free,I.freeC,λp hp=>I.pin p<|Qu _ hp,I.hok,I.len}
def kM{i:Nat}{x:Str}{pos:Pos}{Q:Mx}(I:Inv X J W H s)(Z:X.N.Nodup)(hi:X.N[i]?=some x)(hk:X.env.scope.names.lookup x=some .local)
  (h:∀s',Inv X J (W.set i none) H s'->Q Unit.unit s'):wpAny M' A (do bindName X.env x .none;unbindBehindTheSuite X.env x pos) Q J3 s:=by
 let{m,hn,hl}:=id I.loc;have G:i<W.length:=by rw[I.len];exact(Q3.mp hi).1
 have above:∀b o,X.s₀.heap.get? b=some o->b≠X.env.locals:=λb o e=>Qn (Qj (Xs e) I.ok.above);refine wpAny_nameGoes_keeps hk hn (by rw[I.ok.kind];rfl) λh' v O hs=>h _ ?_;have cl:∀y c,X.env.cells.lookup y=some c->∀w,s.heap.IsCell c w->h'.IsCell c w:=λy c e w z=>z.sameBut hs (I.cne y c e);refine{I.ok,I.os,I.bare,{λb o e n hb hx=>(hs.2 b<|above b o e).trans<|I.base.keep b o e n hb hx,λb o e n hb hx=>?_,I.base.free,λb o e hx=>?_,I.base.tups,I.base.frzs,I.base.tbls},{_,O,λj y v' S e2 e3=>?_},λy c e=>?_,I.free,I.freeC,λp hp=>?_,λb ob e=>?_,by simpa using I.len}
 .let{sl,r}:=I.base.slot b o e n hb hx;exact{sl,(hs.2 b<|above b o e).trans r}
 .let{o',r}:=I.base.there b o e hx;exact{o',(hs.2 b<|above b o e).trans r}
 .have U:j≠i:=λz=>by rw[z,ZJ G]at e2;cases e2
  rw[ZS (Ne.symm U)]at e2;let{u,r,q}:=hl j y v' S e2 e3;refine{u,r,?_};rcases q with⟨k,e⟩|⟨k,c,e,z⟩
  .have ny:y≠x:=λz=>U (rW Z S<|z▸hi);exact .inl {k,by simp[ny,e]}
  .exact .inr {k,c,e,cl y c e _ z}
 .let{w',z}:=I.cell y c e;exact{w',cl y c e w' z}
 .let{e,n,ne,nf,d}:=I.pin p hp;exact{(hs.2 p.1 ne).trans e,n,ne,nf,d}
 .refine(I.hok b ob e).stay (λc w' hc r=>(hs.2 c ?_).trans r) (λ_ r=>r) λ_ _ r=>r;rintro rfl;have Y:=I.free;rcases hc with rfl|hc
  .rw[Y]at e;cases e
  .rw[Y]at hc;cases hc
end
variable{b:Bool}{Q:Flow->Shared->Prop}{hs:List ExceptHandler}{bm:Lz}
abbrev TH:=KN->St->Hp->Addr->Addr->Option Addr->Prop
def PH(X:Cx)(hs:List ExceptHandler)(t:TH):Prop:=∀(J:Ma)(s:J')(W:St)(H:Hp)(D:KN)(ea C:G')(od:Me)(vs:Mn)(T:G'),Inv X J W H s->H ea=some (XO ea C od)->
 s.heap.get? ea=some (aH C od vs)->Kt s.heap ea vs T .none->eY X J H T->t D W H ea C od->J5 X (handleBy (.ref ea) X.env hs) (SP X J D) X.xe s
def IY:TH:=λ_ _ _ _ _ _=>False
def KN.gone(D:KN)(i:Nat):KN:={λW H=>D.nx (W.set i none) H,D.rt,λW H=>D.bk (W.set i none) H,λW H=>D.ct (W.set i none) H}
inductive hAs(K:J4)(Dc:G')(i:Nat)(ts:TS)(tr:TH)(D:KN)(W:St)(H:Hp)(ea C:G')(od:Me):Prop
 |mk(bm b:_)(_:JF K C bm)(_:subIn K (.ref C) (.ref Dc)=some b)(_:if b=true then ts (D.gone i) (W.set i<|some<|.ref ea) H else tr D W H ea C od)
section
variable{X:Cx}{x n:Str}{np pos:Pos}{b0:Stmt}{suite:Mw}{rest:List ExceptHandler}{i:Nat}{ts:TS}{tr:TH}{Dc:G'}{bm':Lz}
def zo:PH X hs IY:=λ_ _ _ _ _ _ _ _ _ _ _ _ _ _ _ h=>h.elim
def za{K:J4}{C D:G'}(Y:JF K C bm)(h:subIn K (.ref C) (.ref D)=some b):(Value.ref C::bm).contains (.ref D)=b:=by
 let{cd,hc,z,_}:=Y.cd;have h:mroIn K C (.ref D)=some b:=h;unfold mroIn at h;rw[hc,QZ,Xl (by rw[z];exact Q6),z]at h;exact Xq h
def zn{name:Option Str}{J:Ma}{s:J'}{W:St}{H:Hp}{ea C:G'}{od:Me}{vs:Mn}(I:Inv X J W H s)(O:s.heap.get? ea=some (aH C od vs))(S:Gl X x)(U:X.mg x=some (.ref Dc))(Z:JF X.K Dc bm')
  (Y:JF X.K C bm) (hb:subIn X.K (.ref C) (.ref Dc)=some b) (z:(x==(eN:Str))=false)
  (h1:b=true->codeAny (model X.prog X.w) (X.A.mark<|some<|.ref ea) (.handlers (.ref ea) [.ExceptHandler none name (b0::suite) pos] X.env) (λr s2=>match r with
     | .ok f=>(match name with
      |none=>Q f s2
      |some n=>J5 X (do bindName X.env n .none;unbindBehindTheSuite X.env n pos) (λ_ s3=>Q f s3) X.xe s2)
     | .error x=>cameBackBy (model X.prog X.w) X.A X.env X.xe x s2) s)
  (h2:b=false->J5 X (handleBy (.ref ea) X.env rest) Q X.xe s):
  J5 X (handleBy (.ref ea) X.env (.ExceptHandler (some<|.Name x np) name (b0::suite) pos::rest)) Q X.xe s:=by
 let{nm,q1,N,bs,sn,sub,ab,col,dd,k0,k1,k2,k3,k5,hK}:=Y.ob;let{nm',a0,N',bs',sn',sub',ab',col',dd',k0',k1',k2',k3',k5',G}:=Z.ob;refine wpAny_handleBy_cons (codeAny_handlers_test<|cc (X:=X.sui ea) (I.sui ea) S U ?_ z) (by intro q;cases q);refine Bk (I.kIn _ _ hK) (I.kIn _ _ G) Z.mro O (za Y hb) ?_;cases b with
 |true=>exact h1 M
 |false=>exact h2 M
def Gs(hN:X.N.Nodup)(hi:X.N[i]?=some n)(hk:X.env.scope.names.lookup n=some .local)(hg:Gl X x)(hm:X.mg x=some (.ref Dc))(Z:JF X.K Dc bm')(hs:∀ea,KH (X.sui ea) (b0::suite) ts)(hr:PH X rest tr)(a1:(x==(eN:Str))=false:=by decide):
  PH X (.ExceptHandler (some<|.Name x np) (some n) (b0::suite) pos::rest) (hAs X.K Dc i ts tr):=by
 intro J s W H D ea C od vs T I hx O a0 G h;let{bm,b,Y,hb,h}:=h;refine zn I O hg hm Z Y hb a1 (λz=>?_)<|λz=>?_
 .subst z;rw[Xm M]at h;refine codeAny_handlers_suite_as<|gg (l:=[]) O a0 λh' g1 g2 g3 g4 g5=>?_;have I1:Inv X J W H {s with heap:=h'}:=I.turned (t':=s.toks) (it:=T) g1 G.1 G.2.1 G.2.2.2.1 G.2.2.2.2.1 G.2.2.2.2.2;refine mV (v:= .ref ea) I1 hN hi (.inl hk) M (λs2 I2=>?_)<|.inr hk;refine XA (hs ea J s2 _ H (D.gone i) (I2.sui ea) h) (λf s4 z=>?_) λ_ _ z=>z.elim;cases f with
  |next=>
   let{S,H',U,q}:=z;exact kM (U.back I.ok) hN hi hk λs5 I5=>{_,H',I5,q}
  |brk=>
   let{S,H',U,q}:=z;exact kM (U.back I.ok) hN hi hk λs5 I5=>{_,H',I5,q}
  |cont=>
   let{S,H',U,q}:=z;exact kM (U.back I.ok) hN hi hk λs5 I5=>{_,H',I5,q}
  |ret u=>
   let{v,S,H',U,rv,q}:=z;exact kM (U.back I.ok) hN hi hk λs5 I5=>{v,_,H',I5,rv,q}
 .subst z;rw[Xl Q6]at h;exact hr J s W H D ea C od vs T I hx O a0 G h
def sTry(tb:(St->XK)->TS)(th:TH):TS:=λD W H=>tb (λσ1 v od H1=>∃ea C,v= .ref ea/\H1 ea=some (XO ea C od)/\th D σ1 H1 ea C od) D W H
def CB{body:Mw}{h0:ExceptHandler}{tb:(St->XK)->TS}{th:TH}(U:X.stack=X.env::X.outer)(hf:X.env.frame=some X.env.locals)(hb:∀pn E,KH (X.tr pn E) body (tb E))(hh:PH X (h0::hs) th):
  PS X (.Try body (h0::hs) [] [] pos) (sTry tb th):=by
 intro J s W H D I h;refine wpAny_Try_except<|XA (hb J _ [] s W H D (I.tr _) h) (λf s1 z=>?_) λe s1 z=>?_
 .cases f with
  |next=>
   let{G,H',O,q}:=z;exact wpAny_execs_nil {G,H',O.untr' I.ok,q}
  |brk=>
   let{G,H',O,q}:=z;exact{G,H',O.untr' I.ok,q}
  |cont=>
   let{G,H',O,q}:=z;exact{G,H',O.untr' I.ok,q}
  |ret u=>
   let{v,G,H',O,rv,q}:=z;exact{v,G,H',O.untr' I.ok,rv,q}
 .let{Y,Z,H1,ea,C,od,vs,φ,rfl,I1,hx,hr,hz,ht,ea',C',e1,e2,q}:=z;obtain rfl:ea=ea':=Value.ref.inj e1;refine ui (X:={X with pn:=X.pn++J}) I1 U hf I1.ok.frames hx hr hz ht λs2 a0 T I2 r2 z2 t2 S=>?_;let{a1,r3,_}:=vR I2.hok e2;obtain rfl:C=C':=by
   have z:=XB Obj.cls (Xq<|r2.symm.trans r3);exact Value.ref.inj z
  exact hh J s2 Z _ D ea C od a0 T (I2.untr I.ok) e2 r2 t2 {S.1,S.2.1,S.2.2.1,S.2.2.2.1,S.2.2.2.2.1,λp hp=>S.2.2.2.2.2 p<|Qu _ hp} q
end
variable{X:Cx}{E:St->XK}
def qz(CX:CXT)(X:Cx)(E:St->XK):Prop:=∀(J:Ma)(W:St)(H:Hp)(s:J')(e:K')(s':J'),Inv X J W H s->CX X.stack H s (E W) e s'->X.xe e s'
def Gu{pn:Ma}:qz (K9 X.prog X.w) (X.tr pn E) E:=λJ W H s e s' I h=>by
 have ok:Cx.Ok {X with pn:=X.pn++pn}:=⟨I.ok.mod,I.ok.kind,I.ok.glob,I.ok.blt,I.ok.above,I.ok.inj,I.ok.has,I.ok.cab,I.ok.hd,I.ok.frames,I.ok.stk,I.ok.exf,I.ok.bs,I.ok.bsz,I.ok.noex,I.ok.exfs,I.ok.funs,I.ok.frf⟩;have z:Inv {X with pn:=X.pn++pn} J W H s:=⟨ok,I.os,I.bare,I.base,I.loc,I.cell,I.free,I.freeC,I.pin,I.hok,I.len⟩;exact z.flies h λ_ _ _ q=>q
def GP(sp:Sp)(dvs:L')(E:St->XK)(t:TA):TE:=λW H Q=>t W H λvs H1=>sp (vs++dvs) H1 Q (E W)
section
variable{CX:CXT}{k:Nat}{f C:G'}{fd:Mq}{ps:Mf}{sp:Sp}{dvs:L'}{ds:Lz}{x m:Str}{p pos apos:Pos}{e o:Expr}{es:Ms}{ta:TE}{t:TA}
def EO{J:Ma}{W:St}{H:Hp}{s:J'}{Q:VK}{us:Lz}{vs:L'}(F:J9 X.prog X.w X.K X.mg X.base CX k f fd ps sp)(G:JI k X.A)(hb:Binds X.K fd ps ds)(hd:J8 dvs ds)(hx:qz CX X E)
  (I:Inv X J W H s) (r:J8 vs us) (h:sp (vs++dvs) H Q (E W)):J5 X (call (.ref f) us) (EP X J W Q) X.xe s:=by
 have z:J8 (vs++dvs) (us++ds):=r.append hd;have hl:(us++ds).length=ps.length:=by rw[<-z.length];exact F.len _ _ _ _ h
 refine wpAny_call<|codeAny_mono (F.run X.A X.stack s H {us,[]} (us++ds) (vs++dvs) Q (E W) G I.env0 (hb s us I.kIn hl) z h) λr s' hq=>?_;cases r with
 |error e=>exact hx J W H s e s' I hq
 |ok fl=>cases fl<;>first|exact I.after hq|exact False.elim hq
def nG(F:J9 X.prog X.w X.K X.mg X.base CX k f fd ps sp)(S:JI k X.A)(U:Gl X x)(Y:X.mg x=some (.ref f))(hk:PySem.W.keepIn X.K (.ref f)=true)(hb:Binds X.K fd ps ds)(hd:J8 dvs ds)(hx:qz CX X E)
  (ha:PA X (e::es) t) (z:(x==(eN:Str))=false:=by decide) (he:starEach (e::es) X.env=(false,eval e X.env)::starEach es X.env:=by rfl) (G:(backTo pos<|starEach es X.env).any (·.1)=false:=by rfl):
  PE X (.Call (.Name x p) (e::es) [] pos) (GP sp dvs E t):=by
 intro J s W H Q I h;refine XD<|cc I U Y ?_ z;refine QH (h₀:=X.base) I.ok.mod.kin hk (JD (ha pos J s W H _ I h) λus s1 zz=>?_) he G;let{vs,H1,O,r,q}:=zz;refine{O.kIn,?_};exact EO F S hb hd hx O r q
end
variable{T:G'}{P:Mc}{w:Md}
def CO{X:Cx}:eL (K9 P w) X E0:=λ_ _ _ _ _ _ _ zz=>by let{_,_,_,_,_,_,_,_,_,_,_,_,_,_,_,_,_,z}:=zz;exact z.elim
def iI(K:J4)(fd:Mq)(ps:Mf)(dvs:L'):Prop:=∃ds,Binds K fd ps ds/\J8 dvs ds
structure Kk(K:J4)(x qual:Str)(st:Stmt)(f:G')(fd:Mq):Prop where
 ex:∃(oc:K')(od:Me)(dV kV doc pm:K')(an:Me)(cdv ct:K')(osl:ME),
  fd=fnOf x qual (fF st) (b4 st) (ah st) dV kV doc pm an cdv ct/\K.lookup f=some {oc,od,.func fd,osl}/\codeIn K cdv qual=true
 kp:keepIn K (.ref f)=true
section
variable{K:J4}{mg:Mm}{base:Heap}{x qual:Str}{st:Stmt}{f:G'}{fd:Mq}{N ps:Mf}{k:Nat}{sp:Sp}
def Kk.ok(F:Kk K x qual st f fd)(S:ao N ps (ah st))(len:∀vs H Q E,sp vs H Q E->vs.length=ps.length)
  (G:∀(z:K')(A:Mj)(outer:Mp)(s:J')(H:Hp)(vs:L')(Q:VK)(E:XK),JI k (A.deeper<|envOfC qual (ah st) s.heap.objs.size f z)->sp vs H Q E->
   ∃t,KH (gF JT P w K mg base N qual (ah st) f z A outer s H E).nox (b4 st) t/\t {nx:=λ_ H'=>Q .non H',rt:=Q} (start N vs) H):J9 P w K mg base JT (k+1) f fd ps sp:=by
 let{oc,od,dV,kV,U,pm,an,z,ct,Y,rfl,lk,I}:=F.ex;refine wV lk I S len λA outer s H vs Q E Z O=>?_;let{t,h,q}:=G z A outer s H vs Q E Z O;exact⟨t,h.nox,q⟩
def Kk.okX(F:Kk K x qual st f fd)(S:ao N ps (ah st))(len:∀vs H Q E,sp vs H Q E->vs.length=ps.length)
  (G:∀(z:K')(A:Mj)(outer:Mp)(s:J')(H:Hp)(vs:L')(Q:VK)(E:XK),JI k (A.deeper<|envOfC qual (ah st) s.heap.objs.size f z)->sp vs H Q E->
   ∃t,KH (gF (K9 P w) P w K mg base N qual (ah st) f z A outer s H E) (b4 st) t/\t {nx:=λ_ H'=>Q .non H',rt:=Q} (start N vs) H):J9 P w K mg base (K9 P w) (k+1) f fd ps sp:=by
 let{oc,od,dV,kV,U,pm,an,z,ct,Y,rfl,lk,I}:=F.ex;exact wV lk I S len λA outer s H vs Q E Z O=>G z A outer s H vs Q E Z O
structure HV(K:J4)(x qual:Str)(st:Stmt)(T f:G')(fd:Mq):Prop where
 toD:Kk K x qual st f fd
 ex:∃(kV doc pm:K')(an:Me)(cdv ct:K'),fd=fnOf x qual (fF st) (b4 st) (ah st) (.ref T) kV doc pm an cdv ct
def zL{U:K'}{od O:Me}{I:ME}{kV G S z ct:K'}(l:K.lookup f=some {U,od,.func<|fnOf x qual (fF st) (b4 st) (ah st) (.ref T) kV G S O z ct,I})
  (c:codeIn K z qual=true) (k:keepIn K (.ref f)=true):HV K x qual st T f (fnOf x qual (fF st) (b4 st) (ah st) (.ref T) kV G S O z ct):={{{U,od,_,kV,G,S,O,z,ct,I,M,l,c},k},⟨kV,G,S,O,z,ct,M⟩}
def cI{dd:Me}{z:Mn}{n:Nat}{U:ME}{ds:Lz}(g:Nat)(Z:g+ds.length=ps.length)(F:HV K x qual st T f fd)(Y:K.lookup T=some {.type jb,dd,.seq z n,U})
  (h:∀(kV G O:K')(S:Me)(I ct:K')(us:Lz),us.length=g->∃k,bindArgs (fnOf x qual (fF st) (b4 st) (ah st) (.ref T) kV G O S I ct) {us,[]}=seqItems? (.ref T)>>=k/\k (some z)=pure (ps.zip<|us++ds)):
  Binds K fd ps ds:=by
 let{kV,G,O,S,I,ct,rfl}:=F.ex;intro s us X hl;let{k,h1,h2}:=h kV G O S I ct us (by rw[Qd]at hl;lia);exact BindsTo.of_defaults M (X _ _ Y) M h1 h2
end
variable{C e ea f:G'}{A:Mj}{vs:Mn}{X:Cx}{ex:Expr}{Q:Flow->Shared->Prop}{fd:Mq}{φ:Heap->Prop}{H:Hp}{J pn:Ma}{ps:Mf}{od:Me}{P:Mc}{s:J'}{sp:Sp}{W:St}{x:Str}{te:TE}{J3:Ml}{w:Md}{E:XK}
def Lu(P:Mc)(w:Md):CXT:=λouter H s E e s'=>∃(ea C:G')(od:Me)(vs:Mn)(T:G')(H':Hp),
 vs[2]?=some .none/\e= .ref ea/\s'.os=s.os/\AllBare s'.gens/\Un (Ko outer) [] H H' s.heap s'.heap/\JZ P w H' s'.heap/\H' ea=some (XO ea C od)/\s'.heap.get? ea=some (aH C od vs)/\1<vs.size/\
 Kt s'.heap ea vs T .none/\H' T=none/\s.heap.objs.size<=T/\E (.ref ea) od H'
def D3(X:Cx)(E:St->XK)(e:K')(s:J'):Prop:=∃(J:Ma)(W:St)(H:Hp)(ea C:G')(od:Me)(vs:Mn)(φ:Heap->Prop),
 vs[2]?=some .none/\e= .ref ea/\Inv X J W H s/\H ea=some (.ext φ)/\s.heap.get? ea=some (aH C od vs)/\1<vs.size/\(vs[1]?=some .none\/∃T,Kt s.heap ea vs T .none/\eY X J H T)/\E W (.ref ea) od (upd H ea<|XO ea C od)
def HW(X:Cx)(E:XK)(e:K')(s:J'):Prop:=∃(J:Ma)(W:St)(H:Hp)(ea C:G')(od:Me)(vs:Mn)(φ:Heap->Prop)(T:G'),
 e= .ref ea/\Inv X J W H s/\H ea=some (.ext φ)/\s.heap.get? ea=some (aH C od vs)/\1<vs.size/\Kt s.heap ea vs T (rawInt X.env.locals)/\eY X J H T/\E (.ref ea) od (upd H ea<|XO ea C od)
def Ad(X:Cx)(E:XK):Prop:=∀e s,D3 X (λ_=>E) e s->X.xe e s
def oz(X:Cx)(E:XK):Prop:=∀e s,HW X E e s->X.xe e s
section
variable{K:J4}{mg:Mm}{base:Heap}{N:Mf}{qual:Str}{scope:Scope}{cd:K'}{outer:Mp}
def y7:Ad (gF (Lu P w) P w K mg base N qual scope f cd A outer s H E) E:=λe s' h=>by
 let{J,W,H1,ea,C,od,vs,φ,hc,rfl,I,hx,U,hz,Y,q}:=h;show wpAny _ _ (leaving _<|.ref ea) _ _ s';unfold leaving;refine Xj<|gd I M M I.ok.frames hx U hz (Y.imp id .inl) λs2 O T G Z z2 t2 S c2=>?_;refine{ea,C,od,O,T,_,c2.trans hc,M,G.os,G.bare,G.base,G.hok,I0,Z,z2,t2,S.1,?_,q};rcases S.2.2.2.1 with z|z
 .exact Xp (show T∈([]:Mh) from z)<|by simp
 .exact z
def y6:oz (gF (K9 P w) P w K mg base N qual scope f cd A outer s H E) E:=λe s' h=>by
 let{J,W,H1,ea,C,od,vs,φ,T,rfl,I,hx,U,hz,tr,fp,q}:=h;show wpAny _ _ (leaving _<|.ref ea) _ _ s';unfold leaving;refine Xj<|gd I M M I.ok.frames hx U hz (.inr<|.inr ⟨T,tr,fp⟩) λs2 O T G Y Z t2 S _=>?_;refine{ea,C,od,O,T,_,M,G.os,G.bare,G.base,G.hok,I0,Y,Z,t2,S.1,?_,q};rcases S.2.2.2.1 with z|z
 .exact Xp (show T∈([]:Mh) from z)<|by simp
 .exact z
def J9.dn{k:Nat}(F:J9 P w K mg base (Lu P w) k f fd ps sp):J9 P w K mg base (K9 P w) k f fd ps sp:=
 {F.len,λA outer s H args us vs Q E G he hb I hs=>codeAny_mono (F.run A outer s H args us vs Q E G he hb I hs) λr s' z=>by
  cases r with
  |ok fl=>cases fl<;>exact z
  |error e=>
   let{ea,C,od,vs,T,H',_,z}:=z;exact⟨ea,C,od,vs,T,H',z⟩}
variable{st:Stmt}{k:Nat}
def JN.okC(F:JN K x qual st f fd)(S:ao N ps (ah st))(len:∀vs H Q E,sp vs H Q E->vs.length=ps.length)
  (G:∀(z:K')(A:Mj)(outer:Mp)(s:J')(H:Hp)(vs:L')(Q:VK)(E:XK),JI k (A.deeper<|envOfC qual (ah st) s.heap.objs.size f z)->sp vs H Q E->
   ∃t,KH (gF (Lu P w) P w K mg base N qual (ah st) f z A outer s H E) (b4 st) t/\t {nx:=λ_ H'=>Q .non H',rt:=Q} (start N vs) H):J9 P w K mg base (Lu P w) (k+1) f fd ps sp:=by
 let{oc,od,kV,U,pm,an,z,ct,Y,rfl,lk,I}:=F.ex;exact wV lk I S len λA outer s H vs Q E Z O=>G z A outer s H vs Q E Z O
end
def uf{pos:Pos}(hc:X.calm=true)(hx:Ad X E)(he:PE X ex te):PS X (.Raise (some ex) none pos) (mq X.K te E):=by
 intro J s W H D I h;rw[arm_exec_Raise];refine Xj<|wpAny_standAt (ue (I.ok.hd hc)<|Xj<|JD (he J s W H _ I h) λv s1 zz=>?_);let{y,H1,G,S,ea,C,od,bm,U,O,Y,q}:=zz;refine Xj<|wpAny_standAt<|Xr ?_;subst U;cases (show v=Value.ref ea from S);let{nm,q',N,bs,sn,sub,ab,col,dd,k0,k1,k2,k3,k5,hK}:=Y.ob;let{t,z}:=vS G.hok O;exact{ea,C,od,t,nm,q',N,bs,bm,sn,sub,ab,col,dd,k0,k1,k2,k3,k5,M,G.kIn _ _ hK,Y.mro,z,hx _ _ {J,W,H1,ea,C,od,_,_,M,M,G,O,z,(by show 1<6;decide),.inl M,q}}
noncomputable def XC(e C:G')(od:Me):HO:= .ext λh=>∃vs,h.get? e=some (aH C od vs)/\1<vs.size/\vs[2]?=some .none
def Ge{h:Heap}(k:h.get? e=some (aH C od vs))(z:1<vs.size)(c:vs[2]?=some .none):JE P w H h e (XC e C od):=
 {⟨vs,k,z,c⟩,{_,k},λ_ _ zz st=>by let{vs,k,z,c}:=zz;exact{vs,st _ k,z,c}}
def Ig{h:Heap}(ok:JZ P w H h)(q:H e=some (XC e C od)):∃vs,h.get? e=some (aH C od vs)/\1<vs.size/\vs[2]?=some .none:=(ok e _ q).1
def tT:entryFor table "proto.unchain"=some Builtin.«proto.unchain»:=entryFor_of_tree (by kernel_rfl)
section
variable{prog:Mc}
def uN{h:G'}{z:Obj}{G:Mn}{Q:Ml}(I:s.heap.get? h=some z)(hd:z.data= .fields G)(hc:G[2]?=some .none)(q:Q .none s):
  wpAny (model prog w) A (runValue<|.builtin "proto.unchain" {[.ref e,.ref h,.ref h,.bool false],[]}) Q J3 s:=by
 refine wpAny_runValue<|codeAny_builtin tT ?_;unfold Builtin.«proto.unchain»;refine Xj<|wpAny_field I hd hc ?_;rw[Xm {_}];exact Xr q
def yk{env:Env}{y c:Sem Value}{h:G'}(hh:A.handled=some (.ref h))(a0:∀(s:Shared)(Q:Value->Shared->Prop),Q .none s->wpAny (model prog w) A c Q J3 s)
  (hw:wpAny (model prog w) A y (λv s1=>∃ea C od t nm q N bs bm sn sub ab col dd k0 k1 k2 k3 k5,v= .ref ea/\ea≠h/\s1.heap.get? C=some (excClassObj nm q C N bs bm true sn sub ab col dd k0 k1 k2 k3 k5 fy)/\JH bm/\
   s1.heap.get? ea=some (aH C od #[.ref t,.none,.none,.none,.bool false,.none])/\(∃Ch I vh,s1.heap.get? h=some (aH Ch I vh)/\vh[2]?=some .none)/\
   ∀h',(∀b o,b≠ea->s1.heap.get? b=some o->h'.get? b=some o)->h'.get? ea=some (aH C od #[.ref t,.none,.ref h,.none,.bool true,.none])->J3 (.ref ea) {s1 with heap:=h'}) J3 s):wpAny (model prog w) A (raiseStmt env (some y)<|some c) Q J3 s:=by
 unfold raiseStmt;refine Xj<|XA hw (λv s1 z=>?_) λ_ _ z=>z;let{ea,C,od,t,nm,q,N,bs,bm,sn,sub,ab,col,dd,k0,k1,k2,k3,k5,rfl,O,S,B,he,{Ch,I,vh,hr,hv},hE}:=z;have cB:(Value.ref C::bm).contains (.type i3)=true:=by rw[Qt,B.bas,Z5]
 have a1:C≠ea:=λz=>by
  rw[z,he]at S;have:=XB Obj.data (Xq S);cases this
 refine Xj<|XE (a0 _ _<|Xj<|Xr ?_);let{hp,g,d,tk,os}:=s1;have ex:∀(str:String)(Q:Ml),Q (.ref ea) ⟨hp,g,d,tk,os⟩->wpAny (model prog w) A (excFromValue (.ref ea) str) Q J3 ⟨hp,g,d,tk,os⟩:=λstr Q q=>by
  unfold excFromValue
  repeat (first|with_reducible refine wpAny_loadPart_at he ?_|with_reducible refine wpAny_loadPart_at S ?_|(with_reducible refine wpAny_isSubtype_exc S ?_;rw[cB])|wp_step)
  exact q
 refine Xj (XE<|ex _ _ ?_)
 (try dsimp only)
 rw[Xm {_}];refine Xj (Xr ?_)
 (try dsimp only)
 have Y:=Heap.get?_update_self (Obj.mapFields (·.setIfInBounds 3 Value.none)) he (Obj.isFreed_of_fields<|Obj.data_mapFields (vs:= #[.ref t,.none,.none,.none,.bool false,.none]) M _);have o1:∀b,b≠ea->(hp.update ea (Obj.mapFields (·.setIfInBounds 3 Value.none))).get? b=hp.get? b:=λb z=>Xv _ _ (Ne.symm z);refine Xj (wpAny_setField he M (by show 3<6;decide) ?_)
 (try dsimp only)
 generalize hp.update ea (Obj.mapFields (·.setIfInBounds 3 Value.none))=h1 at Y o1⊢;have G:=Heap.get?_update_self (Obj.mapFields (·.setIfInBounds 4 (Value.bool true))) Y (Obj.isFreed_of_fields<|Obj.data_mapFields (vs:= #[.ref t,.none,.none,.none,.bool false,.none]) M _);have Z:∀b,b≠ea->(h1.update ea (Obj.mapFields (·.setIfInBounds 4 (Value.bool true)))).get? b=hp.get? b:=λb z=>(Xv _ _<|Ne.symm z).trans (o1 b z);refine Xj (wpAny_setField Y M (by show 4<6;decide) ?_)
 (try dsimp only)
 generalize h1.update ea (Obj.mapFields (·.setIfInBounds 4 (Value.bool true)))=h2 at G Z⊢;have G:h2.get? ea=some (aH C od #[.ref t,.none,.none,.none,.bool true,.none]):=G;have U:=(Z C a1).trans S;have a2:=(Z h<|Ne.symm O).trans hr;clear Y o1
 repeat (first|with_reducible refine wpAny_loadPart_at G ?_|with_reducible refine wpAny_loadPart_at U ?_|(with_reducible refine wpAny_isSubtype_exc U ?_;rw[cB])|wp_step)
 show wpAny (model prog w) A (raiseNew<|.ref ea) _ _ _;unfold raiseNew;refine Xj<|wpAny_handled ?_;rw[hh]
 (try dsimp only)
 rw[Xm (by simp;exact Ne.symm O)];refine Xj<|XE (uN a2 M hv ?_);refine Xj ?_;unfold updateField;refine Xj (wpAny_load G ?_)
 (try dsimp only)
 rw[Xm (by show 2<6;decide)];refine wpAny_update G<|wpAny_throw (hE _ (λb o z e=>?_) ?_)
 .exact(Xv _ _<|Ne.symm z).trans<|(Z b z).trans e
 .exact Heap.get?_update_self _ G M
end
section
variable{M':Model}
def CV{Q:Mx}(I:Inv X J W H s)(O:X.stack=X.env::X.outer)(hf:X.env.frame=some X.env.locals)(hA:A.frames=some X.stack)
  (hx:H ea=some (.ext φ)) (hr:s.heap.get? ea=some (aH C od vs)) (hz:1<vs.size) (h1:vs[1]?=some .none)
  (q:∀h' G T,Inv X J W (upd H ea<|XO ea C od) {s with heap:=h'}->h'.get? ea=some (aH C od G)->1<G.size->Kt h' ea G T (rawInt X.env.locals)->eY X J (upd H ea<|XO ea C od) T->Q Unit.unit {s with heap:=h'}):
  wpAny M' A (noteFrame (.ref ea) X.env) Q J3 s:=by
 rw[O]at hA;have hl:s.heap.FunFrames X.base (X.env::X.outer):=O▸I.stack;have S:∀b∈Ko (X.env::X.outer),H b=none:=O▸I.stkFree;refine rS hA hl hf hr h1 λh1 T' G n g1 g2 Y g4=>?_;have U:JZ X.prog X.w (upd H ea<|XO ea C od) h1:=n.hok I.hok S (λb z=>z.elim) hx g1 (g2.1▸hz);have Z:Un (Ko X.stack) [] H (upd H ea<|XO ea C od) s.heap h1:=by
  rw[O];exact n.un (λb z=>z.elim) hx
 have I2:Inv X J W (upd H ea<|XO ea C od) {s with heap:=h1}:=I.call' (s':={s with heap:=h1}) M Z U I.bare λb hb=>nomatch hb
 refine q h1 G T' I2 g1 (g2.1▸hz) g4<|I.fpOk Y ?_;have neT:T'≠ea:=λz=>Xp (Xs hr) (X0.mpr<|z▸Y);rw[ae neT];exact I.hok.fresh Y
def Bm{T:G'}(I:Inv X J W H s)(hf:X.env.frame=some X.env.locals)(hx:H ea=some (.ext φ))(O:s.heap.get? ea=some (aH C od vs))(hz:1<vs.size)
  (tr:Kt s.heap ea vs T (rawInt X.env.locals)) (fp:eY X J H T) (q:E (.ref ea) od (upd H ea<|XO ea C od)) (U:oz X E):cameBackBy M' A X.env X.xe (.ref ea) s:=by
 let{h1,ne,Z,ts,S,hd,Y}:=tr;have big:3<ts.size:=(QM.mp Y).1;unfold cameBackBy;refine Xj<|wpAny_field O M h1 ?_;rw[Xl (show ¬(Value.ref T==Value.none)=true by simp)];unfold setFlight;refine Xj<|wpAny_field O M h1 ?_;rw[Xm (show(Value.ref T !=Value.none)=true by simp),hf];have G:∀b,b≠T->(s.heap.update T (Obj.mapFields (·.setIfInBounds 3 ((some X.env.locals).elim Value.none λf=>rawInt f)))).get? b=s.heap.get? b:=λb z=>Xv _ _ (Ne.symm z);have new:=Heap.get?_update_self (Obj.mapFields (·.setIfInBounds 3 ((some X.env.locals).elim Value.none λf=>rawInt f))) S (Obj.isFreed_of_fields<|Obj.data_mapFields hd _);refine wpAny_setField S hd big<|U _ _ {J,W,H,ea,C,od,vs,φ,T,M,?_,hx,(G ea<|Ne.symm ne).trans O,hz,{h1,ne,_,_,new,Obj.data_mapFields hd _,by simp[big]},fp,q};exact I.turned (t':=s.toks) (it:=T) (λb o z g=>(G b z).trans g) fp.1 fp.2.1 fp.2.2.2.1 fp.2.2.2.2.1 fp.2.2.2.2.2
end
abbrev Cx.trC(X:Cx)(pn:Ma)(E:St->XK):Cx:={X with pn:=X.pn++pn,xe:=D3 {X with pn:=X.pn++pn} E}
abbrev Cx.suF(X:Cx)(ea:G'):Cx:={X with A:=X.A.mark (some<|.ref ea),calm:=false,xe:=notedBy (model X.prog X.w) (X.A.mark<|some<|.ref ea) X.env (cameBackBy (model X.prog X.w) X.A X.env X.xe)}
section
variable{np cp rp hp pos:Pos}{Dc:G'}{bm':Lz}{j:Nat}{body:Mw}{tb:(St->XK)->TS}
def CM{E:St->XK}:qz (Lu X.prog X.w) (X.trC pn E) E:=λJ W H s e s' I h=>by
 have ok:Cx.Ok {X with pn:=X.pn++pn}:=⟨I.ok.mod,I.ok.kind,I.ok.glob,I.ok.blt,I.ok.above,I.ok.inj,I.ok.has,I.ok.cab,I.ok.hd,I.ok.frames,I.ok.stk,I.ok.exf,I.ok.bs,I.ok.bsz,I.ok.noex,I.ok.exfs,I.ok.funs,I.ok.frf⟩;have G:Inv {X with pn:=X.pn++pn} J W H s:=⟨ok,I.os,I.bare,I.base,I.loc,I.cell,I.free,I.freeC,I.pin,I.hok,I.len⟩;let{ea,C,od,vs,T,H',hc,rfl,os,bare,un,hok,hx,O,hz,tr,S,U,q}:=h;exact{J,W,H',ea,C,od,vs,_,hc,M,G.call' os un hok bare λb z=>Xp z (by simp),hx,O,hz,.inr {T,tr,G.fpOk U S},by rw[mP hx];exact q}
def Inv.trC(I:Inv X J W H s)(E:St->XK):Inv (X.trC J E) [] W H s:=
 {⟨I.ok.mod,I.ok.kind,I.ok.glob,I.ok.blt,I.ok.above,I.ok.inj,I.ok.has,I.ok.cab,I.ok.hd,I.ok.frames,I.ok.stk,I.ok.exf,I.ok.bs,I.ok.bsz,I.ok.noex,I.ok.exfs,I.ok.funs,I.ok.frf⟩,I.os,I.bare,I.base,I.loc,I.cell,I.free,I.freeC,λp hp=>I.pin p (by simpa using hp),I.hok,I.len}
def Inv.untrC{E:St->XK}(ok:X.Ok)(I:Inv (X.trC pn E) J W H s):Inv X pn W H s:=
 {ok,I.os,I.bare,I.base,I.loc,I.cell,I.free,I.freeC,λp hp=>I.pin p<|Qu _ hp,I.hok,I.len}
def Inv.suF(I:Inv X J W H s)(ea:G'):Inv (X.suF ea) J W H s:=
 {{I.ok.mod,I.ok.kind,I.ok.glob,I.ok.blt,I.ok.above,I.ok.inj,I.ok.has,I.ok.cab,λz=>Xp z Q6,I.ok.frames,I.ok.stk,I.ok.exf,I.ok.bs,I.ok.bsz,I.ok.noex,I.ok.exfs,I.ok.funs,I.ok.frf},I.os,I.bare,I.base,I.loc,I.cell,I.free,I.freeC,I.pin,I.hok,I.len}
def Inv.unsuF(ok:X.Ok)(I:Inv (X.suF ea) J W H s):Inv X J W H s:=⟨ok,I.os,I.bare,I.base,I.loc,I.cell,I.free,I.freeC,I.pin,I.hok,I.len⟩
inductive Cu(K:J4)(ea C:G')(od:Me)(E:XK)(v:V)(H2:Hp):Prop
 |mk(e2 C2 od2 bm2:_)(_:v= .ref e2)(_:e2≠ea)(_:H2 e2=some (XN e2 C2 od2))(_:H2 ea=some (XC ea C od))(_:JF K C2 bm2)(_:E (.ref e2) od2 (upd (upd H2 ea<|XO ea C od) e2<|XO e2 C2 od2))
def Iz(K:J4)(Dc:G')(tb:(St->XK)->TS)(te:TE)(E:XK):TS:=λD W H=>tb (λσ1 v od H1=>∃ea C bm,v= .ref ea/\H1 ea=some (XO ea C od)/\JF K C bm/\subIn K (.ref C) (.ref Dc)=some true/\
 te σ1 (upd H1 ea<|XC ea C od) (Cu K ea C od E)) D W H
def zj(ok:X.Ok)(S:X.stack=X.env::X.outer)(hf:X.env.frame=some X.env.locals)(hX:oz X E)(he:PE (X.sui ea) ex te)(I:Inv X J W H s)(h:te W H (Cu X.K ea C od E)):
  wpAny (model X.prog X.w) (X.A.mark<|some<|.ref ea) (exec (.Raise (some ex) (some<|.Constant .none j cp) rp) X.env) Q (X.suF ea).xe s:=by
 have z:PE (X.suF ea) ex te:=PE.nox (X:=X.suF ea) he;rw[arm_exec_Raise];refine Xj<|wpAny_standAt (yk (h:=ea) M (λs1 Q1 q1=>Xj<|Constant_none<|Xj<|wpAny_standAt<|Xr q1)<|Xj<|JD (z J s W H _ (I.suF ea) h) λv s1 zz=>?_);let{y,H1,G,ry,e2,C2,O,bm,ev,ne,Z,hc,Y,q}:=zz;refine Xj<|wpAny_standAt<|Xr ?_;subst ev;cases (show v=Value.ref e2 from ry);have G:Inv X J W H1 s1:=G.unsuF ok;let{nm,q',N,bs,sn,sub,ab,col,dd,k0,k1,k2,k3,k5,hK}:=Y.ob;let{t,z}:=vS G.hok Z;let{vh,U,hz,hv}:=Ig G.hok hc;refine{e2,C2,O,t,nm,q',N,bs,bm,sn,sub,ab,col,dd,k0,k1,k2,k3,k5,M,ne,G.kIn _ _ hK,Y.mro,z,⟨C,od,vh,U,hv⟩,λh' keep new=>?_};have I2:Inv X J W (upd H1 ea<|XO ea C od) {s1 with heap:=s1.heap}:=G.write (x:=ea) (e:=ea) (t':=s1.toks) (by rw[hc];exact Xx) (.inl M) (λ_ _ _ e=>e) {_,U} (yY U hz);have I3:Inv X J W (upd (upd H1 ea<|XO ea C od) e2<|XO e2 C2 O) {s1 with heap:=h'}:=I2.write (x:=e2) (e:=e2) (t':=s1.toks) (by rw[ae ne,Z];exact Xx) (.inl M) keep {_,new} (yY new<|by show 1<6;decide);show wpAny _ _ (noteFrame (.ref e2) X.env) _ _ _;refine CV I3 S hf (show(X.A.mark<|some<|.ref ea).frames=some X.stack from I.ok.frames) I0 new (by show 1<6;decide) M λh2 a0 T I4 r4 z4 t4 f4=>?_;rw[bW]at I4 f4;exact Bm I4 hf I0 r4 z4 t4 f4 (by rw[bW];exact q) hX
def E4(a0:X.stack=X.env::X.outer)(hf:X.env.frame=some X.env.locals)(hb:∀pn E,KH (X.trC pn E) body (tb E))(hg:Gl X x)(hm:X.mg x=some (.ref Dc))(Z:JF X.K Dc bm')(hX:oz X E)(he:∀ea,PE (X.sui ea) ex te)(a2:(x==(eN:Str))=false:=by decide):
  PS X (.Try body [.ExceptHandler (some<|.Name x np) none [.Raise (some ex) (some<|.Constant .none j cp) rp] hp] [] [] pos) (Iz X.K Dc tb te E):=by
 intro J s W H D I h;refine wpAny_Try_except<|XA (hb J _ [] s W H D (I.trC _) h) (λf s1 z=>?_) λe s1 z=>?_
 .cases f with
  |next=>
   let{G,H',O,q}:=z;exact wpAny_execs_nil {G,H',O.untrC I.ok,q}
  |brk=>
   let{G,H',O,q}:=z;exact{G,H',O.untrC I.ok,q}
  |cont=>
   let{G,H',O,q}:=z;exact{G,H',O.untrC I.ok,q}
  |ret u=>
   let{v,G,H',O,rv,q}:=z;exact{v,G,H',O.untrC I.ok,rv,q}
 .let{a3,S,H1,ea,C,od,vs,φ,a5,rfl,I1,hx,hr,hz,ht,ea',C',bm,e1,e2,Y,a1,q}:=z;obtain rfl:ea=ea':=Value.ref.inj e1;refine gd (X:={X with pn:=X.pn++J}) I1 a0 hf I1.ok.frames hx hr hz (ht.imp id .inl) λs2 a6 T I2 r2 z2 t2 U c2=>?_;let{a8,r3,_}:=vR I2.hok e2;obtain rfl:C=C':=by
   have z:=XB Obj.cls (Xq<|r2.symm.trans r3);exact Value.ref.inj z
  have I3:Inv X J S (upd H1 ea<|XO ea C od) s2:=I2.untr I.ok;have f3:eY X J (upd H1 ea<|XO ea C od) T:={U.1,U.2.1,U.2.2.1,U.2.2.2.1,U.2.2.2.2.1,λp hp=>U.2.2.2.2.2 p<|Qu _ hp};refine zn I3 r2 hg hm Z Y a1 a2 (λ_=>?_) (λz=>nomatch z);refine codeAny_handlers_suite<|gg (l:=[]) r2 t2 λh' g1 g2 g3 g4 g5=>?_;have I4:Inv X J S (upd H1 ea<|XO ea C od) {s2 with heap:=h'}:=I3.turned (t':=s2.toks) (it:=T) g1 f3.1 f3.2.1 f3.2.2.2.1 f3.2.2.2.2.1 f3.2.2.2.2.2;have I5:Inv X J S (upd (upd H1 ea<|XO ea C od) ea<|XC ea C od) {s2 with heap:=h'}:=I4.write (x:=ea) (e:=ea) (t':=s2.toks) (by rw[I0];exact Xx) (.inl M) (λ_ _ _ e=>e) {_,g2} (Ge g2 z2<|c2.trans a5);exact wpAny_execs_cons<|zj I.ok a0 hf hX (he ea) I5 q
end
variable{vs:Mn}{Q:Bool->Shared->Prop}{bm:Lz}{od:Me}{s:J'}{J3:Ml}
section
variable{M':Model}{A:Mj}
variable{nm q nm' q' nm2 q2:Str}{C N C' N' C2 N2:G'}{bs bs' bm' bs2 bm2:Lz}{sn sn' sn2:Mf}{sub sub' sub2:Lz}{ab ab' ab2:Bool}{col col' col2:Option Bool}{dd dd' dd2:Me}{k0 k1 k2 k3 k5 k0' k1' k2' k3' k5' l0 l1 l2 l3 l5:My}
def yM{e p:G'}{n:Nat}(O:s.heap.get? C=some (excClassObj nm q C N bs bm true sn sub ab col dd k0 k1 k2 k3 k5 fy))
  (I:s.heap.get? C'=some (excClassObj nm' q' C' N' bs' bm' true sn' sub' ab' col' dd' k0' k1' k2' k3' k5' fy)) (B:JH bm')
  (z:s.heap.get? C2=some (excClassObj nm2 q2 C2 N2 bs2 bm2 true sn2 sub2 ab2 col2 dd2 l0 l1 l2 l3 l5 fy)) (S:JH bm2)
  {U:Me} {Y:ME} (hp:s.heap.get? p=some {.type jb,U,.seq #[.ref C',.ref C2] n,Y})
  (he:s.heap.get? e=some (aH C od vs)) (hb:(Value.ref C::bm).contains (.ref C')=true)
  (hq:Q true s):wpAny M' A (excMatches (.ref e)<|.ref p) Q J3 s:=by
 have Z:(Value.ref C'::bm').contains (.type i3)=true:=by rw[Qt,B.bas,Z5]
 have G:(Value.ref C2::bm2).contains (.type i3)=true:=by rw[Qt,S.bas,Z5]
 have f:=tc_notTuple;have f2:isSubtype (.type jb) (.type jb)=pure true:=by kernel_rfl
 let{a0,g,d,t,os}:=s;unfold excMatches
 repeat (first|with_reducible refine wpAny_loadPart_at he ?_|with_reducible refine wpAny_loadPart_at hp ?_|with_reducible refine wpAny_loadPart_at I ?_|(with_reducible refine wpAny_isSubtype_exc I ?_;rw[Z])|(with_reducible refine wpAny_isSubtype_exc O ?_;rw[hb])|(with_reducible refine wpAny_isSubtype_exc z ?_;rw[G])|with_reducible refine wpAny_loadPart_at z ?_|wp_step)
 exact hq
end
section
variable{X:Cx}{J:Ma}{W:St}{H:Hp}{E:XK}{x y:Str}{np mp tp cp rp hp pos:Pos}{ex:Expr}{te:TE}{D1 D2:G'}{b1 b2:Lz}{j k:Nat}{body:Mw}{tb:(St->XK)->TS}
def CG{b0:Stmt}{suite:Mw}{rest:List ExceptHandler}{ea C T:G'}{fl:K'}{Q:Flow->Shared->Prop}(I:Inv X J W H s)(hx:H ea=some (XO ea C od))(hr:s.heap.get? ea=some (aH C od vs))(tr:Kt s.heap ea vs T fl)(fp:eY X J H T)(hg:Gl X x)(hm:X.mg x=some (.ref D1))(Z1:JF X.K D1 b1)(S:Gl X y)(U:X.mg y=some (.ref D2))(Z2:JF X.K D2 b2)
  (Y:JF X.K C bm) (hb:subIn X.K (.ref C) (.ref D1)=some true) (Z:(x==(eN:Str))=false) (z:(y==(eN:Str))=false)
  (h1:∀p s1,H p=none->Inv X J W (upd H p<|.tup [.ref D1,.ref D2]) s1->s1.heap.get? ea=some (aH C od vs)->Kt s1.heap ea vs T fl->eY X J (upd H p<|.tup [.ref D1,.ref D2]) T->codeAny (model X.prog X.w) (X.A.mark<|some<|.ref ea) (.handlers (.ref ea) [.ExceptHandler none none (b0::suite) pos] X.env) (λr s2=>match r with
     | .ok f=>Q f s2
     | .error x=>cameBackBy (model X.prog X.w) X.A X.env X.xe x s2) s1):
  J5 X (handleBy (.ref ea) X.env (.ExceptHandler (some<|.Tuple [.Name x np,.Name y mp] k tp) none (b0::suite) pos::rest)) Q X.xe s:=by
 let{nm,q1,N,bs,sn,sub,ab,col,dd,k0,k1,k2,k3,k5,hK}:=Y.ob;let{nm',a5,N',bs',sn',sub',ab',col',dd',k0',k1',k2',k3',k5',a0}:=Z1.ob;let{nm2,a6,N2,bs2,sn2,sub2,ab2,col2,dd2,l0,l1,l2,l3,l5,a1}:=Z2.ob;have hf:H s.heap.objs.size=none:=I.hok.fresh (Q4 _);have O:Inv X J W (upd H s.heap.objs.size<|.tup [.ref D1,.ref D2]) {s with heap:=s.heap.push {cls:= .type jb,data:= .seq #[.ref D1,.ref D2]}}:=I.laid (t':=s.toks) (λb u e=>Xk _ e) (Q4 _) {(by show 2<=sizeLine;decide),[.ref D1,.ref D2],.cons M<|.cons M .nil,{_,Xu _ M,M,_,M}};have G:(s.heap.push {cls:= .type jb,data:= .seq #[.ref D1,.ref D2]}).get? ea=some (aH C od vs):=Xk _ hr;have a2:Kt (s.heap.push {cls:= .type jb,data:= .seq #[.ref D1,.ref D2]}) ea vs T fl:=by
  let{t1,t2,oT,ts,t3,t4}:=tr;exact{t1,t2,oT,ts,Xk _ t3,t4}
 have a3:eY X J (upd H s.heap.objs.size<|.tup [.ref D1,.ref D2]) T:=by
  let{t1,t2,oT,ts,t3,t4}:=tr;refine{?_,fp.2};rw[ae (Qn<|Xs t3)];exact fp.1
 refine wpAny_handleBy_cons (codeAny_handlers_test<|wpAny_Tuple_spliced ?_) (by intro q;cases q);show wpAny _ _ (spliced ((false,eval (.Name x np) X.env)::(false,eval (.Name y mp) X.env)::[])) _ _ s;refine Calls.spliced_cons<|cc (X:=X.sui ea) (I.sui ea) hg hm (Calls.spliced_cons<|cc (X:=X.sui ea) (I.sui ea) S U (Calls.spliced_nil {(by show 2<=sizeLine;decide),?_}) z) Z;exact yM (O.kIn _ _ hK) (O.kIn _ _ a0) Z1.mro (O.kIn _ _ a1) Z2.mro (Xu _ M) G (za Y hb)<|h1 _ _ hf O G a2 a3
def GW(K:J4)(D1 D2:G')(tb:(St->XK)->TS)(te:TE)(E:XK):TS:=λD W H=>tb (λσ1 v od H1=>∃ea C bm,v= .ref ea/\H1 ea=some (XO ea C od)/\JF K C bm/\subIn K (.ref C) (.ref D1)=some true/\
 ∀p,H1 p=none->te σ1 (upd (upd H1 p<|.tup [.ref D1,.ref D2]) ea<|XC ea C od) (Cu K ea C od E)) D W H
def CA(a0:X.stack=X.env::X.outer)(hf:X.env.frame=some X.env.locals)(hb:∀pn E,KH (X.trC pn E) body (tb E))(hg:Gl X x)(hm:X.mg x=some (.ref D1))(Z:JF X.K D1 b1)(a5:Gl X y)(a6:X.mg y=some (.ref D2))(Z2:JF X.K D2 b2)(hX:oz X E)(he:∀ea,PE (X.sui ea) ex te)(a8:(x==(eN:Str))=false:=by decide)(a1:(y==(eN:Str))=false:=by decide):
  PS X (.Try body [.ExceptHandler (some<|.Tuple [.Name x np,.Name y mp] k tp) none [.Raise (some ex) (some<|.Constant .none j cp) rp] hp] [] [] pos) (GW X.K D1 D2 tb te E):=by
 intro J s W H D I h;refine wpAny_Try_except<|XA (hb J _ [] s W H D (I.trC _) h) (λf s1 z=>?_) λe s1 z=>?_
 .cases f with
  |next=>
   let{G,H',O,q}:=z;exact wpAny_execs_nil {G,H',O.untrC I.ok,q}
  |brk=>
   let{G,H',O,q}:=z;exact{G,H',O.untrC I.ok,q}
  |cont=>
   let{G,H',O,q}:=z;exact{G,H',O.untrC I.ok,q}
  |ret u=>
   let{v,G,H',O,rv,q}:=z;exact{v,G,H',O.untrC I.ok,rv,q}
 .let{ac,a2,H1,ea,C,od,vs,φ,al,rfl,I1,hx,hr,hz,ht,ea',C',bm,e1,e2,Y,a3,q}:=z;obtain rfl:ea=ea':=Value.ref.inj e1;refine gd (X:={X with pn:=X.pn++J}) I1 a0 hf I1.ok.frames hx hr hz (ht.imp id .inl) λs2 an T I2 r2 z2 t2 f2 c2=>?_;let{ap,r3,_}:=vR I2.hok e2;obtain rfl:C=C':=by
   have z:=XB Obj.cls (Xq<|r2.symm.trans r3);exact Value.ref.inj z
  have I3:Inv X J a2 (upd H1 ea<|XO ea C od) s2:=I2.untr I.ok;have S:eY X J (upd H1 ea<|XO ea C od) T:={f2.1,f2.2.1,f2.2.2.1,f2.2.2.2.1,f2.2.2.2.2.1,λp hp=>f2.2.2.2.2.2 p<|Qu _ hp};have U:upd H1 ea (XO ea C od) ea=some (XO ea C od):=I0;refine CG I3 U r2 t2 S hg hm Z a5 a6 Z2 Y a3 a8 a1 λp s3 np I3 r2 t2 S=>?_;have am:ea≠p:=ai U np;refine codeAny_handlers_suite<|gg (l:=[]) r2 t2 λh' g1 g2 g3 g4 g5=>?_;have I4:=I3.turned (t':=s3.toks) (it:=T) g1 S.1 S.2.1 S.2.2.2.1 S.2.2.2.2.1 S.2.2.2.2.2;have I5:Inv X J a2 (upd (upd (upd H1 ea<|XO ea C od) p<|.tup [.ref D1,.ref D2]) ea<|XC ea C od) {s3 with heap:=h'}:=I4.write (x:=ea) (e:=ea) (t':=s3.toks) (by rw[ae am,U];exact Xx) (.inl M) (λ_ _ _ e=>e) {_,g2} (Ge g2 z2<|c2.trans al);exact wpAny_execs_cons<|zj I.ok a0 hf hX (he ea) I5 (q p np)
end
abbrev _root_.MG:=List (Str×Nat×Addr)
variable{a:G'}{ps:MG}
def kdE(w:Md)(x:Str×Nat×Addr):DictEntry:={PyData.keyHash w.params x.1,.str x.1 x.2.1,.ref x.2.2}
def KD(w:Md)(K:J4)(a:G')(ps:MG):Prop:=(∃n,K.lookup a=some {.type "dict",none,.dict (ps.map<|kdE w).toArray n, #[]})/\(a==sysModules)=false/\(ps.map (·.1)).Nodup
noncomputable def Li(ps:MG)(x:Str):Option V:=(ps.find? λp=>decide (p.1=x)).map λp=>V.ref p.2.2
theorem wR{P:Mc}{w:Md}:∀ps:List (Str×Nat×Addr),Pairs (bD P w) (ps.map<|kdE w) (ps.map λp=>((.inr p.1:Key),Value.ref p.2.2))
 | []=> .nil
 |p::ps=> .cons (kg P w p.1 p.2.1) M (wR ps)
def Gw{P:Mc}{w:Md}{K:J4}{h:Heap}(k:KD w K a ps)(hk:K.In h):h.DictOf (bD P w) a (ps.map λp=>((.inr p.1:Key),Value.ref p.2.2)):=by
 let{{n,k1},k2,k3}:=k;refine{_,_,_,hk _ _ k1,⟨M,M,M⟩,M,λe he=>?_,by simpa using wR ps,?_}
 .have he:e∈ps.map (kdE w):=by simpa using he
  let{p,_,rfl}:=Qh.mp he;exact{.inr p.1,kg P w p.1 p.2.1,M}
 .rw[QL,show((λkv:Key×Value=>kv.1)∘λp:Str×Nat×Addr=>((.inr p.1:Key),Value.ref p.2.2))=(Sum.inr∘λp:Str×Nat×Addr=>p.1) from rfl,<-QL];exact List.Pairwise.map _ (λ_ _ q z=>q<|Sum.inr.inj z) k3
def Dq(ps:MG)(x:Str):valueAt (ps.map λp=>((.inr p.1:Key),Value.ref p.2.2)) (.inr x)=(ps.find? λp=>decide (p.1=x)).map λp=>Value.ref p.2.2:=by
 unfold valueAt;rw[List.find?_map,Option.map_map];have:((λkv:Key×Value=>decide (kv.1=Sum.inr x))∘λp:Str×Nat×Addr=>((.inr p.1:Key),Value.ref p.2.2))=λp=>decide (p.1=x):=by
  funext p;show decide ((Sum.inr p.1:Key)=Sum.inr x)=decide (p.1=x);by_cases c:p.1=x
  .rw[Xn c,Xn (XB Sum.inr c)]
  .rw[Xo c,Xo λz=>c (Sum.inr.inj z)]
 rw[this];rfl
section
variable{X:Cx}{o i:Expr}{x:Str}{np pos:Pos}{ty:TE}
def Io(ps:MG)(ty:TE):TE:=λW H Q=>ty W H λy H2=>∃z v,y= .str z/\Li ps z=some v/\Q v H2
def EI(ps:MG)(ty:TE):TE:=λW H Q=>ty W H λy H2=>∃z,y= .str z/\Q (.bl<|!(Li ps z).isSome) H2
def E9(S:Gl X x)(U:X.mg x=some (.ref a))(k:KD X.w X.K a ps)(hi:PE X i ty)(hs:HU i)(hd:(x==(eN:Str))=false:=by decide):PE X (.Subscript (.Name x np) i pos) (Io ps ty):=by
 intro J s W H Q I h;refine zb PySem.F.slot_dict_getitem.lookup hs<|cc I S U (JD (hi J s W H _ I h) λiv s2 G=>?_) hd;let{y,H2,O,Y,z,v,Z,e,q2}:=G;subst Z;have dd:=Gw (P:=X.prog) k (h:=s2.heap) λb o e=>O.kIn b o e;refine{dd.mapOf.typeIs,?_};unfold Li at e;let{p,e1,e2}:=Z4.mp e;refine wpAny_getItem_of (nP (k:= .inr z) Y) dd.mapOf (by rw[Dq,e1];rfl) {v,H2,O.tok _,?_,q2};rw[<-e2];rfl
def AH(O:Gl X x)(S:X.mg x=some (.ref a))(k:KD X.w X.K a ps)(hi:PE X i ty)(hd:(x==(eN:Str))=false:=by decide):PC X .NotIn i (.Name x np) (EI ps ty):=by
 intro J s W H Q I h;refine JD (hi J s W H _ I h) λZ s1 zz=>?_;let{y,H1,G,U,z,Y,q2}:=zz;refine cc G O S ?_ hd;subst Y;have dd:=Gw (P:=X.prog) k (h:=s1.heap) λb o e=>G.kIn b o e;refine wpAny_notIn_of (nP (k:= .inr z) U) k.2.1 dd.mapOf {.bl<|!(Li ps z).isSome,H1,G.tok _,?_,q2};rw[Dq];unfold Li;rw[Zs,Zs];rfl
end
end L2
namespace L2
open PySem PySem.Spec PyProof.Rows
open SeqAt
section
variable{X:Cx}
def bY{st:Stmt}:PS X st (λ_ _ _=>False):=λ_ _ _ _ _ _ h=>h.elim
def PlainL.isL{h:Heap}{a:G'}{xs:Mn}(p:PlainL h a xs):h.IsList a xs:=by
 let{o,n,e,c,_,d}:=p;exact⟨o,e,c,n,d⟩
end
def Fl:V->Prop
 | .int _=>True| .str _=>True| .non=>True| .bl _=>True|_=>False
section
variable{X:Cx}{J:Ma}{W:St}{H:Hp}{s:J'}
def FH{A:Mj}{x:V}{u v:K'}(h:Fl x)(r1:RelV x u)(z:RelV x v):EqAt A s u v true:=by
 cases x with
 |int n=>
  let{G,rfl}:=r1;let{I,rfl}:=z;have:=EqAt.int_int (A:=A) (s:=s) n G n I;rwa [XI]at this
 |str n=>
  let{G,rfl}:=r1;let{I,rfl}:=z;have:=EqAt.str_str (A:=A) (s:=s) n G n I;rwa [XI]at this
 |bl b=>
  cases (show u=Value.bool b from r1);cases (show v=Value.bool b from z);have:=EqAt.bool_bool (A:=A) (s:=s) b b;rwa [XI]at this
 |non=>
  cases (show u=Value.none from r1);cases (show v=Value.none from z);exact EqAt.same _
 |_=>exact h.elim
theorem wW{A:Mj}:∀{xs:L'}{us vs:Lz},J8 xs us->J8 xs vs->(∀x∈xs,Fl x)->us.length=vs.length/\∀(j:Nat)(h1:j<us.length)(h2:j<vs.length),EqAt A s us[j] vs[j] true
 | [],_,_,.nil,.nil,_=>{M,λj h=>Xp h<|Nat.not_lt_zero _}
 |x::xs,_,_,.cons r1 t1,.cons r2 t2,h=>by
  let{l,g}:=wW (A:=A) t1 t2 λy hy=>h y (Q7 _ hy);refine{by rw[Q9,Q9,l],λj h1 h2=>?_};cases j with
  |zero=>exact FH (h x Q8) r1 r2
  |succ j=>exact g j (by simpa using h1) (by simpa using h2)
inductive rEqF(K:J4)(f:Bool)(x y:V)(H:Hp)(Q:VK):Prop
 |mk(a b xs:_)(_:x= .ref a)(_:y= .ref b)(_:JC K H a xs)(_:JC K H b xs)(_:(∀v∈xs,Fl v))(_:Q (.bl<|!f) H)
def Ha(K:J4)(hK:X.K=K)(hu:X.A.units+20<cLine):Kl X (compareOp .NotEq) (rEqF K true):=by
 subst hK;intro J s W H x y v u Q I z G h;let{a,b,xs,rfl,rfl,h1,h2,fl,q}:=h;cases z;cases G;let{U,r1,O,Y}:=I.list h1;let{Z,S,p2,z2}:=I.list h2;let{l,g}:=wW (A:=X.A.in1) (s:=s) r1 S fl;exact RcNeAt.lists (A:=X.A) (e:=λ_=>true) (PlainL.isL O) (PlainL.isL p2) (by simpa using l) () (λj a b=>by simpa using g j (by simpa using a) (by simpa using b)) _ _ _ _ {.bl _,H,I,M,by rw[QB.mpr λ_ _=>rfl];exact q}
end
end L2
namespace L2
open PySem PySem.Spec PyProof.Rows
variable{f:G'}{A:Mj}{fd:Mq}{o:HO}{base:Heap}{H:Hp}{ps:Mf}{P:Mc}{B:Prop}{K:J4}{sp:Sp}{x y:V}{w:Md}
def Dt{A:Prop}(e:x=y)(h:B):if(!decide (x=y))=true then A else B:=by
 rw[Xn e];exact bu h
def zJ{A:Prop}(e:¬x=y)(h:A):if(!decide (x=y))=true then A else B:=by
 rw[Xo e];exact bL h
def lr{A:Prop}(e:x=y)(h:A):if decide (x=y)=true then A else B:=by
 rw[Xn e];exact bL h
def au{p:G'}(h:H p=none):JA H (upd H p o):=λb u e=>by
 rwa[ae (ai e h)]
def iK{H':Hp}{l:G'}(s:JA H H')(n:H l=none):JA H (upd H' l o):=λb u e=>by
 rw[ae (ai e n)];exact s b u e
def Dn{C D:G'}{b:Bool}(h1:PySem.W.typeIn K (.ref D)=some (.type "type"))(h2:PySem.W.isClsIn K D=true)(I:PySem.W.subIn K (.ref C) (.ref D)=some b)(G:C=D->b=true):
  PySem.W.kitOne K (.ref C) (.ref D)=some b:=by
 unfold PySem.W.kitOne;by_cases z:((Value.ref C:K')== .ref D)=true
 .rw[Xm z,G (Value.ref.inj<|XF.mp z)]
 .rw[Xl z];show(if((PySem.W.clsIn K D).isSome&&PySem.W.typeIn K (.ref D)==some (.type "type"))=true then PySem.W.subIn K (.ref C) (.ref D)else none)=some b;have:(PySem.W.clsIn K D).isSome=true:=h2;rw[Xm (by rw[this,h1];simp),I]
structure Jr(k:Nat)(A:Mj):Prop where
 dp:A.depth+3*k+5<recursionLimit
 un:A.units+16*k+200<cLine
def JI.u20{k:Nat}(r:JI k A):A.units+20<cLine:=by have:=r.un;lia
def JI.h{k:Nat}(r:JI k A):Jr k A:=⟨r.dp,r.un⟩
def Jr.mono{j k:Nat}(r:Jr k A)(h:j<=k):Jr j A:={by have:=r.dp;lia,by have:=r.un;lia}
def Jr.deeper{k:Nat}(r:Jr (k+1) A)(env:Env):Jr k (A.deeper env):=
 {by have:=r.dp;show A.depth+1+3*k+5<_;lia,by have:=r.un;show A.units+3+16*k+200<_;lia}
def Jr.mark{k:Nat}(r:Jr k A)(h:My):Jr k (A.mark h):=⟨r.dp,r.un⟩
def quiet(A:Mj):Around:={A with handled:=none}
def Jr.quiet{k:Nat}(r:Jr k A):JI k (L2.quiet A):=⟨M,r.dp,r.un⟩
structure Kv(P:Mc)(w:Md)(K:J4)(mg:Mm)(base:Heap)(k:Nat)(f:G')(fd:Mq)(ps:Mf)(sp:Sp):Prop where
 len:∀vs H Q E,sp vs H Q E->vs.length=ps.length
 run:∀(A:Mj)(outer:Mp)(s:J')(H:Hp)(args:Args)(us:Lz)(vs:L')(Q:VK)(E:XK),Jr k A->L8 P w K mg base A outer s H->BindsTo s fd args (ps.zip us)->J8 vs us->sp vs H Q E->
  codeAny (model P w) A (.call (.ref f) args) (CR JT outer P w H s Q E) s
section
variable{mg:Mm}{k:Nat}
def Kv.ok(F:Kv P w K mg base k f fd ps sp):J9 P w K mg base JT k f fd ps sp:={F.len,λA outer s H args us vs Q E z=>F.run A outer s H args us vs Q E z.h}
end
abbrev Cx.any(X:Cx):Cx:={X with calm:=false,xe:=λ_ _=>False}
def JN.okH{mg:Mm}{x qual:Str}{st:Stmt}{N:Mf}{k:Nat}(F:JN K x qual st f fd)(S:ao N ps (ah st))(len:∀vs H Q E,sp vs H Q E->vs.length=ps.length)
  (Z:∀(O:K')(A:Mj)(outer:Mp)(s:J')(H:Hp)(vs:L')(Q:VK)(E:XK),Jr k (A.deeper<|envOfC qual (ah st) s.heap.objs.size f O)->sp vs H Q E->
   ∃t,KH (gF JT P w K mg base N qual (ah st) f O A outer s H E).any (b4 st) t/\t {nx:=λ_ H'=>Q .non H',rt:=Q} (start N vs) H):Kv P w K mg base (k+1) f fd ps sp:=by
 let{oc,od,kV,a6,pm,an,O,ct,a8,rfl,lk,a2}:=F.ex;refine{len,λA outer s H args us vs Q E hr U hb r a1=>?_};have hl:=len _ _ _ _ a1;have KX:K.In s.heap:=U.mod.kin.keeps λb o e=>(U.bs b o e).1;have a3:s.heap.NoLimit:=U.mod.nolimit.keeps λb o e=>(U.bs b o e).1;have a0:∀y∈ps.zip us,(ah st).names.lookup y.1=some .local\/((ah st).names.lookup y.1=some .cell/\((cellsFrom (s.heap.objs.size+1) (ah st).names []).lookup y.1).isSome=true):=λ⟨n,v⟩ hy=>by
  rcases S.par n (ZP hy).1 with q|q
  .exact .inl q
  .exact .inr {q,ZL _ _ _<|.inl q}
 have a5:=hr.quiet.depth;refine codeAny_call_function a5 (KX _ _ lk) M S.co S.gen M (PySem.W.codeRec_of KX a2)<|hb _ _ _ _ ?_;refine wpAny_newFunctionEnv_cells S.kind a0 λenv he s1 x=>?_;subst he;refine{a3.keeps x.toInCall.keep,codeAny_func ?_};let{t,ht,hq}:=Z O A outer s H vs Q E (hr.deeper _) a1;have e1:L8 P w K mg base (quiet A) outer s H:=⟨U.frames,U.mod,U.bs,U.bsz,U.funs,U.frf,U.hok,U.bare⟩;have G:Inv (gF JT P w K mg base N qual (ah st) f O (quiet A) outer s H E) [] (start N vs) H s1:=uu S M e1 hl r x;have ok:(gF JT P w K mg base N qual (ah st) f O A outer s H E).any.Ok:=
  {G.ok.mod,G.ok.kind,G.ok.glob,G.ok.blt,G.ok.above,G.ok.inj,G.ok.has,G.ok.cab,λz=>Xp z Q6,G.ok.frames,G.ok.stk,G.ok.exf,G.ok.bs,G.ok.bsz,G.ok.noex,G.ok.exfs,G.ok.funs,G.ok.frf}
 have I:Inv (gF JT P w K mg base N qual (ah st) f O A outer s H E).any [] (start N vs) H s1:=⟨ok,G.os,G.bare,G.base,G.loc,G.cell,G.free,G.freeC,G.pin,G.hok,G.len⟩;refine XA (ht [] s1 (start N vs) H _ I hq) (λfl s' hs=>?_) λe s' hs=>hs.elim;have fin:∀{Y:St}{H':Hp}{v:V}{u:K'},Inv (gF JT P w K mg base N qual (ah st) f O A outer s H E).any [] Y H' s'->RelV v u->Q v H'->CE outer P w H s Q u s':=
  λ{Y H' v u} J0 rv q=>⟨v,H',J0.os,J0.bare,J0.base,J0.hok,rv,q⟩
 cases fl with
 |ret u=>
  let{v,Y,H',J0,rv,q}:=hs;exact fin J0 rv q
 |next=>
  let{Y,H',J0,q}:=hs;exact fin (v:=V.non) (u:=Value.none) J0 M q
 |brk=>
  let{_,_,_,q}:=hs;exact False.elim q
 |cont=>
  let{_,_,_,q}:=hs;exact False.elim q
section
variable{X:Cx}{k:Nat}{C:G'}{dvs:L'}{ds:Lz}{E:XK}{x m:Str}{p pos apos:Pos}{e o:Expr}{es:Ms}{ta:TE}{t:TA}
def EQ{J:Ma}{W:St}{s:J'}{Q:VK}{us:Lz}{vs:L'}(F:Kv X.prog X.w X.K X.mg X.base k f fd ps sp)(G:Jr k X.A)(hb:Binds X.K fd ps ds)(hd:J8 dvs ds)
  (I:Inv X J W H s) (r:J8 vs us) (h:sp (vs++dvs) H Q E):J5 X (call (.ref f) us) (EP X J W Q) X.xe s:=by
 have z:J8 (vs++dvs) (us++ds):=r.append hd;have hl:(us++ds).length=ps.length:=by rw[<-z.length];exact F.len _ _ _ _ h
 refine wpAny_call<|codeAny_mono (F.run X.A X.stack s H {us,[]} (us++ds) (vs++dvs) Q E G I.env0 (hb s us I.kIn hl) z h) λr s' hq=>?_;cases r with
 |error e=>exact False.elim hq
 |ok fl=>
  cases fl with
  |ret u=>exact I.after hq
  |next=>exact False.elim hq
  |brk=>exact False.elim hq
  |cont=>exact False.elim hq
def CJ(F:Kv X.prog X.w X.K X.mg X.base k f fd ps sp)(S:Jr k X.A)(U:Gl X x)(Y:X.mg x=some (.ref f))(hk:PySem.W.keepIn X.K (.ref f)=true)(hb:Binds X.K fd ps ds)(hd:J8 dvs ds)
  (ha:PA X (e::es) t) (z:(x==(eN:Str))=false:=by decide) (he:starEach (e::es) X.env=(false,eval e X.env)::starEach es X.env:=by rfl) (G:(backTo pos<|starEach es X.env).any (·.1)=false:=by rfl):
  PE X (.Call (.Name x p) (e::es) [] pos) (Cd sp dvs (λ_ _ _=>False) t):=by
 intro J s W H Q I h;refine XD<|cc I U Y ?_ z;refine QH (h₀:=X.base) I.ok.mod.kin hk (JD (ha pos J s W H _ I h) λus s1 zz=>?_) he G;let{vs,H1,O,r,q}:=zz;refine{O.kIn,?_};exact EQ F S hb hd O r q
def wu(K:J4)(hK:X.K=K){f:Str}(he:PE X o ta)(hb:attributeBase o f X.env (eval o X.env)=eval o X.env):PE X (.Attribute o f pos) (Gk K ta f):=by
 subst hK;exact Fa he hb
end
end L2
namespace Srt
open PySem PyProof.Rows
abbrev _root_.Mt:=Array Keyed
abbrev _root_.Mu:=Keyed->Keyed->Bool
variable{xs ys:Mt}{blt:Mu}{e i j lo n nrem:Nat}{st:SortSt}{Q:Unit->SortSt->Prop}{E:Ml}
abbrev dk:Keyed:=(Value.none,Value.none)
noncomputable def g(xs:Mt)(i:Nat):Keyed:=xs[i]?.getD dk
theorem sE(h:i<xs.size):xs[i]?=some (g xs i):=by
 unfold g;rw[getElem?_pos xs i h];rfl
theorem nU(h:xs[i]?=ys[j]?):g xs i=g ys j:=by unfold g;rw[h]
theorem IZ(h:i<xs.size):g xs i∈xs:=by
 have e:=sE h;exact Array.mem_of_getElem? e
structure LP(blt:Mu):Prop where
 asym:∀x y,blt x y=true->blt y x=false
 tr:∀x y z,blt y x=false->blt z y=false->blt z x=false
section
variable(C:LP blt)
abbrev le(blt:Mu)(x y:Keyed):Prop:=blt y x=false
include C
theorem LP.trans{x y z:Keyed}(h1:le blt x y)(h2:le blt y z):le blt x z:=C.tr x y z h1 h2
theorem LP.of_lt{x y:Keyed}(h:blt x y=true):le blt x y:=C.asym _ _ h
end
def On(blt:Mu)(xs:Mt)(lo hi:Nat):Prop:=∀i j,lo<=i->i<j->j<hi->le blt (g xs i) (g xs j)
def Off(blt:Mu)(xs:Mt)(lo hi:Nat):Prop:=∀i j,lo<=i->i<j->j<hi->le blt (g xs j) (g xs i)
theorem On.one:On blt xs lo (lo+1):=λi j h1 h2 z=>by lia
theorem Off.one:Off blt xs lo (lo+1):=λi j h1 h2 z=>by lia
section
variable(C:LP blt)
include C
theorem On.snoc(h:On blt xs lo (lo+n))(I:1<=n)(e:le blt (g xs<|lo+n-1) (g xs<|lo+n)):On blt xs lo (lo+(n+1)):=λi j h1 h2 O=>by
 by_cases z:j<lo+n
 .exact h i j h1 h2 z
 .have G:j=lo+n:=();subst G;by_cases y:i=lo+n-1
  .subst y;exact e
  .exact C.trans (h i (lo+n-1) h1 () ()) e
theorem Off.snoc(h:Off blt xs lo (lo+n))(I:1<=n)(e:le blt (g xs<|lo+n) (g xs<|lo+n-1)):Off blt xs lo (lo+(n+1)):=λi j h1 h2 O=>by
 by_cases z:j<lo+n
 .exact h i j h1 h2 z
 .have G:j=lo+n:=();subst G;by_cases y:i=lo+n-1
  .subst y;exact e
  .exact C.trans e<|h i (lo+n-1) h1 () ()
end
theorem DB(z:j<=xs.size)(k:Nat):g (mirror xs i j<|(j-i)/2) k=if i<=k/\k<j then g xs (i+j-1-k)else g xs k:=by
 have e:=getElem?_mirror_all (i:=i) z k;by_cases h1:i<=k/\k<j
 .rw[Xm h1]at e⊢;exact nU e
 .rw[Xl h1]at e⊢;exact nU e
theorem DD{src d:Nat}(hs:src<xs.size)(hd:d<=src)(k:Nat):g (bubble xs src d) k=if k=src-d then g xs src else if src-d<k/\k<=src then g xs (k-1)else g xs k:=by
 have e:=getElem?_bubble hs d hd k;by_cases h1:k=src-d
 .rw[Xm h1]at e⊢;exact nU e
 .rw[Xl h1]at e⊢;by_cases h2:src-d<k/\k<=src
  .rw[Xm h2]at e⊢;exact nU e
  .rw[Xl h2]at e⊢;exact nU e
section
variable{prog:Mc}{w:Md}{A:Mj}{s:J'}{a₀:Mt}{κ:SortKind}
def D0(prog:Mc)(w:Md)(A:Mj)(E:Ml)(s:J')(a₀:Mt)(κ:SortKind)(blt:Mu):Prop:=
 ∀(x y:Keyed)(st:SortSt)(Q:Option Bool->SortSt->Prop),x∈a₀->y∈a₀->kindOf st=κ->Q (some<|blt x y) st->wpS (model prog w) A E s (lt' x y) Q st
structure JS(a₀:Mt)(κ:SortKind)(st:SortSt):Prop where
 kind:kindOf st=κ
 fine:failedOf st=none
 perm:(arrOf st).Perm a₀
theorem JS.size(B:JS a₀ κ st):(arrOf st).size=a₀.size:=B.perm.size_eq
theorem JS.mem(B:JS a₀ κ st)(h:i<a₀.size):g (arrOf st) i∈a₀:=(B.perm.mem_iff).mp (IZ<|by rwa[B.size])
variable(L:D0 prog w A E s a₀ κ blt)
include L
theorem mM{Q:Option Bool->SortSt->Prop}(B:JS a₀ κ st)(hi:i<a₀.size)(z:j<a₀.size)(h:Q (some<|blt (g (arrOf st) i)<|g (arrOf st) j) st):
  wpS (model prog w) A E s (ltAt' i j) Q st:=by
 rw[ltAt'_eq];refine Xz<|wpS_get ?_;show wpS _ _ _ _ (do let x<-elem' (arrOf st) i;let y<-elem' (arrOf st) j;lt' x y) Q st;rw[elem'_eq,elem'_eq,sE (by rwa[B.size]),sE (by rwa[B.size])];refine Xz<|XG (Xz<|XG ?_);exact L _ _ st Q (B.mem hi) (B.mem z) B.kind h
omit L in
theorem BZ{α:Type}{m m':StateT SortSt Sem α}{Q:α->SortSt->Prop}(e:m=m')(h:wpS (model prog w) A E s m' Q st):wpS (model prog w) A E s m Q st:=by rwa[e]
abbrev Ky(lo:Nat)(xs ys:Mt):Prop:=∀k,k<lo->g ys k=g xs k
theorem fP(B:JS a₀ κ st)(G:j<=a₀.size)
  (h:∀z,JS a₀ κ z->pendingOf z=pendingOf st->(∀k,g (arrOf z) k=if i<=k/\k<j then g (arrOf st) (i+j-1-k)else g (arrOf st) k)->Q Unit.unit z):
  wpS (model prog w) A E s (reverseSlice' i j) Q st:=by
 rw[reverseSlice'_eq];refine wpS_modify<|h _ {B.kind,B.fine,(mirror_perm _ _ _ _).trans B.perm} M λk=>?_;exact DB (by rwa[B.size]) k
theorem BY{a:Nat}{U:Type}{f:Nat->Option U×Nat->StateT SortSt Sem (ForInStep<|Option U×Nat)}{Q:Option U×Nat->SortSt->Prop}(C:LP blt)(B:JS a₀ κ st)(ha:1<=a)(G:a<=nrem)(hz:lo+nrem<=a₀.size)(hs:On blt (arrOf st) lo (lo+a))
  (hf:∀(i n:Nat)(R:ForInStep (Option U×Nat)->SortSt->Prop),n<nrem->1<=n->(blt (g (arrOf st)<|lo+n) (g (arrOf st)<|lo+n-1)=true->R (.done (none,n)) st)->(blt (g (arrOf st)<|lo+n) (g (arrOf st)<|lo+n-1)=false->R (.yield (none,n+1)) st)->wpS (model prog w) A E s (f i (none,n)) R st)
  (h:∀n,a<=n->n<=nrem->On blt (arrOf st) lo (lo+n)->(n<nrem->blt (g (arrOf st)<|lo+n) (g (arrOf st)<|lo+n-1)=true)->Q (none,n) st):
  wpS (model prog w) A E s (forIn [a:nrem] (none,a) f) Q st:=by
 refine XT (I:=λi c O=>O=st/\c=(none,i)/\a<=i/\i<=nrem/\On blt (arrOf st) lo (lo+i)) ?_ ?_ {M,M,Q4 _,G,hs}
 .rintro i c O h1 h2 ⟨rfl,rfl,Y,Z,S⟩;refine hf i i _ h2 () (λe=>?_)<|λe=>?_
  .exact h i Y Z S λ_=>e
  .exact{M,M,(),(),S.snoc C () e}
 .rintro c O ⟨rfl,rfl,Y,Z,S⟩;have e:max a nrem=nrem:=Zw G;rw[e]at S⊢;exact h nrem G (Q4 _) S λz=>Xp z (QV _)
omit L in
theorem pb{b:Nat}(hb:lo<=b)(h:Off blt xs lo e)(o:On blt xs b e)(hy:∀k,g ys k=if b<=k/\k<e then g xs (b+e-1-k)else g xs k):Off blt ys lo e:=λi j h1 h2 z=>by
 rw[hy i,hy j];by_cases G:b<=j
 .rw[Xm ⟨G,z⟩];by_cases I:b<=i
  .rw[Xm {I,()}];exact o _ _ () () ()
  .rw[Xl ()];exact h _ _ h1 () ()
 .rw[Xl (),Xl ()];exact h i j h1 h2 z
omit L in
theorem Hb(h:Off blt xs lo e)(hy:∀k,g ys k=if lo<=k/\k<e then g xs (lo+e-1-k)else g xs k):On blt ys lo e:=λi j h1 h2 z=>by
 rw[hy i,hy j,Xm {h1,()},Xm {(),z}];exact h _ _ () () ()
omit L in
theorem Fc(h:On blt xs lo e)(hy:∀k,g ys k=if lo<=k/\k<e then g xs (lo+e-1-k)else g xs k):Off blt ys lo e:=λi j h1 h2 z=>by
 rw[hy i,hy j,Xm (show lo<=j/\j<e by lia),Xm (show lo<=i/\i<e by lia)];exact h _ _ () () ()
noncomputable def DX(lo:Nat):Nat->Option (Option Nat)×Nat->StateT SortSt Sem (ForInStep<|Option (Option Nat)×Nat):=λ_ __s=>do
 let __x<-ltAt' (lo+__s.snd) (lo+__s.snd-1)
 match __x with
 |some smaller=>if smaller=true then pure (ForInStep.done (none,__s.snd))else pure (ForInStep.yield (none,__s.snd+1))
 |_=>pure (ForInStep.done (some none,__s.snd))
def t9(lo n nrem:Nat):StateT SortSt Sem (Option Nat):=do
 reverseSlice' lo (lo+n)
 let __s<-forIn [n:nrem] (none,n) (DX lo)
 match __s.fst with
 |some r=>pure r
 |none=>pure (some __s.snd)
noncomputable def zO(lo:Nat):Nat->Option (Option Nat)×Nat×Nat->StateT SortSt Sem (ForInStep<|Option (Option Nat)×Nat×Nat):=λ_ __s=>do
 let __x<-ltAt' (lo+__s.snd.fst) (lo+__s.snd.fst-1)
 match __x with
 |some smaller=>
  if smaller=true then
   if __s.snd.snd>0 then do
    reverseSlice' (lo+__s.snd.fst-(__s.snd.snd+1)) (lo+__s.snd.fst)
    pure (ForInStep.yield (none,__s.snd.fst+1,0))
   else pure (ForInStep.yield (none,__s.snd.fst+1,0))
  else do
   let __x<-ltAt' (lo+__s.snd.fst-1) (lo+__s.snd.fst)
   match __x with
   |some larger=>
    if larger=true then pure (ForInStep.done (none,__s.snd.fst,__s.snd.snd))
    else pure (ForInStep.yield (none,__s.snd.fst+1,__s.snd.snd+1))
   |_=>pure (ForInStep.done (some none,__s.snd.fst,__s.snd.snd))
 |_=>pure (ForInStep.done (some none,__s.snd.fst,__s.snd.snd))
def uz(lo n nrem:Nat):StateT SortSt Sem (Option Nat):=do
 liftM (rule "list.sort.descending-run")
 let __s<-forIn [n+1:nrem] (none,n+1,0) (zO lo)
 match __s.fst with
 |some r=>pure r
 |none=>
  if __s.snd.snd>0 then do
   reverseSlice' (lo+__s.snd.fst-(__s.snd.snd+1)) (lo+__s.snd.fst)
   t9 lo __s.snd.fst nrem
  else t9 lo __s.snd.fst nrem
theorem y3{R:ForInStep (Option (Option Nat)×Nat)->SortSt->Prop}(B:JS a₀ κ st)(hz:lo+nrem<=a₀.size)(G:n<nrem)(h1:1<=n)
  (z:blt (g (arrOf st)<|lo+n) (g (arrOf st)<|lo+n-1)=true->R (.done (none,n)) st) (hf:blt (g (arrOf st)<|lo+n) (g (arrOf st)<|lo+n-1)=false->R (.yield (none,n+1)) st):wpS (model prog w) A E s (DX lo i (none,n)) R st:=by
 unfold DX;refine Xz<|mM L B (by dsimp only;lia) (by dsimp only;lia) ?_;dsimp only;cases e:blt (g (arrOf st)<|lo+n) (g (arrOf st)<|lo+n-1)with
 |true=>exact XG<|z e
 |false=>exact XG<|hf e
theorem mL{Q:Option Nat->SortSt->Prop}(C:LP blt)(B:JS a₀ κ st)(h1:1<=n)(G:n<=nrem)(hz:lo+nrem<=a₀.size)(ho:Off blt (arrOf st) lo (lo+n))
  (h:∀m z,JS a₀ κ z->pendingOf z=pendingOf st->1<=m->m<=nrem->On blt (arrOf z) lo (lo+m)->Ky lo (arrOf st) (arrOf z)->Q (some m) z):wpS (model prog w) A E s (t9 lo n nrem) Q st:=by
 unfold t9;refine Xz<|fP L B () λz I hp hy=>?_;refine Xz<|BY L C I h1 G hz (Hb ho hy) (λi n R G h1 O hf=>y3 L I (i:=i) hz G h1 O hf) (λm ha S hs _=>?_);exact XG<|h m z I hp () S hs λk hk=>by rw[hy k,Xl ()]
theorem vV{Q:Option Nat->SortSt->Prop}(C:LP blt)(B:JS a₀ κ st)(h1:1<=n)(hn:n+1<=nrem)(hz:lo+nrem<=a₀.size)(ho:Off blt (arrOf st) lo (lo+(n+1)))
  (h:∀m G,JS a₀ κ G->pendingOf G=pendingOf st->1<=m->m<=nrem->On blt (arrOf G) lo (lo+m)->Ky lo (arrOf st) (arrOf G)->Q (some m) G):wpS (model prog w) A E s (uz lo n nrem) Q st:=by
 unfold uz;refine Xz<|wpS_lift (wpAny_rule {M,?_});refine Xz (XT (I:=λi c G=>∃q,c=(none,i,q)/\JS a₀ κ G/\pendingOf G=pendingOf st/\Ky lo (arrOf st) (arrOf G)/\n+1<=i/\i<=nrem/\q+1<=i/\Off blt (arrOf G) lo (lo+i)/\On blt (arrOf G) (lo+i-(q+1)) (lo+i)) ?_ ?_
  {0,M,B,M,λ_ _=>M,Q4 _,hn,(),ho,λi j a b c=>()})
 .rintro i c G a3 a5 ⟨q,rfl,B',hp,hk,h2,h3,h4,S,on⟩;unfold zO;refine Xz<|mM L B' (by dsimp only;lia) (by dsimp only;lia) ?_;dsimp only;cases e:blt (g (arrOf G)<|lo+i) (g (arrOf G)<|lo+i-1)with
  |true=>
   by_cases q0:q>0
   .rw[Xm M,Xm q0];refine Xz<|fP L B' () λa0 B2 Z hy=>?_;refine XG {0,M,B2,Z.trans hp,λk O=>by rw[hy k,Xl ()];exact hk k O,(),(),(),?_,λi j a b c=>()};refine(pb () S on hy).snoc C () ?_;rw[hy,hy,Xl (),Xm ()];have z:lo+i-(q+1)+(lo+i)-1-(lo+i-1)=lo+i-(q+1):=();rw[z];exact C.trans (C.of_lt e)<|S _ _ () () ()
   .rw[Xm M,Xl q0];exact XG {0,M,B',hp,hk,(),(),(),S.snoc C ()<|C.of_lt e,λi j a b c=>()}
  |false=>
   simp only[Qv,if_false];refine Xz<|mM L B' () () ?_;dsimp only;cases e2:blt (g (arrOf G)<|lo+i-1) (g (arrOf G)<|lo+i)with
   |true=>
    simp only[if_true];refine XG ?_;dsimp only;by_cases q0:q>0
    .rw[Xm q0];refine Xz<|fP L B' () λa0 B2 Z hy=>?_;refine mL L C B2 () h3 hz (pb () S on hy) λm U B3 Y a b c d=>h m U B3 (Y.trans<|Z.trans hp) a b c λk O=>?_;rw[d k O,hy k,Xl ()];exact hk k O
    .rw[Xl q0];exact mL L C B' () h3 hz S λm U B3 Y a b c d=>h m U B3 (Y.trans hp) a b c λk O=>(d k O).trans (hk k O)
   |false=>
    simp only[Qv,if_false];refine XG {q+1,M,B',hp,hk,(),(),(),S.snoc C () e2,?_};have z:lo+(i+1)-(q+1+1)=lo+i-(q+1):=();rw[z];intro x y hx hy a6;by_cases a1:y<lo+i
    .exact on x y hx hy a1
    .have ey:y=lo+i:=();subst ey;by_cases a2:x=lo+i-1
     .subst a2;exact e
     .exact C.trans (on x (lo+i-1) hx () ()) e
 .rintro c G ⟨q,rfl,B',hp,hk,h2,h3,h4,S,on⟩;have em:max (n+1) nrem=nrem:=Zw hn;rw[em]at h3 h4 S on⊢;dsimp only;by_cases q0:q>0
  .rw[Xm q0];refine Xz<|fP L B' () λa0 B2 Z hy=>?_;refine mL L C B2 () h3 hz (pb () S on hy) λm U B3 Y a b c d=>h m U B3 (Y.trans<|Z.trans hp) a b c λk O=>?_;rw[d k O,hy k,Xl ()];exact hk k O
  .rw[Xl q0];exact mL L C B' () h3 hz S λm U B3 Y a b c d=>h m U B3 (Y.trans hp) a b c λk O=>(d k O).trans (hk k O)
theorem BX{Q:Option Nat->SortSt->Prop}(C:LP blt)(B:JS a₀ κ st)(h1:1<=nrem)(hz:lo+nrem<=a₀.size)
  (h:∀n G,JS a₀ κ G->pendingOf G=pendingOf st->1<=n->n<=nrem->On blt (arrOf G) lo (lo+n)->Ky lo (arrOf st) (arrOf G)->Q (some n) G):wpS (model prog w) A E s (countRun' lo nrem) Q st:=by
 rw[countRun'_eq];dsimp only;refine Xz<|BY L C B (Q4 1) h1 hz On.one (λi n R U h1 ht hf=>y3 L B (i:=i) hz U h1 ht hf) (λn ha U hs Y=>?_);dsimp only;by_cases en:n=nrem
 .subst en;simp only[XI,if_true];exact XG<|h n st B M ha U hs λ_ _=>M
 .have eb:(n==nrem)=false:=Xy.mpr en;simp only[eb,Qv,if_false];have I:=Y ();by_cases n1:n>1
  .rw[Xm n1];refine Xz<|mM L B () () ?_;dsimp only;cases e:blt (g (arrOf st) lo) (g (arrOf st)<|lo+n-1)with
   |true=>
    simp only[if_true];exact XG<|h n st B M ha U hs λ_ _=>M
   |false=>
    simp only[Qv,if_false];refine Xz<|fP L B () λZ B2 a0 hy=>?_;have a1:Off blt (arrOf Z) lo (lo+(n+1)):=by
     refine(Fc hs hy).snoc C ha ?_;rw[hy,hy,Xl (),Xm ()];have z:lo+(lo+n)-1-(lo+n-1)=lo:=();rw[z];exact C.trans (C.of_lt I) e
    refine BZ (m':=uz lo n nrem) (by
      unfold uz t9 DX zO;congr 1;funext _u;congr 1;funext s2;let{S,n2,q2}:=s2;cases S with
      |some S=>rfl
      |none=>
       dsimp only;split
       .congr 1;funext _v;congr 1;funext _w;congr 1;funext s3;let{O,n3}:=s3;cases O<;>rfl
       .congr 1;funext _w;congr 1;funext s3;let{O,n3}:=s3;cases O<;>rfl)<|vV L C B2 ha () hz a1 λm a2 B3 a3 a b c d=>h m a2 B3 (a3.trans a0) a b c λk hk=>by rw[d k hk,hy k,Xl ()]
  .rw[Xl n1];have e1:n=1:=();subst e1;refine BZ (m':=uz lo 1 nrem) (by
      unfold uz t9 DX zO;congr 1;funext _u;congr 1;funext s2;let{S,n2,q2}:=s2;cases S with
      |some S=>rfl
      |none=>
       dsimp only;split
       .congr 1;funext _v;congr 1;funext _w;congr 1;funext s3;let{O,n3}:=s3;cases O<;>rfl
       .congr 1;funext _w;congr 1;funext s3;let{O,n3}:=s3;cases O<;>rfl) (vV L C B ha () hz (Off.one.snoc C (Q4 1)<|C.of_lt I) h)
omit L in
theorem yZ{k l:Nat}(B:JS a₀ κ st)(hk:k<a₀.size)(hl:l<=k)
  (h:∀G,JS a₀ κ G->pendingOf G=pendingOf st->(∀j,g (arrOf G) j=if j=l then g (arrOf st) k else if l<j/\j<=k then g (arrOf st) (j-1)else g (arrOf st) j)->Q Unit.unit G):
  wpS (model prog w) A E s (moveDown' k l) Q st:=by
 rw[moveDown'_eq];refine wpS_modify<|h _ {B.kind,B.fine,(bubble_perm _ _ _).trans B.perm} M λj=>?_;have e:=DD (xs:=arrOf st) (src:=k) (d:=k-l) (by rwa[B.size]) () j;have z:k-(k-l)=l:=();rw[z]at e;exact e
theorem Ak{ok:Nat}{Q:Bool->SortSt->Prop}(C:LP blt)(B:JS a₀ κ st)(h1:1<=ok)(hok:ok<=n)(hz:lo+n<=a₀.size)(hs:On blt (arrOf st) lo (lo+ok))
  (h:∀z,JS a₀ κ z->pendingOf z=pendingOf st->On blt (arrOf z) lo (lo+n)->Ky lo (arrOf st) (arrOf z)->Q true z):wpS (model prog w) A E s (binarySort' lo n ok) Q st:=by
 rw[binarySort'_eq];dsimp only;have em:max ok 1=ok:=Nat.max_eq_left h1;rw[em];refine Xz (XT (I:=λi c z=>c=(none,Unit.unit)/\JS a₀ κ z/\pendingOf z=pendingOf st/\Ky lo (arrOf st) (arrOf z)/\ok<=i/\i<=n/\On blt (arrOf z) lo (lo+i)) ?_ ?_
  {M,B,M,λ_ _=>M,Q4 _,hok,hs})
 .rintro k c z a8 ac ⟨rfl,Y,hp,hk,h2,h3,on⟩;refine Xz (XT (I:=λi c O=>O=z/\∃l r,c=(none,l,r)/\l<=r/\r<=k/\r-l<=k-i/\(∀j,j<l->le blt (g (arrOf z)<|lo+j) (g (arrOf z)<|lo+k))/\(∀j,r<=j->j<k->le blt (g (arrOf z)<|lo+k) (g (arrOf z)<|lo+j))) ?_ ?_
   {M,0,k,M,Ql _,Q4 _,Q4 _,λj hj=>Xp hj<|Nat.not_lt_zero _,λj a b=>()})
  .rintro i c O al am ⟨rfl,l,r,rfl,a0,a3,hm,G,above⟩;dsimp only;by_cases Z:l>=r
   .rw[Xm Z];refine XG ?_;dsimp only;have a5:l=r:=();refine Xz<|yZ Y () () λa6 B3 S hy=>XG {M,B3,S.trans hp,λq hq=>?_,(),(),?_}
    .rw[hy q,Xl (),Xl ()];exact hk q hq
    .intro a b ha U hb;rw[hy a,hy b];by_cases b1:b=lo+l
     .rw[Xm b1,Xl (),Xl ()];have:=G (a-lo) ();rwa [show lo+(a-lo)=a by lia]at this
     .rw[Xl b1];by_cases b2:lo+l<b/\b<=lo+k
      .rw[Xm b2];by_cases a1:a=lo+l
       .rw[Xm a1];have:=above (b-1-lo) () ();rwa [show lo+(b-1-lo)=b-1 by lia]at this
       .rw[Xl a1];by_cases a2:lo+l<a/\a<=lo+k
        .rw[Xm a2];exact on _ _ () () ()
        .rw[Xl a2];exact on _ _ () () ()
      .rw[Xl b2,Xl (),Xl ()];exact on _ _ ha U ()
   .rw[Xl Z];refine Xz<|mM L Y () () ?_;dsimp only;cases e:blt (g (arrOf O)<|lo+k) (g (arrOf O)<|lo+(l+r)/2)with
    |true=>
     rw[Xm M];refine XG {M,l,(l+r)/2,M,(),(),(),G,λj a b=>?_};by_cases ej:j=(l+r)/2
     .subst ej;exact C.of_lt e
     .exact C.trans (C.of_lt e)<|on _ _ () () ()
    |false=>
     rw[Xl (_)];refine XG {M,(l+r)/2+1,r,M,(),(),(),λj a=>?_,above};by_cases ej:j=(l+r)/2
     .subst ej;exact e
     .exact C.trans (on _ _ () () ()) e
  .rintro c O ⟨rfl,l,r,rfl,a0,a3,hm,G,above⟩;have ek:max 0 k=k:=Zw (Ql _);rw[ek]at hm;have a5:l=r:=();dsimp only;refine Xz<|yZ Y () () λa6 B3 S hy=>XG {M,B3,S.trans hp,λq hq=>?_,(),(),?_}
   .rw[hy q,Xl (),Xl ()];exact hk q hq
   .intro a b ha U hb;rw[hy a,hy b];by_cases b1:b=lo+l
    .rw[Xm b1,Xl (),Xl ()];have:=G (a-lo) ();rwa [show lo+(a-lo)=a by lia]at this
    .rw[Xl b1];by_cases b2:lo+l<b/\b<=lo+k
     .rw[Xm b2];by_cases a1:a=lo+l
      .rw[Xm a1];have:=above (b-1-lo) () ();rwa [show lo+(b-1-lo)=b-1 by lia]at this
      .rw[Xl a1];by_cases a2:lo+l<a/\a<=lo+k
       .rw[Xm a2];exact on _ _ () () ()
       .rw[Xl a2];exact on _ _ () () ()
     .rw[Xl b2,Xl (),Xl ()];exact on _ _ ha U ()
 .rintro c z ⟨rfl,Y,hp,hk,h2,h3,on⟩;have e:max ok n=n:=Zw hok;rw[e]at on;exact XG (h z Y hp on hk)
omit L in
end
variable{blt:Mu}
abbrev PW(blt:Mu)(l:List Keyed):Prop:=l.Pairwise (le blt)
theorem Cv{a:Mt}(h:On blt a 0 a.size)(i:Nat):PW blt (a.toList.drop i):=by
 refine Zg.mpr λj k G hk I=>?_;rw[QA,QG]at G hk;have z:=sE (xs:=a) (i:=i+j) ();have e2:=sE (xs:=a) (i:=i+k) ();rw[<-ZR,Q5 (by rw[QG];lia)]at z e2;rw[List.getElem_drop,List.getElem_drop,Xq z,Xq e2];exact h _ _ (Ql _) () ()
variable{blt:Mu}{Q:Unit->SortSt->Prop}{E:Ml}
section
variable{prog:Mc}{w:Md}{A:Mj}{s:J'}{a₀:Mt}{κ:SortKind}
variable(L:D0 prog w A E s a₀ κ blt)
include L
theorem vU{st:SortSt}(C:LP blt)(B:JS a₀ κ st)(hp:pendingOf st= #[])(h2:1<=a₀.size)(a1:a₀.size<64)
  (h:∀G,JS a₀ κ G->On blt (arrOf G) 0 a₀.size->Q Unit.unit G):wpS (model prog w) A E s sortRuns' Q st:=by
 rw[sortRuns'_eq];refine Xz<|wpS_get ?_;dsimp only;have hsz:=B.size;rw[hsz];have mr:minRun' a₀.size a₀.size 0=a₀.size:=by
  generalize hs:a₀.size=f at h2 a1;cases f with
  |zero=>lia
  |succ f=>rw[minRun'_succ,Xm a1]
 have em:max 0 a₀.size=a₀.size:=Zw (Ql _);refine Xz (wpS_mono (XT
  (I:=λi c G=>(c=(none,0)/\i=0/\pendingOf G= #[]/\JS a₀ κ G)\/(c=(none,a₀.size)/\JS a₀ κ G/\(pendingOf G).size=1/\On blt (arrOf G) 0 a₀.size))
  (Q:=λc G=>c=(none,a₀.size)/\JS a₀ κ G/\(pendingOf G).size=1/\On blt (arrOf G) 0 a₀.size) ?step ?fin (.inl ⟨M,M,hp,B⟩)) ?post)
 case fin=>
  rintro c G (⟨_,hi,_⟩|h')
  .rw[em]at hi;lia
  .exact h'
 case step=>
  rintro i c G _ hi hI;rcases hI with⟨rfl,rfl,a2,B'⟩|⟨rfl,B',z,O⟩
  .dsimp only;rw[Xl ()];refine Xz<|BX L C B' () () λn S Y p2 m1 m2 Z k2=>?_;dsimp only;by_cases U:n<minRun' a₀.size a₀.size 0
   .rw[Xm U];refine Xz<|wpS_lift (wpAny_rule {M,?_});refine Xz<|Ak L C Y m1 () () Z λa0 B3 p3 O3 k3=>?_;rw[Xl (_)];generalize hn:min (a₀.size-0) (minRun' a₀.size a₀.size 0)=n' at O3;have en:n'=a₀.size:=();have e0:pendingOf a0= #[]:=by rw[p3,p2,a2]
    have eb:(pendingOf a0).back?=none:=by rw[e0];rfl
    refine Xz<|wpS_get ?_;rw[eb];dsimp only;refine Xz<|wpS_modify (XG<|.inr {by rw[en,X5],⟨B3.kind,B3.fine,B3.perm⟩,?_,?_})
    .show((pendingOf a0).push _).size=1;rw[Array.size_push,e0];rfl
    .rw[en,X5]at O3;exact O3
   .rw[Xl U];have en:n=a₀.size:=();have e0:pendingOf S= #[]:=by rw[p2,a2]
    have eb:(pendingOf S).back?=none:=by rw[e0];rfl
    refine Xz<|wpS_get ?_;rw[eb];dsimp only;refine Xz<|wpS_modify (XG<|.inr {by rw[en,X5],⟨Y.kind,Y.fine,Y.perm⟩,?_,?_})
    .show((pendingOf S).push _).size=1;rw[Array.size_push,e0];rfl
    .rw[en,X5]at Z;exact Z
  .dsimp only;rw[Xm (Q4 _)];exact XG ⟨M,B',z,O⟩
 case post=>
  rintro c G ⟨rfl,B',z,O⟩;dsimp only;refine Xz (wpS_mono (XT (I:=λ_ c S=>c=(none,Unit.unit)/\JS a₀ κ S/\(pendingOf S).size=1/\On blt (arrOf S) 0 a₀.size)
   (Q:=λc S=>c=(none,Unit.unit)/\JS a₀ κ S/\(pendingOf S).size=1/\On blt (arrOf S) 0 a₀.size) ?_ (λ_ _ q=>q) ⟨M,B',z,O⟩) ?_)
  .rintro i c S _ hi ⟨rfl,Y,z2,Z⟩;refine Xz<|wpS_get ?_;rw[Xm (by rw[z2];exact Q4 _)];exact XG ⟨M,Y,z2,Z⟩
  .rintro c S ⟨rfl,Y,z2,Z⟩;dsimp only;exact XG<|h S Y Z
end
variable{blt:Mu}{E:Ml}
section
variable{prog:Mc}{w:Md}{A:Mj}{s:J'}{κ:SortKind}
abbrev But(a:G')(s s':J'):Prop:=∀b o,b≠a->s.heap.get? b=some o->s'.heap.get? b=some o
theorem AA{a:G'}{vs:Lz}{n:Nat}{P:PySem.Fin->Shared->Prop}(ho:s.heap.get? a=some (seqObj gt vs.toArray n))(I:vs.length<64)(C:LP blt)
  (Y:∀h':Heap,But a s {s with heap:=h'}->2<=vs.length->∀Q':SortKind->Shared->Prop,Q' κ {s with heap:=h'}->wpAny (model prog w) A (keyKind' vs.toArray) Q' E {s with heap:=h'})
  (L:∀h':Heap,But a s {s with heap:=h'}->D0 prog w A E {s with heap:=h'} (pairsOf vs) κ blt)
  (h:∀out:Array Keyed,out.Perm (pairsOf vs)->PW blt out.toList->P (.done<|.ret .none) {s with heap:=sortedHeap s.heap a vs (out.map (·.2))}):wpAny (model prog w) A (Builtin.«list.sort» {[.ref a],[]}) P E s:=by
 have hv:vs.toArray.size=vs.length:=Qa;have hz:vs.length<=sizeLine:=Qr (Qx I) (_);have ha:=Xs ho;rw[list_sort_plain];refine Xj<|listItems_at ho M (Xj<|listUpdate_at ho M ?_ (hsz:=by rwa[hv]));obtain⟨e1,S⟩:∃k,(s.heap.update a<|Obj.mapSeq λ_=> #[]).get? a=some (seqObj gt #[] k):={_,get?_update_seq ho<|λ_=> #[]};refine Xj<|seqEpoch_at S M (Xj<|wpAny_newTuple ?_ (hsz:=hz));refine Xj<|wpAny_newList (XE ?_);generalize Z:((s.heap.update a<|Obj.mapSeq λ_=> #[]).push<|seqObj jb vs.toArray 0).push (seqObj gt #[] 0)=h6;have up:∀b o,(s.heap.update a<|Obj.mapSeq λ_=> #[]).get? b=some o->h6.get? b=some o:=λb o e=>by
  rw[<-Z];exact Xk _<|Xk _ e
 have G:=up a _ S;have U:But a s {s with heap:=h6}:=λb o hb e=>up b o (by exact(Xv _ _<|Ne.symm hb).trans e);have fin:∀out:Array Keyed,out.Perm (pairsOf vs)->PW blt out.toList->P (.done<|.ret .none) {s with heap:=h6.update a (Obj.mapSeq λ_=>out.map (·.2))}:=λout p q=>by
  have:=h out p q;unfold sortedHeap at this;rw[Z]at this;exact this
 have hsz2:∀out:Array Keyed,out.Perm (pairsOf vs)->(out.map (·.2)).size<=sizeLine+1:=λout p=>by
  have:=p.size_eq;rw[pairsOf_size]at this;rw[Array.size_map];lia
 dsimp only;by_cases h2:vs.toArray.size<2
 .rw[Xm h2,Xm h2];refine Xj<|Xr ?_;rw[StateT.run_pure];refine Xj<|Xr ?_;dsimp only;have pr:(SortSt.mk' general' (vs.toArray.zip vs.toArray) #[] 7 none|>arrOf).Perm (pairsOf vs):=Array.Perm.refl _;refine Xj<|seqEpoch_at G M (Xj<|listUpdate_at G M ?_ (hsz:=Ql _) (hsz2:=hsz2 _ pr));simp only[bne_self_eq_false,Qv,if_false];refine Xr<|fin _ pr ?_;have l1:(vs.toArray.zip vs.toArray).toList.length<=1:=by simp at h2⊢;lia
  show PW blt (vs.toArray.zip vs.toArray).toList;revert l1;generalize (vs.toArray.zip vs.toArray).toList=l;rcases l with _|⟨x,_|⟨y,t⟩⟩<;>intro l1<;>first|exact XS|exact Zo _ _|exact Xp l1<|Nat.not_le_of_lt (Nat.succ_lt_succ<|Nat.succ_pos _)
 .rw[Xl h2,Xl h2];refine Xj<|Y h6 U () _ ?_;refine Xj (XA (vU (L h6 U) (st:=SortSt.mk' κ (vs.toArray.zip vs.toArray) #[] 7 none) (Q:=λ_ z=>JS (pairsOf vs) κ z/\On blt (arrOf z) 0 (pairsOf vs).size) C
   {M,M,Array.Perm.refl _} M (by rw[pairsOf_size];lia) (by rw[pairsOf_size];exact I) λz B O=>⟨B,O⟩) ?_ λ_ _ e=>e)
  rintro ⟨⟨⟩,z⟩ s' ⟨rfl,B,O⟩;dsimp only;refine Xj<|seqEpoch_at G M (Xj<|listUpdate_at G M ?_ (hsz:=Ql _) (hsz2:=hsz2 _ B.perm));rw[B.fine];simp only[bne_self_eq_false,Qv,if_false];refine Xr<|fin _ B.perm ?_;have:=Cv (a:=arrOf z) (blt:=blt) (by rwa[B.size]) 0;rwa [Xi]at this
end
variable{blt:Mu}{E:Ml}
theorem wM:∀(a b:Mb),HT.lexLt a b=true->HT.lexLt b a=false
 | [],[],h=>rfl
 | [],_::_,_=>rfl
 |_::_,[],h=>by rw[HT.lexLt_cons_nil]at h;cases h
 |x::xs,y::ys,h=>by
  rw[HT.lexLt_cons]at h⊢;by_cases e:x=y
  .rw[Xm e]at h;rw[Xm e.symm];exact wM xs ys h
  .rw[Xl e]at h;rw[Xl (Ne.symm e)];have:=Xw h;exact Xo ()
theorem Dj:∀(a b c:Mb),HT.lexLt b a=false->HT.lexLt c b=false->HT.lexLt c a=false
 | [],b,[],_,_=>rfl
 |x::xs,[],c,h,_=>by rw[HT.lexLt_nil_cons]at h;cases h
 |a,y::ys,[],_,h=>by rw[HT.lexLt_nil_cons]at h;cases h
 | [],_,_::_,_,_=>HT.lexLt_cons_nil _ _
 |x::xs,y::ys,z::zs,h1,h2=>by
  rw[HT.lexLt_cons]at h1 h2⊢;by_cases G:y=x
  .rw[Xm G]at h1;by_cases e2:z=y
   .rw[Xm e2]at h2;rw[Xm (e2.trans G)];exact Dj xs ys zs h1 h2
   .rw[Xl e2]at h2;rw[Xl (by rwa[<-G])];have:=XJ h2;exact Xo ()
  .rw[Xl G]at h1;have O:=XJ h1;by_cases e2:z=y
   .rw[Xm e2]at h2;rw[Xl ()];exact Xo ()
   .rw[Xl e2]at h2;have S:=XJ h2;by_cases I:z=x
    .lia
    .rw[Xl I];exact Xo ()
theorem cmp_of(k:Keyed->List Int):LP λp q=>HT.lexLt (k p) (k q):={λx y h=>wM _ _ h,λx y z h1 h2=>Dj _ _ _ h1 h2}
theorem runs_of{prog:Mc}{w:Md}{A:Mj}{s:J'}{a₀:Mt}{κ:SortKind} 
  (h:∀(x y:Keyed)(z:Value->Shared->Prop)(Q:Bool->Shared->Prop),x∈a₀->y∈a₀->Q (blt x y) s->wpAny (model prog w) A (keyLt' κ x.1 y.1) Q z s):D0 prog w A E s a₀ κ blt:=by
 intro x y st Q hx hy hk q;rw[lt'_eq];refine Xz<|wpS_get ?_;rw[hk];refine Xz<|wpS_lift (wpAny_attempt<|h x y _ _ hx hy {M,?_});exact XG q
end Srt
namespace L2
open PySem PySem.Spec PyProof.Rows
variable{xs:L'}{us:Lz}{u:K'}
def LI(u:K'):V:=(absV u).getD .non
def B7{x:V}(r:RelV x u):LI u=x:=by unfold LI;rw[r.abs];rfl
def EG(h:J8 xs us):us.map LI=xs:=by
 induction h with
 |nil=>rfl
 |cons r t z=>rw[Qm,B7 r,z]
def vW(h:J8 xs us)(hu:u∈us):∃x∈xs,RelV x u:=by
 induction h with
 |nil=>exact Xp hu Xa
 |cons r t z=>
  rcases Qc.mp hu with e|e
  .subst e;exact{_,Q8,r}
  .let{x,h1,h2}:=z e;exact{x,Q7 _ h1,h2}
theorem y4:∀{us:Lz},(∀u∈us,RelV (LI u) u)->J8 (us.map LI) us
 | [],_=> .nil
 |u::r,h=> .cons (h u Q8) (y4 λv z=>h v<|Q7 _ z)
section
variable{X:Cx}
noncomputable def vn:V->List Int
 | .int i=> [i]
 |_=> []
def AG{ns:Mb}{ys:L'}(h:ys.Perm (ns.map V.int)):∃z:List Int,ys=z.map V.int/\z.Perm ns:=by
 have e:ys=(ys.map λy=>match y with| .int i=>i|_=>0).map V.int:=by
  rw[QL];refine(List.map_id' ys).symm.trans<|Zh λy hy=>?_;let{i,_,rfl}:=Qh.mp (h.mem_iff.mp hy);rfl
 refine{_,e,?_};refine(h.map λy=>match y with| .int i=>i|_=>0).trans<|List.Perm.of_eq ?_;rw[QL];exact List.map_id' ns
end
end L2
namespace Srt
open PySem PyProof.Rows
variable{blt:Mu}{E Q:Ml}
section
variable{prog:Mc}{w:Md}{A:Mj}{s:J'}{κ:SortKind}
theorem sorted_src{r:K'}{G:List Value->Prop} 
  (hc:∀(R:List Value->Shared->Prop)(O:Ml),(∀(h1:Heap)(tk:Nat)(vs:Lz),(∀b o,s.heap.get? b=some o->h1.get? b=some o)->G vs->R vs {s with heap:=h1,toks:=tk})->wpAny (model prog w) A.in1 (collect r) R O s)
  (hz:∀vs,G vs->vs.length<64) (C:LP blt)
  (z:∀(vs:Lz)(h':Heap)(tk:Nat),G vs->(∀b o,s.heap.get? b=some o->h'.get? b=some o)->2<=vs.length->∀Q':SortKind->Shared->Prop,Q' κ {s with heap:=h',toks:=tk}->wpAny (model prog w) A.in1.in1 (keyKind' vs.toArray) Q' (λ_ _=>False) {s with heap:=h',toks:=tk})
  (L:∀(vs:Lz)(h':Heap)(tk:Nat),G vs->(∀b o,s.heap.get? b=some o->h'.get? b=some o)->D0 prog w A.in1.in1 (λ_ _=>False) {s with heap:=h',toks:=tk} (pairsOf vs) κ blt)
  (h:∀(vs:Lz)(h1 h2:Heap)(tk e:Nat)(out:Mt),G vs->(∀b o,s.heap.get? b=some o->h1.get? b=some o)->(∀b o,h1.get? b=some o->h2.get? b=some o)->h2.get? h1.objs.size=some (seqObj gt (out.map (·.2)) e)->out.Perm (pairsOf vs)->PW blt out.toList->Q (.ref h1.objs.size) {s with heap:=h2,toks:=tk}):
  wpAny (model prog w) A (call (.builtin "sorted") [r]) Q E s:=by
 refine Calls.call_function_entry kind_sorted plain_sorted entry_sorted (args_sorted1 _) ?_;unfold Builtin.«sorted»;refine Xj (m:=checkCount "sorted" 1 1 _)<|Xr (Xj<|hc _ _ λh1 tk vs k1 g=>?_);refine Xj<|wpAny_newList ?_ (hsz:=Qr (Qx<|hz vs g) (_));have new:(h1.push<|seqObj gt vs.toArray 0).get? h1.objs.size=some (seqObj gt vs.toArray 0):=Xu _ M;have keep:∀h':Heap,But h1.objs.size {s with heap:=h1.push (seqObj gt vs.toArray 0),toks:=tk} {s with heap:=h',toks:=tk}->∀b o,s.heap.get? b=some o->h'.get? b=some o:=λh' k b o e=>
  k b o (Qn<|Xs<|k1 b o e) (Xk _<|k1 b o e)
 show wpAny _ _ _ _ _ {s with heap:=h1.push (seqObj gt vs.toArray 0),toks:=tk};refine Xj<|XE (XA (wpAny_call_entry (E:=λ_ _=>False) slot_list_sort {_,new,M} entry_list_sort (AA (s:={s with heap:=h1.push (seqObj gt vs.toArray 0),toks:=tk}) (κ:=κ) (blt:=blt) new (hz vs g) C (λh' k=>z vs h' tk g<|keep h' k) (λh' k=>L vs h' tk g<|keep h' k) λout p q=>{_,M,?_})<|args_list_sort _) (λ_ _ q=>q) λ_ _ f=>f.elim);refine Xr {_,M,?_};let{e,I}:=sortedHeap_at (out:=out.map (·.2)) new;refine h vs h1 _ tk e out g k1 (λb o q=>?_) I p q;have lt:=Xs q;rw[sortedHeap_old (Qn lt) (by rw[size_push'];exact Nat.lt_succ_of_lt lt)];exact Xk _ q
end
end Srt
namespace L2
open PySem PySem.Spec PyProof.Rows
variable{C D a d:G'}{X:Cx}{elt iter l tg:Expr}{H H1 H4:Hp}{Fin:Hp->Prop}{J0:It}{J:Ma}{kvs:Mr}{vs:List (Key×Value)}{cl:List (Str×Addr)}{fp:Mh}{elts ifs:Ms}{M' N':Mf}{xs ys:L'}{ep i n:Nat}{bt:Nat->Nat->Bool}{ob:Obj}{pos px:Pos}{P:Mc}{K:J4}{R:Result->Shared->Prop}{scope:Scope}{s:J'}{W:St}{x y:Str}{nx:MA}{B:St->VK->It->Hp->Prop}{te:TE}{g:TG}{wi:TI}{tb:TS}{tc:TT}{Q rt:VK}{RR:Value->Addr->Result->Shared->Prop}{E:Ml}{w:Md}
def zF{k:Key}{v:K'}(h:(bD P w).is k v=true):RelV (kV k) v:=by
 rw[yA]at h;cases k with
 |inl i=>
  cases v with
  |int j t=>exact{t,by simp[ko,Value.isInt]at h;rw[h]}
  |_=>simp[ko,Value.isInt]at h
 |inr x=>
  cases v with
  |str y t=>exact{t,by simp[ko,Value.isStrOf]at h;rw[h]}
  |_=>simp[ko,Value.isStrOf]at h
def pH(kvs:Mr):List V:=kvs.map λp=>kV p.1
set_option tactic.hygienic true in
def xK{acc:Lz}(z:KV kvs vs)(hl:acc.length=vs.length)
  (G:∀(j:Nat)(v:K'),acc[j]?=some v->∃k x,vs[j]?=some (k,x)/\(bD P w).is k v=true):J8 (pH kvs) acc:=by
 induction z generalizing acc with
 |nil=>cases acc with
  |nil=>exact .nil
  |cons a b=>simp at hl
 |cons r t O=>
  rename_i p q ps S
  cases acc with
  |nil=>simp at hl
  |cons a b=>
   refine .cons ?_<|O (by simpa using hl) λj v e=>?_
   .let{k,x,I,e2}:=G 0 a M;simp at I;subst I;show RelV (kV p.1) a;rw[r.1];exact zF e2
   .exact G (j+1) v<|by simpa using e
def wd{T:String}{r:G'}{OK:Heap->Prop}{ns:Mb}(hh:X.A.handled=none)(I:Inv X J W H s)(Z:KV kvs vs)(z:kvs.length<=sizeLine)(a5:kvs.length<64)
  (src:PySem.W.KdlSrc X.prog X.w T r d vs.length (λi v=>∃k x,vs[i]?=some (k,x)/\(bD X.prog X.w).is k v=true) OK) (hok:OK s.heap) (Y:pH kvs=ns.map V.int)
  (q:∀(l:Addr)(ms:List Int),H l=none->ms.Perm ns->ms.Pairwise (· <= ·)->Q (.ref l) (upd H l<|.lst<|ms.map V.int)):J5 X (call (.builtin "sorted") [.ref r]) (EP X J W Q) X.xe s:=by
 have ac:kvs.length=vs.length:=Z.length;have a0:(pH kvs).length=kvs.length:=Q2 _;have O:∀its:List Value,J8 (pH kvs) its->∀v∈its,∃i t,v=Value.int i t:=λits S v hv=>by
  let{x,hx,rx}:=vW S hv;rw[Y]at hx;let{i,_,rfl}:=Qh.mp hx;let{t,e}:=rx;exact⟨i,t,e⟩
 have mem:∀(its:Lz)(z:Keyed),z∈pairsOf its->z.1=z.2/\z.1∈its:=λits z hz=>by
  have:z∈(pairsOf its).toList:=by simpa using hz
  rw[pairsOf_toList]at this;exact mem_zip_self this
 refine Srt.sorted_src (G:=λits=>J8 (pH kvs) its) (κ:=oneType') (blt:=λa b=>HT.lexLt (vn<|LI a.1)<|vn<|LI b.1) (λR E' k=>?_) (λits S=>by rwa[<-S.length,a0]) (Srt.cmp_of λa=>vn<|LI a.1)
  (λits h' tk S k h2 Q' hQ=>?_) (λits h' tk S k=>Srt.runs_of λx y E' Q' hx hy hQ=>?_) (λits h1 h2 tk e out S k1 k2 a6 pm pw=>?_)
 .refine PySem.W.kdu_collect src hh hok () λh' tk acc hk U=>k h' tk acc.toList hk ?_;exact xK Z (by rw[QG];exact U.1) λj v e=>U.2 j v (by rwa[<-ZR])
 .refine PySem.W.kas_kind (T:= .type "int") h2 (λv hv=>?_) ∅ ∅ hQ;let{i,t,rfl}:=O its S v hv;exact PySem.W.Looks.of_pure M
 .let{i,t,e1}:=O its S _ (mem its x hx).2;let{j,t',e2}:=O its S _ (mem its y hy).2;rw[e1,e2]at hQ⊢;refine PySem.W.kat_lt_int ?_;have e:HT.lexLt (vn<|LI<|.int i t) (vn<|LI<|.int j t')=decide (i<j):=by
   show HT.lexLt [i] [j]=_;rw[HT.lexLt_cons];by_cases z:i=j
   .rw[Xm z,HT.lexLt_nil_nil,Xo ()]
   .rw[Xl z]
  rw[e]at hQ;exact hQ
 .have a1:out.toList.Perm (its.zip its):=by
   have:=Array.perm_iff_toList_perm.mp pm;rwa [pairsOf_toList]at this
  have a2:∀z∈out.toList,z.1=z.2/\z.1∈its:=λz hz=>mem_zip_self (a1.mem_iff.mp hz);have e2:(out.map (·.2)).toList=out.toList.map (·.2):=Array.toList_map;have pv:((out.map (·.2)).toList).Perm its:=by
   rw[e2];refine(a1.map _).trans<|List.Perm.of_eq ?_;exact List.map_snd_zip<|Q4 _
  have hu:∀u∈(out.map (·.2)).toList,RelV (LI u) u:=λu hu=>by
   let{x,_,r}:=vW S (pv.mem_iff.mp hu);rwa[B7 r]
  have vy:=y4 hu;have I1:Inv X J W H {s with heap:=h1,toks:=tk}:=I.kept k1;have py:((out.map (·.2)).toList.map LI).Perm (ns.map V.int):=by
   rw[<-Y,<-EG S];exact pv.map _
  have a3:((out.map (·.2)).toList.map LI).Pairwise (λa b=>HT.lexLt (vn b) (vn a)=false):=by
   rw[e2,QL];refine List.pairwise_map.mpr<|pw.imp_of_mem λ{a b} ha hb h=>?_;show HT.lexLt (vn<|LI b.2) (vn<|LI a.2)=false;rwa[<-(a2 a ha).1,<-(a2 b hb).1]
  have lz:((out.map (·.2)).toList.map LI).length<=sizeLine:=by
   rwa[py.length_eq,<-Y,a0]
  let{ms,em,a8}:=AG py;rw[em]at vy a3 lz;refine{.ref h1.objs.size,upd H h1.objs.size<|.lst<|ms.map V.int,I1.laid (t':=tk) k2 (Q4 _) {lz,_,e,vy,?_},M,q _ _ (I1.hok.fresh<|Q4 _) a8 ?_}
  .rw[a6,Array.toArray_toList]
  .refine(List.pairwise_map.mp a3).imp λ{a b} h=>?_;have h:HT.lexLt [b] [a]=false:=h;rw[HT.lexLt_cons]at h;by_cases z:b=a
   .lia
   .rw[Xl z]at h;have:=XJ h;lia
def vB(Z:X.A.handled=none):fu X (.builtin "sorted") (λxs H Q=>∃(a:G')(kvs:Mr)(ns:Mb),xs=[.ref a]/\Rd H a (.dK kvs)/\pH kvs=ns.map V.int/\kvs.length<64/\
  ∀(l:G')(G:Mb),H l=none->G.Perm ns->G.Pairwise (· <= ·)->Q (.ref l) (upd H l<|.lst<|G.map V.int)):=by
 intro J s W H xs us Q I r h;let{a,kvs,ns,rfl,hd,O,S,q}:=h;let{u,rfl,ru}:=mN r;cases ru;let{z,lo,vs,U,dd}:=uy I.hok hd;let{ep,Y}:=dd.dictAt;exact wd Z I U z S (PySem.W.kdl_dict (knd:=bD X.prog X.w) (kvs:=vs) (ep:=ep) lo) Y O q
inductive IH(x:V)(vs:L')(H:Hp)(Q:VK):Prop
 |mk(a kvs k v:_)(_:x= .ref a)(_:vs=[kV k])(_:H a=some (.dK kvs))(_:a9 kvs k=some v)(_:Q v (upd H a<|.dK<|jK kvs k))
def Fh:Lc X "dict.pop" IH:=by
 intro J s W H x vs v us Q I z G h;let{a,kvs,k,y,rfl,rfl,O,hl,q}:=h;cases z;let{u,rfl,S}:=G.one;exact Jd I O S hl (.inl M) λw' s' U r'=>{y,_,U,r',q}
inductive IG(K:J4)(x:V)(vs:L')(H:Hp)(Q:VK):Prop
 |mk(sep:Str)(a:G')(ys:Mf)(_:x= .str sep)(_:vs=[.ref a])(_:JC K H a (ys.map V.str))(_:sep.length<=16)(_:(ys.map (·.length)).sum+ys.length<=1048576)(_:Q (.str<|Txt.join sep ys) H)
theorem v9:∀{ys:Mf}{its:Lz},J8 (ys.map V.str) its->StrsAre its ys
 | [],_,.nil=> .nil
 |_::_,_,.cons ⟨t,e⟩ r=>by subst e;exact .cons _ _<|v9 r
def Fg:Lc X "str.join" (IG X.K):=by
 intro J s W H x vs v us Q I z G h;let{O,a,ys,rfl,rfl,S,h1,h2,q}:=h;let{t,rfl}:=z;let{u,rfl,U}:=G.one;cases U;let{its,r,pl,_}:=I.list S;exact join_listW pl.isList (by simpa using v9 r) h1 h2 λt' k=>{.str _,H,I.tok _,⟨t',M⟩,q}
set_option tactic.hygienic true in
theorem mI{env:Env}:∀(l:List (Str×NameKind))(G:List (Str×Addr)),(∀p∈l,p.2= .free->∃c,env.cells.lookup p.1=some c)->
  ∃cl,(forIn l G (λp G=>if(p.2==NameKind.free)=true then cellOf env p.1>>=λa=>pure (ForInStep.yield ((p.1,a)::G))else pure (ForInStep.yield G)):Sem _)=pure cl/\
   (∀y c,cl.lookup y=some c->G.lookup y=some c\/env.cells.lookup y=some c)/\(∀y c,G.lookup y=some c->∃I,cl.lookup y=some I)/\(∀y,(y,NameKind.free)∈l->∃c,cl.lookup y=some c)
 | [],G,_=>{G,by rw[List.forIn_nil],λy c h=> .inl h,λy c h=>⟨c,h⟩,λy h=>nomatch h}
 |(n,k)::r,G,h=>by
  rw[List.forIn_cons];by_cases hk:k= .free
  .subst hk;let{c,hc}:=h (n,.free) Q8 M;have hc:env.cells.lookup n=some c:=hc;have e:cellOf env n=pure c:=by unfold cellOf;rw[hc]
   let{cl,h1,h2,O,S}:=mI r ((n,c)::G) λp hp=>h p (Q7 _ hp);refine{cl,?_,λy I hy=>?_,λy I hy=>?_,λy hy=>?_}
   .simp only[XI,if_true,e,pure_bind];exact h1
   .rcases h2 y I hy with q|q
    .rw[Ze]at q;split at q
     .rename_i z
      cases q;rw[XF]at z;subst z;exact .inr hc
     .exact .inl q
    .exact .inr q
   .by_cases z:y=n
    .exact O y c<|by rw[Ze,z];simp
    .exact O y I<|by rwa[Ze,Xy.mpr z]
   .rcases Qc.mp hy with q|q
    .have U:y=n:=(XQ q).1;exact O y c<|by rw[Ze,U];simp
    .exact S y q
  .have hb:(k==NameKind.free)=false:=by simpa using hk
   let{cl,h1,h2,O,S}:=mI r G λp hp=>h p (Q7 _ hp);refine{cl,?_,h2,O,λy hy=>?_}
   .simp only[hb,Qv,if_false,pure_bind];exact h1
   .rcases Qc.mp hy with q|q
    .exact Xp (XQ q).2.symm hk
    .exact S y q
def sJ{env:Env}(h:∀p∈scope.names,p.2= .free->∃c,env.cells.lookup p.1=some c):
  ∃cl,closureFor scope env=pure cl/\(∀y c,cl.lookup y=some c->env.cells.lookup y=some c)/\(∀y,(y,NameKind.free)∈scope.names->∃c,cl.lookup y=some c):=by
 let{cl,h1,h2,_,G}:=mI scope.names [] h;refine{cl,?_,λy c hy=>(h2 y c hy).resolve_left λz=>by simp at z,G};unfold closureFor;simp only[bind_pure];exact h1
def Kw(X:Cx)(M' N':Mf)(scope:Scope)(cl:List (Str×Addr))(C:G')(s₂:J')(H₂:Hp)(fp:Mh):Cx:=
 {X with N:=M'++N',s₀:=s₂,H₀:=H₂,env:=compEnvC scope cl C X.env,outer:=X.stack,stack:=X.stack,ex:=fp,fn:=λ_=>false,pn:=[],xe:=λ_ _=>False}
structure JL(X:Cx)(M' N':Mf)(scope:Scope):Prop where
 kind:scope.kind= .function
 nd:(M'++N').Nodup
 ln:N'.length=X.N.length
 own:∀x∈M',scope.names.lookup x=some .local
 nocell:∀y∈scope.names,y.2≠ .cell
 names:∀y∈scope.names,y.2= .local->scope.names.lookup y.1=some .local
 free:∀y∈scope.names,y.2= .free->X.env.kindOf y.1=some .cell
 vis:∀(j:Nat)(y:Str),N'[j]?=some y->Ly (relabel scope X.env) y->X.N[j]?=some y/\(y,NameKind.free)∈scope.names/\(relabel scope X.env).names.lookup y=some .cell
 cells:∀y,((relabel scope X.env).names.lookup y=some .cell\/(relabel scope X.env).names.lookup y=some .free)->(y,NameKind.free)∈scope.names
def xj(n:Nat)(g:TG)(tc:TT)(te:TE)(W:St)(Q:VK)(J0:It)(H1:Hp):Prop:=∀D,H1 D=none->∃J3:Nat->Nat->St->List V->Hp->Prop,(∃m,J3 0 m (List.replicate n none++W) [] (upd H1 D<|.lst []))/\∀i m τ ys H2,J3 i m τ ys H2->H2 D=some (.lst ys)->
 (J0.stop i H2/\Q (.ref D) H2)\/(J0.go i H2/\∀x H3,J0.yld i H2 x H3->∃G:St->Hp->Prop,(∀τ2 H4,G τ2 H4->∃(Ny:VK)(Ns:Hp->Prop),(∀y H6,Ny y H6->H6 D=some (.lst ys)/\ys.length<sizeLine/\∃m',m'<m/\J3 (i+1) m' τ2 (ys++ [y]) (upd H6 D<|.lst<|ys++ [y]))/\
  (∀H5,Ns H5->H5 D=some (.lst ys)/\∃m',m'<m/\J3 (i+1) m' τ2 ys H5)/\tc τ2 H4 λb H5=>if b=true then te τ2 H5 Ny else Ns H5)/\g x τ H3 G)
def Gg:TT:=λ_ H Q=>Q true H
def PTs(X:Cx)(ifs:Ms)(tc:TT):Prop:=∀(J:Ma)(s:J')(W:St)(H:Hp)(Q:MC),Inv X J W H s->tc W H Q->
 J5 X (forIn ifs true λc r=>if r=true then do let ok<-isTrue c X.env (eval c X.env);pure (ForInStep.yield ok)else pure (ForInStep.yield r)) (λb s'=>∃H',Inv X J W H' s'/\Q b H') X.xe s
def E3:PTs X [] Gg:=λ_ _ _ H _ I h=>wpAny_tests_nil ⟨H,I,h⟩
def zk{c:Expr}(h:PT X c tc):PTs X [c] tc:=λJ s W H Q I q=>wpAny_tests_one (h J s W H Q I q)
def JL.pg{s₂:J'}{z:Hp}(S:JL X M' N' scope)(h:M'[i]?=some x):PG (Kw X M' N' scope cl C s₂ z fp) (.Name x px) (lF i):=
 zp S.nd (by show(M'++N')[i]?=_;rwa[Zf (Q3.mp h).1]) (.inl<|lookup_relabel_local<|S.own x<|Q0 h) (.inr<|lookup_relabel_local<|S.own x<|Q0 h)
structure GB(X:Cx)(J:Ma)(H:Hp)(C:G'):Prop where
 no:H C=none
 fr:C≠X.env.locals
 ab:X.s₀.heap.objs.size<=C
 ce:∀x c,X.env.cells.lookup x=some c->c≠C
 pi:∀p∈X.pn++J,p.1≠C
def uC(hc:X.calm=true)(S:JL X M' N' scope)(hi:PI X tg iter wi)
  (hg:∀cl C s₂ Z fp,PG (Kw X M' N' scope cl C s₂ Z fp) tg g) (bj:∀cl C s₂ Z fp,PTs (Kw X M' N' scope cl C s₂ Z fp) ifs tc) (he:∀cl C s₂ Z fp,PE (Kw X M' N' scope cl C s₂ Z fp) elt te)
  (a0:∀y c,cl.lookup y=some c->X.env.cells.lookup y=some c) (aq:∀y,(y,NameKind.free)∈scope.names->∃c,cl.lookup y=some c) (I:Inv X J W H s) {R:It->Hp->Prop} (h:wi W H R) (hB:∀J0 H,R J0 H->xj M'.length g tc te W Q J0 H)
  (hR:∀D C s4 H',Inv X J W H' s4->(∃m,s4.heap.Ns C m)->GB X J H' C->Q (.ref D) H'->RR (.ref D) C (.ok .next) s4):
  J5 X (eval iter X.env) (λv s1=>J5 X (pyIter v) (λax s2=>J5 X (newList []) (λacc s3=>
   J5 X (newFunctionEnv scope X.env.globals cl [] X.env.qual none .none<|some X.env) (λa6 s4=>
    codeAny (model X.prog X.w) X.A (.compStart (.ListComp elt [{tg,iter,ifs,0}] scope pos) 0 ax acc {a6 with scope:=relabel scope X.env}) (RR acc a6.locals) s4) X.xe s3) X.xe s2) X.xe s1) X.xe s:=by
 refine JD (hi J s W H _ I h) λv s1 h1=>JD h1 λax s2 h2=>?_;let{it,fp,tn,J0,H2,e,O,T,al,f2,h}:=h2;subst e;refine wpAny_newObj_type<|wpAny_newFunctionEnv S.nocell (by intro y hy;simp at hy) (λh₁ U Y=>?_) S.kind;dsimp only at U Y⊢;generalize hD:s2.heap.objs.size=D at*;generalize am:s2.heap.push {cls:= .type gt,dict:=none,data:= .seq ([]:List Value).toArray}=h3 at U Y⊢;have a2:h3.objs.size=D+1:=by rw[<-am,Heap.size_push,hD]
 have fD:H2 D=none:=O.hok.fresh (Zr hD);let{J3,{m0,w0},b5}:=hB _ _ h D fD;generalize hC:h3.objs.size=C at*;have gD:s2.heap.get? D=none:=XU (Zr hD);have gC:s2.heap.get? C=none:=XU (by rw[hD,a2];exact Z3 _);have DC:D≠C:=by rw[a2];exact Qn<|X9 _
 have bl:∀b o,s2.heap.get? b=some o->h3.get? b=some o:=λb o e=>by rw[<-am];exact Xk _ e
 have a8:∀b o,h3.get? b=some o->h₁.get? b=some o:=λb o e=>Y.extBut b o (by intro z;have:=Xs e;rw[z,hC]at this;exact Xp this<|QV _) (Xk _ e);have up:∀b o,s2.heap.get? b=some o->h₁.get? b=some o:=λb o e=>a8 b o (bl b o e);have oD:h₁.get? D=some {cls:= .type gt,dict:=none,data:= .seq ([]:List Value).toArray}:=a8 _ _ (by rw[<-am,<-hD];exact Xu _ M);have a5:∀b∈fp,b≠C/\b∉Ko X.stack:=λb hb=>by
  let{o,e,_}:=T.obj _ _ al b hb;refine{λz=>(by rw[z,gC]at e;cases e),λz=>?_};rcases Qc.mp (O.stkSub b z)with q|q
  .exact(f2 b hb).2.1 q
  .exact(f2 b hb).2.2.1 q
 have fC:H2 C=none:=O.hok.fresh (by rw[hD,a2];exact Z3 _);have ok:(Kw X M' N' scope cl C s2 H2 fp).Ok:=
  {mod:=O.ok.mod,kind:=S.kind,glob:=O.ok.glob,blt:=O.ok.blt,above:=by show s2.heap.objs.size<=C;rw[hD,a2];exact Z3 _
   inj:=λy z c h1 h2=>O.ok.inj y z c (a0 _ _ h1) (a0 _ _ h2),has:=λy hy=>aq y (S.cells y hy),cab:=λy c z=>by cases z
   hd:=O.ok.hd,frames:=O.ok.frames,stk:= .inl M,exf:=λb hb=>{(a5 b hb).1,λy c e=>(f2 b hb).2.2.2.2.1 y c<|a0 y c e}
   bs:=O.bs,bsz:=Qr O.ok.bsz O.sz
   noex:=λb o e hb=>by
    rcases(f2 b hb).2.2.2.1 with q|q
    .exact O.ok.noex b o e q
    .exact Xp (Qj (Xs e)<|Qr O.ok.bsz q) (QV _)
   exfs:=λb hb=>(a5 b hb).2,funs:=O.stack,frf:=O.stkFree}
 have c2:∀b u,H2 b=some u->b≠D:=λb u e=>ai e fD;have I3:Inv (Kw X M' N' scope cl C s2 H2 fp) [] (List.replicate M'.length none++W) (upd H2 D<|.lst []) {s2 with heap:=h₁,toks:=s2.toks+([]:MB).length}:=
  {ok:=ok,os:=rfl,bare:=O.bare,base:=Un.laid up (Zr hD) fD
   loc:={_,U,λi y v e1 e2 e3=>by
    by_cases lt:i<M'.length
    .have e2:(List.replicate M'.length none++W)[i]?=some (some v):=e2;rw[Zf (by rwa[QN]),List.getElem?_replicate,Xm lt]at e2;cases e2
    .have e1:(M'++N')[i]?=some y:=e1;have e2:(List.replicate M'.length none++W)[i]?=some (some v):=e2;rw[Za (X0.mp lt)]at e1;rw[Za (by rw[QN];exact X0.mp lt),QN]at e2;generalize i-M'.length=j at e1 e2;let{e1,q1,q2}:=S.vis j y e1 e3;have kc:=S.free _ q1 M;let{m,hn,hl}:=O.loc;let{u,r,l}:=hl j y v e1 e2 (.inr<|.inl kc);refine{u,r,?_};rcases l with⟨k,_⟩|⟨_,c,e,z⟩
     .rw[kc]at k;cases k
     .let{c',e'}:=aq y q1;have ee:=a0 _ _ e';rw[e]at ee;cases ee;let{o,ho,hd}:=z;exact .inr {.inl q2,c,e',o,up _ _ ho,hd}}
   cell:=λy c e=>by
    let{v,o,ho,hd}:=O.cell y c (a0 _ _ e);exact{v,o,up _ _ ho,hd}
   free:=by show upd H2 D (.lst []) C=none;rwa[ae DC.symm]
   freeC:=λy c e=>by
    have q:=O.freeC y c (a0 _ _ e);let{v,o,ho,hd}:=O.cell y c (a0 _ _ e);rw[ae (λz=>by rw[z,gD]at ho;cases ho)];exact q
   pin:=λp hp=>Xp (show p∈([]:Ma) from hp) (by simp)
   hok:=O.hok.laid up (Zr hD) {Ql _,[],0,.nil,oD}
   len:=by show(List.replicate M'.length none++W).length=(M'++N').length;rw[Qd,Qd,QN,O.len,S.ln]}
 have a3:∀{H':Hp},(∀b∈fp,H' b=none)->∀b∈fp,eY (Kw X M' N' scope cl C s2 H2 fp) [] H' b:=λhn b hb=>
  {hn b hb,(a5 b hb).1,(a5 b hb).2,.inl hb,λy c e=>(f2 b hb).2.2.2.2.1 y c<|a0 _ _ e,λp hp=>Xp (show p∈([]:Ma) from hp)<|by simp}
 have b7:tn 0 h₁:=T.keep _ _ _ al λb hb o e=>up b o e;have ac:∀s3:Shared,s3={s2 with heap:=h₁,toks:=s2.toks+([]:MB).length}->
   codeAny (model X.prog X.w) X.A (.compLoop (.ListComp elt [{tg,iter,ifs,0}] scope pos) 0 (.ref it) (.ref D)<|compEnvC scope cl C X.env) (RR (.ref D) C) s3:=by
  rintro s3 rfl;refine codeAny_loop M (λn s'=>∃i τ ys H',Inv (Kw X M' N' scope cl C s2 H2 fp) [] τ H' s'/\tn i s'.heap/\(∀b∈fp,H' b=none)/\H' D=some (.lst ys)/\J3 i n τ ys H') ?_ m0
   {0,_,[],_,I3,b7,λb hb=>by rw[ae (λz=>by let{o,e,_}:=T.obj _ _ al b hb;rw[z,gD]at e;cases e)];exact(f2 b hb).1,I0,w0}
  rintro n s' ⟨i,τ,ys,H',I',b8,bb,bo,w'⟩;show wpAny _ X.A ((compTurn (.ListComp elt [{tg,iter,ifs,0}] scope pos) 0 (.ref it) (.ref D)<|compEnvC scope cl C X.env).onRaise<|λx=>do noteFrame x (compEnvC scope cl C X.env);theTreesLotGoes x) _ _ s';refine wpAny_noted ?_;rw[compTurn_list];refine Xj<|wpAny_standAt (Xj ?_);rcases b5 i n τ ys H' w' bo with⟨be,qn⟩|⟨go,step⟩
  .refine JD (T.done (Kw X M' N' scope cl C s2 H2 fp) M M M hc i [] s' _ H' _ I' (a3 bb) b8 be) λr s4 zz=>?_;let{hr,I4}:=zz;subst hr;refine Xr ?_;let{m,hn,_}:=I4.loc;have IX:Inv X J W H' s4:=O.call' (s':=s4) I4.os (show Un (Ko X.stack) fp H2 H' s2.heap s4.heap from I4.base) I4.hok I4.bare λb hb=>{(f2 b hb).2.2.2.1,(f2 b hb).2.1,(f2 b hb).2.2.2.2.1,(f2 b hb).2.2.2.2.2};refine hR D C s4 H' IX ⟨m,hn⟩ {I4.free,λz=>?_,?_,λy c e z=>?_,λp hp z=>?_} qn
   .have:=O.lt;rw[<-z,a2,hD]at this;exact Xp this<|X0.mpr (Z3 _)
   .refine Qr O.sz ?_;rw[hD,a2];exact Z3 _
   .let{v,o,ho,_}:=O.cell y c e;rw[z,gC]at ho;cases ho
   .have ho:=(O.pin p hp).1;rw[z,gC]at ho;cases ho
  .refine JD (T.item (Kw X M' N' scope cl C s2 H2 fp) M M M hc i [] s' _ H' _ I' (a3 bb) b8 go) λr s4 zz=>?_;let{u,hr,h4}:=zz;subst hr;refine Xj<|JD h4 λ_ s5 a1=>?_;let{y,H5,I5,r5,y5,an,bq}:=a1;have br:=I5.pinned (a3 bq) (T.obj _ _ an);let{G,hG,gq}:=step y H5 y5;refine Xj<|XA (hg cl C s2 H2 fp _ s5 _ H5 y _ _ br r5 gq) (λ_ s6 a1=>?_) λ_ _ f=>f.elim;let{bf,H6,I6,q6}:=a1;have fin:∀{bi:St}{H7:Hp}{s7:J'},Inv (Kw X M' N' scope cl C s2 H2 fp) ([]++rC fp s5.heap) bi H7 s7->tn (i+1) s7.heap/\∀b∈fp,H7 b=none:=λ{bi H7 s7} I7=>by
    refine{T.keep _ _ _ an λb hb o e=>(I7.pin (b,o)<|Qg _<|Qg _<|jq hb e).1,λb hb=>?_};let{o,e,d}:=T.obj _ _ an b hb;exact(I7.pin (b,o)<|Qg _<|Qg _<|jq hb e).2.1
   let{Ny,Ns,hy,hn,q6}:=hG _ _ q6;refine Xj<|XA (bj cl C s2 H2 fp _ s6 _ H6 _ I6 q6) (λb s7 zz=>?_) λ_ _ f=>f.elim;let{H7,I7,q7}:=zz;cases b with
   |false=>
    rw[Xl Q6]at q7;let{bz,m',ap,w7}:=hn _ q7;exact Xr<|show _/\_ from{M,m',ap,i+1,bf,ys,_,I7.unpinned,(fin I7).1,(fin I7).2,bz,w7}
   |true=>
    rw[Xm M]at q7;refine Xj<|Xj (XA (he cl C s2 H2 fp _ s7 _ H7 _ I7 q7) (λz s8 a1=>?_) λ_ _ f=>f.elim);let{y',H8,I8,r8,q8}:=a1;let{c0,c1,m',ap,w8}:=hy _ _ q8;refine Xj<|XA (fL (X:=Kw X M' N' scope cl C s2 H2 fp) _ s8 _ H8 (.ref D) [y'] (.ref D) [z] (λ_ H9=>H9=upd H8 D (.lst<|ys++ [y'])) I8 M (.cons r8 .nil) ⟨D,ys,y',M,M,c0,c1,M⟩) (λz9 s9 a1=>?_) λ_ _ f=>f.elim;let{_,H9,I9,_,e9}:=a1;subst e9;exact Xr<|Xr {M,m',ap,i+1,bf,ys++ [y'],_,I9.unpinned,(fin I9).1,(fin I9).2,I0,w8}
 exact codeAny_compStart_list (ac _ M)<|T.self _ 0 _ _ _ b7 (ac _ M)
def Inv.loose{h':Heap}(I:Inv X J W H s)(l:GB X J H C)(z:Heap.SameBut C s.heap h'):Inv X J W H {s with heap:=h'}:=
 I.turned (t':=s.toks) (λb o hb e=>(z.2 b hb).trans e) l.no l.fr (.inr l.ab) l.ce l.pi
section
variable{py spos:Pos}
def wv(hB:∀W Q J0 H,B W Q J0 H->xj M'.length g tc te W Q J0 H)(hc:X.calm=true)(S:JL X M' N' scope)(hi:PI X tg iter wi)(hg:JL X M' N' scope->∀cl C s₂ z fp,PG (Kw X M' N' scope cl C s₂ z fp) tg g)(O:∀cl C s₂ z fp,PTs (Kw X M' N' scope cl C s₂ z fp) ifs tc)(he:∀cl C s₂ z fp,PE (Kw X M' N' scope cl C s₂ z fp) elt te)
  (hs:∀x,foldedSetIterable iter X.env x=pure x:=by subst_eqs):PE X (.ListComp elt [{tg,iter,ifs,0}] scope pos) (λW H Q=>wi W H<|B W Q):=by
 intro J s W H Q I h;let{cl,G,U,Y}:=sJ (env:=X.env) (scope:=scope) λp hp hf=>I.ok.has p.1 (.inl<|S.free p hp hf);rw[eval_ListComp];refine wpAny_comprehension_free (use:=none) M hs G S.kind S.names<|uC hc S hi (hg S) O he U Y I h (hB _ _) λD C s4 H' I4 Z l q=>?_;let{m,Z}:=Z;exact{m,Z,λh' sb=>{.ref D,H',I4.loose l sb,M,q}}
def CC(hB:∀W Q J0 H,B W Q J0 H->xj M'.length g tc te W Q J0 H)(hc:X.calm=true)(S:JL X M' N' scope)(hi:PI X tg iter wi)(hg:JL X M' N' scope->∀cl C s₂ G fp,PG (Kw X M' N' scope cl C s₂ G fp) tg g)(U:∀cl C s₂ G fp,PTs (Kw X M' N' scope cl C s₂ G fp) ifs tc)(he:∀cl C s₂ G fp,PE (Kw X M' N' scope cl C s₂ G fp) elt te)
  (hN:X.N.Nodup) (hy:X.N[i]?=some y) (hk:X.env.scope.names.lookup y=some .local) (Y:swapsWith (.ListComp elt [{tg,iter,ifs,0}] scope pos) (some<|.Name y py) spos.line X.env=pure true:=by rfl)
  (hs:∀x,foldedSetIterable iter X.env x=pure x:=by subst_eqs):PS X (.Assign [.Name y py] (.ListComp elt [{tg,iter,ifs,0}] scope pos) spos) (Ce (λW H Q=>wi W H<|B W Q)<|lF i):=by
 intro J s W H D I h;let{cl,O,Z,a0}:=sJ (env:=X.env) (scope:=scope) λp hp hf=>I.ok.has p.1 (.inl<|S.free p hp hf);rw[exec_Assign_Name_used _ _ _ _ Y];refine Xj<|wpAny_standAt (Xj ?_);show wpAny _ X.A (do let _<-comprehension (.ListComp elt [{tg,iter,ifs,0}] scope pos) scope X.env _ (newList []) false (eval iter X.env) (some<|assign (.Name y py) X.env)) _ _ s;refine Xj (JD (wpAny_comprehension_free (use:=some<|assign (.Name y py) X.env) (Q:=λ_ s'=>SP X J D .next s') M hs O S.kind S.names
  (uC (Q:=λv H'=>D.nx (W.set i<|some v) H') hc S hi (hg S) U he Z a0 I h (hB _ _) λD' C s4 H' I4 hn l q=>?_)) λ_ s' hq=>Xr<|Xr hq)
 let{m,hn}:=hn;show wpAny _ X.A (assign (.Name y py) X.env<|.ref D') _ _ _;refine wpAny_assign_Name<|ua (v:= .ref D') I4 hN hy (.inl hk) M (λs5 I5 a1=>?_) (.inr hk);let{a,sb,ha}:=a1;have ne:C≠a:=by
  rcases ha with z|z
  .rw[z];exact l.fr
  .exact Ne.symm<|l.ce _ _ z
 exact{m,hn.sameBut sb ne,λh' a2=>{_,H',I5.loose l a2,q}}
end
def yR(te:TE)(W:St)(Q:VK)(J0:It)(H1:Hp):Prop:=∀D,H1 D=none->∃J3:Nat->Nat->List V->Hp->Prop,(∃m,J3 0 m [] (upd H1 D<|.lst []))/\∀i m ys H2,J3 i m ys H2->H2 D=some (.lst ys)->
 (J0.stop i H2/\Q (.ref D) H2)\/(J0.go i H2/\∀x H3,J0.yld i H2 x H3->te (some x::W) H3 λy H4=>H4 D=some (.lst ys)/\ys.length<sizeLine/\∃m',m'<m/\J3 (i+1) m' (ys++ [y]) (upd H4 D<|.lst<|ys++ [y]))
def Iv(wi:TI)(te:TE):TE:=λW H Q=>wi W H (yR te W Q)
def Jf(h:yR te W Q J0 H1):xj 1 (lF 0) Gg te W Q J0 H1:=λD U=>by
 let{J3,{Y,Z},G}:=h D U;refine{λi m S ys H=>(∃v,S=v::W)/\J3 i m ys H,{Y,⟨none,M⟩,Z},λi m S ys H2 w e=>?_};let{{v,rfl},w}:=w;rcases G i m ys H2 w e with z|⟨go,z⟩
 .exact .inl z
 .refine .inr {go,λx H3 y=>{λI H4=>I=some x::W/\H4=H3,λI H4 e=>?_,M,M}};let{rfl,rfl}:=e;refine{λy O=>O D=some (.lst ys)/\ys.length<sizeLine/\∃m',m'<m/\J3 (i+1) m' (ys++ [y]) (upd O D<|.lst<|ys++ [y]),λ_=>False,λy O n=>?_,λ_ n=>n.elim,?_}
  .let{n1,n2,m',n3,n4}:=n;exact{n1,n2,m',n3,{_,M},n4}
  .exact bL (B:=False)<|z x _ y
def nE(hc:X.calm=true)(S:JL X [x] N' scope)(hi:PI X (.Name x px) iter wi)(he:∀cl C s₂ z fp,PE (Kw X [x] N' scope cl C s₂ z fp) elt te)
  (hs:∀x,foldedSetIterable iter X.env x=pure x:=by subst_eqs):PE X (.ListComp elt [{.Name x px,iter,[],0}] scope pos) (Iv wi te):=
 wv (B:=yR te) (λ_ _ _ _=>Jf) hc S hi (λS _ _ _ _ _=>S.pg M) (λ_ _ _ _ _=>E3) he hs
noncomputable def wn(scope dsc:Scope):List (Str×NameKind):=scope.names.map λp=>if(p.2==NameKind.free&&dsc.kind==ScopeKind.function&&dsc.names.lookup p.1==some NameKind.cell)=true then(p.1,NameKind.cell)else(p.1,p.2)
def Gx(M' N N':Mf)(dsc:Scope)(scope:Scope):Bool:=
 (scope.kind==ScopeKind.function)&&decide (M'++N').Nodup&&(M'.all λx=>scope.names.lookup x==some NameKind.local)&&(scope.names.all λy=>y.2 !=NameKind.cell)&&(scope.names.all λy=>y.2 !=NameKind.local||scope.names.lookup y.1==some NameKind.local)
 &&(scope.names.all λy=>y.2 !=NameKind.free||dsc.names.lookup y.1==some NameKind.cell)&&(N'.all λy=>(wn scope dsc).lookup y !=some NameKind.local&&(wn scope dsc).lookup y !=some NameKind.free)&&decide (N'.length=N.length)&&(N'.zip N).all λp=>p.1==p.2||(wn scope dsc).lookup p.1==none
set_option tactic.hygienic true in
theorem m9{dsc:Scope}:∀{l:List (Str×NameKind)}{y:Str}{k:NameKind},(∀p∈l,p.2≠NameKind.cell)->(l.map λp=>if(p.2==NameKind.free&&dsc.kind==ScopeKind.function&&dsc.names.lookup p.1==some NameKind.cell)=true then(p.1,NameKind.cell)else(p.1,p.2)).lookup y=some k->(k= .cell\/k= .free)->(y,NameKind.free)∈l
 | [],y,k,_,h,_=>by simp at h
 |(n,kk)::r,y,k,hn,h,hk=>by
  rw[Qm]at h;by_cases c:(kk==NameKind.free&&dsc.kind==ScopeKind.function&&dsc.names.lookup n==some NameKind.cell)=true
  .dsimp only at h;rw[Xm c,Ze]at h;split at h
   .rename_i z
    rw[XF]at z;subst z;have:kk= .free:=by
     rw[Qp,Qp]at c;simpa using c.1.1
    rw[this];exact Q8
   .exact Q7 _<|m9 (λp hp=>hn p<|Q7 _ hp) h hk
  .dsimp only at h;rw[Xl c,Ze]at h;split at h
   .rename_i z
    rw[XF]at z;subst z;cases h;rcases hk with e|e
    .exact Xp e<|hn _ Q8
    .rw[e];exact Q8
   .exact Q7 _<|m9 (λp hp=>hn p<|Q7 _ hp) h hk
def JL.of{dsc:Scope}{N:Mf}(U:X.N=N)(Y:X.env.scope=dsc)(h:Gx M' N N' dsc scope=true):JL X M' N' scope:=by
 unfold Gx at h;simp only[Qp]at h;let{{{{{{{{h1,h2},h3},h4},h5},h6},h7},Z},h9}:=h;have I:(relabel scope X.env).names=wn scope dsc:=by rw[<-Y];rfl
 have G:∀y∈scope.names,y.2≠NameKind.cell:=λy hy=>by have:=QB.mp h4 y hy;simpa using this
 refine{by simpa using h1,Xw h2,by rw[U];exact Xw Z,λx hx=>by simpa using QB.mp h3 x hx,G,λy hy e=>?_,λy hy e=>?_,λj y S v=>?_,λy e=>?_}
 .have:=QB.mp h5 y hy;rw[e]at this;simpa using this
 .have:=QB.mp h6 y hy;rw[e]at this;show X.env.scope.names.lookup y.1=_;rw[Y];simpa using this
 .have O:=QB.mp h7 y (Q0 S);have hz:∃z,N[j]?=some z/\(y,z)∈N'.zip N:=by
   have lj:=(Q3.mp S).1;have l8:N'.length=N.length:=Xw Z;refine{N[j]'(),Q5 _,?_};refine Q0 (i:=j) ?_;rw[List.getElem?_zip_eq_some];exact{S,Q5 _}
  let{z,hz,mz}:=hz;have e9:=QB.mp h9 _ mz;unfold Ly at v;rw[I]at v⊢;have O:¬(wn scope dsc).lookup y=some NameKind.local/\¬(wn scope dsc).lookup y=some NameKind.free:=by simpa using O
  rcases v with v|v|v
  .exact Xp v O.1
  .refine{?_,m9 G v<|.inl M,v};rw[U,hz];dsimp only at e9;rw[v,Bool.or_eq_true]at e9;rcases e9 with e9|e9
   .rw[XF]at e9;rw[e9]
   .cases e9
  .exact Xp v O.2
 .have e:(wn scope dsc).lookup y=some .cell\/(wn scope dsc).lookup y=some .free:=by rwa[<-I]
  rcases e with e|e
  .exact m9 G e<|.inl M
  .exact m9 G e<|.inr M
abbrev _root_.MF:=Nat->List V->Hp->Prop
def KB(n i:Nat)(ys:L')(D:G')(Pv:MF):VK:=λy H4=>H4 D=some (.lst ys)/\ys.length<sizeLine/\∃m',m'<n-i/\m'=n-(i+1)/\i+1<=n/\Pv (i+1) (ys++ [y]) (upd H4 D<|.lst<|ys++ [y])
def KB.mk{Pv:MF}{y:V}(hi:i<n)(h1:H4 D=some (.lst ys))(h2:ys.length<sizeLine)(z:Pv (i+1) (ys++ [y]) (upd H4 D<|.lst<|ys++ [y])):KB n i ys D Pv y H4:=
 {h1,h2,n-(i+1),(),M,hi,z}
def jE{lo:Int}(Pv:MF)(G:Pv 0 [] (upd H1 D<|.lst []))
  (hs:∀i ys H2,i<n->Pv i ys H2->H2 D=some (.lst ys)->te (some (.int<|lo+i)::W) H2 (KB n i ys D Pv))
  (hd:∀ys H2,Pv n ys H2->H2 D=some (.lst ys)->Fin H2):
  ∃J3:Nat->Nat->List V->Hp->Prop,(∃m,J3 0 m [] (upd H1 D<|.lst []))/\∀i m ys H2,J3 i m ys H2->H2 D=some (.lst ys)->
   ((LS lo n).stop i H2/\Fin H2)\/((LS lo n).go i H2/\∀x H3,(LS lo n).yld i H2 x H3->te (some x::W) H3 λy H4=>H4 D=some (.lst ys)/\ys.length<sizeLine/\∃m',m'<m/\J3 (i+1) m' (ys++ [y]) (upd H4 D<|.lst<|ys++ [y])):=by
 refine{λi m ys H=>m=n-i/\i<=n/\Pv i ys H,{n,by simp,Ql _,G},?_};rintro i m ys H ⟨rfl,hi,p⟩ z;by_cases lt:i<n
 .refine .inr {lt,λx H' y=>?_};let{e,y}:=y;subst e y;exact hs i ys _ lt p z
 .have e:i=n:=();subst e;exact .inl {Q4 _,hd ys H p z}
def sK(tc:TT)(te:TE)(W:St)(Q:VK)(J0:It)(H1:Hp):Prop:=∀D,H1 D=none->∃J3:Nat->Nat->List V->Hp->Prop,(∃m,J3 0 m [] (upd H1 D<|.lst []))/\∀i m ys H2,J3 i m ys H2->H2 D=some (.lst ys)->
 (J0.stop i H2/\Q (.ref D) H2)\/(J0.go i H2/\∀x H3,J0.yld i H2 x H3->tc (some x::W) H3 λb H4=>if b=true then te (some x::W) H4 λy H5=>H5 D=some (.lst ys)/\ys.length<sizeLine/\∃m',m'<m/\J3 (i+1) m' (ys++ [y]) (upd H5 D<|.lst<|ys++ [y])else H4 D=some (.lst ys)/\∃m',m'<m/\J3 (i+1) m' ys H4)
def Cc(wi:TI)(tc:TT)(te:TE):TE:=λW H Q=>wi W H (sK tc te W Q)
def Gy(h:sK tc te W Q J0 H1):xj 1 (lF 0) tc te W Q J0 H1:=λD Z=>by
 let{J3,{m0,w0},G}:=h D Z;refine{λi m Y ys H=>(∃v,Y=v::W)/\J3 i m ys H,{m0,⟨none,M⟩,w0},λi m Y ys H2 w e=>?_};let{{v,rfl},w}:=w;rcases G i m ys H2 w e with z|⟨go,z⟩
 .exact .inl z
 .refine .inr {go,λx H3 y=>{λI H4=>I=some x::W/\H4=H3,λI H4 e=>?_,M,M}};let{rfl,rfl}:=e;refine{_,_,λy H6 n=>?_,λH5 n=>?_,z x _ y}
  .let{O,n2,m',S,U}:=n;exact{O,n2,m',S,{_,M},U}
  .let{O,m',S,U}:=n;exact{O,m',S,{_,M},U}
def CI{G:Expr}(hc:X.calm=true)(S:JL X [x] N' scope)(hi:PI X (.Name x px) iter wi)(I:∀cl C s₂ z fp,PT (Kw X [x] N' scope cl C s₂ z fp) G tc)(he:∀cl C s₂ z fp,PE (Kw X [x] N' scope cl C s₂ z fp) elt te)
  (hs:∀x,foldedSetIterable iter X.env x=pure x:=by subst_eqs):PE X (.ListComp elt [{.Name x px,iter,[G],0}] scope pos) (Cc wi tc te):=
 wv (B:=sK tc te) (λ_ _ _ _=>Gy) hc S hi (λS _ _ _ _ _=>S.pg M) (λ_ _ _ _ _=>zk<|I _ _ _ _ _) he hs
def wp{G:Expr}{py spos:Pos}(hc:X.calm=true)(S:JL X [x] N' scope)(hi:PI X (.Name x px) iter wi)(I:∀cl C s₂ z fp,PT (Kw X [x] N' scope cl C s₂ z fp) G tc)(he:∀cl C s₂ z fp,PE (Kw X [x] N' scope cl C s₂ z fp) elt te)
  (U:X.N.Nodup) (hy:X.N[i]?=some y) (hk:X.env.scope.names.lookup y=some .local) (O:swapsWith (.ListComp elt [{.Name x px,iter,[G],0}] scope pos) (some<|.Name y py) spos.line X.env=pure true:=by rfl)
  (hs:∀x,foldedSetIterable iter X.env x=pure x:=by subst_eqs):PS X (.Assign [.Name y py] (.ListComp elt [{.Name x px,iter,[G],0}] scope pos) spos) (Ce (Cc wi tc te)<|lF i):=
 CC (B:=sK tc te) (λ_ _ _ _=>Gy) hc S hi (λS _ _ _ _ _=>S.pg M) (λ_ _ _ _ _=>zk<|I _ _ _ _ _) he U hy hk O hs
def LD(n i:Nat)(ys:L')(D:G')(Pv:MF)(H4:Hp):Prop:=H4 D=some (.lst ys)/\∃m',m'<n-i/\m'=n-(i+1)/\i+1<=n/\Pv (i+1) ys H4
def LD.mk{Pv:MF}(hi:i<n)(h1:H4 D=some (.lst ys))(z:Pv (i+1) ys H4):LD n i ys D Pv H4:={h1,n-(i+1),(),M,hi,z}
def sI(Pv:MF)(G:Pv 0 [] (upd H1 D<|.lst []))(hl:∀i ys H,i<=xs.length->Pv i ys H->JC K H a xs)
  (hs:∀i x ys H2,xs[i]?=some x->Pv i ys H2->H2 D=some (.lst ys)->tc (some x::W) H2 λb H4=>if b=true then te (some x::W) H4 (KB xs.length i ys D Pv)else LD xs.length i ys D Pv H4)
  (hd:∀ys H2,Pv xs.length ys H2->H2 D=some (.lst ys)->Fin H2):
  ∃J3:Nat->Nat->List V->Hp->Prop,(∃m,J3 0 m [] (upd H1 D<|.lst []))/\∀i m ys H2,J3 i m ys H2->H2 D=some (.lst ys)->
   ((Ls K a).stop i H2/\Fin H2)\/((Ls K a).go i H2/\∀x H3,(Ls K a).yld i H2 x H3->tc (some x::W) H3 λb H4=>if b=true then te (some x::W) H4 λy H5=>H5 D=some (.lst ys)/\ys.length<sizeLine/\∃m',m'<m/\J3 (i+1) m' (ys++ [y]) (upd H5 D<|.lst<|ys++ [y])else H4 D=some (.lst ys)/\∃m',m'<m/\J3 (i+1) m' ys H4):=by
 refine{λi m ys H=>m=xs.length-i/\i<=xs.length/\Pv i ys H,{xs.length,by simp,Ql _,G},?_};rintro i m ys H ⟨rfl,hi,p⟩ z;have q:=hl i ys H hi p;by_cases lt:i<xs.length
 .refine .inr {{xs,xs[i],q,by simp[lt]},λx H' y=>?_};let{e,y}:=y;subst e;exact hs i x ys _ (y xs q) p z
 .have e:i=xs.length:=();subst e;exact .inl {{xs,q,Q4 _},hd ys H p z}
noncomputable def vwO(a d:G'):HO:= .ext λh=>h.IsItemsView a d
def Itd(ob:Obj)(d:G')(kvs:Mr):It:=
 {λi H=>H d=some (.frz ob<|.dK kvs)/\i<kvs.length,λi H x H'=>∃p k v,x= .ref p/\H p=none/\kvs[i]?=some (k,v)/\H'=upd H p (.tup [kV k,v]),λi H=>H d=some (.frz ob<|.dK kvs)/\kvs.length<=i}
def DObj(P:Mc)(w:Md)(ob:Obj)(d:G')(kvs:Mr)(vs:List (Key×Value))(ep:Nat):Prop:=
 KV kvs vs/\∀h:Heap,h.get? d=some ob->h.DictAt (bD P w) d vs ep
set_option tactic.hygienic true in
def KV.getI(h:KV kvs vs):∀{i:Nat}{k:Key}{v:V},kvs[i]?=some (k,v)->∃u,vs[i]?=some (k,u)/\RelV v u:=by
 induction h with
 |nil=>intro i k v e;simp at e
 |cons r t z=>
  rename_i p q ps G
  intro i k v e;cases i with
  |zero=>
   simp at e;subst e;exact{q.2,by simp[show k=q.1 from r.1],r.2}
  |succ j=>
   let{u,h1,h2}:=z (i:=j) (by simpa using e);exact{u,by simpa using h1,h2}
def xO{x1}(it:G')(D:DObj P w ob d kvs vs ep):
  vJ P w K (.Tuple elts x1 pos) (Itd ob d kvs) [it] it (λi h=>∃ok U,IsItemIter h it d i vs.length ep ok U) where
 mem:=by simp
 obj:=λi h st b hb=>by
  let{ok,U,st}:=st;have z:b=it:=by simpa using hb
  subst z;exact{_,st,λv z=>by cases z}
 keep:=λi h h' st k=>by
  let{ok,U,st}:=st;exact{ok,U,k it (by simp) _ st}
 item:=by
  intro X hP hw hK hc i J s W H E I hf st hg;subst hP hw hK;let{ok,U,st}:=st;let{hq,hi}:=hg;have fi:=hf it (by simp);let{G,_}:=I.hok d _ hq;have O:=D.2 s.heap G;obtain⟨⟨k,v⟩,hx⟩:∃kv,kvs[i]?=some kv:={kvs[i],by simp[hi]};let{u,hu,ru}:=KV.getI D.1 hx;refine wpAny_pyNext_items_item st O hu λkey h' Y g1 g3 gz g5=>{_,M,?_};refine wpAny_letOwnedTupleGo_items g1 λh2 k1 k2=>?_;have rk:RelV (kV k) key:=zF Y;have np:H s.heap.objs.size=none:=I.hok.fresh (Q4 _);have Z:s.heap.objs.size≠it:=X3 (Xs st);have keep:∀b o,b≠it->s.heap.get? b=some o->h2.get? b=some o:=λb o z q=>(k2.2 b z).trans (g5 b o z q);have S:h2.get? s.heap.objs.size=some {cls:= .type jb,data:= .seq #[key,u]}:=(k2.2 _ Z).trans g3;have Ln:∀b v,H b=some v->b≠it:=λb v q z=>by rw[z,fi.1]at q;cases q
  have un:Un (Ko X.stack) [it] H (upd H s.heap.objs.size<|.tup [kV k,v]) s.heap h2:=by
   refine{λb o q n hb hx=>keep b o (λz=>hx<|by simp[z]) q,λb o q n hb hx=>{o.slots,keep b o (λz=>hx<|by simp[z]) q},λb o q n hx=>?_,
    λb o q hx=>{o,keep b o (λz=>hx<|by simp[z]) q},λb ys q=>?_,λb o v q=>?_,λb ps q=>{#[],?_}}
   .rwa[ae (Qn<|Xs q)]
   .rw[ae (ai q np)];exact q
   .rw[ae (ai q np)];exact q
   .rw[ae (ai q np),q];simp
  have hok:JZ X.prog X.w (upd H s.heap.objs.size<|.tup [kV k,v]) h2:=λb v' q=>by
   by_cases z:b=s.heap.objs.size
   .subst z;rw[I0]at q;cases q;exact{by show 2<=sizeLine;decide,[key,u],.cons rk<|.cons ru .nil,_,S,M,_,M}
   .rw[ae z]at q;refine(I.hok b v' q).stay (λc o hc r=>?_) (λc r=>by rwa[ae (ai r np)]) λc ys r=>by rwa[ae (ai r np)]
    rcases hc with rfl|hc
    .exact keep _ _ (Ln _ _ q) r
    .exact keep _ _ (Ln _ _ hc) r
  have I2:Inv X J W (upd H s.heap.objs.size<|.tup [kV k,v]) {s with heap:=h2}:=I.call' (s':={s with heap:=h2}) M un hok I.bare λb hb=>by
   have z:eY X J H b:=hf b hb;exact⟨z.2.2.2.1,z.2.1,z.2.2.2.2.1,z.2.2.2.2.2⟩
  refine{.ref s.heap.objs.size,_,I2,M,{_,k,v,M,np,hx,M},⟨key,u,k1⟩,λb hb=>?_};have z:b=it:=by simpa using hb
  subst z;rw[ae (Ne.symm Z)];exact fi.1
 done:=by
  intro X hP hw hK hc i J s W H E I hf st hg;subst hP hw hK;let{ok,U,st}:=st;let{hq,hi}:=hg;let{G,_}:=I.hok d _ hq;have O:=D.2 s.heap G;let{f0,f1,f2,f3,f4,f5}:=hf it (by simp);have hl:kvs.length=vs.length:=D.1.length;exact wpAny_pyNext_items_end (I.ok.hd hc) st O (by simp;lia) λh' eb=>{M,I.turned (t':=s.toks) (λb o hb e=>eb b o hb e) f0 f1 f3 f4 f5}
 self:=λ_ _ _ _ _ st h=>let⟨_,_,st⟩:=st;PySem.W.kcp_self st h
inductive G0(x:V)(vs:L')(H:Hp)(Q:VK):Prop
 |mk(d kvs:_)(_:x= .ref d)(_:vs=[])(_:H d=some (.dK kvs))(_:∀a,H a=none->Q (.ref a) (upd H a<|vwO a d))
def C7:Lc X "dict.items" G0:=by
 intro J s W H x vs v us Q I G O h;let{d,kvs,rfl,rfl,hd,q}:=h;cases G;cases O;let{z,lo,S,U,dd}:=pI I.hok hd;refine XV PySem.F.slot_dict_items dd.typeIs PySem.F.entry_dict_items (PySem.F.args_dict_items_1 _) (meets_dict_items (bD X.prog X.w) d lo) {⟨S,dd⟩,?_};have new:(s.heap.push {cls:= .type "dict_items",data:= .fields #[.ref d]}).get? s.heap.objs.size=some {cls:= .type "dict_items",data:= .fields #[.ref d]}:=Xu _ M;refine{.ref s.heap.objs.size,_,I.laid (t':=s.toks) (λb o e=>Xk _ e) (Q4 _) (show JE X.prog X.w _ _ _ (vwO s.heap.objs.size d) from{{_,new,M,M},{_,new},λh1 h2 p k=>?_}),M,q _<|I.hok.fresh (Q4 _)};let{o,e,c}:=p;exact{o,k o e,c}
def Inv.freeze{H:Hp}{d:G'}{kvs:Mr}(I:Inv X J W H s)(hd:H d=some (.dK kvs))(ho:s.heap.get? d=some ob):Inv X J W (upd H d<|.frz ob<|.dK kvs) s:=by
 have own:∀b y,H b=some (.own y)->upd H d (.frz ob<|.dK kvs) b=some (.own y):=λb y q=>by rw[ae (λz=>by rw[z,hd]at q;cases q)];exact q
 have tup:∀b xs,H b=some (.tup xs)->upd H d (.frz ob<|.dK kvs) b=some (.tup xs):=λb xs q=>by rw[ae (λz=>by rw[z,hd]at q;cases q)];exact q
 have non:∀b,H b=none->upd H d (.frz ob<|.dK kvs) b=none:=λb q=>by rw[ae (λz=>by rw[z,hd]at q;cases q)];exact q
 refine{I.ok,I.os,I.bare,{I.base.keep,I.base.slot,λb o e n hx=>non b<|I.base.free b o e n hx,I.base.there,λb xs e=>tup b xs<|I.base.tups b xs e,λb o u e=>?_,λb ps e=>?_},I.loc,I.cell,non _ I.free,λx c e=>non c<|I.freeC x c e,λp hp=>?_,λb o e=>?_,I.len}
 .have:=I.base.frzs b o u e;rwa[ae (λz=>by rw[z,hd]at this;cases this)]
 .let{m,q}:=I.base.tbls b ps e;exact{m,by rw[ae (λz=>by rw[z,hd]at q;cases q)];exact q}
 .let{h1,h2,G}:=I.pin p hp;exact{h1,non _ h2,G}
 .by_cases z:b=d
  .subst z;rw[I0]at e;cases e;exact{ho,(I.hok b _ hd).stay (λ_ _ _ q=>q) (λc q=>own c b q) tup}
  .rw[ae z]at e;exact(I.hok b o e).stay (λ_ _ _ q=>q) (λc q=>own c b q) tup
def Inv.thaw{H:Hp}{d:G'}{kvs:Mr}(I:Inv X J W H s)(hd:H d=some (.frz ob<|.dK kvs))(G:∀o u,X.H₀ d≠some (.frz o u)):Inv X J W (upd H d<|.dK kvs) s:=by
 have own:∀b y,H b=some (.own y)->upd H d (.dK kvs) b=some (.own y):=λb y q=>by rw[ae (λz=>by rw[z,hd]at q;cases q)];exact q
 have tup:∀b xs,H b=some (.tup xs)->upd H d (.dK kvs) b=some (.tup xs):=λb xs q=>by rw[ae (λz=>by rw[z,hd]at q;cases q)];exact q
 have non:∀b,H b=none->upd H d (.dK kvs) b=none:=λb q=>by rw[ae (λz=>by rw[z,hd]at q;cases q)];exact q
 refine{I.ok,I.os,I.bare,{I.base.keep,I.base.slot,λb o e n hx=>non b<|I.base.free b o e n hx,I.base.there,λb xs e=>tup b xs<|I.base.tups b xs e,λb o u e=>?_,λb ps e=>?_},I.loc,I.cell,non _ I.free,λx c e=>non c<|I.freeC x c e,λp hp=>?_,λb o e=>?_,I.len}
 .have:=I.base.frzs b o u e;rwa[ae (λz=>by rw[z]at e;exact G _ _ e)]
 .let{m,q}:=I.base.tbls b ps e;exact{m,by rw[ae (λz=>by rw[z,hd]at q;cases q)];exact q}
 .let{h1,h2,O}:=I.pin p hp;exact{h1,non _ h2,O}
 .by_cases z:b=d
  .subst z;rw[I0]at e;cases e;let{_,q}:=I.hok b _ hd;exact JE.stay (show JE X.prog X.w H s.heap b (.dK kvs) from q) (λ_ _ _ q=>q) (λc q=>own c b q) tup
  .rw[ae z]at e;exact(I.hok b o e).stay (λ_ _ _ q=>q) (λc q=>own c b q) tup
def Inv.noFrz{H:Hp}{d:G'}{kvs:Mr}(I:Inv X J W H s)(hd:H d=some (.dK kvs)):∀o u,X.H₀ d≠some (.frz o u):=λo u e=>by
 have:=I.base.frzs d o u e;rw[hd]at this;cases this
def Hx(te:TE):TI:=λW H R=>te W H λx H1=>∃a d kvs,x= .ref a/\H1 a=some (vwO a d)/\H1 d=some (.dK kvs)/\∀ob,R (Itd ob d kvs) (upd H1 d<|.frz ob<|.dK kvs)
def CF{x1}(hl:PE X l te):PI X (.Tuple elts x1 pos) l (Hx te):=by
 intro J s W H R I h;refine JD (hl J s W H _ I h) λv s1 O=>?_;let{x,H1,S,r1,q1}:=O;let{a,d,kvs,e,ha,hd,q}:=q1;subst e;cases r1;let{z,lo,vs,U,dd}:=pI S.hok hd;let{ep,G}:=dd.dictAt;let{vw,_,_}:=(show JE X.prog X.w H1 s1.heap a (vwO a d) from S.hok a _ ha);let{ob,es,Y,rest}:=id G;refine wpAny_pyIter_items vw G ?_;have Z:=S.freeze hd Y;refine{s1.heap.objs.size,[s1.heap.objs.size],_,_,_,M,Z.kept (t':=s1.toks) λb o e=>Xk _ e,xO _ {U,λh e=>⟨ob,es,e,rest⟩},{_,_,Xu _ M},λb hb=>?_,q ob};have e:b=s1.heap.objs.size:=by simpa using hb
 subst e;exact Z.fpOk (Q4 _) (Z.hok.fresh<|Q4 _)
inductive Ih(t:TS)(D:KN)(W:St)(H:Hp):Prop
 |mk(d kvs:_)(_:H d=some (.dK kvs))(_:t {λσ' H'=>∃ob,H' d=some (.frz ob<|.dK kvs)/\D.nx σ' (upd H' d<|.dK kvs),λv H'=>∃ob,H' d=some (.frz ob<|.dK kvs)/\D.rt v (upd H' d<|.dK kvs),λσ' H'=>∃ob,H' d=some (.frz ob<|.dK kvs)/\D.bk σ' (upd H' d<|.dK kvs),λσ' H'=>∃ob,H' d=some (.frz ob<|.dK kvs)/\D.ct σ' (upd H' d<|.dK kvs)} W H)
def zm{st:Stmt}{t:TS}(h:PS X st t):PS X st (Ih t):=by
 intro J s W H D I ⟨d,kvs,hd,q⟩;have S:=I.noFrz hd;refine JD (h J s W H _ I q) λf s1 U=>?_;cases f with
 |next=>let{z,Y,G,ob,e,O}:=U;exact{z,_,G.thaw e S,O}
 |cont=>let{z,Y,G,ob,e,O}:=U;exact{z,_,G.thaw e S,O}
 |brk=>let{z,Y,G,ob,e,O}:=U;exact{z,_,G.thaw e S,O}
 |ret v=>let{Z,z,Y,G,r7,ob,e,O}:=U;exact{Z,z,_,G.thaw e S,r7,O}
def yL(Pv:MD)(O:Pv 0 W H)(hl:∀i W H,i<=kvs.length->Pv i W H->H d=some (.frz ob<|.dK kvs))
  (hs:∀i k v p W H,kvs[i]?=some (k,v)->Pv i W H->H p=none->g (.ref p) W (upd H p<|.tup [kV k,v]) λG H2=>tb {Pv<|i+1,rt,nx,Pv<|i+1} G H2) (hd:∀W H,Pv kvs.length W H->nx W H):
  ∃J3:Nat->Nat->St->Hp->Prop,(∃m,J3 0 m W H)/\∀i m W H,J3 i m W H->
   ((Itd ob d kvs).stop i H/\nx W H)\/((Itd ob d kvs).go i H/\∃N:St->Hp->Prop,(∀I H',N I H'->∃m',m'<m/\J3 (i+1) m' I H')/\∀x H',(Itd ob d kvs).yld i H x H'->g x W H' λG H2=>tb ⟨N,rt,nx,N⟩ G H2):=by
 refine{λi m W H=>m=kvs.length-i/\i<=kvs.length/\Pv i W H,{kvs.length,by simp,Ql _,O},?_};rintro i m W H ⟨rfl,hi,p⟩;have q:=hl i W H hi p;by_cases lt:i<kvs.length
 .refine .inr {⟨q,lt⟩,Pv<|i+1,λI H' z=>{kvs.length-(i+1),(),M,lt,z},λx H' y=>?_};let{S,k,v,rfl,np,e,rfl}:=y;exact hs i k v S W H e p np
 .have e:i=kvs.length:=();subst e;exact .inl {{q,Q4 _},hd W H p}
section
variable(K:J4)(hK:X.K=K)
include hK
theorem zG:IxR X (rIxT K):=by subst hK;exact kq
end
theorem uj{y:Int}:∀{ns:Mb}{m:Nat},m<ns.idxOf y->(h:m<ns.length)->ns[m]≠y
 | [],m,_,h=>by simp at h
 |a::r,m,lt,h=>by
  rw[List.idxOf_cons]at lt;by_cases c:a=y
  .rw[c]at lt;simp at lt
  .have:(a==y)=false:=Xy.mpr c;rw[this]at lt;cases m with
   |zero=>exact c
   |succ j=>exact uj (ns:=r) (m:=j) (by simpa using lt)<|by simpa using h
theorem ux:∀(ns:Mb)(i:Nat),(ns.eraseIdx i).map V.int=(ns.map V.int).eraseIdx i
 | [],_=>rfl
 |_::_,0=>rfl
 |a::r,i+1=>by
  show V.int a::(r.eraseIdx i).map V.int=V.int a::(r.map V.int).eraseIdx i;rw[ux r i]
inductive EZ(x:V)(vs:L')(H:Hp)(Q:VK):Prop
 |mk(l:G')(xs:L')(k:Int)(y:V)(_:x= .ref l)(_:vs=[.int k,y])(_:H l=some (.lst xs))(_:0<=k)(_:k<=(xs.length:Int))(_:xs.length<sizeLine)(_:Q .non (upd H l<|.lst (xs.take k.toNat++y::xs.drop k.toNat)))
def pc:MtM X "list.insert" EZ:=by
 intro J s W H x vs v us Q I U Y h;let{l,xs,k,y,rfl,rfl,O,h0,hk,hz,q}:=h;cases U;let{u1,u,rfl,{t,rfl},Z}:=Y.two;let{z,its,n,r,hl,e}:=I.lstM O;have G:¬(!Builtin.List.listFitsIndex k)=true:=by
  have S:=pf;rw[fitsIndex_both () ()];exact Q6
 have hsz:its.toArray.size<=sizeLine:=by rw[Qa];lia
 refine call_meets F.slot_list_insert {_,e,M} F.entry_list_insert (F.args_list_insert_3 _ _ _) (AutoListH.list_insert_list_int_val_1 l its.toArray n k t u G hsz) {e,?_};refine{.non,_,I.lset (its':=its.take k.toNat++u::its.drop k.toNat) O e ?_ ((r.take k.toNat).append<|.cons Z<|r.drop k.toNat) ?_,M,q}
 .have e0:(if k<0 then(k+((its.toArray.size:Nat):Int)).toNat else min k.toNat its.toArray.size)=k.toNat:=by
   rw[Xl (),Qa];lia
  show(its.toArray.extract 0 _).push u++its.toArray.extract _=_;rw[e0];simp;exact Qw<|by rw[QA];lia
 .rw[Qd,Q9,Qo,QA];lia
inductive EY(x:V)(vs:L')(H:Hp)(Q:VK):Prop
 |mk(l:G')(ns:Mb)(y:Int)(_:x= .ref l)(_:vs=[.int y])(_:H l=some (.lst<|ns.map V.int))(_:y∈ns)(_:Q .non (upd H l<|.lst<|(ns.erase y).map V.int))
def AT:MtM X "list.remove" EY:=by
 intro J s W H x vs v us Q I rx rv h;let{l,ns,y,rfl,rfl,hH,hy,q}:=h;cases rx;let{u,rfl,ru}:=rv.one;let{t,rfl}:=ru;let{z,its,n,r,hl,e}:=I.lstM hH;have hi:IntsAre its ns:=su r;have S:∀(m:Nat)(O:m<its.toArray.size),∃t',its.toArray[m]=Value.int (ns.getD m 0) t':=λm O=>by
  have G:m<ns.length:=by rw[Qa,<-hl,Q2]at O;exact O
  let{w,hw,Y}:=r.get (i:=m) (x:= .int<|ns.getD m 0) (by rw[Qk,Q5 G,Qy,Q5 G];rfl);let{t',rfl}:=Y;refine{t',?_};have:=(Q3.mp hw).2;simpa using this
 have hx:ns.idxOf y<ns.length:=List.idxOf_lt_length_of_mem hy;have ga:∀m,m<ns.length->ns.getD m 0=ns[m]!:=λm O=>by simp[O]
 refine call_meets F.slot_list_remove {_,e,M} F.entry_list_remove (F.args_list_remove_2 _ _) (MeetsSeq.list_remove l its.toArray n (.int y t) (λv=>match v with| .int i _=>i==y|_=>false) (λv hv=>?_) (ns.idxOf y) (by rwa[Qa,<-hl,Q2]) ?_ (λm O lt=>?_)<|by rw[Qa];lia) {e,?_}
 .let{m,O,Z}:=Array.getElem_of_mem hv;let{t',U}:=S m O;rw[<-Z,U];exact MeetsSeq.EqGives.int _ _ _ _
 .let{t',U}:=S (ns.idxOf y) (by rwa[Qa,<-hl,Q2]);rw[U];show(ns.getD (ns.idxOf y) 0==y)=true;rw[Qy,Q5 hx,Xb,List.getElem_idxOf hx];exact XI y
 .let{t',U}:=S m O;rw[U];show(ns.getD m 0==y)=false;have G:m<ns.length:=();rw[Qy,Q5 G,Xb];exact Xy.mpr<|λw=>uj lt G w
 .have ee:ns.erase y=ns.eraseIdx (ns.idxOf y):=(List.erase_eq_eraseIdx_of_idxOf M);have Z:(ns.eraseIdx<|ns.idxOf y).map V.int=(ns.map V.int).eraseIdx (ns.idxOf y):=ux _ _;rw[ee,Z]at q;refine{.non,_,I.lset (its':=its.eraseIdx<|ns.idxOf y) hH e ?_ (r.eraseIdx<|ns.idxOf y) ?_,M,q}
  .show its.toArray.eraseIdxIfInBounds (ns.idxOf y)=(its.eraseIdx<|ns.idxOf y).toArray;rw[X8]
  .have:=pj (ns.map V.int) (ns.idxOf y);lia
def yQ:fu X (.type "dict") (λxs H Q=>∃d kvs,xs=[.ref d]/\H d=some (.dK kvs)/\∀p,H p=none->Q (.ref p) (upd H p<|.dK kvs)):=by
 intro J s W H xs us Q I r h;let{d,kvs,rfl,hd,q}:=h;let{u,rfl,O}:=mN r;cases O;let{z,lo,vs,G,dd}:=pI I.hok hd;refine kt_call_dict lo dd (by rwa[<-G.length]) λh' S hs=>?_;let{_,nm,_}:=w9 (P:=X.prog) (w:=X.w) (H:=H) s.heap I.big;refine{.ref s.heap.objs.size,_,I.laid (a:=s.heap.objs.size) (o:= .dK kvs) (t':=s.toks) (λb o e=>(hs.2 b<|Qn<|Xs e).trans<|Xk _ e) (Q4 _) ⟨z,nm,vs,G,S⟩,M,q _<|I.hok.fresh (Q4 _)}
inductive EX(x:V)(vs:L')(H:Hp)(Q:VK):Prop
 |mk(a kvs k y:_)(_:x= .ref a)(_:vs=[kV k,y])(_:H a=some (.dK kvs))(_:kvs.length<sizeLine)(_:(∀v,a9 kvs k=some v->Q v H))(_:(a9 kvs k=none->Q y (upd H a<|.dK<|bF kvs k y)))
def AS:Lc X "dict.setdefault" EX:=by
 intro J s W H x vs v us Q I Y Z h;let{a,kvs,k,y,rfl,rfl,S,hl,q1,q2}:=h;cases Y;let{u,r,rfl,ru,U}:=qC Z;let{z,hd,ws,O,dd}:=pI I.hok S;have G:=O.val k;refine XV Xf dd.typeIs PySem.F.entry_dict_setdefault (PySem.F.args_dict_setdefault_3 _ _ _) (kt_meets_setdefault (bD X.prog X.w) a (nP ru) hd r) {ws,dd,by rwa[<-O.length],λv hv=>?_,λhn h' dd' hs=>?_}
 .rw[hv]at G;cases e:a9 kvs k with
  |none=>rw[e]at G;exact G.elim
  |some x=>
   rw[e]at G;exact{x,H,I.tok _,G,q1 x e}
 .rw[hn]at G;cases e:a9 kvs k with
  |some x=>rw[e]at G;exact G.elim
  |none=>
   have he:∃q,h'.get? a=some q:=by let{q,_,_,hq,_}:=dd';exact⟨q,hq⟩
   have lp:=eU kvs k y;exact{y,_,qw I (by rw[S];exact Xx) hs he<|yN () hd (O.put k U) dd',U,q2 e}
noncomputable def Lm(a d:G'):HO:= .ext λh=>h.IsValuesView a d
def Itw(ob:Obj)(d:G')(kvs:Mr):It:=
 {λi H=>H d=some (.frz ob<|.dK kvs)/\i<kvs.length,λi H x H'=>H'=H/\∃k,kvs[i]?=some (k,x),λi H=>H d=some (.frz ob<|.dK kvs)/\kvs.length<=i}
def An(it:G')(D:DObj P w ob d kvs vs ep):
  vJ P w K tg (Itw ob d kvs) [it] it (λi h=>h.IsValIter it d i vs.length ep) where
 mem:=by simp
 obj:=λi h st b hb=>by
  have z:b=it:=by simpa using hb
  subst z;let{o,e,c,dd}:=st;exact{o,e,λv z=>by rw[dd]at z;cases z}
 keep:=λi h h' st k=>by
  let{o,e,r}:=st;exact{o,k it (by simp) _ e,r}
 item:=by
  intro X U hw hK hc i J s W H E I hf st Y;subst U hw hK;let{hq,hi}:=Y;let{Z,f1,f2,f3,f4,f5}:=hf it (by simp);let{G,_}:=I.hok d _ hq;have O:=D.2 s.heap G;obtain⟨⟨k,v⟩,hx⟩:∃kv,kvs[i]?=some kv:={kvs[i],by simp[hi]};let{u,hu,ru}:=KV.getI D.1 hx;refine wpAny_pyNext_values_item st O hu λh' S sb=>?_;have I1:Inv X J W H {s with heap:=h'}:=I.turned (t':=s.toks) (λb o hb e=>(sb.2 b hb).trans e) Z f1 f3 f4 f5;let{o,e,c,dd}:=id S;exact{u,M,sy (s:={s with heap:=h'}) e c dd (_) {v,H,I1,ru,⟨M,k,hx⟩,S,λb hb=>(hf b hb).1}}
 done:=by
  intro X U hw hK hc i J s W H E I hf st Y;subst U hw hK;let{hq,hi}:=Y;let{G,_}:=I.hok d _ hq;have O:=D.2 s.heap G;let{Z,f1,f2,f3,f4,f5}:=hf it (by simp);have hl:kvs.length=vs.length:=D.1.length;exact wpAny_pyNext_values_end (I.ok.hd hc) st O (by simp;lia) λh' eb=>{M,I.turned (t':=s.toks) (λb o hb e=>eb b o hb e) Z f1 f3 f4 f5}
 self:=λ_ _ _ _ _ st h=>wpAny_pyIter_valiter st h
inductive IE(x:V)(vs:L')(H:Hp)(Q:VK):Prop
 |mk(d kvs:_)(_:x= .ref d)(_:vs=[])(_:H d=some (.dK kvs))(_:∀a,H a=none->Q (.ref a) (upd H a<|Lm a d))
def AR:Lc X "dict.values" IE:=by
 intro J s W H x vs v us Q I G O h;let{d,kvs,rfl,rfl,hd,q}:=h;cases G;cases O;let{z,lo,S,U,dd}:=pI I.hok hd;refine XV PySem.F.slot_dict_values dd.typeIs PySem.F.entry_dict_values (PySem.F.args_dict_values_1 _) (meets_dict_values (bD X.prog X.w) d lo) {⟨S,dd⟩,?_};have new:(s.heap.push {cls:= .type "dict_values",data:= .fields #[.ref d]}).get? s.heap.objs.size=some {cls:= .type "dict_values",data:= .fields #[.ref d]}:=Xu _ M;refine{.ref s.heap.objs.size,_,I.laid (t':=s.toks) (λb o e=>Xk _ e) (Q4 _) (show JE X.prog X.w _ _ _ (Lm s.heap.objs.size d) from{{_,new,M,M},{_,new},λh1 h2 p k=>?_}),M,q _<|I.hok.fresh (Q4 _)};let{o,e,c}:=p;exact{o,k o e,c}
def IT(te:TE):TI:=λW H R=>te W H λx H1=>∃a d kvs,x= .ref a/\H1 a=some (Lm a d)/\H1 d=some (.dK kvs)/\∀ob,R (Itw ob d kvs) (upd H1 d<|.frz ob<|.dK kvs)
def E6(hl:PE X l te):PI X tg l (IT te):=by
 intro J s W H R I h;refine JD (hl J s W H _ I h) λv s1 O=>?_;let{x,H1,S,r1,q1}:=O;let{a,d,kvs,e,ha,hd,q}:=q1;subst e;cases r1;let{z,lo,vs,U,dd}:=pI S.hok hd;let{ep,G}:=dd.dictAt;let{vw,_,_}:=(show JE X.prog X.w H1 s1.heap a (Lm a d) from S.hok a _ ha);let{ob,es,Y,rest}:=id G;refine wpAny_pyIter_values vw G ?_;have Z:=S.freeze hd Y;refine{s1.heap.objs.size,[s1.heap.objs.size],_,_,_,M,Z.kept (t':=s1.toks) λb o e=>Xk _ e,An _ {U,λh e=>⟨ob,es,e,rest⟩},{_,Xu _ M,M,M},λb hb=>?_,q ob};have e:b=s1.heap.objs.size:=by simpa using hb
 subst e;exact Z.fpOk (Q4 _)<|Z.hok.fresh (Q4 _)
def DE(Pv:MD)(O:Pv 0 W H)(hl:∀i W H,i<=kvs.length->Pv i W H->H d=some (.frz ob<|.dK kvs))
  (hs:∀i k v W H,kvs[i]?=some (k,v)->Pv i W H->g v W H λG H2=>tb {Pv<|i+1,rt,nx,Pv<|i+1} G H2) (hd:∀W H,Pv kvs.length W H->nx W H):
  ∃J3:Nat->Nat->St->Hp->Prop,(∃m,J3 0 m W H)/\∀i m W H,J3 i m W H->
   ((Itw ob d kvs).stop i H/\nx W H)\/((Itw ob d kvs).go i H/\∃N:St->Hp->Prop,(∀I H',N I H'->∃m',m'<m/\J3 (i+1) m' I H')/\∀x H',(Itw ob d kvs).yld i H x H'->g x W H' λG H2=>tb ⟨N,rt,nx,N⟩ G H2):=by
 refine{λi m W H=>m=kvs.length-i/\i<=kvs.length/\Pv i W H,{kvs.length,by simp,Ql _,O},?_};rintro i m W H ⟨rfl,hi,p⟩;have q:=hl i W H hi p;by_cases lt:i<kvs.length
 .refine .inr {⟨q,lt⟩,Pv<|i+1,λI H' z=>{kvs.length-(i+1),(),M,lt,z},λx H' y=>?_};let{rfl,k,e}:=y;exact hs i k x W _ e p
 .have e:i=kvs.length:=();subst e;exact .inl {{q,Q4 _},hd W H p}
def Bs(a d:K'):argsOk "min" {[a],[("default",d)]}:=by unfold argsOk;kernel_rfl
section
variable{prog:Mc}{A:Mj}
def Fi{I S:G'}{wr:Mh}{P:Nat->Value->Prop}{St:Nat->Heap->Prop}{d:K'}(J3:Walks prog w A.in1 I fp wr n P St)(a8:CmpOf prog w A.in1 .Lt P bt)(ac:S∉fp):
  ∀(k j:Nat)(s:J')(old:Lz)(c:Nat),n-j=k->j<=n->St j s.heap->(j=0/\old=[]\/∃i vb,j=i+1/\old=[vb,vb]/\P (argBest bt i) vb)->
  s.heap.get? S=some {cls:= .type gt,dict:=none,data:= .seq old.toArray c,slots:= #[]}->
  (∀v h' tk,(n=0/\v=d\/0<n/\P (argBest bt<|n-1) v)->(∀b o,b∉wr->b≠S->s.heap.get? b=some o->h'.get? b=some o)->R (.ok<|.ret v) {s with heap:=h',toks:=tk})->
  codeAny (model prog w) A (.builtin "min.loop" {[.ref I,.none,.ref S],[("default",d)]}) R s:=by
 have al:S∉wr:=λh=>ac (J3.sub _ h);have O:(toString "min"++toString ".loop":String)="min.loop":=by decide
 intro k
 induction k with
 |zero=>
  intro j s old c hk hj a5 ho hS hR;have an:j=n:=();refine codeAny_builtin F.entry_min_loop ?_;rw[Around.under_plainId F.plain_min_loop _];show wpAny _ A.in1 (seqItems? (.ref S)>>=_) _ _ s;refine Xj<|wpAny_seqItems hS M ?_;show wpAny _ A.in1 (tryCatch (pyNext<|.ref I) _>>=_) _ _ s;refine Xj<|wpAny_tryCatch (J3.done s _ _ (an▸a5) λh' tk U=>?_);have Y:=U S _ al hS;rcases ho with⟨h0,rfl⟩|⟨i,vb,h0,rfl,hP⟩
  .refine Xj<|wpAny_rule (Xr<|hR d _ tk (.inl {(),M}) λb o z _ e=>U b o z e)
  .show wpAny _ A.in1 (updateSeq S (λ_=> #[])>>=_) _ _ _;refine Xj<|wpAny_updateSeq Y M (Xj<|wpAny_letGo<|Xr<|hR vb _ tk (.inr {(),?_}) λb o z Z e=>(Xv _ _<|Ne.symm Z).trans<|U b o z e);have:n-1=i:=();rwa[this]
 |succ k ih=>
  intro j s old c hk hj a5 ho hS hR;have a2:j<n:=();refine codeAny_builtin F.entry_min_loop ?_;rw[Around.under_plainId F.plain_min_loop _];show wpAny _ A.in1 (seqItems? (.ref S)>>=_) _ _ s;refine Xj<|wpAny_seqItems hS M ?_;show wpAny _ A.in1 (tryCatch (pyNext<|.ref I) _>>=_) _ _ s;refine Xj<|wpAny_tryCatch (J3.item j s _ _ a2 a5 λv h' tk hP a3 U=>?_);have Y:=U S _ al hS;have up:∀{o:Obj->Obj},(∀v' a0 G,(n=0/\v'=d\/0<n/\P (argBest bt<|n-1) v')->(∀b o',b∉wr->b≠S->(h'.update S o).get? b=some o'->a0.get? b=some o')->R (.ok<|.ret v') {s with heap:=a0,toks:=G}):=λ{o} v' a0 G a6 a1=>
   hR v' a0 G a6 λb o' z Z e=>a1 b o' z Z ((Xv _ _<|Ne.symm Z).trans<|U b o' z e)
  have fr:∀{o:Obj->Obj},St (j+1) (h'.update S o):=λ{o}=>J3.frame _ _ _ a3 λb ap o e=>(Xv _ _ (λh:S=b=>ac<|by rwa[h])).trans e;rcases ho with⟨rfl,rfl⟩|⟨i,vb,rfl,rfl,am⟩
  .show wpAny _ A.in1 (updateSeq S (λ_=> #[v,v])>>=_) _ _ _;refine Xj<|wpAny_updateSeq Y M ?_;rw[O];exact Xr {plainId_quiet F.plain_min_loop _,ih 1 _ [v,v] _ () a2 fr (.inr {0,v,M,M,hP}) (Heap.get?_update_self _ Y M) up}
  .show wpAny _ A.in1 (tryCatch (holding [v,v]<|richCompare .Lt v vb>>=_) _>>=_) _ _ _;refine Xj<|wpAny_tryCatch (XE<|Xj<|a8 (i+1) (argBest bt i) v vb _ _ _ hP am ?_);refine Xj<|XE (XH ?_);refine Xj<|wpAny_letGo (Xr ?_);cases hb:bt (i+1) (argBest bt i)with
   |true=>
    simp only[if_true];refine Xj<|wpAny_updateSeq Y M (Xj<|wpAny_letGo ?_);rw[O];exact Xr {plainId_quiet F.plain_min_loop _,ih (i+2) _ [v,v] _ () a2 fr (.inr {i+1,v,M,M,by simp only[argBest,hb,if_true];exact hP}) (Heap.get?_update_self _ Y M) up}
   |false=>
    simp only[Qv,if_false];refine Xj<|wpAny_letGo ?_;rw[O];exact Xr {plainId_quiet F.plain_min_loop _,ih (i+2) _ [vb,vb] c () a2 a3 (.inr {i+1,vb,M,M,by simp only[argBest,hb,Qv,if_false];exact am}) Y λv' a0 G a6 a1=>hR v' a0 G a6 λb o z Z e=>a1 b o z Z<|U b o z e}
def Bn{l:G'}{xs:Array (Int×Tok)}{d:K'}{Q:Ml}(Z:A.handled=none)(hl:s.heap.IsList l (intItems xs))
  (h:∀v h' tk,(xs.size=0/\v=d\/0<xs.size/\(intItems xs)[argBest (λi j=>decide (numAt xs i<numAt xs j)) (xs.size-1)]?=some v)->(∀b o,s.heap.get? b=some o->h'.get? b=some o)->Q v {s with heap:=h',toks:=tk}):
  wpAny (model prog w) A (call (.builtin "min") [.ref l] [("default",d)]) Q E s:=by
 have z:(toString "min"++toString ".loop":String)="min.loop":=by decide
 refine wpAny_call<|codeAny_call_builtin F.plain_min F.entry_min ?_;simp only[checkBuiltinCall,F.kind_min];have hc:wpAny (model prog w) A.in1 (Builtin.«min» {[.ref l],[("default",d)]}) (λfin s'=>match fin with
   | .done f=>(match (Except.ok f:Result)with| .ok (.ret v)=>Q v s'| .ok _=>False| .error e=>E e s')
   | .again Y=>Y.quiet=true/\codeAny (model prog w) A Y (λr s'=>match r with| .ok (.ret v)=>Q v s'| .ok _=>False| .error e=>E e s') s') E s:=by
  show wpAny _ A.in1 (Builtin.Builtins.bindParams "min" [ew,"default"] 0 {[],[("default",d)]}>>=_) _ _ s;refine Xj<|wpAny_of_eq (show Builtin.Builtins.bindParams "min" [ew,"default"] 0 {[],[("default",d)]}=pure [none,some d] from rfl) ?_;refine Xj<|Xr (Xj<|iter_intList hl λs₂ e st I O=>?_);subst e;refine Xj<|wpAny_newObj_type ?_;rw[z];have J3:=Walks.list (prog:=prog) (w:=w) (A:=A.in1) Z _ l O (intItems xs);have S:=λhm=>QV _ (I _ hm);refine Xr {plainId_quiet F.plain_min_loop _,Fi J3 (CmpOf.ints_lt (numAt xs)<|λ_ _=>intItems_at) S _ 0 _ [] 0 M (Ql _) (J3.frame _ _ _ st λb _ o e=>Xk _ e) (.inl ⟨M,M⟩) (Xu _ M) λv h' tk hP hk=>?_};refine h v h' tk (by simpa[intItems]using hP)<|old_kept λb o U e=>hk b o U (Qn<|Xs e) (Xk _ e)
 cases G:Manifest.signature? "min" with
 |none=>exact Xr hc
 |some a0=>
  have ha:=Bs (.ref l) d;simp only[argsOk,G]at ha;simp only[ha];exact Xr hc
end
section
variable{e v:Expr}{td:TE}{p kp:Pos}
def Im(K:J4)(te td:TE):TE:=λW H Q=>te W H λx H1=>td W H1 λy H2=>∃(p:G')(ns:Mb),x= .ref p/\JC K H2 p (ns.map V.int)/\(ns=[]->Q y H2)/\∀M',M'∈ns->(∀a∈ns,M'<=a)->Q (.int M') H2
def E8(K:J4)(hK:X.K=K)(hc:X.calm=true)(S:Gl X "min")(U:X.mg "min"=none)(he:PE X e te)(hd:PE X v td)(h1:starEach [e] X.env=(false,eval e X.env)::starEach [] X.env:=by rfl)(h2:backTo pos (starEach [e] X.env)=(false,eval e X.env)::backTo pos (starEach [] X.env):=by rfl)(Y:(backTo pos<|starEach [e] X.env).any (·.1)=false:=by rfl):
  PE X (.Call (.Name "min" p) [e] [{some "default",v,kp}] pos) (Im K te td):=by
 subst hK;intro J s W H Q I h;refine XD<|pk I S U DQ ?_ (_) (_);refine callWith_kw (JD (aa he af h1 pos J s W H (λvs H1=>match vs with| [x]=>td W H1 λy H2=>∃(p:G')(ns:Mb),x= .ref p/\JC X.K H2 p (ns.map V.int)/\(ns=[]->Q y H2)/\∀M',M'∈ns->(∀a∈ns,M'<=a)->Q (.int M') H2|_=>False) I ?_) λus s1 ⟨vs,H1,Z,r1,O⟩=>?_) h2 Y
 .exact h
 .match vs,r1,O with
  | [x],r1,O=>
   let{u,rfl,ru}:=mN r1;refine kws_cons<|JD (hd J s1 W H1 _ Z O) λu2 s2 zz=>?_;let{y,H2,G,ry,q2}:=zz;refine kws_nil ?_;let{l,ns,rfl,hq,q3,q4}:=q2;cases ru;let{its,rv,pl,hz}:=G.list hq;have hi:IntsAre its ns:=su rv;let{xs,e}:=hi.allInts.items;have z:ns=xs.toList.map (·.1):=by
    rw[<-hi.numsOf,<-nums_intItems,<-e]
   have hl:=pl.isList;rw[e]at hl;have hsz:ns.length=xs.size:=by rw[z,Q2,QG]
   refine Bn (G.ok.hd hc) hl λw h' tk hw hk=>?_;rcases hw with⟨h0,rfl⟩|⟨h0,hw⟩
   .exact{y,H2,G.kept (t':=tk) hk,ry,q3<|QJ.mp ()}
   .let{t,rfl}:=intItems_at hw;let{g1,g2}:=argBest_lt (numAt xs) (xs.size-1);refine{.int _,H2,G.kept (t':=tk) hk,⟨t,M⟩,q4 _ ?_ λa ha=>?_}
    .rw[z,numAt_eq];exact getD_mem<|by rw[Q2,QG];lia
    .rw[z]at ha;let{j,hj,rfl}:=mem_getD ha;rw[Q2,QG]at hj;rw[<-numAt_eq];exact g2 j ()
end
def Itv(K:J4)(a:G')(n:Nat):It:=
 {λi H=>i<n/\∃xs x,JC K H a xs/\xs[n-1-i]?=some x,λi H x H'=>H'=H/\∀xs,JC K H a xs->xs[n-1-i]?=some x,λi _=>n<=i}
def B9(a it:G')(n:Nat):vJ P w K tg (Itv K a n) [it] it (λi h=>i<=n/\h.IsRevIter it a ((n:Int)-1-(i:Int))) where
 mem:=by simp
 obj:=λi h st b hb=>by
  have e:b=it:=by simpa using hb
  subst e;let{_,o,e,c,d}:=st;exact{o,e,λv z=>by rw[d]at z;cases z}
 keep:=λi h h' st k=>{st.1,st.2.at λo e=>k it (by simp) o e}
 item:=by
  intro X S hw hK hc i J s W H E I hf st U;subst S hw hK;let{hi,xs,x,hq,hx}:=U;let{its,rv,p,hz}:=I.list hq;let{u,hu,ru}:=rv.get hx;let{Y,Z,f2,f3,f4,f5}:=hf it (by simp);have e1:(n:Int)-1-(i:Int)=((n-1-i:Nat):Int):=();have G:=st.2;rw[e1]at G;refine wpAny_pyNext_rev_item G p.isList (x:=u) (by simpa using hu) λh' O sb=>?_;have e2:((n-1-i:Nat):Int)-1=(n:Int)-1-((i+1:Nat):Int):=();rw[e2]at O;have I1:Inv X J W H {s with heap:=h'}:=I.turned (t':=s.toks) (λb o hb e=>(sb.2 b hb).trans e) Y Z f3 f4 f5;let{o,e,c,d}:=id O;exact{u,M,sy (s:={s with heap:=h'}) e c d (_) {x,H,I1,ru,{M,λys hy=>by rwa[I.list_inj hy hq]},⟨hi,O⟩,λb hb=>(hf b hb).1}}
 done:=by
  intro X S hw hK hc i J s W H E I hf st U;subst S hw hK;let{Y,Z,f2,f3,f4,f5}:=hf it (by simp);have G:=st.2;have hn:n<=i:=U;have e:(n:Int)-1-(i:Int)= -1:=by have:=st.1;lia
  rw[e]at G;exact wpAny_pyNext_rev_end (I.ok.hd hc) G λh' eb=>{M,I.turned (t':=s.toks) (λb o hb e=>eb b o hb e) Y Z f3 f4 f5}
 self:=λ_ _ _ _ _ st h=>wpAny_pyIter_revIter st.2 h
def iRev(K:J4)(ta:TA):TI:=λW H R=>ta W H λvs H1=>∃a xs,vs=[.ref a]/\JC K H1 a xs/\R (Itv K a xs.length) H1
def G4{a:Expr}{ta:TA}{p:Pos}(O:Gl X "reversed")(S:X.mg "reversed"=none)(ha:PA X [a] ta)(hs:starEach [a] X.env=[(false,eval a X.env)]:=by rfl):PI X tg (.Call (.Name "reversed" p) [a] [] pos) (iRev X.K ta):=by
 intro J s W H R I h;refine Call_<|pk I O S Boot.«reversed» (PyProof.Rows.callWith_type1 (JD (ha pos J s W H _ I h) λus s1 G=>?_) hs M);let{vs,H1,z,r1,U}:=G;let{b,xs,e,hq,q}:=U;subst e;cases r1 with
 |cons r Y=>
  cases Y;cases r;let{its,Z,p,hz}:=z.list hq;have hl:=Z.length;refine call_reversed_list p.isList ?_;refine wpAny_pyIter_revIter (l:=b) (i:=(its.toArray.size:Int)-1) {_,Xu _ M,M,M} ?_;refine{s1.heap.objs.size,[s1.heap.objs.size],_,_,H1,M,z.kept (t':=s1.toks) λb o e=>Xk _ e,B9 b _ xs.length,{Ql _,?_},λb hb=>?_,q}
  .have e:(xs.length:Int)-1-((0:Nat):Int)=(its.toArray.size:Int)-1:=by simp;lia
   rw[e];exact{_,Xu _ M,M,M}
  .have e:b=s1.heap.objs.size:=by simpa using hb
   subst e;exact z.fpOk (Q4 _)<|z.hok.fresh (Q4 _)
def FG(Pv:MD)(O:Pv 0 W H)(hl:∀i W H,i<=xs.length->Pv i W H->JC K H a xs)
  (hs:∀i x W H,xs.reverse[i]?=some x->Pv i W H->g x W H λG H2=>tb {Pv<|i+1,rt,nx,Pv<|i+1} G H2) (hd:∀W H,Pv xs.length W H->nx W H):
  ∃J3:Nat->Nat->St->Hp->Prop,(∃m,J3 0 m W H)/\∀i m W H,J3 i m W H->
   ((Itv K a xs.length).stop i H/\nx W H)\/((Itv K a xs.length).go i H/\∃N:St->Hp->Prop,(∀I H',N I H'->∃m',m'<m/\J3 (i+1) m' I H')/\∀x H',(Itv K a xs.length).yld i H x H'->g x W H' λG H2=>tb ⟨N,rt,nx,N⟩ G H2):=by
 refine{λi m W H=>m=xs.length-i/\i<=xs.length/\Pv i W H,{xs.length,by simp,Ql _,O},?_};rintro i m W H ⟨rfl,hi,p⟩;have q:=hl i W H hi p;by_cases lt:i<xs.length
 .refine .inr {{lt,xs,xs[xs.length-1-i]'(),q,Q5 _},Pv<|i+1,λI H' z=>{xs.length-(i+1),(),M,lt,z},λx H' y=>?_};let{e,y}:=y;subst e;exact hs i x W _ (by rw[List.getElem?_reverse lt];exact y xs q) p
 .have e:i=xs.length:=();subst e;exact .inl {Q4 _,hd W H p}
def HK:bootBuiltins "all"=some (.builtin "all"):=by decide+kernel
def xh:fu X (.type "int") (λxs H Q=>∃b,xs=[.bl b]/\Q (.int<|if b then 1 else 0) H):=by
 intro J s W H xs us Q I r h;let{b,rfl,q}:=h;let{u,rfl,z}:=mN r;cases z;exact call_int_bool {.int _,H,I.tok _,{_,M},q}
def DR{bs:List Bool}:∀{us:Lz},J8 (bs.map V.bl) us->LSm.BoolsAre us bs:=by
 induction bs with
 |nil=>intro us r;rw[X4]at r;cases r;exact .nil
 |cons b bs z=>
  intro us r;rw[Qm]at r;cases r with
  |cons r1 G=>
   cases r1;exact .cons b<|z G
def Bq(hc:X.calm=true):fu X (.builtin "all") (λxs H Q=>∃(p:G')(bs:List Bool),xs=[.ref p]/\JC X.K H p (bs.map V.bl)/\Q (.bl<|bs.all id) H):=by
 intro J s W H xs us Q I r h;let{p,bs,rfl,hq,q}:=h;let{u,rfl,O}:=mN r;cases O;let{its,S,pl,hz}:=I.list hq;have hb:=DR S;have hl:=pl.isList;have z:p<s.heap.objs.size:=by let{_,e,_}:=hl;exact Xs e
 refine call_all_walk<|wpAny_pyIter_list hl ?_;refine{s.heap.objs.size,[s.heap.objs.size,p],[s.heap.objs.size],its.toArray.size,_,_,λi=>(bs[i]?).getD true,M,Walks.list (A:=X.A.in1) (I.ok.hd hc) _ p (Qn z) its.toArray,
  {{_,Xu _ M,M,M},hl.push _},λi v s' Q' Y U G=>?_,λh' tk hk=>?_}
 .let{b,e,rfl}:=hb.get i v (by simpa using U);simp only[e,Xb]at G;exact XH G
 .have e:((List.range its.toArray.size).all λi=>(bs[i]?).getD true)=bs.all id:=by
   rw[Qa,hb.length];exact LSm.range_all bs
  rw[e];exact{.bl _,H,I.kept (t':=tk)<|LSm.kept_iter hk,M,q}
def tV:fu X (.type "int") (λxs H Q=>∃z n,xs=[.str z]/\PySem.intText? z=some n/\z.length<=640/\Q (.int n) H):=by
 intro J s W H xs us Q I r h;let{z,n,rfl,G,hl,q}:=h;let{u,rfl,t,rfl}:=mN r;exact PySem.W.KIN.call_text G hl {.int _,H,I.tok _,{_,M},q}
inductive rSlS(x:V)(lo hi:Option Int)(H:Hp)(Q:VK):Prop
 |mk(z:_)(_:x= .str z)(_:z.length<=sizeLine)(_:Q (.str<|Txt.slice z lo hi) H)
def GS:SlR X rSlS:=by
 intro J s W H x v U Y lo hi Z Q I S hs pl G h;let{z,rfl,hz,q}:=h;let{t,rfl}:=S;refine{ub,_,PyProof.Rows.slot_str_getitem.lookup,typeIs_str _ _ _,?_};have fin:∀t' k,EP X J W Q (.str (Txt.slice z lo hi) t') {s with toks:=k}:=λt' k=>{.str _,H,I.kept (t':=k)<|λb o e=>e,{_,M},q};cases pl with
 |none=>
  cases G with
  |none=>exact wpAny_getItem_str_slice (l:=none) (u:=none) (st:=none) hs M<|post_val_or_str {Qr (Txt.slice_le z _ _) hz,λt' k=>fin t' k}
  |int j u=>exact wpAny_getItem_str_slice (l:=none) (u:=some (j,u)) (st:=none) hs M<|post_val_or_str {Qr (Txt.slice_le z _ _) hz,λt' k=>fin t' k}
 |int i O=>
  cases G with
  |none=>exact wpAny_getItem_str_slice (l:=some (i,O)) (u:=none) (st:=none) hs M<|post_val_or_str {Qr (Txt.slice_le z _ _) hz,λt' k=>fin t' k}
  |int j u=>exact wpAny_getItem_str_slice (l:=some (i,O)) (u:=some (j,u)) (st:=none) hs M<|post_val_or_str {Qr (Txt.slice_le z _ _) hz,λt' k=>fin t' k}
def Ld(z:Str):It:={λi _=>i<z.cps.size,λi H x H'=>H'=H/\∃c,z.cps[i]?=some c/\x= .str {#[c]},λi _=>z.cps.size<=i}
def xP(it:G')(z:Str)(t:Tok):vJ P w K tg (Ld z) [it] it (λi h=>h.IsStrIter it "str_ascii_iterator" z t i) where
 mem:=by simp
 obj:=λi h st b hb=>by
  have e:b=it:=by simpa using hb
  subst e;let{o,e,c,d}:=st;exact{o,e,λv z=>by rw[d]at z;cases z}
 keep:=λi h h' st k=>by
  let{o,e,r}:=st;exact{o,k it (by simp) _ e,r}
 item:=by
  intro X S hw hK hc i J s W H E I hf st G;subst S hw hK;let{U,Y,f2,Z,f4,f5}:=hf it (by simp);have G:i<z.cps.size:=G;refine wpAny_pyNext_ascii_item st (c:=z.cps[i]) (by simp[G]) λh' O a0=>?_;have I1:Inv X J W H {s with heap:=h',toks:=s.toks+1}:=I.turned (λb o hb e=>a0.extBut b o hb e) U Y Z f4 f5;let{o,e,c,d}:=id O;exact{_,M,sy (s:={s with heap:=h',toks:=s.toks+1}) e c d (_) {.str {#[z.cps[i]]},H,I1,{_,M},{M,_,by simp[G],M},O,λb hb=>(hf b hb).1}}
 done:=by
  intro X S hw hK hc i J s W H E I hf st G;subst S hw hK;let{U,Y,f2,Z,f4,f5}:=hf it (by simp);have G:z.cps.size<=i:=G;exact wpAny_pyNext_ascii_end (I.ok.hd hc) st (by simp[G]) λh' eb=>{M,I.turned (t':=s.toks) (λb o hb e=>eb b o hb e) U Y Z f4 f5}
 self:=λ_ _ _ _ _ st h=>wpAny_pyIter_striter_ascii st h
def Am(it:G')(z:Str)(t:Tok):vJ P w K tg (Ld z) [it] it (λi h=>h.IsStrIter it "str_iterator" z t i) where
 mem:=by simp
 obj:=λi h st b hb=>by
  have e:b=it:=by simpa using hb
  subst e;let{o,e,c,d}:=st;exact{o,e,λv z=>by rw[d]at z;cases z}
 keep:=λi h h' st k=>by
  let{o,e,r}:=st;exact{o,k it (by simp) _ e,r}
 item:=by
  intro X S hw hK hc i J s W H E I hf st G;subst S hw hK;let{U,Y,f2,Z,f4,f5}:=hf it (by simp);have G:i<z.cps.size:=G;refine wpAny_pyNext_wide_item st (c:=z.cps[i]) (by simp[G]) λh' O a0=>?_;have I1:Inv X J W H {s with heap:=h',toks:=s.toks+1}:=I.turned (λb o hb e=>a0.extBut b o hb e) U Y Z f4 f5;let{o,e,c,d}:=id O;exact{_,M,sy (s:={s with heap:=h',toks:=s.toks+1}) e c d (_) {.str {#[z.cps[i]]},H,I1,{_,M},{M,_,by simp[G],M},O,λb hb=>(hf b hb).1}}
 done:=by
  intro X S hw hK hc i J s W H E I hf st G;subst S hw hK;let{U,Y,f2,Z,f4,f5}:=hf it (by simp);have G:z.cps.size<=i:=G;exact wpAny_pyNext_wide_end (I.ok.hd hc) st (by simp[G]) λh' eb=>{M,I.turned (t':=s.toks) (λb o hb e=>eb b o hb e) U Y Z f4 f5}
 self:=λ_ _ _ _ _ st h=>wpAny_pyIter_striter_wide st h
def iStr(te:TE):TI:=λW H R=>te W H λx H1=>∃z,x= .str z/\R (Ld z) H1
def G3(hl:PE X l te):PI X tg l (iStr te):=by
 intro J s W H R I h;refine JD (hl J s W H _ I h) λv s1 O=>?_;let{x,H1,G,r1,S}:=O;let{z,e,q}:=S;subst e;let{t,rfl}:=r1;cases ha:z.cps.all (· <128)
 .refine wpAny_pyIter_wide ha {s1.heap.objs.size,[s1.heap.objs.size],_,_,H1,M,G.kept (t':=s1.toks) λb o e=>Xk _ e,Am _ z t,{_,Xu _ M,M,M},λb hb=>?_,q};have e:b=s1.heap.objs.size:=by simpa using hb
  subst e;exact G.fpOk (Q4 _)<|G.hok.fresh (Q4 _)
 .refine wpAny_pyIter_ascii ha {s1.heap.objs.size,[s1.heap.objs.size],_,_,H1,M,G.kept (t':=s1.toks) λb o e=>Xk _ e,xP _ z t,{_,Xu _ M,M,M},λb hb=>?_,q};have e:b=s1.heap.objs.size:=by simpa using hb
  subst e;exact G.fpOk (Q4 _)<|G.hok.fresh (Q4 _)
inductive EW(x:V)(vs:L')(H:Hp)(Q:VK):Prop
 |mk(a d:_)(_:x= .str a)(_:vs=[.str d])(_:Q (.bl<|Txt.startswith a d) H)
def uk:Lc X "str.startswith" EW:=by
 intro J s W H x vs v us Q I z G h;let{a,d,rfl,rfl,q}:=h;let{t,rfl}:=z;let{u,rfl,O}:=G.one;let{t',rfl}:=O;exact SC.startswith {.bl _,H,I,M,q}
def DN{z:Str}(Pv:MF)(I:Pv 0 [] (upd H1 D<|.lst []))
  (hs:∀i c ys H2,z.cps[i]?=some c->Pv i ys H2->H2 D=some (.lst ys)->te (some (.str {#[c]})::W) H2 (KB z.cps.size i ys D Pv))
  (hd:∀ys H2,Pv z.cps.size ys H2->H2 D=some (.lst ys)->Fin H2):
  ∃J3:Nat->Nat->List V->Hp->Prop,(∃m,J3 0 m [] (upd H1 D<|.lst []))/\∀i m ys H2,J3 i m ys H2->H2 D=some (.lst ys)->
   ((Ld z).stop i H2/\Fin H2)\/((Ld z).go i H2/\∀x H3,(Ld z).yld i H2 x H3->te (some x::W) H3 λy H4=>H4 D=some (.lst ys)/\ys.length<sizeLine/\∃m',m'<m/\J3 (i+1) m' (ys++ [y]) (upd H4 D<|.lst<|ys++ [y])):=by
 refine{λi m ys H=>m=z.cps.size-i/\i<=z.cps.size/\Pv i ys H,{z.cps.size,by simp,Ql _,I},?_};rintro i m ys H ⟨rfl,hi,p⟩ G;by_cases lt:i<z.cps.size
 .refine .inr {lt,λx H' y=>?_};let{e,c,O,y}:=y;subst e y;exact hs i c ys _ O p G
 .have e:i=z.cps.size:=();subst e;exact .inl {Q4 _,hd ys H p G}
abbrev sg(z:Str):List Nat:=z.cps.toList
def i6(z:Str):z.length=(sg z).length:=by show z.cps.size=_;simp[sg]
def Co{a b:Str}(h:sg a=sg b):a=b:=by cases a;cases b;congr 1;exact Array.toList_inj.mp h
def qK(z:Str)(c:Nat):Txt.startswith z {#[c]}=decide ((sg z).head?=some c):=by
 have h:=StrLaws.subAt_one z c 0;unfold Txt.startswith
 rw[ZB,Qp,decide_eq_true_eq,h,decide_eq_true_eq,List.head?_eq_getElem?]
def yf(z:Str)(lo hi:Option Int)(is:List Nat)(e:Builtin.Str.strSliceIndices lo hi 1 z.length=is)(h:is.filterMap (z.cps[·]?)=is.filterMap ((sg z)[·]?)):sg (Txt.slice z lo hi)=if is.length=z.length then sg z else is.filterMap ((sg z)[·]?):=by
 unfold Txt.slice;rw[e];by_cases c:is.length=z.length
 .rw[Xm c,Xm (by simp[c])]
 .rwa[Xl c,Xl (by simp[c]),sg]
def wf(z:Str):sg (Txt.slice z (some 1) none)=(sg z).drop 1:=by
 have L:=i6 z;have G:∀is:List Nat,is.filterMap (z.cps[·]?)=is.filterMap ((sg z)[·]?):=λis=>by congr 1;funext i;simp[sg]
 rcases Zk z.length with q|q
 .have I:sg z=[]:=Xd ();have le:=Txt.slice_le z (some 1) none;have:(sg<|Txt.slice z (some 1) none)=[]:=Xd (by rw[<-i6];lia);rw[this,I];rfl
 .have e:Builtin.Str.strSliceIndices (some 1) none 1 z.length=Builtin.Str.strSliceIndices (some ((1:Nat):Int)) (some (z.length:Int)) 1 z.length:=by
   unfold Builtin.Str.strSliceIndices;simp;rw[Xl (show ¬((z.length:Nat):Int)<0 by lia)];congr 1;lia
  rw[yf z _ _ _ (e.trans<|StrLaws.strSliceIndices_plain (a:=1) (b:=z.length) ()<|Q4 _) (G _)];rw[Xl (by simp;lia)];rw[StrLaws.picks (sg z) (z.length-1) 1 ()];exact Qw<|by rw[QA];lia
open PySem.Builtin PySem.Builtin.Str
variable{E Q:Ml}
section
variable{X:Cx}
def Ay(l:List (Str×Tok)):J8 ((l.map (·.1)).map V.str) (strValues l):=by
 induction l with
 |nil=>exact .nil
 |cons a r z=>exact .cons ⟨a.2,M⟩ z
def Ck{prog:Mc}{w:Md}{A:Mj}{s:J'}{x y:Str}{t u:Tok}(hy:(y.length==0)=false)
  (hq:∀(l:List (Str×Tok))(k:Nat),l.map (·.1)=Txt.split x y->Q (.ref s.heap.objs.size) {s with heap:=s.heap.push {cls:= .type gt,data:= .seq (strValues l).toArray},toks:=k})
  (hsz:x.length<=sizeLine) (hsz2:(Txt.split x y).length<=sizeLine):
  wpAny (model prog w) A (call (.builtin "str.split") [.str x t,.str y u]) Q E s:=by
 cases h1:(decide (x.length<y.length)||decide (strKind x<strKind y))
 .cases hf:(occurrences x y 0 x.length<|x.length+1).isEmpty
  .have es:Txt.split x y=partsBetween x (occurrences x y 0 x.length<|x.length+1) y.length:=(Xl<|ne_true_of_eq_false h1).trans (Xl<|ne_true_of_eq_false hf);refine call_meets F.slot_str_split (typeIs_str _ _ _) F.entry_str_split (F.args_str_split_2 _ _) (meets_str_split_sep x y t u h1 hy hf hsz<|es▸hsz2) ?_;show wants Q E _ {s with toks:=_,heap:=s.heap.push {cls:= .type gt,data:= .seq (strsFrom s.toks<|partsBetween x (occurrences x y 0 x.length<|x.length+1) y.length).toArray}};rw[strsFrom_eq];exact hq (numbered s.toks _) _<|(numbered_texts _ _).trans es.symm
  .exact call_meets F.slot_str_split (typeIs_str _ _ _) F.entry_str_split (F.args_str_split_2 _ _) (meets_str_split_not_found x y t u h1 hy hf)
    (hq [(x,t)] s.toks ((Xl<|ne_true_of_eq_false h1).trans<|Xm hf).symm)
 .exact call_meets F.slot_str_split (typeIs_str _ _ _) F.entry_str_split (F.args_str_split_2 _ _) (meets_str_split_cannot_occur x y t u h1)
   (hq [(x,t)] s.toks (Xm h1).symm)
inductive GY(x:V)(vs:L')(H:Hp)(Q:VK):Prop
 |mk(a d:_)(_:x= .str a)(_:vs=[.str d])(_:1<=d.length)(_:a.length<=100000)(_:∀l,H l=none->Q (.ref l) (upd H l<|.lst<|(Txt.split a d).map V.str))
def wA:Lc X "str.split" GY:=by
 intro J s W H x vs v us Q I G O h;let{a,d,rfl,rfl,d1,U,q}:=h;let{t,rfl}:=G;let{u,rfl,S}:=O.one;let{t',rfl}:=S;have big:100001<=sizeLine:=by decide
 have w:=split_weight a d d1;have Y:(Txt.split a d).length<=100001:=();refine Ck (by simp;lia) (λl k hl=>?_) () ();have z:=Ay l;rw[hl]at z;refine{.ref s.heap.objs.size,_,I.laid (t':=k) (o:= .lst<|(Txt.split a d).map V.str) (λb ob q=>Xk _ q) (Q4 _) ?_,M,q _<|I.hok.fresh (Q4 _)};exact{by rw[Q2];lia,_,0,z,Xu _ M}
def ba{e:Expr}{es:Ms}{te:TE}{t:TA}(ha:PE X e te)(z:PA X es t)(hs:starEach (e::es) X.env=(false,eval e X.env)::starEach es X.env):PA X (e::es) (qE te t):=aa ha z hs
end
def jn(c:Nat):List Str->List Nat
 | []=> []
 | [a]=>sg a
 |a::b::r=>sg a++c::jn c (b::r)
theorem uT(c:Nat):∀l:List Str,sg (Str.join {#[c]} l)=jn c l
 | []=>rfl
 | [a]=>rfl
 |a::b::r=>by
  show sg (a++{#[c]}++Str.join {#[c]} (b::r))=sg a++c::jn c (b::r);rw[<-uT c (b::r)];simp[sg,Str.cps_append]
theorem wU{c:Nat}:∀{a b r q:List Nat},c∉a->c∉b->a++c::r=b++c::q->a=b/\r=q
 | [],[],_,_,_,_,e=>by simp at e;exact⟨M,e⟩
 | [],x::b,_,_,_,h2,e=>by
  simp at e;exact Xp (by rw[e.1];exact Q8) h2
 |x::a,[],_,_,h1,_,e=>by
  simp at e;exact Xp (by rw[<-e.1];exact Q8) h1
 |x::a,y::b,r,q,h1,h2,e=>by
  simp only[ZH,List.cons.injEq]at e;let{G,e2}:=wU (λz=>h1<|Q7 _ z) (λz=>h2<|Q7 _ z) e.2;exact{by rw[e.1,G],e2}
theorem Ds{c:Nat}:∀{l m:Mf},l≠[]->m≠[]->(∀a∈l,c∉sg a)->(∀a∈m,c∉sg a)->jn c l=jn c m->l=m
 | [],_,h,_,_,_,_=>Xp M h
 |_::_,[],_,h,_,_,_=>Xp M h
 | [a],[b],_,_,_,_,e=>by rw[Co (show sg a=sg b from e)]
 | [a],b::b'::m,_,_,h1,_,e=>by
  refine Xp ?_<|h1 a Q8;rw[show sg a=sg b++c::jn c (b'::m) from e];simp
 |a::z::l,[b],_,_,_,h2,e=>by
  refine Xp ?_<|h2 b Q8;rw[<-show sg a++c::jn c (z::l)=sg b from e];simp
 |a::z::l,b::b'::m,_,_,h1,h2,e=>by
  let{G,e2}:=wU (h1 a Q8) (h2 b Q8) (show sg a++c::jn c (z::l)=sg b++c::jn c (b'::m) from e);rw[Co G,Ds (by simp) (by simp) (λx hx=>h1 x<|Q7 _ hx) (λx hx=>h2 x<|Q7 _ hx) e2]
def qv(z:Str)(l:Mf):Txt.join z l=Str.join z l:=StrLaws.glued_eq_join z l
def l4{c:Nat}{l:Mf}(G:l≠[])(h:∀a∈l,c∉sg a):Txt.split (Txt.join {#[c]} l) {#[c]}=l:=by
 have e:=StrLaws.join_split (Txt.join {#[c]} l) {#[c]};have f:=StrLaws.split_free (Txt.join {#[c]} l) c;rw[qv]at e f⊢;have e:=XB sg e;rw[uT,uT]at e;refine Ds (λz=>?_) G f h e;unfold Txt.split at z;split at z
 .cases z
 .split at z
  .cases z
  .rw[StrLaws.partsBetween_eq]at z;let{p,r,I}:=StrLaws.partsFrom_ne (Str.join {#[c]} l) ({#[c]}:Str).length 0 (occurrences (Str.join {#[c]} l) {#[c]} 0 (Str.join {#[c]} l).length<|(Str.join {#[c]} l).length+1);rw[I]at z;cases z
end L2
namespace L2
open PySem PySem.Spec PyProof.Rows
end L2
namespace SW
open PySem L2
set_option maxHeartbeats 0
abbrev _root_.Mg:=List (Int×V)
abbrev _root_.Mv:=List (List Int)
variable{C L N a b c dx h p r tb:G'}{F:Mi}{t:JM}{D:KN}{o:HO}{H H' H1:Hp}{fl k m sz way:Int}{ho kv' kvs:Mg}{ls:Mv}{fs:Mo}{A:Mh}{ks l x y:Mb}{es:List Mk1}{pa pa':List Pk}{xs:L'}{bm:Lz}{i j n:Nat}{K:J4}{st:JO}{W:St}{α β:Type}{v:V}{Q:VK}{E:XK}
structure Txt(K:J4)(mg:Mm)(t:JM)(w:Md):Prop where
 fB:mg "WalkError"=some (.ref t.aX)
 cb:mg "NoToken"=some (.ref t.aJ)
 iR:mg "NoText"=some (.ref t.a6)
 kh:mg "NoRow"=some (.ref t.a8)
 AW:mg "NoPart"=some (.ref t.bb)
 nO:mg "OutOfTurn"=some (.ref t.aG)
 sd:mg "NoKey"=some (.ref t.bj)
 wG:mg "Twice"=some (.ref t.bq)
 um:mg "TooOld"=some (.ref t.a5)
 kj:mg "NoMoment"=some (.ref t.aL)
 wH:mg "Token"=some (.ref t.fG)
 mE:mg "BySlots"=some (.ref t.bf)
 ul:mg "Up"=some (.ref t.gv)
 zy:mg "Down"=some (.ref t.iA)
 AY:mg "Copier"=some (.ref t.bV)
 AX:mg "Leaves"=some (.ref t.bP)
 IN:mg "Makes"=some (.ref t.cO)
 Da:mg "Slots"=some (.ref t.br)
 sf:mg "House"=some (.ref t.bi)
 Fk:mg "Desk"=some (.ref t.iB)
 Ev:JN K cC "NoKey.__init__" gZ t.iG t.io
 tY:Binds K t.io [cj,ew] []
 Et:JN K cC "Twice.__init__" gW t.iE t.ig
 En:Binds K t.ig [cj,ew] []
 D5:JN K cC "TooOld.__init__" fV t.gx t.gk
 DT:Binds K t.gk [cj,cs] []
 Bw:JN K cC "NoMoment.__init__" eC t.eK t.eJ
 pC:Binds K t.eJ [cj,cs] []
 HY:mg "mark_of"=some (.ref t.uJ)
 Bu:JN K "mark_of" "mark_of" oQ t.uJ t.pA
 Ib:Binds K t.pA [ew] []
 uo:mg "slot_of"=some (.ref t.uI)
 pD:JN K "slot_of" "slot_of" oP t.uI t.pz
 uH:Binds K t.pz [ew,"size"] []
 He:mg "is_whole"=some (.ref t.sO)
 yV:JN K "is_whole" "is_whole" mj t.sO t.mH
 HM:Binds K t.mH [nj] []
 iU:mg "is_from"=some (.ref t.uK)
 fN:JN K "is_from" "is_from" oR t.uK t.pB
 iW:Binds K t.pB [nj,"low"] []
 iH:JN K cC "Token.__init__" gX t.iF t.ii
 lG:Binds K t.ii [cj,"kind",nD,qs] []
 BS:Kk K cC "BySlots.__init__" e7 t.jO t.cq
 jL:Binds K t.cq [cj,nD,qs] []
 HX:Kk K cC "Up.__init__" mm t.sP t.gj
 sL:Binds K t.gj [cj,nD,qs] []
 kA:iI K t.gj [cj,nD,qs] [.non]
 xn:iI K t.gj [cj,nD,qs] [(.int<|0),.non]
 Gc:Kk K cC "Down.__init__" jj t.ou t.dU
 FZ:Binds K t.dU [cj,nD,qs] []
 iD:iI K t.dU [cj,nD,qs] [(.int<|0)]
 Fw:mg "parts"=some (.ref t.Ab)
 Ag:JN K "parts" "parts" m8 t.Ab t.vx
 FS:Binds K t.vx [kx,pp] []
 vk:mg "bound"=some (.ref t.Ac)
 qA:JN K "bound" "bound" uW t.Ac t.vz
 vG:Binds K t.vz [kx,"j",pp] []
 Ea:Kk K cC "Copier.__init__" fZ t.kI t.dW
 fm:iI K t.dW [cj,"house",kx,"stopped"] [.non]
 xI:Kk K "read_page" "Copier.read_page" cR t.ft t.b5
 kB:iI K t.b5 [cj,pp] [(.int<|10)]
 xq:JN K "close_page" "Copier.close_page" cz t.eX t.cG
 xm:Binds K t.cG [cj] []
 D7:JN K cC "Leaves.__init__" fW t.kF t.gs
 sM:Binds K t.gs [cj] []
 Ez:JN K "add" "Leaves.add" eO t.lP t.iw
 lH:Binds K t.iw [cj,ew] []
 Aj:JN K "discard" "Leaves.discard" dF t.gR t.dR
 zY:Binds K t.dR [cj,ew] []
 Ey:JN K "has" "Leaves.has" g8 t.lO t.iu
 tZ:Binds K t.iu [cj,ew] []
 Ai:JN K "leaf_of" "Leaves.leaf_of" dE t.gQ t.dQ
 gM:Binds K t.dQ [cj,ew] []
 xG:JN K "part_leaf" "Leaves.part_leaf" cP t.fo t.cU
 xE:Binds K t.cU [cj,nD] []
 xp:JN K "join_small" "Leaves.join_small" cy t.eW t.cE
 kz:Binds K t.cE [cj,nD] []
 Ex:JN K cC "Makes.__init__" g7 t.lN t.ir
 Ep:Binds K t.ir [cj] []
 Ew:JN K "note" "Makes.note" g6 t.lM t.iq
 Eo:Binds K t.iq [cj,cs,nz] []
 Ah:JN K "value_at" "Makes.value_at" dD t.gP t.dP
 zX:Binds K t.dP [cj,cs] []
 D6:JN K "sweep" "Makes.sweep" cx t.kE t.gr
 DU:Binds K t.gr [cj,rr] []
 pF:mg "empty_row"=some (.ref t.pK)
 kJ:JN K "empty_row" "empty_row" gH t.pK t.kr
 pJ:Binds K t.kr ["size"] []
 Eu:JN K cC "Slots.__init__" gY t.lL t.im
 tX:Binds K t.im [cj] []
 F7:JN K "put" "Slots.put" je t.oi t.jy
 FV:Binds K t.jy [cj,ew,nz] []
 F9:JN K "get" "Slots.get" jg t.ol t.jA
 FX:Binds K t.jA [cj,ew] []
 F8:JN K "has" "Slots.has" jf t.oj t.jz
 FW:Binds K t.jz [cj,ew] []
 Bv:JN K "cell_of" "Slots.cell_of" eB t.iZ t.eI
 iX:Binds K t.eI [cj,ew] []
 yW:JN K "move_slot" "Slots.move_slot" cY t.gy t.de
 yS:Binds K t.de [cj] []
 yX:JN K "begin_row" "Slots.begin_row" cZ t.gE t.dj
 yT:Binds K t.dj [cj] []
 EA:JN K cC "House.__init__" g9 t.lQ t.ix
 iC:Binds K t.ix [cj] []
 Gb:JN K "put" "House.put" ji t.oq t.jC
 FY:Binds K t.jC [cj,ew,nz] []
 D9:Kk K "diary" "House.diary" fY t.kH t.dS
 qj:iI K t.dS [cj,"low"] [(.int<|0)]
 BR:JN K "let_go" "House.let_go" e6 t.jN t.fk
 BQ:Binds K t.fk [cj,cs] []
 EB:JN K "held" "House.held" hJ t.lR t.iy
 Er:Binds K t.iy [cj] []
 D8:JN K "sweep" "House.sweep" fX t.kG t.gu
 DV:Binds K t.gu [cj] []
 Ga:JN K "was" "House.was" jh t.oo t.jB
 vH:Binds K t.jB [cj,ew,cs] []
 Bx:Kk K "page_at" "House.page_at" eD t.i4 t.cM
 nY:iI K t.cM [cj,cs,kx,pp] [(.int<|10)]
 EC:JN K "done" "House.done" hU t.lT t.iz
 Es:Binds K t.iz [cj,"row",nz] []
 uL:JN K "refuse_outside" "House.refuse_outside" b6 t.dz t.b8
 iY:Binds K t.b8 [cj,cs] []
 xH:JN K "value_then" "House.value_then" cQ t.fq t.cV
 xF:Binds K t.cV [cj,ew,cs] []
 Eg:mg "are_figures"=some (.ref t.lJ)
 t6:JN K "are_figures" "are_figures" eM t.lJ t.ia
 El:Binds K t.ia [so] []
 jr:mg "read_whole"=some (.ref t.nZ)
 fI:JN K "read_whole" "read_whole" i7 t.nZ t.js
 jG:Binds K t.js [so] []
 vj:mg "read_bound"=some (.ref t.oa)
 oA:JN K "read_bound" "read_bound" jc t.oa t.jw
 vF:Binds K t.jw ["word"] []
 Ft:mg "read_token"=some (.ref t.n6)
 vK:JN K "read_token" "read_token" i8 t.n6 t.jt
 FP:Binds K t.jt [so] []
 Fv:mg "read_order"=some (.ref t.n9)
 vM:JN K "read_order" "read_order" ja t.n9 t.jv
 FR:Binds K t.jv ["row"] []
 Ef:mg "read_things"=some (.ref t.lI)
 t5:JN K "read_things" "read_things" gU t.lI t.hZ
 Ek:Binds K t.hZ ["form","words"] []
 Fu:mg "read_thing"=some (.ref t.n8)
 vL:JN K "read_thing" "read_thing" i9 t.n8 t.ju
 FQ:Binds K t.ju [nj,so] []
 IP:mg "may_be"=some (.ref t.xo)
 D4:JN K "may_be" "may_be" rA t.xo t.sH
 Jg:Binds K t.sH [nj,"number"] []
 Gd:JN K cC "Desk.__init__" jk t.oy t.jD
 vI:Binds K t.jD [cj] []
 GC:JN K "say" "Desk.say" j2 t.pL t.kt
 xk:Binds K t.kt [cj,"row"] []
 gf:mg "_law_cell_at"=some (.ref t.kD)
 dZ:JN K "_law_cell_at" "_law_cell_at" fS t.kD t.gi
 gw:Binds K t.gi [mu,"_law_k"] []
 BN:mg "_law_of_texts"=some (.ref t.jM)
 qk:JN K "_law_of_texts" "_law_of_texts" eZ t.jM t.fj
 BP:Binds K t.fj [ge,ff,fx] []
 Di:mg "_law_of_keys"=some (.ref t.kC)
 sQ:JN K "_law_of_keys" "_law_of_keys" fR t.kC t.gh
 DS:Binds K t.gh [ge,ff,fx] []
 zC:mg "_law_of_moments"=some (.ref t.gO)
 oC:JN K "_law_of_moments" "_law_of_moments" dC t.gO t.dN
 zW:Binds K t.dN [ge,ff,fx,i2] []
 Eh:mg "_law_raised"=some (.ref t.lK)
 t7:JN K "_law_raised" "_law_raised" gV t.lK t.ie
 Em:Binds K t.ie [ge,ff,fx,i2] []
 Fy:mg "_law_field"=some (.ref t.fH)
 vO:JN K "_law_field" "_law_field" jd t.fH t.dO
 FU:Binds K t.dO ["_law_e"] []
 Fx:mg "_law_right"=some (.ref t.oe)
 vN:JN K "_law_right" "_law_right" fw t.oe t.jx
 FT:Binds K t.jx [ge,ff,fx,i2] []
 zB:mg "_law_token_text"=some (.ref t.gN)
 oB:JN K "_law_token_text" "_law_token_text" dB t.gN t.dM
 zV:Binds K t.dM [fx] []
 Jo:mg "law"=some (.ref t.Gz)
 Ji:JN K "law" "law" Cq t.Gz t.zS
 EE:JF K t.aX (([]:Mh).map Value.ref++KG)
 am:JF K t.aJ (([t.aX]:Mh).map Value.ref++KG)
 fO:LA K t.aJ
 dw:PySem.W.findIn K (.ref t.aJ) cC=some (some<|.builtin fz)
 aI:JF K t.a6 (([t.aX]:Mh).map Value.ref++KG)
 kK:LA K t.a6
 yI:PySem.W.findIn K (.ref t.a6) cC=some (some<|.builtin fz)
 aY:JF K t.a8 (([t.aX]:Mh).map Value.ref++KG)
 mK:LA K t.a8
 kR:PySem.W.findIn K (.ref t.a8) cC=some (some<|.builtin fz)
 aW:JF K t.bb (([t.aX]:Mh).map Value.ref++KG)
 kL:LA K t.bb
 Hs:PySem.W.findIn K (.ref t.bb) cC=some (some<|.builtin fz)
 aA:JF K t.aG (([t.aX]:Mh).map Value.ref++KG)
 fv:LA K t.aG
 tS:PySem.W.findIn K (.ref t.aG) cC=some (some<|.builtin fz)
 jo:J6 K t.bj ew
 aR:JF K t.bj (([t.aX]:Mh).map Value.ref++KG)
 BW:LA K t.bj
 Bf:PySem.W.findIn K (.ref t.bj) cC=some (some<|.ref t.iG)
 Bg:PySem.W.isFn K (.ref t.iG)=true
 nM:J6 K t.bq ew
 aV:JF K t.bq (([t.aX]:Mh).map Value.ref++KG)
 vT:LA K t.bq
 HZ:PySem.W.findIn K (.ref t.bq) cC=some (some<|.ref t.iE)
 Ia:PySem.W.isFn K (.ref t.iE)=true
 iP:J6 K t.a5 cs
 aM:JF K t.a5 (([t.aX]:Mh).map Value.ref++KG)
 oE:LA K t.a5
 Hr:PySem.W.findIn K (.ref t.a5) cC=some (some<|.ref t.gx)
 Ht:PySem.W.isFn K (.ref t.gx)=true
 db:J6 K t.aL cs
 aq:JF K t.aL (([t.aX]:Mh).map Value.ref++KG)
 gG:LA K t.aL
 vo:PySem.W.findIn K (.ref t.aL) cC=some (some<|.ref t.eK)
 vp:PySem.W.isFn K (.ref t.eK)=true
 BL:J6 K t.bf "kind"
 tP:J6 K t.bf nD
 rY:J6 K t.bf qs
 yP:L3 K t.bf
 r6:Mk K t.bf t.jO
 GF:LA K t.bf
 yH:PySem.W.kitOne K (.ref t.bf) (.ref t.bf)=some true
 Ej:PySem.W.kitOne K (.ref t.bf) (.ref t.gv)=some false
 Hd:J6 K t.gv "kind"
 C3:J6 K t.gv nD
 AO:J6 K t.gv qs
 Je:L3 K t.gv
 wE:Mk K t.gv t.sP
 Jn:LA K t.gv
 Ei:PySem.W.kitOne K (.ref t.gv) (.ref t.bf)=some false
 IR:PySem.W.kitOne K (.ref t.gv) (.ref t.gv)=some true
 Ff:J6 K t.iA "kind"
 yy:J6 K t.iA nD
 wz:J6 K t.iA qs
 FN:L3 K t.iA
 zx:Mk K t.iA t.ou
 Jj:LA K t.iA
 BO:PySem.W.kitOne K (.ref t.iA) (.ref t.bf)=some false
 Hj:PySem.W.kitOne K (.ref t.iA) (.ref t.gv)=some false
 BJ:J6 K t.bV "house"
 BK:J6 K t.bV "first"
 C6:J6 K t.bV "rest"
 yz:J6 K t.bV "followed"
 AQ:J6 K t.bV "copied"
 kf:J6 K t.bV "page"
 cN:L3 K t.bV
 AV:Mk K t.bV t.kI
 xD:dq K t.bV "read_page" t.ft
 wL:dq K t.bV "close_page" t.eX
 aB:J6 K t.bP ri
 aP:L3 K t.bP
 AU:Mk K t.bP t.kF
 lD:dq K t.bP "add" t.lP
 zA:dq K t.bP "discard" t.gR
 tQ:dq K t.bP "has" t.lO
 gK:dq K t.bP "leaf_of" t.gQ
 xB:dq K t.bP "part_leaf" t.fo
 km:dq K t.bP "join_small" t.eW
 cr:J6 K t.cO "made"
 dX:L3 K t.cO
 IM:Mk K t.cO t.lN
 Ec:dq K t.cO "note" t.lM
 zz:dq K t.cO "value_at" t.gP
 De:dq K t.cO "sweep" t.kE
 be:J6 K t.br "table"
 bU:J6 K t.br "shifted"
 bS:J6 K t.br "kept"
 aQ:L3 K t.br
 C9:Mk K t.br t.lL
 Fn:dq K t.br "put" t.oi
 Fp:dq K t.br "get" t.ol
 Fo:dq K t.br "has" t.oj
 iS:dq K t.br "cell_of" t.iZ
 yB:dq K t.br "move_slot" t.gy
 yC:dq K t.br "begin_row" t.gE
 dJ:J6 K t.bi "now"
 dL:J6 K t.bi rr
 ke:J6 K t.bi "slots"
 qh:J6 K t.bi ri
 iQ:J6 K t.bi "written"
 C4:J6 K t.bi "marks"
 eP:J6 K t.bi "past"
 b7:J6 K t.bi "holders"
 aK:L3 K t.bi
 rZ:Mk K t.bi t.lQ
 Fq:dq K t.bi "put" t.oq
 Dg:dq K t.bi "diary" t.kH
 BM:dq K t.bi "let_go" t.jN
 Ed:dq K t.bi "held" t.lR
 Df:dq K t.bi "sweep" t.kG
 vg:dq K t.bi "was" t.oo
 AZ:dq K t.bi "page_at" t.i4
 Ee:dq K t.bi "done" t.lT
 iT:dq K t.bi "refuse_outside" t.dz
 xC:dq K t.bi "value_then" t.fq
 Eb:J6 K t.iB "house"
 C5:J6 K t.iB "copier"
 vA:L3 K t.iB
 Fj:Mk K t.iB t.oy
 wK:dq K t.iB "say" t.pL
 lC:Ae K t.fG cC (.ref t.iF)
 dI:Ae K t.aX cC (.builtin fz)
 qJ:PySem.W.subIn K (.ref t.bj) (.ref t.bj)=some true
 zi:PySem.W.subIn K (.ref t.bj) (.ref t.aL)=some false
 BI:PySem.W.subIn K (.ref t.bj) (.ref t.bb)=some false
 Cj:PySem.W.subIn K (.ref t.bj) (.ref t.a8)=some false
 BH:PySem.W.subIn K (.ref t.bj) (.ref t.a6)=some false
 Ax:PySem.W.subIn K (.ref t.bj) (.ref t.aJ)=some false
 x9:PySem.W.subIn K (.ref t.bj) (.ref t.aG)=some false
 BG:PySem.W.subIn K (.ref t.bj) (.ref t.a5)=some false
 Ci:PySem.W.subIn K (.ref t.bj) (.ref t.bq)=some false
 x5:PySem.W.subIn K (.ref t.bj) (.ref t.aX)=some true
 mU:PySem.W.subIn K (.ref t.aL) (.ref t.bj)=some false
 jV:PySem.W.subIn K (.ref t.aL) (.ref t.aL)=some true
 x4:PySem.W.subIn K (.ref t.aL) (.ref t.bb)=some false
 zh:PySem.W.subIn K (.ref t.aL) (.ref t.a8)=some false
 xZ:PySem.W.subIn K (.ref t.aL) (.ref t.a6)=some false
 xA:PySem.W.subIn K (.ref t.aL) (.ref t.aJ)=some false
 vQ:PySem.W.subIn K (.ref t.aL) (.ref t.aG)=some false
 lZ:PySem.W.subIn K (.ref t.aL) (.ref t.a5)=some false
 mT:PySem.W.subIn K (.ref t.aL) (.ref t.bq)=some false
 vP:PySem.W.subIn K (.ref t.aL) (.ref t.aX)=some true
 pS:PySem.W.subIn K (.ref t.bb) (.ref t.bj)=some false
 lY:PySem.W.subIn K (.ref t.bb) (.ref t.aL)=some false
 Aw:PySem.W.subIn K (.ref t.bb) (.ref t.bb)=some true
 BF:PySem.W.subIn K (.ref t.bb) (.ref t.a8)=some false
 Av:PySem.W.subIn K (.ref t.bb) (.ref t.a6)=some false
 zg:PySem.W.subIn K (.ref t.bb) (.ref t.aJ)=some false
 xz:PySem.W.subIn K (.ref t.bb) (.ref t.aG)=some false
 oK:PySem.W.subIn K (.ref t.bb) (.ref t.a5)=some false
 pR:PySem.W.subIn K (.ref t.bb) (.ref t.bq)=some false
 xy:PySem.W.subIn K (.ref t.bb) (.ref t.aX)=some true
 qI:PySem.W.subIn K (.ref t.a8) (.ref t.bj)=some false
 mS:PySem.W.subIn K (.ref t.a8) (.ref t.aL)=some false
 BE:PySem.W.subIn K (.ref t.a8) (.ref t.bb)=some false
 Cg:PySem.W.subIn K (.ref t.a8) (.ref t.a8)=some true
 BD:PySem.W.subIn K (.ref t.a8) (.ref t.a6)=some false
 Au:PySem.W.subIn K (.ref t.a8) (.ref t.aJ)=some false
 xY:PySem.W.subIn K (.ref t.a8) (.ref t.aG)=some false
 pQ:PySem.W.subIn K (.ref t.a8) (.ref t.a5)=some false
 qH:PySem.W.subIn K (.ref t.a8) (.ref t.bq)=some false
 xX:PySem.W.subIn K (.ref t.a8) (.ref t.aX)=some true
 pP:PySem.W.subIn K (.ref t.a6) (.ref t.bj)=some false
 lX:PySem.W.subIn K (.ref t.a6) (.ref t.aL)=some false
 At:PySem.W.subIn K (.ref t.a6) (.ref t.bb)=some false
 BC:PySem.W.subIn K (.ref t.a6) (.ref t.a8)=some false
 iJ:PySem.W.subIn K (.ref t.a6) (.ref t.a6)=some true
 zf:PySem.W.subIn K (.ref t.a6) (.ref t.aJ)=some false
 xx:PySem.W.subIn K (.ref t.a6) (.ref t.aG)=some false
 oJ:PySem.W.subIn K (.ref t.a6) (.ref t.a5)=some false
 pO:PySem.W.subIn K (.ref t.a6) (.ref t.bq)=some false
 xw:PySem.W.subIn K (.ref t.a6) (.ref t.aX)=some true
 oI:PySem.W.subIn K (.ref t.aJ) (.ref t.bj)=some false
 kU:PySem.W.subIn K (.ref t.aJ) (.ref t.aL)=some false
 ze:PySem.W.subIn K (.ref t.aJ) (.ref t.bb)=some false
 As:PySem.W.subIn K (.ref t.aJ) (.ref t.a8)=some false
 mR:PySem.W.subIn K (.ref t.aJ) (.ref t.a6)=some false
 lW:PySem.W.subIn K (.ref t.aJ) (.ref t.aJ)=some true
 v8:PySem.W.subIn K (.ref t.aJ) (.ref t.aG)=some false
 mQ:PySem.W.subIn K (.ref t.aJ) (.ref t.a5)=some false
 oH:PySem.W.subIn K (.ref t.aJ) (.ref t.bq)=some false
 v7:PySem.W.subIn K (.ref t.aJ) (.ref t.aX)=some true
 lV:PySem.W.subIn K (.ref t.aG) (.ref t.bj)=some false
 jP:PySem.W.subIn K (.ref t.aG) (.ref t.aL)=some false
 xv:PySem.W.subIn K (.ref t.aG) (.ref t.bb)=some false
 xW:PySem.W.subIn K (.ref t.aG) (.ref t.a8)=some false
 xu:PySem.W.subIn K (.ref t.aG) (.ref t.a6)=some false
 v6:PySem.W.subIn K (.ref t.aG) (.ref t.aJ)=some false
 uP:PySem.W.subIn K (.ref t.aG) (.ref t.aG)=some true
 kT:PySem.W.subIn K (.ref t.aG) (.ref t.a5)=some false
 lU:PySem.W.subIn K (.ref t.aG) (.ref t.bq)=some false
 uO:PySem.W.subIn K (.ref t.aG) (.ref t.aX)=some true
 pN:PySem.W.subIn K (.ref t.a5) (.ref t.bj)=some false
 xV:PySem.W.subIn K (.ref t.a5) (.ref t.aL)=some false
 Ar:PySem.W.subIn K (.ref t.a5) (.ref t.bb)=some false
 BB:PySem.W.subIn K (.ref t.a5) (.ref t.a8)=some false
 Aq:PySem.W.subIn K (.ref t.a5) (.ref t.a6)=some false
 zd:PySem.W.subIn K (.ref t.a5) (.ref t.aJ)=some false
 xt:PySem.W.subIn K (.ref t.a5) (.ref t.aG)=some false
 oG:PySem.W.subIn K (.ref t.a5) (.ref t.a5)=some true
 pM:PySem.W.subIn K (.ref t.a5) (.ref t.bq)=some false
 xr:PySem.W.subIn K (.ref t.a5) (.ref t.aX)=some true
 qG:PySem.W.subIn K (.ref t.bq) (.ref t.bj)=some false
 zc:PySem.W.subIn K (.ref t.bq) (.ref t.aL)=some false
 BA:PySem.W.subIn K (.ref t.bq) (.ref t.bb)=some false
 Cf:PySem.W.subIn K (.ref t.bq) (.ref t.a8)=some false
 Bz:PySem.W.subIn K (.ref t.bq) (.ref t.a6)=some false
 Ap:PySem.W.subIn K (.ref t.bq) (.ref t.aJ)=some false
 xU:PySem.W.subIn K (.ref t.bq) (.ref t.aG)=some false
 By:PySem.W.subIn K (.ref t.bq) (.ref t.a5)=some false
 qF:PySem.W.subIn K (.ref t.bq) (.ref t.bq)=some true
 xT:PySem.W.subIn K (.ref t.bq) (.ref t.aX)=some true
 g_PLACES:∃tk,mg "PLACES"=some (.int 65536 tk)
 g_MOST_IN_LEAF:∃tk,mg "MOST_IN_LEAF"=some (.int 8 tk)
 g_LEAST_IN_TWO:∃tk,mg "LEAST_IN_TWO"=some (.int 5 tk)
 g_LEAST_SIZE:∃tk,mg "LEAST_SIZE"=some (.int 4 tk)
 g_GREATEST_SIZE:∃tk,mg "GREATEST_SIZE"=some (.int 256 tk)
 g_FIGURES:∃tk,mg "FIGURES"=some (.str tt tk)
 g_MOST_FIGURES:∃tk,mg "MOST_FIGURES"=some (.int 60 tk)
 g_WORDS_OF_TOKEN:∃tk,mg "WORDS_OF_TOKEN"=some (.int 3 tk)
 g_MOST_KEYS:∃tk,mg "MOST_KEYS"=some (.int 100 tk)
 ED:mg ib=none
 Jm:mg "all"=none
 GE:mg "bool"=none
 Jk:mg "dict"=none
 BU:mg "int"=none
 aO:mg oh=none
 cu:mg "len"=none
 Jl:mg "max"=none
 Ie:mg "min"=none
 mJ:mg "range"=none
 GD:mg "reversed"=none
 Ic:mg "sorted"=none
 qB:mg ub=none
 Db:mg "FORMS"=some (.ref t.FA)
 Dr:KD w K t.FA t.vc
 kt_FORMS_get:∃a,Li t.vc ("get":Str)=some (.ref a)/\∀H:Hp,Kg K H a [.str "KEY"]
 kt_FORMS_put:∃a,Li t.vc ("put":Str)=some (.ref a)/\∀H:Hp,Kg K H a [.str "KEY",.str "VALUE"]
def rg:ao [cj,ew] [cj,ew] (ah gZ):=JQ
def rb:ao [cj,ew] [cj,ew] (ah gW):=JQ
def p7:ao [cj,cs] [cj,cs] (ah fV):=JQ
def m7:ao [cj,cs] [cj,cs] (ah eC):=JQ
def yi:ao [ew] [ew] (ah oQ):=JQ
def yg:ao [ew,"size"] [ew,"size"] (ah oP):=JQ
def wj:ao [nj] [nj] (ah mj):=JQ
def yj:ao [nj,"low"] [nj,"low"] (ah oR):=JQ
def rc:ao [cj,"kind",nD,qs] [cj,"kind",nD,qs] (ah gX):=JQ
def K5:ao [cj,nD,qs] [cj,nD,qs] (ah e7):=JQ
def Kn:ao [cj,nD,qs] [cj,nD,qs] (ah mm):=JQ
def Kc:ao [cj,nD,qs] [cj,nD,qs] (ah jj):=JQ
def LG:ao [kx,pp] [kx,pp] (ah m8):=JQ
def Cp:ao [kx,"j",pp] [kx,"j",pp] (ah uW):=JQ
def KF:ao [cj,"house",kx,"stopped"] [cj,"house",kx,"stopped"] (ah fZ):=JQ
def JX:ao [cj,pp,"page"] [cj,pp] (ah cR):=JQ
def JU:ao [cj,"page"] [cj] (ah cz):=JQ
def p8:ao [cj] [cj] (ah fW):=JQ
def KM:ao [cj,ew,nD,"leaf"] [cj,ew] (ah eO):=JQ
def Jv:ao [cj,ew,nD] [cj,ew] (ah dF):=JQ
def rl:ao [cj,ew,nD] [cj,ew] (ah g8):=JQ
def mi:ao [cj,ew,"low","high","middle"] [cj,ew] (ah dE):=JQ
def jZ:ao [cj,nD,"leaf","middle"] [cj,nD] (ah cP):=JQ
def jS:ao [cj,nD,"both"] [cj,nD] (ah cy):=JQ
def rj:ao [cj] [cj] (ah g7):=JQ
def rh:ao [cj,cs,nz] [cj,cs,nz] (ah g6):=JQ
def mh:ao [cj,cs,"make"] [cj,cs] (ah dD):=JQ
def Jp:ao [cj,rr,"old","stay","thrown"] [cj,rr] (ah cx):=JQ
def uV:ao ["size"] ["size"] (ah gH):=JQ
def rf:ao [cj] [cj] (ah gY):=JQ
def tz:ao [cj,ew,nz,"cell"] [cj,ew,nz] (ah je):=JQ
def KS:ao [cj,ew,"cell"] [cj,ew] (ah jg):=JQ
def tD:ao [cj,ew] [cj,ew] (ah jf):=JQ
def m5:ao [cj,ew,"old","slot","new"] [cj,ew] (ah eB):=JQ
def kY:ao [cj,"old","new",ew,nz] [cj] (ah cY):=JQ
def kZ:ao [cj,"size"] [cj] (ah cZ):=JQ
def rm:ao [cj] [cj] (ah g9):=JQ
def Ka:ao [cj,ew,nz] [cj,ew,nz] (ah ji):=JQ
def KA:ao [cj,"low"] [cj,"low"] (ah fY):=JQ
def K4:ao [cj,cs] [cj,cs] (ah e6):=JQ
def rq:ao [cj] [cj] (ah hJ):=JQ
def KI:ao [cj,"thrown","of_key"] [cj] (ah fX):=JQ
def KW:ao [cj,ew,cs] [cj,ew,cs] (ah jh):=JQ
def K0:ao [cj,cs,kx,pp,"then",ew,"page"] [cj,cs,kx,pp] (ah eD):=JQ
def rs:ao [cj,"row",nz,ew] [cj,"row",nz] (ah hU):=JQ
def JR:ao [cj,cs] [cj,cs] (ah b6):=JQ
def j1:ao [cj,ew,cs] [cj,ew,cs] (ah cQ):=JQ
def q9:ao [so] [so] (ah eM):=JQ
def KU:ao [so,"below","figures"] [so] (ah i7):=JQ
def KZ:ao ["word"] ["word"] (ah jc):=JQ
def Kb:ao [so,"words",nD,qs] [so] (ah i8):=JQ
def Kd:ao ["row","words","first","given"] ["row"] (ah ja):=JQ
def Jz:ao ["form","words","given",nD,nj,"width"] ["form","words"] (ah gU):=JQ
def Ke:ao [nj,so,"number"] [nj,so] (ah i9):=JQ
def AD:ao [nj,"number"] [nj,"number"] (ah rA):=JQ
def tE:ao [cj] [cj] (ah jk):=JQ
def Ki:ao [cj,"row","order","first","answer"] [cj,"row"] (ah j2):=JQ
def p6:ao [mu,"_law_k"] [mu,"_law_k"] (ah fS):=JQ
def K7:ao [ge,ff,fx] [ge,ff,fx] (ah eZ):=JQ
def KC:ao [ge,ff,fx,"_law_told"] [ge,ff,fx] (ah fR):=JQ
def Jw:ao [ge,ff,fx,i2,"_law_house","_law_k"] [ge,ff,fx,i2] (ah dC):=JQ
def KO:ao [ge,ff,fx,i2] [ge,ff,fx,i2] (ah gV):=JQ
def KY:ao ["_law_e"] ["_law_e"] (ah jd):=JQ
def JW:ao [ge,ff,fx,i2,"_law_kinds","_law_found","_law_e","_law_due"] [ge,ff,fx,i2] (ah fw):=JQ
def Jx:ao [fx,"_law_e"] [fx] (ah dB):=JQ
def GV:ao [mu,fx,i2,ge] [mu] (ah Cq):=JQ
def Sc:V->Prop
 | .non=>True| .bl _=>True| .int _=>True| .str _=>True|_=>False
def yh:Sc .non:=Xx
def Iy{b:Bool}:Sc (.bl b):=Xx
def T0(z:Int):Sc (.int z):=Xx
noncomputable def isW:V->Bool
 | .int _=>true|_=>false
def Fr(F F':Mi)(H H':Hp):Prop:=∀b o,¬F b->H b=some o->H' b=some o/\¬F' b
def Fr.refl:Fr F F H H:=λ_ _ n e=>⟨e,n⟩
def Fr.trans{F' z:Mi}{H'':Hp}(x:Fr F F' H H')(y:Fr F' z H' H''):Fr F z H H'':=λb o n e=>y b o (x b o n e).2 (x b o n e).1
def Fr.of_same(s:JA H H'):Fr F F H H':=λb o n e=>{s b o e,n}
noncomputable def aZ(kv:Mg):List (Key×V):=kv.map λp=>(Sum.inl p.1,p.2)
def JK{kv:Mg}:a9 (aZ kv) (Sum.inl k:Key)=a9 kv k:=by
 induction kv with
 |nil=>rfl
 |cons p r G=>
  show a9 ((Sum.inl p.1,p.2)::aZ r) (Sum.inl k:Key)=_;by_cases e:p.1=k
  .rw[bM e,bM (by show(Sum.inl p.1:Key)=_;rw[e])]
  .rw[bN e,bN (by show ¬(Sum.inl p.1:Key)=_;exact λz=>e<|Sum.inl.inj z),G]
def A8{kv:Mg}:((aZ kv).any λx=>decide (x.1=(Sum.inl k:Key)))=kv.any λx=>decide (x.1=k):=by
 rw[cw,cw,JK]
def iV{kv:Mg}:bF (aZ kv) (Sum.inl k:Key) v=aZ (bF kv k v):=by
 unfold bF;rw[A8];by_cases c:(kv.any λx=>decide (x.1=k))=true
 .rw[Xm c,Xm c];unfold aZ;rw[QL,QL];refine Zh λp _=>?_;show(if(Sum.inl p.1:Key)=Sum.inl k then _ else _)=_;by_cases e:p.1=k
  .rw[Xm (by rw[e])];simp[e]
  .rw[Xl λz=>e (Sum.inl.inj z)];simp[e]
 .rw[Xl c,Xl c];unfold aZ;rw[Qi];rfl
def yG{kv:Mg}:jK (aZ kv) (Sum.inl k:Key)=aZ (jK kv k):=by
 unfold jK aZ;rw[List.filter_map];congr 1;refine List.filter_congr λp _=>?_;show decide ((Sum.inl p.1:Key)≠Sum.inl k)=_;by_cases e:p.1=k
 .rw[e];simp
 .have:¬(Sum.inl p.1:Key)=Sum.inl k:=λz=>e (Sum.inl.inj z);simp[e,this]
def eG{kv:Mg}:(aZ kv).length=kv.length:=Q2 _
theorem j4{f:Str}{v:V}:∀fs:List (Str×V),(bT f v fs).length<=fs.length+1
 | []=>Q4 _
 |(g,x)::r=>by
  rw[bT];split
  .rw[Q9,Q9];lia
  .have:=j4 (f:=f) (v:=v) r;rw[Q9,Q9];lia
section
variable{κ:Type}[DecidableEq κ]{kv:List (κ×V)}{k j:κ}
theorem mem_keys:∀{kv:List (κ×V)},k∈kv.map (·.1)↔(a9 kv k).isSome=true
 | []=>by simp[mO]
 |p::r=>by
  by_cases e:p.1=k
  .rw[bM e];simp[e]
  .rw[bN e,<-mem_keys];simp[Ne.symm e]
def sj:(bF kv k v).map (·.1)=if(a9 kv k).isSome=true then kv.map (·.1)else kv.map (·.1)++ [k]:=by
 unfold bF;rw[cw];by_cases c:(a9 kv k).isSome=true
 .rw[Xm c,Xm c,QL];refine Zh λp _=>?_;show(if p.1=k then(p.1,v)else p).1=p.1;split<;>rfl
 .rw[Xl c,Xl c,Qi];rfl
def rX(h:(kv.map (·.1)).Nodup):((bF kv k v).map (·.1)).Nodup:=by
 cases e:a9 kv k with
 |none=>exact Fe v h e
 |some x=>rwa[sj,e]
theorem rV:∀{l S:List κ},l.Nodup->(∀x∈l,x∈S)->l.length<=S.length
 | [],_,_,_=>Ql _
 |x::xs,S,hn,hs=>by
  let{h1,h2}:=Qz.mp hn;have hx:x∈S:=hs x Q8;have:=rV (S:=S.erase x) h2 λy hy=>(List.mem_erase_of_ne λz=>h1<|by rwa[<-z]).mpr (hs y<|Q7 _ hy);rw[List.length_erase_of_mem hx]at this;have:=List.length_pos_of_mem hx;rw[Q9];lia
end
set_option genInjectivity false in
structure JO where
 kv:List (Int×V)
 size:Int
 nxt:Option Int
 mv:Int
noncomputable def JO.new:JO:={[],4,none,0}
noncomputable def JO.one(s:JO):JO:=match s.nxt with
 |none=>s
 |some m=>if s.mv+1=s.size then{s with size:=m,nxt:=none,mv:=0}else{s with mv:=s.mv+1}
noncomputable def JO.three(s:JO):JO:=match s.nxt with
 |some _=>s
 |none=>if s.size<(s.kv.length:Int)/\s.size<256 then{s with nxt:=some (2*s.size),mv:=0}else if 4*(s.kv.length:Int)<s.size/\4<s.size then{s with nxt:=some (s.size/2),mv:=0}else s
def JO.put(s:JO)(k:Int)(v:V):JO:=JO.three {s.one with kv:=bF s.kv k v}
noncomputable def JO.moved(s:JO):Int:=match s.nxt with
 |none=>0
 |some _=>s.mv
set_option genInjectivity false in
structure LX where
 tb:Addr
 r0:Addr
 r1:Addr
 A0:List Addr
 A1:List Addr
 C0:List (List<|Int×V)
 C1:List (List<|Int×V)
 n:Int
noncomputable def Kf(tb:G')(sh n:Int):List (Str×V):=[("table",.ref tb),("shifted",.int sh),("kept",.int n)]
def eQ{k:Str}{r:Mo}:((k,v)::r).lookup k=some v:=by
 have hb:(k==k)=true:=XF.mpr M;simp only[List.lookup,hb]
def bG{k m:Str}{r:Mo}(h:m≠k):((k,v)::r).lookup m=r.lookup m:=by
 have hb:(m==k)=false:=Xy.mpr h;simp only[List.lookup,hb]
section
variable{tb':G'}{sh sh' n n':Int}{m:Str}
def jH:(Kf tb sh n).lookup ("table":Str)=some (.ref tb):=eQ
def wg:(Kf tb sh n).lookup ("shifted":Str)=some (.int sh):=by unfold Kf;rw[bG ∅,eQ]
def pE:(Kf tb sh n).lookup ("kept":Str)=some (.int n):=by unfold Kf;rw[bG ∅,bG ∅,eQ]
def NoM(m:Str):Prop:=m≠("table":Str)/\m≠("shifted":Str)/\m≠("kept":Str)
instance:Decidable (NoM m):=by unfold NoM;infer_instance
def Gn(h:NoM m):(Kf tb sh n).lookup m=none:=by unfold Kf;rw[bG h.1,bG h.2.1,bG h.2.2];rfl
def IJ:bT ("table":Str) (.ref tb') (Kf tb sh n)=Kf tb' sh n:=by unfold Kf;rw[bT,Xm M]
def Gr:bT ("shifted":Str) (.int sh') (Kf tb sh n)=Kf tb sh' n:=by unfold Kf;rw[bT,Xl ∅,bT,Xm M]
def IK:bT ("kept":Str) (.int n') (Kf tb sh n)=Kf tb sh n':=by unfold Kf;rw[bT,Xl ∅,bT,Xl ∅,bT,Xm M]
def qm:(Kf tb sh n).length<1000:=by show 3<1000;decide
end
structure JJ(H:Hp)(r:G')(A:Mh)(C:List (List<|Int×V))(sz:Int):Prop where
 lst:H r=some (.lst<|A.map V.ref)
 la:(A.length:Int)=sz
 lc:(C.length:Int)=sz
 cell:∀(j:Nat)(b:G')(kv:Mg),A[j]?=some b->C[j]?=some kv->H b=some (.dK<|aZ kv)
 ndk:∀(j:Nat)(kv:Mg),C[j]?=some kv->(kv.map (·.1)).Nodup
 inj:∀(i j:Nat)(b:G'),A[i]?=some b->A[j]?=some b->i=j
 home:∀(j:Nat)(kv:Mg),C[j]?=some kv->∀p∈kv,p.1%65536%sz=(j:Int)
def JJ.has{C:List (List<|Int×V)}(h:JJ H r A C sz)(hb:b∈A):∃(j:Nat)(kv:Mg),A[j]?=some b/\C[j]?=some kv/\H b=some (.dK<|aZ kv):=by
 let{j,G,e}:=QC hb;have hc:j<C.length:=by have:=h.la;have:=h.lc;lia
 have z:A[j]?=some b:=by rw[Q5 G,e]
 have e2:C[j]?=some C[j]:=Q5 hc;exact{j,C[j],z,e2,h.cell j b _ z e2}
def JJ.frame{C:List (List<|Int×V)}(h:JJ H r A C sz)(f:∀b,b=r\/b∈A->H' b=H b):JJ H' r A C sz:=
 {by rw[f r (.inl M)];exact h.lst,h.la,h.lc,λj b kv z e2=>by rw[f b (.inr<|Q0 z)];exact h.cell j b kv z e2,h.ndk,h.inj,h.home}
def JJ.notr{C:List (List<|Int×V)}(h:JJ H r A C sz)(hb:b∈A){x:G'}(e:H x=some o)(ne:∀kvs,o≠ .dK kvs):b≠x:=λz=>by
 let{j,kv,_,_,q}:=h.has hb;rw[z,e]at q;cases q;exact ne _ M
def JJ.set{C:List (List<|Int×V)}(h:JJ H r A C sz)(ea:A[j]?=some c)(I:(kv'.map (·.1)).Nodup)(O:∀p∈kv',p.1%65536%sz=(j:Int)):
  JJ (upd H c<|.dK<|aZ kv') r A (C.set j kv') sz:=by
 have hc:r≠c:=(h.notr (Q0 ea) h.lst<|λ_ z=>by cases z).symm;refine{by rw[ae hc];exact h.lst,h.la,by rw[Qs];exact h.lc,λi b kv G e2=>?_,λi kv e=>?_,h.inj,λi kv e=>?_}
 .rw[Qf]at e2;by_cases z:j=i
  .subst z;rw[ea]at G;cases G;rw[Xm M]at e2;split at e2
   .cases e2;exact I0
   .cases e2
  .rw[Xl z]at e2;rw[ae λy=>z (h.inj j i c ea<|by rwa[<-y])];exact h.cell i b kv G e2
 .rw[Qf]at e;by_cases z:j=i
  .rw[Xm z]at e;split at e
   .cases e;exact I
   .cases e
  .rw[Xl z]at e;exact h.ndk i kv e
 .rw[Qf]at e;by_cases z:j=i
  .subst z;rw[Xm M]at e;split at e
   .cases e;exact O
   .cases e
  .rw[Xl z]at e;exact h.home i kv e
def Kj(a:G')(st:JO)(d:LX):Addr->Prop:=λb=>b=a\/b=d.tb\/b=d.r0\/b∈d.A0\/(st.nxt.isSome=true/\b=d.r1)\/b∈d.A1
def IsCell(d:LX)(st:JO)(k:Int)(c:G')(kv:Mg):Prop:=
 (st.moved<=k%65536%st.size/\d.A0[(k%65536%st.size).toNat]?=some c/\d.C0[(k%65536%st.size).toNat]?=some kv)\/
 (∃m,st.nxt=some m/\k%65536%st.size<st.moved/\d.A1[(k%65536%m).toNat]?=some c/\d.C1[(k%65536%m).toNat]?=some kv)
structure JV(st:JO):Prop where
 pw:st.size∈([4,8,16,32,64,128,256]:Mb)
 nx:∀m,st.nxt=some m->m∈([4,8,16,32,64,128,256]:Mb)/\0<=st.mv/\st.mv<st.size/\(m=2*st.size\/2*m=st.size)
def nu{x:Int}(h:x∈([4,8,16,32,64,128,256]:List Int)):x=4\/x=8\/x=16\/x=32\/x=64\/x=128\/x=256:=by simpa using h
def dG{x:Int}(h:x∈([4,8,16,32,64,128,256]:List Int)):4<=x/\x<=256:=by
 rcases nu h with h|h|h|h|h|h|h<;>lia
structure Js(t:JM)(H:Hp)(a:G')(st:JO)(d:LX):Prop where
 obj:∃dx,H a=some (.ins t.br dx<|Kf d.tb st.moved d.n)
 tbl:H d.tb=some (.lst<|match st.nxt with|none=> [.ref d.r0]|some _=> [.ref d.r0,.ref d.r1])
 row0:JJ H d.r0 d.A0 d.C0 st.size
 row1:match st.nxt with|none=>d.A1=[]/\d.C1=[]|some m=>JJ H d.r1 d.A1 d.C1 m
 dis:∀b,b∈d.A0->b∉d.A1
 tr:d.tb≠d.r0
 tr1:st.nxt.isSome=true->d.tb≠d.r1/\d.r0≠d.r1
 old:∀(j:Nat)(kv:Mg),d.C0[j]?=some kv->(j:Int)<st.moved->kv=[]
 new:∀(j:Nat)(kv:Mg),d.C1[j]?=some kv->∀p∈kv,p.1%65536%st.size<st.moved
 val:∀(k:Int)(c:G')(kv:Mg),IsCell d st k c kv->a9 kv k=a9 st.kv k
section
variable{d:LX}
def Js.frame(h:Js t H a st d)(f:∀b,Kj a st d b->H' b=H b):Js t H' a st d:=by
 let{dx,ho}:=h.obj;refine{{dx,by rwa[f a (.inl M)]},by rw[f d.tb (.inr<|.inl M)];exact h.tbl,h.row0.frame λb hb=>f b ?_,?_,h.dis,h.tr,h.tr1,h.old,h.new,h.val}
 .rcases hb with hb|hb
  .exact .inr<|.inr (.inl hb)
  .exact .inr<|.inr (.inr<|.inl hb)
 .have r1:=h.row1;have z:=f;unfold Kj at z;cases e:st.nxt with
  |none=>rw[e]at r1;exact r1
  |some m=>
   rw[e]at r1;refine JJ.frame (H:=H) r1 λb hb=>f b ?_;unfold Kj;rw[e];rcases hb with hb|hb
   .exact .inr<|.inr (.inr<|.inr<|.inl ⟨M,hb⟩)
   .exact .inr<|.inr (.inr<|.inr<|.inr hb)
def Js.dom(h:Js t H a st d)(hb:Kj a st d b):∃o,H b=some o:=by
 let{dx,ho}:=h.obj;rcases hb with rfl|rfl|rfl|hb|⟨hs,rfl⟩|hb
 .exact{_,ho}
 .exact{_,h.tbl}
 .exact{_,h.row0.lst}
 .let{_,_,_,_,q}:=h.row0.has hb;exact{_,q}
 .have r1:=h.row1;cases e:st.nxt with
  |none=>rw[e]at hs;cases hs
  |some m=>rw[e]at r1;exact{_,r1.lst}
 .have r1:=h.row1;cases e:st.nxt with
  |none=>rw[e]at r1;rw[r1.1]at hb;cases hb
  |some m=>rw[e]at r1;let{_,_,_,_,q}:=r1.has hb;exact{_,q}
def Js.at(h:Js t H a st d){kv:Mg}(G:IsCell d st k c kv):H c=some (.dK<|aZ kv)/\Kj a st d c/\(kv.map (·.1)).Nodup:=by
 rcases G with⟨_,z,e2⟩|⟨m,I,_,z,e2⟩
 .exact{h.row0.cell _ _ _ z e2,.inr<|.inr<|.inr<|.inl<|Q0 z,h.row0.ndk _ _ e2}
 .have r1:=h.row1;rw[I]at r1;exact{r1.cell _ _ _ z e2,.inr<|.inr<|.inr<|.inr<|.inr<|Q0 z,r1.ndk _ _ e2}
def pd(z:4<=m):0<=k%65536%m/\k%65536%m<m/\((k%65536%m).toNat:Int)=k%65536%m:=by
 have h1:=Z8 (k%65536) (show m≠0 by lia);have h2:=Zl (k%65536) (show 0<m by lia);exact{h1,h2,Int.toNat_of_nonneg h1}
def cS{l:List α}{z:Int}(G:0<=z)(h1:z<(l.length:Int)):∃x,l[z.toNat]?=some x:={l[z.toNat]'(),Q5 ()}
def Js.cell(h:Js t H a st d)(z:JV st)(k:Int):∃c kv,IsCell d st k c kv:=by
 let{s4,_}:=dG z.pw;let{I,O,m2}:=pd (k:=k) s4;by_cases c:st.moved<=k%65536%st.size
 .let{x,G}:=cS (l:=d.A0) I (by rwa[h.row0.la]);let{y,e2}:=cS (l:=d.C0) I (by rwa[h.row0.lc]);exact{x,y,.inl ⟨c,G,e2⟩}
 .cases e:st.nxt with
  |none=>
   exfalso;have:st.moved=0:=by unfold JO.moved;rw[e]
   lia
  |some m=>
   let{Y,_}:=z.nx m e;let{Z,_}:=dG Y;let{S,U,n2}:=pd (k:=k) Z;have r1:=h.row1;rw[e]at r1;let{x,G}:=cS (l:=d.A1) S (by rwa[r1.la]);let{y,e2}:=cS (l:=d.C1) S (by rwa[r1.lc]);exact{x,y,.inr {m,e,(),G,e2}}
def IsCell.uniq{S:G'}{kv:Mg}(x:IsCell d st k c kv)(y:IsCell d st k S kv'):c=S/\kv=kv':=by
 rcases x with⟨U,O,e2⟩|⟨m,Y,U,O,e2⟩<;>rcases y with⟨Z,z,G⟩|⟨m',I,Z,z,G⟩
 .rw[O]at z;rw[e2]at G;cases z;cases G;exact⟨M,M⟩
 .lia
 .lia
 .rw[Y]at I;cases I;rw[O]at z;rw[e2]at G;cases z;cases G;exact⟨M,M⟩
def Js.setN(h:Js t H a st d){n:Int}:Js t (upd H a<|.ins t.br dx<|Kf d.tb st.moved n) a st {d with n:=n}:=by
 let{I,ho}:=h.obj;have G:d.tb≠a:=cm h.tbl ho (by intro z;cases z);refine{⟨dx,I0⟩,by show upd H a _ d.tb=_;rw[ae G];exact h.tbl,h.row0.frame λb hb=>ae ?_,?_,h.dis,h.tr,h.tr1,h.old,h.new,h.val}
 .rcases hb with rfl|hb
  .exact cm h.row0.lst ho<|by intro z;cases z
  .exact h.row0.notr hb ho<|λ_ z=>by cases z
 .have r1:=h.row1;cases e:st.nxt with
  |none=>rw[e]at r1;exact r1
  |some m=>
   rw[e]at r1;refine JJ.frame (H:=H) r1 λb hb=>ae ?_;rcases hb with rfl|hb
   .exact cm r1.lst ho<|by intro z;cases z
   .exact r1.notr hb ho<|λ_ z=>by cases z
def Js.setCell(h:Js t H a st d)(z:JV st){kv:Mg}(ic:IsCell d st k c kv)(nd:(kv'.map (·.1)).Nodup)(hm:∀p∈kv',p∈kv\/p.1=k)
  (hk:a9 kv' k=a9 kvs k) (ho:∀j,j≠k->a9 kv' j=a9 kv j/\a9 kvs j=a9 st.kv j):
  ∃d',Js t (upd H c<|.dK<|aZ kv') a {st with kv:=kvs} d'/\d'.n=d.n/\∀b,Kj a {st with kv:=kvs} d' b↔Kj a st d b:=by
 let{hc,hf,_}:=h.at ic;let{dx,a1}:=h.obj;let{s4,_}:=dG z.pw;let{m0,m1,m2}:=pd (k:=k) s4;have na:a≠c:=cm a1 hc (by intro z;cases z);have nt:d.tb≠c:=cm h.tbl hc (by intro z;cases z);have nr:d.r0≠c:=cm h.row0.lst hc (by intro z;cases z);have a0:∀(d':LX)(j:Int)(b:G')(x:Mg),IsCell d' {st with kv:=kvs} j b x->(∀y,IsCell d st j b y->(x=y/\b≠c)\/(x=kv'/\y=kv))->(∃y,IsCell d st j b y)->a9 x j=a9 kvs j:=λd' j b x hx f ⟨y,hy⟩=>by
  by_cases e:j=k
  .subst e;let{rfl,rfl}:=IsCell.uniq hy ic;rcases f y hy with⟨_,z⟩|⟨rfl,_⟩
   .exact Xp M z
   .exact hk
  .rw[(ho j e).2];rcases f y hy with⟨rfl,_⟩|⟨rfl,rfl⟩
   .exact h.val j b x hy
   .rw[(ho j e).1];exact h.val j b y hy
 rcases ic with⟨h0,e1,e2⟩|⟨m,em,h0,e1,e2⟩
 .have U:c∈d.A0:=Q0 e1;have Y:∀p∈kv',p.1%65536%st.size=((k%65536%st.size).toNat:Int):=λp hp=>by
   rcases hm p hp with q|q
   .exact h.row0.home _ _ e2 p q
   .rw[q,m2]
  refine⟨{d with C0:=d.C0.set (k%65536%st.size).toNat kv'},{{dx,by rwa[ae na]},by show upd H c _ d.tb=_;rw[ae nt];exact h.tbl,h.row0.set e1 nd Y,?_,h.dis,h.tr,h.tr1,λj x e lt=>?_,h.new,λj b x hx=>?_},M,λb=>Iff.rfl⟩
  .have r1:=h.row1;show match st.nxt with|none=>_|some m=>_
   cases e:st.nxt with
   |none=>rw[e]at r1;exact r1
   |some m=>
    rw[e]at r1;refine JJ.frame (H:=H) r1 λb hb=>ae ?_;rcases hb with rfl|hb
    .exact cm r1.lst hc<|by intro z;cases z
    .exact λy=>h.dis c U (y▸hb)
  .have e:(d.C0.set (k%65536%st.size).toNat kv')[j]?=some x:=e;have lt:(j:Int)<st.moved:=lt;rw[Qf]at e;by_cases q:(k%65536%st.size).toNat=j
   .exfalso;lia
   .rw[Xl q]at e;exact h.old j x e lt
  .refine a0 _ j b x hx (λy hy=>?_) ?_
   .rcases hx with⟨S,G,O⟩|⟨m',I,S,G,O⟩
    .have O:(d.C0.set (k%65536%st.size).toNat kv')[(j%65536%st.size).toNat]?=some x:=O;have G:d.A0[(j%65536%st.size).toNat]?=some b:=G;have S:st.moved<=j%65536%st.size:=S;rcases hy with⟨_,Z,y2⟩|⟨_,_,y0,_,_⟩
     .rw[Qf]at O;by_cases q:(k%65536%st.size).toNat=(j%65536%st.size).toNat
      .rw[Xm q]at O;split at O
       .cases O;rw[<-q,e2]at y2;cases y2;exact .inr ⟨M,M⟩
       .cases O
      .rw[Xl q,y2]at O;cases O;exact .inl {M,λw=>q<|h.row0.inj _ _ c e1 (by rwa[<-w])}
     .lia
    .have G:d.A1[(j%65536%m').toNat]?=some b:=G;have O:d.C1[(j%65536%m').toNat]?=some x:=O;have S:j%65536%st.size<st.moved:=S;have I:st.nxt=some m':=I;rcases hy with⟨y0,_,_⟩|⟨m2,e3,y0,Z,y2⟩
     .lia
     .rw[I]at e3;cases e3;rw[O]at y2;cases y2;exact .inl {M,λw=>h.dis c U<|w▸Q0 G}
   .let{b',y,hy}:=h.cell z j;have:b'=b:=by
     rcases hx with⟨S,G,O⟩|⟨m',I,S,G,O⟩<;>rcases hy with⟨y0,Z,y2⟩|⟨m3,e3,y0,Z,y2⟩
     .have G:d.A0[(j%65536%st.size).toNat]?=some b:=G;rw[Z]at G;exact Xq G
     .have S:st.moved<=j%65536%st.size:=S;lia
     .have S:j%65536%st.size<st.moved:=S;lia
     .have I:st.nxt=some m':=I;rw[I]at e3;cases e3;have G:d.A1[(j%65536%m').toNat]?=some b:=G;rw[Z]at G;exact Xq G
    subst this;exact⟨y,hy⟩
 .have r1:=h.row1;rw[em]at r1;have U:c∈d.A1:=Q0 e1;let{pm,_}:=z.nx m em;let{s5,_}:=dG pm;let{n0,n1,n2}:=pd (k:=k) s5;have Y:∀p∈kv',p.1%65536%m=((k%65536%m).toNat:Int):=λp hp=>by
   rcases hm p hp with q|q
   .exact r1.home _ _ e2 p q
   .rw[q,n2]
  refine⟨{d with C1:=d.C1.set (k%65536%m).toNat kv'},{{dx,by rwa[ae na]},by show upd H c _ d.tb=_;rw[ae nt];exact h.tbl,h.row0.frame λb hb=>ae ?_,?_,h.dis,h.tr,h.tr1,h.old,λj x e p hp=>?_,λj b x hx=>?_},M,λb=>Iff.rfl⟩
  .rcases hb with rfl|hb
   .exact nr
   .exact λy=>h.dis b hb (y▸U)
  .show match st.nxt with|none=>_|some m=>_
   rw[em];exact r1.set e1 nd Y
  .have e:(d.C1.set (k%65536%m).toNat kv')[j]?=some x:=e;show p.1%65536%st.size<st.moved;rw[Qf]at e;by_cases q:(k%65536%m).toNat=j
   .rw[Xm q]at e;split at e
    .cases e;rcases hm p hp with q|q
     .exact h.new _ _ e2 p q
     .rwa[q]
    .cases e
   .rw[Xl q]at e;exact h.new j x e p hp
  .refine a0 _ j b x hx (λy hy=>?_) ?_
   .rcases hx with⟨S,G,O⟩|⟨m',I,S,G,O⟩
    .have G:d.A0[(j%65536%st.size).toNat]?=some b:=G;have O:d.C0[(j%65536%st.size).toNat]?=some x:=O;have S:st.moved<=j%65536%st.size:=S;rcases hy with⟨_,Z,y2⟩|⟨_,_,y0,_,_⟩
     .rw[O]at y2;cases y2;exact .inl {M,λw=>h.dis b (Q0 G)<|w▸U}
     .lia
    .have I:st.nxt=some m':=I;rw[em]at I;cases I;have O:(d.C1.set (k%65536%m).toNat kv')[(j%65536%m).toNat]?=some x:=O;have G:d.A1[(j%65536%m).toNat]?=some b:=G;have S:j%65536%st.size<st.moved:=S;rcases hy with⟨y0,_,_⟩|⟨m2,e3,y0,Z,y2⟩
     .lia
     .rw[em]at e3;cases e3;rw[Qf]at O;by_cases q:(k%65536%m).toNat=(j%65536%m).toNat
      .rw[Xm q]at O;split at O
       .cases O;rw[<-q,e2]at y2;cases y2;exact .inr ⟨M,M⟩
       .cases O
      .rw[Xl q,y2]at O;cases O;exact .inl {M,λw=>q<|r1.inj _ _ c e1 (by rwa[<-w])}
   .let{b',y,hy}:=h.cell z j;have:b'=b:=by
     rcases hx with⟨S,G,O⟩|⟨m',I,S,G,O⟩<;>rcases hy with⟨y0,Z,y2⟩|⟨m3,e3,y0,Z,y2⟩
     .have G:d.A0[(j%65536%st.size).toNat]?=some b:=G;rw[Z]at G;exact Xq G
     .have S:st.moved<=j%65536%st.size:=S;lia
     .have S:j%65536%st.size<st.moved:=S;lia
     .have I:st.nxt=some m':=I;rw[I]at e3;cases e3;have G:d.A1[(j%65536%m').toNat]?=some b:=G;rw[Z]at G;exact Xq G
    subst this;exact⟨y,hy⟩
end
def si{kv:Mg}{p:Int×V}(h:p∈bF kv k v):p∈kv\/p.1=k:=by
 unfold bF at h;split at h
 .let{q,hq,e}:=Qh.mp h;by_cases z:q.1=k
  .rw[Xm z]at e;rw[<-e];exact .inr z
  .rw[Xl z]at e;rw[<-e];exact .inl hq
 .rcases Qb.mp h with h|h
  .exact .inl h
  .rw[Qe.mp h];exact .inr M
def Fm{kv:Mg}{p:Int×V}(h:p∈kv):(a9 kv p.1).isSome=true:=mem_keys.mp (Qh.mpr ⟨p,h,M⟩)
def fh(m:Int)(C:List (List<|Int×V))(p:Int×V):List (List<|Int×V):=C.set (p.1%65536%m).toNat (bF (C.getD (p.1%65536%m).toNat []) p.1 p.2)
def C8{C:List (List<|Int×V)}{p:Int×V}:(fh m C p).length=C.length:=Qs
theorem zu{m:Int}:∀{kv:Mg}{C:List (List<|Int×V)},(kv.foldl (fh m) C).length=C.length
 | [],_=>rfl
 |p::r,C=>by rw[List.foldl_cons,zu,C8]
def wD{C:List (List<|Int×V)}{p:Int×V}{y:Mg}(e:C[j]?=some y):(fh m C p)[j]?=some (if(p.1%65536%m).toNat=j then bF y p.1 p.2 else y):=by
 unfold fh;rw[Qf];by_cases z:(p.1%65536%m).toNat=j
 .have G:j<C.length:=(Q3.mp e).1;rw[Xm z,Xm z,Xm (by rwa[z]),Qy,z,e];rfl
 .rw[Xl z,Xl z,e]
set_option tactic.hygienic true in
theorem ve{m:Int}:∀{kv:Mg}{C:List (List<|Int×V)}{j:Nat}{y:Mg},(kv.map (·.1)).Nodup->C[j]?=some y->∃x,(kv.foldl (fh m) C)[j]?=some x/\
  (∀p∈x,p∈y\/p.1∈kv.map (·.1))/\∀k,a9 x k=if(k%65536%m).toNat=j then(a9 kv k).or (a9 y k)else a9 y k
 | [],C,j,y,_,e=>{y,e,λp hp=> .inl hp,λk=>by rw[mO];simp}
 |p::r,C,j,y,nd,e=>by
  let{G,I}:=Qz.mp (show(p.1::r.map (·.1)).Nodup from nd);let{x,h1,h2,O}:=ve (m:=m) I (wD (m:=m) (p:=p) e);refine{x,h1,λq hq=>?_,λk=>?_}
  .rcases h2 q hq with z|z
   .split at z
    .rcases si z with z|z
     .exact .inl z
     .exact .inr<|Qh.mpr ⟨p,Q8,z.symm⟩
    .exact .inl z
   .exact .inr<|Q7 _ z
  .rw[O k];by_cases z:(k%65536%m).toNat=j
   .rw[Xm z,Xm z];by_cases w:p.1=k
    .subst w;have:a9 r p.1=none:=by
      cases q:a9 r p.1 with
      |none=>rfl
      |some v=>exact Xp (uM q) G
     rw[this,bM M,Xm z,eR,Xm M];rfl
    .rw[bN w];congr 1;split
     .rw[eR,Xl (Ne.symm w)]
     .rfl
   .rw[Xl z,Xl z];split
    .rename_i w
     rw[eR,Xl (λy=>z<|by rwa[y])]
    .rfl
def JJ.mov{C:List (List<|Int×V)}{y:Mg}(h:JJ H r A C sz)(s4:4<=sz)(ea:A[(k%65536%sz).toNat]?=some c)(G:C[(k%65536%sz).toNat]?=some y):
  JJ (upd H c<|.dK<|aZ<|bF y k v) r A (fh sz C (k,v)) sz:=by
 have e:fh sz C (k,v)=C.set (k%65536%sz).toNat (bF y k v):=by
  unfold fh;rw[Qy];show C.set (k%65536%sz).toNat (bF (C[(k%65536%sz).toNat]?.getD []) k v)=_;rw[G];rfl
 rw[e];let{O,S,I}:=pd (k:=k) s4;refine h.set ea (rX<|h.ndk _ _ G) λp hp=>?_;rcases si hp with z|z
 .exact h.home _ _ G p z
 .rw[z,I]
section
variable{d:LX}
def JO.moved_some(e:st.nxt=some m):st.moved=st.mv:=by unfold JO.moved;rw[e]
def JO.moved_none(e:st.nxt=none):st.moved=0:=by unfold JO.moved;rw[e]
def Js.movVal(h:Js t H a st d)(z:JV st)(G:st.nxt=some m){kv:Mg}(I:d.C0[st.mv.toNat]?=some kv)(hk:k%65536%st.size<=st.mv){x:Mg}
  (ex:(kv.foldl (fh m) d.C1)[(k%65536%m).toNat]?=some x):a9 x k=a9 st.kv k:=by
 let{pm,v0,v1,_}:=z.nx m G;let{s4,_}:=dG z.pw;let{s5,_}:=dG pm;have r1:=h.row1;rw[G]at r1;let{Z,n1,n2}:=pd (k:=k) s5;let{m0,m1,m2}:=pd (k:=k) s4;let{y,O}:=cS (l:=d.C1) Z (by rwa[r1.lc]);let{c1,S}:=cS (l:=d.A1) Z (by rwa[r1.la]);let{x',e',_,hv}:=ve (m:=m) (h.row0.ndk _ _ I) O;rw[ex]at e';cases e';rw[hv k,Xm M];have hm:=JO.moved_some G;by_cases c:k%65536%st.size=st.mv
 .let{b0,U}:=cS (l:=d.A0) m0 (by rwa[h.row0.la]);have Y:IsCell d st k b0 kv:= .inl {(),U,by rw[c];exact I};have yn:a9 y k=none:=by
   cases q:a9 y k with
   |none=>rfl
   |some v=>
    let{p,hp,e}:=Qh.mp (uM q);have:=h.new _ _ O p hp;rw[e]at this;lia
  rw[h.val k b0 kv Y,yn];simp
 .have Y:IsCell d st k c1 y:= .inr {m,G,(),S,O};have kn:a9 kv k=none:=by
   cases q:a9 kv k with
   |none=>rfl
   |some v=>
    let{p,hp,e}:=Qh.mp (uM q);have:=h.row0.home _ _ I p hp;rw[e]at this;lia
  rw[kn,h.val k c1 y Y];rfl
def cX{l:List α}{x y:α}(e:(l.set i x)[j]?=some y):(i=j/\y=x)\/(i≠j/\l[j]?=some y):=by
 rw[Qf]at e;by_cases z:i=j
 .rw[Xm z]at e;split at e
  .cases e;exact .inl ⟨z,M⟩
  .cases e
 .rw[Xl z]at e;exact .inr ⟨z,e⟩
def Js.one(h:Js t H a st d)(z:JV st)(U:st.nxt=some m){kv:Mg}(ek:d.C0[st.mv.toNat]?=some kv){b':G'}(nl:st.mv+1≠st.size)
  (ha:H' a=some (.ins t.br dx<|Kf d.tb (st.mv+1) d.n)) (ht:H' d.tb=H d.tb) (h0:H' d.r0=some (.lst<|(d.A0.set st.mv.toNat b').map V.ref)) (hb:H' b'=some (.dK [])) (hF:¬Kj a st d b')
  (hA:∀(j:Nat) b,d.A0[j]?=some b->j≠st.mv.toNat->H' b=H b) (hr:JJ H' d.r1 d.A1 (kv.foldl (fh m) d.C1) m):
  Js t H' a st.one {d with A0:=d.A0.set st.mv.toNat b',C0:=d.C0.set st.mv.toNat [],C1:=kv.foldl (fh m) d.C1}:=by
 let{pm,v0,v1,_}:=z.nx m U;have a0:st.one={st with mv:=st.mv+1}:=by unfold JO.one;rw[U];exact Xl nl
 have G:({st with mv:=st.mv+1}:JO).moved=st.mv+1:=JO.moved_some (st:={st with mv:=st.mv+1}) U;have hm:=JO.moved_some U;have a1:b'∉d.A0:=λq=>hF (.inr<|.inr<|.inr<|.inl q);have a2:b'∉d.A1:=λq=>hF (.inr<|.inr<|.inr<|.inr<|.inr q);rw[a0];have r1:=h.row1;rw[U]at r1;refine{{dx,by rwa[G]},by rw[ht];exact h.tbl,{h0,by rw[Qs];exact h.row0.la,by rw[Qs];exact h.row0.lc,λj b x Y e2=>?_,λj x e=>?_,λi j b Y e2=>?_,λj x e p hp=>?_},?_,λb a3 hb1=>?_,h.tr,h.tr1,λj x e lt=>?_,λj x e p hp=>?_,λk c x ic=>?_}
 .rcases cX Y with⟨q,rfl⟩|⟨q,Y⟩
  .rcases cX e2 with⟨_,rfl⟩|⟨q2,_⟩
   .exact hb
   .exact Xp q q2
  .rcases cX e2 with⟨q2,_⟩|⟨_,e2⟩
   .exact Xp q2 q
   .rw[hA j b Y (Ne.symm q)];exact h.row0.cell j b x Y e2
 .rcases cX e with⟨_,rfl⟩|⟨_,e⟩
  .exact Zb
  .exact h.row0.ndk j x e
 .have Y:(d.A0.set st.mv.toNat b')[i]?=some b:=Y;have e2:(d.A0.set st.mv.toNat b')[j]?=some b:=e2;rcases cX Y with⟨q,y1⟩|⟨q,O⟩<;>rcases cX e2 with⟨q2,y2⟩|⟨q2,I⟩
  .exact q.symm.trans q2
  .rw[y1]at I;exact Xp (Q0 I) a1
  .rw[y2]at O;exact Xp (Q0 O) a1
  .exact h.row0.inj i j b O I
 .rcases cX e with⟨_,rfl⟩|⟨_,e⟩
  .cases hp
  .exact h.row0.home j x e p hp
 .show match st.nxt with|none=>_|some m=>_
  rwa[U]
 .let{j,hj,e}:=QC (show b∈d.A0.set st.mv.toNat b' from a3);rcases cX (Q3.mpr ⟨hj,e⟩)with⟨_,rfl⟩|⟨_,e⟩
  .exact a2 hb1
  .exact h.dis b (Q0 e) hb1
 .rw[G]at lt;rcases cX e with⟨_,rfl⟩|⟨q,e⟩
  .rfl
  .exact h.old j x e ()
 .rw[G];show p.1%65536%st.size<st.mv+1;obtain⟨y,ey⟩:∃y,d.C1[j]?=some y:=by
   have hj:j<(kv.foldl (fh m) d.C1).length:=(Q3.mp e).1;rw[zu]at hj;exact{_,Q5 hj}
  let{x',e',Z,_}:=ve (m:=m) (h.row0.ndk _ _ ek) ey;have e:(kv.foldl (fh m) d.C1)[j]?=some x:=e;rw[e]at e';cases e';rcases Z p hp with q|q
  .have:=h.new j y ey p q;lia
  .let{p',Z,e3}:=Qh.mp q;have:=h.row0.home _ _ ek p' Z;rw[e3]at this;lia
 .show a9 x k=a9 st.kv k;rcases ic with⟨g0,O,I⟩|⟨m',S,g0,O,I⟩
  .rw[G]at g0;have g0:st.mv+1<=k%65536%st.size:=g0;have O:(d.A0.set st.mv.toNat b')[(k%65536%st.size).toNat]?=some c:=O;have I:(d.C0.set st.mv.toNat [])[(k%65536%st.size).toNat]?=some x:=I;rcases cX O with⟨q,_⟩|⟨_,O⟩
   .lia
   .rcases cX I with⟨q,_⟩|⟨_,I⟩
    .lia
    .exact h.val k c x<|.inl {(),O,I}
  .rw[G]at g0;have S:st.nxt=some m':=S;rw[U]at S;cases S;have g0:k%65536%st.size<st.mv+1:=g0;exact h.movVal z U ek () I
def Js.last(h:Js t H a st d)(z:JV st)(S:st.nxt=some m){kv:Mg}(U:d.C0[st.mv.toNat]?=some kv){tb':G'}(l:st.mv+1=st.size)
  (ha:H' a=some (.ins t.br dx<|Kf tb' 0 d.n)) (Y:H' tb'=some (.lst [.ref d.r1])) (Z:tb'≠d.r1) (hr:JJ H' d.r1 d.A1 (kv.foldl (fh m) d.C1) m):
  Js t H' a st.one {tb',d.r1,d.r1,d.A1,[],kv.foldl (fh m) d.C1,[],d.n}:=by
 have G:st.one={st with size:=m,nxt:=none,mv:=0}:=by unfold JO.one;rw[S];exact Xm l
 let{s4,_}:=dG z.pw;rw[G];refine{⟨dx,ha⟩,Y,hr,⟨M,M⟩,(λb _ q=>by cases q),Z,(λq=>by cases q),λj x e lt=>?_,(λj x e=>by simp at e),λk c x ic=>?_}
 .have lt:(j:Int)<0:=lt;lia
 .rcases ic with⟨g0,f1,I⟩|⟨m',O,_⟩
  .have I:(kv.foldl (fh m) d.C1)[(k%65536%m).toNat]?=some x:=I;let{m0,m1,m2}:=pd (k:=k) s4;exact h.movVal z S U () I
  .cases O
def Js.begin(h:Js t H a st d)(Y:st.nxt=none)(ha:H' a=H a)(Z:H' d.tb=some (.lst [.ref d.r0,.ref r]))(h0:∀b,b=d.r0\/b∈d.A0->H' b=H b)
  (hr:JJ H' r A (List.replicate m.toNat []) m) (O:¬Kj a st d r) (nA:∀b∈A,¬Kj a st d b):Js t H' a {st with nxt:=some m,mv:=0} {d with r1:=r,A1:=A,C1:=List.replicate m.toNat []}:=by
 let{dx,ho}:=h.obj;have S:=JO.moved_none Y;refine{{dx,by rw[ha];rw[S]at ho;exact ho},Z,h.row0.frame h0,hr,λb q q2=>nA b q2<|.inr<|.inr<|.inr<|.inl q,h.tr,λ_=>{λq=>O<|.inr<|.inl q.symm,λq=>O<|.inr (.inr<|.inl q.symm)},λj x e lt=>?_,λj x e p hp=>?_,λk c x ic=>?_}
 .have lt:(j:Int)<0:=lt;lia
 .have:=QW (Q0 e);subst this;cases hp
 .rcases ic with⟨G,U,I⟩|⟨m',a0,G,U,I⟩
  .refine h.val k c x<|.inl {?_,U,I};rwa[S]
  .have G:k%65536%st.size<0:=G;have I:(List.replicate m.toNat ([]:Mg))[(k%65536%m').toNat]?=some x:=I;have:0<=k%65536%st.size:=by
    have z:(0:Int)<=st.size:=by rw[<-h.row0.la];lia
    rcases Int.lt_or_eq_of_le z with q|q
    .exact Z8 _ ()
    .rw[<-q,Int.emod_zero];exact Z8 _ (_)
   lia
def Js.fresh(ha:H a=some (.ins t.br dx<|Kf tb 0 0))(I:H tb=some (.lst [.ref r]))(O:JJ H r A (List.replicate 4 []) 4)(n:tb≠r):Js t H a JO.new {tb,r,r,A,[],List.replicate 4 [],[],0}:=by
 refine{⟨dx,ha⟩,I,O,⟨M,M⟩,(λb _ q=>by cases q),n,(λq=>by cases q),λj x e lt=>?_,(λj x e=>by simp at e),λk c x S=>?_}
 .have lt:(j:Int)<0:=lt;lia
 .rcases S with⟨U,Y,z⟩|⟨m',G,_⟩
  .have z:(List.replicate 4 ([]:Mg))[(k%65536%4).toNat]?=some x:=z;have:=QW (Q0 z);subst this;rfl
  .cases G
def Js.short(h:Js t H a st d)(z:JV st){kv:Mg}(Y:IsCell d st k c kv):kv.length<=st.kv.length:=by
 let{_,_,nd}:=h.at Y;have sub:∀x∈kv.map (·.1),x∈st.kv.map (·.1):=λx hx=>by
  let{p,hp,e}:=Qh.mp hx;subst e;refine mem_keys.mpr ?_;have hs:=Fm hp;have:∃I,IsCell d st p.1 I kv:=by
   rcases Y with⟨Z,O,G⟩|⟨m,S,Z,O,G⟩
   .let{s4,_}:=dG z.pw;let{m0,m1,m2}:=pd (k:=k) s4;have e:=h.row0.home _ _ G p hp;rw[m2]at e;exact{c,.inl {by rwa[e],by rwa[e],by rwa[e]}}
   .let{pm,_}:=z.nx m S;let{s5,_}:=dG pm;let{n0,n1,n2}:=pd (k:=k) s5;have r1:=h.row1;rw[S]at r1;have e:=r1.home _ _ G p hp;rw[n2]at e;exact{c,.inr {m,S,h.new _ _ G p hp,by rwa[e],by rwa[e]}}
  let{I,U}:=this;rwa[<-h.val p.1 I kv U]
 have:=rV nd sub;rw[Q2,Q2]at this;exact this
end
theorem wC{m:Int}:∀{kv:Mg}{C:List (List<|Int×V)}{j:Nat}{x y:Mg},C[j]?=some y->(kv.foldl (fh m) C)[j]?=some x->x.length<=y.length+kv.length
 | [],C,j,x,y,e,f=>by
  have f:C[j]?=some x:=f;rw[e]at f;cases f;exact Q4 _
 |p::r,C,j,x,y,e,f=>by
  have h:=wC (m:=m) (wD (m:=m) (p:=p) e) f;have l:=eU y p.1 p.2;rw[Q9];split at h<;>lia
section
variable{d:LX}
def Js.short0(h:Js t H a st d)(z:JV st){kv:Mg}(e:d.C0[j]?=some kv):kv.length<=st.kv.length:=by
 cases kv with
 |nil=>exact Ql _
 |cons p r=>
  have hp:=h.row0.home j _ e p Q8;have O:¬(j:Int)<st.moved:=λq=>by have:=h.old j _ e q;cases this
  have G:(p.1%65536%st.size).toNat=j:=();have I:j<d.A0.length:=by
   have:=h.row0.la;have:=h.row0.lc;have:=(Q3.mp e).1;lia
  exact h.short z (k:=p.1) (c:=d.A0[j])<|.inl {(),by rw[G];exact Q5 I,by rwa[G]}
def Js.short1(h:Js t H a st d)(z:JV st)(G:st.nxt=some m){kv:Mg}(e:d.C1[j]?=some kv):kv.length<=st.kv.length:=by
 have r1:=h.row1;rw[G]at r1;cases kv with
 |nil=>exact Ql _
 |cons p r=>
  have hp:=r1.home j _ e p Q8;have O:=h.new j _ e p Q8;have I:(p.1%65536%m).toNat=j:=();have S:j<d.A1.length:=by
   have:=r1.la;have:=r1.lc;have:=(Q3.mp e).1;lia
  exact h.short z (k:=p.1) (c:=d.A1[j])<|.inr {m,G,O,by rw[I];exact Q5 S,by rwa[I]}
end
def JV.new:JV JO.new:={(_),λm e=>by cases e}
def JV.kv(z:JV st):JV {st with kv:=kvs}:=⟨z.pw,z.nx⟩
set_option tactic.hygienic true in
def JV.one(z:JV st):JV st.one:=by
 unfold JO.one;cases e:st.nxt with
 |none=>exact z
 |some m=>
  let{G,O,S,I}:=z.nx m e;show JV (if _ then _ else _);split
  .exact{G,λm' q=>by cases q}
  .rename_i c
   refine{z.pw,λm' q=>?_};have q:some m=some m':=q;cases q;exact{G,by show 0<=st.mv+1;lia,by show st.mv+1<st.size;lia,I}
def II{x:Int}(h:x∈([4,8,16,32,64,128,256]:List Int))(c:x<256):2*x∈([4,8,16,32,64,128,256]:Mb):=by
 rcases nu h with rfl|rfl|rfl|rfl|rfl|rfl|rfl<;>first|decide|exact Xp c (_)
def Gq{x:Int}(h:x∈([4,8,16,32,64,128,256]:List Int))(c:4<x):x/2∈([4,8,16,32,64,128,256]:Mb)/\2*(x/2)=x:=by
 rcases nu h with rfl|rfl|rfl|rfl|rfl|rfl|rfl<;>first|decide|exact Xp c (_)
def Gp{x:Int}(h:x∈([4,8,16,32,64,128,256]:List Int)):0<x:=by
 rcases nu h with rfl|rfl|rfl|rfl|rfl|rfl|rfl<;>decide
set_option tactic.hygienic true in
def JV.three(z:JV st):JV st.three:=by
 unfold JO.three;cases e:st.nxt with
 |some m=>exact z
 |none=>
  show JV (if _ then _ else _);split
  .rename_i c
   refine{z.pw,λm' q=>?_};cases q;exact{II z.pw c.2,QT _,Gp z.pw,.inl M}
  .split
   .rename_i c
    refine{z.pw,λm' q=>?_};cases q;exact{(Gq z.pw c.2).1,QT _,Gp z.pw,.inr (Gq z.pw c.2).2}
   .exact z
def Kq(_K:J4)(t:JM)(H:Hp)(a:G')(F:Mi)(st:JO):Prop:=
 ∃d,Js t H a st d/\(∀b,F b↔Kj a st d b)/\d.n=(st.kv.length:Int)/\(st.kv.map (·.1)).Nodup/\JV st
def Kq.ins(h:Kq K t H a F st):∃dx fs,H a=some (.ins t.br dx fs)/\∀m,NoM m->fs.lookup m=none:=by
 let{d,hb,_}:=h;let{dx,ho}:=hb.obj;exact{dx,_,ho,λm z=>Gn z}
def Kq.dom(h:Kq K t H a F st)(hb:F b):∃o,H b=some o:=by
 let{d,h1,h2,_}:=h;exact h1.dom<|(h2 b).mp hb
def Kq.frame(h:Kq K t H a F st)(f:∀b,F b->H' b=H b):Kq K t H' a F st:=by
 let{d,h1,h2,z}:=h;exact{d,h1.frame λb hb=>f b<|(h2 b).mpr hb,h2,z}
def Kq.same(h:Kq K t H a F st)(s:JA H H'):Kq K t H' a F st:=h.frame λb hb=>by
 let{o,e}:=h.dom hb;rw[e];exact s b o e
def Kq.out(h:Kq K t H a F st)(e:H p=none):¬F p:=λz=>by
 let{o,q}:=h.dom z;rw[q]at e;cases e
def RsF(K:J4)(t:JM)(a:G')(F:Mi)(st:JO)(H:Hp)(C:G')(fs:Mo)(E:XK):Prop:=
 ∀(ea:G')(od:Me)(H':Hp)(F':Mi),Jy H' ea od C fs->Kq K t H' a F' st->Fr F F' H H'->E (.ref ea) od H'
def qP(K:J4)(t:JM):Sp:=λvs H Q _=>∃(a dx:G'),vs=[.ref a]/\H a=some (.ins t.br dx [])/\H dx=some (.own a)/\∀H' F,Kq K t H' a F JO.new->Fr (λb=>b=a\/b=dx) F H H'->Q .non H'
def sX(K:J4)(t:JM):Sp:=λvs H Q _=>∃(a:G')(k i:Int)(F:Mi)(st:JO),vs=[.ref a,.int k,.int i]/\Kq K t H a F st/\0<=k/\st.kv.length<4096/\
 ∀H' F',Kq K t H' a F' (st.put k<|.int i)->Fr F F' H H'->Q .non H'
def sZ(K:J4)(t:JM):Sp:=λvs H Q E=>∃(a:G')(k:Int)(F:Mi)(st:JO),vs=[.ref a,.int k]/\Kq K t H a F st/\0<=k/\
 (∀v,a9 st.kv k=some v->∀H' F',Kq K t H' a F' st->Fr F F' H H'->Q v H')/\(a9 st.kv k=none->RsF K t a F st H t.bj [(ew,.int k)] E)
def sY(K:J4)(t:JM):Sp:=λvs H Q _=>∃(a:G')(k:Int)(F:Mi)(st:JO),vs=[.ref a,.int k]/\Kq K t H a F st/\0<=k/\
 ∀H' F',Kq K t H' a F' st->Fr F F' H H'->Q (.bl (a9 st.kv k).isSome) H'
def d9(l:Mb):Prop:=l.Pairwise (· < ·)
structure JY(ls:Mv):Prop where
 ne:∀l∈ls,l≠[]
 le:∀l∈ls,l.length<=8
 nb:∀(i:Nat)(x y:Mb),ls[i]?=some x->ls[i+1]?=some y->5<=x.length+y.length
 up:d9 ls.flatten
def JY.nil:JY []:={(λ_ h=>by cases h),(λ_ h=>by cases h),(λi x y e=>by simp at e),XS}
def HH(e:ls[i]?=some x):ls=ls.take i++x::ls.drop (i+1):=by
 let{h,e}:=Q3.mp e;rw[<-e,<-ZE h,QP]
def fE(e:ls[i]?=some x):ls.flatten=(ls.take i).flatten++(x++(ls.drop<|i+1).flatten):=by
 conv=>lhs;rw[HH e]
 rw[Zi,QU]
def L0{a b c:Mb}:d9 (a++(b++c))↔d9 a/\d9 b/\d9 c/\(∀x∈a,∀y∈b,x<y)/\(∀x∈a,∀y∈c,x<y)/\∀x∈b,∀y∈c,x<y:=by
 unfold d9;rw[Zc,Zc];constructor
 .rintro ⟨h1,⟨h2,I,O⟩,G⟩;exact{h1,h2,I,λx hx y hy=>G x hx y<|Qu _ hy,λx hx y hy=>G x hx y<|Qg _ hy,O}
 .rintro ⟨h1,h2,I,O,G,S⟩;refine{h1,⟨h2,I,S⟩,λx hx y hy=>?_};rcases Qb.mp hy with z|z
  .exact O x hx y z
  .exact G x hx y z
structure K8(ls:Mv)(k:Int)(i:Nat):Prop where
 le:i<=ls.length
 lo:∀(j:Nat)(x:Mb),j<i->ls[j]?=some x->∀y∈x,y<k
 hi:∀x,ls[i]?=some x->∃y∈x,k<=y
def vY{y:Int}(h:y∈(ls.take i).flatten):∃(j:Nat)(x:Mb),j<i/\ls[j]?=some x/\y∈x:=by
 let{x,hx,hy}:=Xc.mp h;let{j,z,e}:=QC hx;rw[Qo]at z;rw[List.getElem_take]at e;exact{j,x,(),Q3.mpr {(),e},hy}
def K8.ahead(h:K8 ls k i):∀y∈(ls.take i).flatten,y<k:=λy hy=>by
 let{j,x,z,e,hx}:=vY hy;exact h.lo j x z e y hx
def K8.behind(o:JY ls)(h:K8 ls k i):∀y∈(ls.drop<|i+1).flatten,k<y:=λy hy=>by
 cases e:ls[i]? with
 |none=>
  have:ls.length<=i:=QQ.mp e;rw[ZM ()]at hy;cases hy
 |some x=>
  let{z,hz,le}:=h.hi x e;have G:=o.up;rw[fE e]at G;have:=(L0.mp G).2.2.2.2.2 z hz y hy;lia
def K8.mem(o:JY ls)(h:K8 ls k i):k∈ls.flatten↔∃x,ls[i]?=some x/\k∈x:=by
 constructor
 .intro hk;cases e:ls[i]? with
  |none=>
   have l:ls.length<=i:=QQ.mp e;have:ls.take i=ls:=Qw l;have:=h.ahead k (by rwa[this]);lia
  |some x=>
   rw[fE e]at hk;rcases Qb.mp hk with z|z
   .have:=h.ahead k z;lia
   .rcases Qb.mp z with z|z
    .exact⟨x,M,z⟩
    .have:=h.behind o k z;lia
 .rintro ⟨x,e,hk⟩;exact Xc.mpr {x,Q0 e,hk}
theorem xb:∀{l:Mb}{k:Int},d9 l->k∉l->(∀x∈l.take (l.filter<|λz=>decide (z<k)).length,x<k)/\∀x∈l.drop (l.filter<|λz=>decide (z<k)).length,k<x
 | [],k,_,_=>{λx h=>by simp at h,λx h=>by simp at h}
 |a::r,k,up,nk=>by
  let{h1,h2}:=Zm.mp up;have G:k∉r:=λz=>nk (Q7 _ z);have S:a≠k:=λz=>nk (by rw[z];exact Q8);by_cases c:a<k
  .let{I,O}:=xb h2 G;rw[Zd,Xm (by simpa using c),Q9,List.take_succ_cons,List.drop_succ_cons];refine{λx hx=>?_,O};rcases Qc.mp hx with rfl|hx
   .exact c
   .exact I x hx
  .have:(a::r).filter (λz=>decide (z<k))=[]:=by
    rw[List.filter_eq_nil_iff];intro x hx;rcases Qc.mp hx with rfl|hx
    .simpa using c
    .have:=h1 x hx;simp;lia
   rw[this];refine{λx hx=>by simp at hx,λx hx=>?_};have hx:x∈a::r:=by simpa using hx
   rcases Qc.mp hx with rfl|hx
   .lia
   .have:=h1 x hx;lia
noncomputable def eV(l:Mb)(k:Int):List Int:=l.take (l.filter<|λz=>decide (z<k)).length++k::l.drop (l.filter<|λz=>decide (z<k)).length
def Dv:(eV l k).length=l.length+1:=by
 have h:=QO (λz=>decide (z<k)) l;unfold eV;rw[Qd,Q9,Qo,QA];lia
def L1{x:Int}:x∈eV l k↔x=k\/x∈l:=by
 unfold eV;rw[Qb,Qc];have:x∈l↔x∈l.take (l.filter<|λz=>decide (z<k)).length\/x∈l.drop (l.filter<|λz=>decide (z<k)).length:=by
  rw[<-Qb,QP]
 rw[this];constructor
 .rintro (h|h|h)
  .exact .inr<|.inl h
  .exact .inl h
  .exact .inr<|.inr h
 .rintro (h|h|h)
  .exact .inr<|.inl h
  .exact .inl h
  .exact .inr<|.inr h
def Be(I:d9 l)(O:k∉l):d9 (eV l k):=by
 let{h1,h2}:=xb I O;have G:d9 (l.take (l.filter<|λz=>decide (z<k)).length++l.drop (l.filter<|λz=>decide (z<k)).length):=by rw[QP];exact I
 let{S,U,Y}:=Zc.mp G;unfold eV;refine Zc.mpr {S,Zm.mpr ⟨h2,U⟩,λx hx y hy=>?_};rcases Qc.mp hy with rfl|hy
 .exact h1 x hx
 .exact Y x hx y hy
structure LU(ls:Mv)(k:Int)(i:Nat)(x:Mb):Prop where
 at_:ls[i]?=some x
 lo:∀y∈(ls.take i).flatten,y<k
 hi:∀y∈(ls.drop<|i+1).flatten,k<y
def K8.add(o:JY ls)(h:K8 ls k i)(ne:ls≠[]):∃x,LU ls k (min i<|ls.length-1) x:=by
 have hl:0<ls.length:=QD.mpr ne;by_cases c:i<ls.length
 .have:min i (ls.length-1)=i:=();rw[this];exact{ls[i],Q5 c,h.ahead,h.behind o}
 .have le:=h.le;have:min i (ls.length-1)=ls.length-1:=();rw[this];have z:ls.length-1<ls.length:=();refine{ls[ls.length-1],Q5 z,λy hy=>?_,λy hy=>?_}
  .let{j,x,G,e,hx}:=vY hy;exact h.lo j x () e y hx
  .rw[ZM ()]at hy;cases hy
def uU(e:ls[i]?=some x):ls.set i y=ls.take i++y::ls.drop (i+1):=by
 have hi:=(Q3.mp e).1;rw[List.set_eq_take_append_cons_drop,Xm hi]
def m4(e:ls[i]?=some x):(ls.set i y).flatten=(ls.take i).flatten++(y++(ls.drop<|i+1).flatten):=by
 rw[uU e,Zi,QU]
def LU.set(o:JY ls)(h:LU ls k i x)(G:k∉ls.flatten):d9 (ls.set i<|eV x k).flatten/\∀z,z∈(ls.set i<|eV x k).flatten↔z=k\/z∈ls.flatten:=by
 have I:=o.up;rw[fE h.at_]at I G;let{O,S,U,Y,Z,u6}:=L0.mp I;have nx:k∉x:=λz=>G (Qg _<|Qu _ z);rw[m4 h.at_,fE h.at_];refine{L0.mpr {O,Be S nx,U,λa ha b hb=>?_,Z,λa ha b hb=>?_},λz=>?_}
 .rcases L1.mp hb with rfl|hb
  .exact h.lo a ha
  .exact Y a ha b hb
 .rcases L1.mp ha with rfl|ha
  .exact h.hi b hb
  .exact u6 a ha b hb
 .rw[Qb,Qb,Qb,Qb,L1];constructor
  .rintro (h|(h|h)|h)
   .exact .inr<|.inl h
   .exact .inl h
   .exact .inr<|.inr (.inl h)
   .exact .inr<|.inr (.inr h)
  .rintro (h|h|h|h)
   .exact .inr<|.inl (.inl h)
   .exact .inl h
   .exact .inr<|.inl (.inr h)
   .exact .inr<|.inr h
def nS{z:Mb}(e:ls[i]?=some x)(f:(ls.set i y)[j]?=some z):(i=j/\z=y)\/(i≠j/\ls[j]?=some z):=by
 rw[Qf]at f;by_cases c:i=j
 .rw[Xm c]at f;split at f
  .cases f;exact .inl ⟨c,M⟩
  .cases f
 .rw[Xl c]at f;exact .inr ⟨c,f⟩
def qt{z:Mb}(e:ls[i]?=some x)(h:z∈ls.set i y):z=y\/z∈ls:=by
 let{j,G,I}:=QC h;rcases nS e (Q3.mpr ⟨G,I⟩)with⟨_,q⟩|⟨_,q⟩
 .exact .inl q
 .exact .inr<|Q0 q
def JY.grown(o:JY ls)(e:ls[i]?=some x)(l1:x.length<=y.length)(l2:y.length<=8)(O:d9 (ls.set i y).flatten):JY (ls.set i y):=by
 have hx:=o.ne x (Q0 e);have px:0<x.length:=QD.mpr hx;refine{λl hl=>?_,λl hl=>?_,λj a b f g=>?_,O}
 .rcases qt e hl with rfl|hl
  .exact QR ()
  .exact o.ne l hl
 .rcases qt e hl with rfl|hl
  .exact l2
  .exact o.le l hl
 .rcases nS e f with⟨c,h1⟩|⟨c,z⟩<;>rcases nS e g with⟨G,h2⟩|⟨G,I⟩
  .lia
  .subst c;have:=o.nb i x b e I;rw[h1];lia
  .rw[G]at e;have:=o.nb j a x z e;rw[h2];lia
  .exact o.nb j a b z I
set_option tactic.hygienic true in
def JY.parted{a b:Mb}(o:JY ls)(e:ls[i]?=some x)(U:a.length=4)(Y:b.length=5)(O:d9 (ls.set i<|a++b).flatten):
  JY ((ls.set i a).take (i+1)++b::(ls.set i a).drop (i+1))/\((ls.set i a).take (i+1)++b::(ls.set i a).drop (i+1)).flatten=(ls.set i<|a++b).flatten:=by
 have hi:=(Q3.mp e).1;have lt:(ls.take i).length=i:=by rw[Qo];lia
 have S:(ls.set i a).take (i+1)++b::(ls.set i a).drop (i+1)=ls.take i++a::b::ls.drop (i+1):=by
  rw[uU (y:=a) e];have h1:(ls.take i++a::ls.drop (i+1)).take (i+1)=ls.take i++ [a]:=by
   rw[List.take_append,lt,Qw ()];have:i+1-i=1:=();rw[this];rfl
  have h2:(ls.take i++a::ls.drop (i+1)).drop (i+1)=ls.drop (i+1):=by
   rw[List.drop_append,lt,ZM ()];have:i+1-i=1:=();rw[this];rfl
  rw[h1,h2,X6];rfl
 have e2:(ls.take i++a::b::ls.drop (i+1)).flatten=(ls.set i<|a++b).flatten:=by
  rw[m4 e,Zi,QU,QU,X6]
 rw[S];refine{{λl hl=>?_,λl hl=>?_,λj p q f g=>?_,by rwa[e2]},e2}
 .rcases Qb.mp hl with h|h
  .exact o.ne l<|Zz h
  .rcases Qc.mp h with rfl|h
   .exact QR ()
   .rcases Qc.mp h with rfl|h
    .exact QR ()
    .exact o.ne l<|ZA h
 .rcases Qb.mp hl with h|h
  .exact o.le l<|Zz h
  .rcases Qc.mp h with rfl|h
   .lia
   .rcases Qc.mp h with rfl|h
    .lia
    .exact o.le l<|ZA h
 .have look:∀(j:Nat)(p:Mb),(ls.take i++a::b::ls.drop (i+1))[j]?=some p->(j<i/\ls[j]?=some p)\/(j=i/\p=a)\/(j=i+1/\p=b)\/(i+2<=j/\ls[j-1]?=some p):=λj p f=>by
   rw[ZU,lt]at f;split at f
   .rename_i c
    rw[List.getElem?_take,Xm c]at f;exact .inl ⟨c,f⟩
   .rename_i c
    rcases(show j=i\/j=i+1\/i+2<=j by lia)with rfl|rfl|h
    .have:j-j=0:=();rw[this]at f;cases f;exact .inr<|.inl ⟨M,M⟩
    .have:i+1-i=1:=();rw[this]at f;cases f;exact .inr<|.inr (.inl ⟨M,M⟩)
    .obtain⟨n,rfl⟩:∃n,j=i+2+n:={j-(i+2),()};have:i+2+n-i=n+1+1:=();rw[this,Z0,Z0,X1]at f;refine .inr<|.inr (.inr {h,?_});have:i+2+n-1=i+1+n:=();rw[this];exact f
  have pos:∀(j:Nat)(p:Mb),ls[j]?=some p->1<=p.length:=λj p f=>QD.mpr (o.ne p<|Q0 f);rcases look j p f with⟨c,z⟩|⟨c,h1⟩|⟨c,h1⟩|⟨c,z⟩<;>rcases look (j+1) q g with⟨I,G⟩|⟨I,h2⟩|⟨I,h2⟩|⟨I,G⟩<;>(try rw[h1])<;>(try rw[h2])<;>(try lia)
  .exact o.nb j p q z G
  .have:=pos j p z;lia
  .have:j+1-1=j-1+1:=();rw[this]at G;exact o.nb (j-1) p q z G
def lvF(L:G'):List (Str×V):=[(ri,.ref L)]
def dv:(lvF L).lookup (ri:Str)=some (.ref L):=by
 have hb:((ri:Str)==(ri:Str))=true:=XF.mpr M;unfold lvF;simp only[List.lookup,hb]
def Gv{m:Str}(h:m≠(ri:Str)):(lvF L).lookup m=none:=by
 have hb:(m==(ri:Str))=false:=Xy.mpr h;unfold lvF;simp only[List.lookup,hb]
structure KP(t:JM)(H:Hp)(a L:G')(A:Mh)(ls:Mv):Prop where
 obj:∃dx,H a=some (.ins t.bP dx<|lvF L)
 lst:H L=some (.lst<|A.map V.ref)
 len:A.length=ls.length
 leaf:∀(j:Nat)(b:G')(l:Mb),A[j]?=some b->ls[j]?=some l->H b=some (.lst<|l.map V.int)
 inj:∀(i j:Nat)(b:G'),A[i]?=some b->A[j]?=some b->i=j
 nL:L∉A
def Ks(a L:G')(A:Mh):Addr->Prop:=λb=>b=a\/b=L\/b∈A
def KP.at(h:KP t H a L A ls)(e:ls[i]?=some x):∃c,A[i]?=some c/\H c=some (.lst<|x.map V.int):=by
 have hi:i<A.length:=by rw[h.len];exact(Q3.mp e).1
 exact{A[i],Q5 hi,h.leaf i _ x (Q5 hi) e}
def KP.has(h:KP t H a L A ls)(hb:b∈A):∃(j:Nat)(l:Mb),A[j]?=some b/\ls[j]?=some l/\H b=some (.lst<|l.map V.int):=by
 let{j,z,e}:=QC hb;have hc:j<ls.length:=by rwa[<-h.len]
 have G:A[j]?=some b:=by rw[Q5 z,e]
 exact{j,ls[j],G,Q5 hc,h.leaf j b _ G<|Q5 hc}
def KP.frame(h:KP t H a L A ls)(f:∀b,Ks a L A b->H' b=H b):KP t H' a L A ls:=by
 let{dx,ho}:=h.obj;exact{{dx,by rwa[f a (.inl M)]},by rw[f L (.inr<|.inl M)];exact h.lst,h.len,λj b l z e2=>by rw[f b (.inr<|.inr<|Q0 z)];exact h.leaf j b l z e2,h.inj,h.nL}
def KP.dom(h:KP t H a L A ls)(hb:Ks a L A b):∃o,H b=some o:=by
 let{dx,ho}:=h.obj;rcases hb with rfl|rfl|hb
 .exact{_,ho}
 .exact{_,h.lst}
 .let{_,_,_,_,q}:=h.has hb;exact{_,q}
def KP.same(h:KP t H a L A ls)(s:JA H H'):KP t H' a L A ls:=h.frame λb hb=>by
 let{o,e}:=h.dom hb;rw[e,s b o e]
def KP.out(h:KP t H a L A ls)(n:H p=none):¬Ks a L A p:=λz=>by
 let{o,e}:=h.dom z;rw[n]at e;cases e
def KP.write(h:KP t H a L A ls)(G:A[i]?=some c)(ex:ls[i]?=some x):KP t (upd H c<|.lst<|y.map V.int) a L A (ls.set i y):=by
 let{dx,ho}:=h.obj;have hc:=h.leaf i c x G ex;have O:=Q0 G;refine{{dx,by rwa[ae (cm ho hc<|by intro z;cases z)]},by rw[ae (λz=>h.nL<|by rwa[z])];exact h.lst,by rw[Qs];exact h.len,λj b l I e2=>?_,h.inj,h.nL};rw[Qf]at e2;by_cases z:i=j
 .subst z;rw[G]at I;cases I;rw[Xm M]at e2;split at e2
  .cases e2;exact I0
  .cases e2
 .rw[Xl z]at e2;rw[ae (λy=>z<|h.inj i j c G<|by rw[<-y];exact I)];exact h.leaf j b l I e2
def KP.swap(h:KP t H a L A ls){n:G'}(Y:A[i]?=some c)(ex:ls[i]?=some x)(S:H n=some (.lst<|y.map V.int))(I:¬Ks a L A n):KP t (upd H L<|.lst<|(A.set i n).map V.ref) a L (A.set i n) (ls.set i y):=by
 let{dx,ho}:=h.obj;have nA:n∉A:=λz=>I (.inr<|.inr z);have O:n≠L:=λz=>I (.inr<|.inl z);refine{{dx,by rwa[ae (cm ho h.lst<|by intro z;cases z)]},I0,by rw[Qs,Qs];exact h.len,λj b l G e2=>?_,λj k b G e2=>?_,λz=>?_}
 .rw[Qf]at G e2;by_cases z:i=j
  .rw[Xm z]at G e2;split at G
   .cases G;split at e2
    .cases e2;rw[ae O];exact S
    .cases e2
   .cases G
  .rw[Xl z]at G e2;rw[ae (λy=>h.nL<|by rw[<-y];exact Q0 G)];exact h.leaf j b l G e2
 .rw[Qf]at G e2;by_cases z:i=j
  .rw[Xm z]at G;split at G
   .cases G;by_cases w:i=k
    .exact z.symm.trans w
    .rw[Xl w]at e2;exact Xp (Q0 e2) nA
   .cases G
  .rw[Xl z]at G;by_cases w:i=k
   .rw[Xm w]at e2;split at e2
    .cases e2;exact Xp (Q0 G) nA
    .cases e2
   .rw[Xl w]at e2;exact h.inj j k b G e2
 .let{j,U,e}:=QC z;have G:=Q3.mpr ⟨U,e⟩;rw[Qf]at G;by_cases w:i=j
  .rw[Xm w]at G;split at G
   .cases G;exact O M
   .cases G
  .rw[Xl w]at G;exact h.nL<|Q0 G
set_option tactic.hygienic true in
def Jt{l:List α}{x y:α}(hi:i<=l.length)(e:(l.take i++x::l.drop i)[j]?=some y):(j<i/\l[j]?=some y)\/(j=i/\y=x)\/(i<j/\l[j-1]?=some y):=by
 have lt:(l.take i).length=i:=by rw[Qo];lia
 rw[ZU,lt]at e;split at e
 .rename_i c
  rw[List.getElem?_take,Xm c]at e;exact .inl ⟨c,e⟩
 .rename_i c
  rcases(show j=i\/i<j by lia)with rfl|h
  .have:j-j=0:=();rw[this]at e;cases e;exact .inr<|.inl ⟨M,M⟩
  .obtain⟨n,rfl⟩:∃n,j=i+1+n:={j-(i+1),()};have:i+1+n-i=n+1:=();rw[this,Z0,X1]at e;have:i+1+n-1=i+n:=();exact .inr<|.inr {h,by rwa[this]}
def KP.insert(h:KP t H a L A ls){n:G'}(hi:i<=A.length)(hn:H n=some (.lst<|y.map V.int))(Z:¬Ks a L A n):
  KP t (upd H L<|.lst<|(A.take i++n::A.drop i).map V.ref) a L (A.take i++n::A.drop i) (ls.take i++y::ls.drop i):=by
 let{dx,ho}:=h.obj;have nA:n∉A:=λz=>Z (.inr<|.inr z);have nL:n≠L:=λz=>Z (.inr<|.inl z);have U:i<=ls.length:=by rwa[<-h.len]
 refine{{dx,by rwa[ae (cm ho h.lst<|by intro z;cases z)]},I0,?_,λj b l Y e2=>?_,λj k b Y e2=>?_,λz=>?_}
 .have:=h.len;rw[Qd,Qd,Q9,Q9,Qo,Qo,QA,QA];lia
 .rcases Jt hi Y with⟨O,G⟩|⟨O,G⟩|⟨O,G⟩<;>rcases Jt U e2 with⟨S,I⟩|⟨S,I⟩|⟨S,I⟩<;>(try lia)
  .rw[ae (λy=>h.nL<|by rw[<-y];exact Q0 G)];exact h.leaf j b l G I
  .rwa[G,I,ae nL]
  .rw[ae (λy=>h.nL<|by rw[<-y];exact Q0 G)];exact h.leaf (j-1) b l G I
 .rcases Jt hi Y with⟨O,G⟩|⟨O,G⟩|⟨O,G⟩<;>rcases Jt hi e2 with⟨S,I⟩|⟨S,I⟩|⟨S,I⟩
  .exact h.inj j k b G I
  .rw[I]at G;exact Xp (Q0 G) nA
  .have:=h.inj _ _ b G I;lia
  .rw[G]at I;exact Xp (Q0 I) nA
  .lia
  .rw[G]at I;exact Xp (Q0 I) nA
  .have:=h.inj _ _ b G I;lia
  .rw[I]at G;exact Xp (Q0 G) nA
  .have:=h.inj _ _ b G I;lia
 .rcases Qb.mp z with z|z
  .exact h.nL<|Zz z
  .rcases Qc.mp z with z|z
   .exact nL z.symm
   .exact h.nL<|ZA z
set_option tactic.hygienic true in
def kS{l:List α}{y:α}(e:(l.eraseIdx i)[j]?=some y):(j<i/\l[j]?=some y)\/(i<=j/\l[j+1]?=some y):=by
 rw[List.getElem?_eraseIdx]at e;split at e
 .rename_i c;exact .inl ⟨c,e⟩
 .rename_i c;exact .inr {(),e}
def KP.erase(h:KP t H a L A ls):KP t (upd H L<|.lst<|(A.eraseIdx i).map V.ref) a L (A.eraseIdx i) (ls.eraseIdx i):=by
 let{dx,ho}:=h.obj;refine{{dx,by rwa[ae (cm ho h.lst<|by intro z;cases z)]},I0,?_,λj b l O e2=>?_,λj k b O e2=>?_,λz=>h.nL<|QI z}
 .rw[ZV,ZV,h.len]
 .have Y:b∈A:=QI (Q0 O);rw[ae (λy=>h.nL<|by rwa[<-y])];rcases kS O with⟨S,G⟩|⟨S,G⟩<;>rcases kS e2 with⟨U,I⟩|⟨U,I⟩<;>(try lia)
  .exact h.leaf j b l G I
  .exact h.leaf (j+1) b l G I
 .rcases kS O with⟨S,G⟩|⟨S,G⟩<;>rcases kS e2 with⟨U,I⟩|⟨U,I⟩
  .exact h.inj j k b G I
  .have:=h.inj _ _ b G I;lia
  .have:=h.inj _ _ b G I;lia
  .have:=h.inj _ _ b G I;lia
def ud(z:d9 ls.flatten)(ex:ls[i]?=some x)(G:ls[j]?=some y)(h:i<j):∀p∈x,∀q∈y,p<q:=λp hp q hq=>by
 rw[fE ex]at z;refine(L0.mp z).2.2.2.2.2 p hp q<|Xc.mpr {y,?_,hq};refine Q0 (i:=j-(i+1)) ?_;rw[X1];have:i+1+(j-(i+1))=j:=();rwa[this]
def EV(z:d9 ls.flatten)(ex:ls[i]?=some x):d9 x:=by
 rw[fE ex]at z;exact(L0.mp z).2.1
def Dm(G:d9 x)(ne:x≠[]):∃m,x[x.length-1]?=some m/\m∈x/\∀y∈x,y<=m:=by
 have hl:=QD.mpr ne;have z:x.length-1<x.length:=();refine{x[x.length-1],Q5 z,ZI z,λy hy=>?_};let{j,I,e}:=QC hy;rcases(show j=x.length-1\/j<x.length-1 by lia)with h|h
 .subst h;rw[e];exact QT _
 .have:=Zg.mp G j (x.length-1) I z h;rw[e]at this;lia
structure Lq(ls:Mv)(E:Nat->Prop):Prop where
 ne:∀l∈ls,l≠[]
 le:∀l∈ls,l.length<=8
 nb:∀(i:Nat)(x y:Mb),ls[i]?=some x->ls[i+1]?=some y->E i\/5<=x.length+y.length
 up:d9 ls.flatten
def Lq.ok{E:Nat->Prop}(h:Lq ls E)(z:∀i,¬E i):JY ls:={h.ne,h.le,λi x y G e2=>(h.nb i x y G e2).resolve_left<|z i,h.up}
noncomputable def lE(ls:Mv)(i:Nat):List (List Int):=match ls[i]?,ls[i+1]? with
 |some x,some y=>if x.length+y.length<5 then(ls.set i<|x++y).eraseIdx (i+1)else ls
 |_,_=>ls
set_option tactic.hygienic true in
def ss(h:ls.length<=i+1):lE ls i=ls:=by
 unfold lE;have:ls[i+1]?=none:=QQ.mpr h;rw[this];split
 .rename_i h2;cases h2
 .rfl
def wS(ex:ls[i]?=some x)(z:ls[i+1]?=some y):lE ls i=if x.length+y.length<5 then(ls.set i<|x++y).eraseIdx (i+1)else ls:=by
 unfold lE;rw[ex,z]
def Bd:(lE ls i).length<=ls.length/\ls.length<=(lE ls i).length+1:=by
 unfold lE;split
 .split
  .rw[ZV,Qs];split<;>lia
  .lia
 .lia
set_option tactic.hygienic true in
def sr{z v:Mb}(e:((ls.set i z).eraseIdx<|i+1)[j]?=some v):(j<i/\ls[j]?=some v)\/(j=i/\v=z)\/(i<j/\ls[j+1]?=some v):=by
 rw[List.getElem?_eraseIdx]at e;split at e
 .rename_i c
  rw[Qf]at e;by_cases h:i=j
  .rw[Xm h]at e;split at e
   .cases e;exact .inr<|.inl ⟨h.symm,M⟩
   .cases e
  .rw[Xl h]at e;exact .inl {(),e}
 .rename_i c
  rw[Qf,Xl ()]at e;exact .inr<|.inr {(),e}
def Bc(ex:ls[i]?=some x)(z:ls[i+1]?=some y):((ls.set i<|x++y).eraseIdx<|i+1).flatten=ls.flatten:=by
 have hi:=(Q3.mp ex).1;have lt:(ls.take i).length=i:=by rw[Qo];lia
 have hy:ls.drop (i+1)=y::ls.drop (i+2):=by
  let{h,e}:=Q3.mp z;rw[<-e,<-ZE h]
 have G:(ls.set i<|x++y).eraseIdx (i+1)=ls.take i++(x++y)::ls.drop (i+2):=by
  rw[uU ex,hy,List.eraseIdx_append_of_length_le (),lt];have:i+1-i=1:=();rw[this];rfl
 rw[G,fE ex,hy,Zi,QU,QU,X6]
def Lq.join{E:Nat->Prop}(h:Lq ls E)(I:∀j,E j->j=i\/j+1=i):Lq (lE ls i) (λj=>j+1=i/\E j)/\(lE ls i).flatten=ls.flatten:=by
 cases ex:ls[i]? with
 |none=>
  have hl:ls.length<=i:=QQ.mp ex;rw[ss ()];refine{{h.ne,h.le,λj x y G e2=>?_,h.up},M};rcases h.nb j x y G e2 with z|z
  .rcases I j z with rfl|w
   .rw[ex]at G;cases G
   .exact .inl ⟨w,z⟩
  .exact .inr z
 |some x=>
  cases O:ls[i+1]? with
  |none=>
   have hl:ls.length<=i+1:=QQ.mp O;rw[ss hl];refine{{h.ne,h.le,λj x' y G e2=>?_,h.up},M};rcases h.nb j x' y G e2 with z|z
   .rcases I j z with rfl|w
    .rw[O]at e2;cases e2
    .exact .inl ⟨w,z⟩
   .exact .inr z
  |some y=>
   rw[wS ex O];by_cases c:x.length+y.length<5
   .rw[Xm c];have fl:=Bc ex O;have mem:∀v∈(ls.set i<|x++y).eraseIdx (i+1),v=x++y\/v∈ls:=λv Y=>by
     let{j,hj,e}:=QC Y;rcases sr (Q3.mpr ⟨hj,e⟩)with⟨_,q⟩|⟨_,q⟩|⟨_,q⟩
     .exact .inr<|Q0 q
     .exact .inl q
     .exact .inr<|Q0 q
    have px:=QD.mpr (h.ne x<|Q0 ex);have a0:(x++y).length=x.length+y.length:=Qd;refine{{λv Y=>?_,λv Y=>?_,λj u v G e2=>?_,by rw[fl];exact h.up},fl}
    .rcases mem v Y with rfl|q
     .exact QR ()
     .exact h.ne v q
    .rcases mem v Y with rfl|q
     .lia
     .exact h.le v q
    .rcases sr G with⟨c1,S⟩|⟨c1,S⟩|⟨c1,S⟩<;>rcases sr e2 with⟨Z,U⟩|⟨Z,U⟩|⟨Z,U⟩<;>(try lia)
     .rcases h.nb j u v S U with z|z
      .rcases I j z with w|w
       .lia
       .lia
      .exact .inr z
     .rcases h.nb j u x S (by rwa[Z])with z|z
      .exact .inl ⟨Z,z⟩
      .rw[U];exact .inr ()
     .have e3:ls[i+1+1]?=some v:=by rwa[<-c1]
      rcases h.nb (i+1) y v O e3 with z|z
      .rcases I (i+1) z with w|w<;>lia
      .rw[S];exact .inr ()
     .rcases h.nb (j+1) u v S U with z|z
      .rcases I (j+1) z with w|w<;>lia
      .exact .inr z
   .rw[Xl c];refine{{h.ne,h.le,λj u v G e2=>?_,h.up},M};rcases h.nb j u v G e2 with z|z
    .rcases I j z with w|w
     .subst w;rw[ex]at G;rw[O]at e2;cases G;cases e2;exact .inr ()
     .exact .inl ⟨w,z⟩
    .exact .inr z
def yw(h:d9 l):l.Nodup:=h.imp λh=>Int.ne_of_lt h
def JY.gone(o:JY ls)(ex:ls[i]?=some x)(hk:k∈x):d9 (ls.set i<|x.erase k).flatten/\∀z,z∈(ls.set i<|x.erase k).flatten↔z≠k/\z∈ls.flatten:=by
 have G:=o.up;rw[fE ex]at G;let{U,I,Y,O,Z,S}:=L0.mp G;have sub:(x.erase k).Sublist x:=List.erase_sublist;have nx:=yw I;rw[m4 ex,fE ex];refine{L0.mpr {U,I.sublist sub,Y,λa ha b hb=>O a ha b<|sub.subset hb,Z,λa ha b hb=>S a (sub.subset ha) b hb},λz=>?_};rw[Qb,Qb,Qb,Qb,nx.mem_erase_iff];constructor
 .rintro (h|⟨h1,h2⟩|h)
  .have:=O z h k hk;exact{(),.inl h}
  .exact{h1,.inr<|.inl h2}
  .have:=S k hk z h;exact{(),.inr<|.inr h}
 .rintro ⟨h0,h|h|h⟩
  .exact .inl h
  .exact .inr<|.inl ⟨h0,h⟩
  .exact .inr<|.inr h
def JY.shrunk(o:JY ls)(ex:ls[i]?=some x)(G:y≠[])(U:y.length<=x.length)(I:d9 (ls.set i y).flatten):Lq (ls.set i y) (λj=>j=i\/j+1=i):=by
 have hx:=o.le x (Q0 ex);refine{λl hl=>?_,λl hl=>?_,λj a b f g=>?_,I}
 .rcases qt ex hl with rfl|hl
  .exact G
  .exact o.ne l hl
 .rcases qt ex hl with rfl|hl
  .lia
  .exact o.le l hl
 .rcases nS ex f with⟨c,_⟩|⟨c,O⟩
  .exact .inl<|.inl c.symm
  .rcases nS ex g with⟨z,_⟩|⟨z,S⟩
   .exact .inl<|.inr z.symm
   .exact .inr<|o.nb j a b O S
def JY.out(o:JY ls)(ex:ls[i]?=some x)(Y:x.length=1)(I:d9 (ls.set i []).flatten):JY (ls.eraseIdx i)/\(ls.eraseIdx i).flatten=(ls.set i []).flatten:=by
 have hi:=(Q3.mp ex).1;have lt:(ls.take i).length=i:=by rw[Qo];lia
 have O:ls.eraseIdx i=ls.take i++ls.drop (i+1):=List.eraseIdx_eq_take_drop_succ _ _;have fl:(ls.eraseIdx i).flatten=(ls.set i []).flatten:=by
  rw[O,m4 ex,Zi];rfl
 refine{{λl hl=>o.ne l<|QI hl,λl hl=>o.le l<|QI hl,λj a b f g=>?_,by rw[fl];exact I},fl};rcases kS f with⟨S,z⟩|⟨S,z⟩<;>rcases kS g with⟨U,G⟩|⟨U,G⟩
 .exact o.nb j a b z G
 .have e2:j+1=i:=();subst e2;have h1:=o.nb j a x z ex;have h2:=o.nb (j+1) x b ex G;lia
 .lia
 .exact o.nb (j+1) a b z G
def Kp(_K:J4)(t:JM)(H:Hp)(a:G')(F:Mi)(ks:Mb):Prop:=∃L A ls,KP t H a L A ls/\JY ls/\ls.flatten=ks/\∀b,F b↔Ks a L A b
def Kp.ins(h:Kp K t H a F ks):∃dx fs,H a=some (.ins t.bP dx fs)/\∀m,m≠(ri:Str)->fs.lookup m=none:=by
 let{L,A,ls,hb,_}:=h;let{dx,ho}:=hb.obj;exact{dx,_,ho,λm z=>Gv z}
def Kp.dom(h:Kp K t H a F ks)(hb:F b):∃o,H b=some o:=by
 let{L,A,ls,h1,_,_,h2}:=h;exact h1.dom<|(h2 b).mp hb
def Kp.frame(h:Kp K t H a F ks)(f:∀b,F b->H' b=H b):Kp K t H' a F ks:=by
 let{L,A,ls,h1,z,G,h2}:=h;exact{L,A,ls,h1.frame λb hb=>f b<|(h2 b).mpr hb,z,G,h2}
def Kp.same(h:Kp K t H a F ks)(s:JA H H'):Kp K t H' a F ks:=h.frame λb hb=>by
 let{o,e}:=h.dom hb;rw[e];exact s b o e
def Kp.out(h:Kp K t H a F ks)(e:H p=none):¬F p:=λz=>by
 let{o,q}:=h.dom z;rw[q]at e;cases e
def RsL(K:J4)(t:JM)(a:G')(F:Mi)(ks:Mb)(H:Hp)(C:G')(fs:Mo)(E:XK):Prop:=
 ∀(ea:G')(od:Me)(H':Hp)(F':Mi),Jy H' ea od C fs->Kp K t H' a F' ks->Fr F F' H H'->E (.ref ea) od H'
def pX(K:J4)(t:JM):Sp:=λvs H Q _=>∃(a dx:G'),vs=[.ref a]/\H a=some (.ins t.bP dx [])/\H dx=some (.own a)/\∀H' F,Kp K t H' a F []->Fr (λb=>b=a\/b=dx) F H H'->Q .non H'
def qT(K:J4)(t:JM):Sp:=λvs H Q _=>∃(a:G')(k:Int)(F:Mi)(ks:Mb),vs=[.ref a,.int k]/\Kp K t H a F ks/\∀H' F',Kp K t H' a F' ks->Fr F F' H H'->Q (.bl<|decide (k∈ks)) H'
def qU(K:J4)(t:JM):Sp:=λvs H Q E=>∃(a:G')(k:Int)(F:Mi)(ks:Mb),vs=[.ref a,.int k]/\Kp K t H a F ks/\ks.length<4096/\
 (k∉ks->∀H' F' ks',Kp K t H' a F' ks'->(∀z,z∈ks'↔z=k\/z∈ks)->Fr F F' H H'->Q .non H')/\(k∈ks->RsL K t a F ks H t.bq [(ew,.int k)] E)
def mf(K:J4)(t:JM):Sp:=λvs H Q E=>∃(a:G')(k:Int)(F:Mi)(ks:Mb),vs=[.ref a,.int k]/\Kp K t H a F ks/\ks.length<4096/\
 (k∈ks->∀H' F' ks',Kp K t H' a F' ks'->(∀z,z∈ks'↔z≠k/\z∈ks)->Fr F F' H H'->Q .non H')/\(k∉ks->RsL K t a F ks H t.bj [(ew,.int k)] E)
def JY.short(o:JY ls):ls.length<=ls.flatten.length:=by
 have h:=o.ne;clear o
 induction ls with
 |nil=>exact Q4 _
 |cons x r z=>
  have:=QD.mpr (h x Q8);have:=z λl hl=>h l (Q7 _ hl);rw[QU,Qd,Q9];lia
structure DY(kd:Str)(fs:Mo)(a e:V):Prop where
 ki:fs.lookup ("kind":Str)=some (.str kd)
 at_:fs.lookup (nD:Str)=some a
 end_:fs.lookup (qs:Str)=some e
 wo:fs.lookup ("words":Str)=none
 ho:fs.lookup ("holds":Str)=none
def okS(a e:V):Prop:=∃i j,a= .int i/\e= .int j/\0<=i/\i<=j/\j<=65536
def Le(a e:V):Prop:=∃i,a= .int i/\0<=i/\(e= .non\/∃j,e= .int j/\i<=j)
def Lx(a e:V):Prop:=∃j,e= .int j/\0<=j/\(a= .non\/∃i,a= .int i/\j<=i)
def Ky(p:G')(H H':Hp):Prop:=∀b o,H b=some o->b≠p->H' b=some o
def RsB(p:G')(H:Hp)(C:G')(E:XK):Prop:=∀(ea:G')(od:Me)(H':Hp),Jy H' ea od C []->Ky p H H'->E (.ref ea) od H'
def wb:Sp:=λvs H Q _=>∃x,vs=[x]/\Sc x/\Q (.bl<|isW x) H
noncomputable def isF(lo:Int):V->Bool
 | .int i=>decide (lo<=i)|_=>false
def yc:Sp:=λvs H Q _=>∃x lo,vs=[x,.int lo]/\Sc x/\Q (.bl<|isF lo x) H
noncomputable def wr:V->Str
 | .int i=>toString i|_=>"-"
def fQ(K:J4):Sp:=λvs H Q _=>∃(p C dx:G')(kd:Str)(a e:V),vs=[.ref p,.str kd,a,e]/\H p=some (.ins C dx [])/\L3 K C/\J6 K C "kind"/\J6 K C nD/\J6 K C qs/\∀H' fs,Ky p H H'->H' p=some (.ins C dx fs)->DY kd fs a e->Q .non H'
def uc(C N:G')(kd:Str)(ok:V->V->Prop):Sp:=λvs H Q E=>∃(p dx:G')(a e:V),vs=[.ref p,a,e]/\H p=some (.ins C dx [])/\Sc a/\Sc e/\
 (ok a e->∀H' fs,Ky p H H'->H' p=some (.ins C dx fs)->DY kd fs a e->Q .non H')/\(¬ok a e->RsB p H N E)
def oO(t:JM):Sp:=uc t.bf t.aJ "slots" okS
def wc(t:JM):Sp:=uc t.gv t.aJ "up" Le
def tq(t:JM):Sp:=uc t.iA t.aJ "down" Lx
def LN(kd:Int)(a e:V):Prop:=(kd=0/\okS a e)\/(kd=1/\Le a e)\/(kd=2/\Lx a e)
def xJ(kd:Str)(a e:V):Str:=Txt.join (" ":Str) [kd,wr a,wr e]
def Lo(t:JM)(kd:Int):Addr:=if kd=0 then t.bf else if kd=1 then t.gv else t.iA
noncomputable def Ll(kd:Int):Str:=if kd=0 then "slots" else if kd=1 then "up" else "down"
def kO{x:G'}(h1:H x=none)(h2:H dx=none)(k:Ky x (upd (upd H dx<|.own x) x<|.ins C dx []) H'):JA H H':=λb o q=>by
 refine k b o ?_<|ai q h1;rw[ae (ai q h1),ae (ai q h2)];exact q
def Kr(t:JM)(H:Hp)(p:G')(kd:Int)(a e:V):Prop:=∃(dx:G')(fs:Mo),H p=some (.ins (Lo t kd) dx fs)/\DY (Ll kd) fs a e
def Kr.same{kd:Int}{a e:V}(h:Kr t H p kd a e)(s:JA H H'):Kr t H' p kd a e:=by
 let{dx,fs,h1,h2}:=h;exact{dx,fs,s _ _ h1,h2}
def LN.kd{kd:Int}{a e:V}(h:LN kd a e):kd=0\/kd=1\/kd=2:=by
 rcases h with⟨h,_⟩|⟨h,_⟩|⟨h,_⟩
 .exact .inl h
 .exact .inr<|.inl h
 .exact .inr<|.inr h
def LN.s{a e:V}(h:LN 0 a e):okS a e:=by
 rcases h with⟨_,h⟩|⟨h,_⟩|⟨h,_⟩
 .exact h
 .cases h
 .cases h
def LN.u{a e:V}(h:LN 1 a e):Le a e:=by
 rcases h with⟨h,_⟩|⟨_,h⟩|⟨h,_⟩
 .cases h
 .exact h
 .cases h
def LN.d{a e:V}(h:LN 2 a e):Lx a e:=by
 rcases h with⟨h,_⟩|⟨h,_⟩|⟨_,h⟩
 .cases h
 .cases h
 .exact h
def B0{k z:Str}{a e:V}(h:k++(" ":Str)=z):xJ k a e=z++wr a++(" ":Str)++wr e:=by
 rw[<-h];rfl
def up_:("up":Str)++(" ":Str)=("up ":Str):=by decide+kernel
section
variable{P:Mc}{w:Md}{mg:Mm}{base:Heap}
def yb:Sp:=λvs H Q _=>∃k:Int,vs=[.int k]/\Q (.int<|k%65536) H
def ya:Sp:=λvs H Q _=>∃k n:Int,vs=[.int k,.int n]/\0<n/\Q (.int<|k%65536%n) H
def yu(T:Txt K mg t w):J9 P w K mg base JT 1 t.uJ t.pA [ew] yb:=by
 let{G,z}:=T.g_PLACES;refine T.Bu.okl yi λs H vs Q E I h _=>?_;intro X;let{n,rfl,k}:=h;refine{_,(av<|aD<|bd hV J7<|bv (v:= .int 65536) {_} z {_,M})
  ,?_}
 exact{_,M,_,_,M,M,(by show(0:Int)<65536;decide),k}
def rJ(T:Txt K mg t w):J9 P w K mg base JT 2 t.uI t.pz [ew,"size"] ya:=by
 refine T.pD.okl yg λs H vs Q E z h _=>?_;intro X;let{n,m,rfl,G,k}:=h;refine{_,(av<|aD<|bd hV (a4 (yu T) z.mo {_} T.HY T.Bu.kp T.Ib .nil aS (aa J7 af)) JB)
  ,?_}
 exact{_,M,_,M,_,M,_,_,M,M,G,k}
def ye(K:J4):Sp:=λvs H Q _=>∃(e C:G')(bm:Lz)(x:V),vs=[.ref e,x]/\H e=some (XN e C none)/\JF K C bm/\J6 K C ew/\∀dx,H dx=none->Q .non (upd (upd H dx<|.xd [(ew,x)]) e<|XN e C<|some dx)
def qQ(K:J4):Sp:=ye K
def qO(K:J4):Sp:=ye K
def j8(T:Txt K mg t w):J9 P w K mg base JT 1 t.iG t.io [cj,ew] (qQ K):=by
 refine T.Ev.okl rg λs H vs Q E I h _=>?_;intro X;let{e,C,bm,x,rfl,he,Y,z,k}:=h;refine ag (bc<|qp {_} T.fB T.dI (aa J7<|aa a7 af))
   (aw (qo J7 JB M) ?_)
 intros
 exact{_,M,e,C,none,_,bm,M,(by show 1<=1000;decide),he,Y,_,M,_,M,e,C,bm,M,he,Y,z,λdx G=>k dx G}
def rN(T:Txt K mg t w):J9 P w K mg base JT 1 t.iE t.ig [cj,ew] (qO K):=by
 refine T.Et.okl rb λs H vs Q E I h _=>?_;intro X;let{e,C,bm,x,rfl,he,Y,z,k}:=h;refine ag (bc<|qp {_} T.fB T.dI (aa J7<|aa a7 af))
   (aw (qo J7 JB M) ?_)
 intros
 exact{_,M,e,C,none,_,bm,M,(by show 1<=1000;decide),he,Y,_,M,_,M,e,C,bm,M,he,Y,z,λdx G=>k dx G}
def oU{I:XK}{x:V}(Y:JF K C bm)(O:J6 K C ew)(r:∀(ea:G')(od:Me)(H':Hp),Jy H' ea od C [(ew,x)]->JA H H'->E (.ref ea) od H')(hi:W[i]?=some (some x)):
  mq K (xS C (ye K) [] I<|qE (xQ i) vZ) E D W H:=by
 refine{x,hi,(by show 1<=1000;decide),λea z=>{ea,C,bm,x,M,I0,Y,O,λdx G=>{M,ea,C,some dx,bm,M,I0,Y,?_}}};rw[bW];have ne:dx≠ea:=(ai I0 G).symm;have S:H dx=none:=by rw[ae ne]at G;exact G
 refine r ea (some dx) _ {I0,.inr {dx,M,by rw[ae ne,I0]}} λb o q=>?_;rw[ae (ai q z),ae (ai q S),ae (ai q z)];exact q
def AB(h:n<=4096):n<sizeLine:=ZC h (_)
def uQ:Sp:=λvs H Q _=>∃n:Int,vs=[.int n]/\0<=n/\n<=1000/\∀H' r A,JA H H'->H r=none->(∀b∈A,H b=none)->JJ H' r A (List.replicate n.toNat []) n->Q (.ref r) H'
set_option tactic.hygienic true in
def nJ(T:Txt K mg t w):J9 P w K mg base JT 1 t.pK t.kr ["size"] uQ:=by
 refine T.kJ.okl uV λs H vs Q E hr h _=>?_;intro X;let{n,rfl,n0,n1,q}:=h;refine{_,(av<|aD<|nE M (JL.of (M':=["slot"]) (N:=["size"]) (N':=["size"]) (dsc:=ah gH) M M ∅) (fK {_} T.mJ (aa J7 af))<|λ_ _ _ _ _=>iO)
  ,?_}
 refine{_,M,n,M,(),(),λD Y=>?_};refine jE (n:=n.toNat) (lo:=0) (λi ys H3=>JA H H3/\∃as:List Addr,ys=as.map V.ref/\as.length=i/\(∀b∈as,H b=none/\b≠D/\H3 b=some (.dK []))/\∀(x y:Nat)(b:G'),as[x]?=some b->as[y]?=some b->x=y)
  {au Y,[],M,M,(λb hb=>by cases hb),λx y b e=>by simp at e} (λi ys H3 hi Z G=>?_) (λys H3 Z G=>?_)
 .let{s3,as,U,el,hb,inj}:=Z;intro c O;have cD:c≠D:=(ai G O).symm;have I:c∉as:=λz=>by
   have:=(hb c z).2.2;rw[O]at this;cases this
  have nH:H c=none:=by
   cases e:H c with
   |none=>rfl
   |some o=>rw[s3 c o e]at O;cases O
  refine KB.mk hi (by rwa[ae cD.symm]) (by rw[U,Q2];exact bn ()) {iK (s3.trans<|au O) Y,as++ [c],by rw[U,Qi];rfl,by rw[Qd,el];rfl,λb a0=>?_,λx y b e1 e2=>?_}
  .rcases Qb.mp a0 with z|z
   .let{h1,h2,h3}:=hb b z;exact{h1,h2,by rwa[ae h2,ae (λw=>I<|by rw[<-w];exact z)]}
   .rw[Qe.mp z];exact{nH,cD,by rw[ae cD,I0]}
  .have S:∀x:Nat,(as++ [c])[x]?=some b->as[x]?=some b\/(x=as.length/\b=c):=λx e=>by
    rw[ZU]at e;split at e
    .exact .inl e
    .rename_i w
     have:x-as.length=0:=by
      rcases Zk (x-as.length)with z|z
      .exact z
      .rw[List.getElem?_eq_none (by simp;lia)]at e;cases e
     rw[this]at e;cases e;exact .inr {(),M}
   rcases S x e1 with f1|⟨f1,g1⟩<;>rcases S y e2 with f2|⟨f2,g2⟩
   .exact inj x y b f1 f2
   .subst g2;exact Xp (Q0 f1) I
   .subst g1;exact Xp (Q0 f2) I
   .lia
 .let{s3,as,U,el,hb,inj}:=Z;refine q H3 D as s3 Y (λb z=>(hb b z).1) {by rw[G,U],by rw[el];lia,by rw[QN];lia,λj b kv e1 e2=>?_,λj kv e=>?_,inj,λj kv e p hp=>?_}
  .rw[QW (Q0 e2)];exact(hb b<|Q0 e1).2.2
  .rw[QW (Q0 e)];exact Zb
  .rw[QW (Q0 e)]at hp;cases hp
def mW(t:JM):Sp:=λvs H Q _=>∃(a:G')(k:Int)(st:JO)(d:LX),vs=[.ref a,.int k]/\Js t H a st d/\JV st/\∀c kv,IsCell d st k c kv->Q (.ref c) H
def kW(t:JM):Sp:=λvs H Q _=>∃(a:G')(st:JO)(d:LX),vs=[.ref a]/\Js t H a st d/\JV st/\st.kv.length<4096/\∀H' d',Js t H' a st.one d'->d'.n=d.n->Fr (Kj a st d) (Kj a st.one d') H H'->Q .non H'
def kX(t:JM):Sp:=λvs H Q _=>∃(a:G')(st:JO)(d:LX),vs=[.ref a]/\Js t H a st d/\JV st/\d.n=(st.kv.length:Int)/\∀H' d',Js t H' a st.three d'->d'.n=d.n->Fr (Kj a st d) (Kj a st.three d') H H'->Q .non H'
def vi{z:Int}(G:0<=z)(e:A[z.toNat]?=some c):LB (A.map V.ref) z=some (.ref c):=by
 let{j,rfl}:=Zn G;refine qy ?_;rw[Qk];have e:A[j]?=some c:=e;rw[e];rfl
def dH(T:Txt K mg t w):J9 P w K mg base JT 3 t.iZ t.eI [cj,ew] (mW t):=by
 refine T.Bv.okl m5 λs H vs Q E S h _=>?_;intro X;let{a,k,st,d,rfl,hb,z,q}:=h;refine ag (Ju 2<|bI bp (aE J7 M) ak<|λ_ _=>M)
   (ag (Ju 3<|a4 (rJ T) S.mo {_} T.uo T.pD.kp T.uH .nil aS (aa JB<|aa (ay aN {_} T.cu bO (aa JG af)) af))
   (ag (aU (az CQ K3 (aE J7 M)<|aC _)
    (av<|aD<|bI bp JG K3<|λ_ _=>M)
    ar)
   (ag (Ju 4<|bI bp (aE J7 M) ak<|λ_ _=>M)
   (aw (aD<|bI bp L9 (a4 (rJ T) S.mo {_} T.uo T.pD.kp T.uH .nil aS (aa JB<|aa (ay aN {_} T.cu bO (aa L9 af)) af))<|λ_ _=>M) ?_))))
 intros
 let{dx,ho}:=hb.obj;let{s4,s5}:=dG z.pw;let{I,U,m2}:=pd (k:=k) s4;have t0:∃xs,H d.tb=some (.lst xs)/\LB xs 0=some (.ref d.r0):=by
  refine{_,hb.tbl,?_};cases st.nxt<;>rfl
 let{xs,hx,x0}:=t0;have a0:∀{Q':VK},Q' (.ref d.tb) H->tFld K (xQ 0) "table" [some (.ref a),some (.int k),none,none,none] H Q':=λ{Q'} q=>{_,M,a,_,dx,_,_,M,ho,T.aQ,T.be,jH,q};have Y:((d.A0.map V.ref).length:Int)=st.size:=by rw[Q2];exact hb.row0.la
 refine{_,M,a,_,dx,_,_,M,ho,T.aQ,T.be,jH,d.tb,_,_,_,M,M,JC.of hx,x0,?_};refine{_,M,_,M,d.r0,_,M,.inl<|JC.of hb.row0.lst,k,_,M,by rw[Y];lia,?_};dsimp only;rw[Y];refine{_,M,_,M,a,_,dx,_,_,M,ho,T.aQ,T.bU,wg,_,_,M,M,_,M,nQ (λc=>?_)<|λc=>?_}
 .have c:=Xw c;let{x,G}:=cS (l:=d.A0) I (by rwa[hb.row0.la]);let{y,e2}:=cS (l:=d.C0) I (by rwa[hb.row0.lc]);exact{_,M,_,M,d.r0,_,_,_,M,M,JC.of hb.row0.lst,vi I G,q x y<|.inl ⟨c,G,e2⟩}
 .have c:¬st.moved<=k%65536%st.size:=λz=>c (Xn z);cases e:st.nxt with
  |none=>rw[JO.moved_none e]at c;exact Xp I c
  |some m=>
   have hm:=JO.moved_some e;let{pm,_}:=z.nx m e;let{s6,_}:=dG pm;let{O,Z,n2}:=pd (k:=k) s6;have r1:=hb.row1;rw[e]at r1;have ht:=hb.tbl;rw[e]at ht;have lb:((d.A1.map V.ref).length:Int)=m:=by rw[Q2];exact r1.la
   let{x,G}:=cS (l:=d.A1) O (by rwa[r1.la]);let{y,e2}:=cS (l:=d.C1) O (by rwa[r1.lc]);refine{_,M,a,_,dx,_,_,M,ho,T.aQ,T.be,jH,d.tb,_,_,_,M,M,JC.of ht,M,?_};refine{_,M,_,M,_,M,d.r1,_,M,.inl<|JC.of r1.lst,k,_,M,by rw[lb];lia,?_};dsimp only;rw[lb];exact{d.r1,_,_,_,M,M,JC.of r1.lst,vi O G,q x y<|.inr {m,e,(),G,e2}}
def dA(h:n<=100000):n<sizeLine:=ZC h (_)
def Ho{z:Int}(G:0<=z)(h1:z<n):LL n z=some z.toNat:=by unfold LL;rw[Xm G,Xm h1]
def A7{kv:Mg}{k:Key}(e:(aZ kv)[i]?=some (k,v)):∃n:Int,k=Sum.inl n/\kv[i]?=some (n,v):=by
 unfold aZ at e;rw[Qk]at e;cases q:kv[i]? with
 |none=>rw[q]at e;cases e
 |some p=>rw[q]at e;cases e;exact⟨p.1,M,M⟩
def Cb{kv:Mg}{C:List (List<|Int×V)}{p:Int×V}(e:kv[i]?=some p):(kv.take<|i+1).foldl (fh m) C=fh m ((kv.take i).foldl (fh m) C) p:=by
 rw[QK,e,List.foldl_append];rfl
def k9(T:Txt K mg t w):J9 P w K mg base JT 3 t.gy t.de [cj] (kW t):=by
 refine T.yW.okl kY λs H vs Q E hr h _=>?_;intro X;let{a,st,d,rfl,hb,z,hl,q}:=h;refine ag (aU (az bX (ay aN {_} T.cu bO (aa (aE J7 M) af)) ak<|aC _)
    (av nB)
    ar)
   (ag (Ju 1<|bI bp (aE J7 M) ak<|λ_ _=>M)
   (ag (Ju 2<|bI bp (aE J7 M) ak<|λ_ _=>M)
   (bZ (λx=>(zm (oV XR M (CF<|CK Zp PySem.F.slot_dict_items PySem.F.type_dict_items C7<|bI bp JB (aE J7 M)<|λ_ _=>M) (G5 M<|wq (Lj 3)<|wq (Lj 4) E7)
    x))) ?_)))
 refine aw (uY (jJ hr) (bI bp JG (a4 (rJ T) hr.mo {_} T.uo T.pD.kp T.uH .nil aS (aa K3<|aa (ay aN {_} T.cu bO (aa JG af)) af))<|λ_ _=>M) K3 L9 M) ?_
 intros
 refine ag (yo iO<|yp JB (aE J7 M) qZ)
   (ag (oW J7 ak yJ)
   (aw (aU (az bX (aE J7 M) (ay aN {_} T.cu bO (aa JB af))<|aC _)
    (f7 (bK J7 (fe<|aa JG af) M)
    (av<|bK J7 ak M))
    ar) ?_))
 intros
 let{dx,ho}:=hb.obj;have ht:=hb.tbl;cases e:st.nxt with
 |none=>
  rw[e]at ht;refine{_,M,a,_,dx,_,_,M,ho,T.aQ,T.be,jH,d.tb,_,M,.inl<|JC.of ht,M,_,M,lr M ?_};have e1:st.one=st:=by unfold JO.one;rw[e]
  rw[e1]at q;exact q H d hb M Fr.refl
 |some m=>
  rw[e]at ht;refine{_,M,a,_,dx,_,_,M,ho,T.aQ,T.be,jH,d.tb,_,M,.inl<|JC.of ht,M,_,M,bC (λz=>by cases z) ?_};refine{_,M,a,_,dx,_,_,M,ho,T.aQ,T.be,jH,d.tb,_,_,_,M,M,JC.of ht,M,?_};refine{_,M,a,_,dx,_,_,M,ho,T.aQ,T.be,jH,d.tb,_,_,_,M,M,JC.of ht,M,?_};let{pm,v0,v1,_}:=z.nx m e;let{s4,s5}:=dG z.pw;let{s6,s7}:=dG pm;have hm:=JO.moved_some e;rw[hm]at ho;have r1:=hb.row1;rw[e]at r1;let{c0,ec}:=cS (l:=d.A0) v0 (by rwa[hb.row0.la]);let{kv,ek}:=cS (l:=d.C0) v0 (by rwa[hb.row0.lc]);have I:=hb.row0.cell _ _ _ ec ek;have lb:((d.A1.map V.ref).length:Int)=m:=by rw[Q2];exact r1.la
  have a5:c0∉d.A1:=hb.dis c0 (Q0 ec);have al:d.r1≠c0:=cm r1.lst I (by intro z;cases z);have bf:=hb.short0 z ek;have a6:∀b,b=d.r1\/b∈d.A1->∃o,H b=some o:=λb hb1=>by
   rcases hb1 with rfl|hb1
   .exact{_,r1.lst}
   .let{_,_,_,_,w}:=r1.has hb1;exact{_,w}
  refine{c0,aZ kv,I,_,M,_,M,a,_,dx,_,_,M,ho,T.aQ,T.bU,wg,d.r0,_,_,_,M,M,JC.of hb.row0.lst,vi v0 ec,.inr<|.inr<|.inl {M,.inl {_,I}},c0,aZ kv,M,M,I,λvw nv=>?_};have aq:upd H vw (vwO vw c0) c0=some (.dK<|aZ kv):=by rw[ae (ai I nv)];exact I
  refine{vw,c0,aZ kv,M,I0,aq,λob=>?_};refine yL (λi W H'=>∃v3 v4,W=[some (.ref a),some (.ref d.r0),some (.ref d.r1),v3,v4]/\JJ H' d.r1 d.A1 ((kv.take i).foldl (fh m) d.C1) m/\H' c0=some (.frz ob<|.dK<|aZ kv)/\∀b o,b∉d.A1->b≠c0->H b=some o->H' b=some o)
   {_,_,M,?_,I0,λb o _ n2 e=>?_} (λi W H' _ zz=>by let{_,_,_,_,hf,_}:=zz;exact hf) (λi k v p W H' ei zw np=>?_) (λW H' zw=>?_)
  .refine JJ.frame (H:=H) r1 λb hb1=>?_;let{o,w}:=a6 b hb1;have n2:b≠c0:=by
    rcases hb1 with rfl|hb1
    .exact al
    .exact λz=>a5 (z▸hb1)
   rw[ae n2,ae (ai w nv)]
  .rwa[ae n2,ae (ai e nv)]
  .let{v3,v4,a8,hr,hf,hk}:=zw;subst a8;let{n,rfl,en}:=A7 ei;have Z:JJ (upd H' p<|.tup [kV (Sum.inl n),v]) d.r1 d.A1 ((kv.take i).foldl (fh m) d.C1) m:=hr.frame λb hb1=>ae λw=>by
    have:∃o,H' b=some o:=by
     rcases hb1 with rfl|hb1
     .exact{_,hr.lst}
     .let{_,_,_,_,w}:=hr.has hb1;exact{_,w}
    let{o,q}:=this;rw[w,np]at q;cases q
   let{n0,n1,n2}:=pd (k:=n) s6;let{c,e1}:=cS (l:=d.A1) n0 (by rwa[Z.la]);let{y,e2}:=cS (l:=(kv.take i).foldl (fh m) d.C1) n0 (by rwa[Z.lc]);let{y0,e3}:=cS (l:=d.C1) n0 (by rwa[r1.lc]);have yl:=wC e3 e2;have bi:=hb.short1 z e e3;have tl:(kv.take i).length<=kv.length:=by rw[Qo];lia
   have hc:=Z.cell _ _ _ e1 e2;have cA:c∈d.A1:=Q0 e1;refine{p,_,M,Kg.of I0,M,_,_,M,_,_,M,M,?_};refine{_,M,_,M,_,M,_,M,d.r1,_,M,.inl<|JC.of Z.lst,n,_,M,by rw[lb];lia,?_};dsimp only;rw[lb];refine{d.r1,_,_,_,M,M,JC.of Z.lst,vi n0 e1,_,M,c,_,M,L4.k (k:=Sum.inl n) hc (by rw[eG];exact dA ()),?_};rw[iV];have pn:∀b o,H' b=some o->b≠p:=λb o q=>ai q np;refine{_,_,M,?_,?_,λb o nA nc q=>?_}
   .rw[Cb en];exact Z.mov s6 e1 e2
   .rwa[ae (λw=>a5<|by rw[w];exact cA),ae (pn _ _ hf)]
   .have q:=hk b o nA nc q;rw[ae (λw=>nA<|by rw[w];exact cA),ae (pn _ _ q)];exact q
  .let{v3,v4,a8,hr,hf,hk}:=zw;subst a8;rw[eG,Zx]at hr;refine{ob,hf,λb' O=>?_};have hF:∀b,¬Kj a st d b->b∉d.A1/\b≠c0/\b≠a/\b≠d.r0/\b≠d.tb/\b≠d.r1:=λb n=>
    {λq=>n<|.inr<|.inr<|.inr<|.inr<|.inr q,λq=>n<|.inr<|.inr<|.inr<|.inl<|q▸Q0 ec,λq=>n<|.inl q,λq=>n<|.inr<|.inr<|.inl q,λq=>n<|.inr<|.inl q,λq=>n<|.inr (.inr<|.inr<|.inr<|.inl {by rw[e];rfl,q})}
   have a1:∀b o,H b=some o->(∀kvs,o≠ .dK kvs)->b∉d.A1:=λb o q ne w=>(r1.notr w q ne) M;have K1:∀b o,b∉d.A1->b≠c0->H b=some o->upd H' c0 (.dK<|aZ kv) b=some o:=λb o n1 n2 q=>by rw[ae n2];exact hk b o n1 n2 q
   have a0:JJ (upd H' c0<|.dK<|aZ kv) d.r1 d.A1 (kv.foldl (fh m) d.C1) m:=hr.frame λb hb1=>ae (by
    rcases hb1 with rfl|hb1
    .exact al
    .exact λw=>a5<|w▸hb1)
   have am:upd H' c0 (.dK<|aZ kv) c0=some (.dK<|aZ kv):=I0;generalize upd H' c0 (.dK<|aZ kv)=H3 at O K1 a0 am⊢;have S:=K1 a _ (a1 _ _ ho<|λ_ w=>by cases w) (cm ho I<|by intro w;cases w) ho;have a2:=hb.row0.lst;have G:=K1 d.r0 _ (a1 _ _ a2<|λ_ w=>by cases w) (cm a2 I<|by intro w;cases w) a2;have ac:=K1 d.tb _ (a1 _ _ ht<|λ_ w=>by cases w) (cm ht I<|by intro w;cases w) ht;have ax:¬Kj a st d b':=λw=>by
    rcases w with w|w|w|w|⟨_,w⟩|w
    .rw[w,S]at O;cases O
    .rw[w,ac]at O;cases O
    .rw[w,G]at O;cases O
    .let{j,b5,f1,f2,f3}:=hb.row0.has w;by_cases y:b'=c0
     .rw[y,am]at O;cases O
     .rw[K1 b' _ (hb.dis b' w) y f3]at O;cases O
    .rw[w,a0.lst]at O;cases O
    .let{_,_,_,_,w'}:=a0.has w;rw[w']at O;cases O
   have lA:((d.A0.map V.ref).length:Int)=st.size:=by rw[Q2];exact hb.row0.la
   have bo:∀{x:G'}{o:HO},H3 x=some o->x≠b':=λq=>ai q O;refine{_,M,_,M,a,_,dx,_,_,M,(by rw[ae (bo S)];exact S),T.aQ,T.bU,wg,d.r0,_,_,_,M,M,(by rwa[ae (bo G)]),Ho v0 (by rwa[lA]),?_};have g0:H3 d.r1=some (.lst<|d.A1.map V.ref):=a0.lst;have ra:d.r0≠a:=cm a2 ho (by intro w;cases w);have b7:d.r0≠d.r1:=(hb.tr1<|by rw[e];rfl).2;have t1:d.tb≠d.r1:=(hb.tr1<|by rw[e];rfl).1;have ta:d.tb≠a:=cm ht ho (by intro w;cases w);have an:d.r1≠a:=cm r1.lst ho (by intro w;cases w);have Y:∀b∈d.A1,b≠b'/\b≠d.r0/\b≠a:=λb w=>by
    let{_,_,_,_,f}:=a0.has w;exact{bo f,cm f G (by intro w;cases w),cm f S<|by intro w;cases w}
   have es:(d.A0.map V.ref).set st.mv.toNat (V.ref b')=(d.A0.set st.mv.toNat b').map V.ref:=by rw[X7]
   rw[es];have ap:upd (upd H3 b'<|.dK []) d.r0 (.lst<|(d.A0.set st.mv.toNat b').map V.ref) a=some (.ins t.br dx<|Kf d.tb st.mv d.n):=by rw[ae ra.symm,ae (bo S)];exact S
   refine{_,M,a,_,dx,_,_,M,ap,T.aQ,T.bU,wg,_,_,M,M,dx,_,ap,qm,?_};rw[Gr];have a3:∀{o:HO},upd (upd (upd H3 b'<|.dK []) d.r0<|.lst<|(d.A0.set st.mv.toNat b').map V.ref) a o d.r0=some (.lst<|(d.A0.set st.mv.toNat b').map V.ref):=by
    intro o;rw[ae ra,I0]
   have lS:(((d.A0.set st.mv.toNat b').map V.ref).length:Int)=st.size:=by rw[Q2,Qs];exact hb.row0.la
   refine{_,M,a,_,dx,_,_,M,I0,T.aQ,T.bU,wg,_,M,d.r0,_,M,.inl<|JC.of a3,M,_,M,?_};rw[lS];have U:∀{o:HO},JJ (upd (upd (upd H3 b'<|.dK []) d.r0<|.lst<|(d.A0.set st.mv.toNat b').map V.ref) a o) d.r1 d.A1 (kv.foldl (fh m) d.C1) m:=λ{o}=>a0.frame λb hb1=>by
    have:b≠b'/\b≠d.r0/\b≠a:=by
     rcases hb1 with rfl|hb1
     .exact{bo g0,b7.symm,an}
     .exact Y b hb1
    rw[ae this.2.2,ae this.2.1,ae this.1]
   have K6:∀{o':HO}(b:G')(o:HO),¬Kj a st d b->H b=some o->upd (upd (upd H3 b'<|.dK []) d.r0<|.lst<|(d.A0.set st.mv.toNat b').map V.ref) a o' b=some o:=λ{o'} b o n q=>by
    let{f1,f2,f3,f4,_}:=hF b n;have q3:=K1 b o f1 f2 q;rwa[ae f3,ae f4,ae (bo q3)]
   refine nQ (λc=>?_)<|λc=>?_
   .have c:st.mv+1=st.size:=V.int.inj (Xw c);refine{_,M,(by show 1<=sizeLine;decide),λtb' nt=>{_,M,a,_,dx,_,M,(by rw[ae (ai I0 nt)];exact I0),T.aQ,T.be,qm,?_}};rw[IJ];refine{_,M,a,_,dx,_,M,I0,T.aQ,T.bU,qm,?_};rw[Gr,bW];have b8:tb'≠a:=(ai I0 nt).symm;have bb:tb'≠d.r1:=(ai (U (o:= .ins t.br dx<|Kf d.tb (st.mv+1) d.n)).lst nt).symm;refine q _ _ (hb.last z e ek (tb':=tb') (dx:=dx) c I0 (by rw[ae b8];exact I0) bb ?_) M<|λb o n w=>?_
    .refine(U (o:= .ins t.br dx<|Kf d.tb (st.mv+1) d.n)).frame λb hb1=>?_;have:b≠a:=by
      rcases hb1 with rfl|hb1
      .exact an
      .exact(Y b hb1).2.2
     rw[ae this,ae (λw=>?_)];obtain⟨o,f⟩:∃o,upd (upd (upd H3 b'<|.dK []) d.r0<|.lst<|(d.A0.set st.mv.toNat b').map V.ref) a (.ins t.br dx<|Kf d.tb (st.mv+1) d.n) b=some o:=by
      rcases hb1 with rfl|hb1
      .exact{_,U.lst}
      .let{_,_,_,_,f}:=U.has hb1;exact{_,f}
     rw[w,nt]at f;cases f
    .let{f1,f2,f3,f4,f5,f6}:=hF b n;have k6:=K6 (o':= .ins t.br dx<|Kf d.tb (st.mv+1) d.n) b o n w;have bt:b≠tb':=ai k6 nt;refine{by rwa[ae f3,ae bt],λy=>?_};rcases y with y|y|y|y|⟨_,y⟩|y
     .exact f3 y
     .exact bt y
     .exact f6 y
     .exact f1 y
     .exact f6 y
     .cases y
   .have c:st.mv+1≠st.size:=λw=>c (Xn<|by rw[w]);refine q _ _ (hb.one z e ek (b':=b') (dx:=dx) c I0 (by rw[ae ta,ae hb.tr,ae (bo ac),ac,hb.tbl,e]) a3 ?_ ax (λj b f1 f2=>?_) U) M<|λb o n w=>{K6 b o n w,λy=>?_}
    .have n1:b'≠a:=(bo S).symm;have n2:b'≠d.r0:=(bo G).symm;rw[ae n1,ae n2];exact I0
    .have bA:=Q0 f1;let{_,b5,_,_,f}:=hb.row0.has bA;have nc:b≠c0:=λw=>f2 (hb.row0.inj j _ c0 (w▸f1) ec);have f3:=K1 b _ (hb.dis b bA) nc f;rw[ae (cm f3 S<|by intro w;cases w),ae (cm f3 G<|by intro w;cases w),ae (bo f3),f3,f]
    .let{f1,f2,f3,f4,f5,f6}:=hF b n;rcases y with y|y|y|y|⟨_,y⟩|y
     .exact f3 y
     .exact f5 y
     .exact f4 y
     .let{j,hj,ej}:=QC (show b∈d.A0.set st.mv.toNat b' from y);rcases cX (Q3.mpr ⟨hj,ej⟩)with⟨_,g⟩|⟨_,g⟩
      .have:=K1 b o f1 f2 w;rw[g,O]at this;cases this
      .exact n<|.inr (.inr<|.inr<|.inl<|Q0 g)
     .exact f6 y
     .exact f1 y
def lh(T:Txt K mg t w):J9 P w K mg base JT 2 t.gE t.dj [cj] (kX t):=by
 let{O,G}:=T.g_GREATEST_SIZE;let{U,I}:=T.g_LEAST_SIZE;refine T.yX.okl kZ λs H vs Q E Z h _=>?_;intro X;let{a,st,d,rfl,hb,z,hn,q}:=h;refine ag (aU (az bX (ay aN {_} T.cu bO (aa (aE J7 M) af)) ak<|aC _)
    (av nB)
    ar)
   (ag (Ju 1<|ay aN {_} T.cu bO (aa (bI bp (aE J7 M) ak<|λ_ _=>M) af))
   (IL (λx y=>aU (PW.pt<|c6 (az uh (aE J7 M) JB<|aC _)<|cv<|az jI JB (bv (v:= .int 256) {_} G {_,M})<|aC _) x y) ?_))
 refine aw (bc<|eu Qq QX QY fL (aE J7 M)<|aa (a4 (nJ T) Z.mo {_} T.pF T.kJ.kp T.pJ .nil aS (aa (bd yr JB ak) af)) af) ?_
 intros
 refine CZ (λx=>aU (PW.pt<|c6 (az jI (bd yr ak<|aE J7 M) JB<|aC _)<|cv<|az uh JB (bv (v:= .int 4) {_} I {_,M})<|aC _) x ar) ?_;refine aw (bc<|eu Qq QX QY fL (aE J7 M)<|aa (a4 (nJ T) Z.mo {_} T.pF T.kJ.kp T.pJ .nil aS (aa (bd nI JB ak) af)) af) ?_
 intros
 let{dx,ho}:=hb.obj;have S:=hb.tbl;cases e:st.nxt with
 |some m=>
  rw[e]at S;refine{_,M,a,_,dx,_,_,M,ho,T.aQ,T.be,jH,d.tb,_,M,.inl<|JC.of S,M,_,M,lr M ?_};have e1:st.three=st:=by unfold JO.three;rw[e]
  rw[e1]at q;exact q H d hb M Fr.refl
 |none=>
  rw[e]at S;refine{_,M,a,_,dx,_,_,M,ho,T.aQ,T.be,jH,d.tb,_,M,.inl<|JC.of S,M,_,M,bC (λz=>by cases z) ?_};have la:((d.A0.map V.ref).length:Int)=st.size:=by rw[Q2];exact hb.row0.la
  let{a3,a5}:=dG z.pw;refine{_,M,a,_,dx,_,_,M,ho,T.aQ,T.be,jH,d.tb,_,_,_,M,M,JC.of S,M,d.r0,_,M,.inl<|JC.of hb.row0.lst,?_};dsimp only;rw[la];have fin:∀{m:Int}{H':Hp}{r:G'}{A:Mh},st.three={st with nxt:=some m,mv:=0}->JA H H'->H r=none->(∀b∈A,H b=none)->JJ H' r A (List.replicate m.toNat []) m->H' d.tb=some (.lst [.ref d.r0])/\Q .non (upd H' d.tb<|.lst<|[.ref d.r0]++ [.ref r]):=λ{m H' r A} e3 s nr nA Z=>by
   have a0:=s _ _ S;have Y:∀b,Kj a st d b->∃o,H b=some o:=λb w=>hb.dom w;have a1:¬Kj a st d r:=λw=>by let{o,q}:=Y r w;rw[nr]at q;cases q
   have a2:∀b∈A,¬Kj a st d b:=λb hA w=>by let{o,q}:=Y b w;rw[nA b hA]at q;cases q
   refine{a0,?_};have sb:=hb.begin (H':=upd H' d.tb<|.lst [.ref d.r0,.ref r]) e (m:=m) (r:=r) (A:=A) (by rw[ae (cm ho S<|by intro w;cases w),s _ _ ho,ho]) I0 (λb hb1=>?_) (Z.frame λb hb1=>ae ?_) a1 a2
   .rw[<-e3]at sb;refine q _ _ sb M λb o n w=>{?_,λy=>?_}
    .rw[ae (λv=>n<|.inr<|.inl v)];exact s _ _ w
    .rw[e3]at y;rcases y with y|y|y|y|⟨_,y⟩|y
     .exact n<|.inl y
     .exact n<|.inr (.inl y)
     .exact n<|.inr (.inr<|.inl y)
     .exact n<|.inr (.inr<|.inr<|.inl y)
     .have y:b=r:=y;rw[y,nr]at w;cases w
     .rw[nA b y]at w;cases w
   .let{o,q}:=Y b (by
     rcases hb1 with w|w
     .exact .inr<|.inr (.inl w)
     .exact .inr<|.inr<|.inr<|.inl w)
    have:b≠d.tb:=by
     rcases hb1 with w|w
     .rw[w];exact hb.tr.symm
     .exact hb.row0.notr w S<|λ_ z=>by cases z
    rw[ae this,s _ _ q,q]
   .rcases hb1 with w|w
    .rw[w];exact λv=>by rw[v,S]at nr;cases nr
    .exact λv=>by have:=nA b w;rw[v,S]at this;cases this
  by_cases cA:st.size<d.n/\st.size<256
  .have e3:st.three={st with nxt:=some (2*st.size),mv:=0}:=by
    unfold JO.three;rw[e];exact Xm<|by rwa[<-hn]
   refine{_,M,a,_,dx,_,_,M,ho,T.aQ,T.bS,pE,_,M,_,_,M,M,_,M,cn cA.1 {_,M,_,_,M,M,_,M,cn cA.2 ?_}};refine{_,M,a,_,dx,_,_,M,ho,T.aQ,T.be,jH,.inl {M,_,JC.of S},_,M,_,_,M,M,.inr {(_),(_)},_,M,(),(),λH' r A s nr nA Z=>?_};let{f1,f2}:=fin (m:=st.size*2) (by rw[e3,Int.mul_comm]) s nr nA Z;exact{d.tb,_,_,M,M,f1,bn (by show 1<=1000;decide),f2}
  .by_cases cB:4*d.n<st.size/\4<st.size
   .have e3:st.three={st with nxt:=some (st.size/2),mv:=0}:=by
     unfold JO.three;rw[e];exact(Xl<|by rwa[<-hn]).trans<|Xm (by rwa[<-hn])
    have c1:¬st.size<d.n:=();refine{_,M,a,_,dx,_,_,M,ho,T.aQ,T.bS,pE,_,M,_,_,M,M,_,M,bC c1 ?_};refine{_,M,a,_,dx,_,_,M,ho,T.aQ,T.bS,pE,_,_,M,M,.inl {(_),(_)},_,M,_,_,M,M,_,M,cn cB.1 {_,M,_,_,M,M,_,M,cn cB.2 ?_}};refine{_,M,a,_,dx,_,_,M,ho,T.aQ,T.be,jH,.inl {M,_,JC.of S},_,M,_,_,M,M,{(_),(_)},_,M,(),(),λH' r A s nr nA Z=>?_};let{f1,f2}:=fin (m:=st.size/2) e3 s nr nA Z;exact{d.tb,_,_,M,M,f1,bn (by show 1<=1000;decide),f2}
   .have e3:st.three=st:=by
     unfold JO.three;rw[e];exact(Xl<|by rwa[<-hn]).trans<|Xl (by rwa[<-hn])
    rw[e3]at q;have q0:=q H d hb M Fr.refl;by_cases c1:st.size<d.n
    .have c2:¬st.size<256:=λw=>cA ⟨c1,w⟩;have c3:¬4*d.n<st.size:=();refine{_,M,a,_,dx,_,_,M,ho,T.aQ,T.bS,pE,_,M,_,_,M,M,_,M,cn c1 {_,M,_,_,M,M,_,M,bC c2 ?_}};exact{_,M,a,_,dx,_,_,M,ho,T.aQ,T.bS,pE,_,_,M,M,.inl {(_),(_)},_,M,_,_,M,M,_,M,bC c3 q0}
    .refine{_,M,a,_,dx,_,_,M,ho,T.aQ,T.bS,pE,_,M,_,_,M,M,_,M,bC c1 ?_};refine{_,M,a,_,dx,_,_,M,ho,T.aQ,T.bS,pE,_,_,M,M,.inl {(_),(_)},_,M,_,_,M,M,_,M,?_};by_cases c3:4*d.n<st.size
     .exact cn c3 {_,M,_,_,M,M,_,M,bC (λw=>cB ⟨c3,w⟩) q0}
     .exact bC c3 q0
section
variable{d:LX}
def Js.put(h:Js t H a st d)(z:JV st){kv:Mg}(G:IsCell d st k c kv)(v:V):
  ∃d',Js t (upd H c<|.dK<|aZ<|bF kv k v) a {st with kv:=bF st.kv k v} d'/\d'.n=d.n/\∀b,Kj a {st with kv:=bF st.kv k v} d' b↔Kj a st d b:=
 h.setCell z G (rX (h.at G).2.2) (λ_ hp=>si hp) (by rw[eR,eR,Xm M,Xm M]) λj I=>{by rw[eR,Xl I],by rw[eR,Xl I]}
def Js.insM(h:Js t H a st d):∃dx fs,H a=some (.ins t.br dx fs)/\∀m,NoM m->fs.lookup m=none:=by
 let{dx,ho}:=h.obj;exact{dx,_,ho,λm z=>Gn z}
def JO.one_kv:st.one.kv=st.kv:=by
 unfold JO.one;cases st.nxt with
 |none=>rfl
 |some m=>show(if _ then _ else _:JO).kv=_;split<;>rfl
def JO.three_kv:st.three.kv=st.kv:=by
 unfold JO.three;cases st.nxt with
 |some m=>rfl
 |none=>show(if _ then _ else _:JO).kv=_;split;rfl;split<;>rfl
set_option tactic.hygienic true in
def zD{kv:Mg}:((bF kv k v).length:Int)=if(a9 kv k).isSome=true then(kv.length:Int)else kv.length+1:=by
 have:=XB List.length (sj (kv:=kv) (k:=k) (v:=v));rw[Q2]at this;split
 .rename_i c;rw[Xm c,Q2]at this;lia
 .rename_i c;rw[Xl c,Qd,Q2]at this;simp at this;lia
end
def tK(T:Txt K mg t w):J9 P w K mg base JT 4 t.oj t.jz [cj,ew] (sY K t):=by
 refine T.F8.okl tD λs H vs Q E G h _=>?_;intro X;let{a,k,F,st,rfl,{d,hb,O,S,U,z},Z,q}:=h;refine{_,(av<|aD<|G7<|CL (jJ G) JB<|bg J7 T.aQ T.iS (dH T) G.mo T.iX .nil aS<|aa JB af)
  ,?_}
 let{dx,fs,hi,Y}:=hb.insM;refine{_,M,_,M,a,dx,fs,M,hi,Y _ ∅,_,M,a,k,st,d,M,hb,z,λc kv I=>?_};let{hc,_,_}:=hb.at I;refine{c,_,M,KJ.k (k:=Sum.inl k) hc,?_};rw[JK,hb.val k c kv I];exact q H F ⟨d,hb,O,S,U,z⟩ Fr.refl
def tL(T:Txt K mg t w):J9 P w K mg base (K9 P w) 4 t.ol t.jA [cj,ew] (sZ K t):=by
 have U:=KS.nd;refine T.F9.okX KS (λvs H Q E h=>?_)<|λY A outer s H vs Q E G h=>?_
 .let{a,k,F,st,rfl,_}:=h;rfl
 .let{a,k,F,st,rfl,{d,hb,Z,hn,nd,z},h0,q1,q2}:=h;refine ag (Ju 2<|bg J7 T.aQ T.iS (dH T) G.mo T.iX .nil aS<|aa JB af)
    (bZ (λx=>aU (rB<|oX (jJ G) JB JG) x ar) ?_)
  refine aw (bH M bQ<|iN T.aR T.Bf T.Bg (j8 T) G.mo {_} T.sd T.tY .nil aS (aa JB af)) ?_
  intros
  refine aw (aD<|u8 (jJ G) JG JB<|λ_ _=>M) ?_
  intros
  have I:Kq K t H a F st:=⟨d,hb,Z,hn,nd,z⟩;let{dx,fs,hi,hm}:=hb.insM;refine{_,M,a,dx,fs,M,hi,hm _ ∅,_,M,a,k,st,d,M,hb,z,λc kv O=>?_};let{hc,_,_}:=hb.at O;have S:=hb.val k c kv O;refine{_,M,_,M,c,_,M,KJ.k (k:=Sum.inl k) hc,?_};rw[JK,S];cases e:a9 st.kv k with
  |none=>
   refine{_,M,bL ?_};exact oU T.aR T.jo (λea od H' hx hs=>q2 e ea od H' F hx (I.same hs)<|Fr.of_same hs) M
  |some v=>
   refine{_,M,bu ?_};refine{_,M,_,M,c,v,M,?_,q1 v e H F I Fr.refl};have:=KJ.k (k:=Sum.inl k) hc;rw[JK,S,e]at this;exact this
def tJ(T:Txt K mg t w):J9 P w K mg base JT 4 t.oi t.jy [cj,ew,nz] (sX K t):=by
 refine T.F7.okl tz λs H vs Q E hr h _=>?_;intro X;let{a,k,i,F,st,rfl,{d,hb,hF,hn,nd,z},h0,hl,q}:=h;refine ag (bc<|f8 J7 T.aQ T.yB (k9 T) hr.mo T.yS .nil aS)
   (ag (Ju 3<|bg J7 T.aQ T.iS (dH T) hr.mo T.iX .nil aS<|aa JB af)
   (ag (aU (rB<|oX (jJ hr) JB K3)
    (av<|oW J7 ak yJ)
    ar)
   (ag (uY (jJ hr) K3 JB JG M)
   (aw (bc<|f8 J7 T.aQ T.yC (lh T) hr.mo T.yT .nil aS) ?_))))
 intros
 let{dx,fs,hi,hm}:=hb.insM;refine{_,M,a,dx,fs,M,hi,hm _ ∅,a,st,d,M,hb,z,hl,λH1 d1 hb1 e1 I=>?_};let{a6,a8,ac,al}:=hb1.insM;have z1:=z.one;refine{_,M,a,a6,a8,M,ac,al _ ∅,_,M,a,k,st.one,d1,M,hb1,z1,λc kv ic=>?_};let{hc,cF,_}:=hb1.at ic;have hv:=hb1.val k c kv ic;have sh:=hb1.short z1 ic;rw[JO.one_kv]at hv sh;let{O,S}:=hb1.obj;have na:a≠c:=cm S hc (by intro w;cases w);have key:∀(H2:Hp)(n2:Int),Js t H2 a st.one {d1 with n:=n2}->Fr (Kj a st d) (Kj a st.one d1) H H2->n2=((bF st.kv k<|.int i).length:Int)->∃d3,Js t (upd H2 c<|.dK<|aZ<|bF kv k<|.int i) a {st.one with kv:=bF st.one.kv k (.int i)} d3/\d3.n=((bF st.one.kv k<|.int i).length:Int)/\
   ∀H4 d4,Js t H4 a (JO.three {st.one with kv:=bF st.one.kv k (.int i)}) d4->d4.n=d3.n->Fr (Kj a {st.one with kv:=bF st.one.kv k (.int i)} d3) (Kj a (JO.three {st.one with kv:=bF st.one.kv k (.int i)}) d4) (upd H2 c<|.dK<|aZ<|bF kv k<|.int i) H4->Q .non H4:=λH2 n2 U am an=>by
  let{d3,G,e3,f3}:=U.put z1 (kv:=kv) ic (.int i);have Y:d3.n=((bF st.one.kv k<|.int i).length:Int):=by rwa[e3,JO.one_kv]
  refine{d3,G,Y,λH4 d4 a3 e4 a5=>?_};rw[JO.one_kv]at a3 a5 f3 Y;refine q H4 _ {d4,a3,λb=>Iff.rfl,?_,?_,?_} ?_
  .show d4.n=((JO.three _).kv.length:Int);rw[JO.three_kv,e4,Y]
  .show((JO.three _).kv.map (·.1)).Nodup;rw[JO.three_kv];exact rX nd
  .exact(z1.kv).three
  .have step:Fr (Kj a st.one d1) (Kj a {st.one with kv:=bF st.kv k (.int i)} d3) H2 (upd H2 c<|.dK<|aZ<|bF kv k<|.int i):=λb o n w=>{by rwa[ae (λy=>n<|by rw[y];exact cF)],λy=>n<|(f3 b).mp y};exact Fr.trans (λb o n w=>am b o (λy=>n<|(hF b).mpr y) w)<|Fr.trans step a5
 refine{_,M,_,M,c,_,M,KJ.k (k:=Sum.inl k) hc,?_};rw[JK,hv];have kl:(aZ kv).length<sizeLine:=by rw[eG];exact AB ()
 cases e:a9 st.kv k with
 |none=>
  refine{_,M,bL ?_};refine{_,M,a,_,O,_,_,M,S,T.aQ,T.bS,pE,_,_,M,M,O,_,S,qm,?_};rw[IK];have U:=hb1.setN (dx:=O) (n:=d1.n+1);have ap:upd H1 a (.ins t.br O<|Kf d1.tb st.one.moved<|d1.n+1) c=some (.dK<|aZ kv):=by rwa[ae na.symm]
  let{d3,G,n3,fin}:=key _ _ U (λb o n w=>{by rw[ae (λy=>(I b o n w).2<|.inl y)];exact(I b o n w).1,(I b o n w).2}) (by rw[zD,e,e1,hn];rfl);refine{_,M,_,M,_,M,c,_,M,L4.k (k:=Sum.inl k) ap kl,?_};rw[iV];let{Z,a0,a1,a2}:=G.insM;exact{_,M,a,Z,a0,M,a1,a2 _ ∅,a,_,d3,M,G,z1.kv,n3,fin}
 |some v=>
  refine{_,M,bu ?_};let{d3,G,n3,fin}:=key H1 d1.n hb1 I (by rw[zD,e,e1,hn];rfl);refine{_,M,_,M,_,M,c,_,M,L4.k (k:=Sum.inl k) hc kl,?_};rw[iV];let{Z,a0,a1,a2}:=G.insM;exact{_,M,a,Z,a0,M,a1,a2 _ ∅,a,_,d3,M,G,z1.kv,n3,fin}
def GT{sh n:Int}:bT ("kept":Str) (.int n) (bT ("shifted":Str) (.int sh)<|bT ("table":Str) (.ref tb) [])=Kf tb sh n:=by
 have z:bT ("table":Str) (.ref tb) []=[(("table":Str),V.ref tb)]:=M;rw[z,bT,Xl ∅,bT,bT,Xl ∅,bT,Xl ∅,bT];rfl
def j7(T:Txt K mg t w):J9 P w K mg base JT 2 t.lL t.im [cj] (qP K t):=by
 let{G,z}:=T.g_LEAST_SIZE;refine T.Eu.okl rf λs H vs Q E I h _=>?_;intro X;let{a,dx,rfl,ha,hd,q}:=h;refine ag (bK J7 (fe<|aa (a4 (nJ T) I.mo {_} T.pF T.kJ.kp T.pJ .nil aS (aa (bv (v:= .int 4) {_} z {_,M}) af)) af) M)
   (ag (bK J7 ak M)
   (aw (bK J7 ak M) ?_))
 intros
 refine{4,M,(_),(_),λH' r A s nr nA I=>{(by show 1<=sizeLine;decide),λtb U=>?_}};have O:=s _ _ ha;have S:a≠tb:=ai O U;refine{_,M,a,_,dx,[],M,(by rwa[ae S]),T.aQ,T.be,(by show 0<1000;decide),?_};refine{_,M,a,_,dx,_,M,I0,T.aQ,T.bU,?_,?_}
 .show 1<1000;decide
 refine{_,M,a,_,dx,_,M,I0,T.aQ,T.bS,?_,?_}
 .have h1:=j4 (f:="shifted") (v:= .int 0) (bT "table" (.ref tb) []);have h2:=j4 (f:="table") (v:= .ref tb) [];have h3:([]:Mo).length=0:=M;lia
 rw[GT,bW,bW];have a0:tb≠r:=(ai I.lst U).symm;have sb:=Js.fresh (t:=t) (H:=upd (upd H' tb<|.lst [.ref r]) a<|.ins t.br dx<|Kf tb 0 0) (a:=a) (tb:=tb) (r:=r) (A:=A) (dx:=dx) I0 (by rw[ae S.symm];exact I0) (I.frame λb hb1=>?_) a0
 .refine q _ _ {_,sb,λb=>Iff.rfl,M,Zb,JV.new} λb o n w=>?_;have Y:b≠a:=λy=>n (.inl y);have w1:=s _ _ w;have Z:b≠tb:=ai w1 U;refine{by rwa[ae Y,ae Z],λy=>?_};rcases y with y|y|y|y|⟨y,_⟩|y
  .exact Y y
  .exact Z y
  .have y:b=r:=y;rw[y,nr]at w;cases w
  .rw[nA b y]at w;cases w
  .cases y
  .cases y
 .have:∃o,H' b=some o:=by
   rcases hb1 with rfl|hb1
   .exact{_,I.lst}
   .let{_,_,_,_,w}:=I.has hb1;exact{_,w}
  let{o,w}:=this;have Z:b≠tb:=ai w U;have Y:b≠a:=λy=>by
   rcases hb1 with y2|y2
   .rw[<-y2,y,ha]at nr;cases nr
   .have:=nA b y2;rw[y,ha]at this;cases this
  rw[ae Y,ae Z]
def gL(e:A[j]?=some c):LB (A.map V.ref) (j:Int)=some (.ref c):=by
 refine qy ?_;rw[Qk,e];rfl
def F1(ne:x≠[])(e:x[x.length-1]?=some m):LB (x.map V.int) (-1)=some (.int m):=by
 have hl:=QD.mpr ne;unfold LB LL;rw[Q2,Xl (_),Xm ()];show(x.map V.int)[((-1:Int)+(x.length:Int)).toNat]?=_;have:((-1:Int)+(x.length:Int)).toNat=x.length-1:=();rw[this,Qk,e];rfl
def zH(h:i<A.length):LL (A.map V.ref).length (i:Int)=some i:=by
 unfold LL;rw[Xm (),Xm (by rw[Q2];lia)];rfl
theorem mG:∀(A:Mh)(i:Nat),(A.map V.ref).eraseIdx i=(A.eraseIdx i).map V.ref
 | [],_=>rfl
 |_::_,0=>rfl
 |a::r,i+1=>by
  show V.ref a::(r.map V.ref).eraseIdx i=V.ref a::(r.eraseIdx i).map V.ref;rw[mG r i]
theorem uw:∀(ls:Mv)(i:Nat)(y:Mb),(ls.set i y).eraseIdx i=ls.eraseIdx i
 | [],_,_=>rfl
 |_::_,0,_=>rfl
 |x::r,i+1,y=>by
  show x::(r.set i y).eraseIdx i=x::r.eraseIdx i;rw[uw r i y]
def GA(a:G')(k:Int)(ls:Mv)(H:Hp):Nat->St->Hp->Prop:=λm W H'=>∃(lo hi:Nat)(v4:Option V),m=hi-lo/\H'=H/\W=[some (.ref a),some (.int k),some (.int (lo:Int)),some (.int (hi:Int)),v4]/\lo<=hi/\hi<=ls.length/\
 (∀(j:Nat)(x:Mb),j<lo->ls[j]?=some x->∀y∈x,y<k)/\∀(j:Nat)(x:Mb),hi<=j->ls[j]?=some x->∃y∈x,k<=y
def me(t:JM):Sp:=λvs H Q _=>∃(a:G')(k:Int)(L:G')(A:Mh)(ls:Mv),vs=[.ref a,.int k]/\KP t H a L A ls/\(∀l∈ls,l≠[])/\d9 ls.flatten/\∀i:Nat,K8 ls k i->Q (.int (i:Int)) H
def c8(T:Txt K mg t w):J9 P w K mg base JT 1 t.gQ t.dQ [cj,ew] (me t):=by
 refine T.Ai.okl mi λs H vs Q E hr h _=>?_;intro X;let{a,k,L,A,ls,rfl,hb,ne,U,q}:=h;refine ag (Ju 2 ak)
   (ag (Ju 3<|ay aN {_} T.cu bO (aa (aE J7 M) af))
   (bZ (λx=>(Cz XR (az jI JG K3<|aC _)
    x)) ?_))
 refine ag (Ju 4<|bd nI (bd b9 JG K3) ak)
   (aw (aU (az jI (bI bp (bI bp (aE J7 M) L9<|λ_ _=>M) (CH xL ak)<|λ_ _=>M) JB<|aC _)
    (av<|Ju 2<|bd b9 L9 ak)
    (av<|Ju 3 L9)) ?_)
 intros
 refine aw (aD JG) ?_
 intros
 let{dx,ho}:=hb.obj;have lA:((A.map V.ref).length:Int)=(ls.length:Int):=by rw[Q2,hb.len]
 refine{_,M,a,_,dx,_,_,M,ho,T.aP,T.aB,dv,L,_,M,.inl<|JC.of hb.lst,?_};dsimp only;rw[lA];refine{GA a k ls H,{_,0,ls.length,none,M,M,M,Ql _,Q4 _,λj x h=>Xp h (),λj x h e=>?_},?_}
 .have:=(Q3.mp e).1;lia
 rintro m W H' ⟨lo,hi,v4,rfl,rfl,rfl,h1,h2,h3,h4⟩;refine{_,M,_,M,_,_,M,M,_,M,nQ (λc=>?_)<|λc=>?_}
 .have c:lo<hi:=by have:=Xw c;lia
  refine{λY H''=>∃m',m'<hi-lo/\GA a k ls H' m' Y H'',λ_ _ h=>h,?_};refine{_,M,_,M,_,_,M,M,_,_,M,M,{(_),(_)},?_};obtain⟨G,em,m1,m2⟩:∃G:Nat,((lo:Int)+(hi:Int))/2=(G:Int)/\lo<=G/\G<hi:={(lo+hi)/2,(),(),()};dsimp only;rw[em];have hm:G<ls.length:=();have ex:ls[G]?=some ls[G]:=Q5 hm;let{b,eb,Z}:=hb.at ex;have I:=ne _ (ZI hm);let{g,eg,gm,O}:=Dm (EV U ex) I;refine{_,M,a,_,dx,_,_,M,ho,T.aP,T.aB,dv,_,M,L,_,_,_,M,M,JC.of hb.lst,gL eb,_,M,b,_,_,_,M,M,JC.of Z,F1 I eg,_,M,_,_,M,M,_,M,nQ (λS=>?_)<|λS=>?_}
  .have S:=Xw S;refine{_,M,_,_,M,M,hi-(G+1),(),G+1,hi,_,M,M,M,(),h2,λj x hj e y hy=>?_,h4};rcases(show j<G\/j=G by lia)with h|h
   .have:=ud U e ex h y hy g gm;lia
   .subst h;rw[ex]at e;cases e;have:=O y hy;lia
  .have S:¬g<k:=λz=>S (Xn z);refine{_,M,G-lo,(),lo,G,_,M,M,M,(),(),h3,λj x hj e=>?_};rcases(show j=G\/G<j by lia)with h|h
   .subst h;rw[ex]at e;cases e;exact{g,gm,()}
   .let{y,hy}:=List.exists_mem_of_ne_nil x (ne x<|Q0 e);have:=ud U ex e h g gm y hy;exact{y,hy,()}
 .have c:¬lo<hi:=λz=>c (Xn ());have:lo=hi:=();subst this;exact{_,M,q lo {h2,h3,λx e=>h4 lo x (Q4 _) e}}
theorem wT{k:Int}:∀{x:Mb},inV (.int k) (x.map V.int)=decide (k∈x)
 | []=>rfl
 |a::r=>by
  have G:=wT (k:=k) (x:=r);unfold inV at G⊢;rw[Qm,Zy,G];have:Lb (.int a) (.int k)=decide (k=a):=by
   show(a==k)=_;by_cases c:a=k
   .subst c;simp
   .have I:¬k=a:=λz=>c z.symm;simp[c,I]
  rw[this];by_cases c:k=a
  .simp[c]
  .simp[c]
def Bj:(x.map V.int).all nV=true:=by
 rw[List.all_map];exact QB.mpr λ_ _=>rfl
def ka(T:Txt K mg t w):J9 P w K mg base JT 2 t.lO t.iu [cj,ew] (qT K t):=by
 refine T.Ey.okl rl λs H vs Q E Y h _=>?_;intro X;let{a,k,F,ks,rfl,I,q}:=h;refine ag (Ju 2<|bg J7 T.aP T.gK (c8 T) Y.mo T.gM .nil aS<|aa JB af)
   (aw (aD<|rG (fA jI JG (ay aN {_} T.cu bO (aa (aE J7 M) af))<|aC _)<|u7<|fA AJ JB (bI bp (aE J7 M) JG<|λ_ _=>M) M) ?_)
 intros
 let{dx,fs,hi,Z}:=I.ins;have q:=q H F I Fr.refl;let{L,A,ls,hb,ok,S,hF}:=I;let{G,ho}:=hb.obj;have lA:((A.map V.ref).length:Int)=(ls.length:Int):=by rw[Q2,hb.len]
 refine{_,M,a,dx,fs,M,hi,Z _ ∅,_,M,a,k,L,A,ls,M,hb,ok.ne,ok.up,λi U=>?_};refine{_,M,_,M,a,_,G,_,_,M,ho,T.aP,T.aB,dv,L,_,M,.inl<|JC.of hb.lst,_,_,M,M,_,M,nQ (λc=>?_)<|λc=>?_}
 .have c:=Xw c;have hi:i<ls.length:=();have ex:ls[i]?=some ls[i]:=Q5 hi;let{b,eb,O}:=hb.at ex;refine{_,M,_,M,a,_,G,_,_,M,ho,T.aP,T.aB,dv,_,M,L,_,_,_,M,M,JC.of hb.lst,gL eb,b,_,M,.inl<|JC.of O,M,Bj,?_};show Q (.bl<|inV (.int k)<|ls[i].map V.int) H;rw[wT];have:k∈ls[i]↔k∈ks:=by
   rw[<-S,U.mem ok];constructor
   .exact λz=>{_,ex,z}
   .rintro ⟨x,e,z⟩;rw[ex]at e;cases e;exact z
  rw[decide_eq_decide.mpr this];exact q
 .have c:¬(i:Int)<((A.map V.ref).length:Int):=λz=>c (Xn z);have:k∉ks:=λz=>by
   rw[<-S,U.mem ok]at z;let{x,e,_}:=z;have:=(Q3.mp e).1;lia
  rw[Xo this]at q;exact q
def fg(T:Txt K mg t w):J9 P w K mg base JT 1 t.kF t.gs [cj] (pX K t):=by
 refine T.D7.okl p8 λs H vs Q E U h _=>?_;intro X;let{a,dx,rfl,ha,hd,q}:=h;refine{_,(av<|bK J7 (fe af) M)
  ,?_}
 refine{Ql _,λL G=>{_,M,a,_,dx,[],M,(by rwa[ae (ai ha G)]),T.aP,T.aB,(by show 0<1000;decide),?_}};have S:=ai ha G;refine q _ (Ks a L []) {L,[],[],{⟨dx,I0⟩,by rw[ae S.symm];exact I0,M,(λj b l e=>by simp at e),(λi j b e=>by simp at e),(λz=>by cases z)},JY.nil,M,λb=>Iff.rfl} λb o n w=>?_;have I:b≠a:=λy=>n (.inl y);have O:b≠L:=ai w G;refine{by rwa[ae I,ae O],λy=>?_};rcases y with y|y|y
 .exact I y
 .exact O y
 .cases y
def jW(t:JM):Sp:=λvs H Q _=>∃(a L:G')(A:Mh)(ls:Mv)(i:Nat)(x:Mb),vs=[.ref a,.int (i:Int)]/\KP t H a L A ls/\ls[i]?=some x/\x.length=9/\ls.length<5000/\
 ∀H' A',KP t H' a L A' ((ls.set i<|x.take 4).take (i+1)++x.drop 4::(ls.set i<|x.take 4).drop (i+1))->Fr (Ks a L A) (Ks a L A') H H'->Q .non H'
def j9(T:Txt K mg t w):J9 P w K mg base JT 1 t.fo t.cU [cj,nD] (jW t):=by
 refine T.xG.okl jZ λs H vs Q E hr h _=>?_;intro X;let{a,L,A,ls,i,x,rfl,hb,ex,lx,ll,q}:=h;refine ag (Ju 2<|bI bp (aE J7 M) JB<|λ_ _=>M)
   (ag (Ju 3<|bd nI (ay aN {_} T.cu bO (aa JG af)) ak)
   (ag (yo (iM mZ JG nC<|jm K3)<|yp (aE J7 M) JB qZ)
   (aw (bc<|eu Qq ZF ZG pc (aE J7 M)<|aa (bd b9 JB ak)<|aa (iM mZ JG (jm K3) nC) af) ?_)))
 intros
 let{dx,ho}:=hb.obj;let{c,ec,hc}:=hb.at ex;have ap:i<A.length:=(Q3.mp ec).1;have Z:((x.map V.int).length:Int)=9:=by rw[Q2,lx];rfl
 refine{_,M,a,_,dx,_,_,M,ho,T.aP,T.aB,dv,_,M,L,_,_,_,M,M,JC.of hb.lst,gL ec,?_};refine{_,M,c,_,M,.inl<|JC.of hc,_,_,M,M,{(_),(_)},?_};dsimp only;rw[Z];have a0:lu (x.map V.int) none (some<|9/2)=(x.take 4).map V.int:=by
  unfold lu;rw[Q2,lx];show((x.map V.int).drop 0).take (4-0)=_;rw[Xi,List.map_take]
 have a1:lu (x.map V.int) (some<|9/2) none=(x.drop 4).map V.int:=by
  unfold lu;rw[Q2,lx];show((x.map V.int).drop 4).take (9-4)=_;rw[ZY,Qw (by rw[QA,Q2,lx];exact Q4 _)]
 refine{_,M,_,M,_,M,c,_,M,JC.of hc,λG O=>?_};rw[a0];have s1:JA H (upd H G<|.lst<|(x.take 4).map V.int):=au O;have hb1:=hb.same s1;have a2:upd H G (.lst<|(x.take 4).map V.int) G=some (.lst<|(x.take 4).map V.int):=I0;have aq:=hb.out O;have a3:=s1 _ _ ho;have a5:=s1 _ _ hc;have a6:=s1 _ _ hb.lst;generalize upd H G (.lst<|(x.take 4).map V.int)=H1 at s1 hb1 a2 a3 a5 a6⊢;refine{_,M,a,_,dx,_,_,M,a3,T.aP,T.aB,dv,_,M,L,_,_,_,M,M,a6,zH ap,?_};have es:(A.map V.ref).set i (V.ref G)=(A.set i G).map V.ref:=by rw[X7]
 rw[es];have I:=hb1.swap ec ex a2 aq;have cL:c≠L:=λz=>hb.nL (z▸Q0 ec);have a8:upd H1 L (.lst<|(A.set i G).map V.ref) c=some (.lst<|x.map V.int):=by rwa[ae cL]
 let{ax,ac}:=I.obj;have S:=I.lst;have f2:Fr (Ks a L A) (Ks a L<|A.set i G) H (upd H1 L<|.lst<|(A.set i G).map V.ref):=λb o n w=>by
  have w1:=s1 _ _ w;refine{by rwa[ae (λy=>n<|.inr<|.inl y)],λy=>?_};rcases y with y|y|y
  .exact n<|.inl y
  .exact n<|.inr (.inl y)
  .rcases QS y with y|y
   .exact n<|.inr (.inr y)
   .rw[y,O]at w;cases w
 generalize upd H1 L (.lst<|(A.set i G).map V.ref)=H2 at I a8 ac S f2⊢;refine{_,M,a,_,ax,_,_,M,ac,T.aP,T.aB,dv,.inl {M,_,JC.of S},_,M,_,_,M,M,_,M,_,M,_,M,c,_,M,JC.of a8,λY U=>?_};rw[a1];have s3:JA H2 (upd H2 Y<|.lst<|(x.drop 4).map V.int):=au U;have al:=I.same s3;have am:upd H2 Y (.lst<|(x.drop 4).map V.int) Y=some (.lst<|(x.drop 4).map V.int):=I0;have b5:=I.out U;have an:=s3 _ _ S;generalize upd H2 Y (.lst<|(x.drop 4).map V.int)=H3 at s3 al am an⊢;have lS:(A.set i G).length=A.length:=Qs;refine{L,_,_,_,M,M,an,(),(by rw[Q2,lS];lia),(by rw[Q2,lS,hb.len];exact dA ()),?_};have ei:((i:Int)+1).toNat=i+1:=();have b7:=al.insert (i:=i+1) (by rw[lS];lia) am b5;rw[ei];have em:((A.set i G).map V.ref).take (i+1)++V.ref Y::((A.set i G).map V.ref).drop (i+1)=((A.set i G).take (i+1)++Y::(A.set i G).drop (i+1)).map V.ref:=by
  rw[Qi,Qm,List.map_take,ZY]
 rw[em];refine q _ _ b7<|f2.trans (λb o n w=>?_);have w3:=s3 _ _ w;refine{by rwa[ae (λy=>n<|.inr<|.inl y)],λy=>?_};rcases y with y|y|y
 .exact n<|.inl y
 .exact n<|.inr (.inl y)
 .rcases Qb.mp y with y|y
  .exact n<|.inr (.inr<|Zz y)
  .rcases Qc.mp y with y|y
   .rw[y,U]at w;cases w
   .exact n<|.inr (.inr<|ZA y)
def KP.insM(h:KP t H a L A ls):∃dx fs,H a=some (.ins t.bP dx fs)/\∀m,m≠(ri:Str)->fs.lookup m=none:=by
 let{dx,ho}:=h.obj;exact{dx,_,ho,λm z=>Gv z}
def gb(T:Txt K mg t w):J9 P w K mg base (K9 P w) 3 t.lP t.iw [cj,ew] (qU K t):=by
 let{I,G}:=T.g_MOST_IN_LEAF;have bo:=KM.nd;refine T.Ez.okX KM (λvs H Q E h=>?_)<|λbq A outer s H vs Q E hr h=>?_
 .let{a,k,F,ks,rfl,_}:=h;rfl
 .let{a,k,F,ks,rfl,hA,hl,q1,q2}:=h;refine bZ (λx=>aU (bB<|bg J7 T.aP T.tQ (ka T) hr.mo T.tZ .nil aS<|aa JB af) x ar) ?_;refine aw (bH M bQ<|iN T.aV T.HZ T.Ia (rN T) hr.mo {_} T.wG T.En .nil aS (aa JB af)) ?_
  intros
  refine bZ (λx=>aU (az bX (ay aN {_} T.cu bO (aa (aE J7 M) af)) ak<|aC _) x ar) ?_;refine ag (bc<|eu Qq QX QY fL (aE J7 M)<|aa (fe<|aa JB af) af)
    (aw nB ?_)
  intros
  refine ag (Ju 2<|ay (Bo M) {_} T.Ie DQ (aa (bg J7 T.aP T.gK (c8 T) hr.mo T.gM .nil aS<|aa JB af)<|aa (bd mt (ay aN {_} T.cu bO (aa (aE J7 M) af)) ak) af))
    (ag (Ju 3<|bI bp (aE J7 M) JG<|λ_ _=>M)
    (ag (bc<|eu Qq ZF ZG pc K3<|aa (ay aN {_} T.cu bO (aa (CI M (JL.of (M':=["one"]) (N:=[cj,ew,nD,"leaf"]) (N':=[cj,ew,nD,"leaf"]) (dsc:=ah eO) M M ∅) (uZ K3) (λ_ _ _ _ _=>(az jI J7 JG<|aC _))<|λ_ _ _ _ _=>J7) af))<|aa JB af)
    (aw (aU (az uh (ay aN {_} T.cu bO (aa K3 af)) (bv (v:= .int 8) {_} G {_,M})<|aC _)
   (av<|bc<|bg J7 T.aP T.xB (j9 T) hr.mo T.xE .nil aS<|aa JG af)
   ar) ?_)))
  intros
  let{dx,fs,hi,hm}:=hA.ins;refine{_,M,a,dx,fs,M,hi,hm _ ∅,_,M,a,k,F,ks,M,hA,λH0 F0 a0 Z=>?_};by_cases ck:k∈ks
  .rw[Xn ck];refine{_,M,bL ?_};exact oU T.aV T.nM (λea od H' hx hs=>q2 ck ea od H' F0 hx (a0.same hs)<|Z.trans<|Fr.of_same hs) M
  rw[Xo ck];refine{_,M,bu ?_};have q:=q1 ck;let{L,A,ls,hb,ok,ef,hF}:=a0;let{O,ho}:=hb.obj;have lA:((A.map V.ref).length:Int)=(ls.length:Int):=by rw[Q2,hb.len]
  have sh:=ok.short;rw[ef]at sh;have fr:Fr F (Ks a L A) H H0:=λb o n e=>{(Z b o n e).1,λy=>(Z b o n e).2<|(hF b).mpr y};have nk:k∉ls.flatten:=by rwa[ef]
  by_cases ce:ls=[]
  .subst ce;have eA:A=[]:=QJ.mp hb.len;subst eA;refine{_,M,a,_,O,_,_,M,ho,T.aP,T.aB,dv,L,_,M,.inl<|JC.of hb.lst,M,_,M,lr M ?_};refine{_,M,a,_,O,_,_,M,ho,T.aP,T.aB,dv,.inl {M,_,JC.of hb.lst},_,M,(by show 1<=sizeLine;decide),λn nn=>?_};have s1:JA H0 (upd H0 n<|.lst [.int k]):=au nn;have hb1:=hb.same s1;have a6:upd H0 n (.lst [.int k]) n=some (.lst<|([k]:Mb).map V.int):=I0;have nF:=hb.out nn;have a8:=s1 _ _ hb.lst;refine{L,_,_,M,M,a8,bn (by show 0<=1000;decide),?_};have ac:=hb1.insert (i:=0) (Ql _) a6 nF;have al:JY [[k]]:={(λl hl=>by rw[Qe.mp hl];simp),(λl hl=>by rw[Qe.mp hl];simp),(λi x y e1 e2=>by simp at e2),by show d9 [k];exact Zo _ _};refine q _ (Ks a L [n]) [k] {L,[n],[[k]],ac,al,M,λb=>Iff.rfl} (λz=>?_)<|fr.trans λb o n' w=>?_
   .rw[<-ef];simp
   .have w1:=s1 _ _ w;refine{by rwa[ae (λy=>n'<|.inr<|.inl y)],λy=>?_};rcases y with y|y|y
    .exact n'<|.inl y
    .exact n'<|.inr (.inl y)
    .rw[Qe.mp y,nn]at w;cases w
  .have bl:=QD.mpr ce;refine{_,M,a,_,O,_,_,M,ho,T.aP,T.aB,dv,L,_,M,.inl<|JC.of hb.lst,M,_,M,bC (λw=>?_) ?_}
   .have:=V.int.inj w;lia
   let{am,an,ap,aq}:=hb.insM;refine{_,M,a,am,an,M,ap,aq _ ∅,_,M,a,k,L,A,ls,M,hb,ok.ne,ok.up,λi li=>?_};refine{_,M,a,_,O,_,_,M,ho,T.aP,T.aB,dv,L,_,M,.inl<|JC.of hb.lst,_,_,M,M,_,_,M,?_};let{x,ad}:=li.add ok ce;have em:(if((A.map V.ref).length:Int)-1<(i:Int)then((A.map V.ref).length:Int)-1 else(i:Int))=((min i (ls.length-1):Nat):Int):=by
    rw[lA];split<;>lia
   dsimp only;rw[em];generalize min i (ls.length-1)=j at ad⊢;let{c,ec,hc}:=hb.at ad.at_;have jl:j<ls.length:=(Q3.mp ad.at_).1;have x8:=ok.le x (Q0 ad.at_);refine{_,M,a,_,O,_,_,M,ho,T.aP,T.aB,dv,_,M,L,_,_,_,M,M,JC.of hb.lst,gL ec,?_};refine{_,M,.inl {M,_,JC.of hc},_,M,c,M,{_,JC.of hc},λD hD=>?_};refine sI (K:=K) (a:=c) (xs:=x.map V.int) (λn ys H3=>H3=upd H0 D (.lst ys)/\ys=((x.take n).filter<|λz=>decide (z<k)).map V.int) ⟨M,M⟩ (λn ys H3 _ w=>JC.of<|by rwa[w.1,ae (ai hc hD)]) (λn v ys H3 hv w S=>?_)<|λys H3 w S=>?_
   .let{e1,e2}:=w;obtain⟨g,rfl,eg⟩:∃g:Int,v= .int g/\x[n]?=some g:=by
     rw[Qk]at hv;cases e:x[n]? with
     |none=>rw[e]at hv;cases hv
     |some g=>rw[e]at hv;cases hv;exact⟨g,M,M⟩
    have hn:n<(x.map V.int).length:=(Q3.mp hv).1;refine{_,M,_,M,_,_,M,M,_,M,?_};have fl:ys.length<=8:=by
     rw[e2,Q2];have h1:=QO (λz=>decide (z<k)) (x.take n);have h2:(x.take n).length<=x.length:=by rw[Qo];lia
     lia
    by_cases cg:g<k
    .refine cn cg {_,M,KB.mk hn S (bn ()) {by rw[e1,bW],?_}};rw[e2,QK,eg,X2,Qi];simp[cg]
    .refine bC cg<|LD.mk hn S {e1,?_};rw[e2,QK,eg,X2];simp[cg]
   .let{e1,e2}:=w;rw[Q2,Zx]at e2;have s3:JA H0 H3:=by rw[e1];exact au hD
    have ax:=hb.same s3;have b5:=s3 _ _ hc;have yl:(ys.length:Int)=((x.filter<|λz=>decide (z<k)).length:Int):=by rw[e2,Q2]
    have br:=QO (λz=>decide (z<k)) x;refine{D,_,M,.inl<|JC.of S,_,M,c,_,_,_,M,M,b5,(),(by rw[Q2];lia),(by rw[Q2];exact bn ()),?_};have ei:(x.map V.int).take (ys.length:Int).toNat++V.int k::(x.map V.int).drop (ys.length:Int).toNat=(eV x k).map V.int:=by
     rw[yl,Zt];unfold eV;rw[Qi,Qm,List.map_take,ZY]
    dsimp only;rw[ei];have U:=ax.write (y:=eV x k) ec ad.at_;have il:=Dv (l:=x) (k:=k);let{a1,Y}:=ad.set ok nk;have cF:Ks a L A c:= .inr (.inr<|Q0 ec);have f4:Fr (Ks a L A) (Ks a L A) H0 (upd H3 c<|.lst<|(eV x k).map V.int):=λb o n w=>{by rw[ae (λy=>n<|by rwa[y])];exact s3 _ _ w,n};have a2:upd H3 c (.lst<|(eV x k).map V.int) c=some (.lst<|(eV x k).map V.int):=I0;generalize upd H3 c (.lst<|(eV x k).map V.int)=H4 at U f4 a2⊢;refine{_,M,c,_,M,.inl<|JC.of a2,_,_,M,M,_,M,?_};have ll:((eV x k).map V.int).length=x.length+1:=by rw[Q2,il]
    by_cases c9:x.length=8
    .refine cn (by rw[ll];lia) ?_;let{b7,b8,bb,be}:=U.insM;have e5:(ls.set j<|eV x k)[j]?=some (eV x k):=by rw[Qf,Xm M,Xm jl]
     refine{_,M,a,b7,b8,M,bb,be _ ∅,_,M,a,L,A,_,j,_,M,U,e5,(),by rw[Qs];lia,λH6 A6 a3 f6=>?_};have er:(ls.set j<|eV x k).set j ((eV x k).take 4)=ls.set j ((eV x k).take 4):=List.set_set _;rw[er]at a3;have bf:d9 (ls.set j<|(eV x k).take 4++(eV x k).drop 4).flatten:=by rwa[QP]
     let{bi,a5}:=ok.parted ad.at_ (a:=(eV x k).take 4) (b:=(eV x k).drop 4) (by rw[Qo];lia) (by rw[QA];lia) bf;rw[QP]at a5;refine q H6 _ _ {L,A6,_,a3,bi,M,λb=>Iff.rfl} (λz=>?_)<|fr.trans (f4.trans f6);rw[a5,Y,ef]
    .refine bC (by rw[ll];lia) ?_;have bj:=ok.grown ad.at_ (y:=eV x k) () () a1;exact q H4 _ _ {L,A,_,U,bj,M,λb=>Iff.rfl} (λz=>by rw[Y,ef])<|fr.trans f4
def jQ(t:JM):Sp:=λvs H Q _=>∃(a L:G')(A:Mh)(ls:Mv)(i:Int),vs=[.ref a,.int i]/\KP t H a L A ls/\-1<=i/\i<(ls.length:Int)/\(∀l∈ls,l.length<=8)/\ls.length<5000/\
 ∀H' A' ls',KP t H' a L A' ls'->ls'=(if 0<=i then lE ls i.toNat else ls)->Fr (Ks a L A) (Ks a L A') H H'->Q .non H'
def Dd{n:G'}(h:b∈A.set i n):b∈A\/b=n:=QS h
def jT(T:Txt K mg t w):J9 P w K mg base JT 1 t.eW t.cE [cj,nD] (jQ t):=by
 let{I,z}:=T.g_LEAST_IN_TWO;refine T.xp.okl jS λs H vs Q E hr h _=>?_;intro X;let{a,L,A,ls,i,rfl,hb,i0,i1,l8,ll,q}:=h;refine ag (aU (PW.pt<|ni (az jI JB ak<|aC _)<|j3<|az bX (bd b9 JB ak) (ay aN {_} T.cu bO (aa (aE J7 M) af))<|aC _)
    (av nB)
    ar)
   (ag (Ju 2<|bd yt (bI bp (aE J7 M) JB<|λ_ _=>M)<|bI bp (aE J7 M) (bd b9 JB ak)<|λ_ _=>M)
   (CZ (λx=>aU (az jI (ay aN {_} T.cu bO (aa JG af)) (bv (v:= .int 5) {_} z {_,M})<|aC _) x ar) ?_))
 refine ag (yo JG<|yp (aE J7 M) JB qZ)
   (aw (bc<|eu Qq PySem.F.slot_list_pop PySem.F.type_list_pop wB (aE J7 M)<|aa (bd b9 JB ak) af) ?_)
 intros
 let{dx,ho}:=hb.obj;have lA:((A.map V.ref).length:Int)=(ls.length:Int):=by rw[Q2,hb.len]
 by_cases c0:i<0
 .refine{_,M,_,_,M,M,_,M,cn c0 ?_};exact bL<|q H A ls hb (by rw[Xl ()]) Fr.refl
 refine{_,M,_,_,M,M,_,M,bC c0 ?_};let{n,rfl}:=Zn (show 0<=i by lia);have en:((n:Int)).toNat=n:=Zt n;rw[Xm (),en]at q;refine{_,M,_,_,M,M,_,M,a,_,dx,_,_,M,ho,T.aP,T.aB,dv,L,_,M,.inl<|JC.of hb.lst,M,_,M,?_};by_cases c1:n+1=ls.length
 .refine lr (XB V.int<|by rw[lA];lia) ?_;exact q H A ls hb (ss ()).symm Fr.refl
 refine bC (λw=>c1<|by have:=V.int.inj w;rw[lA]at this;lia) ?_;have hn:n<ls.length:=();have S:n+1<ls.length:=();have ex:ls[n]?=some ls[n]:=Q5 hn;have ey:ls[n+1]?=some ls[n+1]:=Q5 S;have x8:=l8 _ (ZI hn);have y8:=l8 _ (ZI S);generalize ls[n]=x at ex x8;generalize ls[n+1]=y at ey y8;let{c,ec,hc}:=hb.at ex;let{d,ed,hd}:=hb.at ey;have ac:(n:Int)+1=((n+1:Nat):Int):=M;refine{_,M,a,_,dx,_,_,M,ho,T.aP,T.aB,dv,_,M,L,_,_,_,M,M,JC.of hb.lst,gL ec,_,M,a,_,dx,_,_,M,ho,T.aP,T.aB,dv,_,M,_,_,M,M,L,_,_,_,M,M,JC.of hb.lst,gL ed,c,d,_,_,M,M,hc,hd,Qx<|bn (by rw[Q2,Q2];lia),λG U=>?_};rw[<-Qi];have s1:JA H (upd H G<|.lst<|(x++y).map V.int):=au U;have hb1:=hb.same s1;have Y:upd H G (.lst<|(x++y).map V.int) G=some (.lst<|(x++y).map V.int):=I0;have nF:=hb.out U;have a0:=s1 _ _ ho;have a1:=s1 _ _ hb.lst;generalize upd H G (.lst<|(x++y).map V.int)=H1 at s1 hb1 Y a0 a1⊢;refine{_,M,G,_,M,.inl<|JC.of Y,_,_,M,M,_,M,?_};have a2:(((x++y).map V.int).length:Int)=(x.length:Int)+(y.length:Int):=by rw[Q2,Qd];rfl
 rw[wS ex ey]at q;by_cases c5:x.length+y.length<5
 .refine cn (by rw[a2];lia) ?_;rw[Xm c5]at q;have nA:n<A.length:=by rwa[hb.len]
  refine{_,M,_,M,a,_,dx,_,_,M,a0,T.aP,T.aB,dv,_,M,L,_,_,_,M,M,a1,zH nA,?_};have es:(A.map V.ref).set n (V.ref G)=(A.set n G).map V.ref:=by rw[X7]
  rw[es];have O:=hb1.swap ec ex Y nF;let{a5,a3}:=O.obj;have Z:=O.lst;have f2:Fr (Ks a L A) (Ks a L<|A.set n G) H (upd H1 L<|.lst<|(A.set n G).map V.ref):=λb o n' w=>by
   have w1:=s1 _ _ w;refine{by rwa[ae (λy=>n'<|.inr<|.inl y)],λy=>?_};rcases y with y|y|y
   .exact n'<|.inl y
   .exact n'<|.inr (.inl y)
   .rcases Dd y with y|y
    .exact n'<|.inr (.inr y)
    .rw[y,U]at w;cases w
  generalize upd H1 L (.lst<|(A.set n G).map V.ref)=H2 at O a3 Z f2⊢;have lS:((A.set n G).map V.ref).length=ls.length:=by rw[Q2,Qs,hb.len]
  have a6:n+1<(A.set n G).length:=by rw[Qs,hb.len];exact S
  have sx:seqIndex? ((n:Int)+1) ((A.set n G).map V.ref).length=some (n+1):=by
   have:=seqIndex_of (k:=(n:Int)+1) (n:=((A.set n G).map V.ref).length) () (by rw[lS];lia);rw[this];congr 1
  refine{_,M,a,_,a5,_,_,M,a3,T.aP,T.aB,dv,.inl {M,_,JC.of Z},_,M,_,_,M,M,L,_,_,n+1,_,M,M,Z,(),(),sx,(by rw[Qk,Q5 a6];rfl),?_};have a8:=O.erase (i:=n+1);have em:((A.set n G).map V.ref).eraseIdx (n+1)=((A.set n G).eraseIdx<|n+1).map V.ref:=mG _ _;rw[em];refine q _ _ _ a8 M<|f2.trans λb o n' w=>?_;refine{by rwa[ae (λy=>n'<|.inr<|.inl y)],λy=>?_};rcases y with y|y|y
  .exact n'<|.inl y
  .exact n'<|.inr (.inl y)
  .exact n'<|.inr (.inr<|QI y)
 .refine bC (by rw[a2];lia) ?_;rw[Xl c5]at q;exact q H1 A ls hb1 M<|Fr.of_same s1
def mD(T:Txt K mg t w):J9 P w K mg base (K9 P w) 3 t.gR t.dR [cj,ew] (mf K t):=by
 have bq:=Jv.nd;refine T.Aj.okX Jv (λvs H Q E h=>?_)<|λbr A outer s H vs Q E hr h=>?_
 .let{a,k,F,ks,rfl,_}:=h;rfl
 .let{a,k,F,ks,rfl,hA,hl,q1,q2}:=h;refine bZ (λx=>aU (fc<|bB<|bg J7 T.aP T.tQ (ka T) hr.mo T.tZ .nil aS<|aa JB af) x ar) ?_;refine aw (bH M bQ<|iN T.aR T.Bf T.Bg (j8 T) hr.mo {_} T.sd T.tY .nil aS (aa JB af)) ?_
  intros
  refine ag (Ju 2<|bg J7 T.aP T.gK (c8 T) hr.mo T.gM .nil aS<|aa JB af)
    (ag (bc<|eu Qq PySem.F.slot_list_remove PySem.F.type_list_remove AT (bI bp (aE J7 M) JG<|λ_ _=>M)<|aa JB af)
    (bZ (λx=>aU (az bX (ay aN {_} T.cu bO (aa (bI bp (aE J7 M) JG<|λ_ _=>M) af)) ak<|aC _) x ar) ?_))
  refine ag (bc<|eu Qq PySem.F.slot_list_pop PySem.F.type_list_pop wB (aE J7 M)<|aa JG af)
    (aw nB ?_)
  intros
  refine ag (bc<|bg J7 T.aP T.km (jT T) hr.mo T.kz .nil aS<|aa JG af)
    (aw (bc<|bg J7 T.aP T.km (jT T) hr.mo T.kz .nil aS<|aa (bd mt JG ak) af) ?_)
  intros
  let{dx,fs,hi,hm}:=hA.ins;refine{_,M,a,dx,fs,M,hi,hm _ ∅,_,M,a,k,F,ks,M,hA,λH0 F0 a1 U=>?_};by_cases ck:k∈ks
  case neg=>
   rw[Xo ck];refine{_,M,bL ?_};exact oU T.aR T.jo (λea od H' hx hs=>q2 ck ea od H' F0 hx (a1.same hs)<|U.trans<|Fr.of_same hs) M
  rw[Xn ck];refine{_,M,bu ?_};have q:=q1 ck;let{L,A,ls,hb,ok,ef,hF}:=a1;let{a8,ho}:=hb.obj;have sh:=ok.short;rw[ef]at sh;have fr:Fr F (Ks a L A) H H0:=λb o n e=>{(U b o n e).1,λy=>(U b o n e).2<|(hF b).mpr y};let{ac,al,am,an}:=hb.insM;refine{_,M,a,ac,al,M,am,an _ ∅,_,M,a,k,L,A,ls,M,hb,ok.ne,ok.up,λi li=>?_};let{x,ex,hx}:=(li.mem ok).mp (by rwa[ef]);let{c,ec,hc}:=hb.at ex;have il:i<ls.length:=(Q3.mp ex).1;have bz:i<A.length:=by rwa[hb.len]
  refine{_,M,a,_,a8,_,_,M,ho,T.aP,T.aB,dv,_,M,L,_,_,_,M,M,JC.of hb.lst,gL ec,.inl {M,_,JC.of hc},_,M,c,x,k,M,M,hc,hx,?_};have hb1:=hb.write (y:=x.erase k) ec ex;let{up1,G}:=ok.gone ex hx;have cF:Ks a L A c:= .inr (.inr<|Q0 ec);have f1:Fr (Ks a L A) (Ks a L A) H0 (upd H0 c<|.lst<|(x.erase k).map V.int):=λb o n w=>{by rwa[ae (λy=>n<|by rw[y];exact cF)],n};have a2:upd H0 c (.lst<|(x.erase k).map V.int) c=some (.lst<|(x.erase k).map V.int):=I0;let{a3,Y}:=hb1.obj;have O:=hb1.lst;generalize upd H0 c (.lst<|(x.erase k).map V.int)=H1 at hb1 f1 a2 Y O⊢;have le:=List.length_erase_of_mem hx;refine{_,M,a,_,a3,_,_,M,Y,T.aP,T.aB,dv,_,M,L,_,_,_,M,M,JC.of O,gL ec,c,_,M,.inl<|JC.of a2,M,_,M,?_};have px:=List.length_pos_of_mem hx;by_cases c0:x.length=1
  .refine lr (XB V.int<|by rw[Q2,le,c0];rfl) ?_;have en:x.erase k=[]:=QJ.mp ();rw[en]at up1 G hb1;have sx:seqIndex? (i:Int) (A.map V.ref).length=some i:=by
    have:=seqIndex_of (k:=(i:Int)) (n:=(A.map V.ref).length) () (by rw[Q2];lia);rw[this,Zt]
   refine{_,M,a,_,a3,_,_,M,Y,T.aP,T.aB,dv,.inl {M,_,JC.of O},_,M,L,_,_,i,_,M,M,O,(),(),sx,(by rw[Qk,ec];rfl),?_};have I:=hb1.erase (i:=i);have e2:(ls.set i ([]:Mb)).eraseIdx i=ls.eraseIdx i:=uw _ _ _;rw[e2]at I;rw[mG];let{ap,aq}:=ok.out ex c0 up1;refine q _ _ _ {L,_,_,I,ap,M,λb=>Iff.rfl} (λz=>by rw[aq,G,ef])<|(fr.trans f1).trans λb o n w=>?_;refine{by rwa[ae (λy=>n<|.inr<|.inl y)],λy=>?_};rcases y with y|y|y
   .exact n<|.inl y
   .exact n<|.inr (.inl y)
   .exact n<|.inr (.inr<|QI y)
  .refine bC (λw=>c0<|by have:=V.int.inj w;rw[Q2,le]at this;lia) ?_;have ny:x.erase k≠[]:=QR ();have w1:=ok.shrunk ex ny () up1;let{ax,b5,b7,b8}:=hb1.insM;have Z:(ls.set i<|x.erase k).length=ls.length:=Qs;refine{_,M,a,ax,b5,M,b7,b8 _ ∅,_,M,a,L,A,_,(i:Int),M,hb1,(),by rw[Z];lia,w1.le,by rw[Z];lia,λH2 A2 S I e2 f2=>?_};rw[Xm (),Zt]at e2;let{w2,a5}:=w1.join (i:=i) (λj h=>h);rw[<-e2]at w2 a5;have l2:i<=S.length/\S.length<=ls.length:=by
    have:=Bd (ls:=ls.set i<|x.erase k) (i:=i);rw[<-e2,Z]at this;lia
   let{bb,be,bf,bi}:=I.insM;refine{_,M,a,bb,be,M,bf,bi _ ∅,_,M,_,_,M,M,a,L,A2,S,(i:Int)-1,M,I,(),(),w2.le,(),λH3 A3 a0 bj e3 f3=>?_};have fin:JY a0/\a0.flatten=S.flatten:=by
    by_cases ci:i=0
    .subst ci;rw[Xl ()]at e3;subst e3;exact{w2.ok λj h=>(),M}
    .have ei:((i:Int)-1).toNat=i-1:=();rw[Xm (),ei]at e3;let{w3,a6}:=w2.join (i:=i-1) (λj h=>());rw[<-e3]at w3 a6;exact{w3.ok λj h=>(),a6}
   let{bl,bo}:=fin;refine q H3 _ _ {L,A3,a0,bj,bl,M,λb=>Iff.rfl} (λz=>by rw[bo,a5,G,ef])<|((fr.trans f1).trans f2).trans f3
theorem wm:∀{a b:Mb},d9 a->d9 b->(∀z,z∈a↔z∈b)->a=b
 | [],[],_,_,_=>rfl
 | [],y::r,_,_,h=>by have:=(h y).mpr Q8;cases this
 |x::r,[],_,_,h=>by have:=(h x).mp Q8;cases this
 |x::r,y::r',ha,hb,h=>by
  let{I,O}:=Zm.mp ha;let{b1,b2}:=Zm.mp hb;have G:x=y:=by
   rcases Qc.mp ((h x).mp Q8)with e|e
   .exact e
   .rcases Qc.mp ((h y).mpr Q8)with e2|e2
    .exact e2.symm
    .have h1:=b1 x e;have h2:=I y e2;lia
  subst G;rw[wm O b2 λz=>?_];constructor
  .intro hz;rcases Qc.mp ((h z).mp<|Q7 _ hz)with e|e
   .have:=I z hz;lia
   .exact e
  .intro hz;rcases Qc.mp ((h z).mpr<|Q7 _ hz)with e|e
   .have:=b1 z hz;lia
   .exact e
def Kp.rise(h:Kp K t H a F ks):d9 ks:=by
 let{_,_,ls,_,ok,z,_}:=h;rw[<-z];exact ok.up
def eE(Y:JF K C bm)(k:RsB p H C E){x:Str}:mq K (ql C<|qE (tC<|.str x) vZ) E D W H:=by
 refine{(by show 1<=1000;decide),λea G=>{ea,C,none,bm,M,I0,Y,?_}};rw[bW];refine k ea none _ {I0,.inl ⟨M,M⟩} λb o q z=>?_;rw[ae (ai q G)];exact q
def wx(T:Txt K mg t w):J9 P w K mg base JT 1 t.sO t.mH [nj] wb:=by
 refine T.yV.okl wj λs H vs Q E z h _=>?_;intro X;let{x,rfl,hx,k}:=h;refine{_,(av<|aD<|rG (ay cH {_} T.aO aF (aa J7<|aa (gI (v:= .ty "int") {_} T.BU vE M) af))<|u7<|rD<|ay cH {_} T.aO aF (aa J7<|aa (gI (v:= .ty "bool") {_} T.GE zU M) af))
  ,?_}
 cases x with
 |int i=>
  refine{_,M,_,_,_,_,M,JP.int _,Do,true,M,bL ?_};exact{_,M,_,_,_,_,M,JP.int _,Dp,_,M,k}
 |bl c=>
  refine{_,M,_,_,_,_,M,JP.bl _,Hh,true,M,bL ?_};exact{_,M,_,_,_,_,M,JP.bl _,Hi,_,M,k}
 |str c=>exact{_,M,_,_,_,_,M,JP.str _,Hf,false,M,bu k}
 |non=>exact{_,M,_,_,_,_,M,JP.non,Hg,false,M,bu k}
 |_=>exact hx.elim
def mw(T:Txt K mg t w):J9 P w K mg base JT 2 t.uK t.pB [nj,"low"] yc:=by
 refine T.fN.okl yj λs H vs Q E z h _=>?_;intro X;let{x,lo,rfl,hx,k}:=h;refine{_,(av<|aD<|rG (a4 (wx T) z.mo {_} T.He T.yV.kp T.HM .nil aS (aa J7 af))<|u7<|fA CQ J7 JB<|aC _)
  ,?_}
 cases x with
 |int i=>exact{_,M,_,M,hx,true,M,bL {_,M,_,M,_,_,M,M,k}}
 |bl c=>exact{_,M,_,M,hx,false,M,bu k}
 |str c=>exact{_,M,_,M,hx,false,M,bu k}
 |non=>exact{_,M,_,M,hx,false,M,bu k}
 |_=>exact hx.elim
def f9(T:Txt K mg t w):J9 P w K mg base JT 1 t.iF t.ii [cj,"kind",nD,qs] (fQ K):=by
 refine T.iH.okl rc λs H vs Q E S h _=>?_;intro X;let{p,C,dx,kd,a,e,rfl,hp,cl,G,I,O,k}:=h;refine ag (bK J7 JB M)
   (ag (bK J7 JG M)
   (aw (bK J7 K3 M) ?_))
 intros
 refine{_,M,_,M,p,C,dx,[],M,hp,cl,G,(by show 0<1000;decide),_,M,_,M,p,C,dx,_,M,I0,cl,I,(by show 1<1000;decide),_,M,_,M,p,C,dx,_,M,I0,cl,O,?_,?_}
 .have h1:=j4 (f:=nD) (v:=a) (bT "kind" (.str kd) []);have h2:=j4 (f:="kind") (v:= .str kd) [];have U:([]:Mo).length=0:=M;lia
 rw[bW,bW];refine k _ _ (λb o q z=>by rw[ae z];exact q) I0 {?_,?_,?_,?_,?_}
 .rw[bx,Xl ∅,bx,Xl ∅,bx,Xm M]
 .rw[bx,Xl ∅,bx,Xm M]
 .rw[bx,Xm M]
 .rw[bx,Xl ∅,bx,Xl ∅,bx,Xl ∅];rfl
 .rw[bx,Xl ∅,bx,Xl ∅,bx,Xl ∅];rfl
def kQ{x:V}{lo:Int}(h:isF lo x=true):∃i,x= .int i/\lo<=i:=by
 cases x with
 |int i=>exact{i,M,Xw h}
 |_=>cases h
def eF(T:Txt K mg t w):J9 P w K mg base (K9 P w) 3 t.jO t.cq [cj,nD,qs] (oO t):=by
 let{G,z}:=T.g_PLACES;have a0:=K5.nd;refine T.BS.okX K5 (λvs H Q E h=>?_)<|λa1 A outer s H vs Q E S h=>?_
 .let{p,dx,a,e,rfl,_}:=h;rfl
 .let{p,dx,a,e,rfl,hp,sa,se,k1,k2}:=h;refine ag (aU (fc<|PW.pt<|c6 (bB<|a4 (mw T) S.mo {_} T.iU T.fN.kp T.iW .nil aS (aa JB<|aa ak af))<|c6 (bB<|a4 (mw T) S.mo {_} T.iU T.fN.kp T.iW .nil aS (aa JG<|aa JB af))<|cv<|az ww JG (bv (v:= .int 65536) {_} z {_,M})<|aC _)
   (av<|bH M bQ<|bE T.am T.dw {_} T.cb (aa a7 af))
   ar)
     (aw (bc<|u9 {_} T.wH T.lC T.iH.kp (f9 T) S.mo T.lG .nil aS (@ba _ _ _ _ _ J7 (@ba _ _ _ _ _ a7 (@ba _ _ _ _ _ JB (@ba _ _ _ _ _ JG af M) M) M) M)) ?_)
  intros
  refine{_,M,a,0,M,sa,_,M,nQ (λc=>?_)<|λc=>?_}
  .let{i,rfl,i0}:=kQ c;refine{_,M,_,M,e,i,M,se,_,M,nQ (λc=>?_)<|λc=>?_}
   .let{j,rfl,ij}:=kQ c;refine{_,M,_,_,M,M,_,M,?_};by_cases I:j<=65536
    .rw[Xn I];exact bu {_,M,_,M,_,M,p,_,dx,_,.int i,.int j,M,hp,T.yP,T.BL,T.tP,T.rY,λH' fs k h f=>k1 ⟨i,j,M,M,i0,ij,I⟩ H' fs k h f}
    .rw[Xo I];exact bL<|eE T.am (k2 λzz=>by let{Y,Z,O,e2,_,_,h}:=zz;cases e2;exact I h)
   .exact bL<|eE T.am (k2 λU=>by let{Y,Z,O,e2,_,h,_}:=U;exact c<|by cases O;rw[e2];exact Xn h)
  .exact bL<|eE T.am (k2 λU=>by let{Y,Z,O,_,h,_}:=U;exact c<|by rw[O];exact Xn h)
def eS(T:Txt K mg t w):J9 P w K mg base (K9 P w) 3 t.sP t.gj [cj,nD,qs] (wc t):=by
 have Y:=Kn.nd;refine T.HX.okX Kn (λvs H Q E h=>?_)<|λZ A outer s H vs Q E G h=>?_
 .let{p,dx,a,e,rfl,_}:=h;rfl
 .let{p,dx,a,e,rfl,hp,sa,se,k1,k2}:=h;refine ag (aU (fc<|PW.pt<|c6 (bB<|a4 (mw T) G.mo {_} T.iU T.fN.kp T.iW .nil aS (aa JB<|aa ak af))<|cv<|PW.pt<|ni (az j5 JG bR<|aC _)<|j3<|bB<|a4 (mw T) G.mo {_} T.iU T.fN.kp T.iW .nil aS (aa JG<|aa JB af))
   (av<|bH M bQ<|bE T.am T.dw {_} T.cb (aa a7 af))
   ar)
     (aw (bc<|u9 {_} T.wH T.lC T.iH.kp (f9 T) G.mo T.lG .nil aS (@ba _ _ _ _ _ J7 (@ba _ _ _ _ _ a7 (@ba _ _ _ _ _ JB (@ba _ _ _ _ _ JG af M) M) M) M)) ?_)
  intros
  refine{_,M,a,0,M,sa,_,M,nQ (λc=>?_)<|λc=>?_}
  .let{i,rfl,U}:=kQ c;have fin:Le (.int i) e->fQ K [.ref p,.str "up",.int i,e] H (λ_ H'=>Q .non H') E0:=λok=>{p,_,dx,"up",.int i,e,M,hp,T.Je,T.Hd,T.C3,T.AO,λH' fs k h f=>k1 ok H' fs k h f};by_cases z:e= .non
   .exact{_,M,M,_,M,lr z<|bu {_,M,_,M,_,M,fin {i,M,U,.inl z}}}
   .refine{_,M,M,_,M,bC z {_,M,_,M,e,i,M,se,_,M,?_}};cases I:isF i e with
    |true=>
     let{j,rfl,ij}:=kQ I;exact bu {_,M,_,M,_,M,fin {i,M,U,.inr ⟨j,M,ij⟩}}
    |false=>
     refine bL<|eE T.am (k2 λO=>?_);let{i',S,_,e2}:=O;cases S;rcases e2 with e2|⟨j',e2,h⟩
     .exact z e2
     .rw[e2]at I;exact XJ I h
  .exact bL<|eE T.am (k2 λO=>by let{i',S,h,_}:=O;exact c<|by rw[S];exact Xn h)
def lB(T:Txt K mg t w):J9 P w K mg base (K9 P w) 3 t.ou t.dU [cj,nD,qs] (tq t):=by
 have Y:=Kc.nd;refine T.Gc.okX Kc (λvs H Q E h=>?_)<|λZ A outer s H vs Q E G h=>?_
 .let{p,dx,a,e,rfl,_}:=h;rfl
 .let{p,dx,a,e,rfl,hp,sa,se,k1,k2}:=h;refine ag (aU (fc<|PW.pt<|c6 (bB<|a4 (mw T) G.mo {_} T.iU T.fN.kp T.iW .nil aS (aa JG<|aa ak af))<|cv<|PW.pt<|ni (az j5 JB bR<|aC _)<|j3<|bB<|a4 (mw T) G.mo {_} T.iU T.fN.kp T.iW .nil aS (aa JB<|aa JG af))
   (av<|bH M bQ<|bE T.am T.dw {_} T.cb (aa a7 af))
   ar)
     (aw (bc<|u9 {_} T.wH T.lC T.iH.kp (f9 T) G.mo T.lG .nil aS (@ba _ _ _ _ _ J7 (@ba _ _ _ _ _ a7 (@ba _ _ _ _ _ JB (@ba _ _ _ _ _ JG af M) M) M) M)) ?_)
  intros
  refine{_,M,e,0,M,se,_,M,nQ (λc=>?_)<|λc=>?_}
  .let{j,rfl,U}:=kQ c;have fin:Lx a (.int j)->fQ K [.ref p,.str "down",a,.int j] H (λ_ H'=>Q .non H') E0:=λok=>{p,_,dx,"down",a,.int j,M,hp,T.FN,T.Ff,T.yy,T.wz,λH' fs k h f=>k1 ok H' fs k h f};by_cases z:a= .non
   .exact{_,M,M,_,M,lr z<|bu {_,M,_,M,_,M,fin {j,M,U,.inl z}}}
   .refine{_,M,M,_,M,bC z {_,M,_,M,a,j,M,sa,_,M,?_}};cases I:isF j a with
    |true=>
     let{i,rfl,ij}:=kQ I;exact bu {_,M,_,M,_,M,fin {j,M,U,.inr ⟨i,M,ij⟩}}
    |false=>
     refine bL<|eE T.am (k2 λO=>?_);let{j',S,_,e2}:=O;cases S;rcases e2 with e2|⟨i',e2,h⟩
     .exact z e2
     .rw[e2]at I;exact XJ I h
  .exact bL (eE T.am<|k2 λO=>by let{j',S,h,_}:=O;exact c<|by rw[S];exact Xn h)
set_option genInjectivity false in
structure Mk1 where
 p:Addr
 mo:Int
 v:V
structure L7(t:JM)(H:Hp)(m l:G')(es:List Mk1):Prop where
 ob:∃dx,H m=some (.ins t.cO dx [("made",.ref l)])
 li:H l=some (.lst<|es.map λe=>V.ref e.p)
 tu:∀e∈es,H e.p=some (.tup [.int e.mo,e.v])
def L7.same{m l:G'}(h:L7 t H m l es)(s:JA H H'):L7 t H' m l es:={h.ob.imp λ_ e=>s _ _ e,s _ _ h.li,λe he=>s _ _<|h.tu e he}
def L7.keep{m l:G'}(h:L7 t H m l es)(z:H' m=H m)(e2:H' l=H l)(tp:∀b xs,H b=some (.tup xs)->H' b=some (.tup xs)):L7 t H' m l es:={h.ob.imp λ_ e=>z.trans e,e2.trans h.li,λe he=>tp _ _<|h.tu e he}
def qS(t:JM):Sp:=λvs H Q _=>∃(a dx:G'),vs=[.ref a]/\H a=some (.ins t.cO dx [])/\∀(H':Hp)(l:G'),L7 t H' a l []->H l=none->(∀b o,b≠a->H b=some o->H' b=some o)->Q .non H'
def rP(T:Txt K mg t w):J9 P w K mg base JT 1 t.lN t.ir [cj] (qS t):=by
 refine T.Ex.okl rj λs H vs Q E I h _=>?_;intro X;let{a,dx,rfl,ha,q}:=h;refine{_,(av<|bK J7 (fe af) M)
  ,?_}
 refine{Ql _,λl z=>{_,M,a,_,dx,[],M,(by rwa[ae (ai ha z)]),T.dX,T.cr,(by show 0<1000;decide),?_}};have G:a≠l:=ai ha z;exact q _ l {⟨dx,I0⟩,by rw[ae G.symm];exact I0,λe he=>by cases he} z λb o n e=>by rwa[ae n,ae (ai e z)]
def qR(t:JM):Sp:=λvs H Q _=>∃(m l:G')(es:List Mk1)(mo:Int)(v:V),vs=[.ref m,.int mo,v]/\L7 t H m l es/\es.length<100000/\
 ∀(H':Hp)(p:G'),L7 t H' m l (es++ [⟨p,mo,v⟩])->H p=none->(∀b o,b≠l->H b=some o->H' b=some o)->Q .non H'
def rO(T:Txt K mg t w):J9 P w K mg base JT 1 t.lM t.iq [cj,cs,nz] (qR t):=by
 refine T.Ew.okl rh λs H vs Q E I h _=>?_;intro X;let{m,l,es,mo,v,rfl,M',le,q}:=h;refine{_,(av<|bc<|eu Qq QX QY fL (aE J7 M)<|aa (yq<|aa JB<|aa JG af) af)
  ,?_}
 let{dx,ho}:=M'.ob;refine{_,M,m,_,dx,_,_,M,ho,T.dX,T.cr,M,.inl {M,_,JC.of M'.li},_,M,_,M,(by show 2<=sizeLine;decide),λp np=>?_};have s1:=au (o:= .tup [.int mo,v]) np;have pl:p≠l:=λz=>by rw[z,M'.li]at np;cases np
 have G:m≠l:=λz=>by have:=M'.li;rw[<-z,ho]at this;cases this
 refine{l,_,_,M,M,s1 _ _ M'.li,dA (by rw[Q2];lia),?_};refine q _ p {{dx,by rw[ae G];exact s1 _ _ ho},by rw[I0,Qi];rfl,λe he=>?_} np λb o n e=>by rw[ae n];exact s1 _ _ e
 rcases Qb.mp he with he|he
 .have te:=s1 _ _ (M'.tu e he);rwa[ae (λz=>by rw[z,s1 _ _ M'.li]at te;cases te)]
 .rw[Qe.mp he];rw[ae pl];exact I0
def FE{H2:Hp}(s:JA H H2)(n:H2 p=none):H p=none:=by
 cases e:H p with
 |none=>rfl
 |some o=>rw[s _ _ e]at n;cases n
def GU{t u:TS}(M':MA)(h1:∀nx,(∀z H',M' z H'->nx z H')->t {D with nx:=nx} W H)(h2:∀z H',M' z H'->u D z H'):xR t u D W H:=h1 (u D) h2
noncomputable def Kz(fl:Int)(es:List Mk1):List Mk1:=match (es.filter λy=>decide (y.mo<=fl)).getLast? with
 |none=>es.filter λy=>decide (fl<y.mo)
 |some y=>if y.v= .non then es.filter λy=>decide (fl<y.mo)else y::es.filter λy=>decide (fl<y.mo)
def EK:(Kz fl es).length<=es.length:=by
 have h:(es.filter λy=>decide (y.mo<=fl)).length+(es.filter λy=>decide (fl<y.mo)).length=es.length:=by
  induction es with
  |nil=>rfl
  |cons y r G=>
   rw[Zd,Zd,Q9];by_cases c:y.mo<=fl
   .rw[Xm (Xn c),Xl (by rw[Xo ()];exact Q6),Q9];lia
   .rw[Xl (by rw[Xo c];exact Q6),Xm (Xn ()),Q9];lia
 unfold Kz;cases e:(es.filter λy=>decide (y.mo<=fl)).getLast? with
 |none=>dsimp only;lia
 |some y=>
  have:(es.filter λy=>decide (y.mo<=fl))≠[]:=λz=>by rw[z]at e;cases e
  have:=QD.mpr this;dsimp only;split
  .lia
  .rw[Q9];lia
def y9{y:Mk1}(h:y∈Kz fl es):y∈es:=by
 have f:∀{p:Mk1->Bool},y∈es.filter p->y∈es:=λh=>(Z7.mp h).1;unfold Kz at h;cases e:(es.filter λy=>decide (y.mo<=fl)).getLast? with
 |none=>rw[e]at h;exact f h
 |some z=>
  rw[e]at h;dsimp only at h;split at h
  .exact f h
  .rcases Qc.mp h with rfl|h
   .exact f<|List.mem_of_getLast? e
   .exact f h
def GQ(h:es.Pairwise λa b=>a.mo<b.mo):(Kz fl es).Pairwise λa b=>a.mo<b.mo:=by
 have f:(es.filter λy=>decide (fl<y.mo)).Pairwise λa b=>a.mo<b.mo:=h.sublist List.filter_sublist;unfold Kz;cases e:(es.filter λy=>decide (y.mo<=fl)).getLast? with
 |none=>exact f
 |some z=>
  dsimp only;split
  .exact f
  .refine Zm.mpr {λb hb=>?_,f};have h1:=Xw (Z7.mp<|List.mem_of_getLast? e).2;have h2:=Xw (Z7.mp hb).2;lia
def zM{p:Mk1->Bool}{y:Mk1}(e:es[i]?=some y):(es.take<|i+1).filter p=(es.take i).filter p++(if p y=true then[y]else[]):=by
 rw[QK,e,X2];congr 1;show List.filter p [y]=_;rw[Zd];rfl
def sift{tc:TT}{O:VK}{m l:G'}(p:Mk1->Bool)(M':L7 t H1 m l es)(le:es.length<50000)(hc:∀y∈es,∀(H2:Hp)(R:MC),H2 y.p=some (.tup [.int y.mo,y.v])->R (p y) H2->tc (some (.ref y.p)::W) H2 R)
  (q:∀D,H1 D=none->O (.ref D) (upd H1 D<|.lst<|(es.filter p).map λy=>V.ref y.p)):sK tc (xQ 0) W O (Ls K l) H1:=by
 intro D G;refine sI (K:=K) (a:=l) (xs:=es.map λy=>V.ref y.p) (λi ys H2=>H2=upd H1 D (.lst ys)/\ys=((es.take i).filter p).map λy=>V.ref y.p) ⟨M,M⟩ (λi ys H2 _ w=>JC.of<|by rw[w.1,ae (ai M'.li G)];exact M'.li) (λi x ys H2 hx w z=>?_)<|λys H2 w z=>?_
 .have hi:=(Q3.mp hx).1;obtain⟨y,I,rfl⟩:∃y,es[i]?=some y/\x= .ref y.p:=by
   rw[Qk]at hx;cases e:es[i]? with
   |none=>rw[e]at hx;cases hx
   |some y=>rw[e]at hx;cases hx;exact⟨y,M,M⟩
  have hy:=Q0 I;have ty:H2 y.p=some (.tup [.int y.mo,y.v]):=by
   rw[w.1,ae (ai (M'.tu y hy) G)];exact M'.tu y hy
  refine hc y hy H2 _ ty ?_;cases c:p y with
  |true=>
   refine bL {_,M,KB.mk hi z (dA ?_) {by rw[w.1,bW],?_}}
   .rw[w.2,Q2];have:=QO p (es.take i);rw[Qo]at this;lia
   .rw[w.2,zM I,Xm c,Qi];rfl
  |false=>
   refine bu<|LD.mk hi z {w.1,?_};rw[w.2,zM I,Xl (by rw[c];exact Q6),List.append_nil]
 .rw[w.1,w.2,Q2,Zx];exact q D G
def pW(t:JM):Sp:=λvs H Q _=>∃(m l:G')(es:List Mk1)(fl:Int),vs=[.ref m,.int fl]/\L7 t H m l es/\es.length<50000/\
 ∀(H':Hp)(l':G'),L7 t H' m l' (Kz fl es)->H l'=none->(∀b o,b≠m->H b=some o->H' b=some o)->Q (.int<|(es.length:Int)-((Kz fl es).length:Int)) H'
def qd(T:Txt K mg t w):J9 P w K mg base JT 1 t.kE t.gr [cj,rr] (pW t):=by
 refine T.D6.okl Jp λs H vs Q E hr h _=>?_;intro X;let{m,l,es,fl,rfl,M',le,q}:=h;refine ag (wp (i:=2) M (JL.of (M':=["make"]) (N:=[cj,rr,"old","stay","thrown"]) (N':=[cj,rr,"old","stay","thrown"]) (dsc:=ah cx) M M ∅) (uZ<|aE J7 M) (λ_ _ _ _ _=>(az ww (bI (zG K M) J7 ak<|λ_ _=>M) JG<|aC _)) (λ_ _ _ _ _=>J7) Jp.nd M M)
   (ag (wp (i:=3) M (JL.of (M':=["make"]) (N:=[cj,rr,"old","stay","thrown"]) (N':=[cj,rr,"old","stay","thrown"]) (dsc:=ah cx) M M ∅) (uZ<|aE J7 M) (λ_ _ _ _ _=>(az uh (bI (zG K M) J7 ak<|λ_ _=>M) JG<|aC _)) (λ_ _ _ _ _=>J7) Jp.nd M M)
   (bZ (λx=>aU (PW.pt<|c6 (az uh (ay aN {_} T.cu bO (aa JG af)) ak<|aC _)<|cv<|az qr (bI kq (bI bp JG (CH xL ak)<|λ_ _=>M) ak<|λ_ _=>M) bR<|aC _) x ar) ?_))
 refine aw (bc<|eu Qq ZF ZG pc K3<|aa ak<|aa (bI bp JG (CH xL ak)<|λ_ _=>M) af) ?_
 intros
 refine ag (Ju 4<|bd mt (ay aN {_} T.cu bO (aa (aE J7 M) af))<|ay aN {_} T.cu bO (aa K3 af))
   (ag (bK J7 K3 M)
   (aw (aD L9) ?_))
 intros
 let{dx,ho}:=M'.ob;refine{_,M,m,_,dx,_,_,M,ho,T.dX,T.cr,M,l,M,{_,JC.of M'.li},sift (λy=>decide (y.mo<=fl)) M' le (λy hy H2 R ty hR=>{_,M,y.p,_,_,_,M,M,Kg.of ty,M,_,M,_,_,M,M,_,M,hR}) λlo no=>?_};have s1:=au (o:= .lst<|(es.filter λy=>decide (y.mo<=fl)).map λy=>V.ref y.p) no;have Y:upd H lo (.lst<|(es.filter λy=>decide (y.mo<=fl)).map λy=>V.ref y.p) lo=some (.lst<|(es.filter λy=>decide (y.mo<=fl)).map λy=>V.ref y.p):=I0;generalize upd H lo (.lst<|(es.filter λy=>decide (y.mo<=fl)).map λy=>V.ref y.p)=H1 at s1 Y⊢;have M1:=M'.same s1;let{a3,a0}:=M1.ob;refine{_,M,m,_,a3,_,_,M,a0,T.dX,T.cr,M,l,M,{_,JC.of M1.li},sift (λy=>decide (fl<y.mo)) M1 le (λy hy H2 R ty hR=>{_,M,y.p,_,_,_,M,M,Kg.of ty,M,_,M,_,_,M,M,_,M,hR}) λls ns=>?_};have s2:=au (o:= .lst<|(es.filter λy=>decide (fl<y.mo)).map λy=>V.ref y.p) ns;have G:upd H1 ls (.lst<|(es.filter λy=>decide (fl<y.mo)).map λy=>V.ref y.p) ls=some (.lst<|(es.filter λy=>decide (fl<y.mo)).map λy=>V.ref y.p):=I0;have S:=FE s1 ns;generalize upd H1 ls (.lst<|(es.filter λy=>decide (fl<y.mo)).map λy=>V.ref y.p)=H2 at s2 G⊢;have I:=s2 _ _ Y;have s2:=s1.trans s2;clear s1 Y ns no a0 M1;have M2:=M'.same s2;have lf:=QO (λy=>decide (fl<y.mo)) es;unfold lF
 (try dsimp only)
 refine GU (λW H3=>W=[some (.ref m),some (.int fl),some (.ref lo),some (.ref ls),none]/\H3 ls=some (.lst<|(Kz fl es).map λy=>V.ref y.p)/\∀b o,b≠ls->H2 b=some o->H3 b=some o) (λnx go=>?_)<|λW H3 w=>?_
 .refine{_,M,lo,_,M,.inl<|JC.of I,_,_,M,M,_,M,?_};rw[Q2];rcases List.eq_nil_or_concat (es.filter λy=>decide (y.mo<=fl))with Z|⟨r,y,Z⟩
  .have O:Kz fl es=es.filter λy=>decide (fl<y.mo):=by unfold Kz;rw[Z];rfl
   rw[Z];refine bu<|bu (go _ _ {M,by rwa[O],λb o _ e=>e})
  .have a1:LB ((es.filter λy=>decide (y.mo<=fl)).map λy=>V.ref y.p) (-1)=some (.ref y.p):=by
    rw[Z,Zv,Qi];exact DW _ _
   have hy:y∈es:=(Z7.mp<|show y∈es.filter λy=>decide (y.mo<=fl) by rw[Z,Zv];exact Qg _ Q8).1;have ty:=M2.tu y hy;have gl:(es.filter λy=>decide (y.mo<=fl)).getLast?=some y:=by rw[Z,Zv,List.getLast?_concat]
   refine cn (by rw[Z,Zv,Qd,Z9];lia) {_,M,_,M,lo,_,_,_,M,M,JC.of I,a1,y.p,_,_,_,M,M,Kg.of ty,M,M,_,M,?_};by_cases c:y.v= .non
   .have O:Kz fl es=es.filter λy=>decide (fl<y.mo):=by unfold Kz;rw[gl];exact Xm c
    rw[Xn c];exact bu<|go _ _ {M,by rwa[O],λb o _ e=>e}
   .have O:Kz fl es=y::es.filter λy=>decide (fl<y.mo):=by unfold Kz;rw[gl];exact Xl c
    rw[Xo c];refine bL {_,M,.inl {M,_,JC.of G},_,M,_,M,lo,_,_,_,M,M,JC.of I,a1,ls,_,0,_,M,M,G,(_),(),dA (by rw[Q2];lia),?_};exact go _ _ {M,by rw[I0,O];rfl,λb o n e=>by rwa[ae n]}
 .let{rfl,U,k3}:=w;have ml:m≠ls:=λz=>by rw[z,S]at ho;cases ho
  have ll:l≠ls:=λz=>by have:=M'.li;rw[z,S]at this;cases this
  have a2:=k3 _ _ ml (s2 _ _ ho);have a5:=k3 _ _ ll (s2 _ _ M'.li);refine{_,M,m,_,dx,_,_,M,a2,T.dX,T.cr,M,l,_,M,.inl<|JC.of a5,_,M,ls,_,M,.inl<|JC.of U,_,_,M,M,?_};rw[Q2,Q2];refine{_,M,_,M,m,_,dx,_,M,a2,T.dX,T.cr,(by show 1<1000;decide),?_};have nb:∀b o,b≠m->H b=some o->upd H3 m (.ins t.cO dx<|bT ("made":Str) (.ref ls) [("made",.ref l)]) b=some o:=λb o n e=>by rw[ae n];exact k3 _ _ (λz=>by rw[z,S]at e;cases e)<|s2 _ _ e
  refine{_,M,q _ ls {{dx,by rw[I0];rfl},by rwa[ae ml.symm],λy hy=>?_} S nb};have:=M'.tu y (y9 hy);exact nb _ _ (λz=>by rw[z,ho]at this;cases this) this
noncomputable def qD(es:List Mk1)(mo:Int):V:=match es.reverse.find? (λy=>decide (y.mo<=mo))with
 |none=> .non
 |some y=>y.v
def l9(t:JM):Sp:=λvs H Q _=>∃(m l:G')(es:List Mk1)(mo:Int),vs=[.ref m,.int mo]/\L7 t H m l es/\Q (qD es mo) H
def mC(T:Txt K mg t w):J9 P w K mg base JT 1 t.gP t.dP [cj,cs] (l9 t):=by
 refine T.Ah.okl mh λs H vs Q E I h _=>?_;intro X;let{m,l,es,mo,rfl,M',q}:=h;refine bZ (λx=>(oV XR M (G4 {_} T.GD (aa (aE J7 M) af)) (Lj 2)
    x)) ?_
 refine aw (aU (az ww (bI kq JG ak<|λ_ _=>M) JB<|aC _)
    (av<|aD<|bI kq JG ak<|λ_ _=>M)
    ar) ?_
 intros
 refine aw (aD bR) ?_
 intros
 let{dx,ho}:=M'.ob;refine{_,M,m,_,dx,_,_,M,ho,T.dX,T.cr,M,l,_,M,JC.of M'.li,FG (K:=K) (a:=l) (xs:=es.map λy:Mk1=>V.ref y.p) (λi W H'=>∃z:Option V,W=[some (.ref m),some (.int mo),z]/\H'=H/\(es.reverse.take i).find? (λy=>decide (y.mo<=mo))=none) {_,M,M,M} (λi W H' _ w=>by let{_,_,rfl,_}:=w;exact JC.of M'.li) (λi x W H' hx w=>?_)<|λW H' w=>?_}
 .let{z,rfl,rfl,fn}:=w;obtain⟨y,G,rfl⟩:∃y,es.reverse[i]?=some y/\x= .ref y.p:=by
   rw[<-List.map_reverse,Qk]at hx;cases e:es.reverse[i]? with
   |none=>rw[e]at hx;cases hx
   |some y=>rw[e]at hx;cases hx;exact⟨y,M,M⟩
  have ty:=M'.tu y (List.mem_reverse.mp<|Q0 G);have LF:es.reverse=es.reverse.take i++y::es.reverse.drop (i+1):=by
   let{h,e}:=Q3.mp G;rw[<-e,<-ZE h,QP]
  refine{_,M,y.p,_,_,_,M,M,Kg.of ty,M,_,M,_,_,M,M,_,M,?_};by_cases c:y.mo<=mo
  .refine cn c {_,M,y.p,_,_,_,M,M,Kg.of ty,M,?_};have e:qD es mo=y.v:=by
    unfold qD;rw[LF,List.find?_append,fn,Option.none_or];rw[List.find?_cons_of_pos (by rw[Xn c])]
   rw[e]at q;exact q
  .refine bC c {_,M,M,?_};rw[QK,G,List.find?_append,fn,Option.none_or];show List.find? _ [y]=none;rw[List.find?_cons_of_neg (by rw[Xo c];exact Q6)];rfl
 .let{z,rfl,rfl,fn}:=w;rw[Q2,<-List.length_reverse,Zx]at fn;have e:qD es mo= .non:=by unfold qD;rw[fn]
  rw[e]at q;exact q
def Kq.notup(h:Kq K t H a F st)(e:H b=some (.tup xs)):¬F b:=λhb=>by
 let{d,h1,h2,_}:=h;let{dx,ho}:=h1.obj;have G:∀o,H b=some o->(∀ys,o≠ .tup ys)->False:=λo q n=>by rw[e]at q;exact n _ (Xq q).symm
 rcases(h2 b).mp hb with rfl|rfl|rfl|hb|⟨hs,rfl⟩|hb
 .exact G _ ho<|λ_ z=>by cases z
 .exact G _ h1.tbl<|λ_ z=>by cases z
 .exact G _ h1.row0.lst<|λ_ z=>by cases z
 .let{_,_,_,_,q}:=h1.row0.has hb;exact G _ q<|λ_ z=>by cases z
 .have r1:=h1.row1;cases I:st.nxt with
  |none=>rw[I]at hs;cases hs
  |some m=>rw[I]at r1;exact G _ r1.lst<|λ_ z=>by cases z
 .have r1:=h1.row1;cases I:st.nxt with
  |none=>rw[I]at r1;rw[r1.1]at hb;cases hb
  |some m=>
   rw[I]at r1;let{_,_,_,_,q}:=r1.has hb;exact G _ q<|λ_ z=>by cases z
def Kp.notup(h:Kp K t H a F ks)(e:H b=some (.tup xs)):¬F b:=λhb=>by
 let{L,A,ls,h1,_,_,h2}:=h;let{dx,ho}:=h1.obj;have G:∀o,H b=some o->(∀ys,o≠ .tup ys)->False:=λo q n=>by rw[e]at q;exact n _ (Xq q).symm
 rcases(h2 b).mp hb with rfl|rfl|hb
 .exact G _ ho<|λ_ z=>by cases z
 .exact G _ h1.lst<|λ_ z=>by cases z
 .let{_,_,_,_,q}:=h1.has hb;exact G _ q<|λ_ z=>by cases z
set_option genInjectivity false in
structure Pk where
 k:Int
 m:Addr
 l:Addr
 es:List Mk1
set_option genInjectivity false in
structure KQ where
 now:Int
 fl:Int
 ma:Int
 st:JO
 ks:List Int
 di:List (Addr×List V)
 pa:List Pk
 ho:List (Int×V)
noncomputable def mkOf:List Pk->Int->List Mk1
 | [],_=> []
 |e::r,k=>if e.k=k then e.es else mkOf r k
noncomputable def KR(pa:List Pk):List (Int×V):=pa.map λe=>(e.k,V.ref e.m)
def Km(now fl:Int)(s l w:G')(mk:Int)(p h:G'):List (Str×V):=[("now",.int now),(rr,.int fl),("slots",.ref s),(ri,.ref l),("written",.ref w),("marks",.int mk),("past",.ref p),("holders",.ref h)]
def NoH(m:Str):Prop:=m≠("now":Str)/\m≠(rr:Str)/\m≠("slots":Str)/\m≠(ri:Str)/\m≠("written":Str)/\m≠("marks":Str)/\m≠("past":Str)/\m≠("holders":Str)
instance {m:Str}:Decidable (NoH m):=by unfold NoH;infer_instance
section
variable{now now' mk mk':Int}{s l w:G'}{m:Str}
def nR:(Km now fl s l w mk p h).lookup ("now":Str)=some (.int now):=eQ
def Dy:(Km now fl s l w mk p h).lookup (rr:Str)=some (.int fl):=by unfold Km;rw[bG ∅,eQ]
def Dx:(Km now fl s l w mk p h).lookup ("slots":Str)=some (.ref s):=by unfold Km;rw[bG ∅,bG ∅,eQ]
def Hy:(Km now fl s l w mk p h).lookup (ri:Str)=some (.ref l):=by unfold Km;rw[bG ∅,bG ∅,bG ∅,eQ]
def Dw:(Km now fl s l w mk p h).lookup ("written":Str)=some (.ref w):=by unfold Km;rw[bG ∅,bG ∅,bG ∅,bG ∅,eQ]
def yK:(Km now fl s l w mk p h).lookup ("past":Str)=some (.ref p):=by unfold Km;rw[bG ∅,bG ∅,bG ∅,bG ∅,bG ∅,bG ∅,eQ]
def sv:(Km now fl s l w mk p h).lookup ("holders":Str)=some (.ref h):=by unfold Km;rw[bG ∅,bG ∅,bG ∅,bG ∅,bG ∅,bG ∅,bG ∅,eQ]
def zK(n:NoH m):(Km now fl s l w mk p h).lookup m=none:=by
 let{h1,h2,z,G,I,O,S,U}:=n;unfold Km;rw[bG h1,bG h2,bG z,bG G,bG I,bG O,bG S,bG U];rfl
def E2:bT ("now":Str) (.int now') (Km now fl s l w mk p h)=Km now' fl s l w mk p h:=by unfold Km;rw[bT,Xm M]
def G1{z:Int}:bT (rr:Str) (.int z) (Km now fl s l w mk p h)=Km now z s l w mk p h:=by unfold Km;rw[bT,Xl ∅,bT,Xm M]
def vq:(Km now fl s l w mk p h).length<1000:=by show 8<1000;decide
end
def Ow(a w p h:G')(pa:List Pk):Addr->Prop:=λb=>b=a\/b=w\/b=p\/b=h\/∃e∈pa,b=e.m\/b=e.l
structure KL(t:JM)(H:Hp)(a s l w p h:G')(x:KQ):Prop where
 ob:∃dx,H a=some (.ins t.bi dx<|Km x.now x.fl s l w x.ma p h)
 wr:H w=some (.lst<|x.di.map λe=>V.ref e.1)
 dr:∀e∈x.di,H e.1=some (.tup e.2)
 pa:H p=some (.dK<|aZ<|KR x.pa)
 ho:H h=some (.dK<|aZ x.ho)
 mx:∀e∈x.pa,L7 t H e.m e.l e.es
 ph:p≠h
 wl:∀e∈x.pa,e.l≠w
 kd:(x.pa.map (·.k)).Nodup
 md:(x.pa.map (·.m)).Nodup
 ld:(x.pa.map (·.l)).Nodup
def kN{t u:TS}(M':MA)(h1:∀nx,(∀z H',M' z H'->nx z H')->t {D with nx:=nx} W H)(h2:∀z H',M' z H'->u D z H'):xR t u D W H:=h1 (u D) h2
def A9:pH (aZ kvs)=(kvs.map (·.1)).map V.int:=by
 unfold pH aZ;rw[QL,QL];rfl
def FD{H2:Hp}(s:JA H H2)(n:H2 p=none):H p=none:=by
 cases e:H p with
 |none=>rfl
 |some o=>rw[s _ _ e]at n;cases n
def yx{f:α->β}{l:List α}(n:(l.map f).Nodup){x y:α}(hx:x∈l)(hy:y∈l)(e:f x=f y):x=y:=by
 induction l with
 |nil=>cases hx
 |cons z r I=>
  let{G,O}:=Qz.mp n;rcases Qc.mp hx with rfl|hx'<;>rcases Qc.mp hy with rfl|hy'
  .rfl
  .exact Xp (Qh.mpr ⟨y,hy',e.symm⟩) G
  .exact Xp (Qh.mpr ⟨x,hx',e⟩) G
  .exact I O hx' hy'
section
variable{s l w q:G'}{x:KQ}{y:Mk1}
def KL.dom(A:KL t H a s l w p h x)(hb:Ow a w p h x.pa b):∃o,H b=some o/\∀ys,o≠ .tup ys:=by
 let{dx,ho}:=A.ob;rcases hb with rfl|rfl|rfl|rfl|⟨e,he,rfl|rfl⟩
 .exact{_,ho,λ_ z=>by cases z}
 .exact{_,A.wr,λ_ z=>by cases z}
 .exact{_,A.pa,λ_ z=>by cases z}
 .exact{_,A.ho,λ_ z=>by cases z}
 .let{I,G}:=(A.mx e he).ob;exact{_,G,λ_ z=>by cases z}
 .exact{_,(A.mx e he).li,λ_ z=>by cases z}
def KL.keep(A:KL t H a s l w p h x)(g:∀b,Ow a w p h x.pa b->H' b=H b)(tp:∀b xs,H b=some (.tup xs)->H' b=some (.tup xs)):KL t H' a s l w p h x:=
 {A.ob.imp λ_ e=>(g a<|.inl M).trans e,(g w<|.inr<|.inl M).trans A.wr,λe he=>tp _ _<|A.dr e he,(g p<|.inr<|.inr<|.inl M).trans A.pa,(g h<|.inr<|.inr<|.inr<|.inl M).trans A.ho,
  λe he=>(A.mx e he).keep (g _<|.inr<|.inr<|.inr<|.inr {e,he,.inl M}) (g _<|.inr<|.inr<|.inr<|.inr {e,he,.inr M}) tp,A.ph,A.wl,A.kd,A.md,A.ld}
def KL.same(A:KL t H a s l w p h x)(m:JA H H'):KL t H' a s l w p h x:=A.keep (λb hb=>by
 let{o,e,_}:=A.dom hb;rw[e];exact m _ _ e) λb xs e=>m _ _ e
def KL.set(A:KL t H a s l w p h x){now mk:Int}:KL t (upd H a<|.ins t.bi dx<|Km now fl s l w mk p h) a s l w p h {x with now:=now,fl:=fl,ma:=mk}:=by
 let{O,ho}:=A.ob;have n:∀{b:G'}{o:HO},H b=some o->(∀c d fs,o= .ins c d fs->fs.length=1)->b≠a:=λe i z=>by
  rw[z,ho]at e;have:=i _ _ _ (Xq e).symm;cases this
 have G:∀{b:G'}{o:HO},H b=some o->(∀c d fs,o≠ .ins c d fs)->b≠a:=λe i=>n e λc d fs z=>Xp z (i c d fs);refine{⟨dx,I0⟩,by rw[ae (G A.wr λ_ _ _ z=>by cases z)];exact A.wr,λe he=>by rw[ae (G (A.dr e he) λ_ _ _ z=>by cases z)];exact A.dr e he,by rw[ae (G A.pa λ_ _ _ z=>by cases z)];exact A.pa,
  by rw[ae (G A.ho λ_ _ _ z=>by cases z)];exact A.ho,λe he=>?_,A.ph,A.wl,A.kd,A.md,A.ld}
 have M':=A.mx e he;let{S,I}:=M'.ob;exact M'.keep (ae<|n I λ_ _ _ z=>by cases z;rfl) (ae<|G M'.li λ_ _ _ z=>by cases z) λb xs e=>by rwa[ae (G e λ_ _ _ z=>by cases z)]
def KL.row(A:KL t H a s l w p h x)(I:H r=some (.tup xs)):KL t (upd H w<|.lst<|x.di.map (λe=>V.ref e.1)++ [.ref r]) a s l w p h {x with di:=x.di++ [(r,xs)]}:=by
 let{O,ho}:=A.ob;have G:∀{b:G'}{o:HO},H b=some o->(∀ys,o≠ .lst ys)->b≠w:=λe i z=>by
  rw[z,A.wr]at e;exact i _ (Xq e).symm
 refine{{O,by rwa[ae (G ho λ_ z=>by cases z)]},by rw[I0,Qi];rfl,λe he=>?_,by rw[ae (G A.pa λ_ z=>by cases z)];exact A.pa,by rw[ae (G A.ho λ_ z=>by cases z)];exact A.ho,λe he=>?_,A.ph,A.wl,A.kd,A.md,A.ld}
 .rcases Qb.mp he with he|he
  .rw[ae (G (A.dr e he) λ_ z=>by cases z)];exact A.dr e he
  .rw[Qe.mp he,ae (G I λ_ z=>by cases z)];exact I
 .have M':=A.mx e he;let{U,S}:=M'.ob;exact M'.keep (ae<|G S λ_ z=>by cases z) (ae<|A.wl e he) λb xs e=>by rwa[ae (G e λ_ z=>by cases z)]
noncomputable def LJ(pa:List Pk)(k:Int)(y:Mk1):List Pk:=pa.map λe=>if e.k=k then{e with es:=e.es++ [y]}else e
def ug{f:Pk->β}(hf:∀e es,f {e with es:=es}=f e):(LJ pa k y).map f=pa.map f:=by
 unfold LJ;rw[QL];refine Zh λe _=>?_;show f (if e.k=k then _ else e)=_;split
 .exact hf _ _
 .rfl
set_option tactic.hygienic true in
def va{e:Pk}(h:e∈LJ pa k y):∃g∈pa,e.k=g.k/\e.m=g.m/\e.l=g.l/\((g.k=k/\e.es=g.es++ [y])\/(g.k≠k/\e.es=g.es)):=by
 let{g,z,rfl}:=Qh.mp h;refine{g,z,?_};split
 .rename_i c;exact{M,M,M,.inl ⟨c,M⟩}
 .rename_i c;exact{M,M,M,.inr ⟨c,M⟩}
def G8(hb:Ow a w p h (LJ pa k y) b):Ow a w p h pa b:=by
 rcases hb with z|z|z|z|⟨e,he,z⟩
 .exact .inl z
 .exact .inr<|.inl z
 .exact .inr<|.inr (.inl z)
 .exact .inr<|.inr (.inr<|.inl z)
 .let{g,G,_,e2,I,_}:=va he;rw[e2,I]at z;exact .inr<|.inr (.inr<|.inr ⟨g,G,z⟩)
def KL.noted(A:KL t H a s l w p h x){e:Pk}(he:e∈x.pa)(Y:e.k=k)(M':L7 t H' e.m e.l (e.es++ [y]))(kp:∀b o,b≠e.l->H b=some o->H' b=some o):KL t H' a s l w p h {x with pa:=LJ x.pa k y}:=by
 let{dy,ho}:=A.ob;have hl:=(A.mx e he).li;have G:∀{b:G'}{o:HO},H b=some o->(∀ys,o≠ .lst ys)->H' b=some o:=λe i=>kp _ _ (λz=>by
  rw[z,hl]at e;exact i _ (Xq e).symm) e
 refine{{dy,G ho<|λ_ z=>by cases z},kp _ _ (A.wl e he).symm A.wr,λe he=>G (A.dr e he) (λ_ z=>by cases z),?_,G A.ho (λ_ z=>by cases z),λf hf=>?_,A.ph,λf hf=>?_,?_,?_,?_}
 .show H' p=some (.dK<|aZ<|KR<|LJ x.pa k y);unfold KR;rw[ug λ_ _=>rfl];exact G A.pa λ_ z=>by cases z
 .obtain⟨g,I,e1,e2,O,⟨c,U⟩|⟨c,U⟩⟩:=va hf
  .have:g=e:=yx A.kd I he (c.trans Y.symm);subst this;rw[e2,O,U];exact M'
  .have S:=A.mx g I;let{dm,Z}:=S.ob;rw[e2,O,U];exact S.keep ((G Z λ_ z=>by cases z).trans Z.symm) ((kp _ _ (λz=>c<|by rwa[yx A.ld I he z]) S.li).trans S.li.symm) λb xs e=>G e λ_ z=>by cases z
 .let{g,I,_,_,O,_}:=va hf;rw[O];exact A.wl g I
 .show((LJ x.pa k y).map (·.k)).Nodup;rw[ug λ_ _=>rfl];exact A.kd
 .show((LJ x.pa k y).map (·.m)).Nodup;rw[ug λ_ _=>rfl];exact A.md
 .show((LJ x.pa k y).map (·.l)).Nodup;rw[ug λ_ _=>rfl];exact A.ld
def qq(pa:List Pk)(k:Int):(a9 (KR pa) k=none/\k∉pa.map (·.k))\/∃e∈pa,e.k=k/\a9 (KR pa) k=some (.ref e.m)/\mkOf pa k=e.es:=by
 induction pa with
 |nil=>exact .inl {mO,λz=>by cases z}
 |cons e r O=>
  show(a9 ((e.k,V.ref e.m)::KR r) k=none/\_)\/∃g∈e::r,g.k=k/\a9 ((e.k,V.ref e.m)::KR r) k=_/\(if e.k=k then e.es else mkOf r k)=_;by_cases c:e.k=k
  .exact .inr {e,Q8,c,bM c,Xm c}
  .rw[bN c,Xl c];rcases O with⟨G,I⟩|⟨g,S,G,I,U⟩
   .refine .inl {G,λz=>?_};rw[Qm]at z;rcases Qc.mp z with z|z
    .exact c z.symm
    .exact I z
   .exact .inr {g,Q7 _ S,G,I,U}
theorem pe:∀{pa:List Pk},k∉pa.map (·.k)->mkOf pa k=[]
 | [],_=>rfl
 |e::r,n=>by
  rw[Qm]at n;show(if e.k=k then e.es else mkOf r k)=[];rw[Xl λz=>n (by rw[z];exact Q8)];exact pe λz=>n (Q7 _ z)
theorem nN{j:Int}:∀{pa:List Pk},k∈pa.map (·.k)->mkOf (LJ pa k y) j=if j=k then mkOf pa k++ [y]else mkOf pa j
 |e::r,n=>by
  show(if(if e.k=k then{e with es:=e.es++ [y]}else e:Pk).k=j then(if e.k=k then{e with es:=e.es++ [y]}else e:Pk).es else mkOf (LJ r k y) j)=if j=k then(if e.k=k then e.es else mkOf r k)++ [y]else(if e.k=j then e.es else mkOf r j)
  by_cases c:e.k=k
  .rw[Xm c,Xm c];show(if e.k=j then e.es++ [y]else mkOf (LJ r k y) j)=_;by_cases d:j=k
   .rw[Xm d,Xm (c.trans d.symm)]
   .rw[Xl d,Xl λz=>d (z.symm.trans c),Xl λz=>d (z.symm.trans c)];by_cases m:k∈r.map (·.k)
    .rw[nN m,Xl d]
    .have:LJ r k y=r:=by
      unfold LJ
      conv=>rhs;rw[<-List.map_id r]
      refine Zh λg G=>Xl λz=>m ?_;rw[<-z];exact Qh.mpr ⟨g,G,M⟩
     rw[this]
  .rw[Xl c,Xl c];have m:k∈r.map (·.k):=by
    rw[Qm]at n;rcases Qc.mp n with z|z
    .exact Xp z.symm c
    .exact z
   rw[nN m];by_cases d:j=k
   .rw[Xm d,Xm d,Xl λz=>c (z.trans d)]
   .rw[Xl d,Xl d]
theorem r9{e:Pk}{j:Int}:∀{pa:List Pk},e.k∉pa.map (·.k)->mkOf (pa++ [e]) j=if j=e.k then e.es else mkOf pa j
 | [],_=>by
  show(if e.k=j then e.es else[])=if j=e.k then e.es else[]
  by_cases c:e.k=j
  .rw[Xm c,Xm c.symm]
  .rw[Xl c,Xl (Ne.symm c)]
 |g::r,n=>by
  rw[Qm]at n;show(if g.k=j then g.es else mkOf (r++ [e]) j)=if j=e.k then e.es else(if g.k=j then g.es else mkOf r j)
  rw[r9 λz=>n (Q7 _ z)];by_cases c:g.k=j
  .rw[Xm c,Xm c,Xl λz=>n (by rw[<-z,<-c];exact Q8)]
  .rw[Xl c,Xl c]
def KL.newk(A:KL t H a s l w p h x){m g:G'}(Y:k∉x.pa.map (·.k))(M':L7 t H m g [])(Z:¬Ow a w p h x.pa m)(S:¬Ow a w p h x.pa g):KL t (upd H p<|.dK<|aZ<|KR x.pa++ [(k,.ref m)]) a s l w p h {x with pa:=x.pa++ [⟨k,m,g,[]⟩]}:=by
 let{dy,ho}:=A.ob;have G:∀{b:G'}{o:HO},H b=some o->(∀ys,o≠ .dK ys)->b≠p:=λe i z=>by
  rw[z,A.pa]at e;exact i _ (Xq e).symm
 have kp:∀{m' U:G'}{es:List Mk1}{o:HO},L7 t H m' U es->L7 t (upd H p o) m' U es:=λM'=>by
  let{dm,hm}:=M'.ob;exact M'.keep (ae<|G hm λ_ z=>by cases z) (ae<|G M'.li λ_ z=>by cases z) λb xs e=>by rwa[ae (G e λ_ z=>by cases z)]
 refine{{dy,by rwa[ae (G ho λ_ z=>by cases z)]},by rw[ae (G A.wr λ_ z=>by cases z)];exact A.wr,λe he=>by rw[ae (G (A.dr e he) λ_ z=>by cases z)];exact A.dr e he,?_,by rw[ae A.ph.symm];exact A.ho,λe he=>?_,A.ph,λe he=>?_,?_,?_,?_}
 .rw[I0];show _=some (HO.dK<|aZ<|KR<|x.pa++ [{k,m,g,[]}]);unfold KR;rw[Qi];rfl
 .rcases Qb.mp he with he|he
  .exact kp<|A.mx e he
  .rw[Qe.mp he];exact kp M'
 .rcases Qb.mp he with he|he
  .exact A.wl e he
  .rw[Qe.mp he];exact λz=>S (.inr<|.inl z)
 all_goals
  rw[Qi];refine List.nodup_append.mpr {?_,by simp,λu hu v I z=>?_}
 .exact A.kd
 .cases Qe.mp I;rw[z]at hu;exact Y hu
 .exact A.md
 .cases Qe.mp I;let{e,he,O}:=Qh.mp hu;exact Z<|.inr (.inr<|.inr<|.inr {e,he,.inl<|z.symm.trans O.symm})
 .exact A.ld
 .cases Qe.mp I;let{e,he,O}:=Qh.mp hu;exact S<|.inr (.inr<|.inr<|.inr {e,he,.inr<|z.symm.trans O.symm})
end
structure Jq(pa pa':List Pk)(k:Int)(y:Mk1):Prop where
 of:∀j,mkOf pa' j=if j=k then mkOf pa k++ [y]else mkOf pa j
 ky:pa'.map (·.k)=if k∈pa.map (·.k)then pa.map (·.k)else pa.map (·.k)++ [k]
structure LC(K:J4)(t:JM)(H:Hp)(a s l w p h:G')(Fs Fl:Mi)(x:KQ):Prop where
 o:KL t H a s l w p h x
 sl:Kq K t H s Fs x.st
 lv:Kp K t H l Fl x.ks
 a1:∀b,Fs b->¬Fl b
 a2:∀b,Ow a w p h x.pa b->¬Fs b
 a3:∀b,Ow a w p h x.pa b->¬Fl b
def LM(a w p h:G')(Fs Fl:Mi)(pa:List Pk):Addr->Prop:=λb=>Fs b\/Fl b\/Ow a w p h pa b
section
variable{s l w:G'}{Fs Fs' Fl Fl':Mi}{x x':KQ}
def LC.slots(B:LC K t H a s l w p h Fs Fl x)(S:Kq K t H' s Fs' st)(f:Fr Fs Fs' H H'):LC K t H' a s l w p h Fs' Fl {x with st:=st}/\Fr (LM a w p h Fs Fl x.pa) (LM a w p h Fs' Fl x.pa) H H':=by
 have k1:∀b,Fl b->H' b=H b/\¬Fs' b:=λb hb=>by
  let{o,e}:=B.lv.dom hb;have:=f b o (λz=>B.a1 b z hb) e;exact{this.1.trans e.symm,this.2}
 have k2:∀b,Ow a w p h x.pa b->H' b=H b/\¬Fs' b:=λb hb=>by
  let{o,e,_}:=B.o.dom hb;have:=f b o (B.a2 b hb) e;exact{this.1.trans e.symm,this.2}
 have O:=B.o.keep (H':=H') (λb hb=>(k2 b hb).1) λb xs e=>(f b _ (B.sl.notup e) e).1;exact{{⟨O.ob,O.wr,O.dr,O.pa,O.ho,O.mx,O.ph,O.wl,O.kd,O.md,O.ld⟩,S,B.lv.frame λb hb=>(k1 b hb).1,λb h1 h2=>(k1 b h2).2 h1,λb hb=>(k2 b hb).2,B.a3},λb o n e=>{(f b o (λz=>n<|.inl z) e).1,λz=>z.elim (f b o (λz=>n<|.inl z) e).2 λz=>n<|.inr z}}
def LC.leaves(B:LC K t H a s l w p h Fs Fl x)(S:Kp K t H' l Fl' ks)(f:Fr Fl Fl' H H'):LC K t H' a s l w p h Fs Fl' {x with ks:=ks}/\Fr (LM a w p h Fs Fl x.pa) (LM a w p h Fs Fl' x.pa) H H':=by
 have k1:∀b,Fs b->H' b=H b/\¬Fl' b:=λb hb=>by
  let{o,e}:=B.sl.dom hb;have:=f b o (B.a1 b hb) e;exact{this.1.trans e.symm,this.2}
 have k2:∀b,Ow a w p h x.pa b->H' b=H b/\¬Fl' b:=λb hb=>by
  let{o,e,_}:=B.o.dom hb;have:=f b o (B.a3 b hb) e;exact{this.1.trans e.symm,this.2}
 have O:=B.o.keep (H':=H') (λb hb=>(k2 b hb).1) λb xs e=>(f b _ (B.lv.notup e) e).1;exact{{⟨O.ob,O.wr,O.dr,O.pa,O.ho,O.mx,O.ph,O.wl,O.kd,O.md,O.ld⟩,B.sl.frame λb hb=>(k1 b hb).1,S,λb h1=>(k1 b h1).2,B.a2,λb hb=>(k2 b hb).2},λb o n e=>{(f b o (λz=>n<|.inr<|.inl z) e).1,λz=>z.elim (λz=>n<|.inl z) λz=>z.elim (f b o (λz=>n<|.inr<|.inl z) e).2 λz=>n<|.inr (.inr z)}}
def LC.own(B:LC K t H a s l w p h Fs Fl x)(O:KL t H' a s l w p h x')(G:x'.st=x.st)(e2:x'.ks=x.ks)(f:Fr (Ow a w p h x.pa) (Ow a w p h x'.pa) H H'):LC K t H' a s l w p h Fs Fl x'/\Fr (LM a w p h Fs Fl x.pa) (LM a w p h Fs Fl x'.pa) H H':=by
 have k1:∀b,Fs b->H' b=H b/\¬Ow a w p h x'.pa b:=λb hb=>by
  let{o,e}:=B.sl.dom hb;have:=f b o (λz=>B.a2 b z hb) e;exact{this.1.trans e.symm,this.2}
 have k2:∀b,Fl b->H' b=H b/\¬Ow a w p h x'.pa b:=λb hb=>by
  let{o,e}:=B.lv.dom hb;have:=f b o (λz=>B.a3 b z hb) e;exact{this.1.trans e.symm,this.2}
 exact{{O,by rw[G];exact B.sl.frame λb hb=>(k1 b hb).1,by rw[e2];exact B.lv.frame λb hb=>(k2 b hb).1,B.a1,λb h1 h2=>(k1 b h2).2 h1,λb h1 h2=>(k2 b h2).2 h1},λb o n e=>{(f b o (λz=>n<|.inr<|.inr z) e).1,λz=>z.elim (λz=>n<|.inl z) λz=>z.elim (λz=>n<|.inr<|.inl z) (f b o (λz=>n<|.inr<|.inr z) e).2}}
def LC.dom(B:LC K t H a s l w p h Fs Fl x)(hb:LM a w p h Fs Fl x.pa b):∃o,H b=some o/\∀ys,o≠ .tup ys:=by
 have G:∀F:Addr->Prop,F b->(∀xs,H b=some (.tup xs)->¬F b)->∀o,H b=some o->∃o,H b=some o/\∀ys,o≠ .tup ys:=λF I n o e=>{o,e,λys z=>n ys (by rw[e,z]) I};rcases hb with hb|hb|hb
 .let{o,e}:=B.sl.dom hb;exact G Fs hb (λxs e=>B.sl.notup e) o e
 .let{o,e}:=B.lv.dom hb;exact G Fl hb (λxs e=>B.lv.notup e) o e
 .exact B.o.dom hb
def LC.keep(B:LC K t H a s l w p h Fs Fl x)(g:∀b,LM a w p h Fs Fl x.pa b->H' b=H b)(tp:∀b xs,H b=some (.tup xs)->H' b=some (.tup xs)):LC K t H' a s l w p h Fs Fl x:=
 {B.o.keep (λb hb=>g b<|.inr<|.inr hb) tp,B.sl.frame λb hb=>g b<|.inl hb,B.lv.frame λb hb=>g b<|.inr<|.inl hb,B.a1,B.a2,B.a3}
end
structure JZ(x:KQ):Prop where
 ks:∀z,z∈x.ks↔(a9 x.st.kv z).isSome=true
 n0:0<=x.now
 m0:0<=x.ma
 dl:(x.di.length:Int)=x.now+x.ma
 pl:(x.pa.length:Int)<=x.now
 el:∀j,((mkOf x.pa j).length:Int)<=x.now
 sl:(x.st.kv.length:Int)<=x.now
 hn:(x.ho.map (·.1)).Nodup
 hv:∀p∈x.ho,x.fl<=p.1/\p.1<=x.now/\∃n:Int,p.2= .int n/\0<n
 fb:0<=x.fl/\x.fl<=x.now
 up:∀j,(mkOf x.pa j).Pairwise (λa b=>a.mo<b.mo)/\∀y∈mkOf x.pa j,y.mo<=x.now
def Kh(K:J4)(t:JM)(H:Hp)(a:G')(F:Mi)(x:KQ):Prop:=∃s l w p h Fs Fl,LC K t H a s l w p h Fs Fl x/\JZ x/\∀b,F b↔LM a w p h Fs Fl x.pa b
section
variable{q:G'}{F':Mi}{x:KQ}
def Kh.ins(A:Kh K t H a F x):∃dx fs,H a=some (.ins t.bi dx fs)/\(∀m,NoH m->fs.lookup m=none)/\fs.lookup ("now":Str)=some (.int x.now)/\fs.lookup (rr:Str)=some (.int x.fl):=by
 let{s,l,w,p,h,Fs,Fl,B,_}:=A;let{dx,e}:=B.o.ob;exact{dx,_,e,λm z=>zK z,nR,Dy}
def Kh.dom(A:Kh K t H a F x)(hb:F b):∃o,H b=some o/\∀ys,o≠ .tup ys:=by
 let{s,l,w,p,h,Fs,Fl,B,_,g}:=A;exact B.dom<|(g b).mp hb
def Kh.keep(A:Kh K t H a F x)(g:∀b,F b->H' b=H b)(tp:∀b xs,H b=some (.tup xs)->H' b=some (.tup xs)):Kh K t H' a F x:=by
 let{s,l,w,p,h,Fs,Fl,B,O,f}:=A;exact{s,l,w,p,h,Fs,Fl,B.keep (λb hb=>g b<|(f b).mpr hb) tp,O,f}
def Kh.same(A:Kh K t H a F x)(m:JA H H'):Kh K t H' a F x:=A.keep (λb hb=>by
 let{o,e,_}:=A.dom hb;rw[e];exact m _ _ e) λb xs e=>m _ _ e
end
def qX(t:JM):Sp:=λvs H Q _=>∃(a s l w p h r:G')(k:Int)(x:KQ)(v:V)(xs:L'),vs=[.ref a,.ref r,v]/\KL t H a s l w p h x/\H r=some (.tup xs)/\LB xs 1=some (.int k)/\x.di.length<50000/\x.pa.length<50000/\(mkOf x.pa k).length<50000/\
 ∀(H':Hp)(pa':List Pk)(q:G'),KL t H' a s l w p h {x with now:=x.now+1,di:=x.di++ [(r,xs)],pa:=pa'}->Jq x.pa pa' k {q,x.now+1,v}->Fr (Ow a w p h x.pa) (Ow a w p h pa') H H'->Q (.int<|x.now+1) H'
def rR(T:Txt K mg t w):J9 P w K mg base JT 3 t.lT t.iz [cj,"row",nz] (qX t):=by
 refine T.EC.okl rs λs H vs Q E hr h _=>?_;intro X;let{a,s,l,wr,p,h,r,k,x,v,xs,rfl,A,ht,hk,l1,l2,l3,q}:=h;refine ag (Ju 3<|bI kq JB ak<|λ_ _=>M)
   (ag (oW J7 ak yJ)
   (ag (bc<|eu Qq QX QY fL (aE J7 M)<|aa JB af)
   (ag (bc<|bg (eu Zp Xf PySem.F.type_dict_setdefault AS (aE J7 M)<|aa K3<|aa (cf T.IM (rP T) hr.mo {_} T.IN T.Ep .nil aS) af) T.dX T.Ec (rO T) hr.mo T.Eo .nil aS<|aa (aE J7 M)<|aa JG af)
   (aw (aD<|aE J7 M) ?_))))
 intros
 let{dx,ho}:=A.ob;refine{_,M,r,_,_,_,M,M,Kg.of ht,hk,?_};refine{_,M,a,_,dx,_,_,M,ho,T.aK,T.dJ,nR,_,_,M,M,dx,_,ho,vq,?_};rw[E2];have A1:=A.set (now:=x.now+1) (mk:=x.ma) (fl:=x.fl) (dx:=dx);have o1:∀b o,b≠a->H b=some o->upd H a (.ins t.bi dx<|Km (x.now+1) x.fl s l wr x.ma p h) b=some o:=λb o n e=>by rwa[ae n]
 have ra:r≠a:=λz=>by rw[z,ho]at ht;cases ht
 have O:=o1 _ _ ra ht;generalize upd H a (.ins t.bi dx<|Km (x.now+1) x.fl s l wr x.ma p h)=H1 at A1 o1 O⊢;let{a3,a0}:=A1.ob;refine{_,M,a,_,a3,_,_,M,a0,T.aK,T.iQ,Dw,.inl {M,_,JC.of A1.wr},_,M,wr,_,_,M,M,A1.wr,dA (by rw[Q2];show x.di.length<=_;lia),?_};have S:=A1.row O;have o2:∀b o,¬Ow a wr p h x.pa b->H b=some o->upd H1 wr (.lst<|x.di.map (λe=>V.ref e.1)++ [.ref r]) b=some o:=λb o n e=>by rw[ae λz=>n (.inr<|.inl z)];exact o1 _ _ (λz=>n<|.inl z) e
 generalize upd H1 wr (.lst<|x.di.map (λe=>V.ref e.1)++ [.ref r])=H2 at S o2⊢;let{a5,a1}:=S.ob;refine{_,M,a,_,a5,_,_,M,a1,T.aK,T.eP,yK,.inr<|.inr<|.inl {M,.inl {_,S.pa}},_,M,λm dm nm nd a6=>{m,dm,M,I0,λH4 g M4 ng o4=>{M,?_}}};have s3:JA H2 (upd (upd H2 dm<|.own m) m<|.ins t.cO dm []):=iK (au nd) nm;have s4:JA H2 H4:=λb o e=>o4 b o (λz=>by rw[z,nm]at e;cases e) (s3 b o e);have U:=FD s3 ng;have A4:=S.same s4;have om:¬Ow a wr p h x.pa m:=λz=>by let{o,e,_}:=S.dom z;rw[nm]at e;cases e
 have og:¬Ow a wr p h x.pa g:=λz=>by let{o,e,_}:=S.dom z;rw[U]at e;cases e
 have Z:∀b o,¬Ow a wr p h x.pa b->H b=some o->H4 b=some o/\b≠m/\b≠g:=λb o n e=>{s4 _ _<|o2 b o n e,λz=>(by have:=o2 b o n e;rw[z,nm]at this;cases this),λz=>(by have:=o2 b o n e;rw[z,U]at this;cases this)};clear s3 s4 o4 o2 o1 A1 S a1 a0 ho A ng nm nd a6 U O ht;refine{p,_,Sum.inl k,.ref m,M,M,A4.pa,(by rw[eG];exact dA<|by show(KR x.pa).length<=_;unfold KR;rw[Q2];lia),λu hu=>?A,λY=>?B}
 case' A=>
  have hu:a9 (aZ<|KR x.pa) (Sum.inl k:Key)=some u:=hu;rw[JK]at hu;obtain⟨e,he,I,ev,em⟩:∃e∈x.pa,e.k=k/\a9 (KR x.pa) k=some (.ref e.m)/\mkOf x.pa k=e.es:=by
   rcases qq x.pa k with⟨z,_⟩|z
   .rw[z]at hu;cases hu
   .exact z
  rw[ev]at hu;cases hu;obtain⟨G,A5,he,N,f5⟩:∃G,KL t H4 a s l wr p h {x with now:=x.now+1,di:=x.di++ [(r,xs)],pa:=G}/\e∈G/\(∀y,Jq x.pa (LJ G k y) k y)/\Fr (Ow a wr p h x.pa) (Ow a wr p h G) H H4:=
   {x.pa,A4,he,λy=>{λj=>nN<|Qh.mpr ⟨e,he,I⟩,by rw[ug λ_ _=>M,Xm (Qh.mpr ⟨e,he,I⟩)]},λb o n e=>{(Z b o n e).1,n}}
  have le:e.es.length<50000:=by rwa[<-em]
  clear A4 em ev Z
 case' B=>
  have Y:a9 (aZ<|KR x.pa) (Sum.inl k:Key)=none:=Y;rw[JK]at Y;have nk:k∉x.pa.map (·.k):=by
   rcases qq x.pa k with⟨_,z⟩|⟨e,_,_,z,_⟩
   .exact z
   .rw[z]at Y;cases Y
  have ep:bF (aZ<|KR x.pa) (Sum.inl k:Key) (.ref m)=aZ (KR x.pa++ [(k,.ref m)]):=by
   rw[iV];unfold bF;rw[cw,Y];rfl
  rw[ep];obtain⟨e,ee,I,le⟩:∃e:Pk,e={k,m,g,[]}/\e.k=k/\e.es.length<50000:={_,M,M,by show 0<50000;decide};obtain⟨G,A5,he,N,f5⟩:∃G,KL t (upd H4 p<|.dK<|aZ<|KR x.pa++ [(k,.ref m)]) a s l wr p h {x with now:=x.now+1,di:=x.di++ [(r,xs)],pa:=G}/\e∈G/\(∀y,Jq x.pa (LJ G k y) k y)/\Fr (Ow a wr p h x.pa) (Ow a wr p h G) H (upd H4 p<|.dK<|aZ<|KR x.pa++ [(k,.ref m)]):=by
   refine{x.pa++ [e],ee▸A4.newk nk M4 om og,Qg _ Q8,λy=>{λj=>?_,?_},λb o n eb=>{?_,λz=>?_}}
   .have a2:e.k∉x.pa.map (·.k):=by rwa[I]
    rw[nN (by rw[Qi];exact Qg _<|Qe.mpr I.symm),r9 a2,r9 a2,Xm I.symm,pe nk,ee];by_cases c:j=k
    .rw[Xm c,Xm c]
    .rw[Xl c,Xl c,Xl c]
   .rw[ug λ_ _=>M,Xl nk,Qi,<-I];rfl
   .rw[ae λz=>n (.inr<|.inr<|.inl z)];exact(Z b o n eb).1
   .rcases z with z|z|z|z|⟨e',a8,z⟩
    .exact n<|.inl z
    .exact n<|.inr (.inl z)
    .exact n<|.inr (.inr<|.inl z)
    .exact n<|.inr (.inr<|.inr<|.inl z)
    .rcases Qb.mp a8 with y|y
     .exact n<|.inr (.inr<|.inr<|.inr ⟨e',y,z⟩)
     .rw[Qe.mp y,ee]at z;exact z.elim (Z b o n eb).2.1 (Z b o n eb).2.2
  have em:V.ref m=V.ref e.m:=by rw[ee]
  clear A4 M4 Z om og Y nk ep;generalize upd H4 p (.dK<|aZ<|KR x.pa++ [(k,.ref m)])=H5 at A5 f5⊢;rw[em]
 all_goals
  have M5:=A5.mx e he;let{dy,hm}:=M5.ob;let{ac,al}:=A5.ob;refine{e.m,dy,_,M,hm,bG ∅,_,M,a,_,ac,_,_,M,al,T.aK,T.dJ,nR,_,M,e.m,e.l,e.es,_,v,M,M5,(),λH6 y M6 ny o6=>?_};have A6:=A5.noted he I M6 o6;let{am,an}:=A6.ob;refine{_,M,a,_,am,_,_,M,an,T.aK,T.dJ,nR,q _ _ y A6 (N _)<|f5.trans λb o n eb=>{o6 b o (λz=>n<|.inr<|.inr<|.inr<|.inr {e,he,.inr z}) eb,λz=>n<|G8 z}}
def KQ.new:KQ:={0,0,0,JO.new,[],[],[],[]}
def KQ.new_ok:JZ KQ.new:={λz=>{(λy=>by cases y),(λy=>by cases y)},(_),(_),M,(_),λ_=>by show((0:Nat):Int)<=0;decide,(_),Zb,(λ_ z=>by cases z),(_),λ_=>{XS,(λy z=>by cases z)}}
def cT{f:Str}{nx:Hp->Prop}(k:∀H',H' a=some (.ins C dx<|bT f v fs)->(∀b,b≠a->H' b=H b)->nx H'):nx (upd H a<|.ins C dx<|bT f v fs):=k _ I0 λ_ n=>ae n
def lq{m:Nat}(h:Nat.ble (n+1) m=true):n<m:=Nat.le_of_ble_eq_true h
def qV(K:J4)(t:JM):Sp:=λvs H Q _=>∃(a dx:G'),vs=[.ref a]/\H a=some (.ins t.bi dx [])/\∀H' F,Kh K t H' a F KQ.new->Fr (λb=>b=a) F H H'->Q .non H'
def gc(T:Txt K mg t w):J9 P w K mg base JT 4 t.lQ t.ix [cj] (qV K t):=by
 refine T.EA.okl rm λs H vs Q E hr h _=>?_;intro X;let{a,dx,rfl,ha,q}:=h;refine ag (bK J7 ak M)
   (ag (bK J7 ak M)
   (ag (bK J7 (cf T.C9 (j7 T) hr.mo {_} T.Da T.tX .nil aS) M)
   (ag (bK J7 (cf T.AU (fg T) hr.mo {_} T.AX T.sM .nil aS) M)
   (ag (bK J7 (fe af) M)
   (ag (bK J7 ak M)
   (ag (bK J7 iO M)
   (aw (bK J7 iO M) ?_)))))))
 intros
 refine{_,M,a,_,dx,[],M,ha,T.aK,T.dJ,lq (by kernel_rfl),cT λH1 h1 o1=>?_};refine{_,M,a,_,dx,_,M,h1,T.aK,T.dL,lq (by kernel_rfl),cT λH2 h2 o2=>?_};refine λs ds ns I a0=>{s,ds,M,I0,by rw[ae a0];exact I0,λH3 Fs S3 f3=>{M,?_}};have k3:∀b o,H2 b=some o->H3 b=some o/\¬Fs b:=λb o e=>f3 b o (λz=>z.elim (λz=>by rw[z,ns]at e;cases e) λz=>by rw[z,I]at e;cases e) (iK (au I) ns _ _ e);let{h3,na}:=k3 _ _ h2;refine{_,M,a,_,dx,_,M,h3,T.aK,T.ke,lq (by kernel_rfl),cT λH4 h4 o4=>?_};have S4:=S3.frame (H':=H4) λb hb=>o4 b λz=>na (z▸hb);refine λl dl nl S a1=>{l,dl,M,I0,by rw[ae a1];exact I0,λH5 Fl L5 f5=>{M,?_}};have k5:∀b o,H4 b=some o->H5 b=some o/\¬Fl b:=λb o e=>f5 b o (λz=>z.elim (λz=>by rw[z,nl]at e;cases e) λz=>by rw[z,S]at e;cases e) (iK (au S) nl _ _ e);let{h5,nb}:=k5 _ _ h4;refine{_,M,a,_,dx,_,M,h5,T.aK,T.qh,lq (by kernel_rfl),cT λG h6 o6=>?_};have L6:=L5.frame (H':=G) λb hb=>o6 b λz=>nb (z▸hb);have S6:=(S4.same λb o e=>(k5 b o e).1).frame (H':=G) λb hb=>o6 b λz=>na (z▸hb);have ap:∀b,Fs b->¬Fl b:=λb hb=>by
  let{o,e}:=S4.dom hb;exact(k5 b o e).2
 have k6:∀b o,b≠a->H b=some o->G b=some o/\¬Fs b/\¬Fl b:=λb o n e=>by
  let{e3,n3}:=k3 b o (by rwa[o2 b n,o1 b n]);let{e5,n5}:=k5 b o (by rwa[o4 b n]);exact{by rwa[o6 b n],n3,n5}
 clear f3 k3 f5 k5 S4 L5 S3 ns I a0 nl S a1 h1 h2 h3 h4 h5 o1 o2 o4 o6;refine{Ql _,λwr nw=>{_,M,a,_,dx,_,M,au nw _ _ h6,T.aK,T.iQ,lq (by kernel_rfl),cT λH7 h7 o7=>?_}};refine{_,M,a,_,dx,_,M,h7,T.aK,T.C4,lq (by kernel_rfl),cT λH8 h8 o8=>?_};refine λp np=>{_,M,a,_,dx,_,M,au np _ _ h8,T.aK,T.eP,lq (by kernel_rfl),cT λH9 h9 o9=>?_};refine λh nh=>{_,M,a,_,dx,_,M,au nh _ _ h9,T.aK,T.b7,lq (by kernel_rfl),cT λa2 a5 a3=>?_};have kk:∀{A B:Hp}{q:G'}{u:HO},A q=none->(∀b,b≠a->B b=upd A q u b)->∀b o,b≠a->A b=some o->B b=some o:=λnq e b o n h=>by rwa[e b n,ae (ai h nq)]
 have wa:=(ai h6 nw).symm;have pa':=(ai h8 np).symm;have U:=(ai h9 nh).symm;have e8:∀b o,b≠a->G b=some o->H8 b=some o:=λb o n e=>by rw[o8 b n];exact kk nw o7 b o n e
 have e9:=kk np o9;have Y:=kk nh a3;have w8:H8 wr=some (.lst []):=by rw[o8 _ wa,o7 _ wa];exact I0
 have p9:H9 p=some (.dK []):=by rw[o9 _ pa'];exact I0
 have Z:∀b o,b≠a->G b=some o->a2 b=some o:=λb o n e=>Y b o n (e9 b o n<|e8 b o n e);have O:KL t a2 a s l wr p h KQ.new:={{dx,a5.trans<|by kernel_rfl},Y _ _ wa<|e9 _ _ wa w8,(λe he=>by cases he),Y _ _ pa' p9,by rw[a3 _ U];exact I0,(λe he=>by cases he),ai p9 nh,(λe he=>by cases he),Zb,Zb,Zb};have fresh:∀b,(b=wr\/b=p\/b=h)->G b=none:=λb hb=>by
  cases e:G b with
  |none=>rfl
  |some o=>
   rcases hb with rfl|rfl|rfl
   .rw[nw]at e;cases e
   .rw[e8 _ _ pa' e]at np;cases np
   .rw[e9 _ _ U (e8 _ _ U e)]at nh;cases nh
 have ow:∀b,Ow a wr p h [] b->b=a\/G b=none:=λb hb=>by
  rcases hb with z|z|z|z|⟨e,he,_⟩
  .exact .inl z
  .exact .inr<|fresh b (.inl z)
  .exact .inr<|fresh b (.inr<|.inl z)
  .exact .inr<|fresh b (.inr<|.inr z)
  .cases he
 refine q _ (LM a wr p h Fs Fl []) {s,l,wr,p,h,Fs,Fl,{O,S6.frame λb hb=>?_,L6.frame λb hb=>?_,ap,λb hb z=>?_,λb hb z=>?_},KQ.new_ok,λ_=>Iff.rfl} λb o n e=>?_
 .let{o,e}:=S6.dom hb;rw[e];exact Z b o (λz=>na<|z▸hb) e
 .let{o,e}:=L6.dom hb;rw[e];exact Z b o (λz=>nb<|z▸hb) e
 .rcases ow b hb with y|y
  .exact na<|y▸z
  .exact S6.out y z
 .rcases ow b hb with y|y
  .exact nb<|y▸z
  .exact L6.out y z
 .let{c1,c2,c3}:=k6 b o n e;refine{Z b o n c1,λz=>?_};rcases z with z|z|z
  .exact c2 z
  .exact c3 z
  .rcases ow b z with y|y
   .exact n y
   .rw[c1]at y;cases y
def Kh.klen{x:KQ}(A:Kh K t H a F x):(x.ks.length:Int)<=x.now:=by
 let{s,l,w,p,h,Fs,Fl,B,O,_}:=A;let{L,A,ls,_,ok,e,_}:=B.lv;have G:x.ks.Nodup:=by
  rw[<-e];exact List.Pairwise.imp (λh z=>()) ok.up
 have:=rV (S:=x.st.kv.map (·.1)) G λz hz=>mem_keys.mpr ((O.ks z).mp hz);rw[Q2]at this;have:=O.sl;lia
def JZ.noted{x:KQ}{y:Mk1}(O:JZ x)(N:Jq x.pa pa' k y):(pa'.length:Int)<=x.now+1/\∀j,((mkOf pa' j).length:Int)<=x.now+1:=by
 constructor
 .have h1:=O.pl;have h2:=XB List.length N.ky;rw[Q2]at h2;split at h2
  .rw[Q2]at h2;lia
  .rw[Qd,Q2,Z9]at h2;lia
 .intro j;rw[N.of];split
  .have:=O.el k;rw[Qd,Z9];lia
  .have:=O.el j;lia
def JZ.hv1{x:KQ}(O:JZ x):∀p∈x.ho,x.fl<=p.1/\p.1<=x.now+1/\∃n:Int,p.2= .int n/\0<n:=λp hp=>{(O.hv p hp).1,by have:=(O.hv p hp).2.1;lia,(O.hv p hp).2.2}
def JZ.fb1{x:KQ}(O:JZ x):0<=x.fl/\x.fl<=x.now+1:={O.fb.1,by have:=O.fb.2;lia}
def JZ.up1{x:KQ}{y:Mk1}(O:JZ x)(N:Jq x.pa pa' k y)(e:y.mo=x.now+1):∀j,(mkOf pa' j).Pairwise (λa b=>a.mo<b.mo)/\∀z∈mkOf pa' j,z.mo<=x.now+1:=λj=>by
 rw[N.of];let{I,G}:=O.up k;split
 .refine{Zc.mpr {I,Zo _ _,λa ha b hb=>?_},λz hz=>?_}
  .rw[Qe.mp hb,e];have:=G a ha;lia
  .rcases Qb.mp hz with hz|hz
   .have:=G z hz;lia
   .rw[Qe.mp hz,e];exact QT _
 .let{S,U}:=O.up j;exact{S,λz hz=>by have:=U z hz;lia}
def tm(K:J4)(t:JM):Sp:=λvs H Q _=>∃(a:G')(k i:Int)(F:Mi)(x:KQ),vs=[.ref a,.int k,.int i]/\Kh K t H a F x/\0<=k/\x.now+x.ma<4000/\
 ∀(H':Hp)(F':Mi)(ks':Mb)(r q:G')(pa':List Pk),Kh K t H' a F' {x with now:=x.now+1,st:=x.st.put k (.int i),ks:=ks',di:=x.di++ [(r,[.str "put",.int k,.int i])],pa:=pa'}->Jq x.pa pa' k {q,x.now+1,.int i}->Fr F F' H H'->Q (.int<|x.now+1) H'
set_option tactic.hygienic true in
def tN(T:Txt K mg t w):J9 P w K mg base (K9 P w) 5 t.oq t.jC [cj,ew,nz] (tm K t):=by
 have ap:=Ka.nd;refine T.Gb.okX Ka (λvs H Q E h=>?_)<|λaq A outer s H vs Q E hr h=>?_
 .let{a,k,i,F,x,rfl,_}:=h;rfl
 .let{a,k,i,F,x,rfl,A,k0,l1,q}:=h;refine ag (aU (fc<|bB<|bg (aE J7 M) T.aQ T.Fo (tK T) hr.mo T.FW .nil aS<|aa JB af)
   (av<|bc<|bg (aE J7 M) T.aP T.lD (gb T) hr.mo T.lH .nil bJ<|aa JB af)
   ar)
     (ag (bc<|bg (aE J7 M) T.aQ T.Fn (tJ T) hr.mo T.FV .nil aS<|aa JB<|aa JG af)
     (aw (aD<|bg J7 T.aK T.Ee (rR T) hr.mo T.Es .nil aS<|@ba _ _ _ _ _ (yq<|@ba _ _ _ _ _ a7 (@ba _ _ _ _ _ JB (@ba _ _ _ _ _ JG af M) M) M) (aa JG af) M) ?_))
  intros
  have kl:=A.klen;let{s,l,wr,p,h,Fs,Fl,B,O,g}:=A;have n0:=O.n0;have m0:=O.m0;have sl:=O.sl;let{dx,ho}:=B.o.ob;let{ds,fs,hs,hm}:=B.sl.ins
  (try dsimp only)
  refine kN (λW H2=>∃(S G:Mi)(I:Mb),W=[some (.ref a),some (.int k),some (.int i)]/\LC K t H2 a s l wr p h S G {x with ks:=I}/\(∀z,z∈I↔z=k\/z∈x.ks)/\Fr (LM a wr p h Fs Fl x.pa) (LM a wr p h S G x.pa) H H2) (λnx go=>?_)<|λW H2 w=>?_
  .refine{_,M,a,_,dx,_,_,M,ho,T.aK,T.ke,Dx,s,ds,fs,M,hs,hm _ ∅,_,M,s,k,Fs,x.st,M,B.sl,k0,λH1 Z S1 f1=>?_};let{B1,g1}:=B.slots S1 f1;let{a0,a1}:=B1.o.ob;let{dl,fl,hl,a2}:=B1.lv.ins;cases ev:(a9 x.st.kv k).isSome with
   |true=>
    refine{_,M,nQ (λc=>?_)<|λ_=>?_}
    .cases c
    .exact go _ _ {Z,Fl,x.ks,M,B1,λz=>{.inr,λy=>y.elim (λy=>by rw[y];exact(O.ks k).mpr ev) id},g1}
   |false=>
    have nk:k∉x.ks:=λz=>by have:=(O.ks k).mp z;rw[ev]at this;cases this
    refine{_,M,nQ (λ_=>?_)<|λc=>?_}
    .refine{_,M,a,_,a0,_,_,M,a1,T.aK,T.qh,Hy,l,dl,fl,M,hl,a2 _ ∅,_,M,l,k,Fl,x.ks,M,B1.lv,(),λ_ H2 G I L2 mem f2=>?_,λz=>Xp z nk};let{Y,g2}:=B1.leaves L2 f2;exact go _ _ {Z,G,I,M,Y,mem,g1.trans g2}
    .exact Xp M c
  .let{S,G,I,rfl,Y,mem,g2}:=w;let{a3,a5}:=Y.o.ob;let{a6,a8,ac,al}:=Y.sl.ins;refine{_,M,a,_,a3,_,_,M,a5,T.aK,T.ke,Dx,s,a6,a8,M,ac,al _ ∅,_,M,_,M,s,k,i,S,x.st,M,Y.sl,k0,(),λH3 U S3 f3=>?_};let{B3,g3}:=Y.slots S3 f3;let{am,an}:=B3.o.ob;refine{_,M,a,am,_,M,an,zK ∅,_,M,_,M,(by show 3<=sizeLine;decide),λr nr=>?_};have s4:=au (o:= .tup [.str "put",.int k,.int i]) nr;have ht:upd H3 r (.tup [.str "put",.int k,.int i]) r=some (.tup [.str "put",.int k,.int i]):=I0;have B4:LC K t (upd H3 r<|.tup [.str "put",.int k,.int i]) a s l wr p h U G _:=B3.keep (λb hb=>by
    let{o,e,_}:=B3.dom hb;rw[e];exact s4 _ _ e) λb xs e=>s4 _ _ e
   have g4:=(g2.trans g3).trans (Fr.of_same s4);generalize upd H3 r (.tup [.str "put",.int k,.int i])=H4 at B4 ht g4⊢;have dl:=O.dl;have pl:=O.pl;have el:=O.el k;refine{_,M,a,s,l,wr,p,h,r,k,_,.int i,_,M,B4.o,ht,M,by show x.di.length<50000;lia,by show x.pa.length<50000;lia,by show(mkOf x.pa k).length<50000;lia,λH5 pa' y O5 N f5=>?_};let{B5,g5}:=B4.own O5 M M f5;let{N1,N2}:=O.noted N;have ek:(x.st.put k<|.int i).kv=bF x.st.kv k (.int i):=JO.three_kv;refine q H5 (LM a wr p h U G pa') I r y pa' {s,l,wr,p,h,U,G,B5,{λz=>?_,by show 0<=x.now+1;lia,m0,?_,N1,N2,?_,O.hn,O.hv1,O.fb1,O.up1 N M},λ_=>Iff.rfl} N ?_
   .show z∈I↔(a9 (x.st.put k<|.int i).kv z).isSome=true;rw[mem,ek,<-mem_keys,sj,O.ks];split
    .rename_i c
     rw[mem_keys];exact{λy=>y.elim (λy=>y▸c) id,.inr}
    .rw[Qb,Qe,mem_keys];exact{λy=>y.elim .inr .inl,λy=>y.elim .inr .inl}
   .show((x.di++ [(r,_)]).length:Int)=x.now+1+x.ma;rw[Qd,Z9];lia
   .show((x.st.put k<|.int i).kv.length:Int)<=x.now+1;rw[ek];have:=eU x.st.kv k (.int i);lia
   .exact λb o n e=>(g4.trans g5) b o (λz=>n<|(g b).mpr z) e
def Lp(K:J4)(t:JM)(a:G')(F:Mi)(x:KQ)(H:Hp)(C:G')(fs:Mo)(E:XK):Prop:=
 ∀(ea:G')(od:Me)(H':Hp)(F':Mi),Jy H' ea od C fs->Kh K t H' a F' x->Fr F F' H H'->E (.ref ea) od H'
def jF(ho:Mg)(m:Int):Int:=match a9 ho m with
 |some (.int n)=>n
 |_=>0
def tR(ho:Mg)(m:Int):List (Int×V):=if jF ho m-1=0 then jK (bF ho m<|.int<|jF ho m-1) m else bF ho m (.int<|jF ho m-1)
def KL.held{s l w:G'}{x:KQ}(A:KL t H a s l w p h x)(I:Mg):KL t (upd H h<|.dK<|aZ I) a s l w p h {x with ho:=I}:=by
 let{O,ho}:=A.ob;have G:∀{b:G'}{o:HO},H b=some o->(∀ys,o≠ .dK ys)->b≠h:=λe i z=>by
  rw[z,A.ho]at e;exact i _ (Xq e).symm
 refine{{O,by rwa[ae (G ho λ_ z=>by cases z)]},by rw[ae (G A.wr λ_ z=>by cases z)];exact A.wr,λe he=>by rw[ae (G (A.dr e he) λ_ z=>by cases z)];exact A.dr e he,by rw[ae A.ph];exact A.pa,I0,λe he=>?_,A.ph,A.wl,A.kd,A.md,A.ld};have M':=A.mx e he;let{U,S}:=M'.ob;exact M'.keep (ae<|G S λ_ z=>by cases z) (ae<|G M'.li λ_ z=>by cases z) λb xs e=>by rwa[ae (G e λ_ z=>by cases z)]
def z7{kv:Mg}(h:a9 kv k=some v):(k,v)∈kv:=by
 induction kv with
 |nil=>rw[mO]at h;cases h
 |cons p r z=>
  by_cases e:p.1=k
  .rw[bM e]at h;cases h;rw[<-e];exact Q8
  .rw[bN e]at h;exact Q7 _<|z h
def HI(G:∀p∈ho,∃n:Int,p.2= .int n/\0<n):(a9 ho m=none/\jF ho m=0)\/(a9 ho m=some (.int<|jF ho m)/\0<jF ho m):=by
 unfold jF;cases e:a9 ho m with
 |none=>exact .inl ⟨M,M⟩
 |some v=>
  let{n,z,I}:=G _ (z7 e);have z:v= .int n:=z;subst z;exact .inr ⟨M,I⟩
def wI{p:Int×V}(h:p∈bF ho m v):p∈ho\/p=(m,v):=by
 unfold bF at h;split at h
 .let{q,hq,rfl}:=Qh.mp h;by_cases c:q.1=m
  .rw[Xm c,<-c];exact .inr M
  .rw[Xl c];exact .inl hq
 .rcases Qb.mp h with h|h
  .exact .inl h
  .exact .inr<|Qe.mp h
def qW(K:J4)(t:JM):Sp:=λvs H Q _=>∃(a:G')(F:Mi)(x:KQ),vs=[.ref a]/\Kh K t H a F x/\x.ho.length<64/\
 ∀(H':Hp)(l:G')(ms:Mb),JA H H'->H l=none->H' l=some (.lst<|ms.map V.int)->ms.Perm (x.ho.map (·.1))->ms.Pairwise (· <= ·)->Q (.ref l) H'
def rQ(T:Txt K mg t w):J9 P w K mg base JT 1 t.lR t.iy [cj] (qW K t):=by
 refine T.EB.okl rq λs H vs Q E G h _=>?_;intro X;let{a,F,x,rfl,A,l1,q}:=h;refine{_,(av<|aD<|ay (vB G.hd) {_} T.Ic Br (aa (aE J7 M) af))
  ,?_}
 let{s,l,wr,p,h,Fs,Fl,B,O,g}:=A;let{dx,ho}:=B.o.ob;exact{_,M,a,_,dx,_,_,M,ho,T.aK,T.b7,sv,h,_,x.ho.map (·.1),M,.inl B.o.ho,A9,(by rwa[eG]),λl I z S U=>q _ l I (au z) z I0 S U}
def yd(K:J4):Sp:=λvs H Q _=>∃(e C:G')(bm:Lz)(x:V),vs=[.ref e,x]/\H e=some (XN e C none)/\JF K C bm/\J6 K C cs/\∀dx,H dx=none->Q .non (upd (upd H dx<|.xd [(cs,x)]) e<|XN e C<|some dx)
def mX(K:J4):Sp:=yd K
def gJ(T:Txt K mg t w):J9 P w K mg base JT 1 t.eK t.eJ [cj,cs] (mX K):=by
 refine T.Bw.okl m7 λs H vs Q E I h _=>?_;intro X;let{e,C,bm,x,rfl,he,Y,z,k}:=h;refine ag (bc<|qp {_} T.fB T.dI (aa J7<|aa a7 af))
   (aw (qo J7 JB M) ?_)
 intros
 exact{_,M,e,C,none,_,bm,M,(by show 1<=1000;decide),he,Y,_,M,_,M,e,C,bm,M,he,Y,z,λdx G=>k dx G}
def oS{I:XK}{x:V}(Y:JF K C bm)(O:J6 K C cs)(r:∀(ea:G')(od:Me)(H':Hp),Jy H' ea od C [(cs,x)]->JA H H'->E (.ref ea) od H')(hi:W[i]?=some (some x)):
  mq K (xS C (yd K) [] I<|qE (xQ i) vZ) E D W H:=by
 refine{x,hi,(by show 1<=1000;decide),λea z=>{ea,C,bm,x,M,I0,Y,O,λdx G=>{M,ea,C,some dx,bm,M,I0,Y,?_}}};rw[bW];have ne:dx≠ea:=(ai I0 G).symm;have S:H dx=none:=by rw[ae ne]at G;exact G
 refine r ea (some dx) _ {I0,.inr {dx,M,by rw[ae ne,I0]}} λb o q=>?_;rw[ae (ai q z),ae (ai q S),ae (ai q z)];exact q
def oN(K:J4)(t:JM):Sp:=λvs H Q E=>∃(a:G')(m:Int)(F:Mi)(x:KQ),vs=[.ref a,.int m]/\Kh K t H a F x/\x.ho.length<50000/\
 ((a9 x.ho m).isSome=true->∀(H':Hp)(F':Mi),Kh K t H' a F' {x with ho:=tR x.ho m}->Fr F F' H H'->Q .non H')/\(a9 x.ho m=none->Lp K t a F x H t.aL [(cs,.int m)] E)
set_option tactic.hygienic true in
def oZ(T:Txt K mg t w):J9 P w K mg base (K9 P w) 3 t.jN t.fk [cj,cs] (oN K t):=by
 have a2:=K4.nd;refine T.BR.okX K4 (λvs H Q E h=>?_)<|λa3 A outer s H vs Q E Y h=>?_
 .let{a,m,F,x,rfl,_}:=h;rfl
 .let{a,m,F,x,rfl,A,l1,q,qx}:=h;refine bZ (λx=>aU (rB<|oX (jJ Y) JB<|aE J7 M) x ar) ?_;refine aw (bH M bQ<|iN T.aq T.vo T.vp (gJ T) Y.mo {_} T.kj T.pC .nil aS (aa JB af)) ?_
  intros
  refine ag (E5 (jJ Y) (aE J7 M) JB ak Hu<|by intros;rfl)
    (aw (aU (az bX (u8 (jJ Y) (aE J7 M) JB<|λ_ _=>M) ak<|aC _)
   (av<|bc<|eu Zp PySem.F.slot_dict_pop PySem.F.type_dict_pop Fh (aE J7 M)<|aa JB af)
   ar) ?_)
  intros
  have A0:=A;let{s,l,wr,p,h,Fs,Fl,B,O,g}:=A;let{dx,ho}:=B.o.ob;have hv:∀p∈x.ho,∃n:Int,p.2= .int n/\0<n:=λp hp=>(O.hv p hp).2.2;refine{_,M,_,M,a,_,dx,_,_,M,ho,T.aK,T.b7,sv,h,_,M,KJ.k (k:=Sum.inl m) B.o.ho,?_};rw[JK];rcases HI (m:=m) hv with⟨I,_⟩|⟨I,n0⟩
  .rw[I];refine{_,M,bL ?_};exact oS T.aq T.db (λea od H' ex s'=>qx I ea od H' F ex (A0.same s')<|Fr.of_same s') M
  .rw[I];refine{_,M,bu ?_};have dg:∀{H1:Hp}{G:Mg}{v:V},H1 h=some (.dK<|aZ G)->a9 G m=some v->KJ H1 h (.int m) (some v):=λ{H1 G v} e I=>by
    have:=KJ.k (k:=Sum.inl m) e;rw[JK,I]at this;exact this
   refine{_,M,a,_,dx,_,_,M,ho,T.aK,T.b7,sv,_,M,h,_,M,dg B.o.ho I,_,_,M,M,_,L4.k (k:=Sum.inl m) B.o.ho (by rw[eG];exact dA ()),?_};rw[iV];have A1:=B.o.held (bF x.ho m<|.int<|jF x.ho m-1);have g1:a9 (bF x.ho m<|.int<|jF x.ho m-1) m=some (.int<|jF x.ho m-1):=by rw[eR,Xm M]
   have Z:∀b o,¬Ow a wr p h x.pa b->H b=some o->upd H h (.dK<|aZ<|bF x.ho m<|.int<|jF x.ho m-1) b=some o:=λb o n e=>by rwa[ae λz=>n (.inr<|.inr<|.inr<|.inl z)]
   generalize upd H h (.dK<|aZ<|bF x.ho m<|.int<|jF x.ho m-1)=H1 at A1 Z⊢;let{U,G}:=A1.ob;have fin:∀{H2:Hp},KL t H2 a s l wr p h {x with ho:=tR x.ho m}->(∀b o,¬Ow a wr p h x.pa b->H b=some o->H2 b=some o)->Q .non H2:=λ{H2} A2 f2=>by
    let{B2,g2}:=B.own A2 M M λb o n e=>{f2 b o n e,n};refine q (by rw[I];rfl) H2 F {s,l,wr,p,h,Fs,Fl,B2,{O.ks,O.n0,O.m0,O.dl,O.pl,O.el,O.sl,?_,λy hy=>?_,O.fb,O.up},g} λb o n e=>{(g2 b o (λz=>n<|(g b).mpr z) e).1,n}
    .show((tR x.ho m).map (·.1)).Nodup;unfold tR;split
     .exact(rX O.hn).sublist<|(List.filter_sublist).map _
     .exact rX O.hn
    .have hy:y∈tR x.ho m:=hy;have S:=(O.hv _<|z7 I);unfold tR at hy;split at hy
     .rename_i c
      let{a0,a1}:=Z7.mp hy;rcases wI a0 with hy|rfl
      .exact O.hv y hy
      .exact Xp M<|Xw a1
     .rename_i c
      rcases wI hy with hy|rfl
      .exact O.hv y hy
      .exact{S.1,S.2.1,_,M,by show 0<jF x.ho m-1;lia}
   refine{_,M,a,_,U,_,_,M,G,T.aK,T.b7,sv,_,M,h,_,M,dg A1.ho g1,M,_,M,nQ (λc=>?_)<|λc=>?_}
   .have c0:jF x.ho m-1=0:=V.int.inj (Xw c);refine{_,M,a,_,U,_,_,M,G,T.aK,T.b7,sv,.inr<|.inr<|.inl {M,.inl {_,A1.ho}},_,M,h,_,Sum.inl m,_,M,M,A1.ho,JK.trans g1,?_};rw[yG];have A2:=A1.held (jK (bF x.ho m<|.int<|jF x.ho m-1) m);refine fin (H2:=upd H1 h<|.dK<|aZ<|jK (bF x.ho m<|.int<|jF x.ho m-1) m) ?_ λb o n e=>by rw[ae λz=>n (.inr<|.inr<|.inr<|.inl z)];exact Z b o n e
    have e1:tR x.ho m=jK (bF x.ho m<|.int<|jF x.ho m-1) m:=by unfold tR;exact Xm c0
    rwa[e1]
   .have c0:¬jF x.ho m-1=0:=λz=>c (Xn<|by rw[z]);refine fin ?_ Z;have e1:tR x.ho m=bF x.ho m (.int<|jF x.ho m-1):=by unfold tR;exact Xl c0
    rwa[e1]
def AN{l:List α}{y:α}(h:l.Nodup)(n:y∉l):(l.set i y).Nodup:=by
 induction l generalizing i with
 |nil=>exact h
 |cons x r G=>
  let{h1,h2}:=Qz.mp h;cases i with
  |zero=>exact Qz.mpr {λz=>n<|Q7 _ z,h2}
  |succ i=>
   refine Qz.mpr {λz=>?_,G h2 λz=>n<|Q7 _ z};rcases QS z with z|z
   .exact h1 z
   .exact n<|by rw[z];exact Q8
def CW{l:List α}{x:α}(h:l.Nodup)(z:l[i]?=some x)(e2:l[j]?=some x):i=j:=by
 let{h1,z}:=Q3.mp z;let{h2,e2}:=Q3.mp e2;rcases(show i<j\/i=j\/j<i by lia)with c|c|c
 .exact Xp (z.trans e2.symm)<|Zg.mp h i j h1 h2 c
 .exact c
 .exact Xp (e2.trans z.symm)<|Zg.mp h j i h2 h1 c
def mF{f:α->β}{l:List α}{x y:α}(e:l[i]?=some x)(h:f y=f x):(l.set i y).map f=l.map f:=by
 induction l generalizing i with
 |nil=>rfl
 |cons z r G=>
  cases i with
  |zero=>cases e;show f y::_=f x::_;rw[h]
  |succ i=>show f z::(r.set i y).map f=f z::_;rw[G e]
set_option tactic.hygienic true in
def KL.swept{s l w G:G'}{x:KQ}{e:Pk}{es':List Mk1}(A:KL t H a s l w p h x)(he:x.pa[i]?=some e)(M':L7 t H' e.m G es')(nl:¬Ow a w p h x.pa G)(kp:∀b o,b≠e.m->H b=some o->H' b=some o):
  KL t H' a s l w p h {x with pa:=x.pa.set i {e with l:=G,es:=es'}}:=by
 let{dy,ho}:=A.ob;have hm:=Q0 he;let{dm,Z}:=(A.mx e hm).ob;have nt:∀{b:G'}{o:HO},H b=some o->(∀c d fs,o= .ins c d fs->fs.length≠1)->H' b=some o:=λO i=>kp _ _ (λz=>by
  rw[z,Z]at O;exact i _ _ _ (Xq O).symm M) O
 have S:∀{b:G'}{o:HO},H b=some o->(∀c d fs,o≠ .ins c d fs)->H' b=some o:=λO i=>nt O λc d fs z=>Xp z (i c d fs);have tp:∀b xs,H b=some (.tup xs)->H' b=some (.tup xs):=λb xs O=>S O (λ_ _ _ z=>by cases z);refine{{dy,nt ho<|λc d fs z=>by cases z;exact(by decide:(8:Nat)≠1)},S A.wr (λ_ _ _ z=>by cases z),λe he=>tp _ _<|A.dr e he,?_,S A.ho (λ_ _ _ z=>by cases z),λf hf=>?_,A.ph,λf hf=>?_,?_,?_,?_}
 .show H' p=some (.dK<|aZ<|KR<|x.pa.set i {e with l:=G,es:=es'});unfold KR;rw[mF (y:={e with l:=G,es:=es'}) he M];exact S A.pa<|λ_ _ _ z=>by cases z
 .let{j,I}:=List.getElem?_of_mem hf;rw[Qf]at I;split at I
  .split at I
   .cases I;exact M'
   .cases I
  .rename_i c
   have hf:=Q0 I;have Y:=A.mx f hf;let{a0,U}:=Y.ob;have nm:f.m≠e.m:=λz=>c (by
    have h1:=(Q3.mp I).1;have h2:=(Q3.mp he).1;have e1:(x.pa.map (·.m))[j]?=some f.m:=by rw[Qk,I];rfl
    have e2:(x.pa.map (·.m))[i]?=some e.m:=by rw[Qk,he];rfl
    rw[<-z]at e2;exact CW A.md e2 e1)
   exact Y.keep ((kp _ _ nm U).trans U.symm) ((S Y.li<|λ_ _ _ z=>by cases z).trans Y.li.symm) tp
 .rcases QS hf with hf|hf
  .exact A.wl f hf
  .rw[hf];exact λz=>nl (.inr<|.inl z)
 .show((x.pa.set i {e with l:=G,es:=es'}).map (·.k)).Nodup;rw[mF (y:={e with l:=G,es:=es'}) he M];exact A.kd
 .show((x.pa.set i {e with l:=G,es:=es'}).map (·.m)).Nodup;rw[mF (y:={e with l:=G,es:=es'}) he M];exact A.md
 .show((x.pa.set i {e with l:=G,es:=es'}).map (·.l)).Nodup;rw[X7];refine AN A.ld λz=>?_;let{g,hg,eg}:=Qh.mp z;exact nl (.inr<|.inr<|.inr<|.inr {g,hg,.inr eg.symm})
structure SwO(fl:Int)(i:Nat)(pa pa':List Pk):Prop where
 ln:pa'.length=pa.length
 lo:∀(j:Nat)(e e':Pk),pa[j]?=some e->pa'[j]?=some e'->e'.k=e.k/\e'.m=e.m/\(j<i->e'.es=Kz fl e.es)/\(i<=j->e'=e)
def thr(fl:Int)(pa:List Pk):Int:=(pa.map λe=>(e.es.length:Int)-((Kz fl e.es).length:Int)).sum
def SwO.mkOf:∀{pa pa':List Pk}{fl k:Int},SwO fl pa.length pa pa'->mkOf pa' k=Kz fl (mkOf pa k)
 | [],[],_,_,_=>rfl
 | [],_::_,_,_,S=>by have:=S.ln;cases this
 |_::_,[],_,_,S=>by have:=S.ln;cases this
 |e::r,e'::r',fl,k,S=>by
  let{h1,_,U,_}:=S.lo 0 e e' M M;show(if e'.k=k then e'.es else SW.mkOf r' k)=Kz fl (if e.k=k then e.es else SW.mkOf r k);rw[h1,U (by rw[Q9];lia)];have Y:SwO fl r.length r r':={by have:=S.ln;rw[Q9,Q9]at this;lia,λj f Z ef G=>by
   let{g1,g2,I,O}:=S.lo (j+1) f Z (by rwa[Z0]) (by rwa[Z0]);rw[Q9]at I O;exact{g1,g2,λz=>I (),λz=>O ()}}
  split
  .rfl
  .exact Y.mkOf
def Ca{e:Pk}(h:pa[i]?=some e):thr fl (pa.take<|i+1)=thr fl (pa.take i)+((e.es.length:Int)-((Kz fl e.es).length:Int)):=by
 unfold thr;rw[QK,h,Qi,List.sum_append];show _+(((e.es.length:Int)-((Kz fl e.es).length:Int))+0)=_;lia
def pY(K:J4)(t:JM):Sp:=λvs H Q _=>∃(a:G')(F:Mi)(x:KQ),vs=[.ref a]/\Kh K t H a F x/\x.ho.length<64/\x.now<40000/\
 ∀(H':Hp)(F':Mi)(fl:Int)(pa':List Pk),(x.ho=[]->fl=x.now)->(x.ho≠[]->fl∈x.ho.map (·.1))->(∀p∈x.ho,fl<=p.1)->SwO fl x.pa.length x.pa pa'->Kh K t H' a F' {x with fl:=fl,pa:=pa'}->Fr F F' H H'->Q (.int<|thr fl x.pa) H'
set_option tactic.hygienic true in
def qe(T:Txt K mg t w):J9 P w K mg base JT 2 t.kG t.gu [cj] (pY K t):=by
 refine T.D8.okl KI λs H vs Q E hr h _=>?_;intro X;let{a,F,x,rfl,A,l1,l2,q}:=h;refine ag (bK J7 (E8 K M M {_} T.Ie (f8 J7 T.aK T.Ed (rQ T) hr.mo T.Er .nil aS) (aE J7 M)) M)
   (ag (Ju 1 ak)
   (bZ (λx=>(zm (oV XR M (E6<|CK Zp PySem.F.slot_dict_values PySem.F.type_dict_values AR<|aE J7 M) (Lj 2)
    x))) ?_))
 refine aw (CD (i:=1) KI.nd M (Or.inl M) (bg JG T.dX T.De (qd T) hr.mo T.DU .nil aS<|aa (aE J7 M) af) Du) ?_
 intros
 refine aw (aD JB) ?_
 intros
 have A0:=A;let{s,l,wr,p,h,Fs,Fl,B,O,g}:=A;let{dx,ho}:=B.o.ob
 (try dsimp only)
 refine kN (λW H1=>∃fl:Int,W=[some (.ref a),none,none]/\(x.ho=[]->fl=x.now)/\(x.ho≠[]->fl∈x.ho.map (·.1))/\(∀p∈x.ho,fl<=p.1)/\KL t H1 a s l wr p h {x with fl:=fl}/\∀b o,¬Ow a wr p h x.pa b->H b=some o->H1 b=some o) (λnx go=>?_)<|λW H1 w=>?_
 .refine{_,M,a,dx,_,M,ho,zK ∅,a,F,x,M,A0,l1,λH1 lm ms s1 nl el pm pw=>?_};have A1:=B.o.same s1;let{G,Y}:=A1.ob;have fin:∀fl:Int,(x.ho=[]->fl=x.now)->(x.ho≠[]->fl∈x.ho.map (·.1))->(∀p∈x.ho,fl<=p.1)->nx [some (.ref a),none,none] (upd H1 a<|.ins t.bi G<|bT (rr:Str) (.int fl)<|Km x.now x.fl s l wr x.ma p h):=λfl c1 c2 c3=>by
   rw[G1];exact go _ _ {fl,M,c1,c2,c3,A1.set (now:=x.now) (mk:=x.ma) (fl:=fl) (dx:=G),λb o n e=>by rw[ae λz=>n (.inl z)];exact s1 _ _ e}
  refine{_,M,a,_,G,_,_,M,Y,T.aK,T.dJ,nR,lm,ms,M,JC.of el,λe0=>?_,λM' hM a5=>?_}
  .have hn:x.ho=[]:=by
    have:=pm.length_eq;rw[e0,Q2]at this;exact QJ.mp this.symm
   exact{_,M,a,_,G,_,M,Y,T.aK,T.dL,vq,fin x.now (λ_=>M) (λz=>Xp hn z)<|λp hp=>by rw[hn]at hp;cases hp}
  .exact{_,M,a,_,G,_,M,Y,T.aK,T.dL,vq,fin M' (λz=>by rw[z]at pm;rw[pm.eq_nil]at hM;cases hM) (λ_=>pm.mem_iff.mp hM)<|λp hp=>a5 _<|pm.mem_iff.mpr (Qh.mpr ⟨p,hp,M⟩)}
 let{fl,rfl,c1,c2,c3,A1,k1}:=w;let{G,Y}:=A1.ob;refine{p,_,A1.pa,_,M,a,_,G,_,_,M,Y,T.aK,T.eP,yK,.inr<|.inr<|.inl {M,.inl {_,A1.pa}},p,_,M,M,A1.pa,λvw nv=>{vw,p,_,M,I0,au nv _ _ A1.pa,λob=>?_}};have A2:=A1.same (au (o:=Lm vw p) nv);have k2:∀b o,¬Ow a wr p h x.pa b->H b=some o->upd H1 vw (Lm vw p) b=some o:=λb o n e=>au nv _ _ (k1 b o n e);generalize upd H1 vw (Lm vw p)=H2 at A2 k2⊢;refine DE (ob:=ob) (d:=p) (kvs:=aZ<|KR x.pa) (λi W H'=>∃(v2:Option V)(pa':List Pk),W=[some (.ref a),some (.int<|thr fl<|x.pa.take i),v2]/\H' p=some (.frz ob<|.dK<|aZ<|KR x.pa)/\KL t (upd H' p<|.dK<|aZ<|KR x.pa) a s l wr p h {x with fl:=fl,pa:=pa'}/\SwO fl i x.pa pa'/\∀b o,¬Ow a wr p h x.pa b->H b=some o->H' b=some o/\¬Ow a wr p h pa' b)
  {_,x.pa,M,I0,?_,{M,λj e e' h1 h2=>?_},λb o n e=>{?_,n}} (λi W H' _ w=>by let{_,_,_,e,_}:=w;exact e) (λi k v W H' hk w=>?_) (λW H' w=>?_)
 .rwa[bW,mP A2.pa]
 .rw[h1]at h2;cases h2;exact{M,M,(λz=>()),λ_=>M}
 .rw[ae λz=>n (.inr<|.inr<|.inl z)];exact k2 b o n e
 .let{v2,pa',rfl,hp,A3,S,k3}:=w;obtain⟨e,Z,rfl⟩:∃e:Pk,x.pa[i]?=some e/\v= .ref e.m:=by
   unfold aZ KR at hk;rw[Qk,Qk]at hk;cases e1:x.pa[i]? with
   |none=>rw[e1]at hk;cases hk
   |some e'=>rw[e1]at hk;cases hk;exact⟨e',M,M⟩
  have hi:=(Q3.mp Z).1;have a1:pa'[i]?=some e:=by
   obtain⟨y,ey⟩:∃y,pa'[i]?=some y:={_,Q5<|by have:=S.ln;lia};rw[ey,((S.lo i e y Z ey).2.2.2<|Q4 _)]
  have M3:=A3.mx e (Q0 a1);let{dm,hm}:=M3.ob;have np:∀{b:G'}{o:HO},upd H' p (.dK<|aZ<|KR x.pa) b=some o->(∀kvs,o≠ .dK kvs)->H' b=some o/\b≠p:=λ{b o} e n=>by
   by_cases c:b=p
   .rw[c,I0]at e;exact Xp (Xq e).symm<|n _
   .rw[ae c]at e;exact⟨e,c⟩
  have M4:L7 t H' e.m e.l e.es:={{dm,(np hm<|λ_ z=>by cases z).1},(np M3.li<|λ_ z=>by cases z).1,λy hy=>(np (M3.tu y hy)<|λ_ z=>by cases z).1};let{a6,a8}:=A3.ob;have le:e.es.length<50000:=by
   have h1:=O.el e.k;have h2:mkOf x.pa e.k=e.es:=by
    rcases qq x.pa e.k with⟨_,z⟩|⟨e',ac,al,_,em⟩
    .exact Xp (Qh.mpr {e,Q0 Z,M}) z
    .rw[em,yx B.o.kd ac (Q0 Z) al]
   rw[h2]at h1;lia
  refine{_,M,_,M,e.m,dm,_,M,(np hm<|λ_ z=>by cases z).1,bG ∅,_,M,a,_,a6,_,_,M,(np a8<|λ_ z=>by cases z).1,T.aK,T.dL,Dy,e.m,e.l,e.es,fl,M,M4,le,λH5 l5 M5 n5 k5=>{_,_,M,M,?_}};have pm:p≠e.m:=(np hm<|λ_ z=>by cases z).2.symm;have a2:=k5 _ _ pm hp;have a0:∀{b:G'}{o:HO}{u:HO},H5 b=some o->(∀ob kv,o≠ .frz ob kv)->upd H5 p u b=some o:=λ{b o u} e n=>by
   rwa[ae λz=>by rw[z,a2]at e;exact n _ _ (Xq e).symm]
  have am:l5≠p:=λz=>by rw[z,hp]at n5;cases n5
  have nl:¬Ow a wr p h pa' l5:=λz=>by
   let{o,eo,_}:=A3.dom z;rw[ae am,n5]at eo;cases eo
  have kp:∀b o,b≠e.m->upd H' p (.dK<|aZ<|KR x.pa) b=some o->upd H5 p (.dK<|aZ<|KR x.pa) b=some o:=λb o n I=>by
   by_cases c:b=p
   .rw[c,I0]at I⊢;exact I
   .rw[ae c]at I⊢;exact k5 b o n I
  have A6:=A3.swept (es':=Kz fl e.es) a1 {M5.ob.imp λ_ z=>a0 z (λ_ _ z=>by cases z),a0 M5.li (λ_ _ z=>by cases z),λy hy=>a0 (M5.tu y hy)<|λ_ _ z=>by cases z} nl kp;refine{some<|.ref e.m,pa'.set i {e with l:=l5,es:=Kz fl e.es},?_,a2,A6,{by rw[Qs];exact S.ln,λj f f' ef U=>?_},λb o n I=>{?_,λz=>?_}}
  .rw[Ca Z];rfl
  .rw[Qf]at U;split at U
   .rename_i a3
    subst a3;split at U
    .cases U;rw[Z]at ef;cases ef;exact{M,M,λ_=>M,λz=>()}
    .cases U
   .rename_i a3
    let{g1,g2,g3,g4}:=S.lo j f f' ef U;exact{g1,g2,λz=>g3 (),λz=>g4 ()}
  .refine k5 b o (λz=>n ?_) (k3 b o n I).1;exact .inr<|.inr (.inr<|.inr {e,Q0 Z,.inl z})
  .rcases z with z|z|z|z|⟨f,hf,z⟩
   .exact n<|.inl z
   .exact n<|.inr (.inl z)
   .exact n<|.inr (.inr<|.inl z)
   .exact n<|.inr (.inr<|.inr<|.inl z)
   .rcases QS hf with hf|hf
    .exact(k3 b o n I).2<|.inr (.inr<|.inr<|.inr ⟨f,hf,z⟩)
    .rw[hf]at z;rcases z with z|z
     .exact n<|.inr (.inr<|.inr<|.inr {e,Q0 Z,.inl z})
     .have:=(k3 b o n I).1;rw[z,n5]at this;cases this
 .let{v2,pa',rfl,hp,A3,S,k3}:=w;have ll:(aZ<|KR x.pa).length=x.pa.length:=by rw[eG];unfold KR;exact Q2 _
  rw[ll]at S;rw[ll,Zx];refine{ob,hp,_,M,?_};let{B3,g3}:=B.own A3 M M λb o n I=>{by rw[ae λz=>n (.inr<|.inr<|.inl z)];exact(k3 b o n I).1,(k3 b o n I).2};refine q _ (LM a wr p h Fs Fl pa') fl pa' c1 c2 c3 S {s,l,wr,p,h,Fs,Fl,B3,{O.ks,O.n0,O.m0,O.dl,?_,λj=>?_,O.sl,O.hn,λy hy=>{c3 y hy,(O.hv y hy).2},?_,λj=>?_},λ_=>Iff.rfl} λb o n I=>g3 b o (λz=>n<|(g b).mpr z) I
  .show(pa'.length:Int)<=x.now;rw[S.ln];exact O.pl
  .show((mkOf pa' j).length:Int)<=x.now;rw[S.mkOf];have h1:=O.el j;have h2:=EK (fl:=fl) (es:=mkOf x.pa j);lia
  .show 0<=fl/\fl<=x.now;have n0:=O.n0;have fb:=O.fb;cases eh:x.ho with
   |nil=>rw[c1 eh];lia
   |cons y r=>
    have hm:=c2 (by rw[eh];exact List.cons_ne_nil _ _);let{z,hz,ez}:=Qh.mp hm;have:=O.hv z hz;lia
  .show(mkOf pa' j).Pairwise _/\∀y∈mkOf pa' j,y.mo<=x.now;rw[S.mkOf];exact{GQ (O.up j).1,λy hy=>(O.up j).2 y<|y9 hy}
def pV(K:J4):Sp:=yd K
def qc(T:Txt K mg t w):J9 P w K mg base JT 1 t.gx t.gk [cj,cs] (pV K):=by
 refine T.D5.okl p7 λs H vs Q E I h _=>?_;intro X;let{e,C,bm,x,rfl,he,Y,z,k}:=h;refine ag (bc<|qp {_} T.fB T.dI (aa J7<|aa a7 af))
   (aw (qo J7 JB M) ?_)
 intros
 exact{_,M,e,C,none,_,bm,M,(by show 1<=1000;decide),he,Y,_,M,_,M,e,C,bm,M,he,Y,z,λdx G=>k dx G}
def VtR(t:JM)(H:Hp)(a:G')(pa:List Pk):Prop:=∃(dx p:G')(fs:Mo),H a=some (.ins t.bi dx fs)/\fs.lookup ("past":Str)=some (.ref p)/\(∀m,NoH m->fs.lookup m=none)/\Rd H p (.dK<|aZ<|KR pa)/\∀e∈pa,L7 t H e.m e.l e.es
def Kh.vt{x:KQ}(A:Kh K t H a F x):VtR t H a x.pa:=by
 let{s,l,wr,p,h,Fs,Fl,B,O,g}:=A;let{dx,ho}:=B.o.ob;exact{dx,p,_,ho,yK,λm z=>zK z,.inl B.o.pa,B.o.mx}
def jX(t:JM):Sp:=λvs H Q _=>∃(a:G')(k mo:Int)(pa:List Pk),vs=[.ref a,.int k,.int mo]/\VtR t H a pa/\Q (qD (mkOf pa k) mo) H
def eT(T:Txt K mg t w):J9 P w K mg base JT 2 t.fq t.cV [cj,ew,cs] (jX t):=by
 refine T.xH.okl j1 λs H vs Q E z h _=>?_;intro X;let{a,k,mo,pa,rfl,{dx,p,fs,ho,fp,_,rp,I},q}:=h;refine{_,(av<|aD<|rE (rB<|CL (jJ z) JB<|aE J7 M) (bg (u8 (jJ z) (aE J7 M) JB<|λ_ _=>M) T.dX T.zz (mC T) z.mo T.zX .nil aS<|aa JG af) bR)
  ,?_}
 have dg:KJ H p (.int k) (a9 (aZ<|KR pa)<|Sum.inl k):= .inl {_,Sum.inl k,rp,M,M};refine{_,M,_,M,a,_,dx,_,_,M,ho,T.aK,T.eP,fp,p,_,M,dg,_,M,?_};rw[JK]at dg⊢;rcases qq pa k with⟨G,n⟩|⟨e,he,Y,G,O⟩
 .rw[pe n]at q;rw[G];exact bu q
 .rw[O]at q;rw[G]at dg⊢;have M':=I e he;let{S,U}:=M'.ob;exact bL {_,M,a,_,dx,_,_,M,ho,T.aK,T.eP,fp,_,M,p,_,M,dg,e.m,S,_,M,U,bG ∅,_,M,e.m,e.l,e.es,mo,M,M',q}
def gT(K:J4)(t:JM):Sp:=λvs H Q E=>∃(a:G')(mo:Int)(F:Mi)(x:KQ),vs=[.ref a,.int mo]/\Kh K t H a F x/\(x.fl<=mo->mo<=x.now->Q .non H)/\(mo<x.fl->Lp K t a F x H t.a5 [(cs,.int mo)] E)/\(x.fl<=mo->x.now<mo->Lp K t a F x H t.aL [(cs,.int mo)] E)
def cW(T:Txt K mg t w):J9 P w K mg base (K9 P w) 3 t.dz t.b8 [cj,cs] (gT K t):=by
 have G:=JR.nd;refine T.uL.okX JR (λvs H Q E h=>?_)<|λI A outer s H vs Q E z h=>?_
 .let{a,mo,F,x,rfl,_}:=h;rfl
 .let{a,mo,F,x,rfl,A,q,O,q2}:=h;refine bZ (λx=>aU (az jI JB (aE J7 M)<|aC _) x ar) ?_;refine aw (bH M bQ<|iN T.aM T.Hr T.Ht (qc T) z.mo {_} T.um T.DT .nil aS (aa JB af)) ?_
  intros
  refine CZ (λx=>aU (az uh JB (aE J7 M)<|aC _) x ar) ?_;refine aw (bH M bQ<|iN T.aq T.vo T.vp (gJ T) z.mo {_} T.kj T.pC .nil aS (aa JB af)) ?_
  intros
  let{dx,fs,hi,U,S,hf}:=A.ins;refine{_,M,_,M,a,_,dx,fs,_,M,hi,T.aK,T.dL,hf,_,_,M,M,_,M,?_};by_cases c:mo<x.fl
  .refine cn c ?_;exact oS T.aM T.iP (λea od H' ex s'=>O c ea od H' F ex (A.same s')<|Fr.of_same s') M
  .refine bC c ?_;refine{_,M,_,M,a,_,dx,fs,_,M,hi,T.aK,T.dJ,S,_,_,M,M,_,M,?_};by_cases d:x.now<mo
   .refine cn d ?_;exact oS T.aq T.db (λea od H' ex s'=>q2 () d ea od H' F ex (A.same s')<|Fr.of_same s') M
   .exact bC d<|q () ()
def tj(K:J4)(t:JM):Sp:=λvs H Q E=>∃(a:G')(k mo:Int)(F:Mi)(x:KQ),vs=[.ref a,.int k,.int mo]/\Kh K t H a F x/\(x.fl<=mo->mo<=x.now->Q (qD (mkOf x.pa k) mo) H)/\(mo<x.fl->Lp K t a F x H t.a5 [(cs,.int mo)] E)/\(x.fl<=mo->x.now<mo->Lp K t a F x H t.aL [(cs,.int mo)] E)
def tM(T:Txt K mg t w):J9 P w K mg base (K9 P w) 4 t.oo t.jB [cj,ew,cs] (tj K t):=by
 have I:=KW.nd;refine T.Ga.okX KW (λvs H Q E h=>?_)<|λO A outer s H vs Q E z h=>?_
 .let{a,k,mo,F,x,rfl,_}:=h;rfl
 .let{a,k,mo,F,x,rfl,A,q,S,q2}:=h;refine ag (bc<|bg J7 T.aK T.iT (cW T) z.mo T.iY .nil bJ<|aa JG af)
    (aw (aD<|bg J7 T.aK T.xC (eT T) z.mo T.xF .nil aS<|aa JB<|aa JG af) ?_)
  intros
  let{dx,fs,hi,G,_}:=A.ins;refine{_,M,a,dx,fs,M,hi,G _ ∅,_,M,a,mo,F,x,M,A,λU Y=>?_,S,q2};exact{_,M,a,dx,fs,M,hi,G _ ∅,_,M,_,M,a,k,mo,x.pa,M,A.vt,q U Y}
def pU(K:J4):Sp:=λvs H Q _=>∃(a:G')(ns:Mb)(k:Int),vs=[.ref a,.int k]/\JC K H a (ns.map V.int)/\0<=k/\Q (.int<|ns.getD k.toNat 0) H
def qb(T:Txt K mg t w):J9 P w K mg base JT 1 t.kD t.gi [mu,"_law_k"] (pU K):=by
 refine T.dZ.okl p6 λs H vs Q E O h _=>?_;intro X;let{a,ns,i,rfl,G,I,k}:=h;refine ag (aU (az jI JB (ay aN {_} T.cu bO (aa J7 af))<|aC _)
    (av<|aD<|bI bp J7 JB<|λ_ _=>M)
    ar)
   (aw (aD ak) ?_)
 intros
 refine{_,M,_,M,a,_,M,.inl G,_,_,M,M,_,M,?_};refine nQ (λc=>?_)<|λc=>?_
 .have c:=Xw c;rw[Q2]at c;exact{_,M,_,M,a,_,_,_,M,M,G,DP I c,k}
 .have c:¬i<((ns.map V.int).length:Int):=λz=>c (Xn z);rw[Q2]at c;rw[DO c]at k;exact k
def LR(H:Hp)(C:G')(E:XK):Prop:=∀(ea:G')(od:Me)(H':Hp),Jy H' ea od C []->JA H H'->E (.ref ea) od H'
def fJ{H0:Hp}(Y:JF K C bm)(s:JA H H0)(k:LR H C E){x:Str}:mq K (ql C<|qE (tC<|.str x) vZ) E D W H0:=by
 refine{(by show 1<=1000;decide),λea z=>{ea,C,none,bm,M,I0,Y,?_}};rw[bW];refine k ea none _ {I0,.inl ⟨M,M⟩} λb o q=>?_;have q:=s b o q;rw[ae (ai q z)];exact q
def dg(c:Nat):Bool:=decide (c∈sg (tt:Str))
def Jc{c:Nat}(h:dg c=true):48<=c/\c<=57:=by
 have h:c∈[48,49,50,51,52,53,54,55,56,57]:=Xw h;simp at h;omega (config:={})
def FB(c:Nat):(!(Builtin.Str.occurrences (tt:Str) {#[c]} 0 (tt:Str).length 1).isEmpty)=dg c:=StrLaws.found_one _ c
def sN(z:Str):Bool:=(decide (1<=(z.length:Int))&&decide ((z.length:Int)<=60))&&(!(decide ((sg z).head?=some 48)&&decide (z≠("0":Str))))&&(sg z).all dg
def qM:Sp:=λvs H Q _=>∃z:Str,vs=[.str z]/\z.length<=100000/\∀H',JA H H'->Q (.bl<|sN z) H'
def LZ:("0":Str)={#[48]}:=by decide+kernel
def strM:("-":Str)={#[45]}:=by decide+kernel
def vm:PySem.W.kitOne K (.type ub) (.type ub)=some true/\PySem.W.kitOne K (.type "int") (.type ub)=some false/\PySem.W.kitOne K (.type "NoneType") (.type ub)=some false/\PySem.W.kitOne K (.type "bool") (.type ub)=some false/\PySem.W.kitOne K (.type gt) (.type ub)=some false/\PySem.W.kitOne K (.type jb) (.type ub)=some false:=
 {by kernel_rfl,by kernel_rfl,by kernel_rfl,by kernel_rfl,by kernel_rfl,by kernel_rfl}
def rL(T:Txt K mg t w):J9 P w K mg base JT 1 t.lJ t.ia [so] qM:=by
 let{U,I}:=T.g_FIGURES;let{O,G}:=T.g_MOST_FIGURES;refine T.t6.okl q9 λs H vs Q E hr h _=>?_;intro X;let{z,rfl,zl,q}:=h;refine ag (aU (fc<|Cy ww ww ak (ay vC {_} T.cu bO (aa J7 af))<|bv (v:= .int 60) {_} G {_,M})
    (av<|aD rF)
    ar)
   (ag (aU (PW.pt<|c6 (bB<|eu Z6 Xg Xh uk J7<|aa a7 af)<|cv<|az CP J7 a7<|aC _)
    (av<|aD rF)
    ar)
   (aw (aD<|ay (Bq M) {_} T.Jm HK (aa (nE M (JL.of (M':=["sign"]) (N:=[so]) (N':=[so]) (dsc:=ah eM) M M ∅) (G3 J7)<|λ_ _ _ _ _=>(fA AI J7 (bv (v:= .str tt) {_} I {_,M}) M)) af)) ?_))
 intros
 have big:100000<=sizeLine:=by decide
 unfold sN at q;have last:(decide (1<=(z.length:Int))&&decide ((z.length:Int)<=60))=true->(!(decide ((sg z).head?=some 48)&&decide (z≠("0":Str))))=true->∀H',JA H H'->Q (.bl<|((sg z).map dg).all id) H':=λh1 h2 H' s=>by
  have:=q H' s;rw[h1,h2,Bool.true_and,Bool.true_and]at this;rwa[List.all_map]
 have Y:(decide (1<=(z.length:Int))&&decide ((z.length:Int)<=60))=true->(!(decide ((sg z).head?=some 48)&&decide (z≠("0":Str))))=true->∀D,H D=none->∀ys,ys=((sg z).map dg).map V.bl->∀H2,H2=upd H D (.lst ys)->H2 D=some (.lst ys)->∃(p:G')(bs:List Bool),[V.ref D]=[.ref p]/\JC K H2 p (bs.map V.bl)/\Q (.bl<|bs.all id) H2:=λh1 h2 D Z ys ey H2 e2 S=>
  {D,(sg z).map dg,M,JC.of (by rw[S,ey]),last h1 h2 H2<|by rw[e2];exact au Z}
 refine{_,M,z,M,(),_,_,M,M,_,M,?_};by_cases c1:(1:Int)<=(z.length:Int)
 .refine cn c1 {_,_,M,M,_,M,?_};by_cases c2:(z.length:Int)<=60
  .rw[Xn c1,Xn c2]at q last Y;rw[Xn c2];refine bu ?_;refine{_,M,M,z,_,M,M,_,M,?_};rw[show(Str.ofString "0")={#[48]} from LZ,qK];have fin:(!(decide ((sg z).head?=some 48)&&decide (z≠("0":Str))))=true->∀D,H D=none->∃J3:Nat->Nat->List V->Hp->Prop,(∃m,J3 0 m [] (upd H D<|.lst []))/\∀i m ys H2,J3 i m ys H2->H2 D=some (.lst ys)->
     ((Ld z).stop i H2/\∃(p:G')(bs:List Bool),[V.ref D]=[.ref p]/\JC K H2 p (bs.map V.bl)/\Q (.bl<|bs.all id) H2)\/((Ld z).go i H2/\∀x H3,(Ld z).yld i H2 x H3->tOp (λx y H Q=>∃i j,x= .str i/\y= .str j/\Q (.bl<|!(Builtin.Str.occurrences j i 0 j.length 1).isEmpty) H) (xQ 0) (tC<|.str tt) (some x::[some (V.str z)]) H3 λy H4=>H4 D=some (.lst ys)/\ys.length<sizeLine/\∃m',m'<m/\J3 (i+1) m' (ys++ [y]) (upd H4 D<|.lst<|ys++ [y])):=λh2 D Z=>by
    refine DN (z:=z) (λi ys H2=>H2=upd H D (.lst ys)/\ys=(((sg z).take i).map dg).map V.bl) ⟨M,M⟩ (λi c ys H2 hc w S=>?_)<|λys H2 w S=>?_
    .have hi:i<z.cps.size:=by
      rcases Nat.lt_or_ge i z.cps.size with g|g
      .exact g
      .rw[Array.getElem?_eq_none g]at hc;cases hc
     have a0:(sg z)[i]?=some c:=by rw[<-hc];simp[sg]
     have l1:ys.length<=100000:=by
      rw[w.2,Q2,Q2,Qo];have:=i6 z;lia
     refine{_,M,_,_,M,M,?_};rw[FB];refine KB.mk hi S (dA ()) {by rw[w.1,bW],?_};rw[w.2,QK,a0,Qi,Qi];rfl
    .refine Y M h2 D Z ys ?_ H2 w.1 S;rw[w.2,Qw];have:=i6 z;have:z.length=z.cps.size:=M;lia
   by_cases c3:(sg z).head?=some 48
   .rw[Xn c3];refine bL {_,M,M,_,M,?_};by_cases c4:z=("0":Str)
    .refine Dt (by rw[c4,LZ]) ?_;exact{_,M,z,M,λD Z=>fin (by simp[c4]) D Z}
    .refine zJ (λy=>c4<|(V.str.inj y).trans LZ.symm) ?_;have:=q H (JA.refl _);rw[Xn c3,Xn c4]at this;exact this
   .rw[Xo c3];refine bu ?_;exact{_,M,z,M,λD Z=>fin (by simp[c3]) D Z}
  .rw[Xo c2];refine bL ?_;rw[Xo c2,Zq]at q;exact q H<|JA.refl _
 .refine bC c1 ?_;rw[Xo c1]at q;exact{_,M,bL<|q H (JA.refl _)}
noncomputable def LQ(z:Str):Bool:=decide ((sg z).head?=some 45)
def Ku(z:Str):Str:=if LQ z=true then Txt.slice z (some 1) none else z
def acc(z:Str):Bool:=sN (Ku z)&&!(LQ z&&decide (Ku z=("0":Str)))
def zN(z:Str):(Ku z).length<=z.length:=by
 unfold Ku;split
 .exact Txt.slice_le _ _ _
 .exact Q4 _
def DG(z:Str):sg z=if LQ z=true then 45::sg (Ku z)else sg (Ku z):=by
 unfold Ku;by_cases c:LQ z=true
 .rw[Xm c,Xm c,wf];have h:(sg z).head?=some 45:=Xw c;cases e:sg z with
  |nil=>rw[e]at h;cases h
  |cons a r=>rw[e]at h;cases h;rfl
 .rw[Xl c,Xl c]
def Bt{z:Str}(h:acc z=true)(hl:z.length<=640):∃n,PySem.intText? z=some n:=by
 unfold acc sN at h;rw[Qp,Qp,Qp,Qp]at h;let{{{{h1,_},_},G},_}:=h;have ad:PySem.NumText.AllDigits (sg<|Ku z):=λc hc=>Jc (QB.mp G c hc);have ne:sg (Ku z)≠[]:=λe=>by
  have h1:=Xw h1;rw[i6,e]at h1;simp at h1
 have fs:=DG z;by_cases c:LQ z=true
 .rw[Xm c]at fs;exact{_,PySem.intText_neg fs ad ne ()}
 .rw[Xl c]at fs;exact{_,PySem.intText_digits (by show PySem.NumText.AllDigits (sg z);rwa[fs]) (by show sg z≠[];rwa[fs]) ()}
def HB{z:Str}(h:sN (Ku z)=true):z.length<=640:=by
 unfold sN at h;rw[Qp,Qp,Qp]at h;have h2:=Xw h.1.1.2;have fs:=DG z;have l1:=i6 z;have l2:=i6 (Ku z);rw[fs]at l1;split at l1
 .rw[Q9]at l1;lia
 .lia
def sR(K:J4)(t:JM):Sp:=λvs H Q E=>(∃z:Str,vs=[.str z]/\z.length<=100000/\(acc z=true->∀n H',PySem.intText? z=some n->JA H H'->Q (.int n) H')/\(acc z=false->LR H t.a6 E))\/
 (∃(x:V)(ty:K'),vs=[x]/\JP K H x ty/\PySem.W.kitOne K ty (.type ub)=some false/\LR H t.a6 E)
def EM{t u:TS}(M':MA)(h1:∀nx,(∀z H',M' z H'->nx z H')->t {D with nx:=nx} W H)(h2:∀z H',M' z H'->u D z H'):xR t u D W H:=h1 (u D) h2
def hW(T:Txt K mg t w):J9 P w K mg base (Lu P w) 2 t.nZ t.js [so] (sR K t):=by
 have a0:=KU.nd;refine T.fI.okC KU (λvs H Q E h=>?_)<|λa1 A outer s H vs Q E hr h=>?_
 .rcases h with⟨z,rfl,_⟩|⟨x,ty,rfl,_⟩<;>rfl
 .refine ag (aU (fc<|bB<|ay cH {_} T.aO aF (aa J7<|aa (gI (v:= .ty ub) {_} T.qB ku M) af))
   (av<|uf M y7<|bE T.aI T.yI {_} T.iR (aa a7 af))
   ar)
     (ag (Ju 1<|eu Z6 Xg Xh uk J7<|aa a7 af)
     (ag (Ju 2<|rE (bB JB) (iM GS J7 (jm ak) nC) J7)
     (ag (aU (PW.pt<|ni (fc<|bB<|a4 (rL T) hr.mo {_} T.Eg T.t6.kp T.El .nil aS (aa JG af))<|j3<|PW.pt<|c6 (bB JB)<|cv<|az bX JG a7<|aC _)
   (av<|uf M y7<|bE T.aI T.yI {_} T.iR (aa a7 af))
   ar)
     (aw (aD<|dt tV {_} T.BU vE (aa J7 af)) ?_))))
  intros
  have big:100000<=sizeLine:=by decide
  rcases h with⟨z,rfl,S,Y,q2⟩|⟨x,ty,rfl,ht,hk,q⟩
  .refine{_,M,_,_,_,_,M,JP.str _,vm.1,true,M,bu ?_};refine{_,M,M,z,_,M,M,?_};rw[show(Str.ofString "-")={#[45]} from strM,qK,show decide ((sg z).head?=some 45)=LQ z from rfl];have fl:=zN z
   (try dsimp only)
   refine EM (λI H'=>I=[some (.str z),some (.bl<|LQ z),some (.str<|Ku z)]/\H'=H) (λnx Z=>?_)<|λI H' w=>?_
   .refine{_,M,_,M,nQ (λc=>?_)<|λc=>?_}
    .refine{_,M,_,M,z,M,(),Z _ _ {?_,M}};unfold Ku;rw[Xm c];rfl
    .refine{_,M,Z _ _ {?_,M}};unfold Ku;rw[Xl c];rfl
   let{O,eH}:=w;rw[O,eH];clear O eH;refine{_,M,Ku z,M,(),λH1 s1=>{_,M,?_}};unfold acc at Y q2;cases ea:sN (Ku z)with
   |false=>
    refine bL ?_;refine bL ?_;exact fJ T.aI s1<|q2 (by rw[ea];rfl)
   |true=>
    refine bu {_,M,_,M,?_};have S:=HB ea;have ok:(!(LQ z&&decide (Ku z=("0":Str))))=true->∃n,PySem.intText? z=some n/\∀H',JA H' H'->JA H H'->Q (.int n) H':=λh=>by
     have ac:acc z=true:=by unfold acc;rw[ea,h];rfl
     let{n,G}:=Bt ac S;exact{n,G,λH' _ s=>Y (by rw[ea,h];rfl) n H' G s}
    cases U:LQ z with
    |true=>
     refine bL {_,M,M,_,M,?_};by_cases c:Ku z=("0":Str)
     .refine lr (by rw[c]) ?_;exact fJ T.aI s1<|q2 (by rw[ea,U,Xn c];rfl)
     .refine bC (λy=>c<|V.str.inj y) ?_;let{n,G,k}:=ok (by rw[U,Xo c];rfl);exact{_,M,z,n,M,G,S,k H1 (JA.refl _) s1}
    |false=>
     refine bu ?_;refine bu ?_;let{n,G,k}:=ok (by rw[U];rfl);exact{_,M,z,n,M,G,S,k H1 (JA.refl _) s1}
  .refine{_,M,_,_,_,_,M,ht,hk,false,M,bL ?_};exact fJ T.aI (JA.refl _) q
def DJ{c:Nat}(z:48<=c)(h1:c<=57):dg c=true:=by
 have e:sg (tt:Str)=[48,49,50,51,52,53,54,55,56,57]:=by decide+kernel
 unfold dg;rw[e];refine Xn ?_;simp;lia
def CU{i:Int}(z:0<=i):sg (Str.ofString<|toString i)=(Nat.toDigits 10 i.toNat).map Char.toNat:=by
 let{m,rfl}:=Zn z;exact PySem.W.KIN.signs_num m
def zq(m:Nat):∀c∈(Nat.toDigits 10 m).map Char.toNat,48<=c/\c<=57:=λc hc=>by
 let{ch,z,e}:=Qh.mp hc;rw[<-e];exact PyProof.Rows.digit_range<|Nat.isDigit_of_mem_toDigits (_) (_) z
def yv(m:Nat):(Nat.toDigits 10 m).map Char.toNat≠[]:=λe=>by
 have h:0<(Nat.toDigits 10 m).length:=Nat.length_toDigits_pos;rw[List.map_eq_nil_iff.mp e]at h;exact Xp h (_)
def wy(m:Nat):0<m->((Nat.toDigits 10 m).map Char.toNat).head?≠some 48:=by
 induction m using Nat.strongRecOn with
 |_ m z=>
  intro h;by_cases c:m<10
  .rw[Nat.toDigits_of_lt_base c];have d:∀d:Nat,d<10->0<d->(Nat.digitChar d).toNat≠48:=by decide
   intro e;exact d m c h<|Xq e
  .have G:m%10<10:=Nat.mod_lt m (_);have t:Nat.toDigits 10 (m/10)++Nat.toDigits 10 (m%10)=Nat.toDigits 10 (10*(m/10)+m%10):=Nat.toDigits_append_toDigits (_) () G;rw[Nat.div_add_mod]at t;rw[<-t,Qi];have:=z (m/10) () ();cases q:(Nat.toDigits 10<|m/10).map Char.toNat with
   |nil=>exact Xp q<|yv _
   |cons a r=>rw[q]at this;exact this
def Gf{i:Int}(O:0<=i)(h1:i<10^39):acc (wr<|.int i)=true/\PySem.intText? (wr<|.int i)=some i/\wr (.int i)≠("-":Str)/\32∉sg (wr<|.int i)/\(wr<|.int i).length<=40:=by
 have S:(wr<|.int i).length<=40:=by
  have h:(toString i).length<=39+1:=PySem.int_text_length_le10 (_) ();show(Str.ofString<|toString i).length<=40;rw[Str.ofString_eq_toList];show((toString i).toList.map Char.toNat).toArray.size<=40;rwa[Qa,Q2]
 have e:sg (wr<|.int i)=(Nat.toDigits 10 i.toNat).map Char.toNat:=CU O;have ad:=zq i.toNat;have ne:=yv i.toNat;have G:=wy i.toNat;rw[<-e]at ad ne G;have U:PySem.NumText.digitsVal (sg<|wr<|.int i)=i.toNat:=by rw[e];exact PySem.W.KIN.val_back _
 have hd:(sg<|wr<|.int i).head?≠some 45:=λq=>by
  have:=ad 45 (List.mem_of_mem_head? q);lia
 have Y:(sg<|wr<|.int i).head?=some 48->wr (.int i)=("0":Str):=λq=>by
  rcases Zk i.toNat with z|z
  .obtain rfl:i=0:=();show Str.ofString (toString (0:Int))=_;decide+kernel
  .exact Xp q<|G z
 generalize wr (.int i)=z at*;have I:LQ z=false:=Xo hd;have Z:Ku z=z:=by unfold Ku;rw[I];rfl
 have l1:1<=z.length:=by
  rw[i6];cases q:sg z with
  |nil=>exact Xp q ne
  |cons a r=>simp
 refine{?_,?_,?_,?_,S}
 .unfold acc sN;rw[I,Z,ZT,Bool.not_false,Bool.and_true,Xn (show(1:Int)<=(z.length:Int) by lia),Xn (show(z.length:Int)<=60 by lia)];have a1:(sg z).all dg=true:=QB.mpr λc hc=>DJ (ad c hc).1 (ad c hc).2;rw[a1];by_cases c:(sg z).head?=some 48
  .rw[Xo (show ¬z≠("0":Str) from λq=>q<|Y c),Zq];rfl
  .rw[Xo c];rfl
 .have r:=PySem.intText_digits (x:=z) ad ne ();rw[r];show some ((PySem.NumText.digitsVal (sg z):Nat):Int)=some i;rw[U];congr 1;lia
 .intro q;exact hd<|by rw[q];decide+kernel
 .intro q;have:=ad 32 q;lia
def GR:(" ":Str)={#[32]}:=by decide+kernel
def LO(x:Str):Option V:=if x=("-":Str)then some .non else if acc x=true then(PySem.intText? x).map V.int else none
def sV(t:JM):Sp:=λvs H Q E=>∃x:Str,vs=[.str x]/\x.length<=640/\(∀a,LO x=some a->∀H',JA H H'->Q a H')/\(LO x=none->LR H t.aJ E)
def tH(T:Txt K mg t w):J9 P w K mg base (K9 P w) 3 t.oa t.jw ["word"] (sV t):=by
 have S:=KZ.nd;refine T.oA.okX KZ (λvs H Q E h=>?_)<|λU A outer s H vs Q E Y h=>?_
 .let{x,rfl,_}:=h;rfl
 .let{z,rfl,Z,I,q2}:=h;refine ag (aU (az bX J7 a7<|aC _)
   (av<|aD bR)
   ar)
     (aw (E4 M M (λpn E=>(av<|aD<|nG (hW T) Y.mo {_} T.jr T.fI.kp T.jG .nil CM (aa J7 af))) {_} T.iR T.aI y6 (λea=>(bE T.am T.dw {_} T.cb (aa a7 af)))) ?_)
  intros
  unfold LO at I q2;by_cases c:z=("-":Str)
  .refine{_,M,M,_,M,lr (by rw[c]) ?_};rw[Xm c]at I;exact I .non M H<|JA.refl _
  .rw[Xl c]at I q2;refine{_,M,M,_,M,bC (λy=>c<|V.str.inj y) ?_};refine{_,M,.inl {z,M,Qr Z (_),λO n H' G s=>?_,λO ea od H' hx hs=>?_}}
   .rw[Xm O,G]at I;exact I _ M H' s
   .refine{ea,t.a6,_,M,hx.1,T.aI,T.iJ,(by show 1<=1000;decide),λe2 G=>?_};have ne:e2≠ea:=λy=>by rw[y,I0]at G;cases G
    rw[ae ne]at G;refine{e2,t.aJ,none,_,M,ne,I0,(by rw[ae (Ne.symm ne)];exact I0),T.am,?_};refine q2 (by rw[Xl (by rw[O];exact Q6)]) e2 none _ {I0,.inl ⟨M,M⟩} λb o q=>?_;have q:=hs b o q;rw[ae (ai q G)];by_cases y:b=ea
    .subst y;rw[I0,<-hx.1];exact q
    .rw[ae y,ae (ai q G),ae y];exact q
def LR.on(k:LR H C E)(s:JA H H'):LR H' C E:=λea od H2 hx hs=>k ea od H2 hx (s.trans hs)
def Tk(z:Str)(kd:Int)(a e:V):Prop:=∃wa we:Str,Txt.split z (" ":Str)=[Ll kd,wa,we]/\LO wa=some a/\LO we=some e/\LN kd a e
def NoTk(z:Str):Prop:=∀kd a e,¬Tk z kd a e
def Cs{x:Str}{a:V}(h:LO x=some a):Sc a:=by
 unfold LO at h;split at h
 .cases h;exact Xx
 .split at h
  .cases e:PySem.intText? x with
   |none=>rw[e]at h;cases h
   |some n=>rw[e]at h;cases h;exact Xx
  .cases h
def qu{kd kd':Int}(h:kd=0\/kd=1\/kd=2)(h':kd'=0\/kd'=1\/kd'=2)(e:Ll kd=Ll kd'):kd=kd':=by
 rcases h with rfl|rfl|rfl<;>rcases h' with rfl|rfl|rfl<;>first|rfl|exact Xp e ∅
def Tk.is{z O S U:Str}{kd:Int}{a e Y Z:V}(es:Txt.split z (" ":Str)=[O,S,U])(ra:LO S=some a)(re:LO U=some e)(h:Tk z kd Y Z):O=Ll kd/\Y=a/\Z=e/\LN kd a e:=by
 let{wa,we,es',G,I,ok}:=h;rw[es]at es';let{rfl,h2}:=List.cons.inj es';let{rfl,h3}:=List.cons.inj h2;let{rfl,_}:=List.cons.inj h3;rw[ra]at G;rw[re]at I;cases G;cases I;exact⟨M,M,M,ok⟩
def sS(K:J4)(t:JM):Sp:=λvs H Q E=>(∃z:Str,vs=[.str z]/\z.length<=600/\(∀kd a e,Tk z kd a e->∀H' p,JA H H'->Kr t H' p kd a e->Q (.ref p) H')/\(NoTk z->LR H t.aJ E))\/
 (∃(x:V)(ty:K'),vs=[x]/\JP K H x ty/\PySem.W.kitOne K ty (.type ub)=some false/\LR H t.aJ E)
def vf{kd:Str}{ok:V->V->Prop}{a e:V}(I:Sc a)(O:Sc e)(x dx:G')(nx:H x=none)(G:H dx=none)
  (q:ok a e->∀H' fs,JA H H'->H' x=some (.ins C dx fs)->DY kd fs a e->Q .non H') (r:¬ok a e->LR H N E):uc C N kd ok [.ref x,a,e] (upd (upd H dx<|.own x) x<|.ins C dx []) Q E:=
 {x,dx,a,e,M,I0,I,O,λho H' fs k h f=>q ho H' fs (kO nx G k) h f,λz ea od H' hx k=>r z ea od H' hx<|kO nx G k}
def lw(T:Txt K mg t w):J9 P w K mg base (K9 P w) 5 t.n6 t.jt [so] (sS K t):=by
 let{I,G}:=T.g_WORDS_OF_TOKEN;have a2:=Kb.nd;refine T.vK.okX Kb (λvs H Q E h=>?_)<|λa3 A outer s H vs Q E hr h=>?_
 .rcases h with⟨z,rfl,_⟩|⟨x,ty,rfl,_⟩<;>rfl
 .refine ag (aU (fc<|bB<|ay cH {_} T.aO aF (aa J7<|aa (gI (v:= .ty ub) {_} T.qB ku M) af))
   (av<|bH M bQ<|bE T.am T.dw {_} T.cb (aa a7 af))
   ar)
     (ag (Ju 1<|eu Z6 PySem.F.slot_str_split PySem.F.type_str_split wA J7<|aa a7 af)
     (ag (aU (az CP (ay aN {_} T.cu bO (aa JB af)) (bv (v:= .int 3) {_} G {_,M})<|aC _)
   (av<|bH M bQ<|bE T.am T.dw {_} T.cb (aa a7 af))
   ar)
     (ag (Ju 2<|a4 (tH T) hr.mo {_} T.vj T.oA.kp T.vF .nil bJ (aa (bI bp JB ak<|λ_ _=>M) af))
     (ag (Ju 3<|a4 (tH T) hr.mo {_} T.vj T.oA.kp T.vF .nil bJ (aa (bI bp JB ak<|λ_ _=>M) af))
     (ag (aU (az bX (bI bp JB ak<|λ_ _=>M) a7<|aC _)
   (av<|aD<|cJ T.r6 (eF T) hr.mo {_} T.mE T.jL .nil bJ (aa JG<|aa K3 af))
   ar)
     (ag (aU (az bX (bI bp JB ak<|λ_ _=>M) a7<|aC _)
   (av<|aD<|cJ T.wE (eS T) hr.mo {_} T.ul T.sL .nil bJ (aa JG<|aa K3 af))
   ar)
     (ag (aU (az bX (bI bp JB ak<|λ_ _=>M) a7<|aC _)
   (av<|aD<|cJ T.zx (lB T) hr.mo {_} T.zy T.FZ .nil bJ (aa JG<|aa K3 af))
   ar)
     (aw (bH M bQ<|bE T.am T.dw {_} T.cb (aa a7 af)) ?_))))))))
  intros
  rcases h with⟨z,rfl,zl,q1,q2⟩|⟨x,ty,rfl,ht,hk,q⟩
  .refine{_,M,_,_,_,_,M,JP.str _,vm.1,true,M,bu ?_};refine{_,M,M,_,_,M,M,∅,(),λl nl=>?_};have wt:=PyProof.Rows.split_weight z (" ":Str) ∅;rw[show(Str.ofString " ")=(" ":Str) from rfl];generalize es:Txt.split z (" ":Str)=S at wt⊢;have s1:=au (o:= .lst<|S.map V.str) nl;have e1:upd H l (.lst<|S.map V.str) l=some (.lst<|S.map V.str):=I0;generalize upd H l (.lst<|S.map V.str)=H1 at s1 e1⊢;refine{_,M,l,_,M,.inl<|JC.of e1,M,_,M,?_};by_cases c3:S.length=3
   .refine Dt (by rw[Q2,c3];rfl) ?_;obtain⟨U,w1,w2,rfl⟩:∃U w1 w2,S=[U,w1,w2]:=by
     match S,c3 with
     | [a,b,c],_=>exact⟨a,b,c,M⟩
    have l1:w1.length<=640/\w2.length<=640:=by simp at wt;lia
    refine{_,M,l,_,_,_,M,M,JC.of e1,M,w1,M,l1.1,λa ra H2 s2=>?_,λrn=>(q2 λkd a e zz=>by let{wa,we,es',a0,_}:=zz;exact (by rw[es]at es';cases es';rw[rn]at a0;cases a0)).on s1};have e2:=s2 _ _ e1;refine{_,M,l,_,_,_,M,M,JC.of e2,M,w2,M,l1.2,λe re H3 s3=>?_,λrn=>(q2 λkd a e zz=>by let{wa,we,es',_,a1,_}:=zz;exact (by rw[es]at es';cases es';rw[rn]at a1;cases a1)).on<|s1.trans s2};have Z:=s3 _ _ e2;have s:=(s1.trans s2).trans s3;have sa:=Cs ra;have se:=Cs re;have no:(∀kd,U=Ll kd->¬LN kd a e)->LR H3 t.aJ E:=λk=>(q2 λkd a' e' h=>by
     let{h1,_,_,h4}:=Tk.is es ra re h;exact k kd h1 h4).on s
    have Y:∀kd,U=Ll kd->LN kd a e->Tk z kd a e:=λkd h ok=>{w1,w2,by rw[es,h],ra,re,ok};by_cases c0:U=("slots":Str)
    .refine{_,M,l,_,_,_,M,M,JC.of Z,M,M,_,M,lr (by rw[c0]) {_,M,_,M,λx dx nx nd ne=>?_}};exact vf sa se x dx nx nd (λok H' fs s' h f=>{M,q1 0 a e (Y 0 c0<|.inl ⟨M,ok⟩) H' x (s.trans s') ⟨dx,fs,h,f⟩}) λO=>no λkd h ok=>O (by
      obtain rfl:kd=0:=qu ok.kd (.inl M) (h.symm.trans c0);exact ok.s)
    refine{_,M,l,_,_,_,M,M,JC.of Z,M,M,_,M,bC (λy=>c0<|V.str.inj y) ?_};by_cases c1:U=("up":Str)
    .refine{_,M,l,_,_,_,M,M,JC.of Z,M,M,_,M,lr (by rw[c1]) {_,M,_,M,λx dx nx nd ne=>?_}};exact vf sa se x dx nx nd (λok H' fs s' h f=>{M,q1 1 a e (Y 1 c1<|.inr<|.inl ⟨M,ok⟩) H' x (s.trans s') ⟨dx,fs,h,f⟩}) λO=>no λkd h ok=>O (by
      obtain rfl:kd=1:=qu ok.kd (.inr<|.inl M) (h.symm.trans c1);exact ok.u)
    refine{_,M,l,_,_,_,M,M,JC.of Z,M,M,_,M,bC (λy=>c1<|V.str.inj y) ?_};by_cases c2:U=("down":Str)
    .refine{_,M,l,_,_,_,M,M,JC.of Z,M,M,_,M,lr (by rw[c2]) {_,M,_,M,λx dx nx nd ne=>?_}};exact vf sa se x dx nx nd (λok H' fs s' h f=>{M,q1 2 a e (Y 2 c2<|.inr<|.inr ⟨M,ok⟩) H' x (s.trans s') ⟨dx,fs,h,f⟩}) λO=>no λkd h ok=>O (by
      obtain rfl:kd=2:=qu ok.kd (.inr<|.inr M) (h.symm.trans c2);exact ok.d)
    refine{_,M,l,_,_,_,M,M,JC.of Z,M,M,_,M,bC (λy=>c2<|V.str.inj y) ?_};have nn:LR H3 t.aJ E:=no λkd h ok=>by
     rcases ok.kd with rfl|rfl|rfl
     .exact c0 h
     .exact c1 h
     .exact c2 h
    exact fJ (D:={λ_ _=>False,λ_ _=>False,λ_ _=>False,λ_ _=>False}) (W:=[]) T.am (JA.refl _) nn
   .refine zJ (λy=>c3<|by have:=V.int.inj y;rw[Q2]at this;lia) ?_;exact fJ T.am s1<|q2 λkd a e zz=>by let{wa,we,es',_}:=zz;exact c3 (by rw[es]at es';rw[es'];rfl)
  .refine{_,M,_,_,_,_,M,ht,hk,false,M,bL ?_};exact fJ T.am (JA.refl _) q
noncomputable def LF(i j m:Int)(k:Nat):Int:=i+(j-i)*(k:Int)/m
def LV{i j:Int}:LF i j m 0=i:=by
 show i+(j-i)*0/m=i;rw[Int.mul_zero,Int.zero_ediv,Int.add_zero]
def DL{i j:Int}(h:m=(n:Int))(z:0<m):LF i j m n=j:=by
 show i+(j-i)*(n:Int)/m=j;rw[<-h,Int.mul_ediv_cancel _ (Int.ne_of_gt z)];lia
def nW{i j:Int}(z:0<m)(G:i<=j)(k:Nat):LF i j m k<=LF i j m (k+1):=by
 refine Int.add_le_add_left (Int.ediv_le_ediv z<|Int.mul_le_mul_of_nonneg_left ?_ ()) i;lia
theorem yO{i j m:Int}(G:0<m)(z:i<=j):∀k:Nat,i<=LF i j m k
 |0=>Int.le_of_eq LV.symm
 |k+1=>ZN (yO G z k) (nW G z k)
theorem zT{i j m:Int}(G:0<m)(z:i<=j)(k:Nat):∀d:Nat,LF i j m k<=LF i j m (k+d)
 |0=>QT _
 |d+1=>ZN (zT G z k d) (nW G z<|k+d)
def HG{i j:Int}{k:Nat}(h:m=(n:Int))(G:0<m)(z:i<=j)(hk:k<=n):LF i j m k<=j:=by
 have:=zT (m:=m) G z k (n-k);rw[Nat.add_sub_of_le hk,DL h G]at this;exact this
def Jh(t:JM)(H:Hp)(as:Mh)(kd i j m:Int):Prop:=∀(k:Nat)(b:G'),as[k]?=some b->Kr t H b kd (.int<|LF i j m k) (.int<|LF i j m<|k+1)
def Kr.upd{D:G'}{kd:Int}{a e:V}(h:Kr t H p kd a e)(n:p≠D):Kr t (upd H D o) p kd a e:=by
 let{dx,fs,h1,h2}:=h;exact{dx,fs,by rwa[ae n],h2}
def Cn(t:JM):Sp:=λvs H Q _=>∃(p:G')(kd i j m:Int)(x:Nat),vs=[.ref p,.int (x:Int),.int m]/\Kr t H p kd (.int i) (.int j)/\(kd=0\/kd=1)/\x<=60/\1<=m/\m<=60/\Q (.int<|LF i j m x) H
def Cl(t:JM):Sp:=λvs H Q E=>∃(p:G')(kd m:Int)(a e:V),vs=[.ref p,.int m]/\Kr t H p kd a e/\LN kd a e/\1<=m/\m<=60/\
 ((∃i j:Int,a= .int i/\e= .int j/\(kd=0\/kd=1)/\∀(H':Hp)(l:Addr)(as:List Addr),JA H H'->H' l=some (.lst<|as.map V.ref)->as.length=m.toNat->Jh t H' as kd i j m->Q (.ref l) H')\/
  ((kd=2\/e= .non)/\Rs H t.bb [] E))
def iL(Y:JF K C bm)(k:Rs H C [] E){x:Str}:mq K (ql C<|qE (tC<|.str x) vZ) E D W H:=by
 refine{(by show 1<=1000;decide),λea z=>{ea,C,none,bm,M,I0,Y,?_}};rw[bW];exact k ea none _ {I0,.inl ⟨M,M⟩}<|au z
def tkB(T:Txt K mg t w){kd:Int}(h:kd=0\/kd=1\/kd=2):L3 K (Lo t kd)/\LA K (Lo t kd)/\J6 K (Lo t kd) nD/\J6 K (Lo t kd) qs/\PySem.W.kitOne K (.ref<|Lo t kd) (.ref t.bf)=some (decide (kd=0))/\PySem.W.kitOne K (.ref<|Lo t kd) (.ref t.gv)=some (decide (kd=1)):=by
 rcases h with rfl|rfl|rfl
 .exact⟨T.yP,T.GF,T.tP,T.rY,T.yH,T.Ej⟩
 .exact⟨T.Je,T.Jn,T.C3,T.AO,T.Ei,T.IR⟩
 .exact⟨T.FN,T.Jj,T.yy,T.wz,T.BO,T.Hj⟩
def CT(T:Txt K mg t w):J9 P w K mg base JT 1 t.Ac t.vz [kx,"j",pp] (Cn t):=by
 refine T.qA.okl Cp λs H vs Q E O h _=>?_;intro X;let{p,kd,i,j,m,x,rfl,I,hk,S,U,Y,q}:=h;refine{_,(av<|aD<|bd b9 (aE J7 M)<|bd nI (bd yr (bd mt (aE J7 M)<|aE J7 M) JB) JG)
  ,?_}
 let{dx,fs,hp,z}:=I;let{cl,Z,G,ne,_}:=tkB T (kd:=kd) ();refine{_,M,p,_,dx,fs,_,M,hp,cl,G,z.at_,_,M,p,_,dx,fs,_,M,hp,cl,ne,z.end_,_,M,p,_,dx,fs,_,M,hp,cl,G,z.at_,_,_,M,M,_,M,_,_,M,M,.inr {(),()},_,M,_,_,M,M,{(),()},_,_,M,M,?_};exact q
def jp{kd:Str}{ok:V->V->Prop}{a e:V}(ho:ok a e)(G:Sc a)(I:Sc e)(x dx:G')(nx:H x=none)(O:H dx=none)
  (q:∀H' fs,JA H H'->H' x=some (.ins C dx fs)->DY kd fs a e->Q .non H'):uc C N kd ok [.ref x,a,e] (upd (upd H dx<|.own x) x<|.ins C dx []) Q E:=
 {x,dx,a,e,M,I0,G,I,λ_ H' fs k h f=>q H' fs (kO nx O k) h f,λz=>Xp ho z}
def LW(t:JM)(H:Hp)(D:G')(kd i j m:Int)(n:Nat)(ys:L')(H3:Hp):Prop:=JA H H3/\∃as:List Addr,ys=as.map V.ref/\as.length=n/\∀(k:Nat)(b:G'),as[k]?=some b->b≠D/\Kr t H3 b kd (.int<|LF i j m k) (.int<|LF i j m<|k+1)
def LW.next{H3 H4:Hp}{D x:G'}{kd i j:Int}{ys:L'}(w:LW t H D kd i j m n ys H3)(S:H D=none)(G:H3 D=some (.lst ys))(s:JA H3 H4)(nx:H3 x=none)(h:Kr t H4 x kd (.int<|LF i j m n) (.int<|LF i j m<|n+1)):
  LW t H D kd i j m (n+1) (ys++ [.ref x]) (upd H4 D<|.lst<|ys++ [.ref x]):=by
 let{s1,as,U,I,hk}:=w;refine{iK (s1.trans s) S,as++ [x],by rw[U,Qi];rfl,by simp[I],λk b e=>?_};have O:x≠D:=λz=>by rw[z,G]at nx;cases nx
 by_cases lt:k<as.length
 .rw[Zf lt]at e;let{h1,h2}:=hk k b e;exact{h1,(h2.same s).upd h1}
 .have:k=n:=by
   have:=(Q3.mp e).1;simp[I]at this;lia
  subst this;rw[<-I,Za (Q4 _),Nat.sub_self]at e;cases e;exact{O,h.upd O}
def CS(T:Txt K mg t w):J9 P w K mg base (K9 P w) 5 t.Ab t.vx [kx,pp] (Cl t):=by
 have a0:=LG.nd;refine T.Ag.okX LG (λvs H Q E h=>?_)<|λa1 A outer s H vs Q E Y h=>?_
 .let{p,kd,m,a,e,rfl,_}:=h;rfl
 .let{p,kd,m,a,e,rfl,ht,ho,m1,m6,q}:=h;refine bZ (λx=>aU (bB<|ay (nX K M) {_} T.aO aF (aa J7<|aa (bv (v:= .ref t.bf) {_} T.mE M) af)) x ar) ?_;refine aw (aD<|nE M (JL.of (M':=["j"]) (N:=[kx,pp]) (N':=[kx,pp]) (dsc:=ah m8) M M ∅) (fK {_} T.mJ (aa JB af))<|λ_ _ _ _ _=>(cJ T.r6 (eF T) Y.mo {_} T.mE T.jL .nil CO (aa (a4 (CT T) Y.mo {_} T.vk T.qA.kp T.vG .nil aS (aa JB<|aa J7<|aa JG af))<|aa (a4 (CT T) Y.mo {_} T.vk T.qA.kp T.vG .nil aS (aa JB<|aa (bd b9 J7 ak)<|aa JG af)) af))) ?_
  intros
  refine bZ (λx=>aU (PW.pt<|c6 (bB<|ay (nX K M) {_} T.aO aF (aa J7<|aa (bv (v:= .ref t.gv) {_} T.ul M) af))<|cv<|az qr (aE J7 M) bR<|aC _) x ar) ?_;refine aw (aD<|nE M (JL.of (M':=["j"]) (N:=[kx,pp]) (N':=[kx,pp]) (dsc:=ah m8) M M ∅) (fK {_} T.mJ (aa JB af))<|λ_ _ _ _ _=>(cJ T.wE (eS T) Y.mo {_} T.ul T.sL .nil CO (aa (a4 (CT T) Y.mo {_} T.vk T.qA.kp T.vG .nil aS (aa JB<|aa J7<|aa JG af))<|aa (a4 (CT T) Y.mo {_} T.vk T.qA.kp T.vG .nil aS (aa JB<|aa (bd b9 J7 ak)<|aa JG af)) af))) ?_
  intros
  refine aw (bH M bQ<|bE T.aW T.Hs {_} T.AW (aa a7 af)) ?_
  intros
  let{dx,fs,hp,tf}:=id ht;let{cl,G,na,ne,k0,k1}:=tkB T ho.kd;have mn:m=((m.toNat:Nat):Int):=();have ml:m.toNat<=60:=();rcases q with⟨i,j,rfl,rfl,hk,q⟩|⟨hk,q⟩
  .rcases hk with rfl|rfl
   .let{i',j',e1,e2,i0,Z,j6}:=ho.s;cases e1;cases e2;refine{_,M,_,_,_,_,M,JP.ins hp cl G.1 G.2 G.3 G.4,k0,_,M,bL ?_};refine{_,M,m,M,(),(),λD hD=>jE (n:=m.toNat) (lo:=0) (LW t H D 0 i j m) {au hD,[],M,M,λk b e=>by cases e} (λn ys H3 hn w I=>?_)<|λys H3 w I=>?_}
    .have O:=ht.same w.1;refine{_,M,_,M,_,M,p,0,i,j,m,n,by rw[ZO];rfl,O,.inl M,(),m1,m6,_,M,_,M,_,_,M,M,_,M,p,0,i,j,m,n+1,?_,O,.inl M,(),m1,m6,λx dx nx nd ne=>?_}
     .rw[ZO];rfl
     refine jp (ok:=okS) {_,_,M,M,ZN i0<|yO () Z n,nW () Z n,ZN (HG mn () Z hn) j6} (T0 _) (T0 _) x dx nx nd λH4 fs s h f=>{M,KB.mk hn (s _ _ I) ?_<|w.next hD I s nx ⟨dx,fs,h,f⟩};let{_,as,S,U,_}:=w;rw[S,Q2,U];exact bn ()
    .let{s,as,S,U,hk}:=w;exact q H3 D as s (by rw[I,S]) U λk b e=>(hk k b e).2
   .let{i',e1,i0,hj}:=ho.u;cases e1;have Z:i<=j:=by
     rcases hj with hj|⟨j',hj,h⟩
     .cases hj
     .cases hj;exact h
    refine{_,M,_,_,_,_,M,JP.ins hp cl G.1 G.2 G.3 G.4,k0,_,M,bu ?_};refine{_,M,_,_,_,_,M,JP.ins hp cl G.1 G.2 G.3 G.4,k1,_,M,bL ?_};refine{_,M,p,_,dx,fs,_,M,hp,cl,ne,tf.end_,M,_,M,zJ (λz=>by cases z) ?_};refine{_,M,m,M,(),(),λD hD=>jE (n:=m.toNat) (lo:=0) (LW t H D 1 i j m) {au hD,[],M,M,λk b e=>by cases e} (λn ys H3 hn w I=>?_)<|λys H3 w I=>?_}
    .have O:=ht.same w.1;refine{_,M,_,M,_,M,p,1,i,j,m,n,by rw[ZO];rfl,O,.inr M,(),m1,m6,_,M,_,M,_,_,M,M,_,M,p,1,i,j,m,n+1,?_,O,.inr M,(),m1,m6,λx dx nx nd ne=>?_}
     .rw[ZO];rfl
     refine jp (ok:=Le) {_,M,ZN i0<|yO () Z n,.inr {_,M,nW () Z n}} (T0 _) (T0 _) x dx nx nd λH4 fs s h f=>{M,KB.mk hn (s _ _ I) ?_<|w.next hD I s nx ⟨dx,fs,h,f⟩};let{_,as,S,U,_}:=w;rw[S,Q2,U];exact bn ()
    .let{s,as,S,U,hk}:=w;exact q H3 D as s (by rw[I,S]) U λk b e=>(hk k b e).2
  .have n0:¬kd=0:=by
    rintro rfl;rcases hk with hk|hk
    .cases hk
    .let{_,_,_,e2,_}:=ho.s;rw[hk]at e2;cases e2
   rw[Xo n0]at k0;refine{_,M,_,_,_,_,M,JP.ins hp cl G.1 G.2 G.3 G.4,k0,_,M,bu ?_};by_cases n1:kd=1
   .rw[Xn n1]at k1;have en:e= .non:=hk.resolve_left ();subst en;refine{_,M,_,_,_,_,M,JP.ins hp cl G.1 G.2 G.3 G.4,k1,_,M,bL ?_};refine{_,M,p,_,dx,fs,_,M,hp,cl,ne,tf.end_,M,_,M,Dt M ?_};exact iL (W:=[]) (D:={λ_ _=>True,λ_ _=>True,λ_ _=>True,λ_ _=>True}) T.aW q
   .rw[Xo n1]at k1;refine{_,M,_,_,_,_,M,JP.ins hp cl G.1 G.2 G.3 G.4,k1,_,M,bu ?_};exact iL (W:=[]) (D:={λ_ _=>True,λ_ _=>True,λ_ _=>True,λ_ _=>True}) T.aW q
def DM{f:α->V}{z:List α}{g:Int}(h:0<=g):lu (z.map f) (some g) none=(z.drop g.toNat).map f:=by
 unfold lu HT.sIx;dsimp only;rw[Xl (),ZY];rcases Nat.le_total g.toNat (z.map f).length with c|c
 .rw[Nat.min_eq_left c];exact Qw<|by rw[QA];lia
 .rw[Nat.min_eq_right c,List.drop_of_length_le c,List.drop_of_length_le (Q4 _),List.take_nil]
def pZ(K:J4)(t:JM):Sp:=λvs H Q _=>∃(a:G')(lo:Int)(F:Mi)(x:KQ),vs=[.ref a,.int lo]/\Kh K t H a F x/\0<=lo/\
 ∀(H':Hp)(r:G'),JA H H'->H r=none->H' r=some (.lst<|(x.di.drop lo.toNat).map λe=>V.ref e.1)->Q (.ref r) H'
def qf(T:Txt K mg t w):J9 P w K mg base JT 1 t.kH t.dS [cj,"low"] (pZ K t):=by
 have G:=KA.nd;refine T.D9.ok KA (λvs H Q E h=>?_)<|λI A outer s H vs Q E U h=>?_
 .let{a,lo,F,x,rfl,_}:=h;rfl
 .let{a,lo,F,x,rfl,A,l0,q}:=h;refine{_,(av<|aD<|iM mZ (aE J7 M) (jm<|ay (Bp M) {_} T.Jl HJ (aa JB<|aa ak af)) nC)
   ,?_}
  let{s,l,wr,p,h,Fs,Fl,B,O,g}:=A;let{dx,ho}:=B.o.ob;refine{_,M,a,_,dx,_,_,M,ho,T.aK,T.iQ,Dw,?_};have S:(if(0:Int)>lo then(0:Int)else lo)=lo:=Xl ();refine{_,M,_,_,M,lo,by rw[S],wr,_,M,JC.of B.o.wr,λr z=>q _ r (au z) z ?_};rw[I0,DM l0]
def coF(a p:G')(n:Int)(dd:G'):List (Str×V):=[("house",.ref a),("first",.ref p),("rest",.ref p),("followed",.int n),("copied",.ref dd),("page",.non)]
def CoN(t:JM)(H:Hp)(c:G'):Prop:=∃(dx a p:G')(n:Int)(dd:G'),H c=some (.ins t.bV dx<|coF a p n dd)
def p0(K:J4)(t:JM):Sp:=λvs H Q _=>∃(c dx a p:G')(F:Mi)(x:KQ),vs=[.ref c,.ref a,.ref p,.non]/\H c=some (.ins t.bV dx [])/\Kh K t H a F x/\
 ∀H',CoN t H' c->(∀b o,b≠c->H b=some o->H' b=some o)->Q .non H'
def qg(T:Txt K mg t w):J9 P w K mg base JT 2 t.kI t.dW [cj,"house",kx,"stopped"] (p0 K t):=by
 have a0:=KF.nd;refine T.Ea.ok KF (λvs H Q E h=>?_)<|λa1 A outer s H vs Q E Y h=>?_
 .let{c,dx,a,p,F,x,rfl,_}:=h;rfl
 .let{c,dx,a,p,F,x,rfl,hc,A,q}:=h;refine bZ (λx=>aU (az j5 K3 bR<|aC _) x ar) ?_;refine aw (Ju 3<|yq<|@ba _ _ _ _ _ JG (@ba _ _ _ _ _ (ay aN {_} T.cu bO (aa (f8 JB T.aK T.Dg (qf T) Y.mo T.qj.choose_spec.1 T.qj.choose_spec.2 aS) af)) (@ba _ _ _ _ _ iO af M) M) M) ?_
  intros
  refine ag (bK J7 JB M)
    (ag (bK J7 JG M)
    (ag (bK J7 (bI kq K3 ak<|λ_ _=>M) M)
    (ag (bK J7 (bI kq K3 ak<|λ_ _=>M) M)
    (ag (bK J7 (dt yQ {_} T.Jk FO (aa (bI kq K3 ak<|λ_ _=>M) af)) M)
    (aw (bK J7 bR M) ?_)))))
  intros
  let{da,fa,hi,hm,_}:=A.ins;refine kN (λW H'=>∃tp d0:Addr,W=[some (.ref c),some (.ref a),some (.ref p),some (.ref tp)]/\JA H H'/\H' tp=some (.tup [.ref p,.int x.di.length,.ref d0])/\H' d0=some (.dK [])) (λnx go=>?_)<|λW H2 w=>?_
  .refine{_,M,M,_,M,lr M {_,M,_,M,a,da,fa,M,hi,hm _ ∅,a,0,F,x,M,A,QT _,λH1 r s1 nr Y=>{r,_,M,.inl<|JC.of Y,λd0 Z=>{(by show 3<=sizeLine;decide),λtp S=>?_}}}};rw[Q2,show(0:Int).toNat=0 from rfl,Xi];exact go _ _ {tp,d0,M,(s1.trans<|au Z).trans<|au S,I0,au S _ _ I0}
  let{tp,d0,rfl,s2,G,I}:=w;have O:=s2 _ _ hc;have U:tp≠c:=λz=>by rw[z,O]at G;cases G
  have n2:d0≠c:=λz=>by rw[z,O]at I;cases I
  refine{_,M,_,M,c,_,dx,[],M,O,T.cN,T.BJ,lq (by kernel_rfl),cT λH3 h3 o3=>?_};refine{_,M,_,M,c,_,dx,_,M,h3,T.cN,T.BK,lq (by kernel_rfl),cT λH4 h4 o4=>?_};refine{_,M,tp,_,_,_,M,M,Kg.of (by rwa[o4 _ U,o3 _ U]),M,_,M,c,_,dx,_,M,h4,T.cN,T.C6,lq (by kernel_rfl),cT λH5 h5 o5=>?_};have kp:∀{b:G'},b≠c->H5 b=H2 b:=λn=>by rw[o5 _ n,o4 _ n,o3 _ n]
  refine{_,M,tp,_,_,_,M,M,Kg.of (by rwa[kp U]),M,_,M,c,_,dx,_,M,h5,T.cN,T.yz,lq (by kernel_rfl),cT λH6 h6 o6=>?_};refine{_,M,tp,_,_,_,M,M,Kg.of (by rwa[o6 _ U,kp U]),M,d0,_,M,by rw[o6 _ n2,kp n2];exact I,λdd nd=>?_};refine{_,M,c,_,dx,_,M,au nd _ _ h6,T.cN,T.AQ,lq (by kernel_rfl),cT λH7 h7 o7=>?_};refine{_,M,c,_,dx,_,M,h7,T.cN,T.kf,lq (by kernel_rfl),cT λH8 h8 o8=>?_};have nc:=(ai h6 nd).symm;have k8:∀b o,b≠c->H b=some o->H8 b=some o:=λb o n e=>by
   rw[o8 b n,o7 b n];exact au nd _ _<|by rw[o6 b n,kp n];exact s2 _ _ e
  exact q _ {dx,a,p,(x.di.length:Int),dd,h8.trans<|by kernel_rfl} k8
def Gm(t:JM)(n:Nat):Sp:=λvs H _ E=>∃(c:G')(vr:L'),vs= .ref c::vr/\vr.length=n/\CoN t H c/\Rs H t.aG [] E
def jY(t:JM):Sp:=Gm t 1
def jR(t:JM):Sp:=Gm t 0
def jU(T:Txt K mg t w):J9 P w K mg base (K9 P w) 1 t.eX t.cG [cj] (jR t):=by
 have z:=JU.nd;refine T.xq.okX JU (λvs H Q E h=>?_)<|λG A outer s H vs Q E O h=>?_
 .let{c,I,rfl,hl,_}:=h;rw[Q9,hl];rfl
 .let{c,I,rfl,hl,C,q}:=h;obtain rfl:=QJ.mp hl;refine ag (Ju 1<|aE J7 M)
    (ag (aU (PW.pt<|ni (az j5 JB bR<|aC _)<|ni (az j5 (aE JB M) bR<|aC _)<|j3<|az qr (aE JB M) bR<|aC _)
   (av<|bH M bQ<|bE T.aA T.tS {_} T.nO (aa a7 af))
   ar)
     (ag bY
     (aw bY ?_)))
  intros
  let{dx,a,p,n,dd,hc}:=C;refine{_,M,c,_,dx,_,.non,M,hc,T.cN,T.kf,(by kernel_rfl),?_};exact{_,M,M,_,M,lr M<|iL (D:={λ_ _=>True,λ_ _=>True,λ_ _=>True,λ_ _=>True}) T.aA q}
def kb(T:Txt K mg t w):J9 P w K mg base (K9 P w) 1 t.ft t.b5 [cj,pp] (jY t):=by
 have G:=JX.nd;refine T.xI.okX JX (λvs H Q E h=>?_)<|λI A outer s H vs Q E S h=>?_
 .let{c,O,rfl,hl,_}:=h;rw[Q9,hl];rfl
 .let{c,O,rfl,hl,C,q}:=h;let{z,rfl}:=List.length_eq_one_iff.mp hl;refine ag (Ju 2<|aE J7 M)
    (ag (aU (PW.pt<|ni (az j5 JG bR<|aC _)<|j3<|az qr (aE JG M) bR<|aC _)
   (av<|bH M bQ<|bE T.aA T.tS {_} T.nO (aa a7 af))
   ar)
     (ag bY
     (aw bY ?_)))
  intros
  let{dx,a,p,n,dd,hc}:=C;refine{_,M,c,_,dx,_,.non,M,hc,T.cN,T.kf,(by kernel_rfl),?_};exact{_,M,M,_,M,lr M<|iL (D:={λ_ _=>True,λ_ _=>True,λ_ _=>True,λ_ _=>True}) T.aA q}
def Hq{x y:Int}(h:x≠y):¬V.int x=V.int y:=λe=>h (V.int.inj e)
def mY(K:J4)(t:JM):Sp:=λvs H _ E=>∃(a:G')(mo:Int)(v w:V)(F:Mi)(x:KQ),vs=[.ref a,.int mo,v,w]/\Kh K t H a F x/\mo<x.fl/\Lp K t a F x H t.a5 [(cs,.int mo)] E
def nK(T:Txt K mg t w):J9 P w K mg base (K9 P w) 4 t.i4 t.cM [cj,cs,kx,pp] (mY K t):=by
 have z:=K0.nd;refine T.Bx.okX K0 (λvs H Q E h=>?_)<|λG A outer s H vs Q E I h=>?_
 .let{a,mo,v,w,F,x,rfl,_}:=h;rfl
 .let{a,mo,v,w,F,x,rfl,A,lt,q}:=h;refine ag (bc<|bg J7 T.aK T.iT (cW T) I.mo T.iY .nil bJ<|aa JB af)
    (ag bY
    (ag bY
    (ag bY
    (aw bY ?_))))
  intros
  let{dx,fs,hi,O,_}:=A.ins;exact{_,M,a,dx,fs,M,hi,O _ ∅,_,M,a,mo,F,x,M,A,λg=>(),λ_=>q,λg=>()}
def Rs.on(k:Rs H C fs E)(s:JA H H'):Rs H' C fs E:=λea od H2 hx hs=>k ea od H2 hx (s.trans hs)
def Az:Sp:=λvs H Q _=>∃(z:Str)(n:Int),vs=[.str z,.int n]/\z=("KEY":Str)/\0<=n/\Q (.bl true) H
def AK(T:Txt K mg t w):J9 P w K mg base JT 1 t.xo t.sH [nj,"number"] Az:=by
 let{G,I}:=T.g_MOST_KEYS;refine T.D4.okl AD λs H vs Q E S h _=>?_;intro X;let{z,n,rfl,rfl,O,q}:=h;refine ag (aU (az bX J7 a7<|aC _)
    (av<|aD rF)
    ar)
   (ag (aU (az bX J7 a7<|aC _)
    (av bY)
    ar)
   (aw (aD<|fA CQ JB ak<|aC _) ?_))
 intros
 refine{_,M,M,_,M,bC ∅ ?_};refine{_,M,M,_,M,bC ∅ ?_};refine{_,M,_,_,M,M,?_};rw[Xn O];exact q
def sT(t:JM):Sp:=λvs H Q E=>∃(th z:Str),vs=[.str th,.str z]/\(th=("KEY":Str)\/th=("VALUE":Str))/\z.length<=640/\
 ((acc z=true/\th=("KEY":Str)/\∃n,PySem.intText? z=some n/\0<=n/\∀H',JA H H'->Q (.int n) H')\/(acc z=false/\Rs H t.a8 [] E))
def tF(T:Txt K mg t w):J9 P w K mg base (K9 P w) 6 t.n8 t.ju [nj,so] (sT t):=by
 have Y:=Ke.nd;refine T.vL.okX Ke (λvs H Q E h=>?_)<|λZ A outer s H vs Q E U h=>?_
 .let{th,z,rfl,_}:=h;rfl
 .let{th,z,rfl,ht,zl,q}:=h;refine ag (CA M M (λpn E=>(f7 (aU (az bX J7 a7<|aC _)
   (av bY)
   ar)
   (av<|Ju 2<|nG (hW T) U.mo {_} T.jr T.fI.kp T.jG .nil CM (aa JB af)))) {_} T.iR T.aI {_} T.cb T.am y6 (λea=>(bE T.aY T.kR {_} T.kh (aa a7 af))))
     (ag (aU (fc<|bB<|a4 (AK T) U.mo {_} T.IP T.D4.kp T.Jg .nil aS (aa J7<|aa JG af))
   (av<|bH M bQ<|bE T.aY T.kR {_} T.kh (aa a7 af))
   ar)
     (aw (aD JG) ?_))
  intros
  have nt:¬V.str th=V.str (Str.ofString "TOKEN"):=by
   rcases ht with rfl|rfl<;>decide+kernel
  refine{_,M,M,_,M,bC nt ?_};refine{_,M,.inl {z,M,Qr zl (_),λS n H' I s=>?_,λS ea od H' hx hs=>?_}}
  .rcases q with⟨_,rfl,n',O,n0,q⟩|⟨G,_⟩
   .rw[I]at O;cases O;exact{_,M,_,M,_,n,M,M,n0,_,M,bu {_,M,q H' s}}
   .rw[S]at G;cases G
  .rcases q with⟨G,_⟩|⟨_,q⟩
   .rw[S]at G;cases G
   .refine{ea,t.a6,_,M,hx.1,T.aI,T.iJ,λp np=>{(by show 1<=1000;decide),λe2 I=>?_}};have ne:e2≠ea:=λy=>by rw[y,I0]at I;cases I
    rw[ae ne]at I;have n2:e2≠p:=λy=>by rw[y,I0]at I;cases I
    rw[ae n2]at I;refine{e2,t.a8,none,_,M,ne,I0,(by rw[ae (Ne.symm ne)];exact I0),T.aY,?_};refine q e2 none _ {I0,.inl ⟨M,M⟩} λb o q=>?_;have q:=hs b o q;rw[ae (ai q I)];by_cases y:b=ea
    .subst y;rw[I0,<-hx.1];exact q
    .rw[ae y,ae (ai q I),ae y,ae (ai q np)];exact q
def IS{s x:Str}:Txt.join s [x]=x:=by
 rw[qv];rfl
def qL(K:J4)(t:JM):Sp:=λvs H _ E=>∃(f l:G')(ths zs:Mf),vs=[.ref f,.ref l]/\Kg K H f (ths.map V.str)/\H l=some (.lst<|zs.map V.str)/\
 ((∃x n,ths=[("KEY":Str)]/\zs=[x,("":Str)]/\acc x=true/\x.length<=640/\PySem.intText? x=some n/\0<=n)\/(∃x n,ths=[("KEY":Str),("VALUE":Str)]/\zs=[x]/\acc x=true/\x.length<=640/\PySem.intText? x=some n/\0<=n))/\Rs H t.a8 [] E
def rK(T:Txt K mg t w):J9 P w K mg base (K9 P w) 7 t.lI t.hZ ["form","words"] (qL K t):=by
 let{G,z}:=T.g_WORDS_OF_TOKEN;have a1:=Jz.nd;refine T.t5.okX Jz (λvs H Q E h=>?_)<|λa2 A outer s H vs Q E hr h=>?_
 .let{f,l,I,zs,rfl,_}:=h;rfl
 .let{f,l,I,zs,rfl,hf,hl,hx,q}:=h;refine ag (Ju 2 iO)
    (ag (Ju 3 ak)
    (bZ (λx=>(oV PassesOwn.leaving M (G2 J7) (Lj 4)
     x)) ?_))
  refine ag (Ju 5<|rE (az bX L9 a7<|aC _) (bv (v:= .int 3) {_} z {_,M}) ak)
    (ag (uY (jJ hr) JG L9 (a4 (tF T) hr.mo {_} T.Fu T.vL.kp T.FQ .nil bJ (aa L9<|aa (eu Z6 PySem.F.slot_str_join PySem.F.type_str_join Fg a7<|aa (iM mZ JB (jm K3)<|jm<|bd b9 K3 Lf) af) af)) M)
    (aw (CD (i:=3) Jz.nd M (Or.inl M) Lf Du) ?_))
  intros
  refine ag (aU (az CP K3 (ay aN {_} T.cu bO (aa JB af))<|aC _)
   (av<|bH M bQ<|bE T.aY T.kR {_} T.kh (aa a7 af))
   ar)
     (aw bY ?_)
  intros
  obtain⟨x,n,zr,hw,ax,xl,hn,n0,rfl⟩:∃(x:Str)(n:Int)(zr:Mf),((I=[("KEY":Str)]/\zr=[("":Str)])\/(I=[("KEY":Str),("VALUE":Str)]/\zr=[]))/\acc x=true/\x.length<=640/\PySem.intText? x=some n/\0<=n/\zs=x::zr:=by
   rcases hx with⟨x,n,h1,h2,Z,h4,h5,h6⟩|⟨x,n,h1,h2,Z,h4,h5,h6⟩
   .exact{x,n,_,.inl ⟨h1,M⟩,Z,h4,h5,h6,h2}
   .exact{x,n,_,.inr ⟨h1,M⟩,Z,h4,h5,h6,h2}
  have S:∀H',JA H H'->Kg K H' f (I.map V.str):=λH' s=>hf.elim (λy=> .inl<|y.elim (λy=> .inl<|s _ _ y) λzz=>by let{o,y}:=zz;exact .inr {o,s _ _ y}) .inr;refine λd nd=>{_,M,f,M,{_,S _<|au nd},?_};refine DF (a:=f) (xs:=I.map V.str) (λi W H'=>∃u v kvs,W=[some (.ref f),some (.ref l),some (.ref d),some (.int (i:Int)),u,v]/\JA H H'/\H' d=some (.dK kvs)/\kvs.length<=i/\i<=1) {none,none,[],M,au nd,I0,Q4 _,(_)} (λi W H' _ w=>?_) (λi y W H' hy w=>?_)<|λW H' w=>?_
  .let{u,v,kvs,rfl,s1,_}:=w;exact S _ s1
  .let{u,v,kvs,rfl,s1,hd,kl,i1}:=w;have O:=s1 _ _ hl;obtain rfl|rfl:i=0\/i=1:=()
   .obtain rfl:y= .str ("KEY":Str):=by
     rcases hw with⟨e,_⟩|⟨e,_⟩<;>(rw[e]at hy;exact(Xq hy).symm)
    refine{_,M,M,_,M,bC ∅ ?_};refine{_,M,M,_,M,_,M,_,M,_,M,_,M,_,_,M,M,_,M,l,_,M,JC.of O,λr U=>?_};have e1:lu ((x::zr).map V.str) (some ((0:Nat):Int)) (some<|((0:Nat):Int)+1)=[x].map V.str:=by
     unfold lu HT.sIx;simp
    have ej:Txt.join (Str.ofString " ") [x]=x:=IS;have a0:upd H' r (.lst<|lu ((x::zr).map V.str) (some ((0:Nat):Int))<|some<|((0:Nat):Int)+1) d=some (.dK kvs):=au U _ _ hd;refine{_,r,[x],M,M,JC.of (by rw[I0,e1]),∅,by simp;lia,?_};rw[ej];refine{_,x,M,.inl M,xl,.inl {ax,M,n,hn,n0,λH2 s2=>?_}};obtain rfl:kvs=[]:=QJ.mp ();refine{_,M,_,M,d,_,M,L4.k (k:=Sum.inr _) (s2 _ _ a0)<|bn (_),?_};exact{_,M,_,M,_,_,M,M,some<|.str "KEY",some<|.int 1,[(Sum.inr ("KEY":Str),.int n)],M,iK ((s1.trans<|au U).trans s2) nd,I0,Q4 _,(_)}
   .obtain⟨rfl,Y⟩:y= .str ("VALUE":Str)/\zr=[]:=by
     rcases hw with⟨e,e'⟩|⟨e,e'⟩<;>rw[e]at hy
     .cases hy
     .exact{(Xq hy).symm,e'}
    refine{_,M,M,_,M,bC ∅ ?_};refine{_,M,M,_,M,_,M,_,M,_,M,_,M,_,_,M,M,_,M,l,_,M,JC.of O,λr U=>?_};have e1:lu ((x::zr).map V.str) (some ((1:Nat):Int)) (some<|((1:Nat):Int)+1)=([]:Mf).map V.str:=by
     rw[Y];unfold lu HT.sIx;simp
    refine{_,r,[],M,M,JC.of (by rw[I0,e1]),∅,(_),?_};refine{_,_,M,.inr M,∅,.inr {∅,Rs.on (C:=t.a8) (fs:=[]) q<|s1.trans (au U)}}
  .let{u,v,kvs,rfl,s1,hd,kl,i1}:=w;have O:=s1 _ _ hl;rcases hw with⟨et,Y⟩|⟨et,Y⟩<;>rw[et]at i1⊢<;>rw[Y]at O
   .refine{_,M,_,M,l,_,M,.inl<|JC.of O,M,_,M,zJ (λy=>?_) ?_}
    .have:=V.int.inj y;simp at this
    .exact iL (D:={λ_ _=>True,λ_ _=>True,λ_ _=>True,λ_ _=>True}) T.aY<|Rs.on (C:=t.a8) (fs:=[]) q s1
   .exact Xp i1 (_)
def RowN(z:Str):Prop:=∃(x:Str)(n:Int),(z=("get ":Str)++x++(" ":Str)\/z=("put ":Str)++x)/\acc x=true/\x.length<=100/\PySem.intText? x=some n/\0<=n/\32∉sg x
def EU(x:Str):("get ":Str)++x++(" ":Str)=Txt.join (" ":Str) [("get":Str),x,("":Str)]:=by
 rw[qv];have e:("get ":Str)=("get":Str)++(" ":Str):=by decide+kernel
 rw[e];show({({({("get":Str).cps++(" ":Str).cps}:Str).cps++x.cps}:Str).cps++(" ":Str).cps}:Str)={({("get":Str).cps++(" ":Str).cps}:Str).cps++({({x.cps++(" ":Str).cps}:Str).cps++(#[]:Array Nat)}:Str).cps};rw[Array.append_empty,ZZ]
def ET(x:Str):("put ":Str)++x=Txt.join (" ":Str) [("put":Str),x]:=by
 rw[qv];have e:("put ":Str)=("put":Str)++(" ":Str):=by decide+kernel
 rw[e];rfl
def sU(t:JM):Sp:=λvs H _ E=>∃(z:Str),vs=[.str z]/\RowN z/\Rs H t.a8 [] E
def tG(T:Txt K mg t w):J9 P w K mg base (K9 P w) 8 t.n9 t.jv ["row"] (sU t):=by
 have a0:=Kd.nd;refine T.vM.okX Kd (λvs H Q E h=>?_)<|λa1 A outer s H vs Q E hr h=>?_
 .let{z,rfl,_}:=h;rfl
 .let{z,rfl,hz,q}:=h;refine ag (aU (fc<|bB<|ay cH {_} T.aO aF (aa J7<|aa (gI (v:= .ty ub) {_} T.qB ku M) af))
   (av<|bH M bQ<|bE T.aY T.kR {_} T.kh (aa a7 af))
   ar)
     (ag (Ju 1<|eu Z6 PySem.F.slot_str_split PySem.F.type_str_split wA J7<|aa a7 af)
     (ag (Ju 2<|bI bp JB ak<|λ_ _=>M)
     (ag (aU (rB<|AH {_} T.Db T.Dr JG)
   (av<|bH M bQ<|bE T.aY T.kR {_} T.kh (aa a7 af))
   ar)
     (ag (Ju 3<|a4 (rK T) hr.mo {_} T.Ef T.t5.kp T.Ek .nil bJ (aa (E9 {_} T.Db T.Dr JG (λ_ _=>M))<|aa (iM mZ JB (jm ak) nC) af))
     (ag bY
     (aw bY ?_))))))
  intros
  let{x,n,hz,U,xl,Y,Z,hx}:=hz;let{fa,k1,k2}:=T.kt_FORMS_get;let{fb,k3,k4}:=T.kt_FORMS_put;have zl:z.length<=200:=by
   have h1:("get ":Str).length=4:=by decide+kernel
   have h2:("put ":Str).length=4:=by decide+kernel
   have h3:(" ":Str).length=1:=by decide+kernel
   rcases hz with rfl|rfl
   .rw[Str.length_append,Str.length_append];lia
   .rw[Str.length_append];lia
  refine{_,M,_,_,_,_,M,JP.str _,vm.1,true,M,bu ?_};refine{_,M,M,_,_,M,M,∅,(),λl nl=>?_};rw[show(Str.ofString " ")=(" ":Str) from rfl];obtain⟨I,zr,G,O,es,kd,sq,hw⟩:∃(I:Str)(zr G:Mf)(O:G'),Txt.split z (" ":Str)=I::zr/\Li t.vc I=some (.ref O)/\(∀H,Kg K H O (G.map V.str))/\((G=[("KEY":Str)]/\zr=[x,("":Str)])\/(G=[("KEY":Str),("VALUE":Str)]/\zr=[x])):=by
   have g1:32∉sg ("get":Str):=by decide+kernel
   have g2:32∉sg ("put":Str):=by decide+kernel
   have g3:32∉sg ("":Str):=by decide+kernel
   rcases hz with rfl|rfl
   .refine{("get":Str),[x,("":Str)],[("KEY":Str)],fa,?_,k1,k2,.inl ⟨M,M⟩};rw[EU,GR];refine l4 (by simp) λy hy=>?_;simp at hy;rcases hy with rfl|rfl|rfl<;>assumption
   .refine{("put":Str),[x],[("KEY":Str),("VALUE":Str)],fb,?_,k3,k4,.inr ⟨M,M⟩};rw[ET,GR];refine l4 (by simp) λy hy=>?_;simp at hy;rcases hy with rfl|rfl<;>assumption
  rw[es];have s1:=au (o:= .lst<|(I::zr).map V.str) nl;have S:upd H l (.lst<|(I::zr).map V.str) l=some (.lst<|(I::zr).map V.str):=I0;generalize upd H l (.lst<|(I::zr).map V.str)=H1 at s1 S⊢;refine{_,M,l,_,_,_,M,M,JC.of S,qy (j:=0) (v:= .str I) M,?_};refine{_,M,_,M,_,M,?_};rw[kd];refine bu ?_;refine{_,M,_,_,M,kd,_,M,_,M,l,_,M,JC.of S,λr nr=>?_};refine{O,r,G,zr,M,sq _,I0.trans ?_,?_,Rs.on (C:=t.a8) (fs:=[]) q<|s1.trans (au nr)}
  .unfold lu HT.sIx;simp;exact Qw<|by simp
  .rcases hw with⟨h1,h2⟩|⟨h1,h2⟩
   .exact .inl {x,n,h1,h2,U,(),Y,Z}
   .exact .inr {x,n,h1,h2,U,(),Y,Z}
def kP{x:G'}{G:Mi}(nx:H x=none)(S:H dx=none)(f:Fr G F (upd (upd H dx<|.own x) x<|.ins C dx []) H1)(U:∀b,G b->b=x\/b=dx):Fr (λ_=>False) F H H1:=λb o _ e=>by
 have I:=ai e nx;have O:=ai e S;exact f b o (λz=>(U b z).elim I O)<|by rwa[ae I,ae O]
def Fr.sm(f:Fr (λ_=>False) F H H'):JA H H':=λb o e=>(f b o id e).1
def tw(t:JM):Sp:=λvs H Q _=>∃(a dx:G'),vs=[.ref a]/\H a=some (.ins t.iB dx [])/\∀H' fs,H' a=some (.ins t.iB dx fs)->fs.lookup ("say":Str)=none->(∀b o,b≠a->H b=some o->H' b=some o)->Q .non H'
def tO(T:Txt K mg t w):J9 P w K mg base JT 6 t.oy t.jD [cj] (tw t):=by
 refine T.Gd.okl tE λs H vs Q E O h _=>?_;intro X;let{a,dx,rfl,ha,q}:=h;refine ag (bK J7 (cf T.rZ (gc T) O.mo {_} T.sf T.iC .nil aS) M)
   (aw (bK J7 bR M) ?_)
 intros
 refine λx z nx S ne=>{x,z,M,I0,λH1 F A f=>{M,?_}};have I:=kP nx S f λb h=> .inl h;have G:=(I _ _ id ha).1;refine{_,M,a,_,dx,[],M,G,T.vA,T.Eb,lq (by kernel_rfl),cT λH2 h2 U=>?_};refine{_,M,a,_,dx,_,M,h2,T.vA,T.C5,lq (by kernel_rfl),cT λH3 Y Z=>?_};exact q H3 _ Y (by kernel_rfl) λb o n e=>by rw[Z b n,U b n];exact(I b o id e).1
def uR(t:JM):Sp:=λvs H _ E=>∃(d:G')(z:Str),vs=[.ref d,.str z]/\RowN z/\Rs H t.a8 [] E
def vd(T:Txt K mg t w):J9 P w K mg base (K9 P w) 9 t.pL t.kt [cj,"row"] (uR t):=by
 have G:=Ki.nd;refine T.GC.okX Ki (λvs H Q E h=>?_)<|λI A outer s H vs Q E O h=>?_
 .let{d,z,rfl,_}:=h;rfl
 .let{d,z,rfl,hz,q}:=h;refine ag (Ju 2<|a4 (tG T) O.mo {_} T.Fv T.vM.kp T.FR .nil bJ (aa JB af))
    (ag bY
    (ag bY
    (ag bY
    (aw bY ?_))))
  intros
  exact{_,M,z,M,hz,q}
def CY{kd:Str}{ok:V->V->Prop}{a e:V}(G:Sc a)(I:Sc e)(O:¬ok a e)(k:Rs H N [] E)(x dx:G')(nx:H x=none)(S:H dx=none)(ne:dx≠x):
  uc C N kd ok [.ref x,a,e] (upd (upd H dx<|.own x) x<|.ins C dx []) Q E:=by
 exact{x,dx,a,e,M,I0,G,I,λz=>Xp z O,λ_ ea od H' h1 h2=>k ea od H' h1<|kO nx S h2}
set_option exponentiation.threshold 2000 in
def oF{i:Int}(G:0<=i)(h1:i<10^40):i.natAbs.log2<1920:=by
 rcases Zk i.natAbs with z|z
 .rw[z];decide
 .refine(Nat.log2_lt<|X3 z).mpr ?_;have:i.natAbs<10^40:=();exact Nat.lt_trans this<|Qj (show 10^40<2^200 by decide) (Nat.pow_le_pow_right (_) (_))
def F3{x:Str}(h:acc x=true):1<=x.length:=by
 unfold acc sN at h;rw[Qp,Qp,Qp,Qp]at h;have h1:=Xw h.1.1.1.1;have:=zN x;lia
def yU{x:Str}(h:1<=x.length):acc (("0":Str)++x)=false:=by
 have e:sg (("0":Str)++x)=48::sg x:=by
  show(("0":Str).cps++x.cps).toList=_;rw[LZ,Array.toList_append];rfl
 have l0:("0":Str).length=1:=by decide+kernel
 have b:LQ (("0":Str)++x)=false:=by
  unfold LQ;rw[e];rfl
 have n:("0":Str)++x≠("0":Str):=λz=>by
  have:=XB Str.length z;rw[Str.length_append]at this;lia
 unfold acc sN;rw[show Ku (("0":Str)++x)=("0":Str)++x by unfold Ku;rw[b];rfl,e,Xn n];simp
def oM(t:JM):Sp:=λvs H _ E=>∃(way key:Int)(ot:Bool),vs=[.int way,.bl ot,.int key]/\0<=key/\key<10^39/\((way=0/\Rs H t.aJ [] E)\/(way=1/\Rs H t.a6 [] E)\/(way=2/\Rs H t.a8 [] E))
def oY(T:Txt K mg t w):J9 P w K mg base (K9 P w) 10 t.jM t.fj [ge,ff,fx] (oM t):=by
 have a0:=K7.nd;refine T.qk.okX K7 (λvs H Q E h=>?_)<|λa1 A outer s H vs Q E z h=>?_
 .let{way,key,O,rfl,_}:=h;rfl
 .let{way,key,O,rfl,k0,k1,q}:=h;refine ag (aU (PW.pt<|c6 (az bX J7 ak<|aC _)<|cv<|bB JB)
   (av<|aD<|cJ T.wE (eS T) z.mo {_} T.ul T.kA.choose_spec.1 T.kA.choose_spec.2 bJ (aa rF af))
   ar)
     (bZ (λx=>aU (az bX J7 ak<|aC _) x ar) ?_)
  refine aw (aD<|cJ T.r6 (eF T) z.mo {_} T.mE T.jL .nil bJ (aa (bd b9 (bd hV JG ak) ak)<|aa (bd hV JG ak) af)) ?_
  intros
  refine ag (aU (PW.pt<|c6 (az bX J7 ak<|aC _)<|cv<|bB JB)
   (av<|aD<|a4 (hW T).dn z.mo {_} T.jr T.fI.kp T.jG .nil bJ (aa JG af))
   ar)
     (bZ (λx=>aU (az bX J7 ak<|aC _) x ar) ?_)
  refine aw (aD<|a4 (hW T).dn z.mo {_} T.jr T.fI.kp T.jG .nil bJ (aa (bd c7 a7<|dt dY {_} T.qB ku (aa JG af)) af)) ?_
  intros
  refine bZ (λx=>aU (bB JB) x ar) ?_;refine aw (aD<|bg (cf T.Fj (tO T) z.mo {_} T.Fk T.vI .nil aS) T.vA T.wK (vd T) z.mo T.xk .nil bJ<|aa (bd c7 (bd c7 a7<|dt dY {_} T.qB ku (aa JG af)) a7) af) ?_
  intros
  refine aw (aD<|bg (cf T.Fj (tO T) z.mo {_} T.Fk T.vI .nil aS) T.vA T.wK (vd T) z.mo T.xk .nil bJ<|aa (bd c7 a7<|dt dY {_} T.qB ku (aa JG af)) af) ?_
  intros
  have I:∀{x y:Int}{A B:Prop},x≠y->B->if decide (V.int x=V.int y)=true then A else B:=λh b=>bC (Hq h) b
  let{S,w2,w3,w4,w5}:=Gf k0 k1;have U:key.natAbs.log2<1920:=oF k0 ();rcases q with⟨rfl,q⟩|⟨rfl,q⟩|⟨rfl,q⟩
  .cases O with
   |true=>
    refine{_,M,M,_,M,cn M {_,M,_,M,bL ?_}};refine λx dx nx G ne=>CY Iy yh (λh=>?_) q x dx nx G ne;let{a,Y,_}:=h;cases Y
   |false=>
    refine{_,M,M,_,M,cn M {_,M,_,M,bu ?_}};refine{_,M,M,_,M,cn M ?_};refine{_,M,_,_,M,M,(by show(0:Int)<65536;decide),_,_,M,M,_,M,_,_,M,M,(by show(0:Int)<65536;decide),λx dx nx G ne=>CY (T0 _) (T0 _) (λ⟨a,b,Y,e2,_,h,_⟩=>?_) q x dx nx G ne};cases Y;cases e2;lia
  .refine{_,M,M,_,M,I (_) ?_};refine{_,M,M,_,M,I (_) ?_};cases O with
   |true=>
    refine{_,M,M,_,M,cn M {_,M,_,M,bL ?_}};exact{_,M,.inr {_,_,M,JP.int _,vm.2.1,q}}
   |false=>
    refine{_,M,M,_,M,cn M {_,M,_,M,bu ?_}};refine{_,M,M,_,M,cn M ?_};have l0:("0":Str).length=1:=by decide+kernel
    refine{_,M,key,M,U,_,_,M,M,Qx<|bn (by show("0":Str).length+(wr<|.int key).length<=1000;lia),?_};refine .inl {_,M,?_,λac=>?_,λ_=>q}
    .show(("0":Str)++wr (.int key)).length<=100000;rw[Str.length_append];lia
    .have:=yU (x:=wr<|.int key) (F3 S);rw[show(Str.ofString "0"++Str.ofString (toString key))=("0":Str)++wr (.int key) from rfl,this]at ac;cases ac
  .refine{_,M,M,_,M,I (_) ?_};refine{_,M,M,_,M,I (_) ?_};refine{_,M,M,_,M,I (_) ?_};refine{_,M,M,_,M,I (_) ?_};cases O with
   |true=>
    refine{_,M,_,M,bL ?_};refine λx dx nx G ne=>{x,dx,M,I0,λH1 fs h1 Z o1=>{M,?_}};have s1:JA H H1:=λb o e=>o1 b o (ai e nx) (by rwa[ae (ai e nx),ae (ai e G)]);have l0:("get ":Str).length=4:=by decide+kernel
    have l1:(" ":Str).length=1:=by decide+kernel
    refine{x,dx,fs,M,h1,Z,_,M,key,M,U,_,_,M,M,?_,_,_,M,M,?_,?_}
    .exact Qx<|bn (by show("get ":Str).length+(wr<|.int key).length<=1000;lia)
    .refine Qx<|bn ?_;show(("get ":Str)++wr (.int key)).length+(" ":Str).length<=1000;rw[Str.length_append];lia
    .exact{x,_,M,{wr<|.int key,key,.inl M,S,(),w2,k0,w4},Rs.on (C:=t.a8) (fs:=[]) q s1}
   |false=>
    refine{_,M,_,M,bu ?_};refine λx dx nx G ne=>{x,dx,M,I0,λH1 fs h1 Z o1=>{M,?_}};have s1:JA H H1:=λb o e=>o1 b o (ai e nx) (by rwa[ae (ai e nx),ae (ai e G)]);have l0:("put ":Str).length=4:=by decide+kernel
    refine{x,dx,fs,M,h1,Z,_,M,key,M,U,_,_,M,M,?_,?_}
    .exact Qx<|bn (by show("put ":Str).length+(wr<|.int key).length<=1000;lia)
    .exact{x,_,M,{wr<|.int key,key,.inr M,S,(),w2,k0,w4},Rs.on (C:=t.a8) (fs:=[]) q s1}
def pT(t:JM):Sp:=λvs H _ E=>∃(way key:Int)(ot:Bool),vs=[.int way,.bl ot,.int key]/\0<=key/\key<10^39/\((way=3/\Rs H t.bb [] E)\/(way=4/\Rs H t.aG [] E)\/(way=5/\Rs H t.bj [(ew,.int key)] E)\/(way=6/\Rs H t.bq [(ew,.int key)] E))
def qa(T:Txt K mg t w):J9 P w K mg base (K9 P w) 6 t.kC t.gh [ge,ff,fx] (pT t):=by
 have a5:=KC.nd;refine T.sQ.okX KC (λvs H Q E h=>?_)<|λa6 A outer s H vs Q E I h=>?_
 .let{way,key,ot,rfl,_}:=h;rfl
 .let{way,key,ot,rfl,k0,k1,q}:=h;refine ag (Ju 3<|cf T.AU (fg T) I.mo {_} T.AX T.sM .nil aS)
    (bZ (λx=>aU (PW.pt<|c6 (az bX J7 ak<|aC _)<|cv<|bB JB) x ar) ?_)
  refine aw (aD<|a4 (CS T) I.mo {_} T.Fw T.Ag.kp T.FS .nil bJ (aa (cJ T.zx (lB T) I.mo {_} T.zy T.iD.choose_spec.1 T.iD.choose_spec.2 bJ (aa JG af))<|aa (bd b9 ak<|bd hV JG ak) af)) ?_
  intros
  refine bZ (λx=>aU (az bX J7 ak<|aC _) x ar) ?_;refine aw (aD<|a4 (CS T) I.mo {_} T.Fw T.Ag.kp T.FS .nil bJ (aa (cJ T.wE (eS T) I.mo {_} T.ul T.kA.choose_spec.1 T.kA.choose_spec.2 bJ (aa JG af))<|aa (bd b9 ak<|bd hV JG ak) af)) ?_
  intros
  refine bZ (λx=>aU (PW.pt<|c6 (az bX J7 ak<|aC _)<|cv<|bB JB) x ar) ?_;refine aw (aD<|f8 (cJ T.AV (qg T) I.mo {_} T.AY T.fm.choose_spec.1 T.fm.choose_spec.2 aS (aa (cf T.rZ (gc T) I.mo {_} T.sf T.iC .nil aS)<|aa (cJ T.wE (eS T) I.mo {_} T.ul T.sL .nil bJ (aa ak<|aa JG af)) af)) T.cN T.wL (jU T) I.mo T.xm .nil bJ) ?_
  intros
  refine bZ (λx=>aU (az bX J7 ak<|aC _) x ar) ?_;refine aw (aD<|f8 (cJ T.AV (qg T) I.mo {_} T.AY T.fm.choose_spec.1 T.fm.choose_spec.2 aS (aa (cf T.rZ (gc T) I.mo {_} T.sf T.iC .nil aS)<|aa (cJ T.zx (lB T) I.mo {_} T.zy T.iD.choose_spec.1 T.iD.choose_spec.2 bJ (aa JG af)) af)) T.cN T.xD (kb T) I.mo T.kB.choose_spec.1 T.kB.choose_spec.2 bJ) ?_
  intros
  refine ag (aU (PW.pt<|c6 (az bX J7 ak<|aC _)<|cv<|bB JB)
   (av<|aD<|bg K3 T.aP T.zA (mD T) I.mo T.zY .nil bJ<|aa JG af)
   ar)
     (bZ (λx=>aU (az bX J7 ak<|aC _) x ar) ?_)
  refine aw (aD<|bg (cf T.C9 (j7 T) I.mo {_} T.Da T.tX .nil aS) T.aQ T.Fp (tL T) I.mo T.FX .nil bJ<|aa JG af) ?_
  intros
  refine ag (bc<|bg K3 T.aP T.lD (gb T) I.mo T.lH .nil bJ<|aa JG af)
    (aw (aD<|bg K3 T.aP T.lD (gb T) I.mo T.lH .nil bJ<|aa JG af) ?_)
  intros
  have no:∀{x y:Int}{A B:Prop},x≠y->B->if decide (V.int x=V.int y)=true then A else B:=λh b=>bC (Hq h) b
  refine λx dx nx nd ne=>{x,dx,M,I0,by rw[ae ne];exact I0,λH1 F A f=>{M,?_}};have f0:=kP nx nd f λb h=>h;have s0:=f0.sm;have m1:1<=1+key%60:=by have:=Z8 key (show(60:Int)≠0 by decide);lia
  have m2:1+key%60<=60:=by have:=Zl key (show(0:Int)<60 by decide);lia
  rcases q with⟨rfl,q⟩|⟨rfl,q⟩|⟨rfl,q⟩|⟨rfl,q⟩
  .cases ot with
   |true=>
    refine{_,M,M,_,M,cn M {_,M,_,M,bL ?_}};refine{_,M,λy O Z G S=>jp (ok:=Lx) {0,M,QT _,.inr ⟨key,M,k0⟩} (T0 _) (T0 _) y O Z G λH2 fs s2 h2 tf=>{M,?_}};refine{_,M,_,_,M,M,(by show(0:Int)<60;decide),_,_,M,M,?_};exact{y,2,_,_,_,M,⟨O,fs,h2,tf⟩,.inr<|.inr {M,0,M,QT _,.inr ⟨key,M,k0⟩},m1,m2,.inr {.inl M,Rs.on (C:=t.bb) (fs:=[]) q<|s0.trans s2}}
   |false=>
    refine{_,M,M,_,M,cn M {_,M,_,M,bu ?_}};refine{_,M,M,_,M,cn M ?_};refine{_,M,λy O Z G S=>jp (ok:=Le) {key,M,k0,.inl M} (T0 _) yh y O Z G λH2 fs s2 h2 tf=>{M,?_}};refine{_,M,_,_,M,M,(by show(0:Int)<60;decide),_,_,M,M,?_};exact{y,1,_,_,_,M,⟨O,fs,h2,tf⟩,.inr<|.inl {M,key,M,k0,.inl M},m1,m2,.inr {.inr M,Rs.on (C:=t.bb) (fs:=[]) q<|s0.trans s2}}
  .refine{_,M,M,_,M,no (_) ?_};refine{_,M,M,_,M,no (_) ?_};cases ot with
   |true=>
    refine{_,M,M,_,M,cn M {_,M,_,M,bL ?_}};refine λh dh nh a0 a3=>{h,dh,M,I0,λH2 F2 Y f2=>{M,?_}};have s2:=(kP nh a0 f2 λb h=> .inl h).sm;refine{_,M,λy O Z G S=>jp (ok:=Le) {0,M,QT _,.inr ⟨key,M,k0⟩} (T0 _) (T0 _) y O Z G λH3 fs s3 h3 tf=>{M,?_}};refine λc dc nc U a1=>{c,dc,h,y,F2,_,M,I0,(Y.same s3).same<|(au U).trans<|au (by rwa[ae (Ne.symm a1)]),λH5 CN k5=>{M,?_}};have s5:JA H3 H5:=λb o e=>k5 b o (ai e nc) (by rwa[ae (ai e nc),ae (ai e U)]);let{a2,a',p',n',dd',hc}:=id CN;exact{c,a2,_,M,hc,(by kernel_rfl),c,[],M,M,CN,Rs.on (C:=t.aG) (fs:=[]) q<|((s0.trans s2).trans s3).trans s5}
   |false=>
    refine{_,M,M,_,M,cn M {_,M,_,M,bu ?_}};refine{_,M,M,_,M,cn M ?_};refine λh dh nh a0 a3=>{h,dh,M,I0,λH2 F2 Y f2=>{M,?_}};have s2:=(kP nh a0 f2 λb h=> .inl h).sm;refine{_,M,λy O Z G S=>jp (ok:=Lx) {0,M,QT _,.inr ⟨key,M,k0⟩} (T0 _) (T0 _) y O Z G λH3 fs s3 h3 tf=>{M,?_}};refine λc dc nc U a1=>{c,dc,h,y,F2,_,M,I0,(Y.same s3).same<|(au U).trans<|au (by rwa[ae (Ne.symm a1)]),λH5 CN k5=>{M,?_}};have s5:JA H3 H5:=λb o e=>k5 b o (ai e nc) (by rwa[ae (ai e nc),ae (ai e U)]);let{a2,a',p',n',dd',hc}:=id CN;exact{c,a2,_,M,hc,(by kernel_rfl),c,[.int 10],M,M,CN,Rs.on (C:=t.aG) (fs:=[]) q<|((s0.trans s2).trans s3).trans s5}
  .iterate 4 refine{_,M,M,_,M,no (_) ?_}
   cases ot with
   |true=>
    refine{_,M,M,_,M,cn M {_,M,_,M,bL ?_}};let{d1,g1,h1,n1}:=A.ins;exact{_,M,x,d1,g1,M,h1,n1 _ ∅,_,M,x,key,F,[],M,A,(_),λz=>Xp z Xa,λ_ ea od H' F' hx _ f'=>q ea od H' hx (f0.trans f').sm}
   |false=>
    refine{_,M,M,_,M,cn M {_,M,_,M,bu ?_}};refine{_,M,M,_,M,cn M ?_};refine λy O Z G S=>{y,O,M,I0,by rw[ae S];exact I0,λH2 F2 Y f2=>{M,?_}};have f3:=kP Z G f2 λb h=>h;let{d1,g1,h1,n1}:=Y.ins;exact{y,d1,g1,M,h1,n1 _ ∅,_,M,y,key,F2,_,M,Y,k0,(λv z=>by cases z),λ_ ea od H' F' hx _ f'=>q ea od H' hx<|s0.trans (f3.trans f').sm}
  .iterate 6 refine{_,M,M,_,M,no (_) ?_}
   let{d1,g1,h1,n1}:=A.ins;refine{_,M,x,d1,g1,M,h1,n1 _ ∅,_,M,x,key,F,[],M,A,(_),λ_ H2 F2 ks' Y hk f2=>?_,λz=>Xp z Xa};let{d2,g2,h2,n2}:=Y.ins;have ik:key∈ks':=(hk key).mpr (.inl M);have ek:ks'=[key]:=wm Y.rise (Zo _ _) λz=>by rw[hk z];simp
   exact{_,M,x,d2,g2,M,h2,n2 _ ∅,_,M,x,key,F2,ks',M,Y,(by rw[ek];show 1<4096;decide),λz=>Xp ik z,λ_ ea od H' F' hx _ f'=>q ea od H' hx ((f0.trans f2).trans f').sm}
noncomputable def momN(ot:Bool)(many:Int):Int:=if ot=true then many else many+1
def l7(t:JM):Sp:=λvs H _ E=>∃(way key many:Int)(ot:Bool),vs=[.int way,.bl ot,.int key,.int many]/\0<=key/\key<10^39/\1<=many/\many<=9/\((way=7/\Rs H t.a5 [(cs,.int (many-1))] E)\/(way=8/\Rs H t.aL [(cs,.int (momN ot many))] E))
def mB(T:Txt K mg t w):J9 P w K mg base (K9 P w) 6 t.gO t.dN [ge,ff,fx,i2] (l7 t):=by
 have a1:=Jw.nd;refine T.oC.okX Jw (λvs H Q E h=>?_)<|λa2 A outer s H vs Q E G h=>?_
 .let{way,key,many,ot,rfl,_}:=h;rfl
 .let{way,key,many,ot,rfl,k0,k1,m0,m1,q}:=h;refine ag (Ju 4<|cf T.rZ (gc T) G.mo {_} T.sf T.iC .nil aS)
    (ag (oV PassesOwn.leaving M (fK {_} T.mJ (aa K3 af)) (Lj 5)
   (av<|bc<|bg L9 T.aK T.Fq (tN T) G.mo T.FY .nil bJ<|aa (bd b9 JG Lf)<|aa Lf af))
     (bZ (λx=>aU (az bX J7 ak<|aC _) x ar) ?_))
  refine ag (bc<|f8 L9 T.aK T.Df (qe T) G.mo T.DV .nil aS)
    (bZ (λx=>aU (bB JB) x ar) ?_)
  refine aw (aD<|bg L9 T.aK T.AZ (nK T) G.mo T.nY.choose_spec.1 T.nY.choose_spec.2 bJ<|aa (bd mt K3 ak)<|aa (cf T.wE (eS T) G.mo {_} T.ul T.xn.choose_spec.1 T.xn.choose_spec.2 bJ) af) ?_
  intros
  refine aw (aD<|bg L9 T.aK T.vg (tM T) G.mo T.vH .nil bJ<|aa JG<|aa (bd mt K3 ak) af) ?_
  intros
  refine ag (aU (bB JB)
   (av<|aD<|bg L9 T.aK T.BM (oZ T) G.mo T.BQ .nil bJ<|aa K3 af)
   ar)
     (aw (aD<|bg L9 T.aK T.vg (tM T) G.mo T.vH .nil bJ<|aa JG<|aa (bd b9 K3 ak) af) ?_)
  intros
  refine λa dx nx nd ne=>{a,dx,M,I0,λH1 F A f=>{M,?_}};have f0:=kP nx nd f λb h=> .inl h;refine{_,M,many,M,(),(),sF (n:=many.toNat) (lo:=0) (λi W H'=>∃(F':Mi)(x:KQ)(v:Option V),W=[some (.int way),some (.bl ot),some (.int key),some (.int many),some (.ref a),v]/\Kh K t H' a F' x/\x.now=(i:Int)/\x.ma=0/\x.ho=[]/\x.fl=0/\Fr (λ_=>False) F' H H') {F,_,none,M,A,M,M,M,M,f0} (λi W H' hi w=>?_)<|λW H' w=>?_}
  .let{F',x,v,rfl,I,e1,e2,S,e4,U}:=w;let{d1,Y,h1,Z,_}:=I.ins;refine{_,M,a,d1,Y,M,h1,Z _ ∅,_,M,_,M,_,_,M,M,_,M,a,_,_,F',x,M,I,(),(),λH2 F2 ks' r q' pa' A2 _ f2=>?_};exact{F2,_,_,M,A2,by show x.now+1=_;lia,e2,S,e4,U.trans f2}
  .let{F',x,v,rfl,I,e1,e2,S,e4,U}:=w;let{d1,Y,h1,Z,_}:=I.ins;have en:x.now=many:=();rcases q with⟨rfl,q⟩|⟨rfl,q⟩
   .refine{_,M,M,_,M,cn M ?_};refine{_,M,a,d1,Y,M,h1,Z _ ∅,a,F',x,M,I,by rw[S];decide,(),λH2 F2 fl pa' c1 _ _ _ A2 f2=>?_};have a3:fl=many:=(c1 S).trans en;have f3:=U.trans f2;let{d2,g2,h2,n2,_}:=A2.ins;cases ot with
    |true=>
     refine{_,M,_,M,bL ?_};refine{_,M,a,d2,g2,M,h2,n2 _ ∅,_,M,_,_,M,M,λy dy ny a0 a5=>jp (ok:=Le) {0,M,QT _,.inl M} (T0 _) yh y dy ny a0 λH3 fs s3 h3 tf=>{M,?_}};exact{a,many-1,.ref y,.int 10,F2,_,M,A2.same s3,by show many-1<fl;lia,λea od H' F4 hx _ O=>q ea od H' hx ((f3.trans<|Fr.of_same s3).trans O).sm}
    |false=>
     refine{_,M,_,M,bu ?_};exact{_,M,a,d2,g2,M,h2,n2 _ ∅,_,M,_,M,_,_,M,M,a,key,many-1,F2,_,M,A2,(λz=>by have z:fl<=many-1:=z;lia),(λ_ ea od H' F4 hx _ O=>q ea od H' hx (f3.trans O).sm),λz=>by have z:fl<=many-1:=z;lia}
   .refine{_,M,M,_,M,bC (Hq (_)) ?_};cases ot with
    |true=>
     refine{_,M,_,M,bL ?_};exact{_,M,a,d1,Y,M,h1,Z _ ∅,_,M,a,many,F',x,M,I,by rw[S];decide,(λz=>by rw[S]at z;cases z),λ_ ea od H' F4 hx _ O=>q ea od H' hx (U.trans O).sm}
    |false=>
     refine{_,M,_,M,bu ?_};exact{_,M,a,d1,Y,M,h1,Z _ ∅,_,M,_,M,_,_,M,M,a,key,many+1,F',x,M,I,(λ_ z=>()),(λz=>()),λ_ _ ea od H' F4 hx _ O=>q ea od H' hx (U.trans O).sm}
inductive Due(t:JM)(ot:Bool)(key many:Int):Int->Addr->List (Str×V)->Prop
 |d0:Due t ot key many 0 t.aJ []
 |d1:Due t ot key many 1 t.a6 []
 |d2:Due t ot key many 2 t.a8 []
 |d3:Due t ot key many 3 t.bb []
 |d4:Due t ot key many 4 t.aG []
 |d5:Due t ot key many 5 t.bj [(ew,.int key)]
 |d6:Due t ot key many 6 t.bq [(ew,.int key)]
 |d7:Due t ot key many 7 t.a5 [(cs,.int (many-1))]
 |d8:Due t ot key many 8 t.aL [(cs,.int (momN ot many))]
def qN(t:JM):Sp:=λvs H _ E=>∃(way key many:Int)(ot:Bool)(C:G')(fs:Mo),vs=[.int way,.bl ot,.int key,.int many]/\0<=key/\key<10^39/\1<=many/\many<=9/\Due t ot key many way C fs/\Rs H C fs E
def rM(T:Txt K mg t w):J9 P w K mg base (K9 P w) 11 t.lK t.ie [ge,ff,fx,i2] (qN t):=by
 have S:=KO.nd;refine T.t7.okX KO (λvs H Q E h=>?_)<|λU A outer s H vs Q E G h=>?_
 .let{way,key,many,z,C,fs,rfl,_}:=h;rfl
 .let{way,key,many,z,C,fs,rfl,k0,k1,I,O,d,q}:=h;refine bZ (λx=>aU (az jI J7 ak<|aC _) x ar) ?_;refine aw (aD<|a4 (oY T) G.mo {_} T.BN T.qk.kp T.BP .nil bJ (@ba _ _ _ _ _ J7 (@ba _ _ _ _ _ JB (@ba _ _ _ _ _ JG af M) M) M)) ?_
  intros
  refine bZ (λx=>aU (az jI J7 ak<|aC _) x ar) ?_;refine aw (aD<|a4 (qa T) G.mo {_} T.Di T.sQ.kp T.DS .nil bJ (@ba _ _ _ _ _ J7 (@ba _ _ _ _ _ JB (@ba _ _ _ _ _ JG af M) M) M)) ?_
  intros
  refine aw (aD<|a4 (mB T) G.mo {_} T.zC T.oC.kp T.zW .nil bJ (@ba _ _ _ _ _ J7 (@ba _ _ _ _ _ JB (@ba _ _ _ _ _ JG (@ba _ _ _ _ _ K3 af M) M) M) M)) ?_
  intros
  cases d with
  |d0=>exact{_,M,_,_,M,M,_,M,cn (_) {_,M,_,M,_,M,0,key,z,M,k0,k1,.inl ⟨M,q⟩}}
  |d1=>exact{_,M,_,_,M,M,_,M,cn (_) {_,M,_,M,_,M,1,key,z,M,k0,k1,.inr<|.inl ⟨M,q⟩}}
  |d2=>exact{_,M,_,_,M,M,_,M,cn (_) {_,M,_,M,_,M,2,key,z,M,k0,k1,.inr<|.inr ⟨M,q⟩}}
  |d3=>exact{_,M,_,_,M,M,_,M,bC (_) {_,M,_,_,M,M,_,M,cn (_) {_,M,_,M,_,M,3,key,z,M,k0,k1,.inl ⟨M,q⟩}}}
  |d4=>exact{_,M,_,_,M,M,_,M,bC (_) {_,M,_,_,M,M,_,M,cn (_) {_,M,_,M,_,M,4,key,z,M,k0,k1,.inr<|.inl ⟨M,q⟩}}}
  |d5=>exact{_,M,_,_,M,M,_,M,bC (_) {_,M,_,_,M,M,_,M,cn (_) {_,M,_,M,_,M,5,key,z,M,k0,k1,.inr<|.inr (.inl ⟨M,q⟩)}}}
  |d6=>exact{_,M,_,_,M,M,_,M,bC (_) {_,M,_,_,M,M,_,M,cn (_) {_,M,_,M,_,M,6,key,z,M,k0,k1,.inr<|.inr (.inr ⟨M,q⟩)}}}
  |d7=>exact{_,M,_,_,M,M,_,M,bC (_) {_,M,_,_,M,M,_,M,bC (_) {_,M,_,M,_,M,_,M,7,key,many,z,M,k0,k1,I,O,.inl ⟨M,q⟩}}}
  |d8=>exact{_,M,_,_,M,M,_,M,bC (_) {_,M,_,_,M,M,_,M,bC (_) {_,M,_,M,_,M,_,M,8,key,many,z,M,k0,k1,I,O,.inr ⟨M,q⟩}}}
def gS(t:JM):Sp:=λvs H Q _=>∃(ea:G')(od:Me)(way key many:Int)(ot:Bool)(C:G')(fs:Mo),vs=[.ref ea]/\Due t ot key many way C fs/\Jy H ea od C fs/\Q ((fs.head?.map (·.2)).getD .non) H
def rH(T:Txt K mg t w):Kv P w K mg base 1 t.fH t.dO ["_law_e"] (gS t):=by
 have z:=KY.nd;refine T.vO.okH KY (λvs H Q E h=>?_)<|λG A outer s H vs Q E O h=>?_
 .let{ea,od,way,key,many,I,C,fs,rfl,_}:=h;rfl
 .let{ea,od,way,key,many,I,C,fs,rfl,d,hx,q}:=h;refine ag (aU (PW.pt<|ni (bB<|ay (bh K M) {_} T.aO aF (aa J7<|aa (bv (v:= .ref t.bj) {_} T.sd M) af))<|j3<|bB<|ay (bh K M) {_} T.aO aF (aa J7<|aa (bv (v:= .ref t.bq) {_} T.wG M) af))
   (av<|aD<|wu K M J7 M)
   ar)
     (ag (aU (PW.pt<|ni (bB<|ay (bh K M) {_} T.aO aF (aa J7<|aa (bv (v:= .ref t.a5) {_} T.um M) af))<|j3<|bB<|ay (bh K M) {_} T.aO aF (aa J7<|aa (bv (v:= .ref t.aL) {_} T.kj M) af))
   (av<|aD<|wu K M J7 M)
   ar)
     (aw (aD bR) ?_))
  intros
  cases d with
  |d0=>
   refine{_,M,ea,od,_,_,_,_,_,M,hx,T.am,T.fO,aj T.am T.aR T.oI,false,M,bu ?_};refine{_,M,ea,od,_,_,_,_,_,M,hx,T.am,T.fO,aj T.am T.aV T.oH,false,M,bu ?_};refine{_,M,ea,od,_,_,_,_,_,M,hx,T.am,T.fO,aj T.am T.aM T.mQ,false,M,bu ?_};refine{_,M,ea,od,_,_,_,_,_,M,hx,T.am,T.fO,aj T.am T.aq T.kU,false,M,bu ?_};exact q
  |d1=>
   refine{_,M,ea,od,_,_,_,_,_,M,hx,T.aI,T.kK,aj T.aI T.aR T.pP,false,M,bu ?_};refine{_,M,ea,od,_,_,_,_,_,M,hx,T.aI,T.kK,aj T.aI T.aV T.pO,false,M,bu ?_};refine{_,M,ea,od,_,_,_,_,_,M,hx,T.aI,T.kK,aj T.aI T.aM T.oJ,false,M,bu ?_};refine{_,M,ea,od,_,_,_,_,_,M,hx,T.aI,T.kK,aj T.aI T.aq T.lX,false,M,bu ?_};exact q
  |d2=>
   refine{_,M,ea,od,_,_,_,_,_,M,hx,T.aY,T.mK,aj T.aY T.aR T.qI,false,M,bu ?_};refine{_,M,ea,od,_,_,_,_,_,M,hx,T.aY,T.mK,aj T.aY T.aV T.qH,false,M,bu ?_};refine{_,M,ea,od,_,_,_,_,_,M,hx,T.aY,T.mK,aj T.aY T.aM T.pQ,false,M,bu ?_};refine{_,M,ea,od,_,_,_,_,_,M,hx,T.aY,T.mK,aj T.aY T.aq T.mS,false,M,bu ?_};exact q
  |d3=>
   refine{_,M,ea,od,_,_,_,_,_,M,hx,T.aW,T.kL,aj T.aW T.aR T.pS,false,M,bu ?_};refine{_,M,ea,od,_,_,_,_,_,M,hx,T.aW,T.kL,aj T.aW T.aV T.pR,false,M,bu ?_};refine{_,M,ea,od,_,_,_,_,_,M,hx,T.aW,T.kL,aj T.aW T.aM T.oK,false,M,bu ?_};refine{_,M,ea,od,_,_,_,_,_,M,hx,T.aW,T.kL,aj T.aW T.aq T.lY,false,M,bu ?_};exact q
  |d4=>
   refine{_,M,ea,od,_,_,_,_,_,M,hx,T.aA,T.fv,aj T.aA T.aR T.lV,false,M,bu ?_};refine{_,M,ea,od,_,_,_,_,_,M,hx,T.aA,T.fv,aj T.aA T.aV T.lU,false,M,bu ?_};refine{_,M,ea,od,_,_,_,_,_,M,hx,T.aA,T.fv,aj T.aA T.aM T.kT,false,M,bu ?_};refine{_,M,ea,od,_,_,_,_,_,M,hx,T.aA,T.fv,aj T.aA T.aq T.jP,false,M,bu ?_};exact q
  |d5=>
   refine{_,M,ea,od,_,_,_,_,_,M,hx,T.aR,T.BW,aj T.aR T.aR T.qJ,true,M,bL ?_};obtain⟨h1,⟨h,_⟩|⟨dx,rfl,h2⟩⟩:=hx
   .cases h
   first|exact{_,M,ea,_,dx,_,_,_,M,h1,h2,T.aR,T.jo,M,q}|exact bL {_,M,ea,_,dx,_,_,_,M,h1,h2,T.aR,T.jo,M,q}
  |d6=>
   refine{_,M,ea,od,_,_,_,_,_,M,hx,T.aV,T.vT,aj T.aV T.aR T.qG,false,M,bu ?_};refine{_,M,ea,od,_,_,_,_,_,M,hx,T.aV,T.vT,aj T.aV T.aV T.qF,true,M,bL ?_};obtain⟨h1,⟨h,_⟩|⟨dx,rfl,h2⟩⟩:=hx
   .cases h
   first|exact{_,M,ea,_,dx,_,_,_,M,h1,h2,T.aV,T.nM,M,q}|exact bL {_,M,ea,_,dx,_,_,_,M,h1,h2,T.aV,T.nM,M,q}
  |d7=>
   refine{_,M,ea,od,_,_,_,_,_,M,hx,T.aM,T.oE,aj T.aM T.aR T.pN,false,M,bu ?_};refine{_,M,ea,od,_,_,_,_,_,M,hx,T.aM,T.oE,aj T.aM T.aV T.pM,false,M,bu ?_};refine{_,M,ea,od,_,_,_,_,_,M,hx,T.aM,T.oE,aj T.aM T.aM T.oG,true,M,bL ?_};obtain⟨h1,⟨h,_⟩|⟨dx,rfl,h2⟩⟩:=hx
   .cases h
   first|exact{_,M,ea,_,dx,_,_,_,M,h1,h2,T.aM,T.iP,M,q}|exact bL {_,M,ea,_,dx,_,_,_,M,h1,h2,T.aM,T.iP,M,q}
  |d8=>
   refine{_,M,ea,od,_,_,_,_,_,M,hx,T.aq,T.gG,aj T.aq T.aR T.mU,false,M,bu ?_};refine{_,M,ea,od,_,_,_,_,_,M,hx,T.aq,T.gG,aj T.aq T.aV T.mT,false,M,bu ?_};refine{_,M,ea,od,_,_,_,_,_,M,hx,T.aq,T.gG,aj T.aq T.aM T.lZ,false,M,bu ?_};refine{_,M,ea,od,_,_,_,_,_,M,hx,T.aq,T.gG,aj T.aq T.aq T.jV,true,M,bL ?_};obtain⟨h1,⟨h,_⟩|⟨dx,rfl,h2⟩⟩:=hx
   .cases h
   first|exact{_,M,ea,_,dx,_,_,_,M,h1,h2,T.aq,T.db,M,q}|exact bL {_,M,ea,_,dx,_,_,_,M,h1,h2,T.aq,T.db,M,q}
def sG{e:G'}{od:Me}(h:Jy H e od C fs)(s:JA H H'):Jy H' e od C fs:={s _ _ h.1,h.2.imp id λzz=>by let{dx,a,b}:=zz;exact{dx,a,s _ _ b}}
def HF(t:JM)(z:Bool)(key many:Int)(G:0<=way)(I:way<9):∃C fs,Due t z key many way C fs:=by
 rcases(show way=0\/way=1\/way=2\/way=3\/way=4\/way=5\/way=6\/way=7\/way=8 by lia)with rfl|rfl|rfl|rfl|rfl|rfl|rfl|rfl|rfl
 .exact{_,_,.d0}
 .exact{_,_,.d1}
 .exact{_,_,.d2}
 .exact{_,_,.d3}
 .exact{_,_,.d4}
 .exact{_,_,.d5}
 .exact{_,_,.d6}
 .exact{_,_,.d7}
 .exact{_,_,.d8}
structure Kx(K:J4)(t:JM)(i:Int)(C:G')(bm:Lz):Prop where
 xc:JF K C bm
 xi:LA K C
 k0:PySem.W.kitOne K (.ref C) (.ref t.aJ)=some (decide (i=0))
 k1:PySem.W.kitOne K (.ref C) (.ref t.a6)=some (decide (i=1))
 k2:PySem.W.kitOne K (.ref C) (.ref t.a8)=some (decide (i=2))
 k3:PySem.W.kitOne K (.ref C) (.ref t.bb)=some (decide (i=3))
 k4:PySem.W.kitOne K (.ref C) (.ref t.aG)=some (decide (i=4))
 k5:PySem.W.kitOne K (.ref C) (.ref t.bj)=some (decide (i=5))
 k6:PySem.W.kitOne K (.ref C) (.ref t.bq)=some (decide (i=6))
 k7:PySem.W.kitOne K (.ref C) (.ref t.a5)=some (decide (i=7))
 k8:PySem.W.kitOne K (.ref C) (.ref t.aL)=some (decide (i=8))
 sw:PySem.W.subIn K (.ref C) (.ref t.aX)=some true
def IQ(T:Txt K mg t w){z:Bool}{key many:Int}(d:Due t z key many way C fs):∃bm,Kx K t way C bm:=by
 cases d with
 |d0=>exact{_,T.am,T.fO,aj T.am T.am T.lW,aj T.am T.aI T.mR,aj T.am T.aY T.As,aj T.am T.aW T.ze,aj T.am T.aA T.v8,aj T.am T.aR T.oI,aj T.am T.aV T.oH,aj T.am T.aM T.mQ,aj T.am T.aq T.kU,T.v7}
 |d1=>exact{_,T.aI,T.kK,aj T.aI T.am T.zf,aj T.aI T.aI T.iJ,aj T.aI T.aY T.BC,aj T.aI T.aW T.At,aj T.aI T.aA T.xx,aj T.aI T.aR T.pP,aj T.aI T.aV T.pO,aj T.aI T.aM T.oJ,aj T.aI T.aq T.lX,T.xw}
 |d2=>exact{_,T.aY,T.mK,aj T.aY T.am T.Au,aj T.aY T.aI T.BD,aj T.aY T.aY T.Cg,aj T.aY T.aW T.BE,aj T.aY T.aA T.xY,aj T.aY T.aR T.qI,aj T.aY T.aV T.qH,aj T.aY T.aM T.pQ,aj T.aY T.aq T.mS,T.xX}
 |d3=>exact{_,T.aW,T.kL,aj T.aW T.am T.zg,aj T.aW T.aI T.Av,aj T.aW T.aY T.BF,aj T.aW T.aW T.Aw,aj T.aW T.aA T.xz,aj T.aW T.aR T.pS,aj T.aW T.aV T.pR,aj T.aW T.aM T.oK,aj T.aW T.aq T.lY,T.xy}
 |d4=>exact{_,T.aA,T.fv,aj T.aA T.am T.v6,aj T.aA T.aI T.xu,aj T.aA T.aY T.xW,aj T.aA T.aW T.xv,aj T.aA T.aA T.uP,aj T.aA T.aR T.lV,aj T.aA T.aV T.lU,aj T.aA T.aM T.kT,aj T.aA T.aq T.jP,T.uO}
 |d5=>exact{_,T.aR,T.BW,aj T.aR T.am T.Ax,aj T.aR T.aI T.BH,aj T.aR T.aY T.Cj,aj T.aR T.aW T.BI,aj T.aR T.aA T.x9,aj T.aR T.aR T.qJ,aj T.aR T.aV T.Ci,aj T.aR T.aM T.BG,aj T.aR T.aq T.zi,T.x5}
 |d6=>exact{_,T.aV,T.vT,aj T.aV T.am T.Ap,aj T.aV T.aI T.Bz,aj T.aV T.aY T.Cf,aj T.aV T.aW T.BA,aj T.aV T.aA T.xU,aj T.aV T.aR T.qG,aj T.aV T.aV T.qF,aj T.aV T.aM T.By,aj T.aV T.aq T.zc,T.xT}
 |d7=>exact{_,T.aM,T.oE,aj T.aM T.am T.zd,aj T.aM T.aI T.Aq,aj T.aM T.aY T.BB,aj T.aM T.aW T.Ar,aj T.aM T.aA T.xt,aj T.aM T.aR T.pN,aj T.aM T.aV T.pM,aj T.aM T.aM T.oG,aj T.aM T.aq T.xV,T.xr}
 |d8=>exact{_,T.aq,T.gG,aj T.aq T.am T.xA,aj T.aq T.aI T.xZ,aj T.aq T.aY T.zh,aj T.aq T.aW T.x4,aj T.aq T.aA T.vQ,aj T.aq T.aR T.mU,aj T.aq T.aV T.mT,aj T.aq T.aM T.lZ,aj T.aq T.aq T.jV,T.vP}
noncomputable def wQ(way:Int):List V:=[.bl (decide (way=0)),.bl (decide (way=1)),.bl (decide (way=2)),.bl (decide (way=3)),.bl (decide (way=4)),.bl (decide (way=5)),.bl (decide (way=6)),.bl (decide (way=7)),.bl (decide (way=8)),.bl false]
def wP(G:way<9):wQ way=(List.range 10).map λk:Nat=>V.bl (decide (V.int (0+(k:Int))=V.int way)):=by
 have h:∀k:Int,decide (V.int (0+k)=V.int way)=decide (way=k):=λk=>by
  rw[ZO];by_cases c:way=k
  .rw[Xn c,Xn (by rw[c])]
  .rw[Xo c,Xo λz=>c (V.int.inj z).symm]
 have e9:decide (way=9)=false:=Xo ();unfold wQ;show _=[V.bl _,V.bl _,V.bl _,V.bl _,V.bl _,V.bl _,V.bl _,V.bl _,V.bl _,V.bl _];rw[h,h,h,h,h,h,h,h,h,h];rw[show decide (way=((9:Nat):Int))=false from e9];rfl
def sW:Sp:=λvs H Q _=>∃(way key many:Int)(ot:Bool),vs=[.int way,.bl ot,.int key,.int many]/\0<=way/\way<9/\0<=key/\key<10^39/\1<=many/\many<=9/\∀H',JA H H'->Q (.bl true) H'
def tI(T:Txt K mg t w):J9 P w K mg base JT 12 t.oe t.jx [ge,ff,fx,i2] sW:=by
 have G:Kv P w K mg base 1 t.fH t.dO ["_law_e"] (gS t):=rH T;have J1:J9 P w K mg base JT 1 t.fH t.dO ["_law_e"] (gS t):=G.ok;have J2:=rM (P:=P) (w:=w) (base:=base) T;refine T.vN.okl JW λs H vs Q E hr h _=>?_;intro X;let{way,key,many,S,rfl,w0,w1,k0,k1,m0,m1,q}:=h;refine ag (Ju 4<|fe af)
   (ag (Ju 5 bR)
   (ag (CB M M (λpn E=>(av<|bc<|nG J2 hr.mo {_} T.Eh T.t7.kp T.Em .nil Gu (@ba _ _ _ _ _ J7 (@ba _ _ _ _ _ JB (@ba _ _ _ _ _ JG (@ba _ _ _ _ _ K3 af M) M) M) M)))
    (Gs (i:=6) JW.nd M M {_} T.fB T.EE (λea=>(@f7 _ _ _ _ _ (@ym _ _ 4 _ _ _ _ JW.nd M (Or.inl M) (@fe _ _ _ _<|@ba _ _ _ _ _ (ay (bh K M) {_} T.aO aF (aa LY<|aa (bv (v:= .ref t.aJ) {_} T.cb M) af)) (@ba _ _ _ _ _ (ay (bh K M) {_} T.aO aF (aa LY<|aa (bv (v:= .ref t.a6) {_} T.iR M) af)) (@ba _ _ _ _ _ (ay (bh K M) {_} T.aO aF (aa LY<|aa (bv (v:= .ref t.a8) {_} T.kh M) af)) (@ba _ _ _ _ _ (ay (bh K M) {_} T.aO aF (aa LY<|aa (bv (v:= .ref t.bb) {_} T.AW M) af)) af M) M) M) M) {_} (by first|exact .inl M|exact .inr M))
    (f7 (Ju 4<|bd yt L9<|@fe _ _ _ _<|@ba _ _ _ _ _ (ay (bh K M) {_} T.aO aF (aa LY<|aa (bv (v:= .ref t.aG) {_} T.nO M) af)) (@ba _ _ _ _ _ (ay (bh K M) {_} T.aO aF (aa LY<|aa (bv (v:= .ref t.bj) {_} T.sd M) af)) (@ba _ _ _ _ _ (ay (bh K M) {_} T.aO aF (aa LY<|aa (bv (v:= .ref t.bq) {_} T.wG M) af)) af M) M) M)
    (f7 (Ju 4<|bd yt L9<|@fe _ _ _ _<|@ba _ _ _ _ _ (ay (bh K M) {_} T.aO aF (aa LY<|aa (bv (v:= .ref t.a5) {_} T.um M) af)) (@ba _ _ _ _ _ (ay (bh K M) {_} T.aO aF (aa LY<|aa (bv (v:= .ref t.aL) {_} T.kj M) af)) (@ba _ _ _ _ _ (rD<|ay (tU K M) {_} T.aO aF (aa LY<|aa (gI (v:= .ty ib) {_} T.ED tW M) af)) af M) M) M)
    (av<|Ju 5<|CJ G ((hr.h.mono (_)).mark _) {_} T.Fy T.vO.kp T.FU .nil (aa LY af)))))) zo))
   (ag (aU (az (Ha K M hr.u20) L9 (nE M (JL.of (M':=["_law_k"]) (N:=[ge,ff,fx,i2,"_law_kinds","_law_found","_law_e","_law_due"]) (N':=[ge,ff,fx,i2,"_law_kinds","_law_found","_law_e","_law_due"]) (dsc:=ah fw) M M ∅) (fK {_} T.mJ (aa ak af))<|λ_ _ _ _ _=>(fA bX J7 JB<|aC _))<|aC _)
    (av<|aD rF)
    ar)
   (ag (@ym _ _ 7 _ _ _ _ JW.nd M (Or.inl M) (@bI _ _ _ _ _ _ _ bp (@fe _ _ _ _<|@ba _ _ _ _ _ bR (@ba _ _ _ _ _ bR (@ba _ _ _ _ _ bR (@ba _ _ _ _ _ bR (@ba _ _ _ _ _ bR (@ba _ _ _ _ _ JG (@ba _ _ _ _ _ JG (@ba _ _ _ _ _ (bd mt K3 ak) (@ba _ _ _ _ _ (bd b9 K3<|dt xh {_} T.BU vE (aa (rD JB) af)) af M) M) M) M) M) M) M) M) M) J7<|λ_ _=>M) {_} (by first|exact .inl M|exact .inr M))
   (ag (aU (az j5 pv7 bR<|aC _)
    (av<|aD<|fA j5 Lf bR<|aC _)
    ar)
   (aw (aD<|rG (ay cH {_} T.aO aF (aa Lf<|aa (gI (v:= .ty "int") {_} T.BU vE M) af))<|rG (rD<|ay cH {_} T.aO aF (aa Lf<|aa (gI (v:= .ty "bool") {_} T.GE zU M) af))<|u7<|fA bX Lf pv7<|aC _) ?_))))))
 intros
 let{C,fs,du}:=HF t S key many w0 w1;let{bm,I}:=IQ T du;refine{(by show 0<=sizeLine;decide),λl nl=>?_};have s1:=au (o:= .lst []) nl;refine kN (λW H'=>W=[some (.int way),some (.bl S),some (.int key),some (.int many),some (.ref l),none,none,none]/\H'=upd H l (.lst [])) (λnx go=>go _ _ ⟨M,M⟩)<|λW H1 w=>?_;let{O,eH}:=w;rw[O];rw[<-eH]at s1;clear O eH;refine kN (λW H'=>W=[some (.int way),some (.bl S),some (.int key),some (.int many),some (.ref l),some .non,none,none]/\H'=H1) (λnx go=>go _ _ ⟨M,M⟩)<|λW a0 w=>?_;let{O,eH}:=w;rw[O,eH];clear O eH;refine kN (λW H'=>∃(lk:G'),W=[some (.int way),some (.bl S),some (.int key),some (.int many),some (.ref lk),some ((fs.head?.map (·.2)).getD .non),none,none]/\JA H H'/\H' lk=some (.lst<|wQ way)) (λnx go=>?_)<|λW H2 w=>?_
 .refine{_,M,_,M,_,M,_,M,way,key,many,S,C,fs,M,k0,k1,m0,m1,du,λea od H' hx hs=>{ea,C,M,hx.1,_,true,I.xc,I.sw,bL ?_}};refine{_,M,ea,od,C,fs,bm,_,_,M,hx,I.xc,I.xi,I.k0,_,M,ea,od,C,fs,bm,_,_,M,hx,I.xc,I.xi,I.k1,_,M,ea,od,C,fs,bm,_,_,M,hx,I.xc,I.xi,I.k2,_,M,ea,od,C,fs,bm,_,_,M,hx,I.xc,I.xi,I.k3,(by show 4<=sizeLine;decide),λp1 n1=>?_};have Y:=sG hx (au (o:= .lst [.bl (decide (way=0)),.bl (decide (way=1)),.bl (decide (way=2)),.bl (decide (way=3))]) n1);refine{_,M,_,M,ea,od,C,fs,bm,_,_,M,Y,I.xc,I.xi,I.k4,_,M,ea,od,C,fs,bm,_,_,M,Y,I.xc,I.xi,I.k5,_,M,ea,od,C,fs,bm,_,_,M,Y,I.xc,I.xi,I.k6,(by show 3<=sizeLine;decide),λp2 n2=>{p1,p2,_,_,M,M,au n2 _ _ I0,I0,(by show 7<=sizeLine;decide),λp3 n3=>?_}};have s3:=((au (o:= .lst [.bl (decide (way=0)),.bl (decide (way=1)),.bl (decide (way=2)),.bl (decide (way=3))]) n1).trans<|au n2).trans (au (o:= .lst [.bl (decide (way=0)),.bl (decide (way=1)),.bl (decide (way=2)),.bl (decide (way=3)),.bl (decide (way=4)),.bl (decide (way=5)),.bl (decide (way=6))]) n3);have Z:=sG hx s3;refine{_,M,_,M,ea,od,C,fs,bm,_,_,M,Z,I.xc,I.xi,I.k7,_,M,ea,od,C,fs,bm,_,_,M,Z,I.xc,I.xi,I.k8,_,M,ea,od,C,fs,bm,_,_,M,Z,I.xc,I.xi,Fz I.xc,true,M,(by show 3<=sizeLine;decide),λp4 n4=>{p3,p4,_,_,M,M,au n4 _ _ I0,I0,(by show 10<=sizeLine;decide),λp5 n5=>?_}};have s5:=(s3.trans<|au n4).trans (au (o:= .lst<|wQ way) n5);exact{_,M,ea,od,way,key,many,S,C,fs,M,du,sG hx s5,go _ _ {p5,M,(s1.trans hs).trans s5,I0}}
 .let{lk,rfl,s2,hk}:=w;refine{_,M,_,M,(_),(_),λD hD=>jE (n:=10) (lo:=0) (λi ys H3=>H3=upd H2 D (.lst ys)/\ys=((List.range 10).map λk:Nat=>V.bl<|decide (V.int (0+(k:Int))=V.int way)).take i) ⟨M,M⟩ (λi ys H3 hi w U=>?_)<|λys H3 w U=>?_}
  .have ly:ys.length<=10:=by rw[w.2,Qo,Q2,List.length_range];lia
   refine{_,M,_,M,M,KB.mk hi U (bn ()) {by rw[w.1,bW],?_}};rw[w.2,QK,Qk,List.getElem?_range hi];rfl
  .let{e3,ey}:=w;rw[Qw (by rw[Q2,List.length_range];exact Q4 _),<-wP w1]at ey;have s3:JA H2 H3:=by rw[e3];exact au hD
   refine{lk,D,wQ way,M,M,JC.of<|s3 _ _ hk,JC.of (by rw[U,ey]),?_,?_}
   .intro y hy;rw[wP w1]at hy;let{k,_,rfl}:=Qh.mp hy;exact Xx
   refine{_,M,bu ?_};have sA:=s2.trans s3;clear s3 hk U ey e3 hD;generalize ef:(fs.head?.map (·.2)).getD V.non=fd;have ha:LB [V.non,.non,.non,.non,.non,.int key,.int key,.int (many-1),.int (many+if(!S)=true then 1 else 0)] way=some fd:=by
    rw[<-ef];cases du with
    |d8=>
     cases S with
     |true=>
      show some (V.int<|many+0)=_;rw[Int.add_zero];rfl
     |false=>rfl
    |_=>rfl
   refine{_,M,_,M,_,M,_,_,M,M,_,M,_,M,_,M,_,M,_,_,M,M,(by show 9<=sizeLine;decide),λp np=>{_,M,p,_,_,fd,M,M,JC.of I0,ha,?_}};have sB:=sA.trans (au (o:= .lst [V.non,.non,.non,.non,.non,.int key,.int key,.int (many-1),.int (many+if(!S)=true then 1 else 0)]) np);have hf:fd= .non\/∃n,fd= .int n:=by
    rw[<-ef];cases du<;>first|exact .inl M|exact .inr {_,M}
   rcases hf with rfl|⟨n,rfl⟩
   .exact{_,M,M,_,M,lr M {_,M,M,q _ sB}}
   .refine{_,M,M,_,M,bC (λz=>by cases z) ?_};refine{_,M,_,_,_,_,M,JP.int _,Do,true,M,bL ?_};refine{_,M,_,_,_,_,M,JP.int _,Dp,_,M,_,M,bL ?_};refine{_,M,_,M,M,?_};rw[Xn M];exact q _ sB
def EF{i:Int}(O:0<=i)(h1:i<10^40):acc (wr<|.int i)=true/\PySem.intText? (wr<|.int i)=some i/\wr (.int i)≠("-":Str)/\32∉sg (wr<|.int i)/\(wr<|.int i).length<=41:=by
 have S:(wr<|.int i).length<=41:=by
  have h:(toString i).length<=40+1:=PySem.int_text_length_le10 (_) ();show(Str.ofString<|toString i).length<=41;rw[Str.ofString_eq_toList];show((toString i).toList.map Char.toNat).toArray.size<=41;rwa[Qa,Q2]
 have e:sg (wr<|.int i)=(Nat.toDigits 10 i.toNat).map Char.toNat:=CU O;have ad:=zq i.toNat;have ne:=yv i.toNat;have G:=wy i.toNat;rw[<-e]at ad ne G;have U:PySem.NumText.digitsVal (sg<|wr<|.int i)=i.toNat:=by rw[e];exact PySem.W.KIN.val_back _
 have hd:(sg<|wr<|.int i).head?≠some 45:=λq=>by
  have:=ad 45 (List.mem_of_mem_head? q);lia
 have Y:(sg<|wr<|.int i).head?=some 48->wr (.int i)=("0":Str):=λq=>by
  rcases Zk i.toNat with z|z
  .obtain rfl:i=0:=();show Str.ofString (toString (0:Int))=_;decide+kernel
  .exact Xp q<|G z
 generalize wr (.int i)=z at*;have I:LQ z=false:=Xo hd;have Z:Ku z=z:=by unfold Ku;rw[I];rfl
 have l1:1<=z.length:=by
  rw[i6];cases q:sg z with
  |nil=>exact Xp q ne
  |cons a r=>simp
 refine{?_,?_,?_,?_,S}
 .unfold acc sN;rw[I,Z,ZT,Bool.not_false,Bool.and_true,Xn (show(1:Int)<=(z.length:Int) by lia),Xn (show(z.length:Int)<=60 by lia)];have a1:(sg z).all dg=true:=QB.mpr λc hc=>DJ (ad c hc).1 (ad c hc).2;rw[a1];by_cases c:(sg z).head?=some 48
  .rw[Xo (show ¬z≠("0":Str) from λq=>q<|Y c),Zq];rfl
  .rw[Xo c];rfl
 .have r:=PySem.intText_digits (x:=z) ad ne ();rw[r];show some ((PySem.NumText.digitsVal (sg z):Nat):Int)=some i;rw[U];congr 1;lia
 .intro q;exact hd<|by rw[q];decide+kernel
 .intro q;have:=ad 32 q;lia
def l6:Sp:=λvs H Q _=>∃(key:Int),vs=[.int key]/\0<=key/\key<10^39/\∀H',Q (.bl true) H'
def my(T:Txt K mg t w):J9 P w K mg base JT 6 t.gN t.dM [fx] l6:=by
 refine T.oB.okl Jx λs H vs Q E I h _=>?_;intro X;let{key,rfl,k0,k1,q}:=h;refine ag (CB M M (λpn E=>(av<|bc<|nG (lw T) I.mo {_} T.Ft T.vK.kp T.FP .nil Gu (aa (bd c7 (bd c7 (bd c7 a7<|dt dY {_} T.qB ku (aa (bd b9 J7 ak) af)) a7)<|dt dY {_} T.qB ku (aa J7 af)) af)))
    (Gs (i:=1) Jx.nd M M {_} T.cb T.am (λea=>(av<|aD<|rD<|ay (bh K M) {_} T.aO aF (aa JB<|aa (bv (v:= .ref t.a6) {_} T.iR M) af))) zo))
   (aw (aD rF) ?_)
 intros
 let{O,S,U,w4,w5}:=Gf k0 k1;have k3:0<=key+1:=();have z:key+1<10^40:=();let{Y,Z,v3,v4,v5}:=EF k3 z;have u1:("up ":Str).length=3:=by decide+kernel
 have u2:(" ":Str).length=1:=by decide+kernel
 refine{_,M,_,_,M,M,key+1,M,oF k3 z,_,_,M,M,?_,_,_,M,M,?_,_,M,key,M,oF k0 (),_,_,M,M,?_,?_}
 .refine Qx<|bn ?_;show("up ":Str).length+(wr<|.int<|key+1).length<=1000;lia
 .refine Qx<|bn ?_;show(("up ":Str)++wr (.int<|key+1)).length+(" ":Str).length<=1000;rw[Str.length_append];lia
 .refine Qx<|bn ?_;show(("up ":Str)++wr (.int<|key+1)++(" ":Str)).length+(wr<|.int key).length<=1000;rw[Str.length_append,Str.length_append];lia
 have ez:("up ":Str)++wr (.int<|key+1)++(" ":Str)++wr (.int key)=xJ ("up":Str) (.int<|key+1) (.int key):=(B0 up_).symm;have es:Txt.split (("up ":Str)++wr (.int<|key+1)++(" ":Str)++wr (.int key)) (" ":Str)=[("up":Str),wr (.int<|key+1),wr (.int key)]:=by
  rw[ez];unfold xJ;rw[GR];refine l4 (by simp) λx hx=>?_;have k1:32∉sg ("up":Str):=by decide+kernel
  simp at hx;rcases hx with rfl|rfl|rfl<;>assumption
 have ra:LO (wr<|.int<|key+1)=some (.int<|key+1):=by
  unfold LO;rw[Xl v3,Xm Y,Z];rfl
 have re:LO (wr<|.int key)=some (.int key):=by
  unfold LO;rw[Xl U,Xm O,S];rfl
 refine .inl {("up ":Str)++wr (.int<|key+1)++(" ":Str)++wr (.int key),M,?_,λkd a e tk=>?_,λ_ ea od H' hx hs=>?_}
 .rw[Str.length_append,Str.length_append,Str.length_append];lia
 .let{h1,_,_,G}:=Tk.is es ra re tk;exfalso;obtain rfl:kd=1:=qu G.kd (.inr<|.inl M) h1.symm;obtain⟨i,e1,_,h|⟨j,e2,h⟩⟩:=G.u
  .cases h
  .cases e1;cases e2;lia
 .refine{ea,t.aJ,M,hx.1,_,true,T.am,T.lW,bL ?_};exact{_,M,ea,od,_,_,_,_,_,M,hx,T.am,T.fO,aj T.am T.aI T.mR,false,M,q _}
def Cm(K:J4):Sp:=λvs H Q _=>∃(a:G')(ns:Mb),vs=[.ref a]/\JC K H a (ns.map V.int)/\ns.length<=63/\∀H',Q (.bl true) H'
def Hc(T:Txt K mg t w):J9 P w K mg base JT 13 t.Gz t.zS [mu] (Cm K):=by
 refine T.Ji.okl GV λs H vs Q E G h _=>?_;intro X;let{a,ns,rfl,U,Y,q}:=h;refine ag (Ju 1<|bd hV (bd nI (a4 (qb T) G.mo {_} T.gf T.dZ.kp T.gw .nil aS (aa J7<|aa ak af)) ak)<|@bI _ _ _ _ _ _ _ bp (@fe _ _ _ _<|@ba _ _ _ _ _ ak (@ba _ _ _ _ _ ak (@ba _ _ _ _ _ (bd G9 ak ak) af M) M) M) (bd hV (a4 (qb T) G.mo {_} T.gf T.dZ.kp T.gw .nil aS (aa J7<|aa ak af)) ak)<|λ_ _=>M)
   (ag (Ju 2<|bd b9 ak<|bd hV (a4 (qb T) G.mo {_} T.gf T.dZ.kp T.gw .nil aS (aa J7<|aa ak af)) ak)
   (bZ (λx=>(oV XR M (fK {_} T.mJ (aa ak af)) (Lj 3)
    x)) ?_))
 refine aw (aU (fc<|bB<|a4 (tI T) G.mo {_} T.Fx T.vN.kp T.FT .nil aS (@ba _ _ _ _ _ K3 (@ba _ _ _ _ _ (fA bX (bd hV (a4 (qb T) G.mo {_} T.gf T.dZ.kp T.gw .nil aS (aa J7<|aa (bd b9 ak K3) af)) ak) ak<|aC _) (@ba _ _ _ _ _ JB (@ba _ _ _ _ _ JG af M) M) M) M))
    (av<|aD rF)
    ar) ?_
 intros
 refine aw (aD<|a4 (my T) G.mo {_} T.zB T.oB.kp T.zV .nil aS (aa JB af)) ?_
 intros
 have z:∀H',JA H H'->JC K H' a (ns.map V.int):=λH' s=>U.elim (λy=> .inl<|y.elim (λy=> .inl<|s _ _ y) λzz=>by let{o,y}:=zz;exact .inr {o,s _ _ y}) .inr;refine{_,M,a,ns,_,M,U,(_),_,_,M,M,{(_),(_)},?_};have c0:=Z8 (ns.getD (0:Int).toNat 0) (show(3:Int)≠0 by decide);have Z:=Zl (ns.getD (0:Int).toNat 0) (show(0:Int)<3 by decide);obtain⟨I,O,d0,d1⟩:∃I:Int,LB [V.int 10,.int 70000,.int (10^(39:Int).toNat)] (ns.getD (0:Int).toNat 0%3)=some (.int I)/\0<I/\I<=10^39:=by
  generalize ns.getD (0:Int).toNat 0%3=k at c0 Z;rcases(show k=0\/k=1\/k=2 by lia)with rfl|rfl|rfl<;>exact{_,M,(_),(_)}
 refine{_,_,M,M,{(_),(_),(_)},(by show 3<=sizeLine;decide),λp np=>{_,M,a,ns,_,M,z _<|au np,(_),_,_,M,M,(by show(0:Int)<3;decide),p,_,_,_,M,M,JC.of I0,O,_,_,M,M,d0,?_}};have S:=Z8 (ns.getD (0:Int).toNat 0/3) (show I≠0 by lia);have a1:=Zl (ns.getD (0:Int).toNat 0/3) d0;have s1:=au (o:= .lst [V.int 10,.int 70000,.int (10^(39:Int).toNat)]) np
 (try dsimp only)
 generalize ns.getD (0:Int).toNat 0/3%I=key at S a1⊢;have k1:key<10^39:=();change xR _ _ _ _ (upd H p<|.lst [V.int 10,.int 70000,.int (10^(39:Int).toNat)]);generalize upd H p (.lst [V.int 10,.int 70000,.int (10^(39:Int).toNat)])=H1 at s1⊢;refine{_,M,a,ns,_,M,z _ s1,(_),_,_,M,M,(by show(0:Int)<9;decide),_,_,M,M,?_};have b0:=Z8 (ns.getD (1:Int).toNat 0) (show(9:Int)≠0 by decide);have b1:=Zl (ns.getD (1:Int).toNat 0) (show(0:Int)<9 by decide)
 (try dsimp only)
 generalize em:1+ns.getD (1:Int).toNat 0%9=many;have m0:1<=many:=();have m1:many<=9:=();refine{_,M,(_),(_),sF (n:=9) (lo:=0) (λi W H'=>∃v,W=[some (.ref a),some (.int key),some (.int many),v]/\JA H H') ⟨none,M,s1⟩ (λi W H' hi w=>?_)<|λW H' w=>?_}
 .let{v,rfl,s2}:=w;refine{_,M,_,M,_,M,_,_,M,M,a,ns,_,M,z _ s2,(),_,_,M,M,(by show(0:Int)<2;decide),M,_,M,_,M,_,key,many,_,M,(),(),S,k1,m0,m1,λH3 s3=>{_,M,bu ?_}};exact{_,M,s2.trans s3}
 .let{v,rfl,s2}:=w;exact{_,M,key,M,S,k1,λH3=>q H3}
end
end SW
namespace ZK
open PySem PySem.W SW L2
def fM{P:Params}{x qual:Str}{st:Stmt}{a:G'}{kV G I z ct:K'}{O:Me}(l:(K P).lookup a=some (f<|D x qual st N kV G I O z ct):=by kernel_rfl)(c:codeIn (K P) z qual=true:=by kernel_rfl)(k:keepIn (K P) (.ref a)=true:=by kernel_rfl):JN (K P) x qual st a (D x qual st N kV G I O z ct):=Hz l c k
def nA{P:Params}{C:G'}{x:Str}(h:findIn (K P) (.ref C) x=some none:=by kernel_rfl):J6 (K P) C x:=h
def fT{P:Params}{x qual:Str}{st:Stmt}{a b:G'}{kV G I z ct:K'}{O:Me}(l:(K P).lookup a=some (f<|D x qual st (R b) kV G I O z ct):=by kernel_rfl)(c:codeIn (K P) z qual=true:=by kernel_rfl)(k:keepIn (K P) (.ref a)=true:=by kernel_rfl):HV (K P) x qual st b a (D x qual st (R b) kV G I O z ct):=zL l c k
def fU{P:Params}{x qual:Str}{st:Stmt}{a b:G'}{kV G I z ct:K'}{O:Me}(l:(K P).lookup a=some (f<|D x qual st (R b) kV G I O z ct):=by kernel_rfl)(c:codeIn (K P) z qual=true:=by kernel_rfl)(k:keepIn (K P) (.ref a)=true:=by kernel_rfl):Kk (K P) x qual st a (D x qual st (R b) kV G I O z ct):=(zL l c k).1
def HR{P:Params}:(K P).lookup 269=some {(T jb),none,.seq #[(.int 0 527),(.int 65536 528)] 0, #[]}:=by kernel_rfl
def HQ{P:Params}:(K P).lookup 296=some {(T jb),none,.seq #[(.int 0 562),N] 0, #[]}:=by kernel_rfl
def HP{P:Params}:(K P).lookup 323=some {(T jb),none,.seq #[N,(.int 0 596)] 0, #[]}:=by kernel_rfl
def T455{P:Params}:(K P).lookup 455=some {(T jb),none,.seq #[N] 0, #[]}:=by kernel_rfl
def T470{P:Params}:(K P).lookup 470=some {(T jb),none,.seq #[(.int 10 793)] 0, #[]}:=by kernel_rfl
def T861{P:Params}:(K P).lookup 861=some {(T jb),none,.seq #[(.int 0 1302)] 0, #[]}:=by kernel_rfl
def T911{P:Params}:(K P).lookup 911=some {(T jb),none,.seq #[(.int 10 1359)] 0, #[]}:=by kernel_rfl
end ZK
namespace SW
open PySem L2
set_option maxHeartbeats 0
variable{α:Type}{YP:World->Heap->Prop}
def Lv{us:List α}(hl:us.length=1):∃z,us=[z]:=by rcases us with _|⟨z,_|⟨y,t⟩⟩<;>first|exact{_,M}|simp at hl
def Lr{us:List α}(hl:us.length=2):∃z G,us=[z,G]:=by rcases us with _|⟨z,_|⟨G,_|⟨y,t⟩⟩⟩<;>first|exact{_,_,M}|simp at hl
def Lw{us:List α}(hl:us.length=3):∃z G I,us=[z,G,I]:=by rcases us with _|⟨z,_|⟨G,_|⟨I,_|⟨y,t⟩⟩⟩⟩<;>first|exact{_,_,_,M}|simp at hl
def us4{us:List α}(hl:us.length=4):∃z G I O,us=[z,G,I,O]:=by rcases us with _|⟨z,_|⟨G,_|⟨I,_|⟨O,_|⟨y,t⟩⟩⟩⟩⟩<;>first|exact{_,_,_,_,M}|simp at hl
open ZK in
def txt{w:Md}{h:Heap}{mg:Mm}(X:(ZK.K w.params).In h)(G:h.Ns mainGlobals mg):Txt (ZK.K w.params) mg ZK.t w:=by
 constructor
 case g_PLACES=>exact{398,QF X G<|by kernel_rfl}
 case g_MOST_IN_LEAF=>exact{899,QF X G<|by kernel_rfl}
 case g_LEAST_IN_TWO=>exact{901,QF X G<|by kernel_rfl}
 case g_LEAST_SIZE=>exact{1073,QF X G<|by kernel_rfl}
 case g_GREATEST_SIZE=>exact{1075,QF X G<|by kernel_rfl}
 case g_FIGURES=>exact{1411,QF X G<|by kernel_rfl}
 case g_MOST_FIGURES=>exact{1413,QF X G<|by kernel_rfl}
 case g_WORDS_OF_TOKEN=>exact{1415,QF X G<|by kernel_rfl}
 case g_MOST_KEYS=>exact{1526,QF X G<|by kernel_rfl}
 case kt_FORMS_get=>exact{986,by kernel_rfl,λH=> .inr {_,_,_,(show(ZK.K w.params).lookup 986=some {.type jb,none,.seq #[(S "KEY" 1475)] 0, #[]} by kernel_rfl),M,M,(_),(.cons {_,M} .nil)}}
 case kt_FORMS_put=>exact{984,by kernel_rfl,λH=> .inr {_,_,_,(show(ZK.K w.params).lookup 984=some {.type jb,none,.seq #[(S "KEY" 1468),(S "VALUE" 1469)] 0, #[]} by kernel_rfl),M,M,(_),(.cons {_,M}<|.cons {_,M} .nil)}}
 all_goals first
  |exact ZK.fM
  |exact QF X G<|by kernel_rfl
  |exact{(by kernel_rfl),(by kernel_rfl),(by kernel_rfl),(by kernel_rfl)}
  |exact ZK.nA
  |exact{(by kernel_rfl),(by kernel_rfl),(by kernel_rfl)}
  |exact .all λus hl=>by let{_,_,rfl}:=Lr hl;rfl
  |exact .all λus hl=>by let{_,rfl}:=Lv hl;rfl
  |exact Dn (by kernel_rfl) (by kernel_rfl) (by kernel_rfl)<|λz=>Xp z (_)
  |exact PySem.W.mg_none_of X G<|by kernel_rfl
  |exact .all λus hl=>by let{_,_,_,rfl}:=Lw hl;rfl
  |exact{{_,_,_,_,_,_,_,_,_,_,_,_,_,_,{_}},{[ZK.t.aX],M},(by kernel_rfl),(by kernel_rfl),(by kernel_rfl),(by kernel_rfl)}
  |exact ZK.fU
  |exact .all λus hl=>by let{_,_,_,_,rfl}:=us4 hl;rfl
  |exact Dn (by kernel_rfl) (by kernel_rfl) (by kernel_rfl)<|λ_=>M
  |exact cI (ds:=[]) 2 M (fT (a:=477)) T470 λ_ _ _ _ _ _ us hl=>by let{_,_,rfl}:=Lr hl;exact{_,M,M}
  |exact cI (ds:=[]) 2 M (fT (a:=868)) T861 λ_ _ _ _ _ _ us hl=>by let{_,_,rfl}:=Lr hl;exact{_,M,M}
  |exact cI (ds:=[]) 3 M (fT (a:=276)) HR λ_ _ _ _ _ _ us hl=>by let{_,_,_,rfl}:=Lw hl;exact{_,M,M}
  |exact cI (ds:=[]) 3 M (fT (a:=303)) HQ λ_ _ _ _ _ _ us hl=>by let{_,_,_,rfl}:=Lw hl;exact{_,M,M}
  |exact cI (ds:=[]) 3 M (fT (a:=330)) HP λ_ _ _ _ _ _ us hl=>by let{_,_,_,rfl}:=Lw hl;exact{_,M,M}
  |exact cI (ds:=[]) 4 M (fT (a:=462)) T455 λ_ _ _ _ _ _ us hl=>by let{_,_,_,_,rfl}:=us4 hl;exact{_,M,M}
  |exact cI (ds:=[]) 4 M (fT (a:=916)) T911 λ_ _ _ _ _ _ us hl=>by let{_,_,_,_,rfl}:=us4 hl;exact{_,M,M}
  |exact{_,cI (ds:=[(.int 0 1302)]) 1 M (fT (a:=868)) T861 λ_ _ _ _ _ _ us hl=>by let{_,rfl}:=Lv hl;exact{_,M,M},(.cons {_,M} .nil)}
  |exact{_,cI (ds:=[(.int 0 527),(.int 65536 528)]) 1 M (fT (a:=276)) HR λ_ _ _ _ _ _ us hl=>by let{_,rfl}:=Lv hl;exact{_,M,M},(.cons {_,M}<|.cons {_,M} .nil)}
  |exact{_,cI (ds:=[(.int 0 562),N]) 1 M (fT (a:=303)) HQ λ_ _ _ _ _ _ us hl=>by let{_,rfl}:=Lv hl;exact{_,M,M},(.cons {_,M}<|.cons M .nil)}
  |exact{_,cI (ds:=[(.int 0 596)]) 2 M (fT (a:=330)) HP λ_ _ _ _ _ _ us hl=>by let{_,_,rfl}:=Lr hl;exact{_,M,M},(.cons {_,M} .nil)}
  |exact{_,cI (ds:=[(.int 10 1359)]) 3 M (fT (a:=916)) T911 λ_ _ _ _ _ _ us hl=>by let{_,_,_,rfl}:=Lw hl;exact{_,M,M},(.cons {_,M} .nil)}
  |exact{_,cI (ds:=[(.int 10 793)]) 1 M (fT (a:=477)) T470 λ_ _ _ _ _ _ us hl=>by let{_,rfl}:=Lv hl;exact{_,M,M},(.cons {_,M} .nil)}
  |exact{_,cI (ds:=[(.int 65536 528)]) 2 M (fT (a:=276)) HR λ_ _ _ _ _ _ us hl=>by let{_,_,rfl}:=Lr hl;exact{_,M,M},(.cons {_,M} .nil)}
  |exact{_,cI (ds:=[N,(.int 0 596)]) 1 M (fT (a:=330)) HP λ_ _ _ _ _ _ us hl=>by let{_,rfl}:=Lv hl;exact{_,M,M},(.cons M<|.cons {_,M} .nil)}
  |exact{_,cI (ds:=[N]) 2 M (fT (a:=303)) HQ λ_ _ _ _ _ _ us hl=>by let{_,_,rfl}:=Lr hl;exact{_,M,M},(.cons M .nil)}
  |exact{_,cI (ds:=[N]) 3 M (fT (a:=462)) T455 λ_ _ _ _ _ _ us hl=>by let{_,_,_,rfl}:=Lw hl;exact{_,M,M},(.cons M .nil)}
  |exact{{21,by kernel_rfl},∅,∅}
  |exact{{_,_,_,_,_,_,_,_,_,_,_,_,_,_,{_}},{[],M},(by kernel_rfl),(by kernel_rfl),(by kernel_rfl),(by kernel_rfl)}
  |exact(by kernel_rfl)
def walk{l:PySem.W.OpenLaw}{q:Mc}{loose:Mf}{XP:(Str->Option Value)->Heap->Prop}{d:DefRec}{K:Params->J4}(S:l.most=some 63)(I:d.params.defaults=[])
  (U:∀(w:World)(h:Heap),YP w h->(K w.params).In h) (hd:d.name="law")
  (F:∀(w:World)(mg:Str->Option Value)(h:Heap),(K w.params).In h->h.Ns mainGlobals mg->∃t,Txt (K w.params) mg t w):
  PySem.W.WalkO q loose XP YP l.row.toRowW d [] (λf vs=>PySem.call f vs):=by
 refine L2.walk_of (n:=63) (k:=13) (x:=mu) (CX:=λ_=>JT) (sp:=λw=>Cm<|K w.params) S (_) I {M,(_),(_)} U (λw mg fa h Y G O=>?_) (λ_ _ a ns hl _ Z=>{a,ns,M,Z,hl,λ_=>M}) λ_ _ _ _ _ z=>z;let{t,T}:=F w mg h Y G;have e:=O.symm.trans ((XB mg hd).trans T.Jo);cases e;let{oc,od,kV,a0,pm,an,a1,ct,a2,e1,lk,a3}:=T.Ji.ex;refine{t.zS,λs u=>?_,λbase _ _=>Hc T};rw[e1];exact .of_eq M
end SW
open PySem PySem.W PyProof.Rows
set_option maxRecDepth 100000 in
set_option maxHeartbeats 0 in
theorem PySem.Challenge.cw_staywalk_k75_nine_refusals_holds : PySem.Challenge.rw_staywalk_k75_nine_refusals.Holds := by
 w_on
 refine holds_law ZK.said λsaid=>?_;refine holds_open (q:=ZK.q) (loose:=ZK.L) (Xt:=λs=>xlAt ZK.q [] s&&recOk (RowW.records<|OpenRow.toRowW<|OpenLaw.row PySem.Challenge.rw_staywalk_k75_nine_refusals) s) (XP:=XL ZK.q []) (Yf:=Hook.obs ZK.H) (Ya:=Hook.val ZK.H) (YP:=Hook.says ZK.H) ZK.left (Hook.of ZK.H) (Hook.keeps ZK.H) (λs e=>xl_of s (Bool.and_eq_true_iff.mp e).1) XL.keeps {_} {_} {_} (λs e=>recFacts_of (Bool.and_eq_true_iff.mp e).2) {_} (by first|assumption|decide+kernel) ∅ ⟨M,M,M,M,M,∅⟩ ?hw ?hc
 (case hw=>w_witness2)
 exact SW.walk (l:=PySem.Challenge.rw_staywalk_k75_nine_refusals) M M (λw h Y=>kIn_of Y) M λw mg h KX G=>⟨_,SW.txt KX G⟩
#print axioms PySem.Challenge.cw_staywalk_k75_nine_refusals_holds
